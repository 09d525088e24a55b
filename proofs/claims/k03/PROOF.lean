import PyProof.Rows.All
import Wide.All
import OpenK.AllK
import Wide.FinOn
import PySem.Challenge.RW_lotbook_k03_used_from_the_first
import HandS.ForExc
import HandS.Wide
import HandS.IsInst
import HandS.ExcIs
import HandS.Codes
import HandS.Comp
import HandS.EndBits
set_option Elab.async false
set_option linter.all false
set_option maxRecDepth 100000
set_option maxHeartbeats 4000000
/-! The mathematics of sharing out by weights, in plain Lean. -/
namespace Lb
/-- the bits that numbers of the program stay below -/
def bB : Nat := 8000
/-- what a draw gives: the rests, one by one -/
def drawnL : Int → List Int → List Int
  | _, [] => []
  | c, s :: r => c % s :: drawnL (c / s) r
def dropL : Int → List Int → Int
  | c, [] => c
  | c, s :: r => dropL (c / s) r
theorem dropL_snoc : ∀ (l : List Int) (c s : Int), dropL c (l ++ [s]) = dropL c l / s
  | [], _, _ => rfl
  | x :: r, c, s => dropL_snoc r (c / x) s
theorem drawnL_snoc : ∀ (l : List Int) (c s : Int), drawnL c (l ++ [s]) = drawnL c l ++ [dropL c l % s]
  | [], _, _ => rfl
  | x :: r, c, s => by
    show c % x :: drawnL (c / x) (r ++ [s]) = c % x :: (drawnL (c / x) r ++ [dropL (c / x) r % s])
    rw [drawnL_snoc r (c / x) s]
theorem drawnL_len : ∀ (l : List Int) (c : Int), (drawnL c l).length = l.length
  | [], _ => rfl
  | x :: r, c => by
    show (drawnL (c / x) r).length + 1 = r.length + 1
    rw [drawnL_len r]
/-- the parts: what all ahead get together, taken from what it and all ahead get -/
def dueL (c w : Int) : Int → List Int → List Int
  | _, [] => []
  | a, x :: r => (c * (a + x) / w - c * a / w) :: dueL c w (a + x) r
theorem dueL_len (c w : Int) : ∀ (l : List Int) (a : Int), (dueL c w a l).length = l.length
  | [], _ => rfl
  | x :: r, a => by
    show (dueL c w (a + x) r).length + 1 = r.length + 1
    rw [dueL_len c w r]
theorem dueL_snoc (c w : Int) : ∀ (l : List Int) (a x : Int), dueL c w a (l ++ [x]) = dueL c w a l ++ [c * (a + l.sum + x) / w - c * (a + l.sum) / w]
  | [], a, x => by
    show [c * (a + x) / w - c * a / w] = [c * (a + ([] : List Int).sum + x) / w - c * (a + ([] : List Int).sum) / w]
    simp
  | y :: r, a, x => by
    show (c * (a + y) / w - c * a / w) :: dueL c w (a + y) (r ++ [x]) = (c * (a + y) / w - c * a / w) :: (dueL c w (a + y) r ++ [c * (a + (y :: r).sum + x) / w - c * (a + (y :: r).sum) / w])
    rw [dueL_snoc c w r (a + y) x, List.sum_cons, Int.add_assoc a y r.sum]
theorem take_snoc {α : Type} {l : List α} {i : Nat} {x : α} (h : l[i]? = some x) : l.take (i + 1) = l.take i ++ [x] := by
  rw [List.take_add_one, h]
  rfl
theorem sum_snoc (l : List Int) (x : Int) : (l ++ [x]).sum = l.sum + x := by
  rw [List.sum_append, List.sum_cons, List.sum_nil, Int.add_zero]
theorem sum_nonneg : ∀ {l : List Int}, (∀ x ∈ l, 0 ≤ x) → 0 ≤ l.sum
  | [], _ => Int.le_refl 0
  | x :: r, h => by
    have h1 := h x List.mem_cons_self
    have h2 := sum_nonneg (l := r) fun y hy => h y (List.mem_cons_of_mem _ hy)
    rw [List.sum_cons]
    omega
theorem sum_take_le {l : List Int} (h : ∀ x ∈ l, 0 ≤ x) (i : Nat) : 0 ≤ (l.take i).sum ∧ (l.take i).sum ≤ l.sum := by
  have h1 := sum_nonneg (l := l.take i) fun y hy => h y (List.mem_of_mem_take hy)
  have h2 := sum_nonneg (l := l.drop i) fun y hy => h y (List.mem_of_mem_drop hy)
  have e : l.sum = (l.take i).sum + (l.drop i).sum := by
    rw [← List.sum_append, List.take_append_drop]
  omega
theorem sum_le_of : ∀ {l : List Int} {b : Int}, (∀ x ∈ l, x ≤ b) → l.sum ≤ l.length * b
  | [], b, _ => by simp
  | x :: r, b, h => by
    have h1 := h x List.mem_cons_self
    have h2 := sum_le_of (l := r) (b := b) fun y hy => h y (List.mem_cons_of_mem _ hy)
    rw [List.sum_cons, List.length_cons]
    have e : ((r.length + 1 : Nat) : Int) * b = (r.length : Int) * b + b := by
      rw [Int.natCast_add, Int.add_mul]
      simp
    omega
/-- a weight, from its cell -/
def wgt (m c : Int) : Int := if c % 3 = 0 then 0 else if c % 3 = 1 then c / 3 % 10 else if c / 3 % 2 = 0 then c / 6 % 10 ^ 12 else c / 6 % m
theorem wgt_lt {m c : Int} (h0 : 10 ^ 12 ≤ m) : 0 ≤ wgt m c ∧ wgt m c < m := by
  have hm : (10 : Int) ^ 12 = 1000000000000 := by decide
  rw [hm] at h0
  unfold wgt
  rw [hm]
  split
  · omega
  · split
    · omega
    · split
      · omega
      · exact ⟨Int.emod_nonneg _ (by omega), Int.emod_lt_of_pos _ (by omega)⟩
/-- the cell at k of the script, nought beyond -/
def cellAt (ns : List Int) (k : Nat) : Int := ns.getD k 0
theorem cellAt_in {ns : List Int} {k : Nat} (h : k < ns.length) : ns[k]? = some (cellAt ns k) := by
  unfold cellAt
  rw [List.getD_eq_getElem?_getD, List.getElem?_eq_getElem h]
  rfl
theorem cellAt_out {ns : List Int} {k : Nat} (h : ¬ k < ns.length) : cellAt ns k = 0 := by
  unfold cellAt
  rw [List.getD_eq_getElem?_getD, List.getElem?_eq_none (by omega)]
  rfl
/-- the weights of a script -/
def wgtsOf (m : Int) (ns : List Int) (n : Nat) : List Int := (List.range n).map fun k => wgt m (cellAt ns (2 + k % 8) + 31 * ((k / 8 : Nat) : Int))
theorem wgtsOf_snoc (m : Int) (ns : List Int) (n : Nat) : wgtsOf m ns (n + 1) = wgtsOf m ns n ++ [wgt m (cellAt ns (2 + n % 8) + 31 * ((n / 8 : Nat) : Int))] := by
  unfold wgtsOf
  rw [List.range_succ, List.map_append]
  rfl
theorem wgtsOf_len (m : Int) (ns : List Int) (n : Nat) : (wgtsOf m ns n).length = n := by
  unfold wgtsOf
  rw [List.length_map, List.length_range]
theorem wgtsOf_lt {m : Int} (h0 : 10 ^ 12 ≤ m) (ns : List Int) (n : Nat) : ∀ x ∈ wgtsOf m ns n, 0 ≤ x ∧ x < m := by
  intro x hx
  unfold wgtsOf at hx
  obtain ⟨k, _, rfl⟩ := List.mem_map.mp hx
  exact wgt_lt h0
end Lb

namespace Lb
theorem dueL_get (c w : Int) : ∀ (l : List Int) (a : Int) (i : Nat) (z : Int), l[i]? = some z → (dueL c w a l)[i]? = some (c * (a + (l.take i).sum + z) / w - c * (a + (l.take i).sum) / w)
  | [], _, _, _, h => by simp at h
  | x :: r, a, 0, z, h => by
    have e : x = z := Option.some.inj h
    subst e
    show some (c * (a + x) / w - c * a / w) = some (c * (a + ([] : List Int).sum + x) / w - c * (a + ([] : List Int).sum) / w)
    rw [List.sum_nil, Int.add_zero]
  | x :: r, a, i + 1, z, h => by
    have ih := dueL_get c w r (a + x) i z h
    show (dueL c w (a + x) r)[i]? = _
    rw [ih]
    show _ = some (c * (a + (x :: r.take i).sum + z) / w - c * (a + (x :: r.take i).sum) / w)
    rw [List.sum_cons, Int.add_assoc a x]
theorem share_near {c W A w : Int} (hW : 0 < W) : -W < (c * (A + w) / W - c * A / W) * W - c * w ∧ (c * (A + w) / W - c * A / W) * W - c * w < W := by
  have h1 := Int.ediv_mul_le (c * (A + w)) (show W ≠ 0 by omega)
  have h2 := Int.lt_ediv_add_one_mul_self (c * (A + w)) hW
  have h3 := Int.ediv_mul_le (c * A) (show W ≠ 0 by omega)
  have h4 := Int.lt_ediv_add_one_mul_self (c * A) hW
  rw [Int.add_mul, Int.one_mul] at h2 h4
  rw [Int.sub_mul]
  have e : c * (A + w) = c * A + c * w := Int.mul_add c A w
  generalize c * (A + w) / W * W = p at *
  generalize c * A / W * W = q at *
  rw [e] at h1 h2
  generalize c * A = x at *
  generalize c * w = y at *
  omega
theorem share_down {c W A : Int} (hW : 0 < W) : -W < c * A / W * W - c * A ∧ c * A / W * W - c * A ≤ 0 := by
  have h3 := Int.ediv_mul_le (c * A) (show W ≠ 0 by omega)
  have h4 := Int.lt_ediv_add_one_mul_self (c * A) hW
  rw [Int.add_mul, Int.one_mul] at h4
  omega
theorem share_mono {c W A B : Int} (hc : 0 ≤ c) (hW : 0 < W) (h : A ≤ B) : c * A / W ≤ c * B / W :=
  Int.ediv_le_ediv hW (Int.mul_le_mul_of_nonneg_left h hc)
theorem share_all {c W : Int} (hW : 0 < W) : c * W / W = c := Int.mul_ediv_cancel c (by omega)
theorem share_none {c W : Int} : c * 0 / W = 0 := by rw [Int.mul_zero, Int.zero_ediv]
theorem share_le {c W A : Int} (hc : 0 ≤ c) (hW : 0 < W) (h0 : 0 ≤ A) (h : A ≤ W) : 0 ≤ c * A / W ∧ c * A / W ≤ c := by
  have h1 := share_mono (A := 0) (B := A) hc hW h0
  have h2 := share_mono (A := A) (B := W) hc hW h
  rw [share_none] at h1
  rw [share_all hW] at h2
  exact ⟨h1, h2⟩
theorem set_zero_len (l : List Int) (y : Int) : (l.set 0 y).length = l.length := List.length_set
theorem sum_first : ∀ {l : List Int} {z : Int}, l[0]? = some z → (∀ x ∈ l, 0 ≤ x) → z ≤ l.sum
  | [], _, h, _ => by simp at h
  | x :: r, z, h, h0 => by
    have e : x = z := Option.some.inj h
    have h2 := sum_nonneg (l := r) fun y hy => h0 y (List.mem_cons_of_mem _ hy)
    rw [List.sum_cons]
    omega
end Lb

namespace Lb
open PySem PySem.Spec PyProof.Rows L2
/-! ### words for the whole -/
section
variable {P : Program} {w : World} {K : PySem.W.Frag} {mg : Str → Option Value} {base : Heap}
/-- a def of the module as the top leaves it -/
structure Dn (K : PySem.W.Frag) (mg : Str → Option Value) (x : Str) (st : Stmt) (ps : List Str) (f : Addr) (fd : FuncData) : Prop where
  F : Fun K x x st f fd
  g : mg x = some (.ref f)
  b : Binds K fd ps []
/-- a def that may be called by its name -/
structure Fd (P : Program) (w : World) (K : PySem.W.Frag) (mg : Str → Option Value) (base : Heap) (CX : CXT) (k : Nat) (x : Str) (sp : Sp) : Prop where
  ex : ∃ (f : Addr) (fd : FuncData) (ps : List Str), FnOk P w K mg base CX k f fd ps sp ∧ mg x = some (.ref f) ∧ PySem.W.keepIn K (.ref f) = true ∧ Binds K fd ps []
theorem Dn.fd {x : Str} {st : Stmt} {ps : List Str} {f : Addr} {fd : FuncData} {CX : CXT} {k : Nat} {sp : Sp} (D : Dn K mg x st ps f fd) (F : FnOk P w K mg base CX k f fd ps sp) : Fd P w K mg base CX k x sp :=
  ⟨f, fd, ps, F, D.g, D.F.kp, D.b⟩
end
section
variable {X : Cx} {k j : Nat} {x : Str} {sp : Sp} {p pos : Pos} {e : Expr} {es : List Expr} {t : TA}
theorem pe_cl (c : Fd X.prog X.w X.K X.mg X.base CX0 k x sp) (hr : Room j X.A) (ha : PA X (e :: es) t) (hk : k ≤ j := by decide) (hg : Gl X x := by rfl) (hdb : (x == ("__debug__" : Str)) = false := by decide)
    (he : starEach (e :: es) X.env = (false, eval e X.env) :: starEach es X.env := by rfl) (hpl : (backTo pos (starEach es X.env)).any (·.1) = false := by rfl) :
    PE X (.Call (.Name x p) (e :: es) [] pos) (tCall sp [] E0 t) := by
  obtain ⟨f, fd, ps, F, hm, kp, b⟩ := c.ex
  exact pe_call F (hr.mono hk) hg hm kp b .nil pass0 ha hdb he hpl
theorem pe_clS {E : L2.St → XK} (c : Fd X.prog X.w X.K X.mg X.base (L2.CX X.prog X.w) k x sp) (hr : Room j X.A) (hx : ∀ σ, PassesAt (L2.CX X.prog X.w) X σ (E σ)) (ha : PA X (e :: es) t) (hk : k ≤ j := by decide) (hg : Gl X x := by rfl) (hdb : (x == ("__debug__" : Str)) = false := by decide)
    (he : starEach (e :: es) X.env = (false, eval e X.env) :: starEach es X.env := by rfl) (hpl : (backTo pos (starEach es X.env)).any (·.1) = false := by rfl) :
    PE X (.Call (.Name x p) (e :: es) [] pos) (tCallS sp E t) := by
  obtain ⟨f, fd, ps, F, hm, kp, b⟩ := c.ex
  exact pe_callS F (hr.mono hk) hg hm kp b hx ha hdb he hpl
/-- a statement that stands where something is known -/
def tWhen (p : Prop) (t : TS) : TS := fun D σ H => p ∧ t D σ H
theorem pss_when {p : Prop} {l : List Stmt} {t : TS} (h : p → PSs X l t) : PSs X l (tWhen p t) := ⟨fun pins s σ H D I q => (h q.1).run pins s σ H D I q.2⟩
end
/-! ### heaps -/
theorem same_upd {H : Hp} {p : Addr} {o : HO} (h : H p = none) : Same H (upd H p o) := fun b x e => by
  rw [upd_ne (ne_of_none e h)]
  exact e
theorem same_mut {H H' : Hp} {p : Addr} {o : HO} (e : Same H H') (h : H p = none) : Same H (upd H' p o) := fun b x q => by
  rw [upd_ne (ne_of_none q h)]
  exact e b x q
theorem if_true_of {c : Bool} {A B : Prop} (hc : c = true) (h : A) : if c = true then A else B := by
  rw [if_pos hc]
  exact h
theorem if_false_of {c : Bool} {A B : Prop} (hc : c = false) (h : B) : if c = true then A else B := by
  rw [hc, if_neg Bool.false_ne_true]
  exact h
theorem item_int {ns : List Int} {i : Nat} {y : V} (h : (ns.map V.int)[i]? = some y) : ∃ z, ns[i]? = some z ∧ y = V.int z := by
  rw [List.getElem?_map] at h
  cases e : ns[i]? with
  | none =>
    rw [e] at h
    cases h
  | some z =>
    rw [e] at h
    exact ⟨z, rfl, (Option.some.inj h).symm⟩
theorem at_int {ns : List Int} {i : Nat} {z : Int} (h : ns[i]? = some z) : atI (ns.map V.int) (i : Int) = some (V.int z) := atI_nat (by rw [List.getElem?_map, h]; rfl)
theorem dp_ints {K : PySem.W.Frag} {H : Hp} : ∀ ns : List Int, DpAll K H (ns.map V.int) (ns.map PyData.int)
  | [] => .nil
  | n :: r => .cons (.int n) (dp_ints r)
theorem eqv_ints : ∀ ns ms : List Int, PyData.eqvAll (ns.map PyData.int) (ms.map PyData.int) = decide (ns = ms)
  | [], [] => rfl
  | [], m :: s => rfl
  | n :: r, [] => rfl
  | n :: r, m :: s => by
    show (PyData.eqv (.int n) (.int m) && PyData.eqvAll (r.map PyData.int) (s.map PyData.int)) = _
    rw [eqv_ints r s]
    show ((n == m) && decide (r = s)) = _
    by_cases h1 : n = m
    · by_cases h2 : r = s
      · simp [h1, h2]
      · simp [h1, h2]
    · simp [h1]
theorem sh_lay : ∀ ns : List Int, PyData.canLayAll0 (ns.map PyData.int) = true
  | [] => rfl
  | n :: r => by
    show (PyData.canLay0 (.int n) && PyData.canLayAll0 (r.map PyData.int)) = true
    rw [sh_lay r]
    rfl
theorem sh_depth : ∀ ns : List Int, PyData.depthAll (ns.map PyData.int) = 0
  | [] => rfl
  | n :: r => by
    show max (PyData.depth (.int n)) (PyData.depthAll (r.map PyData.int)) = 0
    rw [sh_depth r]
    rfl
theorem sh_ints (ns : List Int) : SeqAt.shaped (.list (ns.map PyData.int)) = true := by
  unfold SeqAt.shaped
  show (PyData.canLayAll0 (ns.map PyData.int) && decide (PyData.depthAll (ns.map PyData.int) + 1 ≤ 64)) = true
  rw [sh_lay, sh_depth]
  rfl
/-- two lists of whole numbers, compared -/
theorem ne_ints {K : PySem.W.Frag} {H : Hp} {a b : Addr} {ns ms : List Int} {Q : VK} (ha : SqL K H a (ns.map V.int)) (hb : SqL K H b (ms.map V.int)) (q : Q (.bl (!decide (ns = ms))) H) : rNeD K (.ref a) (.ref b) H Q := by
  refine ⟨.list (ns.map PyData.int), .list (ms.map PyData.int), .lst ha (dp_ints ns), .lst hb (dp_ints ms), sh_ints _, sh_ints _, ?_⟩
  have e : PyData.eqv (.list (ns.map PyData.int)) (.list (ms.map PyData.int)) = decide (ns = ms) := eqv_ints ns ms
  rw [e]
  exact q
end Lb
namespace Lb
open PySem PySem.Spec PyProof.Rows L2
theorem kit_ref_ty {K : PySem.W.Frag} {C : Addr} {T : String} {b : Bool} (hm : PySem.W.kitMeta T = true) (h : PySem.W.subIn K (.ref C) (.type T) = some b) : PySem.W.kitOne K (.ref C) (.type T) = some b := by
  unfold PySem.W.kitOne
  have e : ((Value.ref C) == (Value.type T)) = false := by
    cases q : ((Value.ref C) == (Value.type T)) with
    | false => rfl
    | true => exact nomatch (beq_iff_eq.mp q)
  rw [e, if_neg Bool.false_ne_true]
  show (if PySem.W.kitMeta T = true then PySem.W.subIn K (.ref C) (.type T) else none) = some b
  rw [if_pos hm]
  exact h
end Lb
namespace Lb
open PySem PySem.Spec PyProof.Rows L2
section
variable {X : Cx} {k j : Nat} {x : Str} {sp : Sp} {p pos : Pos} {e : Expr} {es : List Expr} {t : TA}
/-- a call of a def that may raise, where it does not -/
theorem pe_clL (c : Fd X.prog X.w X.K X.mg X.base (L2.CX X.prog X.w) k x sp) (hr : Room j X.A) (ha : PA X (e :: es) t) (hk : k ≤ j := by decide) (hg : Gl X x := by rfl) (hdb : (x == ("__debug__" : Str)) = false := by decide)
    (he : starEach (e :: es) X.env = (false, eval e X.env) :: starEach es X.env := by rfl) (hpl : (backTo pos (starEach es X.env)).any (·.1) = false := by rfl) :
    PE X (.Call (.Name x p) (e :: es) [] pos) (tCall sp [] E0 t) := by
  obtain ⟨f, fd, ps, F, hm, kp, b⟩ := c.ex
  exact pe_call F (hr.mono hk) hg hm kp b .nil passL ha hdb he hpl
end
end Lb

namespace Lb
open PySem PySem.Spec PyProof.Rows L2
/-! ### greater products -/
def CMulX (i j : Int) : Prop := i.natAbs.log2 + j.natAbs.log2 < 100000000
theorem CMulX.ok {i j : Int} (h : CMulX i j) : IntMulOk i j := by
  have b : ∀ x : Int, Builtin.Int.intBits x ≤ x.natAbs.log2 + 1 := fun x => by
    unfold Builtin.Int.intBits
    split <;> omega
  have h1 := b i
  have h2 := b j
  have h3 : i.natAbs.log2 + j.natAbs.log2 < 100000000 := h
  have e : bitsLine = 134217728 := by decide
  unfold IntMulOk
  intro z
  rw [Bool.and_eq_true] at z
  have z2 := z.2
  unfold Builtin.Int.intTooBig at z2
  have z3 := of_decide_eq_true z2
  rw [e] at z3
  omega
theorem op_mulX {X : Cx} : OpR X (binaryOp .Mult) (rI CMulX fun i j => .int (i * j)) := opI fun _ _ _ _ _ _ _ hc q => mul_int q hc.ok
theorem mulX {i j : Int} {a b : Nat} (ha : i.natAbs < 2 ^ a) (hb : j.natAbs < 2 ^ b) (h0 : 0 < a) (h1 : 0 < b) (h : a + b ≤ 100000000) : CMulX i j := by
  have x := PySem.Flt.log2_lt_of h0 ha
  have y := PySem.Flt.log2_lt_of h1 hb
  unfold CMulX
  omega
theorem abs_add {i j : Int} {a b n : Nat} (ha : i.natAbs < 2 ^ a) (hb : j.natAbs < 2 ^ b) (h1 : a + 1 ≤ n) (h2 : b + 1 ≤ n) : (i + j).natAbs < 2 ^ n := by
  have e1 : 2 ^ (a + 1) ≤ 2 ^ n := Nat.pow_le_pow_right (by decide) h1
  have e2 : 2 ^ (b + 1) ≤ 2 ^ n := Nat.pow_le_pow_right (by decide) h2
  have e3 : 2 ^ (a + 1) = 2 ^ a * 2 := Nat.pow_succ 2 a
  have e4 : 2 ^ (b + 1) = 2 ^ b * 2 := Nat.pow_succ 2 b
  have e5 := Int.natAbs_add_le i j
  generalize 2 ^ (a + 1) = A at *
  generalize 2 ^ (b + 1) = B at *
  generalize 2 ^ a = A' at *
  generalize 2 ^ b = B' at *
  generalize 2 ^ n = N at *
  omega
theorem abs_bits {i : Int} {n : Nat} (h : Builtin.Int.intBits i ≤ n) : i.natAbs < 2 ^ n := by
  unfold Builtin.Int.intBits at h
  split at h
  · rename_i e
    have e' : i.natAbs = 0 := by simpa using e
    rw [e']
    exact Nat.two_pow_pos n
  · rename_i e
    have e' : i.natAbs ≠ 0 := by simpa using e
    exact (Nat.log2_lt e').mp (by omega)
theorem abs_lit {c m : Int} {n : Nat} (h0 : 0 ≤ c) (h1 : c < m) (hm : m.toNat ≤ 2 ^ n) : c.natAbs < 2 ^ n := by
  have : c.natAbs < m.toNat := by omega
  exact Nat.lt_of_lt_of_le this hm
/-! ### lists of tuples -/
structure Lot where
  day : Int
  cnt : Int
  cost : Int
deriving DecidableEq
def lotV (l : Lot) : List V := [.int l.day, .int l.cnt, .int l.cost]
/-- at a a list of tuples that stand for xs -/
def TpA {α : Type} (f : α → List V) (H : Hp) (a : Addr) (xs : List α) : Prop :=
  ∃ ts : List Addr, H a = some (.lst (ts.map V.ref)) ∧ ts.length = xs.length ∧ ∀ (i : Nat) t x, ts[i]? = some t → xs[i]? = some x → H t = some (.tup (f x))
theorem TpA.same {α : Type} {f : α → List V} {H H' : Hp} {a : Addr} {xs : List α} (h : TpA f H a xs) (s : Same H H') : TpA f H' a xs := by
  obtain ⟨ts, h1, h2, h3⟩ := h
  exact ⟨ts, s _ _ h1, h2, fun i t x ht hx => s _ _ (h3 i t x ht hx)⟩
theorem TpA.sq {α : Type} {f : α → List V} {H : Hp} {a : Addr} {xs : List α} (h : TpA f H a xs) : ∃ ts : List Addr, ts.length = xs.length ∧ H a = some (.lst (ts.map V.ref)) ∧ ∀ (i : Nat) t x, ts[i]? = some t → xs[i]? = some x → H t = some (.tup (f x)) := by
  obtain ⟨ts, h1, h2, h3⟩ := h
  exact ⟨ts, h2, h1, h3⟩
theorem TpA.nil {α : Type} {f : α → List V} {H : Hp} {a : Addr} (h : H a = some (.lst [])) : TpA f H a [] := ⟨[], h, rfl, fun i t x ht _ => by simp at ht⟩
/-- a tuple more, at a list that is written -/
theorem TpA.snoc {α : Type} {f : α → List V} {H H' : Hp} {a t : Addr} {xs : List α} {x : α} (h : TpA f H a xs) (sm : ∀ b o, b ≠ a → H b = some o → H' b = some o) (ht : H' t = some (.tup (f x))) {l : List V} (hl : H a = some (.lst l)) (ha : H' a = some (.lst (l ++ [.ref t]))) : TpA f H' a (xs ++ [x]) := by
  obtain ⟨ts, h1, h2, h3⟩ := h
  have el : l = ts.map V.ref := by
    rw [h1] at hl
    cases hl
    rfl
  subst el
  refine ⟨ts ++ [t], by rw [ha, List.map_append]; rfl, by rw [List.length_append, List.length_append, h2]; rfl, fun i t' x' ht' hx' => ?_⟩
  by_cases hi : i < ts.length
  · rw [List.getElem?_append_left hi] at ht'
    rw [List.getElem?_append_left (by omega)] at hx'
    have q := h3 i t' x' ht' hx'
    exact sm _ _ (fun e => by rw [e, h1] at q; cases q) q
  · rw [List.getElem?_append_right (by omega)] at ht'
    rw [List.getElem?_append_right (by omega)] at hx'
    have hi0 : i - ts.length = 0 := by
      cases hh : i - ts.length with
      | zero => rfl
      | succ n => rw [hh] at ht'; simp at ht'
    rw [hi0] at ht'
    rw [show i - xs.length = 0 by omega] at hx'
    cases Option.some.inj ht'
    cases Option.some.inj hx'
    exact ht
/-! ### comprehensions over a list, over a tuple -/
section
variable {K : PySem.W.Frag} {a D : Addr} {xs : List V} {g : TG} {te : TE} {vs : List Nat} {σ : L2.St} {H1 : Hp} {Qd : Hp → Prop}
theorem lc_yes {g : TG} {te : TE} {vs : List Nat} {σ : L2.St} {x : V} {H : Hp} {Z : V → Hp → Prop} {N : Hp → Prop} (h : g x (wipe σ vs) H fun σ2 H2 => wipe σ2 vs = wipe σ vs ∧ te σ2 H2 Z) :
    g x (wipe σ vs) H fun σ2 H2 => wipe σ2 vs = wipe σ vs ∧ tYes σ2 H2 fun b H3 => if b = true then te σ2 H3 Z else N H3 := by
  have e : (fun σ2 H2 => wipe σ2 vs = wipe σ vs ∧ tYes σ2 H2 fun b H3 => if b = true then te σ2 H3 Z else N H3) = (fun σ2 H2 => wipe σ2 vs = wipe σ vs ∧ te σ2 H2 Z) := by
    funext σ2 H2
    show (wipe σ2 vs = wipe σ vs ∧ (if true = true then te σ2 H2 Z else N H2)) = _
    rw [if_pos rfl]
  rw [e]
  exact h
/-- what a comprehension's list holds behind i turns -/
def LcP (xs : List V) (R : V → V → Hp → Prop) (H1 : Hp) (D : Addr) (i : Nat) (H : Hp) : Prop :=
  Same H1 H ∧ ∃ ys, H D = some (.lst ys) ∧ ys.length = i ∧ ∀ (j : Nat) x y, xs[j]? = some x → ys[j]? = some y → R x y H
theorem LcP.more {xs : List V} {R : V → V → Hp → Prop} {H1 : Hp} {D : Addr} (nD : H1 D = none) (hlen : xs.length ≤ sizeLine)
    (mono : ∀ x y H H', (∃ l, H D = some (.lst l)) → (∀ b o, b ≠ D → H b = some o → H' b = some o) → R x y H → R x y H') {i : Nat} {x : V} {H H4 : Hp} (hi : xs[i]? = some x) (p : LcP xs R H1 D i H) {y : V} (sm : Same H H4) (r : R x y H4) :
    ∃ acc, H4 D = some (.lst acc) ∧ acc.length < sizeLine ∧ LcP xs R H1 D (i + 1) (upd H4 D (.lst (acc ++ [y]))) := by
  obtain ⟨s0, ys, h1, h2, h3⟩ := p
  have hil := (List.getElem?_eq_some_iff.mp hi).1
  have mv : ∀ b o, b ≠ D → H4 b = some o → (upd H4 D (.lst (ys ++ [y]))) b = some o := fun b o hb e => by rw [upd_ne hb]; exact e
  refine ⟨ys, sm _ _ h1, by omega, fun b o e => ?_, ys ++ [y], upd_same, by rw [List.length_append, h2]; rfl, fun j x' y' hx hy => ?_⟩
  · rw [upd_ne (ne_of_none e nD)]
    exact sm _ _ (s0 b o e)
  · by_cases hj : j < ys.length
    · rw [List.getElem?_append_left hj] at hy
      exact mono _ _ _ _ ⟨_, sm _ _ h1⟩ mv (mono _ _ _ _ ⟨_, h1⟩ (fun b o _ e => sm b o e) (h3 j x' y' hx hy))
    · rw [List.getElem?_append_right (by omega)] at hy
      have hj0 : j - ys.length = 0 := by
        cases hh : j - ys.length with
        | zero => rfl
        | succ n => rw [hh] at hy; simp at hy
      rw [hj0] at hy
      have ej : j = i := by omega
      subst ej
      rw [hi] at hx
      cases hx
      cases Option.some.inj hy
      exact mono _ _ _ _ ⟨_, sm _ _ h1⟩ mv r
theorem lc_to (R : V → V → Hp → Prop) (hS : SqL K H1 a xs) (nD : H1 D = none) (hlen : xs.length ≤ sizeLine)
    (mono : ∀ x y H H', (∃ l, H D = some (.lst l)) → (∀ b o, b ≠ D → H b = some o → H' b = some o) → R x y H → R x y H')
    (turn : ∀ (i : Nat) (x : V) (H : Hp) (Z : V → Hp → Prop), xs[i]? = some x → Same H1 H → (∃ l, H D = some (.lst l)) → (∀ y H4, Same H H4 → R x y H4 → Z y H4) → g x (wipe σ vs) H fun σ2 H2 => wipe σ2 vs = wipe σ vs ∧ te σ2 H2 Z)
    (done : ∀ H' ys, Same H1 H' → H' D = some (.lst ys) → ys.length = xs.length → (∀ (j : Nat) x y, xs[j]? = some x → ys[j]? = some y → R x y H') → Qd H') :
    ∃ W : Nat → Nat → Hp → Prop, (∃ m, W 0 m (upd H1 D (.lst []))) ∧ ∀ i m H, W i m H →
      ((Itl K a).stop i H ∧ Qd H) ∨ ((Itl K a).go i H ∧ ∃ Nx : Hp → Prop, (∀ H', Nx H' → ∃ m', m' < m ∧ W (i + 1) m' H') ∧ ∀ x H', (Itl K a).yld i H x H' → g x (wipe σ vs) H' fun σ2 H2 => wipe σ2 vs = wipe σ vs ∧ tYes σ2 H2 fun b H3 =>
        if b = true then te σ2 H3 fun y H4 => ∃ acc, H4 D = some (.lst acc) ∧ acc.length < sizeLine ∧ Nx (upd H4 D (.lst (acc ++ [y]))) else Nx H3) := by
  refine lc_list (K := K) (a := a) (xs := xs) (LcP xs R H1 D) ⟨same_upd nD, [], upd_same, rfl, fun j x y hx hy => by simp at hy⟩ (fun i H _ p => p.1.seq hS) (fun i x H hi p => ?_) (fun H p => ?_)
  · obtain ⟨s0, ys, h1, _⟩ := id p
    exact lc_yes (turn i x H _ hi s0 ⟨ys, h1⟩ fun y H4 sm r => LcP.more nD hlen mono hi p sm r)
  · obtain ⟨s0, ys, h1, h2, h3⟩ := p
    exact done H ys s0 h1 h2 h3
theorem lcT_to (R : V → V → Hp → Prop) (hS : SqT K H1 a xs) (nD : H1 D = none) (hlen : xs.length ≤ sizeLine)
    (hst : ∀ H, Same H1 H → SqT K H a xs)
    (mono : ∀ x y H H', (∃ l, H D = some (.lst l)) → (∀ b o, b ≠ D → H b = some o → H' b = some o) → R x y H → R x y H')
    (turn : ∀ (i : Nat) (x : V) (H : Hp) (Z : V → Hp → Prop), xs[i]? = some x → Same H1 H → (∃ l, H D = some (.lst l)) → (∀ y H4, Same H H4 → R x y H4 → Z y H4) → g x (wipe σ vs) H fun σ2 H2 => wipe σ2 vs = wipe σ vs ∧ te σ2 H2 Z)
    (done : ∀ H' ys, Same H1 H' → H' D = some (.lst ys) → ys.length = xs.length → (∀ (j : Nat) x y, xs[j]? = some x → ys[j]? = some y → R x y H') → Qd H') :
    ∃ W : Nat → Nat → Hp → Prop, (∃ m, W 0 m (upd H1 D (.lst []))) ∧ ∀ i m H, W i m H →
      ((Itt K a).stop i H ∧ Qd H) ∨ ((Itt K a).go i H ∧ ∃ Nx : Hp → Prop, (∀ H', Nx H' → ∃ m', m' < m ∧ W (i + 1) m' H') ∧ ∀ x H', (Itt K a).yld i H x H' → g x (wipe σ vs) H' fun σ2 H2 => wipe σ2 vs = wipe σ vs ∧ tYes σ2 H2 fun b H3 =>
        if b = true then te σ2 H3 fun y H4 => ∃ acc, H4 D = some (.lst acc) ∧ acc.length < sizeLine ∧ Nx (upd H4 D (.lst (acc ++ [y]))) else Nx H3) := by
  refine lc_tup (K := K) (a := a) (xs := xs) (LcP xs R H1 D) ⟨same_upd nD, [], upd_same, rfl, fun j x y hx hy => by simp at hy⟩ (fun i H _ p => hst H p.1) (fun i x H hi p => ?_) (fun H p => ?_)
  · obtain ⟨s0, ys, h1, _⟩ := id p
    exact lc_yes (turn i x H _ hi s0 ⟨ys, h1⟩ fun y H4 sm r => LcP.more nD hlen mono hi p sm r)
  · obtain ⟨s0, ys, h1, h2, h3⟩ := p
    exact done H ys s0 h1 h2 h3
end
theorem mono_pure {R : V → V → Prop} {D : Addr} : ∀ x y (H H' : Hp), (∃ l, H D = some (.lst l)) → (∀ b o, b ≠ D → H b = some o → H' b = some o) → (fun x y (_ : Hp) => R x y) x y H → (fun x y (_ : Hp) => R x y) x y H' := fun _ _ _ _ _ _ h => h
/-- lists that are alike place by place -/
theorem ext_get {α : Type} {l m : List α} (hl : l.length = m.length) (h : ∀ (j : Nat) x y, l[j]? = some x → m[j]? = some y → x = y) : l = m := by
  apply List.ext_getElem? 
  intro j
  by_cases hj : j < l.length
  · have h1 := List.getElem?_eq_getElem hj
    have h2 := List.getElem?_eq_getElem (show j < m.length by omega)
    rw [h1, h2, h j _ _ h1 h2]
  · rw [List.getElem?_eq_none (by omega), List.getElem?_eq_none (by omega)]
theorem same_seqT {K : PySem.W.Frag} {H H' : Hp} {a : Addr} {xs : List V} (e : Same H H') (h : SqT K H a xs) : SqT K H' a xs := by
  rcases h with (h | ⟨o, h⟩) | h
  · exact .inl (.inl (e _ _ h))
  · exact .inl (.inr ⟨o, e _ _ h⟩)
  · exact .inr h
end Lb

namespace Lb
open PySem PySem.Spec PyProof.Rows L2
/-- the bits of a script's cell -/
@[irreducible] def bS : Nat := 1048576
theorem bS_eq : bS = 1048576 := by unfold bS; rfl
def mixM (c k : Int) : Int := (c + 61 * k) * 1000003 ^ 5
def pick4 (i a b c d : Int) : Int := if i = 0 then a else if i = 1 then b else if i = 2 then c else d
theorem at_pick4 {i a b c d : Int} (h0 : 0 ≤ i) (h1 : i < 4) : atI [V.int a, V.int b, V.int c, V.int d] i = some (V.int (pick4 i a b c d)) := by
  have h : i = 0 ∨ i = 1 ∨ i = 2 ∨ i = 3 := by omega
  rcases h with h | h | h | h <;> (subst h; rfl)
theorem pick4_of {P : Int → Prop} {i a b c d : Int} (ha : P a) (hb : P b) (hc : P c) (hd : P d) : P (pick4 i a b c d) := by
  unfold pick4
  split
  · exact ha
  · split
    · exact hb
    · split
      · exact hc
      · exact hd
def cntM (c : Int) : Int := 1 + pick4 (c / 4 % 4) (c / 4 / 4 % 10) (12 * (c / 4 / 4 % 10) + 11) (c * 48271 ^ 7 % 10 ^ 12) (c * 69621 ^ 7 % (10 ^ 30 - 1))
def costM (c : Int) : Int := pick4 (c / 4 / 4 / 10 % 4) 0 (c / 4 / 4 / 10 / 4 % 12) (c * 16807 ^ 8 % 10 ^ 15) (c * 40692 ^ 8 % 10 ^ 30)
theorem cntM_lt (c : Int) : 1 ≤ cntM c ∧ cntM c < 10 ^ 30 := by
  have h : (fun x : Int => 0 ≤ x ∧ x < 10 ^ 30 - 1) (pick4 (c / 4 % 4) (c / 4 / 4 % 10) (12 * (c / 4 / 4 % 10) + 11) (c * 48271 ^ 7 % 10 ^ 12) (c * 69621 ^ 7 % (10 ^ 30 - 1))) := by
    have e : (10 : Int) ^ 30 - 1 = 999999999999999999999999999999 := by decide
    have e2 : (10 : Int) ^ 12 = 1000000000000 := by decide
    rw [e, e2]
    refine pick4_of ?_ ?_ ?_ ?_
    · show 0 ≤ c / 4 / 4 % 10 ∧ c / 4 / 4 % 10 < 999999999999999999999999999999
      omega
    · show 0 ≤ 12 * (c / 4 / 4 % 10) + 11 ∧ 12 * (c / 4 / 4 % 10) + 11 < 999999999999999999999999999999
      omega
    · show 0 ≤ c * 48271 ^ 7 % 1000000000000 ∧ c * 48271 ^ 7 % 1000000000000 < 999999999999999999999999999999
      generalize c * 48271 ^ 7 = x
      omega
    · show 0 ≤ c * 69621 ^ 7 % 999999999999999999999999999999 ∧ c * 69621 ^ 7 % 999999999999999999999999999999 < 999999999999999999999999999999
      generalize c * 69621 ^ 7 = x
      omega
  have h' : 0 ≤ pick4 (c / 4 % 4) (c / 4 / 4 % 10) (12 * (c / 4 / 4 % 10) + 11) (c * 48271 ^ 7 % 10 ^ 12) (c * 69621 ^ 7 % (10 ^ 30 - 1)) ∧ pick4 (c / 4 % 4) (c / 4 / 4 % 10) (12 * (c / 4 / 4 % 10) + 11) (c * 48271 ^ 7 % 10 ^ 12) (c * 69621 ^ 7 % (10 ^ 30 - 1)) < 10 ^ 30 - 1 := h
  unfold cntM
  omega
theorem costM_lt (c : Int) : 0 ≤ costM c ∧ costM c < 10 ^ 30 := by
  have e : (10 : Int) ^ 30 = 1000000000000000000000000000000 := by decide
  have e2 : (10 : Int) ^ 15 = 1000000000000000 := by decide
  have h : (fun x : Int => 0 ≤ x ∧ x < 10 ^ 30) (costM c) := by
    unfold costM
    rw [e, e2]
    refine pick4_of (P := fun x : Int => 0 ≤ x ∧ x < 1000000000000000000000000000000) ?_ ?_ ?_ ?_
    · show (0 : Int) ≤ 0 ∧ (0 : Int) < 1000000000000000000000000000000
      omega
    · show 0 ≤ c / 4 / 4 / 10 / 4 % 12 ∧ c / 4 / 4 / 10 / 4 % 12 < 1000000000000000000000000000000
      omega
    · show 0 ≤ c * 16807 ^ 8 % 1000000000000000 ∧ c * 16807 ^ 8 % 1000000000000000 < 1000000000000000000000000000000
      generalize c * 16807 ^ 8 = x
      omega
    · show 0 ≤ c * 40692 ^ 8 % 1000000000000000000000000000000 ∧ c * 40692 ^ 8 % 1000000000000000000000000000000 < 1000000000000000000000000000000
      generalize c * 40692 ^ 8 = x
      omega
  exact h
def lotCell (ns : List Int) (k : Nat) : Int := mixM (cellAt ns (2 + k % 6)) (k : Int)
def dayUp (ns : List Int) : Nat → Int
  | 0 => 0
  | n + 1 => dayUp ns n + lotCell ns n % 4
def lotsOf (ns : List Int) (n : Nat) : List Lot := (List.range n).map fun k => ⟨dayUp ns (k + 1), cntM (lotCell ns k), costM (lotCell ns k)⟩
theorem lotsOf_snoc (ns : List Int) (n : Nat) : lotsOf ns (n + 1) = lotsOf ns n ++ [⟨dayUp ns (n + 1), cntM (lotCell ns n), costM (lotCell ns n)⟩] := by
  unfold lotsOf
  rw [List.range_succ, List.map_append]
  rfl
theorem lotsOf_len (ns : List Int) (n : Nat) : (lotsOf ns n).length = n := by
  unfold lotsOf
  rw [List.length_map, List.length_range]
theorem dayUp_ge (ns : List Int) : ∀ n, 0 ≤ dayUp ns n ∧ dayUp ns n ≤ 3 * n
  | 0 => ⟨Int.le_refl 0, Int.le_refl 0⟩
  | n + 1 => by
    have ih := dayUp_ge ns n
    show 0 ≤ dayUp ns n + lotCell ns n % 4 ∧ dayUp ns n + lotCell ns n % 4 ≤ 3 * ((n + 1 : Nat) : Int)
    omega
/-- what is true of every lot of the law's own -/
structure LotOk (l : Lot) : Prop where
  d0 : 0 ≤ l.day
  d1 : l.day < 2 ^ 100
  c0 : 1 ≤ l.cnt
  c1 : l.cnt < 10 ^ 30
  k0 : 0 ≤ l.cost
  k1 : l.cost < 10 ^ 30
theorem lotsOf_ok (ns : List Int) {n : Nat} (hn : n ≤ 1000) : ∀ l ∈ lotsOf ns n, LotOk l := by
  intro l hl
  unfold lotsOf at hl
  obtain ⟨k, hk, rfl⟩ := List.mem_map.mp hl
  have hk' : k < n := List.mem_range.mp hk
  have h1 := cntM_lt (lotCell ns k)
  have h2 := costM_lt (lotCell ns k)
  have h3 := dayUp_ge ns (k + 1)
  have e : (2 : Int) ^ 100 = 1267650600228229401496703205376 := by decide
  exact ⟨h3.1, by show dayUp ns (k + 1) < 2 ^ 100; rw [e]; omega, h1.1, h1.2, h2.1, h2.2⟩
def lotI (l : Lot) : List Int := [l.day, l.cnt, l.cost]
abbrev intsV (r : List Int) : List V := r.map V.int
theorem TpA.map {α β : Type} {f : α → List V} {g : β → List V} {h : α → β} {H : Hp} {a : Addr} {xs : List α} (e : ∀ x, g (h x) = f x) (p : TpA f H a xs) : TpA g H a (xs.map h) := by
  obtain ⟨ts, h1, h2, h3⟩ := p
  refine ⟨ts, h1, by rw [List.length_map, h2], fun i t y ht hy => ?_⟩
  rw [List.getElem?_map] at hy
  cases q : xs[i]? with
  | none => rw [q] at hy; cases hy
  | some x =>
    rw [q] at hy
    cases Option.some.inj hy
    rw [e]
    exact h3 i t x ht q
theorem TpA.lots {H : Hp} {a : Addr} {xs : List Lot} (p : TpA lotV H a xs) : TpA intsV H a (xs.map lotI) := p.map fun _ => rfl
theorem sh_tints (ns : List Int) : SeqAt.shaped (.tuple (ns.map PyData.int)) = true := by
  unfold SeqAt.shaped
  show (PyData.canLayAll0 (ns.map PyData.int) && decide (PyData.depthAll (ns.map PyData.int) + 1 ≤ 64)) = true
  rw [sh_lay, sh_depth]
  rfl
theorem ne_tints {K : PySem.W.Frag} {H : Hp} {a b : Addr} {ns ms : List Int} {Q : VK} (ha : SqT K H a (ns.map V.int)) (hb : SqT K H b (ms.map V.int)) (q : Q (.bl (!decide (ns = ms))) H) : rNeD K (.ref a) (.ref b) H Q := by
  refine ⟨.tuple (ns.map PyData.int), .tuple (ms.map PyData.int), .tup ha (dp_ints ns), .tup hb (dp_ints ms), sh_tints _, sh_tints _, ?_⟩
  have e : PyData.eqv (.tuple (ns.map PyData.int)) (.tuple (ms.map PyData.int)) = decide (ns = ms) := eqv_ints ns ms
  rw [e]
  exact q
/-! two lists of tuples of whole numbers, compared -/
def rowD (r : List Int) : PyData := .tuple (r.map PyData.int)
theorem dp_rows {K : PySem.W.Frag} {H : Hp} : ∀ (ts : List Addr) (rows : List (List Int)), ts.length = rows.length → (∀ (i : Nat) t x, ts[i]? = some t → rows[i]? = some x → H t = some (.tup (intsV x))) → DpAll K H (ts.map V.ref) (rows.map rowD)
  | [], [], _, _ => .nil
  | [], _ :: _, h, _ => by simp at h
  | _ :: _, [], h, _ => by simp at h
  | t :: ts, r :: rows, h, p => .cons (.tup (SqT.of (p 0 t r rfl rfl)) (dp_ints r)) (dp_rows ts rows (by simpa using h) fun i t' x ht hx => p (i + 1) t' x ht hx)
theorem eqv_rows : ∀ xs ys : List (List Int), PyData.eqvAll (xs.map rowD) (ys.map rowD) = decide (xs = ys)
  | [], [] => rfl
  | [], m :: s => rfl
  | n :: r, [] => rfl
  | n :: r, m :: s => by
    show (PyData.eqv (rowD n) (rowD m) && PyData.eqvAll (r.map rowD) (s.map rowD)) = _
    rw [eqv_rows r s]
    have e : PyData.eqv (rowD n) (rowD m) = decide (n = m) := eqv_ints n m
    rw [e]
    by_cases h1 : n = m
    · by_cases h2 : r = s
      · simp [h1, h2]
      · simp [h1, h2]
    · simp [h1]
theorem lay_rows : ∀ xs : List (List Int), PyData.canLayAll0 (xs.map rowD) = true
  | [] => rfl
  | r :: s => by
    show (PyData.canLayAll0 (r.map PyData.int) && PyData.canLayAll0 (s.map rowD)) = true
    rw [sh_lay, lay_rows s]
    rfl
theorem depth_rows : ∀ xs : List (List Int), PyData.depthAll (xs.map rowD) ≤ 1
  | [] => Nat.zero_le 1
  | r :: s => by
    show max (PyData.depthAll (r.map PyData.int) + 1) (PyData.depthAll (s.map rowD)) ≤ 1
    have := depth_rows s
    rw [sh_depth]
    omega
theorem sh_rows (xs : List (List Int)) : SeqAt.shaped (.list (xs.map rowD)) = true := by
  unfold SeqAt.shaped
  show (PyData.canLayAll0 (xs.map rowD) && decide (PyData.depthAll (xs.map rowD) + 1 ≤ 64)) = true
  have := depth_rows xs
  rw [lay_rows, decide_eq_true (by omega)]
  rfl
theorem ne_rows {K : PySem.W.Frag} {H : Hp} {a b : Addr} {xs ys : List (List Int)} {Q : VK} (ha : TpA intsV H a xs) (hb : TpA intsV H b ys) (q : Q (.bl (!decide (xs = ys))) H) : rNeD K (.ref a) (.ref b) H Q := by
  obtain ⟨ts, h1, h2, h3⟩ := ha
  obtain ⟨us, g1, g2, g3⟩ := hb
  refine ⟨.list (xs.map rowD), .list (ys.map rowD), .lst (SqL.of h1) (dp_rows ts xs h2 h3), .lst (SqL.of g1) (dp_rows us ys g2 g3), sh_rows _, sh_rows _, ?_⟩
  have e : PyData.eqv (.list (xs.map rowD)) (.list (ys.map rowD)) = decide (xs = ys) := eqv_rows xs ys
  rw [e]
  exact q
theorem eq_rows {K : PySem.W.Frag} {H : Hp} {a b : Addr} {xs ys : List (List Int)} {Q : VK} (ha : TpA intsV H a xs) (hb : TpA intsV H b ys) (q : Q (.bl (decide (xs = ys))) H) : rEqD K (.ref a) (.ref b) H Q := by
  obtain ⟨ts, h1, h2, h3⟩ := ha
  obtain ⟨us, g1, g2, g3⟩ := hb
  refine ⟨.list (xs.map rowD), .list (ys.map rowD), .lst (SqL.of h1) (dp_rows ts xs h2 h3), .lst (SqL.of g1) (dp_rows us ys g2 g3), sh_rows _, sh_rows _, ?_⟩
  have e : PyData.eqv (.list (xs.map rowD)) (.list (ys.map rowD)) = decide (xs = ys) := eqv_rows xs ys
  rw [e]
  exact q
end Lb

namespace Lb
open PySem PySem.Spec PyProof.Rows L2
/-! ### the mathematics of lots -/
def mn (a b : Int) : Int := if b < a then b else a
def mx (a b : Int) : Int := if b > a then b else a
theorem mn_is (a b : Int) : mn a b = min a b := by
  unfold mn
  omega
theorem mx_is (a b : Int) : mx a b = max a b := by
  unfold mx
  omega
theorem mn_le (a b : Int) : mn a b ≤ a ∧ mn a b ≤ b ∧ (mn a b = a ∨ mn a b = b) := by
  rw [mn_is]
  omega
def manyL (ls : List Lot) : Int := (ls.map Lot.cnt).sum
def costL (ls : List Lot) : Int := (ls.map Lot.cost).sum
/-- what c shares are taken from -/
def takeL : List Lot → Int → List Lot
  | [], _ => []
  | l :: r, c => (if 0 < mn l.cnt c then [⟨l.day, mn l.cnt c, l.cost * mn l.cnt c / l.cnt⟩] else []) ++ takeL r (c - mn l.cnt c)
/-- what is left -/
def leftL : List Lot → Int → List Lot
  | [], _ => []
  | l :: r, c => (if mn l.cnt c < l.cnt then [⟨l.day, l.cnt - mn l.cnt c, l.cost - l.cost * mn l.cnt c / l.cnt⟩] else []) ++ leftL r (c - mn l.cnt c)
/-- what is still wanted behind the lots -/
def restL : List Lot → Int → Int
  | [], c => c
  | l :: r, c => restL r (c - mn l.cnt c)
theorem restL_snoc : ∀ (ls : List Lot) (l : Lot) (c : Int), restL (ls ++ [l]) c = restL ls c - mn l.cnt (restL ls c)
  | [], _, _ => rfl
  | x :: r, l, c => restL_snoc r l (c - mn x.cnt c)
theorem takeL_snoc : ∀ (ls : List Lot) (l : Lot) (c : Int), takeL (ls ++ [l]) c = takeL ls c ++ (if 0 < mn l.cnt (restL ls c) then [⟨l.day, mn l.cnt (restL ls c), l.cost * mn l.cnt (restL ls c) / l.cnt⟩] else [])
  | [], l, c => by
    show (if 0 < mn l.cnt c then [(⟨l.day, mn l.cnt c, l.cost * mn l.cnt c / l.cnt⟩ : Lot)] else []) ++ [] = [] ++ _
    rw [List.append_nil, List.nil_append]
    rfl
  | x :: r, l, c => by
    show _ ++ takeL (r ++ [l]) (c - mn x.cnt c) = (_ ++ takeL r (c - mn x.cnt c)) ++ _
    rw [takeL_snoc r l, List.append_assoc]
    rfl
theorem leftL_snoc : ∀ (ls : List Lot) (l : Lot) (c : Int), leftL (ls ++ [l]) c = leftL ls c ++ (if mn l.cnt (restL ls c) < l.cnt then [⟨l.day, l.cnt - mn l.cnt (restL ls c), l.cost - l.cost * mn l.cnt (restL ls c) / l.cnt⟩] else [])
  | [], l, c => by
    show (if mn l.cnt c < l.cnt then [(⟨l.day, l.cnt - mn l.cnt c, l.cost - l.cost * mn l.cnt c / l.cnt⟩ : Lot)] else []) ++ [] = [] ++ _
    rw [List.append_nil, List.nil_append]
    rfl
  | x :: r, l, c => by
    show _ ++ leftL (r ++ [l]) (c - mn x.cnt c) = (_ ++ leftL r (c - mn x.cnt c)) ++ _
    rw [leftL_snoc r l, List.append_assoc]
    rfl
theorem takeL_len : ∀ (ls : List Lot) (c : Int), (takeL ls c).length ≤ ls.length
  | [], _ => Nat.le_refl 0
  | l :: r, c => by
    have ih := takeL_len r (c - mn l.cnt c)
    show (_ ++ takeL r (c - mn l.cnt c)).length ≤ r.length + 1
    rw [List.length_append]
    split
    · simp; omega
    · simp; omega
theorem leftL_len : ∀ (ls : List Lot) (c : Int), (leftL ls c).length ≤ ls.length
  | [], _ => Nat.le_refl 0
  | l :: r, c => by
    have ih := leftL_len r (c - mn l.cnt c)
    show (_ ++ leftL r (c - mn l.cnt c)).length ≤ r.length + 1
    rw [List.length_append]
    split
    · simp; omega
    · simp; omega
theorem restL_ge : ∀ (ls : List Lot) (c : Int), 0 ≤ c → (∀ l ∈ ls, 0 ≤ l.cnt) → 0 ≤ restL ls c
  | [], _, h, _ => h
  | l :: r, c, h, h0 => restL_ge r _ (by have := mn_le l.cnt c; omega) fun x hx => h0 x (List.mem_cons_of_mem _ hx)
theorem restL_le : ∀ (ls : List Lot) (c : Int), 0 ≤ c → (∀ l ∈ ls, 0 ≤ l.cnt) → restL ls c ≤ c
  | [], _, _, _ => Int.le_refl _
  | l :: r, c, h, h0 => by
    have h1 := h0 l List.mem_cons_self
    have h2 := mn_le l.cnt c
    have ih := restL_le r (c - mn l.cnt c) (by omega) fun x hx => h0 x (List.mem_cons_of_mem _ hx)
    show restL r (c - mn l.cnt c) ≤ c
    omega
/-- the numbers of lots, within some bits -/
structure LotB (B : Nat) (l : Lot) : Prop where
  d : l.day.natAbs < 2 ^ B
  c0 : 1 ≤ l.cnt
  c : l.cnt.natAbs < 2 ^ B
  k0 : 0 ≤ l.cost
  k : l.cost.natAbs < 2 ^ B
theorem getM {α : Type} {f : α → List V} {H : Hp} {ts : List Addr} {xs : List α} (h : ∀ (i : Nat) t x, ts[i]? = some t → xs[i]? = some x → H t = some (.tup (f x))) (hl : ts.length = xs.length) {i : Nat} {y : V} (hy : (ts.map V.ref)[i]? = some y) :
    ∃ t x, y = .ref t ∧ xs[i]? = some x ∧ H t = some (.tup (f x)) := by
  rw [List.getElem?_map] at hy
  cases q : ts[i]? with
  | none => rw [q] at hy; cases hy
  | some t =>
    rw [q] at hy
    have hi := (List.getElem?_eq_some_iff.mp q).1
    have hx := List.getElem?_eq_getElem (show i < xs.length by omega)
    exact ⟨t, _, (Option.some.inj hy).symm, hx, h i t _ q hx⟩
/-- a comprehension's list of whole numbers -/
theorem ints_of {α : Type} {f : α → Int} {xs : List α} {ys : List V} (hl : ys.length = xs.length) (h : ∀ (j : Nat) x y, xs[j]? = some x → ys[j]? = some y → y = .int (f x)) : ys = (xs.map f).map V.int := by
  apply ext_get
  · rw [hl, List.length_map, List.length_map]
  · intro j x y hx hy
    have hj := (List.getElem?_eq_some_iff.mp hx).1
    have hj2 : j < xs.length := by omega
    have e := h j _ x (List.getElem?_eq_getElem hj2) hx
    rw [List.getElem?_map, List.getElem?_map, List.getElem?_eq_getElem hj2] at hy
    rw [e]
    exact Option.some.inj hy
end Lb
namespace Lb
open PySem PySem.Spec PyProof.Rows L2
theorem TpA.but {α : Type} {f : α → List V} {H H' : Hp} {x y : Addr} {ys : List α} (h : TpA f H y ys) (hx : ∃ l, H x = some (.lst l)) (ne : y ≠ x) (k : ∀ b o, b ≠ x → H b = some o → H' b = some o) : TpA f H' y ys := by
  obtain ⟨ts, h1, h2, h3⟩ := h
  obtain ⟨l, hl⟩ := hx
  refine ⟨ts, k _ _ ne h1, h2, fun i t z ht hz => ?_⟩
  have q := h3 i t z ht hz
  exact k _ _ (fun e => by rw [e, hl] at q; cases q) q
theorem manyL_cons (l : Lot) (r : List Lot) : manyL (l :: r) = l.cnt + manyL r := by
  unfold manyL
  rw [List.map_cons, List.sum_cons]
end Lb
namespace Lb
open PySem PySem.Spec PyProof.Rows L2
theorem small1000' {n : Nat} (h : n ≤ 100000) : n < sizeLine := Nat.lt_of_le_of_lt h (by decide)
end Lb

namespace Lb
open PySem PySem.Spec PyProof.Rows L2
theorem wipe1 (σ : L2.St) (i : Nat) (x : V) : wipe ((wipe σ [i]).set i (some x)) [i] = wipe σ [i] := by
  show (((σ.set i none).set i (some x)).set i none) = σ.set i none
  rw [List.set_set, List.set_set]
theorem wipe1_get {σ : L2.St} {i : Nat} (x : V) (hi : i < σ.length) : ((wipe σ [i]).set i (some x))[i]? = some (some x) := by
  show ((σ.set i none).set i (some x))[i]? = _
  rw [List.getElem?_set_self (by rw [List.length_set]; exact hi)]
/-- [x[j] for x in xs], xs a list of tuples -/
theorem lc_col {α : Type} {f : α → List V} {h : α → Int} {K : PySem.W.Frag} {a D : Addr} {σ : L2.St} {H1 : Hp} {xs : List α} {i : Nat} {j : Int} {Qd : Hp → Prop} (ha : TpA f H1 a xs) (hl : xs.length ≤ 100000) (nD : H1 D = none)
    (hj : ∀ x, atI (f x) j = some (.int (h x))) (hi : i < σ.length) (done : ∀ H', Same H1 H' → H' D = some (.lst ((xs.map h).map V.int)) → Qd H') :
    ∃ W : Nat → Nat → Hp → Prop, (∃ m, W 0 m (upd H1 D (.lst []))) ∧ ∀ k m H, W k m H →
      ((Itl K a).stop k H ∧ Qd H) ∨ ((Itl K a).go k H ∧ ∃ Nx : Hp → Prop, (∀ H', Nx H' → ∃ m', m' < m ∧ W (k + 1) m' H') ∧ ∀ x H', (Itl K a).yld k H x H' → gName i x (wipe σ [i]) H' fun σ2 H2 => wipe σ2 [i] = wipe σ [i] ∧ tYes σ2 H2 fun b H3 =>
        if b = true then tOp (rIxT K) (tVar i) (tC (.int j)) σ2 H3 fun y H4 => ∃ acc, H4 D = some (.lst acc) ∧ acc.length < sizeLine ∧ Nx (upd H4 D (.lst (acc ++ [y]))) else Nx H3) := by
  obtain ⟨ts, ta, tl, tt⟩ := id ha
  refine lc_to (K := K) (fun x y _ => ∀ t z, x = .ref t → (∃ k : Nat, ts[k]? = some t ∧ xs[k]? = some z) → H1 t = some (.tup (f z)) → y = .int (h z)) (SqL.of ta) nD (Nat.le_trans (by rw [List.length_map]; omega) (show 100000 ≤ sizeLine by decide)) (fun _ _ _ _ _ _ h => h) ?_ ?_
  · intro k x H Z hx s1 _ hZ
    obtain ⟨t, z, rfl, hxz, ht⟩ := getM tt tl hx
    refine ⟨wipe1 σ i _, _, wipe1_get _ hi, t, _, _, _, rfl, rfl, SqT.of (s1 _ _ ht), hj z, hZ _ _ (Same.refl H) fun t' z' e _ ht' => ?_⟩
    cases e
    rw [ht] at ht'
    have e2 : f z = f z' := by
      injection ht' with e
      injection e
    have e3 := hj z'
    rw [← e2, hj z] at e3
    exact Option.some.inj e3
  · intro H2 ys s1 hD hlen hys
    have ey : ys = (xs.map h).map V.int := ints_of (by rw [hlen, List.length_map, tl]) fun k z y hk hy => by
      have hkl := (List.getElem?_eq_some_iff.mp hk).1
      have gt : ts[k]? = some ts[k] := List.getElem?_eq_getElem (by omega)
      exact hys k _ y (by rw [List.getElem?_map, gt]; rfl) hy _ z rfl ⟨k, gt, hk⟩ (tt k _ z gt hk)
    subst ey
    exact done H2 s1 hD
/-- sum([x[j] for x in xs]) -/
theorem sum_col {α : Type} {f : α → List V} {h : α → Int} {K : PySem.W.Frag} {a : Addr} {σ : L2.St} {H : Hp} {xs : List α} {s i : Nat} {j : Int} {Q : VK} (hs : σ[s]? = some (some (.ref a))) (ha : TpA f H a xs) (hl : xs.length ≤ 100000)
    (hj : ∀ x, atI (f x) j = some (.int (h x))) (hi : i < σ.length) (q : ∀ H', Same H H' → Q (.int (xs.map h).sum) H') :
    tCB (rSum K) (tCons (tLc (iList K (tVar s)) (gName i) tYes (tOp (rIxT K) (tVar i) (tC (.int j))) [i]) tNil) σ H Q := by
  obtain ⟨ts, ta, tl, tt⟩ := id ha
  refine ⟨_, hs, a, rfl, ⟨_, SqL.of ta⟩, fun D nD => ?_⟩
  exact lc_col ha hl nD hj hi fun H' sm hD => ⟨_, _, rfl, SqL.of hD, q H' sm⟩
theorem at_day (l : Lot) : atI (lotV l) 0 = some (.int l.day) := atI_nat (j := 0) rfl
theorem at_cnt (l : Lot) : atI (lotV l) 1 = some (.int l.cnt) := atI_nat (j := 1) rfl
theorem at_cost (l : Lot) : atI (lotV l) 2 = some (.int l.cost) := atI_nat (j := 2) rfl
theorem restL_is : ∀ (ls : List Lot) (c : Int), 0 ≤ c → (∀ l ∈ ls, 0 ≤ l.cnt) → restL ls c = c - manyL (takeL ls c)
  | [], c, _, _ => by
    show c = c - ([] : List Int).sum
    rw [List.sum_nil, Int.sub_zero]
  | l :: r, c, h, h0 => by
    have h1 := h0 l List.mem_cons_self
    have h2 := mn_le l.cnt c
    have ih := restL_is r (c - mn l.cnt c) (by omega) fun x hx => h0 x (List.mem_cons_of_mem _ hx)
    show restL r (c - mn l.cnt c) = c - manyL ((if 0 < mn l.cnt c then [⟨l.day, mn l.cnt c, l.cost * mn l.cnt c / l.cnt⟩] else []) ++ takeL r (c - mn l.cnt c))
    rw [ih]
    have e : manyL ((if 0 < mn l.cnt c then [(⟨l.day, mn l.cnt c, l.cost * mn l.cnt c / l.cnt⟩ : Lot)] else []) ++ takeL r (c - mn l.cnt c)) = mn l.cnt c + manyL (takeL r (c - mn l.cnt c)) := by
      split
      · exact manyL_cons _ _
      · rw [List.nil_append]
        omega
    rw [e]
    omega
theorem manyL_ge {ls : List Lot} (h : ∀ l ∈ ls, 0 ≤ l.cnt) : 0 ≤ manyL ls := sum_nonneg fun x hx => by
  obtain ⟨l, hl, rfl⟩ := List.mem_map.mp hx
  exact h l hl
theorem LotOk.b {l : Lot} (h : LotOk l) : LotB bB l := by
  have e : (10 : Int) ^ 30 = 1000000000000000000000000000000 := by decide
  have h1 := h.c1
  have h2 := h.k1
  have h3 := h.d1
  have h4 := h.c0
  have h5 := h.k0
  have h6 := h.d0
  have e2 : (2 : Int) ^ 100 = 1267650600228229401496703205376 := by decide
  have e3 : (2 : Nat) ^ 100 = 1267650600228229401496703205376 := by decide
  rw [e] at h1 h2
  rw [e2] at h3
  have up : ∀ {z : Int}, 0 ≤ z → z < 1267650600228229401496703205376 → z.natAbs < 2 ^ bB := fun {z} a b => by
    have : z.natAbs < 2 ^ 100 := by rw [e3]; omega
    exact Nat.lt_of_lt_of_le this (Nat.pow_le_pow_right (by decide) (by decide))
  exact ⟨up h6 h3, h4, up (by omega) (by omega), h5, up h5 (by omega)⟩
theorem TpA.copy {α : Type} {f : α → List V} {H H' : Hp} {a b : Addr} {xs : List α} (h : TpA f H a xs) (sm : Same H H') {l : List V} (ha : H a = some (.lst l)) (hb : H' b = some (.lst l)) : TpA f H' b xs := by
  obtain ⟨ts, h1, h2, h3⟩ := h
  rw [h1] at ha
  cases ha
  exact ⟨ts, hb, h2, fun i t x ht hx => sm _ _ (h3 i t x ht hx)⟩
theorem lotI_inj : ∀ {xs ys : List Lot}, xs.map lotI = ys.map lotI → xs = ys := by
  intro xs ys h
  have inj : ∀ a b : Lot, lotI a = lotI b → a = b := fun a b e => by
    cases a
    cases b
    cases e
    rfl
  exact (List.map_inj_right inj).mp h
end Lb
namespace Lb
open PySem PySem.Spec PyProof.Rows L2
theorem cut_take (ts : List Addr) (k : Nat) : cutV (ts.map V.ref) none (some (k : Int)) = (ts.take k).map V.ref := by
  unfold cutV
  rw [HT.sIx_none, HT.sIx_nat, List.drop_zero, Nat.sub_zero, List.length_map, ← List.map_take]
  congr 1
  rcases Nat.le_total k ts.length with h | h
  · rw [Nat.min_eq_left h]
  · rw [Nat.min_eq_right h, List.take_length, List.take_of_length_le h]
theorem take_some {α : Type} {l : List α} {i k : Nat} {x : α} (h : (l.take k)[i]? = some x) : l[i]? = some x := by
  have hi := (List.getElem?_eq_some_iff.mp h).1
  rw [List.length_take] at hi
  rw [List.getElem?_take_of_lt (by omega)] at h
  exact h
theorem TpA.take {f : Lot → List V} {H' : Hp} {ts : List Addr} {L : List Lot} {p k : Nat} (tl : ts.length = L.length) (tt : ∀ (i : Nat) t x, ts[i]? = some t → L[i]? = some x → H' t = some (.tup (f x))) (hp : H' p = some (.lst ((ts.take k).map V.ref))) : TpA f H' p (L.take k) :=
  ⟨ts.take k, hp, by rw [List.length_take, List.length_take, tl], fun i t z ht hz => tt i t z (take_some ht) (take_some hz)⟩
theorem mn_abs {c : Int} {n : Nat} (h0 : 0 ≤ c) : 0 ≤ mn c (10 ^ 30 - 1) ∧ (mn c (10 ^ 30 - 1)).natAbs < 2 ^ 100 := by
  have h := mn_le c (10 ^ 30 - 1)
  have e : (10 : Int) ^ 30 - 1 = 999999999999999999999999999999 := by decide
  have e3 : (2 : Nat) ^ 100 = 1267650600228229401496703205376 := by decide
  rw [e] at h ⊢
  rw [e3]
  omega
theorem costL_ge {ls : List Lot} (h : ∀ l ∈ ls, 0 ≤ l.cost) : 0 ≤ costL ls := sum_nonneg fun x hx => by
  obtain ⟨l, hl, rfl⟩ := List.mem_map.mp hx
  exact h l hl
end Lb
namespace Lb
theorem bits_S {i : Int} (h : PySem.Builtin.Int.intBits i ≤ 1048576) : i.natAbs < 2 ^ bS := abs_bits (by rw [bS_eq]; exact h)
end Lb
namespace Lb
open PySem PySem.Spec PyProof.Rows L2
def spWhole : Sp := fun vs H Q _ => ∃ i : Int, vs = [.int i] ∧ Q (.bl true) H
theorem all_true (n : Nat) : (List.replicate n true).all id = true := by
  rw [List.all_eq_true]
  intro x hx
  rw [List.eq_of_mem_replicate hx]
  rfl
theorem lcT_whole {K : PySem.W.Frag} {t D : Addr} {σ : L2.St} {H1 : Hp} {ns : List Int} {i : Nat} {Qd : Hp → Prop} (ht : H1 t = some (.tup (intsV ns))) (hl : ns.length ≤ 100000) (nD : H1 D = none) (hi : i < σ.length)
    (done : ∀ H', Same H1 H' → H' D = some (.lst ((List.replicate ns.length true).map V.bl)) → Qd H') :
    ∃ W : Nat → Nat → Hp → Prop, (∃ m, W 0 m (upd H1 D (.lst []))) ∧ ∀ k m H, W k m H →
      ((Itt K t).stop k H ∧ Qd H) ∨ ((Itt K t).go k H ∧ ∃ Nx : Hp → Prop, (∀ H', Nx H' → ∃ m', m' < m ∧ W (k + 1) m' H') ∧ ∀ x H', (Itt K t).yld k H x H' → gName i x (wipe σ [i]) H' fun σ2 H2 => wipe σ2 [i] = wipe σ [i] ∧ tYes σ2 H2 fun b H3 =>
        if b = true then tCall spWhole [] E0 (tCons (tVar i) tNil) σ2 H3 fun y H4 => ∃ acc, H4 D = some (.lst acc) ∧ acc.length < sizeLine ∧ Nx (upd H4 D (.lst (acc ++ [y]))) else Nx H3) := by
  refine lcT_to (K := K) (fun _ y _ => y = .bl true) (SqT.of ht) nD (Nat.le_trans (by rw [List.length_map]; exact hl) (show 100000 ≤ sizeLine by decide)) (fun H' s1 => SqT.of (s1 _ _ ht)) (fun _ _ _ _ _ _ h => h) ?_ ?_
  · intro j x H Z hx s1 _ hZ
    obtain ⟨z, hz, rfl⟩ := item_int hx
    exact ⟨wipe1 σ i _, _, wipe1_get _ hi, z, rfl, hZ _ _ (Same.refl H) rfl⟩
  · intro H2 ys s1 hD hlen hys
    have ey : ys = (List.replicate ns.length true).map V.bl := by
      apply ext_get
      · rw [hlen, List.length_map, List.length_map, List.length_replicate]
      · intro j x y hx hy
        have hj := (List.getElem?_eq_some_iff.mp hx).1
        have hj2 : j < ns.length := by rw [hlen, List.length_map] at hj; exact hj
        have := hys j _ x (by rw [List.getElem?_map, List.getElem?_eq_getElem hj2]; rfl) hx
        rw [this]
        rw [List.getElem?_map, List.getElem?_replicate, if_pos hj2] at hy
        exact Option.some.inj hy
    subst ey
    exact done H2 s1 hD
/-! ### how lots are parted -/
theorem mn_eq_left {a b : Int} (h : a ≤ b) : mn a b = a := by rw [mn_is]; omega
theorem mn_eq_right {a b : Int} (h : b ≤ a) : mn a b = b := by rw [mn_is]; omega
theorem takeL_zero : ∀ {ls : List Lot}, (∀ l ∈ ls, 1 ≤ l.cnt) → takeL ls 0 = []
  | [], _ => rfl
  | l :: r, h => by
    have h1 := h l List.mem_cons_self
    have e : mn l.cnt 0 = 0 := mn_eq_right (by omega)
    show (if 0 < mn l.cnt 0 then [(⟨l.day, mn l.cnt 0, l.cost * mn l.cnt 0 / l.cnt⟩ : Lot)] else []) ++ takeL r (0 - mn l.cnt 0) = []
    rw [e, if_neg (by omega), Int.sub_zero, takeL_zero fun x hx => h x (List.mem_cons_of_mem _ hx)]
    rfl
theorem leftL_zero : ∀ {ls : List Lot}, (∀ l ∈ ls, 1 ≤ l.cnt) → leftL ls 0 = ls
  | [], _ => rfl
  | l :: r, h => by
    have h1 := h l List.mem_cons_self
    have e : mn l.cnt 0 = 0 := mn_eq_right (by omega)
    show (if mn l.cnt 0 < l.cnt then [(⟨l.day, l.cnt - mn l.cnt 0, l.cost - l.cost * mn l.cnt 0 / l.cnt⟩ : Lot)] else []) ++ leftL r (0 - mn l.cnt 0) = l :: r
    rw [e, if_pos (by omega), Int.sub_zero, Int.sub_zero, Int.mul_zero, Int.zero_ediv, Int.sub_zero, leftL_zero fun x hx => h x (List.mem_cons_of_mem _ hx)]
    rfl
/-- what is taken and what is left: the lots, or with one in two parts -/
theorem parted : ∀ (ls : List Lot) (c : Int), 0 ≤ c → (∀ l ∈ ls, 1 ≤ l.cnt) →
    takeL ls c ++ leftL ls c = ls ∨ ∃ (pre post : List Lot) (l : Lot) (p k : Int), ls = pre ++ l :: post ∧ takeL ls c = pre ++ [⟨l.day, p, k⟩] ∧ leftL ls c = ⟨l.day, l.cnt - p, l.cost - k⟩ :: post
  | [], _, _, _ => .inl rfl
  | l :: r, c, hc, h => by
    have h1 := h l List.mem_cons_self
    have hr : ∀ x ∈ r, 1 ≤ x.cnt := fun x hx => h x (List.mem_cons_of_mem _ hx)
    have et : takeL (l :: r) c = (if 0 < mn l.cnt c then [(⟨l.day, mn l.cnt c, l.cost * mn l.cnt c / l.cnt⟩ : Lot)] else []) ++ takeL r (c - mn l.cnt c) := rfl
    have el : leftL (l :: r) c = (if mn l.cnt c < l.cnt then [(⟨l.day, l.cnt - mn l.cnt c, l.cost - l.cost * mn l.cnt c / l.cnt⟩ : Lot)] else []) ++ leftL r (c - mn l.cnt c) := rfl
    rw [et, el]
    by_cases h2 : l.cnt ≤ c
    · rw [mn_eq_left h2, if_pos (by omega), if_neg (by omega), Int.mul_ediv_cancel _ (by omega)]
      rcases parted r (c - l.cnt) (by omega) hr with e | ⟨pre, post, x, p, k, e1, e2, e3⟩
      · left
        show l :: (takeL r (c - l.cnt) ++ leftL r (c - l.cnt)) = l :: r
        rw [e]
      · right
        exact ⟨l :: pre, post, x, p, k, by rw [e1]; rfl, by rw [e2]; rfl, by rw [e3]; rfl⟩
    · by_cases h3 : c = 0
      · subst h3
        rw [mn_eq_right (by omega), if_neg (by omega), if_pos (by omega), Int.sub_zero, Int.sub_zero, Int.mul_zero, Int.zero_ediv, Int.sub_zero, takeL_zero hr, leftL_zero hr]
        exact .inl rfl
      · rw [mn_eq_right (by omega), if_pos (by omega), if_pos (by omega), Int.sub_self, takeL_zero hr, leftL_zero hr]
        exact .inr ⟨[], r, l, c, l.cost * c / l.cnt, rfl, rfl, rfl⟩
theorem takeL_many {ls : List Lot} {c : Int} (hc : 0 ≤ c) (hm : c ≤ manyL ls) (h : ∀ l ∈ ls, 0 ≤ l.cnt) : manyL (takeL ls c) = c := by
  have e := restL_is ls c hc h
  have z : ∀ (ls : List Lot) (c : Int), 0 ≤ c → (∀ l ∈ ls, 0 ≤ l.cnt) → c ≤ manyL ls → restL ls c = 0 := by
    intro ls
    induction ls with
    | nil =>
      intro c hc _ hm
      have : manyL [] = 0 := rfl
      show c = 0
      omega
    | cons l r ih =>
      intro c hc h hm
      rw [manyL_cons] at hm
      have h1 := mn_le l.cnt c
      have h2 := h l List.mem_cons_self
      have hr0 := manyL_ge (ls := r) fun x hx => h x (List.mem_cons_of_mem _ hx)
      exact ih (c - mn l.cnt c) (by omega) (fun x hx => h x (List.mem_cons_of_mem _ hx)) (by rcases h1.2.2 with e | e <;> omega)
  rw [z ls c hc h hm] at e
  omega
theorem part_cost {l : Lot} {p : Int} (h1 : 1 ≤ l.cnt) (h0 : 0 ≤ p) (hp : p ≤ l.cnt) (hk : 0 ≤ l.cost) : 0 ≤ l.cost * p / l.cnt ∧ l.cost * p / l.cnt ≤ l.cost := share_le hk (by omega) h0 hp
/-- every lot of the two lists is a lot -/
def LotG (l : Lot) : Prop := 1 ≤ l.cnt ∧ 0 ≤ l.cost
theorem takeL_good : ∀ {ls : List Lot} {c : Int}, 0 ≤ c → (∀ l ∈ ls, LotG l) → ∀ l ∈ takeL ls c, LotG l
  | [], _, _, _, l, hl => by cases hl
  | x :: r, c, hc, h, l, hl => by
    have hx := h x List.mem_cons_self
    have hm := mn_le x.cnt c
    have hr : ∀ l ∈ r, LotG l := fun l hl => h l (List.mem_cons_of_mem _ hl)
    have hl' : l ∈ (if 0 < mn x.cnt c then [(⟨x.day, mn x.cnt c, x.cost * mn x.cnt c / x.cnt⟩ : Lot)] else []) ++ takeL r (c - mn x.cnt c) := hl
    rcases List.mem_append.mp hl' with a | a
    · split at a
      · rw [List.mem_singleton] at a
        subst a
        have := part_cost (l := x) (p := mn x.cnt c) hx.1 (by omega) hm.1 hx.2
        exact ⟨by show 1 ≤ mn x.cnt c; omega, this.1⟩
      · cases a
    · exact takeL_good (by omega) hr l a
theorem leftL_good : ∀ {ls : List Lot} {c : Int}, 0 ≤ c → (∀ l ∈ ls, LotG l) → ∀ l ∈ leftL ls c, LotG l
  | [], _, _, _, l, hl => by cases hl
  | x :: r, c, hc, h, l, hl => by
    have hx := h x List.mem_cons_self
    have hm := mn_le x.cnt c
    have hx1 := hx.1
    have hr : ∀ l ∈ r, LotG l := fun l hl => h l (List.mem_cons_of_mem _ hl)
    have hl' : l ∈ (if mn x.cnt c < x.cnt then [(⟨x.day, x.cnt - mn x.cnt c, x.cost - x.cost * mn x.cnt c / x.cnt⟩ : Lot)] else []) ++ leftL r (c - mn x.cnt c) := hl
    rcases List.mem_append.mp hl' with a | a
    · split at a
      · rw [List.mem_singleton] at a
        subst a
        have := part_cost (l := x) (p := mn x.cnt c) hx.1 (by omega) hm.1 hx.2
        refine ⟨by show 1 ≤ x.cnt - mn x.cnt c; omega, ?_⟩
        show 0 ≤ x.cost - x.cost * mn x.cnt c / x.cnt
        omega
      · cases a
    · exact leftL_good (by omega) hr l a
end Lb
namespace Lb
open PySem PySem.Spec PyProof.Rows L2
theorem whole_len {n : Nat} (h : n ≤ 100000) : n ≤ sizeLine := Nat.le_trans h (by decide)
theorem cell_abs {ns : List Int} (h : ∀ z ∈ ns, z.natAbs < 2 ^ bS) (k : Nat) : (cellAt ns k).natAbs < 2 ^ bS := by
  by_cases hk : k < ns.length
  · exact h _ (List.mem_of_getElem? (cellAt_in hk))
  · rw [cellAt_out hk]
    exact Nat.two_pow_pos bS
theorem mix_abs {c : Int} {k : Nat} (h : c.natAbs < 2 ^ bS) (hk : k ≤ 100000) : (mixM c k).natAbs < 2 ^ (bS + 101) := by
  have h1 : (61 * (k : Int)).natAbs < 2 ^ 40 := by omega
  have h2 : (c + 61 * (k : Int)).natAbs < 2 ^ (bS + 1) := abs_add h h1 (Nat.le_refl _) (by rw [bS_eq]; decide)
  have h3 : ((1000003 : Int) ^ 5).natAbs < 2 ^ 100 := by decide
  have h4 := wide_lt h2 h3
  rw [Nat.add_assoc] at h4
  exact h4
theorem up_abs {c : Int} {n m : Nat} (h : c.natAbs < 2 ^ n) (l : n ≤ m) : c.natAbs < 2 ^ m := Nat.lt_of_lt_of_le h (Nat.pow_le_pow_right (by decide) l)
end Lb
namespace Lb
open PySem PySem.Spec PyProof.Rows L2
theorem manyL_take {ls : List Lot} (h : ∀ l ∈ ls, 0 ≤ l.cnt) (k : Nat) : manyL (ls.take k) ≤ manyL ls := by
  have := (sum_take_le (l := ls.map Lot.cnt) (fun x hx => by
    obtain ⟨l, hl, rfl⟩ := List.mem_map.mp hx
    exact h l hl) k).2
  rw [← List.map_take] at this
  exact this
theorem TpA.cat {α : Type} {f : α → List V} {H H' : Hp} {a b p : Addr} {xs ys : List α} {l m : List V} (ha : TpA f H a xs) (hb : TpA f H b ys) (sm : Same H H') (el : H a = some (.lst l)) (em : H b = some (.lst m)) (hp : H' p = some (.lst (l ++ m))) : TpA f H' p (xs ++ ys) := by
  obtain ⟨ts, h1, h2, h3⟩ := ha
  obtain ⟨us, g1, g2, g3⟩ := hb
  rw [h1] at el
  cases el
  rw [g1] at em
  cases em
  refine ⟨ts ++ us, by rw [hp, List.map_append], by rw [List.length_append, List.length_append, h2, g2], fun i t x ht hx => ?_⟩
  by_cases hi : i < ts.length
  · rw [List.getElem?_append_left hi] at ht
    rw [List.getElem?_append_left (by omega)] at hx
    exact sm _ _ (h3 i t x ht hx)
  · rw [List.getElem?_append_right (by omega)] at ht
    rw [List.getElem?_append_right (by omega)] at hx
    rw [h2] at ht
    exact sm _ _ (g3 _ t x ht hx)
end Lb
namespace Lb
open PySem PySem.Spec PyProof.Rows L2
theorem cut_drop (ts : List Addr) (k : Nat) : cutV (ts.map V.ref) (some (k : Int)) none = (ts.drop k).map V.ref := by
  unfold cutV
  rw [HT.sIx_none, HT.sIx_nat, List.length_map, List.map_drop]
  rcases Nat.le_total k ts.length with h | h
  · rw [Nat.min_eq_left h]
    exact List.take_of_length_le (by rw [List.length_drop, List.length_map]; omega)
  · rw [Nat.min_eq_right h, List.drop_of_length_le (by rw [List.length_map]; omega), List.drop_of_length_le (by rw [List.length_map]; omega), List.take_nil]
theorem TpA.drop {α : Type} {f : α → List V} {H' : Hp} {ts : List Addr} {L : List α} {p k : Nat} (tl : ts.length = L.length) (tt : ∀ (i : Nat) t x, ts[i]? = some t → L[i]? = some x → H' t = some (.tup (f x))) (hp : H' p = some (.lst ((ts.drop k).map V.ref))) : TpA f H' p (L.drop k) :=
  ⟨ts.drop k, hp, by rw [List.length_drop, List.length_drop, tl], fun i t z ht hz => by
    rw [List.getElem?_drop] at ht hz
    exact tt _ t z ht hz⟩
theorem at_ref {ts : List Addr} {i : Nat} {t : Addr} (h : ts[i]? = some t) : atI (ts.map V.ref) (i : Int) = some (V.ref t) := atI_nat (by rw [List.getElem?_map, h]; rfl)
theorem get_mid {α : Type} (pre : List α) (a : α) (post : List α) : (pre ++ a :: post)[pre.length]? = some a := by
  rw [List.getElem?_append_right (Nat.le_refl _), Nat.sub_self]
  rfl
theorem get_mid1 {α : Type} (pre : List α) (a b : α) (post : List α) : (pre ++ a :: b :: post)[pre.length + 1]? = some b := by
  rw [List.getElem?_append_right (by omega), show pre.length + 1 - pre.length = 1 by omega]
  rfl
end Lb
namespace Lb
open PySem PySem.Spec PyProof.Rows L2
/-- a new object, its heap by a letter -/
theorem al {H H' : Hp} {p : Addr} {o : HO} (np : H p = none) (h : upd H p o = H') : Same H H' ∧ H' p = some o := by
  subst h
  exact ⟨same_upd np, upd_same⟩
end Lb

namespace Lb
open PySem PySem.Spec PyProof.Rows L2
def top (i : Nat) : Stmt := PySem.Challenge.pw_lotbook_k03_used_from_the_first.main.body.getD i (.Pass ⟨0, 0, 0, 0⟩)
abbrev s_many_of : Stmt := top 4
abbrev nn_many_of : List Str := ["lots", "_", "count"]
theorem sc_many_of : FnScope nn_many_of ["lots"] (defScope s_many_of) := ⟨rfl, rfl, rfl, by decide +kernel, rfl, by decide +kernel, by decide +kernel⟩
abbrev s_cost_of : Stmt := top 5
abbrev nn_cost_of : List Str := ["lots", "_", "cost"]
theorem sc_cost_of : FnScope nn_cost_of ["lots"] (defScope s_cost_of) := ⟨rfl, rfl, rfl, by decide +kernel, rfl, by decide +kernel, by decide +kernel⟩
abbrev s_used : Stmt := top 6
abbrev nn_used : List Str := ["lots", "count", "gone", "left", "wanted", "day", "many", "cost", "going", "going_cost"]
theorem sc_used : FnScope nn_used ["lots", "count"] (defScope s_used) := ⟨rfl, rfl, rfl, by decide +kernel, rfl, by decide +kernel, by decide +kernel⟩
abbrev s_law_whole : Stmt := top 8
abbrev nn_law_whole : List Str := ["_law_found"]
theorem sc_law_whole : FnScope nn_law_whole ["_law_found"] (defScope s_law_whole) := ⟨rfl, rfl, rfl, by decide +kernel, rfl, by decide +kernel, by decide +kernel⟩
abbrev s_law_cell_at : Stmt := top 9
abbrev nn_law_cell_at : List Str := ["_law_script", "_law_k"]
theorem sc_law_cell_at : FnScope nn_law_cell_at ["_law_script", "_law_k"] (defScope s_law_cell_at) := ⟨rfl, rfl, rfl, by decide +kernel, rfl, by decide +kernel, by decide +kernel⟩
abbrev s_law_drawn : Stmt := top 10
abbrev nn_law_drawn : List Str := ["_law_cell", "_law_sizes", "_law_found", "_law_size"]
theorem sc_law_drawn : FnScope nn_law_drawn ["_law_cell", "_law_sizes"] (defScope s_law_drawn) := ⟨rfl, rfl, rfl, by decide +kernel, rfl, by decide +kernel, by decide +kernel⟩
abbrev s_law_mixed : Stmt := top 11
abbrev nn_law_mixed : List Str := ["_law_cell", "_law_place"]
theorem sc_law_mixed : FnScope nn_law_mixed ["_law_cell", "_law_place"] (defScope s_law_mixed) := ⟨rfl, rfl, rfl, by decide +kernel, rfl, by decide +kernel, by decide +kernel⟩
abbrev s_law_lots : Stmt := top 12
abbrev nn_law_lots : List Str := ["_law_script", "_law_many", "_law_lots_here", "_law_day", "_law_k", "_law_cell", "_law_some", "_law_great", "_law_count", "_law_cost"]
theorem sc_law_lots : FnScope nn_law_lots ["_law_script", "_law_many"] (defScope s_law_lots) := ⟨rfl, rfl, rfl, by decide +kernel, rfl, by decide +kernel, by decide +kernel⟩
abbrev s_law_tuples : Stmt := top 13
abbrev nn_law_tuples : List Str := ["_law_found", "_law_due", "_law_k", "_law_one"]
theorem sc_law_tuples : FnScope nn_law_tuples ["_law_found", "_law_due"] (defScope s_law_tuples) := ⟨rfl, rfl, rfl, by decide +kernel, rfl, by decide +kernel, by decide +kernel⟩
abbrev s_law_refused_by_any : Stmt := top 14
abbrev nn_law_refused_by_any : List Str := ["_law_lots_here", "_law_count", "e"]
theorem sc_law_refused_by_any : FnScope nn_law_refused_by_any ["_law_lots_here", "_law_count"] (defScope s_law_refused_by_any) := ⟨rfl, rfl, rfl, by decide +kernel, rfl, by decide +kernel, by decide +kernel⟩
abbrev s_law : Stmt := top 15
abbrev nn_law : List Str := ["_law_script", "_law_first", "_law_many", "_law_lots_here", "_law_lot", "_law_there", "_law_count", "_law_handed", "_law_found", "_law_refused", "_law_taken", "_law_left", "_law_part", "_law_cost", "_law_one"]
theorem sc_law : FnScope nn_law ["_law_script"] (defScope s_law) := ⟨rfl, rfl, rfl, by decide +kernel, rfl, by decide +kernel, by decide +kernel⟩
/-! ### what the top has written -/
structure Nn (mg : Str → Option Value) : Prop where
  len : mg "len" = none
  range : mg "range" = none
  sum : mg "sum" = none
  list : mg "list" = none
  isi : mg "isinstance" = none
  int : mg "int" = none
  bool : mg "bool" = none
  tuple : mg "tuple" = none
  all : mg "all" = none
  any : mg "any" = none
  min : mg "min" = none
  max : mg "max" = none
  enumerate : mg "enumerate" = none
  zip : mg "zip" = none
  str : mg "str" = none
  dict : mg "dict" = none
  ve : mg "ValueError" = none
/-- an own error's class at C, right under the one at CS -/
structure Er (K : PySem.W.Frag) (C CS : Addr) : Prop where
  x : PySem.W.excIn K C [.type "ValueError", .type "Exception", .type "BaseException", .type "object"] "ValueError.__new__" = true
  k : PySem.W.keepIn K (.ref C) = true
  b : PySem.W.subIn K (.ref C) (.type "BaseException") = some true
  t : PySem.W.typeIn K (.ref C) = some (.type "type")
  e : PySem.W.exmOne K (.ref C) (.ref C) = some true
  s : PySem.W.exmOne K (.ref C) (.ref CS) = some true
  c : ExcC K C
  i : PySem.W.kitOne K (.ref C) (.type "ValueError") = some true
section
variable {P : Program} {w : World} {K : PySem.W.Frag} {mg : Str → Option Value} {base : Heap}

/-! ### the law's own helpers -/
theorem fd_law_whole {f : Addr} {fd : FuncData} (D : Dn K mg "_law_whole" s_law_whole ["_law_found"] f fd) (N : Nn mg) : Fd P w K mg base CX0 1 "_law_whole" spWhole := by
  refine D.fd (D.F.ok sc_law_whole (fun vs H Q E h => ?_) (fun cdv A outer s H vs Q E hr h => ?_))
  · obtain ⟨i, rfl, _⟩ := h
    rfl
  · obtain ⟨i, rfl, q⟩ := h
    refine ⟨_, (pss_one (ps_ret (pe_and (pe_callB call_isi (by rfl) N.isi boot_isinstance (pa_cons (pv 0) (pa_cons (pe_bltn (v := .ty "int") (by rfl) N.int boot_int rfl) pa_nil))) (pe_one (pe_not (pe_callB call_isi (by rfl) N.isi boot_isinstance (pa_cons (pv 0) (pa_cons (pe_bltn (v := .ty "bool") (by rfl) N.bool boot_bool rfl) pa_nil)))))))), ?_⟩
    refine ⟨_, rfl, _, _, _, _, true, rfl, .ty "int", .base (.int i), kit_ty (by decide +kernel), true, rfl, if_true_of rfl ?_⟩
    exact ⟨_, rfl, _, _, _, _, false, rfl, .ty "bool", .base (.int i), kit_ty (by decide +kernel), false, rfl, q⟩
def spCell (K : PySem.W.Frag) : Sp := fun vs H Q _ => ∃ (a : Addr) (ns : List Int) (j : Nat), vs = [.ref a, .int (j : Int)] ∧ SqL K H a (ns.map V.int) ∧ Q (.int (cellAt ns j)) H
theorem fd_law_cell_at {f : Addr} {fd : FuncData} (D : Dn K mg "_law_cell_at" s_law_cell_at ["_law_script", "_law_k"] f fd) (N : Nn mg) : Fd P w K mg base CX0 1 "_law_cell_at" (spCell K) := by
  refine D.fd (D.F.ok sc_law_cell_at (fun vs H Q E h => ?_) (fun cdv A outer s H vs Q E hr h => ?_))
  · obtain ⟨a, ns, j, rfl, _⟩ := h
    rfl
  · obtain ⟨a, ns, j, rfl, hS, q⟩ := h
    refine ⟨_, (pss_cons (ps_if (pt_cmpR op_lt (pv 1) (pe_callB call_len_seq (by rfl) N.len boot_len (pa_cons (pv 0) pa_nil)) (nomark _)) (pss_one (ps_ret (pe_ix ix_list (pv 0) (pv 1) (fun _ _ => rfl)))) pss_nil)
      (pss_one (ps_ret pe_int))), ?_⟩
    refine ⟨_, rfl, _, rfl, a, _, rfl, .inl hS, _, _, rfl, rfl, _, rfl, ?_⟩
    by_cases hj : j < ns.length
    · refine if_true_of (decide_eq_true (by rw [List.length_map]; omega)) ?_
      exact ⟨_, rfl, _, rfl, a, _, _, _, rfl, rfl, hS, at_int (cellAt_in hj), q⟩
    · refine if_false_of (decide_eq_false (by rw [List.length_map]; omega)) ?_
      rw [cellAt_out hj] at q
      exact q
def spDrawn (K : PySem.W.Frag) : Sp := fun vs H Q _ => ∃ (c : Int) (a : Addr) (zs : List Int), vs = [.int c, .ref a] ∧ SqL K H a (zs.map V.int) ∧ zs.length ≤ 1000 ∧ (∀ z ∈ zs, 0 < z ∧ z < 1073741824) ∧
  ∀ H' p, Same H H' → H p = none → H' p = some (.lst ((drawnL c zs).map V.int)) → Q (.ref p) H'
theorem fd_law_drawn {f : Addr} {fd : FuncData} (D : Dn K mg "_law_drawn" s_law_drawn ["_law_cell", "_law_sizes"] f fd) : Fd P w K mg base CX0 1 "_law_drawn" (spDrawn K) := by
  refine D.fd (D.F.ok sc_law_drawn (fun vs H Q E h => ?_) (fun cdv A outer s H vs Q E hr h => ?_))
  · obtain ⟨c, a, zs, rfl, _⟩ := h
    rfl
  · obtain ⟨c, a, zs, rfl, hS, hl, hz, q⟩ := h
    have nd := sc_law_drawn.nd
    refine ⟨_, (pss_cons (ps_set (i := 2) nd rfl (.inl rfl) (pe_lst pa_nil))
      (pss_cons (ps_for PassesOwn.never rfl (pi_list (pv 1)) (pg_name (i := 3) nd rfl (.inl rfl)) (pss_cons (ps_expr (pe_bm PySem.F.plainAttrs_list PySem.F.slot_list_append PySem.F.type_list_append mt_append (pv 2) (pa_cons (pe_op op_mod (pv 0) (pv 3)) pa_nil)))
      (pss_one (ps_set (i := 0) nd rfl (.inl rfl) (pe_op op_fdivW (pv 0) (pv 3))))))
      (pss_one (ps_ret (pv 2))))), ?_⟩
    refine ⟨Nat.zero_le _, fun o no => ?_⟩
    have hS1 : SqL K (upd H o (.lst [])) a (zs.map V.int) := (same_upd no).seq hS
    refine ⟨_, rfl, a, rfl, ⟨_, hS1⟩, for_list (K := K) (a := a) (xs := zs.map V.int) (fun i σ H' => ∃ v3, σ = [some (.int (dropL c (zs.take i))), some (.ref a), some (.ref o), v3] ∧ Same H H' ∧ H' o = some (.lst ((drawnL c (zs.take i)).map V.int)))
      ⟨none, rfl, same_upd no, upd_same⟩ (fun i σ H' _ ⟨_, _, sm, _⟩ => sm.seq hS) ?_ ?_⟩
    · rintro i y σ H' hi ⟨v3, rfl, sm, ho⟩
      obtain ⟨z, hz', rfl⟩ := item_int hi
      have hil : i < zs.length := (List.getElem?_eq_some_iff.mp hz').1
      have hzz := hz z (List.mem_of_getElem? hz')
      refine ⟨_, rfl, .inl ⟨rfl, _, SqL.of ho⟩, _, rfl, _, rfl, _, _, rfl, rfl, hzz.1, o, _, _, rfl, rfl, ho, ?_, ?_⟩
      · rw [List.length_map, drawnL_len, List.length_take]
        exact Nat.lt_of_le_of_lt (Nat.min_le_right _ _) (small1000 (by omega))
      · refine ⟨_, rfl, _, rfl, _, _, rfl, rfl, wide_div (b := 31) hzz.1 (by omega) (by decide) (by decide), some (.int z), ?_, same_mut sm no, ?_⟩
        · rw [take_snoc hz', dropL_snoc]
          rfl
        · rw [upd_same, take_snoc hz', drawnL_snoc, List.map_append]
          rfl
    · rintro σ H' ⟨v3, rfl, sm, ho⟩
      rw [List.length_map, List.take_length] at ho
      exact ⟨_, rfl, q H' o sm no ho⟩
def spMixed : Sp := fun vs H Q _ => ∃ (c k : Int), vs = [.int c, .int k] ∧ c.natAbs < 2 ^ bS ∧ k.natAbs < 2 ^ 30 ∧ Q (.int (mixM c k)) H
theorem fd_law_mixed {f : Addr} {fd : FuncData} (D : Dn K mg "_law_mixed" s_law_mixed ["_law_cell", "_law_place"] f fd) : Fd P w K mg base CX0 1 "_law_mixed" spMixed := by
  refine D.fd (D.F.ok sc_law_mixed (fun vs H Q E h => ?_) (fun cdv A outer s H vs Q E hr h => ?_))
  · obtain ⟨c, k, rfl, _⟩ := h
    rfl
  · obtain ⟨c, k, rfl, hc, hk, q⟩ := h
    refine ⟨_, (pss_one (ps_ret (pe_op op_mulX (pe_op op_add (pv 0) (pe_op op_mul pe_int (pv 1))) (pe_op op_pow pe_int pe_int)))), ?_⟩
    have h1 : (61 * k).natAbs < 2 ^ 40 := by omega
    exact ⟨_, rfl, _, rfl, _, _, rfl, rfl, .inl ⟨by decide, by decide⟩, _, _, rfl, rfl, _, _, rfl, rfl, ⟨by decide, by decide, by decide⟩, _, _, rfl, rfl, mulX (a := bS + 1) (b := 100) (abs_add hc h1 (Nat.le_refl _) (by rw [bS_eq]; decide)) (by decide) (by omega) (by decide) (by rw [bS_eq]; decide), q⟩

def spLots (K : PySem.W.Frag) : Sp := fun vs H Q _ => ∃ (a : Addr) (ns : List Int) (n : Nat), vs = [.ref a, .int (n : Int)] ∧ SqL K H a (ns.map V.int) ∧ n ≤ 1000 ∧ (∀ z ∈ ns, z.natAbs < 2 ^ bS) ∧
  ∀ H' p, Same H H' → H p = none → TpA lotV H' p (lotsOf ns n) → Q (.ref p) H'
theorem fd_law_lots {f : Addr} {fd : FuncData} (D : Dn K mg "_law_lots" s_law_lots ["_law_script", "_law_many"] f fd) (N : Nn mg) (c_law_cell_at : Fd P w K mg base CX0 1 "_law_cell_at" (spCell K)) (c_law_mixed : Fd P w K mg base CX0 1 "_law_mixed" spMixed)
    (c_law_drawn : Fd P w K mg base CX0 1 "_law_drawn" (spDrawn K)) : Fd P w K mg base CX0 2 "_law_lots" (spLots K) := by
  refine D.fd (D.F.ok sc_law_lots (fun vs H Q E h => ?_) (fun cdv A outer s H vs Q E hr h => ?_))
  · obtain ⟨a, ns, n, rfl, _⟩ := h
    rfl
  · obtain ⟨a, ns, n, rfl, hS, hn, hb, q⟩ := h
    have nd := sc_law_lots.nd
    refine ⟨_, (pss_cons (ps_set (i := 2) nd rfl (.inl rfl) (pe_lst pa_nil))
      (pss_cons (ps_set (i := 3) nd rfl (.inl rfl) pe_int)
      (pss_cons (ps_for PassesOwn.never rfl (pi_range1 (by rfl) N.range (pa_cons (pv 1) pa_nil)) (pg_name (i := 4) nd rfl (.inl rfl)) (pss_cons (ps_set (i := 5) nd rfl (.inl rfl) (pe_cl c_law_mixed hr (pa_cons (pe_cl c_law_cell_at hr (pa_cons (pv 0) (pa_cons (pe_op op_add pe_int (pe_op op_mod (pv 4) pe_int)) pa_nil))) (pa_cons (pv 4) pa_nil))))
      (pss_cons (ps_set (i := 6) nd rfl (.inl rfl) (pe_cl c_law_drawn hr (pa_cons (pv 5) (pa_cons (pe_lst (pa_cons pe_int (pa_cons pe_int (pa_cons pe_int (pa_cons pe_int (pa_cons pe_int pa_nil)))))) pa_nil))))
      (pss_cons (ps_set (i := 3) nd rfl (.inl rfl) (pe_op op_add (pv 3) (pe_ix ix_list (pv 6) pe_int (fun _ _ => rfl))))
      (pss_cons (ps_set (i := 7) nd rfl (.inl rfl) (pe_lst (pa_cons (pe_op op_mod (pe_op op_mulX (pv 5) (pe_op op_pow pe_int pe_int)) (pe_op op_pow pe_int pe_int)) (pa_cons (pe_op op_mod (pe_op op_mulX (pv 5) (pe_op op_pow pe_int pe_int)) (pe_op op_sub (pe_op op_pow pe_int pe_int) pe_int)) pa_nil))))
      (pss_cons (ps_set (i := 8) nd rfl (.inl rfl) (pe_op op_add pe_int (pe_ix ix_list (pe_lst (pa_cons (pe_ix ix_list (pv 6) pe_int (fun _ _ => rfl)) (pa_cons (pe_op op_add (pe_op op_mul pe_int (pe_ix ix_list (pv 6) pe_int (fun _ _ => rfl))) pe_int) (pa_cons (pe_ix ix_list (pv 7) pe_int (fun _ _ => rfl)) (pa_cons (pe_ix ix_list (pv 7) pe_int (fun _ _ => rfl)) pa_nil))))) (pe_ix ix_list (pv 6) pe_int (fun _ _ => rfl)) (fun _ _ => rfl))))
      (pss_cons (ps_set (i := 9) nd rfl (.inl rfl) (pe_ix ix_list (pe_lst (pa_cons pe_int (pa_cons (pe_ix ix_list (pv 6) pe_int (fun _ _ => rfl)) (pa_cons (pe_op op_mod (pe_op op_mulX (pv 5) (pe_op op_pow pe_int pe_int)) (pe_op op_pow pe_int pe_int)) (pa_cons (pe_op op_mod (pe_op op_mulX (pv 5) (pe_op op_pow pe_int pe_int)) (pe_op op_pow pe_int pe_int)) pa_nil))))) (pe_ix ix_list (pv 6) pe_int (fun _ _ => rfl)) (fun _ _ => rfl)))
      (pss_one (ps_expr (pe_bm PySem.F.plainAttrs_list PySem.F.slot_list_append PySem.F.type_list_append mt_append (pv 2) (pa_cons (pe_tup (pa_cons (pv 3) (pa_cons (pv 8) (pa_cons (pv 9) pa_nil)))) pa_nil)))))))))))
      (pss_one (ps_ret (pv 2)))))), ?_⟩
    refine ⟨Nat.zero_le _, fun o no => ?_⟩
    refine ⟨_, rfl, _, rfl, by omega, by omega, for_range (lo := 0) (n := n) (fun i σ' H' => ∃ v4 v5 v6 v7 v8 v9, σ' = [some (.ref a), some (.int (n : Int)), some (.ref o), some (.int (dayUp ns i)), v4, v5, v6, v7, v8, v9] ∧ Same H H' ∧ TpA lotV H' o (lotsOf ns i))
      ⟨none, none, none, none, none, none, rfl, same_upd no, TpA.nil upd_same⟩ ?_ ?_⟩
    · rintro i σ' H' hi ⟨v4, v5, v6, v7, v8, v9, rfl, sm, ho⟩
      have e0 : ((0 : Int) + (i : Int)) = (i : Int) := Int.zero_add _
      rw [e0]
      refine ⟨_, rfl, _, rfl, _, _, rfl, rfl, (by show (0 : Int) < 6; decide), _, _, rfl, rfl, a, ns, 2 + i % 6, ?_, sm.seq hS, ?_⟩
      · show [V.ref a, V.int (2 + (i : Int) % 6)] = [V.ref a, V.int ((2 + i % 6 : Nat) : Int)]
        congr 3
      refine ⟨_, rfl, _, _, rfl, cell_abs hb _, by omega, ?_⟩
      have hcb : (lotCell ns i).natAbs < 2 ^ (bS + 101) := mix_abs (cell_abs hb _) (by omega)
      refine ⟨_, rfl, (by show 5 ≤ sizeLine; decide), fun p1 n1 => ?_⟩
      have s1 : Same H' (upd H' p1 (.lst [V.int 4, V.int 4, V.int 10, V.int 4, V.int 12])) := same_upd n1
      refine ⟨lotCell ns i, p1, [4, 4, 10, 4, 12], rfl, SqL.of upd_same, (by decide), (by decide), fun H2 fp s2 nf ef => ?_⟩
      generalize hc : lotCell ns i = c at hcb ef
      have ef' : H2 fp = some (.lst [V.int (c % 4), V.int (c / 4 % 4), V.int (c / 4 / 4 % 10), V.int (c / 4 / 4 / 10 % 4), V.int (c / 4 / 4 / 10 / 4 % 12)]) := ef
      have s12 := s1.trans s2
      refine ⟨_, rfl, _, rfl, _, _, _, _, rfl, rfl, SqL.of ef', atI_nat (j := 0) rfl, _, _, rfl, rfl, ?_⟩
      have cell5 : some (some (V.int (mixM (cellAt ns (2 + i % 6)) (i : Int)))) = some (some (V.int c)) := by rw [← hc]; rfl
      have pw : ∀ {x : Int}, x.natAbs < 2 ^ 200 → CMulX c x := fun hx => mulX hcb hx (by omega) (by decide) (by rw [bS_eq]; decide)
      refine ⟨_, cell5, _, _, rfl, rfl, ⟨by decide, by decide, by decide⟩, _, _, rfl, rfl, pw (by decide), _, _, rfl, rfl, ⟨by decide, by decide, by decide⟩, _, _, rfl, rfl, (by show (0 : Int) < 10 ^ 12; decide),
        _, cell5, _, _, rfl, rfl, ⟨by decide, by decide, by decide⟩, _, _, rfl, rfl, pw (by decide), _, _, rfl, rfl, ⟨by decide, by decide, by decide⟩, _, _, rfl, rfl, _, _, rfl, rfl, (by show (0 : Int) < 10 ^ 30 - 1; decide), (by show 2 ≤ sizeLine; decide), fun gp ng => ?_⟩
      have s3 : Same H2 (upd H2 gp (.lst [V.int (c * 48271 ^ 7 % 10 ^ 12), V.int (c * 69621 ^ 7 % (10 ^ 30 - 1))])) := same_upd ng
      have eg : (upd H2 gp (.lst [V.int (c * 48271 ^ 7 % 10 ^ 12), V.int (c * 69621 ^ 7 % (10 ^ 30 - 1))])) gp = some (.lst [V.int (c * 48271 ^ 7 % 10 ^ 12), V.int (c * 69621 ^ 7 % (10 ^ 30 - 1))]) := upd_same
      have ef3 := s3 _ _ ef'
      refine ⟨_, rfl, _, _, _, _, rfl, rfl, SqL.of ef3, atI_nat (j := 2) rfl, _, rfl, _, _, _, _, rfl, rfl, SqL.of ef3, atI_nat (j := 2) rfl, _, _, rfl, rfl, .inl ⟨by decide, by decide⟩, _, _, rfl, rfl, _, rfl, _, _, _, _, rfl, rfl, SqL.of eg, atI_nat (j := 0) rfl, _, rfl, _, _, _, _, rfl, rfl, SqL.of eg, atI_nat (j := 1) rfl, (by show 4 ≤ sizeLine; decide), fun p2 n2 => ?_⟩
      have s4 : Same (upd H2 gp (.lst [V.int (c * 48271 ^ 7 % 10 ^ 12), V.int (c * 69621 ^ 7 % (10 ^ 30 - 1))])) (upd (upd H2 gp (.lst [V.int (c * 48271 ^ 7 % 10 ^ 12), V.int (c * 69621 ^ 7 % (10 ^ 30 - 1))])) p2 (.lst [V.int (c / 4 / 4 % 10), V.int (12 * (c / 4 / 4 % 10) + 11), V.int (c * 48271 ^ 7 % 10 ^ 12), V.int (c * 69621 ^ 7 % (10 ^ 30 - 1))])) := same_upd n2
      refine ⟨_, rfl, _, _, _, _, rfl, rfl, SqL.of (s4 _ _ ef3), atI_nat (j := 1) rfl, p2, _, _, _, rfl, rfl, SqL.of upd_same, at_pick4 (by omega) (by omega), _, _, rfl, rfl, ?_⟩
      have ef4 := s4 _ _ ef3
      refine ⟨_, rfl, _, _, _, _, rfl, rfl, SqL.of ef4, atI_nat (j := 4) rfl, _, cell5, _, _, rfl, rfl, ⟨by decide, by decide, by decide⟩, _, _, rfl, rfl, pw (by decide), _, _, rfl, rfl, ⟨by decide, by decide, by decide⟩, _, _, rfl, rfl, (by show (0 : Int) < 10 ^ 15; decide), _, cell5, _, _, rfl, rfl, ⟨by decide, by decide, by decide⟩, _, _, rfl, rfl, pw (by decide), _, _, rfl, rfl, ⟨by decide, by decide, by decide⟩, _, _, rfl, rfl, (by show (0 : Int) < 10 ^ 30; decide), (by show 4 ≤ sizeLine; decide), fun p3 n3 => ?_⟩
      have s5 : Same (upd (upd H2 gp (.lst [V.int (c * 48271 ^ 7 % 10 ^ 12), V.int (c * 69621 ^ 7 % (10 ^ 30 - 1))])) p2 (.lst [V.int (c / 4 / 4 % 10), V.int (12 * (c / 4 / 4 % 10) + 11), V.int (c * 48271 ^ 7 % 10 ^ 12), V.int (c * 69621 ^ 7 % (10 ^ 30 - 1))])) (upd (upd (upd H2 gp (.lst [V.int (c * 48271 ^ 7 % 10 ^ 12), V.int (c * 69621 ^ 7 % (10 ^ 30 - 1))])) p2 (.lst [V.int (c / 4 / 4 % 10), V.int (12 * (c / 4 / 4 % 10) + 11), V.int (c * 48271 ^ 7 % 10 ^ 12), V.int (c * 69621 ^ 7 % (10 ^ 30 - 1))])) p3 (.lst [V.int 0, V.int (c / 4 / 4 / 10 / 4 % 12), V.int (c * 16807 ^ 8 % 10 ^ 15), V.int (c * 40692 ^ 8 % 10 ^ 30)])) := same_upd n3
      refine ⟨_, rfl, _, _, _, _, rfl, rfl, SqL.of (s5 _ _ ef4), atI_nat (j := 3) rfl, p3, _, _, _, rfl, rfl, SqL.of upd_same, at_pick4 (by omega) (by omega), ?_⟩
      have sAll : Same H' (upd (upd (upd H2 gp (.lst [V.int (c * 48271 ^ 7 % 10 ^ 12), V.int (c * 69621 ^ 7 % (10 ^ 30 - 1))])) p2 (.lst [V.int (c / 4 / 4 % 10), V.int (12 * (c / 4 / 4 % 10) + 11), V.int (c * 48271 ^ 7 % 10 ^ 12), V.int (c * 69621 ^ 7 % (10 ^ 30 - 1))])) p3 (.lst [V.int 0, V.int (c / 4 / 4 / 10 / 4 % 12), V.int (c * 16807 ^ 8 % 10 ^ 15), V.int (c * 40692 ^ 8 % 10 ^ 30)])) := ((s12.trans s3).trans s4).trans s5
      obtain ⟨ts, ho1, ho2, ho3⟩ := ho.same sAll
      refine ⟨_, rfl, .inl ⟨rfl, _, SqL.of ho1⟩, _, rfl, _, rfl, _, rfl, (by show 3 ≤ sizeLine; decide), fun t nt => ?_⟩
      have no5 : o ≠ t := ne_of_none ho1 nt
      have s6 : Same (upd (upd (upd H2 gp (.lst [V.int (c * 48271 ^ 7 % 10 ^ 12), V.int (c * 69621 ^ 7 % (10 ^ 30 - 1))])) p2 (.lst [V.int (c / 4 / 4 % 10), V.int (12 * (c / 4 / 4 % 10) + 11), V.int (c * 48271 ^ 7 % 10 ^ 12), V.int (c * 69621 ^ 7 % (10 ^ 30 - 1))])) p3 (.lst [V.int 0, V.int (c / 4 / 4 / 10 / 4 % 12), V.int (c * 16807 ^ 8 % 10 ^ 15), V.int (c * 40692 ^ 8 % 10 ^ 30)])) (upd (upd (upd (upd H2 gp (.lst [V.int (c * 48271 ^ 7 % 10 ^ 12), V.int (c * 69621 ^ 7 % (10 ^ 30 - 1))])) p2 (.lst [V.int (c / 4 / 4 % 10), V.int (12 * (c / 4 / 4 % 10) + 11), V.int (c * 48271 ^ 7 % 10 ^ 12), V.int (c * 69621 ^ 7 % (10 ^ 30 - 1))])) p3 (.lst [V.int 0, V.int (c / 4 / 4 / 10 / 4 % 12), V.int (c * 16807 ^ 8 % 10 ^ 15), V.int (c * 40692 ^ 8 % 10 ^ 30)])) t (.tup [V.int (dayUp ns i + c % 4), V.int (cntM c), V.int (costM c)])) := same_upd nt
      refine ⟨o, _, _, rfl, rfl, s6 _ _ ho1, ?_, some (.int (i : Int)), some (.int c), some (.ref fp), some (.ref gp), some (.int (cntM c)), some (.int (costM c)), ?_, same_mut (sm.trans (sAll.trans s6)) no, ?_⟩
      · rw [List.length_map, ho2, lotsOf_len]
        exact small1000 (by omega)
      · have ed : dayUp ns (i + 1) = dayUp ns i + c % 4 := by
          rw [← hc]
          rfl
        rw [ed]
        have ec : mixM (cellAt ns (2 + i % 6)) (i : Int) = c := by rw [← hc]; rfl
        show [some (V.ref a), some (V.int (n : Int)), some (V.ref o), some (V.int (dayUp ns i + c % 4)), some (V.int (i : Int)), some (V.int (mixM (cellAt ns (2 + i % 6)) (i : Int))), some (V.ref fp), some (V.ref gp), some (V.int (cntM c)), some (V.int (costM c))] = _
        rw [ec]
      · rw [lotsOf_snoc, hc]
        have ed : dayUp ns (i + 1) = dayUp ns i + c % 4 := by
          rw [← hc]
          rfl
        rw [ed]
        refine TpA.snoc (ho.same (sAll.trans s6)) (fun b u hb e => by rw [upd_ne hb]; exact e) (t := t) ?_ (s6 _ _ ho1) upd_same
        rw [upd_ne no5.symm, upd_same]
        rfl
    · rintro σ' H' ⟨v4, v5, v6, v7, v8, v9, rfl, sm, ho⟩
      exact ⟨_, rfl, q H' o sm no ho⟩

def spTuples : Sp := fun vs H Q _ => ∃ (a b : Addr) (rows : List (List Int)), vs = [.ref a, .ref b] ∧ TpA intsV H a rows ∧ TpA intsV H b rows ∧ rows.length ≤ 100000 ∧ (∀ r ∈ rows, r.length ≤ 100) ∧ ∀ H', Same H H' → Q (.bl true) H'
theorem fd_law_tuples {f : Addr} {fd : FuncData} (D : Dn K mg "_law_tuples" s_law_tuples ["_law_found", "_law_due"] f fd) (N : Nn mg) (c_law_whole : Fd P w K mg base CX0 1 "_law_whole" spWhole) : Fd P w K mg base CX0 2 "_law_tuples" spTuples := by
  refine D.fd (D.F.ok sc_law_tuples (fun vs H Q E h => ?_) (fun cdv A outer s H vs Q E hr h => ?_))
  · obtain ⟨a, b, rows, rfl, _⟩ := h
    rfl
  · obtain ⟨a, b, rows, rfl, ha, hb, hl, hr', q⟩ := h
    have nd := sc_law_tuples.nd
    refine ⟨_, (pss_cons (ps_if (PW.pt (pw_or (pt_not (pt_val (pe_callB call_isi (by rfl) N.isi boot_isinstance (pa_cons (pv 0) (pa_cons (pe_bltn (v := .ty "list") (by rfl) N.list boot_list rfl) pa_nil))))) (pw_or1 (pt_cmpR op_ne (pe_callB call_len_seq (by rfl) N.len boot_len (pa_cons (pv 0) pa_nil)) (pe_callB call_len_seq (by rfl) N.len boot_len (pa_cons (pv 1) pa_nil)) (nomark _))))) (pss_one (ps_ret pe_bl)) pss_nil)
      (pss_cons (ps_for PassesOwn.never rfl (pi_range1 (by rfl) N.range (pa_cons (pe_callB call_len_seq (by rfl) N.len boot_len (pa_cons (pv 1) pa_nil)) pa_nil)) (pg_name (i := 2) nd rfl (.inl rfl)) (pss_cons (ps_if (PW.pt (pw_or (pt_not (pt_val (pe_callB call_isi (by rfl) N.isi boot_isinstance (pa_cons (pe_ix ix_list (pv 0) (pv 2) (fun _ _ => rfl)) (pa_cons (pe_bltn (v := .ty "tuple") (by rfl) N.tuple boot_tuple rfl) pa_nil))))) (pw_or1 (pt_cmpR op_ne (pe_callB call_len_seq (by rfl) N.len boot_len (pa_cons (pe_ix ix_list (pv 0) (pv 2) (fun _ _ => rfl)) pa_nil)) (pe_callB call_len_seq (by rfl) N.len boot_len (pa_cons (pe_ix ix_list (pv 1) (pv 2) (fun _ _ => rfl)) pa_nil)) (nomark _))))) (pss_one (ps_ret pe_bl)) pss_nil)
      (pss_one (ps_if (PW.pt (pw_or (pt_not (pt_val (pe_callB (cr_all rfl) (by rfl) N.all boot_all (pa_cons (pe_lc (own := [("_law_one", 3)]) (g := gName 3) (tt := tYes) (te := (tCall spWhole [] E0 (tCons (tVar 3) tNil))) rfl nd (pi_tup (pe_ix ix_list (pv 0) (pv 2) (fun _ _ => rfl))) (blkOk_by (N := nn_law_tuples) (sc := defScope s_law_tuples) (by decide +kernel)) (fun _ _ _ _ _ => (pg_name (i := 3) nd rfl (.inl rfl))) (fun _ _ _ _ _ => pts_nil) (fun _ _ _ _ _ => (pe_cl c_law_whole hr (pa_cons (pv 3) pa_nil)))) pa_nil)))) (pw_or1 (pt_cmpR (op_neD hr.units) (pe_ix ix_list (pv 0) (pv 2) (fun _ _ => rfl)) (pe_ix ix_list (pv 1) (pv 2) (fun _ _ => rfl)) (nomark _))))) (pss_one (ps_ret pe_bl)) pss_nil))))
      (pss_one (ps_ret pe_bl)))), ?_⟩
    obtain ⟨ts, ta, tl, tt⟩ := id ha
    obtain ⟨us, ua, ul, ut⟩ := id hb
    refine ⟨_, rfl, _, _, _, _, true, rfl, .ty "list", .base (.lst ta), kit_ty (by decide +kernel), true, rfl, if_false_of rfl ?_⟩
    refine ⟨_, rfl, a, _, rfl, .inl (SqL.of ta), _, rfl, b, _, rfl, .inl (SqL.of ua), rfl, _, rfl, iteNS (by rw [List.length_map, List.length_map, tl, ul]) ?_⟩
    have el : ((us.map V.ref).length : Int) = (rows.length : Int) := by rw [List.length_map, ul]
    refine ⟨_, rfl, b, _, rfl, .inl (SqL.of ua), _, rfl, (by rw [el]; omega), (by rw [el]; omega), for_range (lo := 0) (n := ((us.map V.ref).length : Int).toNat) (fun i σ H' => ∃ v2 v3, σ = [some (.ref a), some (.ref b), v2, v3] ∧ Same H H') ⟨none, none, rfl, Same.refl H⟩ ?_ ?_⟩
    · rintro i σ H' hi ⟨v2, v3, rfl, sm⟩
      rw [el] at hi
      have hi' : i < rows.length := by omega
      have e0 : ((0 : Int) + (i : Int)) = (i : Int) := Int.zero_add _
      rw [e0]
      have g := List.getElem?_eq_getElem hi'
      have gt : ts[i]? = some ts[i] := List.getElem?_eq_getElem (by omega)
      have gu : us[i]? = some us[i] := List.getElem?_eq_getElem (by omega)
      generalize rows[i] = r at g
      generalize ts[i] = t at gt
      generalize us[i] = u at gu
      have et := tt i t r gt g
      have eu := ut i u r gu g
      have hrl := hr' r (List.mem_of_getElem? g)
      have ia : atI (ts.map V.ref) (i : Int) = some (V.ref t) := atI_nat (by rw [List.getElem?_map, gt]; rfl)
      have ib : atI (us.map V.ref) (i : Int) = some (V.ref u) := atI_nat (by rw [List.getElem?_map, gu]; rfl)
      have ta' := sm _ _ ta
      have ua' := sm _ _ ua
      have et' := sm _ _ et
      have eu' := sm _ _ eu
      refine ⟨_, rfl, _, rfl, _, _, _, _, rfl, rfl, SqL.of ta', ia, _, _, _, _, true, rfl, .ty "tuple", .base (.tup et'), kit_ty (by decide +kernel), true, rfl, if_false_of rfl ?_⟩
      refine ⟨_, rfl, _, rfl, _, _, _, _, rfl, rfl, SqL.of ta', ia, _, _, rfl, .inr (SqT.of et'), _, rfl, _, rfl, _, _, _, _, rfl, rfl, SqL.of ua', ib, _, _, rfl, .inr (SqT.of eu'), rfl, _, rfl, iteNS rfl ?_⟩
      refine ⟨_, rfl, _, rfl, _, _, _, _, rfl, rfl, SqL.of ta', ia, _, rfl, ⟨_, SqT.of et'⟩, fun Da nD => ?_⟩
      refine lcT_to (K := K) (fun _ y _ => y = .bl true) (SqT.of et') nD (whole_len (by rw [List.length_map]; omega)) (fun H' s1 => SqT.of (s1 _ _ et')) mono_pure ?_ ?_
      · intro j x H1 Z hx s1 _ hZ
        obtain ⟨z, hz, rfl⟩ := item_int hx
        exact ⟨rfl, _, rfl, z, rfl, hZ _ _ (Same.refl H1) rfl⟩
      · intro H1 ys s1 hD hlen hys
        have ey : ys = (List.replicate r.length true).map V.bl := by
          apply ext_get
          · rw [hlen, List.length_map, List.length_map, List.length_replicate]
          · intro j x y hx hy
            have hj := (List.getElem?_eq_some_iff.mp hx).1
            have hj2 : j < r.length := by rw [hlen, List.length_map] at hj; exact hj
            have := hys j _ x (by rw [List.getElem?_map, List.getElem?_eq_getElem hj2]; rfl) hx
            rw [this]
            rw [List.getElem?_map, List.getElem?_replicate, if_pos hj2] at hy
            exact Option.some.inj hy
        subst ey
        have eall : (List.replicate r.length true).all id = true := by
          rw [List.all_eq_true]
          intro x hx
          rw [List.eq_of_mem_replicate hx]
          rfl
        refine ⟨_, _, rfl, SqL.of hD, _, rfl, ?_⟩
        rw [eall]
        refine if_false_of rfl ?_
        refine ⟨_, rfl, _, rfl, _, _, _, _, rfl, rfl, SqL.of (s1 _ _ ta'), ia, _, rfl, _, rfl, _, _, _, _, rfl, rfl, SqL.of (s1 _ _ ua'), ib, ne_tints (SqT.of (s1 _ _ et')) (SqT.of (s1 _ _ eu')) ⟨_, rfl, iteNS rfl ?_⟩⟩
        exact ⟨some (.int (i : Int)), v3, rfl, sm.trans s1⟩
    · rintro σ H' ⟨v2, v3, rfl, sm⟩
      exact q H' sm

/-! ### the program: lots -/
def spMany : Sp := fun vs H Q _ => ∃ (a : Addr) (ls : List Lot), vs = [.ref a] ∧ TpA lotV H a ls ∧ ls.length ≤ 100000 ∧ ∀ H', Same H H' → Q (.int (manyL ls)) H'
theorem fd_many_of {f : Addr} {fd : FuncData} (D : Dn K mg "many_of" s_many_of ["lots"] f fd) (N : Nn mg) : Fd P w K mg base CX0 1 "many_of" spMany := by
  refine D.fd (D.F.ok sc_many_of (fun vs H Q E h => ?_) (fun cdv A outer s H vs Q E hr h => ?_))
  · obtain ⟨a, ls, rfl, _⟩ := h
    rfl
  · obtain ⟨a, ls, rfl, ha, hl, q⟩ := h
    have nd := sc_many_of.nd
    refine ⟨_, (pss_one (ps_ret (pe_callB (cr_sum rfl) (by rfl) N.sum boot_sum (pa_cons (pe_lc (own := [("_", 1), ("count", 2), ("_", 1)]) (g := gTup K 3 (gCons (gName 1) (gCons (gName 2) (gCons (gName 1) gNil)))) (tt := tYes) (te := (tVar 2)) rfl nd (pi_list (pv 0)) (blkOk_by (N := nn_many_of) (sc := defScope s_many_of) (by decide +kernel)) (fun _ _ _ _ _ => (pg_tup rfl (pgs_cons (pg_name (i := 1) nd rfl (.inl rfl)) (pgs_cons (pg_name (i := 2) nd rfl (.inl rfl)) (pgs_cons (pg_name (i := 1) nd rfl (.inl rfl)) pgs_nil))))) (fun _ _ _ _ _ => pts_nil) (fun _ _ _ _ _ => (pv 2))) pa_nil)))), ?_⟩
    obtain ⟨ts, ta, tl, tt⟩ := id ha
    refine ⟨_, rfl, a, rfl, ⟨_, SqL.of ta⟩, fun Da nD => ?_⟩
    refine lc_to (K := K) (fun x y _ => ∀ t l, x = .ref t → H t = some (.tup (lotV l)) → y = .int l.cnt) (SqL.of ta) nD (whole_len (by rw [List.length_map]; omega)) mono_pure ?_ ?_
    · intro j x H1 Z hx s1 _ hZ
      obtain ⟨t, l, rfl, hxl, ht⟩ := getM tt tl hx
      refine ⟨t, _, rfl, SqT.of (s1 _ _ ht), rfl, _, _, rfl, _, _, rfl, _, _, rfl, rfl, rfl, _, rfl, hZ _ _ (Same.refl H1) fun t' l' e ht' => ?_⟩
      cases e
      rw [ht] at ht'
      cases l
      cases l'
      cases ht'
      rfl
    · intro H1 ys s1 hD hlen hys
      have ey : ys = (ls.map Lot.cnt).map V.int := ints_of (by rw [hlen, List.length_map, tl]) fun j l y hj hy => by
        have hjl := (List.getElem?_eq_some_iff.mp hj).1
        have gt : ts[j]? = some ts[j] := List.getElem?_eq_getElem (by omega)
        exact hys j _ y (by rw [List.getElem?_map, gt]; rfl) hy _ l rfl (tt j _ l gt hj)
      subst ey
      exact ⟨_, _, rfl, SqL.of hD, q _ s1⟩
def spCost : Sp := fun vs H Q _ => ∃ (a : Addr) (ls : List Lot), vs = [.ref a] ∧ TpA lotV H a ls ∧ ls.length ≤ 100000 ∧ ∀ H', Same H H' → Q (.int (costL ls)) H'
theorem fd_cost_of {f : Addr} {fd : FuncData} (D : Dn K mg "cost_of" s_cost_of ["lots"] f fd) (N : Nn mg) : Fd P w K mg base CX0 1 "cost_of" spCost := by
  refine D.fd (D.F.ok sc_cost_of (fun vs H Q E h => ?_) (fun cdv A outer s H vs Q E hr h => ?_))
  · obtain ⟨a, ls, rfl, _⟩ := h
    rfl
  · obtain ⟨a, ls, rfl, ha, hl, q⟩ := h
    have nd := sc_cost_of.nd
    refine ⟨_, (pss_one (ps_ret (pe_callB (cr_sum rfl) (by rfl) N.sum boot_sum (pa_cons (pe_lc (own := [("_", 1), ("_", 1), ("cost", 2)]) (g := gTup K 3 (gCons (gName 1) (gCons (gName 1) (gCons (gName 2) gNil)))) (tt := tYes) (te := (tVar 2)) rfl nd (pi_list (pv 0)) (blkOk_by (N := nn_cost_of) (sc := defScope s_cost_of) (by decide +kernel)) (fun _ _ _ _ _ => (pg_tup rfl (pgs_cons (pg_name (i := 1) nd rfl (.inl rfl)) (pgs_cons (pg_name (i := 1) nd rfl (.inl rfl)) (pgs_cons (pg_name (i := 2) nd rfl (.inl rfl)) pgs_nil))))) (fun _ _ _ _ _ => pts_nil) (fun _ _ _ _ _ => (pv 2))) pa_nil)))), ?_⟩
    obtain ⟨ts, ta, tl, tt⟩ := id ha
    refine ⟨_, rfl, a, rfl, ⟨_, SqL.of ta⟩, fun Da nD => ?_⟩
    refine lc_to (K := K) (fun x y _ => ∀ t l, x = .ref t → H t = some (.tup (lotV l)) → y = .int l.cost) (SqL.of ta) nD (whole_len (by rw [List.length_map]; omega)) mono_pure ?_ ?_
    · intro j x H1 Z hx s1 _ hZ
      obtain ⟨t, l, rfl, hxl, ht⟩ := getM tt tl hx
      refine ⟨t, _, rfl, SqT.of (s1 _ _ ht), rfl, _, _, rfl, _, _, rfl, _, _, rfl, rfl, rfl, _, rfl, hZ _ _ (Same.refl H1) fun t' l' e ht' => ?_⟩
      cases e
      rw [ht] at ht'
      cases l
      cases l'
      cases ht'
      rfl
    · intro H1 ys s1 hD hlen hys
      have ey : ys = (ls.map Lot.cost).map V.int := ints_of (by rw [hlen, List.length_map, tl]) fun j l y hj hy => by
        have hjl := (List.getElem?_eq_some_iff.mp hj).1
        have gt : ts[j]? = some ts[j] := List.getElem?_eq_getElem (by omega)
        exact hys j _ y (by rw [List.getElem?_map, gt]; rfl) hy _ l rfl (tt j _ l gt hj)
      subst ey
      exact ⟨_, _, rfl, SqL.of hD, q _ s1⟩

def spUsed (CT : Addr) : Sp := fun vs H Q E => ∃ (a : Addr) (ls : List Lot) (c : Int), vs = [.ref a, .int c] ∧ TpA lotV H a ls ∧ ls.length ≤ 10000 ∧ 0 ≤ c ∧ c.natAbs < 2 ^ bB ∧ (∀ l ∈ ls, LotB bB l) ∧
  (manyL ls < c → ∀ H', Same H H' → E (.ref CT) none H') ∧
  (c ≤ manyL ls → ∀ H' p x y, Same H H' → H p = none → H' p = some (.tup [.ref x, .ref y]) → H x = none → H y = none → x ≠ y → TpA lotV H' x (takeL ls c) → TpA lotV H' y (leftL ls c) → Q (.ref p) H')
theorem fd_used {CT CS : Addr} {f : Addr} {fd : FuncData} (D : Dn K mg "used" s_used ["lots", "count"] f fd) (N : Nn mg) (g_TooFew : mg "TooFew" = some (.ref CT)) (e_TooFew : Er K CT CS) (c_many_of : Fd P w K mg base CX0 1 "many_of" spMany) : Fd P w K mg base (L2.CX P w) 2 "used" (spUsed CT) := by
  refine D.fd (D.F.okX sc_used (fun vs H Q E h => ?_) (fun cdv A outer s H vs Q E hr h => ?_))
  · obtain ⟨a, ls, c, rfl, _⟩ := h
    rfl
  · obtain ⟨a, ls, c, rfl, ha, hl, hc0, hcb, hls, kE, kQ⟩ := h
    have nd := sc_used.nd
    refine ⟨_, (pss_cons (ps_if (pt_cmpR op_gt (pv 1) (pe_cl c_many_of hr (pa_cons (pv 0) pa_nil)) (nomark _)) (pss_one (ps_raise rfl (takes_of rfl rfl rfl rfl) (pmk_own PySem.F.excBase_ValueError e_TooFew.x g_TooFew e_TooFew.k (raises_own e_TooFew.b e_TooFew.t) rfl))) pss_nil)
      (pss_cons (ps_set (i := 2) nd rfl (.inl rfl) (pe_lst pa_nil))
      (pss_cons (ps_set (i := 3) nd rfl (.inl rfl) (pe_lst pa_nil))
      (pss_cons (ps_set (i := 4) nd rfl (.inl rfl) (pv 1))
      (pss_cons (ps_for (passes_of rfl) rfl (pi_list (pv 0)) (pg_tup rfl (pgs_cons (pg_name (i := 5) nd rfl (.inl rfl)) (pgs_cons (pg_name (i := 6) nd rfl (.inl rfl)) (pgs_cons (pg_name (i := 7) nd rfl (.inl rfl)) pgs_nil)))) (pss_cons (ps_set (i := 8) nd rfl (.inl rfl) (pe_callB (call_min2 rfl) (by rfl) N.min boot_min (pa_cons (pv 4) (pa_cons (pv 6) pa_nil))))
      (pss_cons (ps_set (i := 9) nd rfl (.inl rfl) (pe_op op_fdivW (pe_op op_mulX (pv 7) (pv 8)) (pv 6)))
      (C8.pss_cut (ps_if (pt_cmpR op_gt (pv 8) pe_int (nomark _)) (pss_one (ps_expr (pe_bm PySem.F.plainAttrs_list PySem.F.slot_list_append PySem.F.type_list_append mt_append (pv 2) (pa_cons (pe_tup (pa_cons (pv 5) (pa_cons (pv 8) (pa_cons (pv 9) pa_nil)))) pa_nil)))) pss_nil)
      (C8.pss_cut (ps_if (pt_cmpR op_lt (pv 8) (pv 6) (nomark _)) (pss_one (ps_expr (pe_bm PySem.F.plainAttrs_list PySem.F.slot_list_append PySem.F.type_list_append mt_append (pv 3) (pa_cons (pe_tup (pa_cons (pv 5) (pa_cons (pe_op op_sub (pv 6) (pv 8)) (pa_cons (pe_op op_sub (pv 7) (pv 9)) pa_nil)))) pa_nil)))) pss_nil)
      (pss_one (ps_aug (i := 4) nd rfl (.inl rfl) (pv 8) ip_sub)))))))
      (pss_one (ps_ret (pe_tup (pa_cons (pv 2) (pa_cons (pv 3) pa_nil)))))))))), ?_⟩
    refine ⟨_, rfl, _, rfl, a, ls, rfl, ha, by omega, fun H1 s1 => ?_⟩
    refine ⟨_, _, rfl, rfl, _, rfl, ?_⟩
    by_cases hm : manyL ls < c
    · exact if_true_of (decide_eq_true hm) (kE hm H1 s1)
    refine if_false_of (decide_eq_false hm) ?_
    refine ⟨Nat.zero_le _, fun x nx => ⟨Nat.zero_le _, fun y ny => ?_⟩⟩
    have nxy : x ≠ y := ne_of_none (H := upd H1 x (.lst [])) upd_same ny
    have nxH : H x = none := s1.free nx
    have s2 : Same H (upd H1 x (.lst [])) := s1.trans (same_upd nx)
    have nyH : H y = none := s2.free ny
    have s3 : Same H (upd (upd H1 x (.lst [])) y (.lst [])) := s2.trans (same_upd ny)
    obtain ⟨ts, ta, tl, tt⟩ := id ha
    refine ⟨_, rfl, ?_⟩
    refine ⟨_, rfl, a, rfl, ⟨_, SqL.of (s3 _ _ ta)⟩, for_list (K := K) (a := a) (xs := ts.map V.ref) (fun i σ H' => ∃ v5 v6 v7 v8 v9, σ = [some (.ref a), some (.int c), some (.ref x), some (.ref y), some (.int (restL (ls.take i) c)), v5, v6, v7, v8, v9] ∧ Same H H' ∧
        TpA lotV H' x (takeL (ls.take i) c) ∧ TpA lotV H' y (leftL (ls.take i) c))
      ⟨none, none, none, none, none, rfl, s3, TpA.nil (by rw [upd_ne nxy, upd_same]), TpA.nil upd_same⟩ (fun i σ H' _ ⟨_, _, _, _, _, _, sm, _⟩ => SqL.of (sm _ _ ta)) ?_ ?_⟩
    · rintro i v σ H' hi ⟨v5, v6, v7, v8, v9, rfl, sm, hx, hy⟩
      obtain ⟨t, l, rfl, hil, ht⟩ := getM tt tl hi
      have hlb := hls l (List.mem_of_getElem? hil)
      have hin := (List.getElem?_eq_some_iff.mp hil).1
      have et := take_snoc hil
      have r0 := restL_ge (ls.take i) c hc0 (fun z hz => by have := (hls z (List.mem_of_mem_take hz)).c0; omega)
      have r1 := restL_le (ls.take i) c hc0 (fun z hz => by have := (hls z (List.mem_of_mem_take hz)).c0; omega)
      have lx := takeL_len (ls.take i) c
      have ly := leftL_len (ls.take i) c
      rw [List.length_take] at lx ly
      have ex := takeL_snoc (ls.take i) l c
      rw [← et] at ex
      have ey := leftL_snoc (ls.take i) l c
      rw [← et] at ey
      have er := restL_snoc (ls.take i) l c
      rw [← et] at er
      generalize restL (ls.take i) c = r at *
      have hm1 := mn_le l.cnt r
      have ec : mn l.cnt r = mn r l.cnt := by
        rw [mn_is, mn_is]
        omega
      rw [ec] at ex ey er hm1
      have hp0 : 0 ≤ mn r l.cnt := by have := hlb.c0; omega
      have hpb : (mn r l.cnt).natAbs < 2 ^ bB := wide_le hp0 hm1.1 hlb.c
      refine ⟨t, _, rfl, SqT.of (sm _ _ ht), rfl, _, _, rfl, _, _, rfl, _, _, rfl, rfl, ?_⟩
      refine ⟨_, rfl, _, rfl, _, _, rfl, ?_⟩
      refine ⟨_, rfl, _, rfl, _, _, rfl, rfl, mulX hlb.k (show (mn r l.cnt).natAbs < 2 ^ bB from hpb) (by decide) (by decide) (by decide), _, rfl, _, _, rfl, rfl, wide_div (by have := hlb.c0; omega) hlb.c (by decide) (by decide), ?_⟩
      -- what is taken
      refine ⟨fun σ' H2 => σ' = [some (.ref a), some (.int c), some (.ref x), some (.ref y), some (.int r), some (.int l.day), some (.int l.cnt), some (.int l.cost), some (.int (mn r l.cnt)), some (.int (l.cost * mn r l.cnt / l.cnt))] ∧ Same H H2 ∧
        TpA lotV H2 x (takeL (ls.take (i + 1)) c) ∧ TpA lotV H2 y (leftL (ls.take i) c), ?_, ?_⟩
      · refine ⟨_, rfl, _, _, rfl, rfl, _, rfl, ?_⟩
        by_cases hp : 0 < mn r l.cnt
        · refine if_true_of (decide_eq_true hp) ?_
          obtain ⟨us, ux, ul, ut⟩ := id hx
          refine ⟨_, rfl, .inl ⟨rfl, _, SqL.of ux⟩, _, rfl, _, rfl, _, rfl, (by show 3 ≤ sizeLine; decide), fun u nu => ?_⟩
          have sx := same_upd (o := .tup [V.int l.day, V.int (mn r l.cnt), V.int (l.cost * mn r l.cnt / l.cnt)]) nu
          have nux : x ≠ u := ne_of_none ux nu
          refine ⟨x, _, _, rfl, rfl, sx _ _ ux, ?_, rfl, same_mut (sm.trans sx) nxH, ?_, ?_⟩
          · rw [List.length_map, ul]
            exact small1000' (by omega)
          · rw [ex, if_pos hp]
            refine TpA.snoc (hx.same sx) (fun b z hb e => by rw [upd_ne hb]; exact e) (t := u) ?_ (sx _ _ ux) upd_same
            rw [upd_ne nux.symm]
            exact upd_same
          · exact (hy.same sx).but ⟨_, sx _ _ ux⟩ nxy.symm fun b z hb e => by rw [upd_ne hb]; exact e
        · refine if_false_of (decide_eq_false hp) ?_
          refine ⟨rfl, sm, ?_, hy⟩
          rw [ex, if_neg hp, List.append_nil]
          exact hx
      rintro σ2 H2 ⟨rfl, sm2, hx2, hy2⟩
      -- what is left
      refine ⟨fun σ' H3 => σ' = [some (.ref a), some (.int c), some (.ref x), some (.ref y), some (.int r), some (.int l.day), some (.int l.cnt), some (.int l.cost), some (.int (mn r l.cnt)), some (.int (l.cost * mn r l.cnt / l.cnt))] ∧ Same H H3 ∧
        TpA lotV H3 x (takeL (ls.take (i + 1)) c) ∧ TpA lotV H3 y (leftL (ls.take (i + 1)) c), ?_, ?_⟩
      · refine ⟨_, rfl, _, rfl, _, _, rfl, rfl, _, rfl, ?_⟩
        by_cases hp : mn r l.cnt < l.cnt
        · refine if_true_of (decide_eq_true hp) ?_
          obtain ⟨us, ux, ul, ut⟩ := id hy2
          obtain ⟨us', ux', _, _⟩ := id hx2
          refine ⟨_, rfl, .inl ⟨rfl, _, SqL.of ux⟩, _, rfl, _, rfl, _, rfl, _, _, rfl, rfl, _, rfl, _, rfl, _, _, rfl, rfl, (by show 3 ≤ sizeLine; decide), fun u nu => ?_⟩
          have sx := same_upd (o := .tup [V.int l.day, V.int (l.cnt - mn r l.cnt), V.int (l.cost - l.cost * mn r l.cnt / l.cnt)]) nu
          have nux : y ≠ u := ne_of_none ux nu
          refine ⟨y, _, _, rfl, rfl, sx _ _ ux, ?_, rfl, same_mut (sm2.trans sx) nyH, ?_, ?_⟩
          · rw [List.length_map, ul]
            exact small1000' (by omega)
          · exact (hx2.same sx).but ⟨_, sx _ _ ux⟩ nxy fun b z hb e => by rw [upd_ne hb]; exact e
          · rw [ey, if_pos hp]
            refine TpA.snoc (hy2.same sx) (fun b z hb e => by rw [upd_ne hb]; exact e) (t := u) ?_ (sx _ _ ux) upd_same
            rw [upd_ne nux.symm]
            exact upd_same
        · refine if_false_of (decide_eq_false hp) ?_
          refine ⟨rfl, sm2, hx2, ?_⟩
          rw [ey, if_neg hp, List.append_nil]
          exact hy2
      rintro σ3 H3 ⟨rfl, sm3, hx3, hy3⟩
      refine ⟨_, rfl, _, rfl, _, _, rfl, rfl, some (.int l.day), some (.int l.cnt), some (.int l.cost), some (.int (mn r l.cnt)), some (.int (l.cost * mn r l.cnt / l.cnt)), ?_, sm3, hx3, hy3⟩
      rw [er]
      rfl
    · rintro σ H' ⟨v5, v6, v7, v8, v9, rfl, sm, hx, hy⟩
      rw [List.length_map, tl, List.take_length] at hx hy
      refine ⟨_, rfl, _, rfl, (by show 2 ≤ sizeLine; decide), fun p np => ?_⟩
      exact kQ (by omega) _ p x y (sm.trans (same_upd np)) (sm.free np) upd_same nxH nyH nxy (hx.same (same_upd np)) (hy.same (same_upd np))

end
end Lb
namespace Lb
open PySem PySem.Spec PyProof.Rows L2

section
variable {P : Program} {w : World} {K : PySem.W.Frag} {mg : Str → Option Value} {base : Heap}

def spAny (K : PySem.W.Frag) : Sp := fun vs H Q _ => ∃ (a : Addr) (ls : List Lot) (c : Int), vs = [.ref a, .int c] ∧ TpA lotV H a ls ∧ ls.length ≤ 1000 ∧ 0 ≤ c ∧ c.natAbs < 2 ^ bB ∧ (∀ l ∈ ls, LotB bB l) ∧ manyL ls < c ∧ ∀ H', Same H H' → Q (.bl true) H'
theorem fd_law_refused_by_any {CT CS : Addr} {f : Addr} {fd : FuncData} (D : Dn K mg "_law_refused_by_any" s_law_refused_by_any ["_law_lots_here", "_law_count"] f fd) (N : Nn mg) (g_ShareError : mg "ShareError" = some (.ref CS)) (e_TooFew : Er K CT CS) (c_used : Fd P w K mg base (L2.CX P w) 2 "used" (spUsed CT)) :
    Fd P w K mg base CX0 3 "_law_refused_by_any" (spAny K) := by
  refine D.fd (D.F.ok sc_law_refused_by_any (fun vs H Q E h => ?_) (fun cdv A outer s H vs Q E hr h => ?_))
  · obtain ⟨a, ls, c, rfl, _⟩ := h
    rfl
  · obtain ⟨a, ls, c, rfl, ha, hl, hc0, hcb, hls, hm, q⟩ := h
    have nd := sc_law_refused_by_any.nd
    refine ⟨_, (pss_cons (ps_try_as (i := 2) (tb := fun W => tDrop (tCallS (spUsed CT) (WE W) (tCons (tVar 0) (tCons (tVar 1) tNil)))) (ts := fun a cls d => tWhen (cls = .ref CT ∧ d = none) (tRet (tCB (rIsE K CT a) (tCons (tVar 2) (tCons (tC (.ty "ValueError")) tNil))))) (Wout := fun _ _ _ _ => False) rfl rfl nd rfl rfl ⟨rfl, by decide, .inl g_ShareError⟩ takes0 (fun W pn xe tk _ => (pss_one (ps_expr (pe_clS c_used hr (fun σ => passAt tk σ) (by exact (pa_cons (pv 0) (pa_cons (pv 1) pa_nil))))))) (fun a oe cls d pn hz hf => pss_when fun hcd => by
          obtain ⟨rfl, rfl⟩ := hcd
          exact (pss_one (ps_ret (pe_callB (call_isE e_TooFew.c hz hf) (by rfl) N.isi boot_isinstance (pa_cons (pv 2) (pa_cons (pe_bltn (v := .ty "ValueError") (by rfl) N.ve (by decide +kernel) rfl) pa_nil)))))))
      (pss_one (ps_ret pe_bl))), ?_⟩
    refine ⟨_, rfl, _, rfl, a, ls, c, rfl, ha, by omega, hc0, hcb, hls, fun _ H1 s1 => ?_, fun z => by omega⟩
    refine ⟨true, e_TooFew.s, fun _ a0 _ => ?_, fun z => Bool.noConfusion z⟩
    exact ⟨⟨rfl, rfl⟩, _, rfl, .ty "ValueError", .type "ValueError", true, rfl, fun u hu => hu, e_TooFew.i, q _ s1⟩
def spLaw (K : PySem.W.Frag) : Sp := fun vs H Q _ => ∃ (a : Addr) (ns : List Int), vs = [.ref a] ∧ SqL K H a (ns.map V.int) ∧ ns.length ≤ 63 ∧ (∀ z ∈ ns, z.natAbs < 2 ^ bS) ∧ ∀ H', Q (.bl true) H'
theorem ok_law {CT CS : Addr} {f : Addr} {fd : FuncData} (D : Dn K mg "law" s_law ["_law_script"] f fd) (N : Nn mg) (g_TooFew : mg "TooFew" = some (.ref CT)) (e_TooFew : Er K CT CS)
    (c_many_of : Fd P w K mg base CX0 1 "many_of" spMany) (c_cost_of : Fd P w K mg base CX0 1 "cost_of" spCost) (c_used : Fd P w K mg base (L2.CX P w) 2 "used" (spUsed CT))
    (c_law_whole : Fd P w K mg base CX0 1 "_law_whole" spWhole) (c_law_cell_at : Fd P w K mg base CX0 1 "_law_cell_at" (spCell K)) (c_law_drawn : Fd P w K mg base CX0 1 "_law_drawn" (spDrawn K))
    (c_law_lots : Fd P w K mg base CX0 2 "_law_lots" (spLots K)) (c_law_tuples : Fd P w K mg base CX0 2 "_law_tuples" spTuples) (c_law_refused_by_any : Fd P w K mg base CX0 3 "_law_refused_by_any" (spAny K)) :
    FnOk P w K mg base CX0 4 f fd ["_law_script"] (spLaw K) := by
  refine D.F.ok sc_law (fun vs H Q E h => ?_) (fun cdv A outer s H vs Q E hr h => ?_)
  · obtain ⟨a, ns, rfl, _⟩ := h
    rfl
  · obtain ⟨a, ns, rfl, hS, hlen, hbits, q⟩ := h
    have nd := sc_law.nd
    refine ⟨_, (pss_cons (ps_set (i := 1) nd rfl (.inl rfl) (pe_cl c_law_drawn hr (pa_cons (pe_cl c_law_cell_at hr (pa_cons (pv 0) (pa_cons pe_int pa_nil))) (pa_cons (pe_lst (pa_cons pe_int (pa_cons pe_int (pa_cons pe_int (pa_cons pe_int pa_nil))))) pa_nil))))
      (pss_cons (ps_set (i := 2) nd rfl (.inl rfl) (pe_ix ix_list (pv 1) pe_int (fun _ _ => rfl)))
      (C8.pss_cut (ps_if (pt_cmpR op_eq (pe_ix ix_list (pv 1) pe_int (fun _ _ => rfl)) pe_int (nomark _)) (pss_one (ps_set (i := 2) nd rfl (.inl rfl) pe_int)) pss_nil)
      (pss_cons (ps_set (i := 3) nd rfl (.inl rfl) (pe_cl c_law_lots hr (pa_cons (pv 0) (pa_cons (pv 2) pa_nil))))
      (pss_cons (ps_set (i := 5) nd rfl (.inl rfl) (pe_callB (cr_sum rfl) (by rfl) N.sum boot_sum (pa_cons (pe_lc (own := [("_law_lot", 4)]) (g := gName 4) (tt := tYes) (te := (tOp (rIxT K) (tVar 4) (tC (.int 1)))) rfl nd (pi_list (pv 3)) (blkOk_by (N := nn_law) (sc := defScope s_law) (by decide +kernel)) (fun _ _ _ _ _ => (pg_name (i := 4) nd rfl (.inl rfl))) (fun _ _ _ _ _ => pts_nil) (fun _ _ _ _ _ => (pe_ix ix_tup (pv 4) pe_int (fun _ _ => rfl)))) pa_nil)))
      (pss_cons (ps_set (i := 6) nd rfl (.inl rfl) (pe_op op_mod (pe_cl c_law_cell_at hr (pa_cons (pv 0) (pa_cons pe_int pa_nil))) (pe_op op_add (pv 5) pe_int)))
      (C8.pss_cut (ps_if (pt_cmpR op_eq (pe_ix ix_list (pv 1) pe_int (fun _ _ => rfl)) pe_int (nomark _)) (pss_one (ps_set (i := 6) nd rfl (.inl rfl) (pe_callB (cr_sum rfl) (by rfl) N.sum boot_sum (pa_cons (pe_lc (own := [("_law_lot", 4)]) (g := gName 4) (tt := tYes) (te := (tOp (rIxT K) (tVar 4) (tC (.int 1)))) rfl nd (pi_list (pe_slice sl_list (pv 3) po_none (po_some (pe_op op_mulX (pe_ix ix_list (pv 1) pe_int (fun _ _ => rfl)) (pe_op op_add pe_int (pe_op op_fdiv (pv 2) pe_int)))))) (blkOk_by (N := nn_law) (sc := defScope s_law) (by decide +kernel)) (fun _ _ _ _ _ => (pg_name (i := 4) nd rfl (.inl rfl))) (fun _ _ _ _ _ => pts_nil) (fun _ _ _ _ _ => (pe_ix ix_tup (pv 4) pe_int (fun _ _ => rfl)))) pa_nil)))) pss_nil)
      (pss_cons (ps_set (i := 6) nd rfl (.inl rfl) (pe_callB (call_min2 rfl) (by rfl) N.min boot_min (pa_cons (pv 6) (pa_cons (pe_op op_sub (pe_op op_pow pe_int pe_int) pe_int) pa_nil))))
      (pss_cons (ps_set (i := 7) nd rfl (.inl rfl) (pe_callTy call_list_of (by rfl) N.list boot_list (pa_cons (pv 3) pa_nil)))
      (pss_cons (ps_if (PW.pt (pw_or (pt_not (pt_val (pe_cl c_law_whole hr (pa_cons (pe_cl c_many_of hr (pa_cons (pv 7) pa_nil)) pa_nil)))) (pw_or1 (pt_cmpR op_ne (pe_cl c_many_of hr (pa_cons (pv 7) pa_nil)) (pv 5) (nomark _))))) (pss_one (ps_ret pe_bl)) pss_nil)
      (pss_cons (ps_set (i := 8) nd rfl (.inl rfl) (pe_cl c_cost_of hr (pa_cons (pv 7) pa_nil)))
      (pss_cons (ps_if (PW.pt (pw_or (pt_not (pt_val (pe_cl c_law_whole hr (pa_cons (pv 8) pa_nil)))) (pw_or (pt_cmpR op_ne (pv 8) (pe_callB (cr_sum rfl) (by rfl) N.sum boot_sum (pa_cons (pe_lc (own := [("_law_lot", 4)]) (g := gName 4) (tt := tYes) (te := (tOp (rIxT K) (tVar 4) (tC (.int 2)))) rfl nd (pi_list (pv 3)) (blkOk_by (N := nn_law) (sc := defScope s_law) (by decide +kernel)) (fun _ _ _ _ _ => (pg_name (i := 4) nd rfl (.inl rfl))) (fun _ _ _ _ _ => pts_nil) (fun _ _ _ _ _ => (pe_ix ix_tup (pv 4) pe_int (fun _ _ => rfl)))) pa_nil)) (nomark _)) (pw_or1 (pt_cmpR (op_neD hr.units) (pv 7) (pv 3) (nomark _)))))) (pss_one (ps_ret pe_bl)) pss_nil)
      (pss_cons (ps_set (i := 9) nd rfl (.inl rfl) pe_bl)
      (pss_cons (ps_set (i := 8) nd rfl (.inl rfl) (pe_tup (pa_cons (pe_lst pa_nil) (pa_cons (pe_lst pa_nil) pa_nil))))
      (C8.pss_cut (ps_try_only (tb := fun W => tAsg (tCallS (spUsed CT) (WE W) (tCons (tVar 7) (tCons (tVar 6) tNil))) (gName 8)) (ts := fun _ _ _ => tAsg (tC (.bl true)) (gName 9)) (Wout := fun _ _ _ _ => False) rfl rfl ⟨rfl, by decide, .inl g_TooFew⟩ takes0 (fun W pn xe tk _ => (pss_one (ps_set (i := 8) nd rfl (.inl rfl) (pe_clS c_used hr (fun σ => passAt tk σ) (by exact (pa_cons (pv 7) (pa_cons (pv 6) pa_nil))))))) (fun _ _ _ _ _ _ _ => (pss_one (ps_set (i := 9) nd rfl (.inl rfl) pe_bl))))
      (pss_cons (ps_if (pt_cmpR (op_neD hr.units) (pv 7) (pv 3) (nomark _)) (pss_one (ps_ret pe_bl)) pss_nil)
      (pss_cons (ps_if (pt_cmpR op_gt (pv 6) (pv 5) (nomark _)) (pss_one (ps_ret (pe_and (pv 9) (pe_one (pe_cl c_law_refused_by_any hr (pa_cons (pv 3) (pa_cons (pv 6) pa_nil))))))) pss_nil)
      (pss_cons (ps_set (i := 10) nd rfl (.inl rfl) (pe_lst pa_nil))
      (pss_cons (ps_set (i := 11) nd rfl (.inl rfl) (pe_lst pa_nil))
      (pss_cons (ps_for PassesOwn.never rfl (pi_list (pv 3)) (pg_name (i := 4) nd rfl (.inl rfl)) (pss_cons (ps_set (i := 12) nd rfl (.inl rfl) (pe_callB (call_max2 rfl) (by rfl) N.max boot_max (pa_cons pe_int (pa_cons (pe_callB (call_min2 rfl) (by rfl) N.min boot_min (pa_cons (pe_ix ix_tup (pv 4) pe_int (fun _ _ => rfl)) (pa_cons (pe_op op_sub (pv 6) (pe_callB (cr_sum rfl) (by rfl) N.sum boot_sum (pa_cons (pe_lc (own := [("_law_one", 14)]) (g := gName 14) (tt := tYes) (te := (tOp (rIxT K) (tVar 14) (tC (.int 1)))) rfl nd (pi_list (pv 10)) (blkOk_by (N := nn_law) (sc := defScope s_law) (by decide +kernel)) (fun _ _ _ _ _ => (pg_name (i := 14) nd rfl (.inl rfl))) (fun _ _ _ _ _ => pts_nil) (fun _ _ _ _ _ => (pe_ix ix_tup (pv 14) pe_int (fun _ _ => rfl)))) pa_nil))) pa_nil))) pa_nil))))
      (pss_cons (ps_set (i := 13) nd rfl (.inl rfl) (pe_op op_fdivW (pe_op op_mulX (pe_ix ix_tup (pv 4) pe_int (fun _ _ => rfl)) (pv 12)) (pe_ix ix_tup (pv 4) pe_int (fun _ _ => rfl))))
      (C8.pss_cut (ps_if (pt_cmpR op_gt (pv 12) pe_int (nomark _)) (pss_one (ps_expr (pe_bm PySem.F.plainAttrs_list PySem.F.slot_list_append PySem.F.type_list_append mt_append (pv 10) (pa_cons (pe_tup (pa_cons (pe_ix ix_tup (pv 4) pe_int (fun _ _ => rfl)) (pa_cons (pv 12) (pa_cons (pv 13) pa_nil)))) pa_nil)))) pss_nil)
      (pss_one (ps_if (pt_cmpR op_lt (pv 12) (pe_ix ix_tup (pv 4) pe_int (fun _ _ => rfl)) (nomark _)) (pss_one (ps_expr (pe_bm PySem.F.plainAttrs_list PySem.F.slot_list_append PySem.F.type_list_append mt_append (pv 11) (pa_cons (pe_tup (pa_cons (pe_ix ix_tup (pv 4) pe_int (fun _ _ => rfl)) (pa_cons (pe_op op_sub (pe_ix ix_tup (pv 4) pe_int (fun _ _ => rfl)) (pv 12)) (pa_cons (pe_op op_sub (pe_ix ix_tup (pv 4) pe_int (fun _ _ => rfl)) (pv 13)) pa_nil)))) pa_nil)))) pss_nil))))))
      (pss_cons (ps_if (PW.pt (pw_or (pt_val (pv 9)) (pw_or (pt_not (pt_val (pe_callB call_isi (by rfl) N.isi boot_isinstance (pa_cons (pv 8) (pa_cons (pe_bltn (v := .ty "tuple") (by rfl) N.tuple boot_tuple rfl) pa_nil))))) (pw_or1 (pt_cmpR op_ne (pe_callB call_len_seq (by rfl) N.len boot_len (pa_cons (pv 8) pa_nil)) pe_int (nomark _)))))) (pss_one (ps_ret pe_bl)) pss_nil)
      (pss_one (ps_ret (pe_and (pe_cl c_law_tuples hr (pa_cons (pe_ix ix_tup (pv 8) pe_int (fun _ _ => rfl)) (pa_cons (pv 10) pa_nil))) (pe_one (pe_cl c_law_tuples hr (pa_cons (pe_ix ix_tup (pv 8) pe_int (fun _ _ => rfl)) (pa_cons (pv 11) pa_nil)))))))))))))))))))))))))))), ?_⟩
    -- the draws
    refine ⟨_, rfl, a, ns, 0, rfl, hS, (by show 4 ≤ sizeLine; decide), fun p1 n1 => ?_⟩
    have s1 : Same H (upd H p1 (.lst [V.int 7, V.int 3, V.int 7, V.int 8])) := same_upd n1
    refine ⟨_, p1, [7, 3, 7, 8], rfl, SqL.of upd_same, (by decide), (by decide), fun H1 fp s2 nf ef => ?_⟩
    have sA : Same H H1 := s1.trans s2
    obtain ⟨x, hx⟩ : ∃ x, x = cellAt ns 0 := ⟨_, rfl⟩
    rw [← hx] at ef
    have ef' : H1 fp = some (.lst [V.int (x % 7), V.int (x / 7 % 3), V.int (x / 7 / 3 % 7), V.int (x / 7 / 3 / 7 % 8)]) := ef
    refine ⟨_, rfl, _, _, _, _, rfl, rfl, SqL.of ef', atI_nat (j := 0) rfl, ?_⟩
    -- how many
    refine ⟨fun σ' H' => ∃ n : Nat, n ≤ 60 ∧ σ' = [some (.ref a), some (.ref fp), some (.int (n : Int)), none, none, none, none, none, none, none, none, none, none, none, none] ∧ H' = H1, ?_, ?_⟩
    · refine ⟨_, rfl, _, _, _, _, rfl, rfl, SqL.of ef', atI_nat (j := 3) rfl, rfl, _, rfl, ite2 (fun _ => ?_) (fun _ => ?_)⟩
      · exact ⟨60, Nat.le_refl _, rfl, rfl⟩
      · refine ⟨(x % 7).toNat, by omega, ?_, rfl⟩
        have e : (((x % 7).toNat : Nat) : Int) = x % 7 := Int.toNat_of_nonneg (by omega)
        rw [e]
        rfl
    rintro σ1 H1' ⟨n, hn, rfl, rfl⟩
    -- the lots
    refine ⟨_, rfl, _, rfl, a, ns, n, rfl, sA.seq hS, by omega, hbits, fun H2 lp s3 nl hL => ?_⟩
    have okL := lotsOf_ok ns (n := n) (by omega)
    have lenL := lotsOf_len ns n
    generalize lotsOf ns n = L at hL okL lenL
    have bL : ∀ l ∈ L, LotB bB l := fun l hl => (okL l hl).b
    have cL : ∀ l ∈ L, 0 ≤ l.cnt := fun l hl => by have := (okL l hl).c0; omega
    have there0 := manyL_ge cL
    have sB : Same H H2 := sA.trans s3
    refine sum_col (h := Lot.cnt) rfl hL (by omega) at_cnt (by show 4 < 15; decide) fun H3 s4 => ?_
    have sC : Same H H3 := sB.trans s4
    -- the count
    refine ⟨_, rfl, a, ns, 1, rfl, sC.seq hS, _, rfl, _, _, rfl, rfl, _, _, rfl, rfl, (by show (0 : Int) < manyL L + 3; omega), ?_⟩
    refine ⟨fun σ' H' => ∃ c : Int, 0 ≤ c ∧ σ' = [some (.ref a), some (.ref fp), some (.int (n : Int)), some (.ref lp), none, some (.int (manyL L)), some (.int c), none, none, none, none, none, none, none, none] ∧ Same H3 H', ?_, ?_⟩
    · refine ⟨_, rfl, _, _, _, _, rfl, rfl, SqL.of (s4 _ _ (s3 _ _ ef')), atI_nat (j := 1) rfl, rfl, _, rfl, ite2 (fun _ => ?_) (fun _ => ?_)⟩
      · obtain ⟨ts, ta, tl, tt⟩ := hL.same s4
        refine ⟨_, rfl, _, rfl, _, _, _, _, rfl, rfl, SqL.of (s4 _ _ (s3 _ _ ef')), atI_nat (j := 2) rfl, _, rfl, _, _, rfl, rfl, ⟨by decide, by decide⟩, _, _, rfl, rfl, _, _, rfl, rfl, mulX (a := 10) (b := 10) (by show (x / 7 / 3 % 7).natAbs < 1024; omega) (by show (1 + (n : Int) / 8).natAbs < 1024; omega) (by decide) (by decide) (by decide), _, rfl, _, _, rfl, SqL.of ta, fun p np => ?_⟩
        obtain ⟨k, hk⟩ : ∃ k : Nat, x / 7 / 3 % 7 * (1 + (n : Int) / 8) = (k : Int) := ⟨(x / 7 / 3 % 7 * (1 + (n : Int) / 8)).toNat, (Int.toNat_of_nonneg (Int.mul_nonneg (by omega) (by omega))).symm⟩
        have hsl : TpA lotV (upd H3 p (.lst (cutV (ts.map V.ref) none (some (x / 7 / 3 % 7 * (1 + (n : Int) / 8)))))) p (L.take k) := by
          rw [hk, cut_take]
          exact TpA.take tl (fun i t z ht hz => (same_upd np) _ _ (tt i t z ht hz)) upd_same
        have sp := same_upd (o := .lst (cutV (ts.map V.ref) none (some (x / 7 / 3 % 7 * (1 + (n : Int) / 8))))) np
        refine ⟨p, rfl, ⟨_, SqL.of upd_same⟩, fun Da nD => ?_⟩
        refine lc_col (h := Lot.cnt) hsl (by rw [List.length_take]; omega) nD at_cnt (by show 4 < 15; decide) fun H5 s5 hD => ?_
        refine ⟨_, _, rfl, SqL.of hD, manyL (L.take k), ?_, rfl, sp.trans s5⟩
        exact manyL_ge fun l hl => cL l (List.mem_of_mem_take hl)
      · exact ⟨_, Int.emod_nonneg _ (show manyL L + 3 ≠ 0 by omega), rfl, Same.refl _⟩
    rintro σ2 H4 ⟨c0, hc00, rfl, s5⟩
    refine ⟨_, rfl, _, _, rfl, rfl, ⟨by decide, by decide, by decide⟩, _, _, rfl, rfl, _, _, rfl, ?_⟩
    have hcc : 0 ≤ mn c0 (10 ^ 30 - 1) ∧ (mn c0 (10 ^ 30 - 1)).natAbs < 2 ^ 100 := mn_abs (n := 0) hc00
    have hcbB : (mn c0 (10 ^ 30 - 1)).natAbs < 2 ^ bB := up_abs hcc.2 (by decide)
    -- handed
    have hL4 : TpA lotV H4 lp L := (hL.same s4).same s5
    obtain ⟨ts, ta, tl, tt⟩ := id hL4
    refine ⟨_, rfl, lp, _, rfl, .inl (SqL.of ta), fun hp nh => ?_⟩
    have s6 : Same H4 (upd H4 hp (.lst (ts.map V.ref))) := same_upd nh
    have hH6 : TpA lotV (upd H4 hp (.lst (ts.map V.ref))) hp L := hL4.copy s6 ta upd_same
    have hL6 := hL4.same s6
    -- many_of, cost_of
    refine ⟨_, rfl, hp, L, rfl, hH6, by omega, fun H7 s7 => ⟨_, rfl, true, rfl, if_false_of rfl ?_⟩⟩
    refine ⟨_, rfl, hp, L, rfl, hH6.same s7, by omega, fun H8 s8 => ⟨_, rfl, rfl, _, rfl, iteNS rfl ?_⟩⟩
    have s68 := s7.trans s8
    refine ⟨_, rfl, hp, L, rfl, hH6.same s68, by omega, fun H9 s9 => ?_⟩
    have s69 := s68.trans s9
    refine ⟨_, rfl, _, rfl, true, rfl, if_false_of rfl ?_⟩
    refine ⟨_, rfl, ?_⟩
    refine sum_col (h := Lot.cost) rfl (hL6.same s69) (by omega) at_cost (by show 4 < 15; decide) fun H10 s10 => ?_
    have s610 := s69.trans s10
    refine ⟨rfl, _, rfl, iteNS rfl ?_⟩
    refine ⟨_, rfl, _, rfl, ne_rows (hH6.same s610).lots (hL6.same s610).lots ⟨_, rfl, iteNS rfl ?_⟩⟩
    -- used
    refine ⟨Nat.zero_le _, fun q1 m1 => ⟨Nat.zero_le _, fun q2 m2 => ⟨(by show 2 ≤ sizeLine; decide), fun q3 m3 => ?_⟩⟩⟩
    have s11 := ((s610.trans (same_upd (o := .lst []) m1)).trans (same_upd (o := .lst []) m2)).trans (same_upd (o := .tup [.ref q1, .ref q2]) m3)
    have hH11 := hH6.same s11
    have hL11 := hL6.same s11
    have m1 : (mn c0 (10 ^ 30 - 1)) = (mn c0 (10 ^ 30 - 1)) := rfl
    refine ⟨fun σ' H' => ∃ r fnd, σ' = [some (.ref a), some (.ref fp), some (.int (n : Int)), some (.ref lp), none, some (.int (manyL L)), some (.int (mn c0 (10 ^ 30 - 1))), some (.ref hp), some (.ref fnd), some (.bl r), none, none, none, none, none] ∧ TpA lotV H' lp L ∧ TpA lotV H' hp L ∧
      (manyL L < mn c0 (10 ^ 30 - 1) → r = true) ∧ (mn c0 (10 ^ 30 - 1) ≤ manyL L → r = false ∧ ∃ x y, H' fnd = some (.tup [.ref x, .ref y]) ∧ TpA lotV H' x (takeL L (mn c0 (10 ^ 30 - 1))) ∧ TpA lotV H' y (leftL L (mn c0 (10 ^ 30 - 1)))), ?_, ?_⟩
    · refine ⟨_, rfl, _, rfl, hp, L, mn c0 (10 ^ 30 - 1), rfl, hH11, by omega, hcc.1, hcbB, bL, fun hm H12 s12 => ?_, fun hm H12 p x y s12 np ep nx ny nxy hx hy => ?_⟩
      · refine ⟨true, e_TooFew.e, fun _ a0 _ => ?_, fun z => Bool.noConfusion z⟩
        exact ⟨true, q3, rfl, hL11.same s12, hH11.same s12, fun _ => rfl, fun z => by omega⟩
      · exact ⟨false, p, rfl, hL11.same s12, hH11.same s12, fun z => by omega, fun _ => ⟨rfl, x, y, ep, hx, hy⟩⟩
    rintro σ3 H12 ⟨r, fnd, rfl, hL12, hH12, k0, k1⟩
    clear m1
    obtain ⟨hc0, hcb⟩ := hcc
    generalize mn c0 (10 ^ 30 - 1) = c at *
    refine ⟨_, rfl, _, rfl, ne_rows hH12.lots hL12.lots ⟨_, rfl, iteNS rfl ?_⟩⟩
    refine ⟨_, rfl, _, rfl, _, _, rfl, rfl, _, rfl, ?_⟩
    by_cases hm : manyL L < c
    · refine if_true_of (decide_eq_true hm) ?_
      rw [k0 hm]
      exact ⟨_, rfl, true, rfl, if_true_of rfl ⟨_, rfl, _, rfl, lp, L, c, rfl, hL12, by omega, hc0, hcbB, bL, hm, fun H' _ => q H'⟩⟩
    refine if_false_of (decide_eq_false hm) ?_
    obtain ⟨rfl, x1, y1, ef1, hx1, hy1⟩ := k1 (by omega)
    refine ⟨Nat.zero_le _, fun tp nt => ⟨Nat.zero_le _, fun ep ne => ?_⟩⟩
    have nte : tp ≠ ep := ne_of_none (H := upd H12 tp (.lst [])) upd_same ne
    have st : Same H12 (upd H12 tp (.lst [])) := same_upd nt
    have ne12 : H12 ep = none := st.free ne
    have se : Same H12 (upd (upd H12 tp (.lst [])) ep (.lst [])) := st.trans (same_upd ne)
    obtain ⟨us, ua, ul, ut⟩ := id hL12
    refine ⟨_, rfl, lp, rfl, ⟨_, SqL.of (se _ _ ua)⟩, for_list (K := K) (a := lp) (xs := us.map V.ref) (fun i σ' H' => ∃ v4 v12 v13, σ' = [some (.ref a), some (.ref fp), some (.int (n : Int)), some (.ref lp), v4, some (.int (manyL L)), some (.int c), some (.ref hp), some (.ref fnd), some (.bl false), some (.ref tp), some (.ref ep), v12, v13, none] ∧ Same H12 H' ∧
        TpA lotV H' tp (takeL (L.take i) c) ∧ TpA lotV H' ep (leftL (L.take i) c))
      ⟨none, none, none, rfl, se, TpA.nil (by rw [upd_ne nte, upd_same]), TpA.nil upd_same⟩ (fun i σ' H' _ ⟨_, _, _, _, sm, _⟩ => SqL.of (sm _ _ ua)) ?_ ?_⟩
    · rintro i v σ' H' hi ⟨v4, v12, v13, rfl, sm, hx, hy⟩
      obtain ⟨t, l, rfl, hil, ht⟩ := getM ut ul hi
      have hlb := bL l (List.mem_of_getElem? hil)
      have hin := (List.getElem?_eq_some_iff.mp hil).1
      have et := take_snoc hil
      have cL' : ∀ z ∈ L.take i, 0 ≤ z.cnt := fun z hz => cL z (List.mem_of_mem_take hz)
      have r0 := restL_ge (L.take i) c hc0 cL'
      have r2 := restL_is (L.take i) c hc0 cL'
      have lx := takeL_len (L.take i) c
      have ly := leftL_len (L.take i) c
      rw [List.length_take] at lx ly
      have ex := takeL_snoc (L.take i) l c
      rw [← et] at ex
      have ey := leftL_snoc (L.take i) l c
      rw [← et] at ey
      refine ⟨_, rfl, t, _, _, _, rfl, rfl, SqT.of (sm _ _ ht), at_cnt l, _, rfl, ?_⟩
      refine sum_col (h := Lot.cnt) rfl hx (by omega) at_cnt (by show 14 < 15; decide) fun H13 s13 => ?_
      have hr : c - manyL (takeL (L.take i) c) = restL (L.take i) c := r2.symm
      generalize restL (L.take i) c = r at *
      have hm1 := mn_le l.cnt r
      have hp0 : 0 ≤ mn l.cnt r := by have := hlb.c0; omega
      have hpart : mx 0 (mn l.cnt (c - manyL (takeL (L.take i) c))) = mn l.cnt r := by
        rw [hr, mx_is]
        omega
      have hpb : (mn l.cnt r).natAbs < 2 ^ bB := wide_le hp0 hm1.1 hlb.c
      have hx' := hx.same s13
      have hy' := hy.same s13
      have sm' := sm.trans s13
      refine ⟨_, _, rfl, rfl, _, _, rfl, _, _, rfl, ?_⟩
      have hpb' : (mx 0 (mn l.cnt (c - manyL (takeL (L.take i) c)))).natAbs < 2 ^ bB := by rw [hpart]; exact hpb
      refine ⟨_, rfl, t, _, _, _, rfl, rfl, SqT.of (sm' _ _ ht), at_cost l, _, rfl, _, _, rfl, rfl, mulX hlb.k hpb' (by decide) (by decide) (by decide), _, rfl, t, _, _, _, rfl, rfl, SqT.of (sm' _ _ ht), at_cnt l, _, _, rfl, rfl, wide_div (by have := hlb.c0; omega) hlb.c (by decide) (by decide), ?_⟩
      refine ⟨fun σ' H2 => σ' = [some (.ref a), some (.ref fp), some (.int (n : Int)), some (.ref lp), some (.ref t), some (.int (manyL L)), some (.int c), some (.ref hp), some (.ref fnd), some (.bl false), some (.ref tp), some (.ref ep), some (.int (mn l.cnt r)), some (.int (l.cost * mn l.cnt r / l.cnt)), none] ∧ Same H12 H2 ∧
        TpA lotV H2 tp (takeL (L.take (i + 1)) c) ∧ TpA lotV H2 ep (leftL (L.take i) c), ?_, ?_⟩
      · have sig : [some (V.ref a), some (V.ref fp), some (V.int (n : Int)), some (V.ref lp), some (V.ref t), some (V.int (manyL L)), some (V.int c), some (V.ref hp), some (V.ref fnd), some (V.bl false), some (V.ref tp), some (V.ref ep), some (V.int (mx 0 (mn l.cnt (c - manyL (takeL (L.take i) c))))), some (V.int (l.cost * (mx 0 (mn l.cnt (c - manyL (takeL (L.take i) c)))) / l.cnt)), none] = [some (V.ref a), some (V.ref fp), some (V.int (n : Int)), some (V.ref lp), some (V.ref t), some (V.int (manyL L)), some (V.int c), some (V.ref hp), some (V.ref fnd), some (V.bl false), some (V.ref tp), some (V.ref ep), some (V.int (mn l.cnt r)), some (V.int (l.cost * mn l.cnt r / l.cnt)), none] := by rw [hpart]
        refine ⟨_, rfl, _, _, rfl, rfl, _, rfl, ?_⟩
        by_cases hp : 0 < mn l.cnt r
        · refine if_true_of (decide_eq_true (show 0 < mx 0 (mn l.cnt (c - manyL (takeL (L.take i) c))) by rw [hpart]; exact hp)) ?_
          obtain ⟨ws, wx, wl, wt⟩ := id hx'
          refine ⟨_, rfl, .inl ⟨rfl, _, SqL.of wx⟩, _, rfl, t, _, _, _, rfl, rfl, SqT.of (sm' _ _ ht), at_day l, _, rfl, _, rfl, (by show 3 ≤ sizeLine; decide), fun u nu => ?_⟩
          have sx := same_upd (o := .tup [V.int l.day, V.int (mx 0 (mn l.cnt (c - manyL (takeL (L.take i) c)))), V.int (l.cost * (mx 0 (mn l.cnt (c - manyL (takeL (L.take i) c)))) / l.cnt)]) nu
          have nux : tp ≠ u := ne_of_none wx nu
          refine ⟨tp, _, _, rfl, rfl, sx _ _ wx, ?_, sig, same_mut (sm'.trans sx) nt, ?_, ?_⟩
          · rw [List.length_map, wl]
            exact small1000' (by omega)
          · rw [ex, if_pos hp]
            refine TpA.snoc (hx'.same sx) (fun b z hb e => by rw [upd_ne hb]; exact e) (t := u) ?_ (sx _ _ wx) upd_same
            rw [upd_ne nux.symm, ← hpart]
            exact upd_same
          · exact (hy'.same sx).but ⟨_, sx _ _ wx⟩ nte.symm fun b z hb e => by rw [upd_ne hb]; exact e
        · refine if_false_of (decide_eq_false (show ¬ 0 < mx 0 (mn l.cnt (c - manyL (takeL (L.take i) c))) by rw [hpart]; exact hp)) ?_
          refine ⟨sig, sm', ?_, hy'⟩
          rw [ex, if_neg hp, List.append_nil]
          exact hx'
      rintro σ2 H2 ⟨rfl, sm2, hx2, hy2⟩
      refine ⟨_, rfl, _, rfl, t, _, _, _, rfl, rfl, SqT.of (sm2 _ _ ht), at_cnt l, _, _, rfl, rfl, _, rfl, ?_⟩
      by_cases hp : mn l.cnt r < l.cnt
      · refine if_true_of (decide_eq_true hp) ?_
        obtain ⟨ws, wx, wl, wt⟩ := id hy2
        refine ⟨_, rfl, .inl ⟨rfl, _, SqL.of wx⟩, _, rfl, t, _, _, _, rfl, rfl, SqT.of (sm2 _ _ ht), at_day l, _, rfl, t, _, _, _, rfl, rfl, SqT.of (sm2 _ _ ht), at_cnt l, _, rfl, _, _, rfl, rfl, _, rfl, t, _, _, _, rfl, rfl, SqT.of (sm2 _ _ ht), at_cost l, _, rfl, _, _, rfl, rfl, (by show 3 ≤ sizeLine; decide), fun u nu => ?_⟩
        obtain ⟨us', ux', _, _⟩ := id hx2
        have sx := same_upd (o := .tup [V.int l.day, V.int (l.cnt - mn l.cnt r), V.int (l.cost - l.cost * mn l.cnt r / l.cnt)]) nu
        have nux : ep ≠ u := ne_of_none wx nu
        refine ⟨ep, _, _, rfl, rfl, sx _ _ wx, ?_, _, _, _, rfl, same_mut (sm2.trans sx) ne12, ?_, ?_⟩
        · rw [List.length_map, wl]
          exact small1000' (by omega)
        · exact (hx2.same sx).but ⟨_, sx _ _ wx⟩ nte fun b z hb e => by rw [upd_ne hb]; exact e
        · rw [ey, if_pos hp]
          refine TpA.snoc (hy2.same sx) (fun b z hb e => by rw [upd_ne hb]; exact e) (t := u) ?_ (sx _ _ wx) upd_same
          rw [upd_ne nux.symm]
          exact upd_same
      · refine if_false_of (decide_eq_false hp) ?_
        refine ⟨_, _, _, rfl, sm2, hx2, ?_⟩
        rw [ey, if_neg hp, List.append_nil]
        exact hy2
    · rintro σ' H' ⟨v4, v12, v13, rfl, sm, hx, hy⟩
      rw [List.length_map, ul, List.take_length] at hx hy
      refine ⟨_, rfl, false, rfl, if_false_of rfl ?_⟩
      have ef2 := sm _ _ ef1
      refine ⟨_, rfl, _, _, _, _, true, rfl, .ty "tuple", .base (.tup ef2), kit_ty (by decide +kernel), true, rfl, if_false_of rfl ?_⟩
      refine ⟨_, rfl, fnd, _, rfl, .inr (SqT.of ef2), rfl, _, rfl, iteNS rfl ?_⟩
      have lt := takeL_len L c
      have ll := leftL_len L c
      have sh3 : ∀ (xs : List Lot), ∀ r ∈ xs.map lotI, r.length ≤ 100 := fun xs r hr => by
        obtain ⟨l, _, rfl⟩ := List.mem_map.mp hr
        show 3 ≤ 100
        decide
      refine ⟨_, rfl, fnd, _, _, _, rfl, rfl, SqT.of ef2, atI_nat (j := 0) rfl, _, rfl, x1, tp, _, rfl, (hx1.same sm).lots, hx.lots, by rw [List.length_map]; omega, sh3 _, fun H14 s14 => ?_⟩
      refine ⟨true, rfl, if_true_of rfl ?_⟩
      exact ⟨_, rfl, fnd, _, _, _, rfl, rfl, SqT.of (s14 _ _ ef2), atI_nat (j := 1) rfl, _, rfl, y1, ep, _, rfl, ((hy1.same sm).same s14).lots, (hy.same s14).lots, by rw [List.length_map]; omega, sh3 _, fun H15 s15 => q _⟩

end
end Lb
namespace Lb
open PySem PySem.Spec PyProof.Rows L2
theorem exm_self {K : PySem.W.Frag} {S : Addr} (h1 : PySem.W.subIn K (.ref S) (.type "BaseException") = some true) (h2 : PySem.W.isClsIn K S = true) (h3 : PySem.W.typeIn K (.ref S) = some (.type "type")) (h4 : PySem.W.subIn K (.ref S) (.ref S) = some true) :
    PySem.W.exmOne K (.ref S) (.ref S) = some true := by
  have e1 : (PySem.W.subIn K (.ref S) (.type "BaseException") == some true) = true := by rw [h1] <;> rfl
  have e2 : ((PySem.W.clsIn K S).isSome && PySem.W.typeIn K (.ref S) == some (.type "type")) = true := by
    have h2' : (PySem.W.clsIn K S).isSome = true := h2
    rw [h2', h3] <;> rfl
  show (if (PySem.W.subIn K (.ref S) (.type "BaseException") == some true) = true then (if ((PySem.W.clsIn K S).isSome && PySem.W.typeIn K (.ref S) == some (.type "type")) = true then PySem.W.subIn K (.ref S) (.ref S) else none) else none) = some true
  rw [if_pos e1, if_pos e2]
  exact h4
theorem all_mk {P : Program} {w : World} {K : PySem.W.Frag} {h : Heap} {mg : Str → Option Value} {fa : Addr} (X : K.In h) (G : h.Ns mainGlobals mg) (hfa : mg "law" = some (.ref fa))
    {f0 : Addr} {od0 an0 : Option Addr} {sl0 : Array (Option Value)} {oc0 kV0 dc0 pm0 cd0 ct0 : Value}
    {f1 : Addr} {od1 an1 : Option Addr} {sl1 : Array (Option Value)} {oc1 kV1 dc1 pm1 cd1 ct1 : Value}
    {f2 : Addr} {od2 an2 : Option Addr} {sl2 : Array (Option Value)} {oc2 kV2 dc2 pm2 cd2 ct2 : Value}
    {f3 : Addr} {od3 an3 : Option Addr} {sl3 : Array (Option Value)} {oc3 kV3 dc3 pm3 cd3 ct3 : Value}
    {f4 : Addr} {od4 an4 : Option Addr} {sl4 : Array (Option Value)} {oc4 kV4 dc4 pm4 cd4 ct4 : Value}
    {f5 : Addr} {od5 an5 : Option Addr} {sl5 : Array (Option Value)} {oc5 kV5 dc5 pm5 cd5 ct5 : Value}
    {f6 : Addr} {od6 an6 : Option Addr} {sl6 : Array (Option Value)} {oc6 kV6 dc6 pm6 cd6 ct6 : Value}
    {f7 : Addr} {od7 an7 : Option Addr} {sl7 : Array (Option Value)} {oc7 kV7 dc7 pm7 cd7 ct7 : Value}
    {f8 : Addr} {od8 an8 : Option Addr} {sl8 : Array (Option Value)} {oc8 kV8 dc8 pm8 cd8 ct8 : Value}
    {f9 : Addr} {od9 an9 : Option Addr} {sl9 : Array (Option Value)} {oc9 kV9 dc9 pm9 cd9 ct9 : Value}
    {f10 : Addr} {od10 an10 : Option Addr} {sl10 : Array (Option Value)} {oc10 kV10 dc10 pm10 cd10 ct10 : Value}
    {CS : Addr}
    {CT : Addr}
    (a0 : PySem.W.nsIn K mainGlobals "many_of" = some (some (.ref f0)))
    (l0 : K.lookup f0 = some ⟨oc0, od0, .func (PySem.W.fnOf "many_of" "many_of" (defArgs s_many_of) (defBody s_many_of) (defScope s_many_of) .none kV0 dc0 pm0 an0 cd0 ct0), sl0⟩)
    (c0 : PySem.W.codeIn K cd0 "many_of" = true)
    (k0 : PySem.W.keepIn K (.ref f0) = true)
    (a1 : PySem.W.nsIn K mainGlobals "cost_of" = some (some (.ref f1)))
    (l1 : K.lookup f1 = some ⟨oc1, od1, .func (PySem.W.fnOf "cost_of" "cost_of" (defArgs s_cost_of) (defBody s_cost_of) (defScope s_cost_of) .none kV1 dc1 pm1 an1 cd1 ct1), sl1⟩)
    (c1 : PySem.W.codeIn K cd1 "cost_of" = true)
    (k1 : PySem.W.keepIn K (.ref f1) = true)
    (a2 : PySem.W.nsIn K mainGlobals "used" = some (some (.ref f2)))
    (l2 : K.lookup f2 = some ⟨oc2, od2, .func (PySem.W.fnOf "used" "used" (defArgs s_used) (defBody s_used) (defScope s_used) .none kV2 dc2 pm2 an2 cd2 ct2), sl2⟩)
    (c2 : PySem.W.codeIn K cd2 "used" = true)
    (k2 : PySem.W.keepIn K (.ref f2) = true)
    (a3 : PySem.W.nsIn K mainGlobals "_law_whole" = some (some (.ref f3)))
    (l3 : K.lookup f3 = some ⟨oc3, od3, .func (PySem.W.fnOf "_law_whole" "_law_whole" (defArgs s_law_whole) (defBody s_law_whole) (defScope s_law_whole) .none kV3 dc3 pm3 an3 cd3 ct3), sl3⟩)
    (c3 : PySem.W.codeIn K cd3 "_law_whole" = true)
    (k3 : PySem.W.keepIn K (.ref f3) = true)
    (a4 : PySem.W.nsIn K mainGlobals "_law_cell_at" = some (some (.ref f4)))
    (l4 : K.lookup f4 = some ⟨oc4, od4, .func (PySem.W.fnOf "_law_cell_at" "_law_cell_at" (defArgs s_law_cell_at) (defBody s_law_cell_at) (defScope s_law_cell_at) .none kV4 dc4 pm4 an4 cd4 ct4), sl4⟩)
    (c4 : PySem.W.codeIn K cd4 "_law_cell_at" = true)
    (k4 : PySem.W.keepIn K (.ref f4) = true)
    (a5 : PySem.W.nsIn K mainGlobals "_law_drawn" = some (some (.ref f5)))
    (l5 : K.lookup f5 = some ⟨oc5, od5, .func (PySem.W.fnOf "_law_drawn" "_law_drawn" (defArgs s_law_drawn) (defBody s_law_drawn) (defScope s_law_drawn) .none kV5 dc5 pm5 an5 cd5 ct5), sl5⟩)
    (c5 : PySem.W.codeIn K cd5 "_law_drawn" = true)
    (k5 : PySem.W.keepIn K (.ref f5) = true)
    (a6 : PySem.W.nsIn K mainGlobals "_law_mixed" = some (some (.ref f6)))
    (l6 : K.lookup f6 = some ⟨oc6, od6, .func (PySem.W.fnOf "_law_mixed" "_law_mixed" (defArgs s_law_mixed) (defBody s_law_mixed) (defScope s_law_mixed) .none kV6 dc6 pm6 an6 cd6 ct6), sl6⟩)
    (c6 : PySem.W.codeIn K cd6 "_law_mixed" = true)
    (k6 : PySem.W.keepIn K (.ref f6) = true)
    (a7 : PySem.W.nsIn K mainGlobals "_law_lots" = some (some (.ref f7)))
    (l7 : K.lookup f7 = some ⟨oc7, od7, .func (PySem.W.fnOf "_law_lots" "_law_lots" (defArgs s_law_lots) (defBody s_law_lots) (defScope s_law_lots) .none kV7 dc7 pm7 an7 cd7 ct7), sl7⟩)
    (c7 : PySem.W.codeIn K cd7 "_law_lots" = true)
    (k7 : PySem.W.keepIn K (.ref f7) = true)
    (a8 : PySem.W.nsIn K mainGlobals "_law_tuples" = some (some (.ref f8)))
    (l8 : K.lookup f8 = some ⟨oc8, od8, .func (PySem.W.fnOf "_law_tuples" "_law_tuples" (defArgs s_law_tuples) (defBody s_law_tuples) (defScope s_law_tuples) .none kV8 dc8 pm8 an8 cd8 ct8), sl8⟩)
    (c8 : PySem.W.codeIn K cd8 "_law_tuples" = true)
    (k8 : PySem.W.keepIn K (.ref f8) = true)
    (a9 : PySem.W.nsIn K mainGlobals "_law_refused_by_any" = some (some (.ref f9)))
    (l9 : K.lookup f9 = some ⟨oc9, od9, .func (PySem.W.fnOf "_law_refused_by_any" "_law_refused_by_any" (defArgs s_law_refused_by_any) (defBody s_law_refused_by_any) (defScope s_law_refused_by_any) .none kV9 dc9 pm9 an9 cd9 ct9), sl9⟩)
    (c9 : PySem.W.codeIn K cd9 "_law_refused_by_any" = true)
    (k9 : PySem.W.keepIn K (.ref f9) = true)
    (a10 : PySem.W.nsIn K mainGlobals "law" = some (some (.ref f10)))
    (l10 : K.lookup f10 = some ⟨oc10, od10, .func (PySem.W.fnOf "law" "law" (defArgs s_law) (defBody s_law) (defScope s_law) .none kV10 dc10 pm10 an10 cd10 ct10), sl10⟩)
    (c10 : PySem.W.codeIn K cd10 "law" = true)
    (k10 : PySem.W.keepIn K (.ref f10) = true)
    (z_len : PySem.W.nsIn K mainGlobals "len" = some none)
    (z_range : PySem.W.nsIn K mainGlobals "range" = some none)
    (z_sum : PySem.W.nsIn K mainGlobals "sum" = some none)
    (z_list : PySem.W.nsIn K mainGlobals "list" = some none)
    (z_isi : PySem.W.nsIn K mainGlobals "isinstance" = some none)
    (z_int : PySem.W.nsIn K mainGlobals "int" = some none)
    (z_bool : PySem.W.nsIn K mainGlobals "bool" = some none)
    (z_tuple : PySem.W.nsIn K mainGlobals "tuple" = some none)
    (z_all : PySem.W.nsIn K mainGlobals "all" = some none)
    (z_any : PySem.W.nsIn K mainGlobals "any" = some none)
    (z_min : PySem.W.nsIn K mainGlobals "min" = some none)
    (z_max : PySem.W.nsIn K mainGlobals "max" = some none)
    (z_enumerate : PySem.W.nsIn K mainGlobals "enumerate" = some none)
    (z_zip : PySem.W.nsIn K mainGlobals "zip" = some none)
    (z_str : PySem.W.nsIn K mainGlobals "str" = some none)
    (z_dict : PySem.W.nsIn K mainGlobals "dict" = some none)
    (z_ve : PySem.W.nsIn K mainGlobals "ValueError" = some none)
    (aS : PySem.W.nsIn K mainGlobals "ShareError" = some (some (.ref CS)))
    (bSh : PySem.W.subIn K (.ref CS) (.type "BaseException") = some true)
    (hSh : PySem.W.hasDictIn K CS = true)
    (tSh : PySem.W.typeIn K (.ref CS) = some (.type "type"))
    (e6 : PySem.W.specialIn K (.builtin "object.__class__") "__get__" = some (some (.builtin "getset_descriptor.__get__")))
    (e7 : PySem.W.takesIn K (.builtin "object.__class__") = some true)
    (aTooFew : PySem.W.nsIn K mainGlobals "TooFew" = some (some (.ref CT)))
    (xTooFew : PySem.W.excIn K CT [.type "ValueError", .type "Exception", .type "BaseException", .type "object"] "ValueError.__new__" = true)
    (kTooFew : PySem.W.keepIn K (.ref CT) = true)
    (bTooFew : PySem.W.subIn K (.ref CT) (.type "BaseException") = some true)
    (tTooFew : PySem.W.typeIn K (.ref CT) = some (.type "type"))
    (iTooFew : PySem.W.isClsIn K CT = true)
    (sTooFew : PySem.W.subIn K (.ref CT) (.ref CT) = some true)
    (uTooFew : PySem.W.subIn K (.ref CT) (.ref CS) = some true)
    (e1TooFew : PySem.W.findIn K (.ref CT) "__getattribute__" = some (some (.builtin "BaseException.__getattribute__")))
    (e2TooFew : PySem.W.findIn K (.ref CT) "__getattr__" = some none)
    (e4TooFew : PySem.W.hasDictIn K CT = true)
    (e5TooFew : PySem.W.findIn K (.ref CT) "__class__" = some (some (.builtin "object.__class__")))
    (e8TooFew : PySem.W.mroIn K CT (.type "object") = some true)
    (e9TooFew : PySem.W.subIn K (.ref CT) (.type "ValueError") = some true)
    : ∃ fd : FuncData, (∀ (s : Shared) (v : Value), BindsTo s fd ⟨[v], []⟩ [("_law_script", v)]) ∧ ∀ base : Heap, K.In base → base.Ns mainGlobals mg → FnOk P w K mg base CX0 4 fa fd ["_law_script"] (spLaw K) := by
  have e := hfa.symm.trans (PySem.W.mg_of X G a10)
  cases e
  have F0 := fun_mk (st := s_many_of) l0 c0 k0
  have d_many_of : Dn K mg "many_of" s_many_of ["lots"] f0 _ := ⟨F0, PySem.W.mg_of X G a0, F0.binds (ps := ["lots"]) fun _ _ _ _ _ _ us hl => match us, hl with | [_], _ => rfl⟩
  have F1 := fun_mk (st := s_cost_of) l1 c1 k1
  have d_cost_of : Dn K mg "cost_of" s_cost_of ["lots"] f1 _ := ⟨F1, PySem.W.mg_of X G a1, F1.binds (ps := ["lots"]) fun _ _ _ _ _ _ us hl => match us, hl with | [_], _ => rfl⟩
  have F2 := fun_mk (st := s_used) l2 c2 k2
  have d_used : Dn K mg "used" s_used ["lots", "count"] f2 _ := ⟨F2, PySem.W.mg_of X G a2, F2.binds (ps := ["lots", "count"]) fun _ _ _ _ _ _ us hl => match us, hl with | [_, _], _ => rfl⟩
  have F3 := fun_mk (st := s_law_whole) l3 c3 k3
  have d_law_whole : Dn K mg "_law_whole" s_law_whole ["_law_found"] f3 _ := ⟨F3, PySem.W.mg_of X G a3, F3.binds (ps := ["_law_found"]) fun _ _ _ _ _ _ us hl => match us, hl with | [_], _ => rfl⟩
  have F4 := fun_mk (st := s_law_cell_at) l4 c4 k4
  have d_law_cell_at : Dn K mg "_law_cell_at" s_law_cell_at ["_law_script", "_law_k"] f4 _ := ⟨F4, PySem.W.mg_of X G a4, F4.binds (ps := ["_law_script", "_law_k"]) fun _ _ _ _ _ _ us hl => match us, hl with | [_, _], _ => rfl⟩
  have F5 := fun_mk (st := s_law_drawn) l5 c5 k5
  have d_law_drawn : Dn K mg "_law_drawn" s_law_drawn ["_law_cell", "_law_sizes"] f5 _ := ⟨F5, PySem.W.mg_of X G a5, F5.binds (ps := ["_law_cell", "_law_sizes"]) fun _ _ _ _ _ _ us hl => match us, hl with | [_, _], _ => rfl⟩
  have F6 := fun_mk (st := s_law_mixed) l6 c6 k6
  have d_law_mixed : Dn K mg "_law_mixed" s_law_mixed ["_law_cell", "_law_place"] f6 _ := ⟨F6, PySem.W.mg_of X G a6, F6.binds (ps := ["_law_cell", "_law_place"]) fun _ _ _ _ _ _ us hl => match us, hl with | [_, _], _ => rfl⟩
  have F7 := fun_mk (st := s_law_lots) l7 c7 k7
  have d_law_lots : Dn K mg "_law_lots" s_law_lots ["_law_script", "_law_many"] f7 _ := ⟨F7, PySem.W.mg_of X G a7, F7.binds (ps := ["_law_script", "_law_many"]) fun _ _ _ _ _ _ us hl => match us, hl with | [_, _], _ => rfl⟩
  have F8 := fun_mk (st := s_law_tuples) l8 c8 k8
  have d_law_tuples : Dn K mg "_law_tuples" s_law_tuples ["_law_found", "_law_due"] f8 _ := ⟨F8, PySem.W.mg_of X G a8, F8.binds (ps := ["_law_found", "_law_due"]) fun _ _ _ _ _ _ us hl => match us, hl with | [_, _], _ => rfl⟩
  have F9 := fun_mk (st := s_law_refused_by_any) l9 c9 k9
  have d_law_refused_by_any : Dn K mg "_law_refused_by_any" s_law_refused_by_any ["_law_lots_here", "_law_count"] f9 _ := ⟨F9, PySem.W.mg_of X G a9, F9.binds (ps := ["_law_lots_here", "_law_count"]) fun _ _ _ _ _ _ us hl => match us, hl with | [_, _], _ => rfl⟩
  have F10 := fun_mk (st := s_law) l10 c10 k10
  have d_law : Dn K mg "law" s_law ["_law_script"] fa _ := ⟨F10, PySem.W.mg_of X G a10, F10.binds (ps := ["_law_script"]) fun _ _ _ _ _ _ us hl => match us, hl with | [_], _ => rfl⟩
  have N : Nn mg := { len := PySem.W.mg_none_of X G z_len, range := PySem.W.mg_none_of X G z_range, sum := PySem.W.mg_none_of X G z_sum, list := PySem.W.mg_none_of X G z_list, isi := PySem.W.mg_none_of X G z_isi, int := PySem.W.mg_none_of X G z_int, bool := PySem.W.mg_none_of X G z_bool, tuple := PySem.W.mg_none_of X G z_tuple, all := PySem.W.mg_none_of X G z_all, any := PySem.W.mg_none_of X G z_any, min := PySem.W.mg_none_of X G z_min, max := PySem.W.mg_none_of X G z_max, enumerate := PySem.W.mg_none_of X G z_enumerate, zip := PySem.W.mg_none_of X G z_zip, str := PySem.W.mg_none_of X G z_str, dict := PySem.W.mg_none_of X G z_dict, ve := PySem.W.mg_none_of X G z_ve }
  have g_ShareError := PySem.W.mg_of X G aS
  have g_TooFew := PySem.W.mg_of X G aTooFew
  have e_TooFew : Er K CT CS := { x := xTooFew, k := kTooFew, b := bTooFew, t := tTooFew, e := exm_self bTooFew iTooFew tTooFew sTooFew, s := PySem.W.exm_ref bSh hSh tSh uTooFew, c := ⟨e1TooFew, e2TooFew, bTooFew, e4TooFew, e5TooFew, e6, e7, e8TooFew⟩, i := kit_ref_ty (by decide +kernel) e9TooFew }
  refine ⟨PySem.W.fnOf "law" "law" (defArgs s_law) (defBody s_law) (defScope s_law) .none kV10 dc10 pm10 an10 cd10 ct10, fun s v => .of_eq rfl, fun base _ _ => ?_⟩
  have c_many_of := fd_many_of (P := P) (w := w) (base := base) d_many_of N
  have c_cost_of := fd_cost_of (P := P) (w := w) (base := base) d_cost_of N
  have c_used := fd_used (P := P) (w := w) (base := base) d_used N g_TooFew e_TooFew c_many_of
  have c_law_whole := fd_law_whole (P := P) (w := w) (base := base) d_law_whole N
  have c_law_cell_at := fd_law_cell_at (P := P) (w := w) (base := base) d_law_cell_at N
  have c_law_drawn := fd_law_drawn (P := P) (w := w) (base := base) d_law_drawn
  have c_law_mixed := fd_law_mixed (P := P) (w := w) (base := base) d_law_mixed
  have c_law_lots := fd_law_lots (P := P) (w := w) (base := base) d_law_lots N c_law_cell_at c_law_mixed c_law_drawn
  have c_law_tuples := fd_law_tuples (P := P) (w := w) (base := base) d_law_tuples N c_law_whole
  have c_law_refused_by_any := fd_law_refused_by_any (P := P) (w := w) (base := base) d_law_refused_by_any N g_ShareError e_TooFew c_used
  exact ok_law d_law N g_TooFew e_TooFew c_many_of c_cost_of c_used c_law_whole c_law_cell_at c_law_drawn c_law_lots c_law_tuples c_law_refused_by_any
end Lb
open PySem PySem.W PyProof.Rows
set_option maxHeartbeats 0 in
theorem PySem.Challenge.cw_lotbook_k03_used_from_the_first_holds : PySem.Challenge.rw_lotbook_k03_used_from_the_first.Holds := by
  w_on; o_law; k_head; (case hw => w_witness2)
  k_fill
  refine L2.walk_ofB (l := PySem.Challenge.rw_lotbook_k03_used_from_the_first) (n := 63) (k := 4) (x := "_law_script") (CX := fun _ => L2.CX0) (sp := fun w => Lb.spLaw _) rfl (by decide) rfl ⟨rfl, by decide, by decide⟩ (fun w h Y => PySem.W.kIn_of Y) ?F (fun _ _ a ns hl hb _ hS => ⟨a, ns, rfl, hS, hl, fun z hz => Lb.bits_S (hb z hz), fun _ => rfl⟩) (fun _ _ _ _ _ h => h)
  case F =>
    intro w mg fa h KX G hmg
    refine' Lb.all_mk KX G hmg ?a0 ?l0 ?c0 ?k0 ?a1 ?l1 ?c1 ?k1 ?a2 ?l2 ?c2 ?k2 ?a3 ?l3 ?c3 ?k3 ?a4 ?l4 ?c4 ?k4 ?a5 ?l5 ?c5 ?k5 ?a6 ?l6 ?c6 ?k6 ?a7 ?l7 ?c7 ?k7 ?a8 ?l8 ?c8 ?k8 ?a9 ?l9 ?c9 ?k9 ?a10 ?l10 ?c10 ?k10 ?z_len ?z_range ?z_sum ?z_list ?z_isi ?z_int ?z_bool ?z_tuple ?z_all ?z_any ?z_min ?z_max ?z_enumerate ?z_zip ?z_str ?z_dict ?z_ve ?aS ?bSh ?hSh ?tSh ?e6 ?e7 ?aTooFew ?xTooFew ?kTooFew ?bTooFew ?tTooFew ?iTooFew ?sTooFew ?uTooFew ?e1TooFew ?e2TooFew ?e4TooFew ?e5TooFew ?e8TooFew ?e9TooFew
    (case a0 => k_is)
    (case l0 => k_is)
    (case c0 => k_is)
    (case k0 => k_is)
    (case a1 => k_is)
    (case l1 => k_is)
    (case c1 => k_is)
    (case k1 => k_is)
    (case a2 => k_is)
    (case l2 => k_is)
    (case c2 => k_is)
    (case k2 => k_is)
    (case a3 => k_is)
    (case l3 => k_is)
    (case c3 => k_is)
    (case k3 => k_is)
    (case a4 => k_is)
    (case l4 => k_is)
    (case c4 => k_is)
    (case k4 => k_is)
    (case a5 => k_is)
    (case l5 => k_is)
    (case c5 => k_is)
    (case k5 => k_is)
    (case a6 => k_is)
    (case l6 => k_is)
    (case c6 => k_is)
    (case k6 => k_is)
    (case a7 => k_is)
    (case l7 => k_is)
    (case c7 => k_is)
    (case k7 => k_is)
    (case a8 => k_is)
    (case l8 => k_is)
    (case c8 => k_is)
    (case k8 => k_is)
    (case a9 => k_is)
    (case l9 => k_is)
    (case c9 => k_is)
    (case k9 => k_is)
    (case a10 => k_is)
    (case l10 => k_is)
    (case c10 => k_is)
    (case k10 => k_is)
    (case z_len => k_is)
    (case z_range => k_is)
    (case z_sum => k_is)
    (case z_list => k_is)
    (case z_isi => k_is)
    (case z_int => k_is)
    (case z_bool => k_is)
    (case z_tuple => k_is)
    (case z_all => k_is)
    (case z_any => k_is)
    (case z_min => k_is)
    (case z_max => k_is)
    (case z_enumerate => k_is)
    (case z_zip => k_is)
    (case z_str => k_is)
    (case z_dict => k_is)
    (case z_ve => k_is)
    (case aS => k_is)
    (case bSh => k_is)
    (case hSh => k_is)
    (case tSh => k_is)
    (case e6 => k_is)
    (case e7 => k_is)
    (case aTooFew => k_is)
    (case xTooFew => k_exc)
    (case kTooFew => k_is)
    (case bTooFew => k_is)
    (case tTooFew => k_is)
    (case iTooFew => k_is)
    (case sTooFew => first | rfl | k_is)
    (case uTooFew => k_is)
    (case e1TooFew => k_is)
    (case e2TooFew => k_is)
    (case e4TooFew => k_is)
    (case e5TooFew => k_is)
    (case e8TooFew => k_is)
    (case e9TooFew => k_is)
