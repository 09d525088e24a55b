import PyProof.Rows.All
import Wide.All
import OpenK.AllK
import Wide.FinOn
import PySem.Challenge.RW_lotbook_k05_wide_and_narrow
import HandS.ForExc
import HandS.Wide
import HandS.IsInst
import HandS.ExcIs
import HandS.Codes
import HandS.Comp
import HandS.EndBits
import HandS.ExcOwn
import HandS.Iter
import KE.GoesRaise
import HandS.WideBits
set_option Elab.async false
set_option linter.all false
set_option maxRecDepth 100000
set_option maxHeartbeats 4000000
/-! The mathematics of sharing out by weights, in plain Lean. -/
namespace Lb
/-- the bits that numbers of the program stay below -/
def bB : Nat := 8000
/-- what a draw gives: the rests, one by one -/
def drawnL : Int → List Int → List Int
  | _, [] => []
  | c, s :: r => c % s :: drawnL (c / s) r
def dropL : Int → List Int → Int
  | c, [] => c
  | c, s :: r => dropL (c / s) r
theorem dropL_snoc : ∀ (l : List Int) (c s : Int), dropL c (l ++ [s]) = dropL c l / s
  | [], _, _ => rfl
  | x :: r, c, s => dropL_snoc r (c / x) s
theorem drawnL_snoc : ∀ (l : List Int) (c s : Int), drawnL c (l ++ [s]) = drawnL c l ++ [dropL c l % s]
  | [], _, _ => rfl
  | x :: r, c, s => by
    show c % x :: drawnL (c / x) (r ++ [s]) = c % x :: (drawnL (c / x) r ++ [dropL (c / x) r % s])
    rw [drawnL_snoc r (c / x) s]
theorem drawnL_len : ∀ (l : List Int) (c : Int), (drawnL c l).length = l.length
  | [], _ => rfl
  | x :: r, c => by
    show (drawnL (c / x) r).length + 1 = r.length + 1
    rw [drawnL_len r]
/-- the parts: what all ahead get together, taken from what it and all ahead get -/
def dueL (c w : Int) : Int → List Int → List Int
  | _, [] => []
  | a, x :: r => (c * (a + x) / w - c * a / w) :: dueL c w (a + x) r
theorem dueL_len (c w : Int) : ∀ (l : List Int) (a : Int), (dueL c w a l).length = l.length
  | [], _ => rfl
  | x :: r, a => by
    show (dueL c w (a + x) r).length + 1 = r.length + 1
    rw [dueL_len c w r]
theorem dueL_snoc (c w : Int) : ∀ (l : List Int) (a x : Int), dueL c w a (l ++ [x]) = dueL c w a l ++ [c * (a + l.sum + x) / w - c * (a + l.sum) / w]
  | [], a, x => by
    show [c * (a + x) / w - c * a / w] = [c * (a + ([] : List Int).sum + x) / w - c * (a + ([] : List Int).sum) / w]
    simp
  | y :: r, a, x => by
    show (c * (a + y) / w - c * a / w) :: dueL c w (a + y) (r ++ [x]) = (c * (a + y) / w - c * a / w) :: (dueL c w (a + y) r ++ [c * (a + (y :: r).sum + x) / w - c * (a + (y :: r).sum) / w])
    rw [dueL_snoc c w r (a + y) x, List.sum_cons, Int.add_assoc a y r.sum]
theorem take_snoc {α : Type} {l : List α} {i : Nat} {x : α} (h : l[i]? = some x) : l.take (i + 1) = l.take i ++ [x] := by
  rw [List.take_add_one, h]
  rfl
theorem sum_snoc (l : List Int) (x : Int) : (l ++ [x]).sum = l.sum + x := by
  rw [List.sum_append, List.sum_cons, List.sum_nil, Int.add_zero]
theorem sum_nonneg : ∀ {l : List Int}, (∀ x ∈ l, 0 ≤ x) → 0 ≤ l.sum
  | [], _ => Int.le_refl 0
  | x :: r, h => by
    have h1 := h x List.mem_cons_self
    have h2 := sum_nonneg (l := r) fun y hy => h y (List.mem_cons_of_mem _ hy)
    rw [List.sum_cons]
    omega
theorem sum_take_le {l : List Int} (h : ∀ x ∈ l, 0 ≤ x) (i : Nat) : 0 ≤ (l.take i).sum ∧ (l.take i).sum ≤ l.sum := by
  have h1 := sum_nonneg (l := l.take i) fun y hy => h y (List.mem_of_mem_take hy)
  have h2 := sum_nonneg (l := l.drop i) fun y hy => h y (List.mem_of_mem_drop hy)
  have e : l.sum = (l.take i).sum + (l.drop i).sum := by
    rw [← List.sum_append, List.take_append_drop]
  omega
theorem sum_le_of : ∀ {l : List Int} {b : Int}, (∀ x ∈ l, x ≤ b) → l.sum ≤ l.length * b
  | [], b, _ => by simp
  | x :: r, b, h => by
    have h1 := h x List.mem_cons_self
    have h2 := sum_le_of (l := r) (b := b) fun y hy => h y (List.mem_cons_of_mem _ hy)
    rw [List.sum_cons, List.length_cons]
    have e : ((r.length + 1 : Nat) : Int) * b = (r.length : Int) * b + b := by
      rw [Int.natCast_add, Int.add_mul]
      simp
    omega
/-- a weight, from its cell -/
def wgt (m c : Int) : Int := if c % 3 = 0 then 0 else if c % 3 = 1 then c / 3 % 10 else if c / 3 % 2 = 0 then c / 6 % 10 ^ 12 else c / 6 % m
theorem wgt_lt {m c : Int} (h0 : 10 ^ 12 ≤ m) : 0 ≤ wgt m c ∧ wgt m c < m := by
  have hm : (10 : Int) ^ 12 = 1000000000000 := by decide
  rw [hm] at h0
  unfold wgt
  rw [hm]
  split
  · omega
  · split
    · omega
    · split
      · omega
      · exact ⟨Int.emod_nonneg _ (by omega), Int.emod_lt_of_pos _ (by omega)⟩
/-- the cell at k of the script, nought beyond -/
def cellAt (ns : List Int) (k : Nat) : Int := ns.getD k 0
theorem cellAt_in {ns : List Int} {k : Nat} (h : k < ns.length) : ns[k]? = some (cellAt ns k) := by
  unfold cellAt
  rw [List.getD_eq_getElem?_getD, List.getElem?_eq_getElem h]
  rfl
theorem cellAt_out {ns : List Int} {k : Nat} (h : ¬ k < ns.length) : cellAt ns k = 0 := by
  unfold cellAt
  rw [List.getD_eq_getElem?_getD, List.getElem?_eq_none (by omega)]
  rfl
/-- the weights of a script -/
def wgtsOf (m : Int) (ns : List Int) (n : Nat) : List Int := (List.range n).map fun k => wgt m (cellAt ns (2 + k % 8) + 31 * ((k / 8 : Nat) : Int))
theorem wgtsOf_snoc (m : Int) (ns : List Int) (n : Nat) : wgtsOf m ns (n + 1) = wgtsOf m ns n ++ [wgt m (cellAt ns (2 + n % 8) + 31 * ((n / 8 : Nat) : Int))] := by
  unfold wgtsOf
  rw [List.range_succ, List.map_append]
  rfl
theorem wgtsOf_len (m : Int) (ns : List Int) (n : Nat) : (wgtsOf m ns n).length = n := by
  unfold wgtsOf
  rw [List.length_map, List.length_range]
theorem wgtsOf_lt {m : Int} (h0 : 10 ^ 12 ≤ m) (ns : List Int) (n : Nat) : ∀ x ∈ wgtsOf m ns n, 0 ≤ x ∧ x < m := by
  intro x hx
  unfold wgtsOf at hx
  obtain ⟨k, _, rfl⟩ := List.mem_map.mp hx
  exact wgt_lt h0
end Lb

namespace Lb
theorem dueL_get (c w : Int) : ∀ (l : List Int) (a : Int) (i : Nat) (z : Int), l[i]? = some z → (dueL c w a l)[i]? = some (c * (a + (l.take i).sum + z) / w - c * (a + (l.take i).sum) / w)
  | [], _, _, _, h => by simp at h
  | x :: r, a, 0, z, h => by
    have e : x = z := Option.some.inj h
    subst e
    show some (c * (a + x) / w - c * a / w) = some (c * (a + ([] : List Int).sum + x) / w - c * (a + ([] : List Int).sum) / w)
    rw [List.sum_nil, Int.add_zero]
  | x :: r, a, i + 1, z, h => by
    have ih := dueL_get c w r (a + x) i z h
    show (dueL c w (a + x) r)[i]? = _
    rw [ih]
    show _ = some (c * (a + (x :: r.take i).sum + z) / w - c * (a + (x :: r.take i).sum) / w)
    rw [List.sum_cons, Int.add_assoc a x]
theorem share_near {c W A w : Int} (hW : 0 < W) : -W < (c * (A + w) / W - c * A / W) * W - c * w ∧ (c * (A + w) / W - c * A / W) * W - c * w < W := by
  have h1 := Int.ediv_mul_le (c * (A + w)) (show W ≠ 0 by omega)
  have h2 := Int.lt_ediv_add_one_mul_self (c * (A + w)) hW
  have h3 := Int.ediv_mul_le (c * A) (show W ≠ 0 by omega)
  have h4 := Int.lt_ediv_add_one_mul_self (c * A) hW
  rw [Int.add_mul, Int.one_mul] at h2 h4
  rw [Int.sub_mul]
  have e : c * (A + w) = c * A + c * w := Int.mul_add c A w
  generalize c * (A + w) / W * W = p at *
  generalize c * A / W * W = q at *
  rw [e] at h1 h2
  generalize c * A = x at *
  generalize c * w = y at *
  omega
theorem share_down {c W A : Int} (hW : 0 < W) : -W < c * A / W * W - c * A ∧ c * A / W * W - c * A ≤ 0 := by
  have h3 := Int.ediv_mul_le (c * A) (show W ≠ 0 by omega)
  have h4 := Int.lt_ediv_add_one_mul_self (c * A) hW
  rw [Int.add_mul, Int.one_mul] at h4
  omega
theorem share_mono {c W A B : Int} (hc : 0 ≤ c) (hW : 0 < W) (h : A ≤ B) : c * A / W ≤ c * B / W :=
  Int.ediv_le_ediv hW (Int.mul_le_mul_of_nonneg_left h hc)
theorem share_all {c W : Int} (hW : 0 < W) : c * W / W = c := Int.mul_ediv_cancel c (by omega)
theorem share_none {c W : Int} : c * 0 / W = 0 := by rw [Int.mul_zero, Int.zero_ediv]
theorem share_le {c W A : Int} (hc : 0 ≤ c) (hW : 0 < W) (h0 : 0 ≤ A) (h : A ≤ W) : 0 ≤ c * A / W ∧ c * A / W ≤ c := by
  have h1 := share_mono (A := 0) (B := A) hc hW h0
  have h2 := share_mono (A := A) (B := W) hc hW h
  rw [share_none] at h1
  rw [share_all hW] at h2
  exact ⟨h1, h2⟩
theorem set_zero_len (l : List Int) (y : Int) : (l.set 0 y).length = l.length := List.length_set
theorem sum_first : ∀ {l : List Int} {z : Int}, l[0]? = some z → (∀ x ∈ l, 0 ≤ x) → z ≤ l.sum
  | [], _, h, _ => by simp at h
  | x :: r, z, h, h0 => by
    have e : x = z := Option.some.inj h
    have h2 := sum_nonneg (l := r) fun y hy => h0 y (List.mem_cons_of_mem _ hy)
    rw [List.sum_cons]
    omega
end Lb

namespace Lb
open PySem PySem.Spec PyProof.Rows L2
/-! ### words for the whole -/
section
variable {P : Program} {w : World} {K : PySem.W.Frag} {mg : Str → Option Value} {base : Heap}
/-- a def of the module as the top leaves it -/
structure Dn (K : PySem.W.Frag) (mg : Str → Option Value) (x : Str) (st : Stmt) (ps : List Str) (f : Addr) (fd : FuncData) : Prop where
  F : Fun K x x st f fd
  g : mg x = some (.ref f)
  b : Binds K fd ps []
/-- a def that may be called by its name -/
structure Fd (P : Program) (w : World) (K : PySem.W.Frag) (mg : Str → Option Value) (base : Heap) (CX : CXT) (k : Nat) (x : Str) (sp : Sp) : Prop where
  ex : ∃ (f : Addr) (fd : FuncData) (ps : List Str), FnOk P w K mg base CX k f fd ps sp ∧ mg x = some (.ref f) ∧ PySem.W.keepIn K (.ref f) = true ∧ Binds K fd ps []
theorem Dn.fd {x : Str} {st : Stmt} {ps : List Str} {f : Addr} {fd : FuncData} {CX : CXT} {k : Nat} {sp : Sp} (D : Dn K mg x st ps f fd) (F : FnOk P w K mg base CX k f fd ps sp) : Fd P w K mg base CX k x sp :=
  ⟨f, fd, ps, F, D.g, D.F.kp, D.b⟩
end
section
variable {X : Cx} {k j : Nat} {x : Str} {sp : Sp} {p pos : Pos} {e : Expr} {es : List Expr} {t : TA}
theorem pe_cl (c : Fd X.prog X.w X.K X.mg X.base CX0 k x sp) (hr : Room j X.A) (ha : PA X (e :: es) t) (hk : k ≤ j := by decide) (hg : Gl X x := by rfl) (hdb : (x == ("__debug__" : Str)) = false := by decide)
    (he : starEach (e :: es) X.env = (false, eval e X.env) :: starEach es X.env := by rfl) (hpl : (backTo pos (starEach es X.env)).any (·.1) = false := by rfl) :
    PE X (.Call (.Name x p) (e :: es) [] pos) (tCall sp [] E0 t) := by
  obtain ⟨f, fd, ps, F, hm, kp, b⟩ := c.ex
  exact pe_call F (hr.mono hk) hg hm kp b .nil pass0 ha hdb he hpl
theorem pe_clS {E : L2.St → XK} (c : Fd X.prog X.w X.K X.mg X.base (L2.CX X.prog X.w) k x sp) (hr : Room j X.A) (hx : ∀ σ, PassesAt (L2.CX X.prog X.w) X σ (E σ)) (ha : PA X (e :: es) t) (hk : k ≤ j := by decide) (hg : Gl X x := by rfl) (hdb : (x == ("__debug__" : Str)) = false := by decide)
    (he : starEach (e :: es) X.env = (false, eval e X.env) :: starEach es X.env := by rfl) (hpl : (backTo pos (starEach es X.env)).any (·.1) = false := by rfl) :
    PE X (.Call (.Name x p) (e :: es) [] pos) (tCallS sp E t) := by
  obtain ⟨f, fd, ps, F, hm, kp, b⟩ := c.ex
  exact pe_callS F (hr.mono hk) hg hm kp b hx ha hdb he hpl
/-- a statement that stands where something is known -/
def tWhen (p : Prop) (t : TS) : TS := fun D σ H => p ∧ t D σ H
theorem pss_when {p : Prop} {l : List Stmt} {t : TS} (h : p → PSs X l t) : PSs X l (tWhen p t) := ⟨fun pins s σ H D I q => (h q.1).run pins s σ H D I q.2⟩
end
/-! ### heaps -/
theorem same_upd {H : Hp} {p : Addr} {o : HO} (h : H p = none) : Same H (upd H p o) := fun b x e => by
  rw [upd_ne (ne_of_none e h)]
  exact e
theorem same_mut {H H' : Hp} {p : Addr} {o : HO} (e : Same H H') (h : H p = none) : Same H (upd H' p o) := fun b x q => by
  rw [upd_ne (ne_of_none q h)]
  exact e b x q
theorem if_true_of {c : Bool} {A B : Prop} (hc : c = true) (h : A) : if c = true then A else B := by
  rw [if_pos hc]
  exact h
theorem if_false_of {c : Bool} {A B : Prop} (hc : c = false) (h : B) : if c = true then A else B := by
  rw [hc, if_neg Bool.false_ne_true]
  exact h
theorem item_int {ns : List Int} {i : Nat} {y : V} (h : (ns.map V.int)[i]? = some y) : ∃ z, ns[i]? = some z ∧ y = V.int z := by
  rw [List.getElem?_map] at h
  cases e : ns[i]? with
  | none =>
    rw [e] at h
    cases h
  | some z =>
    rw [e] at h
    exact ⟨z, rfl, (Option.some.inj h).symm⟩
theorem at_int {ns : List Int} {i : Nat} {z : Int} (h : ns[i]? = some z) : atI (ns.map V.int) (i : Int) = some (V.int z) := atI_nat (by rw [List.getElem?_map, h]; rfl)
theorem dp_ints {K : PySem.W.Frag} {H : Hp} : ∀ ns : List Int, DpAll K H (ns.map V.int) (ns.map PyData.int)
  | [] => .nil
  | n :: r => .cons (.int n) (dp_ints r)
theorem eqv_ints : ∀ ns ms : List Int, PyData.eqvAll (ns.map PyData.int) (ms.map PyData.int) = decide (ns = ms)
  | [], [] => rfl
  | [], m :: s => rfl
  | n :: r, [] => rfl
  | n :: r, m :: s => by
    show (PyData.eqv (.int n) (.int m) && PyData.eqvAll (r.map PyData.int) (s.map PyData.int)) = _
    rw [eqv_ints r s]
    show ((n == m) && decide (r = s)) = _
    by_cases h1 : n = m
    · by_cases h2 : r = s
      · simp [h1, h2]
      · simp [h1, h2]
    · simp [h1]
theorem sh_lay : ∀ ns : List Int, PyData.canLayAll0 (ns.map PyData.int) = true
  | [] => rfl
  | n :: r => by
    show (PyData.canLay0 (.int n) && PyData.canLayAll0 (r.map PyData.int)) = true
    rw [sh_lay r]
    rfl
theorem sh_depth : ∀ ns : List Int, PyData.depthAll (ns.map PyData.int) = 0
  | [] => rfl
  | n :: r => by
    show max (PyData.depth (.int n)) (PyData.depthAll (r.map PyData.int)) = 0
    rw [sh_depth r]
    rfl
theorem sh_ints (ns : List Int) : SeqAt.shaped (.list (ns.map PyData.int)) = true := by
  unfold SeqAt.shaped
  show (PyData.canLayAll0 (ns.map PyData.int) && decide (PyData.depthAll (ns.map PyData.int) + 1 ≤ 64)) = true
  rw [sh_lay, sh_depth]
  rfl
/-- two lists of whole numbers, compared -/
theorem ne_ints {K : PySem.W.Frag} {H : Hp} {a b : Addr} {ns ms : List Int} {Q : VK} (ha : SqL K H a (ns.map V.int)) (hb : SqL K H b (ms.map V.int)) (q : Q (.bl (!decide (ns = ms))) H) : rNeD K (.ref a) (.ref b) H Q := by
  refine ⟨.list (ns.map PyData.int), .list (ms.map PyData.int), .lst ha (dp_ints ns), .lst hb (dp_ints ms), sh_ints _, sh_ints _, ?_⟩
  have e : PyData.eqv (.list (ns.map PyData.int)) (.list (ms.map PyData.int)) = decide (ns = ms) := eqv_ints ns ms
  rw [e]
  exact q
end Lb
namespace Lb
open PySem PySem.Spec PyProof.Rows L2
theorem kit_ref_ty {K : PySem.W.Frag} {C : Addr} {T : String} {b : Bool} (hm : PySem.W.kitMeta T = true) (h : PySem.W.subIn K (.ref C) (.type T) = some b) : PySem.W.kitOne K (.ref C) (.type T) = some b := by
  unfold PySem.W.kitOne
  have e : ((Value.ref C) == (Value.type T)) = false := by
    cases q : ((Value.ref C) == (Value.type T)) with
    | false => rfl
    | true => exact nomatch (beq_iff_eq.mp q)
  rw [e, if_neg Bool.false_ne_true]
  show (if PySem.W.kitMeta T = true then PySem.W.subIn K (.ref C) (.type T) else none) = some b
  rw [if_pos hm]
  exact h
end Lb
namespace Lb
open PySem PySem.Spec PyProof.Rows L2
section
variable {X : Cx} {k j : Nat} {x : Str} {sp : Sp} {p pos : Pos} {e : Expr} {es : List Expr} {t : TA}
/-- a call of a def that may raise, where it does not -/
theorem pe_clL (c : Fd X.prog X.w X.K X.mg X.base (L2.CX X.prog X.w) k x sp) (hr : Room j X.A) (ha : PA X (e :: es) t) (hk : k ≤ j := by decide) (hg : Gl X x := by rfl) (hdb : (x == ("__debug__" : Str)) = false := by decide)
    (he : starEach (e :: es) X.env = (false, eval e X.env) :: starEach es X.env := by rfl) (hpl : (backTo pos (starEach es X.env)).any (·.1) = false := by rfl) :
    PE X (.Call (.Name x p) (e :: es) [] pos) (tCall sp [] E0 t) := by
  obtain ⟨f, fd, ps, F, hm, kp, b⟩ := c.ex
  exact pe_call F (hr.mono hk) hg hm kp b .nil passL ha hdb he hpl
end
end Lb

namespace Lb
open PySem PySem.Spec PyProof.Rows L2
/-! ### greater products -/
def CMulX (i j : Int) : Prop := i.natAbs.log2 + j.natAbs.log2 < 100000000
theorem CMulX.ok {i j : Int} (h : CMulX i j) : IntMulOk i j := by
  have b : ∀ x : Int, Builtin.Int.intBits x ≤ x.natAbs.log2 + 1 := fun x => by
    unfold Builtin.Int.intBits
    split <;> omega
  have h1 := b i
  have h2 := b j
  have h3 : i.natAbs.log2 + j.natAbs.log2 < 100000000 := h
  have e : bitsLine = 134217728 := by decide
  unfold IntMulOk
  intro z
  rw [Bool.and_eq_true] at z
  have z2 := z.2
  unfold Builtin.Int.intTooBig at z2
  have z3 := of_decide_eq_true z2
  rw [e] at z3
  omega
theorem op_mulX {X : Cx} : OpR X (binaryOp .Mult) (rI CMulX fun i j => .int (i * j)) := opI fun _ _ _ _ _ _ _ hc q => mul_int q hc.ok
theorem mulX {i j : Int} {a b : Nat} (ha : i.natAbs < 2 ^ a) (hb : j.natAbs < 2 ^ b) (h0 : 0 < a) (h1 : 0 < b) (h : a + b ≤ 100000000) : CMulX i j := by
  have x := PySem.Flt.log2_lt_of h0 ha
  have y := PySem.Flt.log2_lt_of h1 hb
  unfold CMulX
  omega
theorem abs_add {i j : Int} {a b n : Nat} (ha : i.natAbs < 2 ^ a) (hb : j.natAbs < 2 ^ b) (h1 : a + 1 ≤ n) (h2 : b + 1 ≤ n) : (i + j).natAbs < 2 ^ n := by
  have e1 : 2 ^ (a + 1) ≤ 2 ^ n := Nat.pow_le_pow_right (by decide) h1
  have e2 : 2 ^ (b + 1) ≤ 2 ^ n := Nat.pow_le_pow_right (by decide) h2
  have e3 : 2 ^ (a + 1) = 2 ^ a * 2 := Nat.pow_succ 2 a
  have e4 : 2 ^ (b + 1) = 2 ^ b * 2 := Nat.pow_succ 2 b
  have e5 := Int.natAbs_add_le i j
  generalize 2 ^ (a + 1) = A at *
  generalize 2 ^ (b + 1) = B at *
  generalize 2 ^ a = A' at *
  generalize 2 ^ b = B' at *
  generalize 2 ^ n = N at *
  omega
theorem abs_bits {i : Int} {n : Nat} (h : Builtin.Int.intBits i ≤ n) : i.natAbs < 2 ^ n := by
  unfold Builtin.Int.intBits at h
  split at h
  · rename_i e
    have e' : i.natAbs = 0 := by simpa using e
    rw [e']
    exact Nat.two_pow_pos n
  · rename_i e
    have e' : i.natAbs ≠ 0 := by simpa using e
    exact (Nat.log2_lt e').mp (by omega)
theorem abs_lit {c m : Int} {n : Nat} (h0 : 0 ≤ c) (h1 : c < m) (hm : m.toNat ≤ 2 ^ n) : c.natAbs < 2 ^ n := by
  have : c.natAbs < m.toNat := by omega
  exact Nat.lt_of_lt_of_le this hm
/-! ### lists of tuples -/
structure Lot where
  day : Int
  cnt : Int
  cost : Int
deriving DecidableEq
def lotV (l : Lot) : List V := [.int l.day, .int l.cnt, .int l.cost]
/-- at a a list of tuples that stand for xs -/
def TpA {α : Type} (f : α → List V) (H : Hp) (a : Addr) (xs : List α) : Prop :=
  ∃ ts : List Addr, H a = some (.lst (ts.map V.ref)) ∧ ts.length = xs.length ∧ ∀ (i : Nat) t x, ts[i]? = some t → xs[i]? = some x → H t = some (.tup (f x))
theorem TpA.same {α : Type} {f : α → List V} {H H' : Hp} {a : Addr} {xs : List α} (h : TpA f H a xs) (s : Same H H') : TpA f H' a xs := by
  obtain ⟨ts, h1, h2, h3⟩ := h
  exact ⟨ts, s _ _ h1, h2, fun i t x ht hx => s _ _ (h3 i t x ht hx)⟩
theorem TpA.sq {α : Type} {f : α → List V} {H : Hp} {a : Addr} {xs : List α} (h : TpA f H a xs) : ∃ ts : List Addr, ts.length = xs.length ∧ H a = some (.lst (ts.map V.ref)) ∧ ∀ (i : Nat) t x, ts[i]? = some t → xs[i]? = some x → H t = some (.tup (f x)) := by
  obtain ⟨ts, h1, h2, h3⟩ := h
  exact ⟨ts, h2, h1, h3⟩
theorem TpA.nil {α : Type} {f : α → List V} {H : Hp} {a : Addr} (h : H a = some (.lst [])) : TpA f H a [] := ⟨[], h, rfl, fun i t x ht _ => by simp at ht⟩
/-- a tuple more, at a list that is written -/
theorem TpA.snoc {α : Type} {f : α → List V} {H H' : Hp} {a t : Addr} {xs : List α} {x : α} (h : TpA f H a xs) (sm : ∀ b o, b ≠ a → H b = some o → H' b = some o) (ht : H' t = some (.tup (f x))) {l : List V} (hl : H a = some (.lst l)) (ha : H' a = some (.lst (l ++ [.ref t]))) : TpA f H' a (xs ++ [x]) := by
  obtain ⟨ts, h1, h2, h3⟩ := h
  have el : l = ts.map V.ref := by
    rw [h1] at hl
    cases hl
    rfl
  subst el
  refine ⟨ts ++ [t], by rw [ha, List.map_append]; rfl, by rw [List.length_append, List.length_append, h2]; rfl, fun i t' x' ht' hx' => ?_⟩
  by_cases hi : i < ts.length
  · rw [List.getElem?_append_left hi] at ht'
    rw [List.getElem?_append_left (by omega)] at hx'
    have q := h3 i t' x' ht' hx'
    exact sm _ _ (fun e => by rw [e, h1] at q; cases q) q
  · rw [List.getElem?_append_right (by omega)] at ht'
    rw [List.getElem?_append_right (by omega)] at hx'
    have hi0 : i - ts.length = 0 := by
      cases hh : i - ts.length with
      | zero => rfl
      | succ n => rw [hh] at ht'; simp at ht'
    rw [hi0] at ht'
    rw [show i - xs.length = 0 by omega] at hx'
    cases Option.some.inj ht'
    cases Option.some.inj hx'
    exact ht
/-! ### comprehensions over a list, over a tuple -/
section
variable {K : PySem.W.Frag} {a D : Addr} {xs : List V} {g : TG} {te : TE} {vs : List Nat} {σ : L2.St} {H1 : Hp} {Qd : Hp → Prop}
theorem lc_yes {g : TG} {te : TE} {vs : List Nat} {σ : L2.St} {x : V} {H : Hp} {Z : V → Hp → Prop} {N : Hp → Prop} (h : g x (wipe σ vs) H fun σ2 H2 => wipe σ2 vs = wipe σ vs ∧ te σ2 H2 Z) :
    g x (wipe σ vs) H fun σ2 H2 => wipe σ2 vs = wipe σ vs ∧ tYes σ2 H2 fun b H3 => if b = true then te σ2 H3 Z else N H3 := by
  have e : (fun σ2 H2 => wipe σ2 vs = wipe σ vs ∧ tYes σ2 H2 fun b H3 => if b = true then te σ2 H3 Z else N H3) = (fun σ2 H2 => wipe σ2 vs = wipe σ vs ∧ te σ2 H2 Z) := by
    funext σ2 H2
    show (wipe σ2 vs = wipe σ vs ∧ (if true = true then te σ2 H2 Z else N H2)) = _
    rw [if_pos rfl]
  rw [e]
  exact h
/-- what a comprehension's list holds behind i turns -/
def LcP (xs : List V) (R : V → V → Hp → Prop) (H1 : Hp) (D : Addr) (i : Nat) (H : Hp) : Prop :=
  Same H1 H ∧ ∃ ys, H D = some (.lst ys) ∧ ys.length = i ∧ ∀ (j : Nat) x y, xs[j]? = some x → ys[j]? = some y → R x y H
theorem LcP.more {xs : List V} {R : V → V → Hp → Prop} {H1 : Hp} {D : Addr} (nD : H1 D = none) (hlen : xs.length ≤ sizeLine)
    (mono : ∀ x y H H', (∃ l, H D = some (.lst l)) → (∀ b o, b ≠ D → H b = some o → H' b = some o) → R x y H → R x y H') {i : Nat} {x : V} {H H4 : Hp} (hi : xs[i]? = some x) (p : LcP xs R H1 D i H) {y : V} (sm : Same H H4) (r : R x y H4) :
    ∃ acc, H4 D = some (.lst acc) ∧ acc.length < sizeLine ∧ LcP xs R H1 D (i + 1) (upd H4 D (.lst (acc ++ [y]))) := by
  obtain ⟨s0, ys, h1, h2, h3⟩ := p
  have hil := (List.getElem?_eq_some_iff.mp hi).1
  have mv : ∀ b o, b ≠ D → H4 b = some o → (upd H4 D (.lst (ys ++ [y]))) b = some o := fun b o hb e => by rw [upd_ne hb]; exact e
  refine ⟨ys, sm _ _ h1, by omega, fun b o e => ?_, ys ++ [y], upd_same, by rw [List.length_append, h2]; rfl, fun j x' y' hx hy => ?_⟩
  · rw [upd_ne (ne_of_none e nD)]
    exact sm _ _ (s0 b o e)
  · by_cases hj : j < ys.length
    · rw [List.getElem?_append_left hj] at hy
      exact mono _ _ _ _ ⟨_, sm _ _ h1⟩ mv (mono _ _ _ _ ⟨_, h1⟩ (fun b o _ e => sm b o e) (h3 j x' y' hx hy))
    · rw [List.getElem?_append_right (by omega)] at hy
      have hj0 : j - ys.length = 0 := by
        cases hh : j - ys.length with
        | zero => rfl
        | succ n => rw [hh] at hy; simp at hy
      rw [hj0] at hy
      have ej : j = i := by omega
      subst ej
      rw [hi] at hx
      cases hx
      cases Option.some.inj hy
      exact mono _ _ _ _ ⟨_, sm _ _ h1⟩ mv r
theorem lc_to (R : V → V → Hp → Prop) (hS : SqL K H1 a xs) (nD : H1 D = none) (hlen : xs.length ≤ sizeLine)
    (mono : ∀ x y H H', (∃ l, H D = some (.lst l)) → (∀ b o, b ≠ D → H b = some o → H' b = some o) → R x y H → R x y H')
    (turn : ∀ (i : Nat) (x : V) (H : Hp) (Z : V → Hp → Prop), xs[i]? = some x → Same H1 H → (∃ l, H D = some (.lst l)) → (∀ y H4, Same H H4 → R x y H4 → Z y H4) → g x (wipe σ vs) H fun σ2 H2 => wipe σ2 vs = wipe σ vs ∧ te σ2 H2 Z)
    (done : ∀ H' ys, Same H1 H' → H' D = some (.lst ys) → ys.length = xs.length → (∀ (j : Nat) x y, xs[j]? = some x → ys[j]? = some y → R x y H') → Qd H') :
    ∃ W : Nat → Nat → Hp → Prop, (∃ m, W 0 m (upd H1 D (.lst []))) ∧ ∀ i m H, W i m H →
      ((Itl K a).stop i H ∧ Qd H) ∨ ((Itl K a).go i H ∧ ∃ Nx : Hp → Prop, (∀ H', Nx H' → ∃ m', m' < m ∧ W (i + 1) m' H') ∧ ∀ x H', (Itl K a).yld i H x H' → g x (wipe σ vs) H' fun σ2 H2 => wipe σ2 vs = wipe σ vs ∧ tYes σ2 H2 fun b H3 =>
        if b = true then te σ2 H3 fun y H4 => ∃ acc, H4 D = some (.lst acc) ∧ acc.length < sizeLine ∧ Nx (upd H4 D (.lst (acc ++ [y]))) else Nx H3) := by
  refine lc_list (K := K) (a := a) (xs := xs) (LcP xs R H1 D) ⟨same_upd nD, [], upd_same, rfl, fun j x y hx hy => by simp at hy⟩ (fun i H _ p => p.1.seq hS) (fun i x H hi p => ?_) (fun H p => ?_)
  · obtain ⟨s0, ys, h1, _⟩ := id p
    exact lc_yes (turn i x H _ hi s0 ⟨ys, h1⟩ fun y H4 sm r => LcP.more nD hlen mono hi p sm r)
  · obtain ⟨s0, ys, h1, h2, h3⟩ := p
    exact done H ys s0 h1 h2 h3
theorem lcT_to (R : V → V → Hp → Prop) (hS : SqT K H1 a xs) (nD : H1 D = none) (hlen : xs.length ≤ sizeLine)
    (hst : ∀ H, Same H1 H → SqT K H a xs)
    (mono : ∀ x y H H', (∃ l, H D = some (.lst l)) → (∀ b o, b ≠ D → H b = some o → H' b = some o) → R x y H → R x y H')
    (turn : ∀ (i : Nat) (x : V) (H : Hp) (Z : V → Hp → Prop), xs[i]? = some x → Same H1 H → (∃ l, H D = some (.lst l)) → (∀ y H4, Same H H4 → R x y H4 → Z y H4) → g x (wipe σ vs) H fun σ2 H2 => wipe σ2 vs = wipe σ vs ∧ te σ2 H2 Z)
    (done : ∀ H' ys, Same H1 H' → H' D = some (.lst ys) → ys.length = xs.length → (∀ (j : Nat) x y, xs[j]? = some x → ys[j]? = some y → R x y H') → Qd H') :
    ∃ W : Nat → Nat → Hp → Prop, (∃ m, W 0 m (upd H1 D (.lst []))) ∧ ∀ i m H, W i m H →
      ((Itt K a).stop i H ∧ Qd H) ∨ ((Itt K a).go i H ∧ ∃ Nx : Hp → Prop, (∀ H', Nx H' → ∃ m', m' < m ∧ W (i + 1) m' H') ∧ ∀ x H', (Itt K a).yld i H x H' → g x (wipe σ vs) H' fun σ2 H2 => wipe σ2 vs = wipe σ vs ∧ tYes σ2 H2 fun b H3 =>
        if b = true then te σ2 H3 fun y H4 => ∃ acc, H4 D = some (.lst acc) ∧ acc.length < sizeLine ∧ Nx (upd H4 D (.lst (acc ++ [y]))) else Nx H3) := by
  refine lc_tup (K := K) (a := a) (xs := xs) (LcP xs R H1 D) ⟨same_upd nD, [], upd_same, rfl, fun j x y hx hy => by simp at hy⟩ (fun i H _ p => hst H p.1) (fun i x H hi p => ?_) (fun H p => ?_)
  · obtain ⟨s0, ys, h1, _⟩ := id p
    exact lc_yes (turn i x H _ hi s0 ⟨ys, h1⟩ fun y H4 sm r => LcP.more nD hlen mono hi p sm r)
  · obtain ⟨s0, ys, h1, h2, h3⟩ := p
    exact done H ys s0 h1 h2 h3
end
theorem mono_pure {R : V → V → Prop} {D : Addr} : ∀ x y (H H' : Hp), (∃ l, H D = some (.lst l)) → (∀ b o, b ≠ D → H b = some o → H' b = some o) → (fun x y (_ : Hp) => R x y) x y H → (fun x y (_ : Hp) => R x y) x y H' := fun _ _ _ _ _ _ h => h
/-- lists that are alike place by place -/
theorem ext_get {α : Type} {l m : List α} (hl : l.length = m.length) (h : ∀ (j : Nat) x y, l[j]? = some x → m[j]? = some y → x = y) : l = m := by
  apply List.ext_getElem? 
  intro j
  by_cases hj : j < l.length
  · have h1 := List.getElem?_eq_getElem hj
    have h2 := List.getElem?_eq_getElem (show j < m.length by omega)
    rw [h1, h2, h j _ _ h1 h2]
  · rw [List.getElem?_eq_none (by omega), List.getElem?_eq_none (by omega)]
theorem same_seqT {K : PySem.W.Frag} {H H' : Hp} {a : Addr} {xs : List V} (e : Same H H') (h : SqT K H a xs) : SqT K H' a xs := by
  rcases h with (h | ⟨o, h⟩) | h
  · exact .inl (.inl (e _ _ h))
  · exact .inl (.inr ⟨o, e _ _ h⟩)
  · exact .inr h
end Lb

namespace Lb
open PySem PySem.Spec PyProof.Rows L2
/-- the bits of a script's cell -/
@[irreducible] def bS : Nat := 1048576
theorem bS_eq : bS = 1048576 := by unfold bS; rfl
def mixM (c k : Int) : Int := (c + 61 * k) * 1000003 ^ 5
def pick4 (i a b c d : Int) : Int := if i = 0 then a else if i = 1 then b else if i = 2 then c else d
theorem at_pick4 {i a b c d : Int} (h0 : 0 ≤ i) (h1 : i < 4) : atI [V.int a, V.int b, V.int c, V.int d] i = some (V.int (pick4 i a b c d)) := by
  have h : i = 0 ∨ i = 1 ∨ i = 2 ∨ i = 3 := by omega
  rcases h with h | h | h | h <;> (subst h; rfl)
theorem pick4_of {P : Int → Prop} {i a b c d : Int} (ha : P a) (hb : P b) (hc : P c) (hd : P d) : P (pick4 i a b c d) := by
  unfold pick4
  split
  · exact ha
  · split
    · exact hb
    · split
      · exact hc
      · exact hd
def cntM (c : Int) : Int := 1 + pick4 (c / 4 % 4) (c / 4 / 4 % 10) (12 * (c / 4 / 4 % 10) + 11) (c * 48271 ^ 7 % 10 ^ 12) (c * 69621 ^ 7 % (10 ^ 30 - 1))
def costM (c : Int) : Int := pick4 (c / 4 / 4 / 10 % 4) 0 (c / 4 / 4 / 10 / 4 % 12) (c * 16807 ^ 8 % 10 ^ 15) (c * 40692 ^ 8 % 10 ^ 30)
theorem cntM_lt (c : Int) : 1 ≤ cntM c ∧ cntM c < 10 ^ 30 := by
  have h : (fun x : Int => 0 ≤ x ∧ x < 10 ^ 30 - 1) (pick4 (c / 4 % 4) (c / 4 / 4 % 10) (12 * (c / 4 / 4 % 10) + 11) (c * 48271 ^ 7 % 10 ^ 12) (c * 69621 ^ 7 % (10 ^ 30 - 1))) := by
    have e : (10 : Int) ^ 30 - 1 = 999999999999999999999999999999 := by decide
    have e2 : (10 : Int) ^ 12 = 1000000000000 := by decide
    rw [e, e2]
    refine pick4_of ?_ ?_ ?_ ?_
    · show 0 ≤ c / 4 / 4 % 10 ∧ c / 4 / 4 % 10 < 999999999999999999999999999999
      omega
    · show 0 ≤ 12 * (c / 4 / 4 % 10) + 11 ∧ 12 * (c / 4 / 4 % 10) + 11 < 999999999999999999999999999999
      omega
    · show 0 ≤ c * 48271 ^ 7 % 1000000000000 ∧ c * 48271 ^ 7 % 1000000000000 < 999999999999999999999999999999
      generalize c * 48271 ^ 7 = x
      omega
    · show 0 ≤ c * 69621 ^ 7 % 999999999999999999999999999999 ∧ c * 69621 ^ 7 % 999999999999999999999999999999 < 999999999999999999999999999999
      generalize c * 69621 ^ 7 = x
      omega
  have h' : 0 ≤ pick4 (c / 4 % 4) (c / 4 / 4 % 10) (12 * (c / 4 / 4 % 10) + 11) (c * 48271 ^ 7 % 10 ^ 12) (c * 69621 ^ 7 % (10 ^ 30 - 1)) ∧ pick4 (c / 4 % 4) (c / 4 / 4 % 10) (12 * (c / 4 / 4 % 10) + 11) (c * 48271 ^ 7 % 10 ^ 12) (c * 69621 ^ 7 % (10 ^ 30 - 1)) < 10 ^ 30 - 1 := h
  unfold cntM
  omega
theorem costM_lt (c : Int) : 0 ≤ costM c ∧ costM c < 10 ^ 30 := by
  have e : (10 : Int) ^ 30 = 1000000000000000000000000000000 := by decide
  have e2 : (10 : Int) ^ 15 = 1000000000000000 := by decide
  have h : (fun x : Int => 0 ≤ x ∧ x < 10 ^ 30) (costM c) := by
    unfold costM
    rw [e, e2]
    refine pick4_of (P := fun x : Int => 0 ≤ x ∧ x < 1000000000000000000000000000000) ?_ ?_ ?_ ?_
    · show (0 : Int) ≤ 0 ∧ (0 : Int) < 1000000000000000000000000000000
      omega
    · show 0 ≤ c / 4 / 4 / 10 / 4 % 12 ∧ c / 4 / 4 / 10 / 4 % 12 < 1000000000000000000000000000000
      omega
    · show 0 ≤ c * 16807 ^ 8 % 1000000000000000 ∧ c * 16807 ^ 8 % 1000000000000000 < 1000000000000000000000000000000
      generalize c * 16807 ^ 8 = x
      omega
    · show 0 ≤ c * 40692 ^ 8 % 1000000000000000000000000000000 ∧ c * 40692 ^ 8 % 1000000000000000000000000000000 < 1000000000000000000000000000000
      generalize c * 40692 ^ 8 = x
      omega
  exact h
def lotCell (ns : List Int) (k : Nat) : Int := mixM (cellAt ns (2 + k % 6)) (k : Int)
def dayUp (ns : List Int) : Nat → Int
  | 0 => 0
  | n + 1 => dayUp ns n + lotCell ns n % 4
def lotsOf (ns : List Int) (n : Nat) : List Lot := (List.range n).map fun k => ⟨dayUp ns (k + 1), cntM (lotCell ns k), costM (lotCell ns k)⟩
theorem lotsOf_snoc (ns : List Int) (n : Nat) : lotsOf ns (n + 1) = lotsOf ns n ++ [⟨dayUp ns (n + 1), cntM (lotCell ns n), costM (lotCell ns n)⟩] := by
  unfold lotsOf
  rw [List.range_succ, List.map_append]
  rfl
theorem lotsOf_len (ns : List Int) (n : Nat) : (lotsOf ns n).length = n := by
  unfold lotsOf
  rw [List.length_map, List.length_range]
theorem dayUp_ge (ns : List Int) : ∀ n, 0 ≤ dayUp ns n ∧ dayUp ns n ≤ 3 * n
  | 0 => ⟨Int.le_refl 0, Int.le_refl 0⟩
  | n + 1 => by
    have ih := dayUp_ge ns n
    show 0 ≤ dayUp ns n + lotCell ns n % 4 ∧ dayUp ns n + lotCell ns n % 4 ≤ 3 * ((n + 1 : Nat) : Int)
    omega
/-- what is true of every lot of the law's own -/
structure LotOk (l : Lot) : Prop where
  d0 : 0 ≤ l.day
  d1 : l.day < 2 ^ 100
  c0 : 1 ≤ l.cnt
  c1 : l.cnt < 10 ^ 30
  k0 : 0 ≤ l.cost
  k1 : l.cost < 10 ^ 30
theorem lotsOf_ok (ns : List Int) {n : Nat} (hn : n ≤ 1000) : ∀ l ∈ lotsOf ns n, LotOk l := by
  intro l hl
  unfold lotsOf at hl
  obtain ⟨k, hk, rfl⟩ := List.mem_map.mp hl
  have hk' : k < n := List.mem_range.mp hk
  have h1 := cntM_lt (lotCell ns k)
  have h2 := costM_lt (lotCell ns k)
  have h3 := dayUp_ge ns (k + 1)
  have e : (2 : Int) ^ 100 = 1267650600228229401496703205376 := by decide
  exact ⟨h3.1, by show dayUp ns (k + 1) < 2 ^ 100; rw [e]; omega, h1.1, h1.2, h2.1, h2.2⟩
def lotI (l : Lot) : List Int := [l.day, l.cnt, l.cost]
abbrev intsV (r : List Int) : List V := r.map V.int
theorem TpA.map {α β : Type} {f : α → List V} {g : β → List V} {h : α → β} {H : Hp} {a : Addr} {xs : List α} (e : ∀ x, g (h x) = f x) (p : TpA f H a xs) : TpA g H a (xs.map h) := by
  obtain ⟨ts, h1, h2, h3⟩ := p
  refine ⟨ts, h1, by rw [List.length_map, h2], fun i t y ht hy => ?_⟩
  rw [List.getElem?_map] at hy
  cases q : xs[i]? with
  | none => rw [q] at hy; cases hy
  | some x =>
    rw [q] at hy
    cases Option.some.inj hy
    rw [e]
    exact h3 i t x ht q
theorem TpA.lots {H : Hp} {a : Addr} {xs : List Lot} (p : TpA lotV H a xs) : TpA intsV H a (xs.map lotI) := p.map fun _ => rfl
theorem sh_tints (ns : List Int) : SeqAt.shaped (.tuple (ns.map PyData.int)) = true := by
  unfold SeqAt.shaped
  show (PyData.canLayAll0 (ns.map PyData.int) && decide (PyData.depthAll (ns.map PyData.int) + 1 ≤ 64)) = true
  rw [sh_lay, sh_depth]
  rfl
theorem ne_tints {K : PySem.W.Frag} {H : Hp} {a b : Addr} {ns ms : List Int} {Q : VK} (ha : SqT K H a (ns.map V.int)) (hb : SqT K H b (ms.map V.int)) (q : Q (.bl (!decide (ns = ms))) H) : rNeD K (.ref a) (.ref b) H Q := by
  refine ⟨.tuple (ns.map PyData.int), .tuple (ms.map PyData.int), .tup ha (dp_ints ns), .tup hb (dp_ints ms), sh_tints _, sh_tints _, ?_⟩
  have e : PyData.eqv (.tuple (ns.map PyData.int)) (.tuple (ms.map PyData.int)) = decide (ns = ms) := eqv_ints ns ms
  rw [e]
  exact q
/-! two lists of tuples of whole numbers, compared -/
def rowD (r : List Int) : PyData := .tuple (r.map PyData.int)
theorem dp_rows {K : PySem.W.Frag} {H : Hp} : ∀ (ts : List Addr) (rows : List (List Int)), ts.length = rows.length → (∀ (i : Nat) t x, ts[i]? = some t → rows[i]? = some x → H t = some (.tup (intsV x))) → DpAll K H (ts.map V.ref) (rows.map rowD)
  | [], [], _, _ => .nil
  | [], _ :: _, h, _ => by simp at h
  | _ :: _, [], h, _ => by simp at h
  | t :: ts, r :: rows, h, p => .cons (.tup (SqT.of (p 0 t r rfl rfl)) (dp_ints r)) (dp_rows ts rows (by simpa using h) fun i t' x ht hx => p (i + 1) t' x ht hx)
theorem eqv_rows : ∀ xs ys : List (List Int), PyData.eqvAll (xs.map rowD) (ys.map rowD) = decide (xs = ys)
  | [], [] => rfl
  | [], m :: s => rfl
  | n :: r, [] => rfl
  | n :: r, m :: s => by
    show (PyData.eqv (rowD n) (rowD m) && PyData.eqvAll (r.map rowD) (s.map rowD)) = _
    rw [eqv_rows r s]
    have e : PyData.eqv (rowD n) (rowD m) = decide (n = m) := eqv_ints n m
    rw [e]
    by_cases h1 : n = m
    · by_cases h2 : r = s
      · simp [h1, h2]
      · simp [h1, h2]
    · simp [h1]
theorem lay_rows : ∀ xs : List (List Int), PyData.canLayAll0 (xs.map rowD) = true
  | [] => rfl
  | r :: s => by
    show (PyData.canLayAll0 (r.map PyData.int) && PyData.canLayAll0 (s.map rowD)) = true
    rw [sh_lay, lay_rows s]
    rfl
theorem depth_rows : ∀ xs : List (List Int), PyData.depthAll (xs.map rowD) ≤ 1
  | [] => Nat.zero_le 1
  | r :: s => by
    show max (PyData.depthAll (r.map PyData.int) + 1) (PyData.depthAll (s.map rowD)) ≤ 1
    have := depth_rows s
    rw [sh_depth]
    omega
theorem sh_rows (xs : List (List Int)) : SeqAt.shaped (.list (xs.map rowD)) = true := by
  unfold SeqAt.shaped
  show (PyData.canLayAll0 (xs.map rowD) && decide (PyData.depthAll (xs.map rowD) + 1 ≤ 64)) = true
  have := depth_rows xs
  rw [lay_rows, decide_eq_true (by omega)]
  rfl
theorem ne_rows {K : PySem.W.Frag} {H : Hp} {a b : Addr} {xs ys : List (List Int)} {Q : VK} (ha : TpA intsV H a xs) (hb : TpA intsV H b ys) (q : Q (.bl (!decide (xs = ys))) H) : rNeD K (.ref a) (.ref b) H Q := by
  obtain ⟨ts, h1, h2, h3⟩ := ha
  obtain ⟨us, g1, g2, g3⟩ := hb
  refine ⟨.list (xs.map rowD), .list (ys.map rowD), .lst (SqL.of h1) (dp_rows ts xs h2 h3), .lst (SqL.of g1) (dp_rows us ys g2 g3), sh_rows _, sh_rows _, ?_⟩
  have e : PyData.eqv (.list (xs.map rowD)) (.list (ys.map rowD)) = decide (xs = ys) := eqv_rows xs ys
  rw [e]
  exact q
theorem eq_rows {K : PySem.W.Frag} {H : Hp} {a b : Addr} {xs ys : List (List Int)} {Q : VK} (ha : TpA intsV H a xs) (hb : TpA intsV H b ys) (q : Q (.bl (decide (xs = ys))) H) : rEqD K (.ref a) (.ref b) H Q := by
  obtain ⟨ts, h1, h2, h3⟩ := ha
  obtain ⟨us, g1, g2, g3⟩ := hb
  refine ⟨.list (xs.map rowD), .list (ys.map rowD), .lst (SqL.of h1) (dp_rows ts xs h2 h3), .lst (SqL.of g1) (dp_rows us ys g2 g3), sh_rows _, sh_rows _, ?_⟩
  have e : PyData.eqv (.list (xs.map rowD)) (.list (ys.map rowD)) = decide (xs = ys) := eqv_rows xs ys
  rw [e]
  exact q
end Lb

namespace Lb
open PySem PySem.Spec PyProof.Rows L2
/-! ### the mathematics of lots -/
def mn (a b : Int) : Int := if b < a then b else a
def mx (a b : Int) : Int := if b > a then b else a
theorem mn_is (a b : Int) : mn a b = min a b := by
  unfold mn
  omega
theorem mx_is (a b : Int) : mx a b = max a b := by
  unfold mx
  omega
theorem mn_le (a b : Int) : mn a b ≤ a ∧ mn a b ≤ b ∧ (mn a b = a ∨ mn a b = b) := by
  rw [mn_is]
  omega
def manyL (ls : List Lot) : Int := (ls.map Lot.cnt).sum
def costL (ls : List Lot) : Int := (ls.map Lot.cost).sum
/-- what c shares are taken from -/
def takeL : List Lot → Int → List Lot
  | [], _ => []
  | l :: r, c => (if 0 < mn l.cnt c then [⟨l.day, mn l.cnt c, l.cost * mn l.cnt c / l.cnt⟩] else []) ++ takeL r (c - mn l.cnt c)
/-- what is left -/
def leftL : List Lot → Int → List Lot
  | [], _ => []
  | l :: r, c => (if mn l.cnt c < l.cnt then [⟨l.day, l.cnt - mn l.cnt c, l.cost - l.cost * mn l.cnt c / l.cnt⟩] else []) ++ leftL r (c - mn l.cnt c)
/-- what is still wanted behind the lots -/
def restL : List Lot → Int → Int
  | [], c => c
  | l :: r, c => restL r (c - mn l.cnt c)
theorem restL_snoc : ∀ (ls : List Lot) (l : Lot) (c : Int), restL (ls ++ [l]) c = restL ls c - mn l.cnt (restL ls c)
  | [], _, _ => rfl
  | x :: r, l, c => restL_snoc r l (c - mn x.cnt c)
theorem takeL_snoc : ∀ (ls : List Lot) (l : Lot) (c : Int), takeL (ls ++ [l]) c = takeL ls c ++ (if 0 < mn l.cnt (restL ls c) then [⟨l.day, mn l.cnt (restL ls c), l.cost * mn l.cnt (restL ls c) / l.cnt⟩] else [])
  | [], l, c => by
    show (if 0 < mn l.cnt c then [(⟨l.day, mn l.cnt c, l.cost * mn l.cnt c / l.cnt⟩ : Lot)] else []) ++ [] = [] ++ _
    rw [List.append_nil, List.nil_append]
    rfl
  | x :: r, l, c => by
    show _ ++ takeL (r ++ [l]) (c - mn x.cnt c) = (_ ++ takeL r (c - mn x.cnt c)) ++ _
    rw [takeL_snoc r l, List.append_assoc]
    rfl
theorem leftL_snoc : ∀ (ls : List Lot) (l : Lot) (c : Int), leftL (ls ++ [l]) c = leftL ls c ++ (if mn l.cnt (restL ls c) < l.cnt then [⟨l.day, l.cnt - mn l.cnt (restL ls c), l.cost - l.cost * mn l.cnt (restL ls c) / l.cnt⟩] else [])
  | [], l, c => by
    show (if mn l.cnt c < l.cnt then [(⟨l.day, l.cnt - mn l.cnt c, l.cost - l.cost * mn l.cnt c / l.cnt⟩ : Lot)] else []) ++ [] = [] ++ _
    rw [List.append_nil, List.nil_append]
    rfl
  | x :: r, l, c => by
    show _ ++ leftL (r ++ [l]) (c - mn x.cnt c) = (_ ++ leftL r (c - mn x.cnt c)) ++ _
    rw [leftL_snoc r l, List.append_assoc]
    rfl
theorem takeL_len : ∀ (ls : List Lot) (c : Int), (takeL ls c).length ≤ ls.length
  | [], _ => Nat.le_refl 0
  | l :: r, c => by
    have ih := takeL_len r (c - mn l.cnt c)
    show (_ ++ takeL r (c - mn l.cnt c)).length ≤ r.length + 1
    rw [List.length_append]
    split
    · simp; omega
    · simp; omega
theorem leftL_len : ∀ (ls : List Lot) (c : Int), (leftL ls c).length ≤ ls.length
  | [], _ => Nat.le_refl 0
  | l :: r, c => by
    have ih := leftL_len r (c - mn l.cnt c)
    show (_ ++ leftL r (c - mn l.cnt c)).length ≤ r.length + 1
    rw [List.length_append]
    split
    · simp; omega
    · simp; omega
theorem restL_ge : ∀ (ls : List Lot) (c : Int), 0 ≤ c → (∀ l ∈ ls, 0 ≤ l.cnt) → 0 ≤ restL ls c
  | [], _, h, _ => h
  | l :: r, c, h, h0 => restL_ge r _ (by have := mn_le l.cnt c; omega) fun x hx => h0 x (List.mem_cons_of_mem _ hx)
theorem restL_le : ∀ (ls : List Lot) (c : Int), 0 ≤ c → (∀ l ∈ ls, 0 ≤ l.cnt) → restL ls c ≤ c
  | [], _, _, _ => Int.le_refl _
  | l :: r, c, h, h0 => by
    have h1 := h0 l List.mem_cons_self
    have h2 := mn_le l.cnt c
    have ih := restL_le r (c - mn l.cnt c) (by omega) fun x hx => h0 x (List.mem_cons_of_mem _ hx)
    show restL r (c - mn l.cnt c) ≤ c
    omega
/-- the numbers of lots, within some bits -/
structure LotB (B : Nat) (l : Lot) : Prop where
  d : l.day.natAbs < 2 ^ B
  c0 : 1 ≤ l.cnt
  c : l.cnt.natAbs < 2 ^ B
  k0 : 0 ≤ l.cost
  k : l.cost.natAbs < 2 ^ B
theorem getM {α : Type} {f : α → List V} {H : Hp} {ts : List Addr} {xs : List α} (h : ∀ (i : Nat) t x, ts[i]? = some t → xs[i]? = some x → H t = some (.tup (f x))) (hl : ts.length = xs.length) {i : Nat} {y : V} (hy : (ts.map V.ref)[i]? = some y) :
    ∃ t x, y = .ref t ∧ xs[i]? = some x ∧ H t = some (.tup (f x)) := by
  rw [List.getElem?_map] at hy
  cases q : ts[i]? with
  | none => rw [q] at hy; cases hy
  | some t =>
    rw [q] at hy
    have hi := (List.getElem?_eq_some_iff.mp q).1
    have hx := List.getElem?_eq_getElem (show i < xs.length by omega)
    exact ⟨t, _, (Option.some.inj hy).symm, hx, h i t _ q hx⟩
/-- a comprehension's list of whole numbers -/
theorem ints_of {α : Type} {f : α → Int} {xs : List α} {ys : List V} (hl : ys.length = xs.length) (h : ∀ (j : Nat) x y, xs[j]? = some x → ys[j]? = some y → y = .int (f x)) : ys = (xs.map f).map V.int := by
  apply ext_get
  · rw [hl, List.length_map, List.length_map]
  · intro j x y hx hy
    have hj := (List.getElem?_eq_some_iff.mp hx).1
    have hj2 : j < xs.length := by omega
    have e := h j _ x (List.getElem?_eq_getElem hj2) hx
    rw [List.getElem?_map, List.getElem?_map, List.getElem?_eq_getElem hj2] at hy
    rw [e]
    exact Option.some.inj hy
end Lb
namespace Lb
open PySem PySem.Spec PyProof.Rows L2
theorem TpA.but {α : Type} {f : α → List V} {H H' : Hp} {x y : Addr} {ys : List α} (h : TpA f H y ys) (hx : ∃ l, H x = some (.lst l)) (ne : y ≠ x) (k : ∀ b o, b ≠ x → H b = some o → H' b = some o) : TpA f H' y ys := by
  obtain ⟨ts, h1, h2, h3⟩ := h
  obtain ⟨l, hl⟩ := hx
  refine ⟨ts, k _ _ ne h1, h2, fun i t z ht hz => ?_⟩
  have q := h3 i t z ht hz
  exact k _ _ (fun e => by rw [e, hl] at q; cases q) q
theorem manyL_cons (l : Lot) (r : List Lot) : manyL (l :: r) = l.cnt + manyL r := by
  unfold manyL
  rw [List.map_cons, List.sum_cons]
end Lb
namespace Lb
open PySem PySem.Spec PyProof.Rows L2
theorem small1000' {n : Nat} (h : n ≤ 100000) : n < sizeLine := Nat.lt_of_le_of_lt h (by decide)
end Lb

namespace Lb
open PySem PySem.Spec PyProof.Rows L2
theorem wipe1 (σ : L2.St) (i : Nat) (x : V) : wipe ((wipe σ [i]).set i (some x)) [i] = wipe σ [i] := by
  show (((σ.set i none).set i (some x)).set i none) = σ.set i none
  rw [List.set_set, List.set_set]
theorem wipe1_get {σ : L2.St} {i : Nat} (x : V) (hi : i < σ.length) : ((wipe σ [i]).set i (some x))[i]? = some (some x) := by
  show ((σ.set i none).set i (some x))[i]? = _
  rw [List.getElem?_set_self (by rw [List.length_set]; exact hi)]
/-- [x[j] for x in xs], xs a list of tuples -/
theorem lc_col {α : Type} {f : α → List V} {h : α → Int} {K : PySem.W.Frag} {a D : Addr} {σ : L2.St} {H1 : Hp} {xs : List α} {i : Nat} {j : Int} {Qd : Hp → Prop} (ha : TpA f H1 a xs) (hl : xs.length ≤ 100000) (nD : H1 D = none)
    (hj : ∀ x, atI (f x) j = some (.int (h x))) (hi : i < σ.length) (done : ∀ H', Same H1 H' → H' D = some (.lst ((xs.map h).map V.int)) → Qd H') :
    ∃ W : Nat → Nat → Hp → Prop, (∃ m, W 0 m (upd H1 D (.lst []))) ∧ ∀ k m H, W k m H →
      ((Itl K a).stop k H ∧ Qd H) ∨ ((Itl K a).go k H ∧ ∃ Nx : Hp → Prop, (∀ H', Nx H' → ∃ m', m' < m ∧ W (k + 1) m' H') ∧ ∀ x H', (Itl K a).yld k H x H' → gName i x (wipe σ [i]) H' fun σ2 H2 => wipe σ2 [i] = wipe σ [i] ∧ tYes σ2 H2 fun b H3 =>
        if b = true then tOp (rIxT K) (tVar i) (tC (.int j)) σ2 H3 fun y H4 => ∃ acc, H4 D = some (.lst acc) ∧ acc.length < sizeLine ∧ Nx (upd H4 D (.lst (acc ++ [y]))) else Nx H3) := by
  obtain ⟨ts, ta, tl, tt⟩ := id ha
  refine lc_to (K := K) (fun x y _ => ∀ t z, x = .ref t → (∃ k : Nat, ts[k]? = some t ∧ xs[k]? = some z) → H1 t = some (.tup (f z)) → y = .int (h z)) (SqL.of ta) nD (Nat.le_trans (by rw [List.length_map]; omega) (show 100000 ≤ sizeLine by decide)) (fun _ _ _ _ _ _ h => h) ?_ ?_
  · intro k x H Z hx s1 _ hZ
    obtain ⟨t, z, rfl, hxz, ht⟩ := getM tt tl hx
    refine ⟨wipe1 σ i _, _, wipe1_get _ hi, t, _, _, _, rfl, rfl, SqT.of (s1 _ _ ht), hj z, hZ _ _ (Same.refl H) fun t' z' e _ ht' => ?_⟩
    cases e
    rw [ht] at ht'
    have e2 : f z = f z' := by
      injection ht' with e
      injection e
    have e3 := hj z'
    rw [← e2, hj z] at e3
    exact Option.some.inj e3
  · intro H2 ys s1 hD hlen hys
    have ey : ys = (xs.map h).map V.int := ints_of (by rw [hlen, List.length_map, tl]) fun k z y hk hy => by
      have hkl := (List.getElem?_eq_some_iff.mp hk).1
      have gt : ts[k]? = some ts[k] := List.getElem?_eq_getElem (by omega)
      exact hys k _ y (by rw [List.getElem?_map, gt]; rfl) hy _ z rfl ⟨k, gt, hk⟩ (tt k _ z gt hk)
    subst ey
    exact done H2 s1 hD
/-- sum([x[j] for x in xs]) -/
theorem sum_col {α : Type} {f : α → List V} {h : α → Int} {K : PySem.W.Frag} {a : Addr} {σ : L2.St} {H : Hp} {xs : List α} {s i : Nat} {j : Int} {Q : VK} (hs : σ[s]? = some (some (.ref a))) (ha : TpA f H a xs) (hl : xs.length ≤ 100000)
    (hj : ∀ x, atI (f x) j = some (.int (h x))) (hi : i < σ.length) (q : ∀ H', Same H H' → Q (.int (xs.map h).sum) H') :
    tCB (rSum K) (tCons (tLc (iList K (tVar s)) (gName i) tYes (tOp (rIxT K) (tVar i) (tC (.int j))) [i]) tNil) σ H Q := by
  obtain ⟨ts, ta, tl, tt⟩ := id ha
  refine ⟨_, hs, a, rfl, ⟨_, SqL.of ta⟩, fun D nD => ?_⟩
  exact lc_col ha hl nD hj hi fun H' sm hD => ⟨_, _, rfl, SqL.of hD, q H' sm⟩
theorem at_day (l : Lot) : atI (lotV l) 0 = some (.int l.day) := atI_nat (j := 0) rfl
theorem at_cnt (l : Lot) : atI (lotV l) 1 = some (.int l.cnt) := atI_nat (j := 1) rfl
theorem at_cost (l : Lot) : atI (lotV l) 2 = some (.int l.cost) := atI_nat (j := 2) rfl
theorem restL_is : ∀ (ls : List Lot) (c : Int), 0 ≤ c → (∀ l ∈ ls, 0 ≤ l.cnt) → restL ls c = c - manyL (takeL ls c)
  | [], c, _, _ => by
    show c = c - ([] : List Int).sum
    rw [List.sum_nil, Int.sub_zero]
  | l :: r, c, h, h0 => by
    have h1 := h0 l List.mem_cons_self
    have h2 := mn_le l.cnt c
    have ih := restL_is r (c - mn l.cnt c) (by omega) fun x hx => h0 x (List.mem_cons_of_mem _ hx)
    show restL r (c - mn l.cnt c) = c - manyL ((if 0 < mn l.cnt c then [⟨l.day, mn l.cnt c, l.cost * mn l.cnt c / l.cnt⟩] else []) ++ takeL r (c - mn l.cnt c))
    rw [ih]
    have e : manyL ((if 0 < mn l.cnt c then [(⟨l.day, mn l.cnt c, l.cost * mn l.cnt c / l.cnt⟩ : Lot)] else []) ++ takeL r (c - mn l.cnt c)) = mn l.cnt c + manyL (takeL r (c - mn l.cnt c)) := by
      split
      · exact manyL_cons _ _
      · rw [List.nil_append]
        omega
    rw [e]
    omega
theorem manyL_ge {ls : List Lot} (h : ∀ l ∈ ls, 0 ≤ l.cnt) : 0 ≤ manyL ls := sum_nonneg fun x hx => by
  obtain ⟨l, hl, rfl⟩ := List.mem_map.mp hx
  exact h l hl
theorem LotOk.b {l : Lot} (h : LotOk l) : LotB bB l := by
  have e : (10 : Int) ^ 30 = 1000000000000000000000000000000 := by decide
  have h1 := h.c1
  have h2 := h.k1
  have h3 := h.d1
  have h4 := h.c0
  have h5 := h.k0
  have h6 := h.d0
  have e2 : (2 : Int) ^ 100 = 1267650600228229401496703205376 := by decide
  have e3 : (2 : Nat) ^ 100 = 1267650600228229401496703205376 := by decide
  rw [e] at h1 h2
  rw [e2] at h3
  have up : ∀ {z : Int}, 0 ≤ z → z < 1267650600228229401496703205376 → z.natAbs < 2 ^ bB := fun {z} a b => by
    have : z.natAbs < 2 ^ 100 := by rw [e3]; omega
    exact Nat.lt_of_lt_of_le this (Nat.pow_le_pow_right (by decide) (by decide))
  exact ⟨up h6 h3, h4, up (by omega) (by omega), h5, up h5 (by omega)⟩
theorem TpA.copy {α : Type} {f : α → List V} {H H' : Hp} {a b : Addr} {xs : List α} (h : TpA f H a xs) (sm : Same H H') {l : List V} (ha : H a = some (.lst l)) (hb : H' b = some (.lst l)) : TpA f H' b xs := by
  obtain ⟨ts, h1, h2, h3⟩ := h
  rw [h1] at ha
  cases ha
  exact ⟨ts, hb, h2, fun i t x ht hx => sm _ _ (h3 i t x ht hx)⟩
theorem lotI_inj : ∀ {xs ys : List Lot}, xs.map lotI = ys.map lotI → xs = ys := by
  intro xs ys h
  have inj : ∀ a b : Lot, lotI a = lotI b → a = b := fun a b e => by
    cases a
    cases b
    cases e
    rfl
  exact (List.map_inj_right inj).mp h
end Lb
namespace Lb
open PySem PySem.Spec PyProof.Rows L2
theorem cut_take (ts : List Addr) (k : Nat) : cutV (ts.map V.ref) none (some (k : Int)) = (ts.take k).map V.ref := by
  unfold cutV
  rw [HT.sIx_none, HT.sIx_nat, List.drop_zero, Nat.sub_zero, List.length_map, ← List.map_take]
  congr 1
  rcases Nat.le_total k ts.length with h | h
  · rw [Nat.min_eq_left h]
  · rw [Nat.min_eq_right h, List.take_length, List.take_of_length_le h]
theorem take_some {α : Type} {l : List α} {i k : Nat} {x : α} (h : (l.take k)[i]? = some x) : l[i]? = some x := by
  have hi := (List.getElem?_eq_some_iff.mp h).1
  rw [List.length_take] at hi
  rw [List.getElem?_take_of_lt (by omega)] at h
  exact h
theorem TpA.take {f : Lot → List V} {H' : Hp} {ts : List Addr} {L : List Lot} {p k : Nat} (tl : ts.length = L.length) (tt : ∀ (i : Nat) t x, ts[i]? = some t → L[i]? = some x → H' t = some (.tup (f x))) (hp : H' p = some (.lst ((ts.take k).map V.ref))) : TpA f H' p (L.take k) :=
  ⟨ts.take k, hp, by rw [List.length_take, List.length_take, tl], fun i t z ht hz => tt i t z (take_some ht) (take_some hz)⟩
theorem mn_abs {c : Int} {n : Nat} (h0 : 0 ≤ c) : 0 ≤ mn c (10 ^ 30 - 1) ∧ (mn c (10 ^ 30 - 1)).natAbs < 2 ^ 100 := by
  have h := mn_le c (10 ^ 30 - 1)
  have e : (10 : Int) ^ 30 - 1 = 999999999999999999999999999999 := by decide
  have e3 : (2 : Nat) ^ 100 = 1267650600228229401496703205376 := by decide
  rw [e] at h ⊢
  rw [e3]
  omega
theorem costL_ge {ls : List Lot} (h : ∀ l ∈ ls, 0 ≤ l.cost) : 0 ≤ costL ls := sum_nonneg fun x hx => by
  obtain ⟨l, hl, rfl⟩ := List.mem_map.mp hx
  exact h l hl
end Lb
namespace Lb
theorem bits_S {i : Int} (h : PySem.Builtin.Int.intBits i ≤ 1048576) : i.natAbs < 2 ^ bS := abs_bits (by rw [bS_eq]; exact h)
end Lb
namespace Lb
open PySem PySem.Spec PyProof.Rows L2
def spWhole : Sp := fun vs H Q _ => ∃ i : Int, vs = [.int i] ∧ Q (.bl true) H
theorem all_true (n : Nat) : (List.replicate n true).all id = true := by
  rw [List.all_eq_true]
  intro x hx
  rw [List.eq_of_mem_replicate hx]
  rfl
theorem lcT_whole {K : PySem.W.Frag} {t D : Addr} {σ : L2.St} {H1 : Hp} {ns : List Int} {i : Nat} {Qd : Hp → Prop} (ht : H1 t = some (.tup (intsV ns))) (hl : ns.length ≤ 100000) (nD : H1 D = none) (hi : i < σ.length)
    (done : ∀ H', Same H1 H' → H' D = some (.lst ((List.replicate ns.length true).map V.bl)) → Qd H') :
    ∃ W : Nat → Nat → Hp → Prop, (∃ m, W 0 m (upd H1 D (.lst []))) ∧ ∀ k m H, W k m H →
      ((Itt K t).stop k H ∧ Qd H) ∨ ((Itt K t).go k H ∧ ∃ Nx : Hp → Prop, (∀ H', Nx H' → ∃ m', m' < m ∧ W (k + 1) m' H') ∧ ∀ x H', (Itt K t).yld k H x H' → gName i x (wipe σ [i]) H' fun σ2 H2 => wipe σ2 [i] = wipe σ [i] ∧ tYes σ2 H2 fun b H3 =>
        if b = true then tCall spWhole [] E0 (tCons (tVar i) tNil) σ2 H3 fun y H4 => ∃ acc, H4 D = some (.lst acc) ∧ acc.length < sizeLine ∧ Nx (upd H4 D (.lst (acc ++ [y]))) else Nx H3) := by
  refine lcT_to (K := K) (fun _ y _ => y = .bl true) (SqT.of ht) nD (Nat.le_trans (by rw [List.length_map]; exact hl) (show 100000 ≤ sizeLine by decide)) (fun H' s1 => SqT.of (s1 _ _ ht)) (fun _ _ _ _ _ _ h => h) ?_ ?_
  · intro j x H Z hx s1 _ hZ
    obtain ⟨z, hz, rfl⟩ := item_int hx
    exact ⟨wipe1 σ i _, _, wipe1_get _ hi, z, rfl, hZ _ _ (Same.refl H) rfl⟩
  · intro H2 ys s1 hD hlen hys
    have ey : ys = (List.replicate ns.length true).map V.bl := by
      apply ext_get
      · rw [hlen, List.length_map, List.length_map, List.length_replicate]
      · intro j x y hx hy
        have hj := (List.getElem?_eq_some_iff.mp hx).1
        have hj2 : j < ns.length := by rw [hlen, List.length_map] at hj; exact hj
        have := hys j _ x (by rw [List.getElem?_map, List.getElem?_eq_getElem hj2]; rfl) hx
        rw [this]
        rw [List.getElem?_map, List.getElem?_replicate, if_pos hj2] at hy
        exact Option.some.inj hy
    subst ey
    exact done H2 s1 hD
/-! ### how lots are parted -/
theorem mn_eq_left {a b : Int} (h : a ≤ b) : mn a b = a := by rw [mn_is]; omega
theorem mn_eq_right {a b : Int} (h : b ≤ a) : mn a b = b := by rw [mn_is]; omega
theorem takeL_zero : ∀ {ls : List Lot}, (∀ l ∈ ls, 1 ≤ l.cnt) → takeL ls 0 = []
  | [], _ => rfl
  | l :: r, h => by
    have h1 := h l List.mem_cons_self
    have e : mn l.cnt 0 = 0 := mn_eq_right (by omega)
    show (if 0 < mn l.cnt 0 then [(⟨l.day, mn l.cnt 0, l.cost * mn l.cnt 0 / l.cnt⟩ : Lot)] else []) ++ takeL r (0 - mn l.cnt 0) = []
    rw [e, if_neg (by omega), Int.sub_zero, takeL_zero fun x hx => h x (List.mem_cons_of_mem _ hx)]
    rfl
theorem leftL_zero : ∀ {ls : List Lot}, (∀ l ∈ ls, 1 ≤ l.cnt) → leftL ls 0 = ls
  | [], _ => rfl
  | l :: r, h => by
    have h1 := h l List.mem_cons_self
    have e : mn l.cnt 0 = 0 := mn_eq_right (by omega)
    show (if mn l.cnt 0 < l.cnt then [(⟨l.day, l.cnt - mn l.cnt 0, l.cost - l.cost * mn l.cnt 0 / l.cnt⟩ : Lot)] else []) ++ leftL r (0 - mn l.cnt 0) = l :: r
    rw [e, if_pos (by omega), Int.sub_zero, Int.sub_zero, Int.mul_zero, Int.zero_ediv, Int.sub_zero, leftL_zero fun x hx => h x (List.mem_cons_of_mem _ hx)]
    rfl
/-- what is taken and what is left: the lots, or with one in two parts -/
theorem parted : ∀ (ls : List Lot) (c : Int), 0 ≤ c → (∀ l ∈ ls, 1 ≤ l.cnt) →
    takeL ls c ++ leftL ls c = ls ∨ ∃ (pre post : List Lot) (l : Lot) (p k : Int), ls = pre ++ l :: post ∧ takeL ls c = pre ++ [⟨l.day, p, k⟩] ∧ leftL ls c = ⟨l.day, l.cnt - p, l.cost - k⟩ :: post
  | [], _, _, _ => .inl rfl
  | l :: r, c, hc, h => by
    have h1 := h l List.mem_cons_self
    have hr : ∀ x ∈ r, 1 ≤ x.cnt := fun x hx => h x (List.mem_cons_of_mem _ hx)
    have et : takeL (l :: r) c = (if 0 < mn l.cnt c then [(⟨l.day, mn l.cnt c, l.cost * mn l.cnt c / l.cnt⟩ : Lot)] else []) ++ takeL r (c - mn l.cnt c) := rfl
    have el : leftL (l :: r) c = (if mn l.cnt c < l.cnt then [(⟨l.day, l.cnt - mn l.cnt c, l.cost - l.cost * mn l.cnt c / l.cnt⟩ : Lot)] else []) ++ leftL r (c - mn l.cnt c) := rfl
    rw [et, el]
    by_cases h2 : l.cnt ≤ c
    · rw [mn_eq_left h2, if_pos (by omega), if_neg (by omega), Int.mul_ediv_cancel _ (by omega)]
      rcases parted r (c - l.cnt) (by omega) hr with e | ⟨pre, post, x, p, k, e1, e2, e3⟩
      · left
        show l :: (takeL r (c - l.cnt) ++ leftL r (c - l.cnt)) = l :: r
        rw [e]
      · right
        exact ⟨l :: pre, post, x, p, k, by rw [e1]; rfl, by rw [e2]; rfl, by rw [e3]; rfl⟩
    · by_cases h3 : c = 0
      · subst h3
        rw [mn_eq_right (by omega), if_neg (by omega), if_pos (by omega), Int.sub_zero, Int.sub_zero, Int.mul_zero, Int.zero_ediv, Int.sub_zero, takeL_zero hr, leftL_zero hr]
        exact .inl rfl
      · rw [mn_eq_right (by omega), if_pos (by omega), if_pos (by omega), Int.sub_self, takeL_zero hr, leftL_zero hr]
        exact .inr ⟨[], r, l, c, l.cost * c / l.cnt, rfl, rfl, rfl⟩
theorem takeL_many {ls : List Lot} {c : Int} (hc : 0 ≤ c) (hm : c ≤ manyL ls) (h : ∀ l ∈ ls, 0 ≤ l.cnt) : manyL (takeL ls c) = c := by
  have e := restL_is ls c hc h
  have z : ∀ (ls : List Lot) (c : Int), 0 ≤ c → (∀ l ∈ ls, 0 ≤ l.cnt) → c ≤ manyL ls → restL ls c = 0 := by
    intro ls
    induction ls with
    | nil =>
      intro c hc _ hm
      have : manyL [] = 0 := rfl
      show c = 0
      omega
    | cons l r ih =>
      intro c hc h hm
      rw [manyL_cons] at hm
      have h1 := mn_le l.cnt c
      have h2 := h l List.mem_cons_self
      have hr0 := manyL_ge (ls := r) fun x hx => h x (List.mem_cons_of_mem _ hx)
      exact ih (c - mn l.cnt c) (by omega) (fun x hx => h x (List.mem_cons_of_mem _ hx)) (by rcases h1.2.2 with e | e <;> omega)
  rw [z ls c hc h hm] at e
  omega
theorem part_cost {l : Lot} {p : Int} (h1 : 1 ≤ l.cnt) (h0 : 0 ≤ p) (hp : p ≤ l.cnt) (hk : 0 ≤ l.cost) : 0 ≤ l.cost * p / l.cnt ∧ l.cost * p / l.cnt ≤ l.cost := share_le hk (by omega) h0 hp
/-- every lot of the two lists is a lot -/
def LotG (l : Lot) : Prop := 1 ≤ l.cnt ∧ 0 ≤ l.cost
theorem takeL_good : ∀ {ls : List Lot} {c : Int}, 0 ≤ c → (∀ l ∈ ls, LotG l) → ∀ l ∈ takeL ls c, LotG l
  | [], _, _, _, l, hl => by cases hl
  | x :: r, c, hc, h, l, hl => by
    have hx := h x List.mem_cons_self
    have hm := mn_le x.cnt c
    have hr : ∀ l ∈ r, LotG l := fun l hl => h l (List.mem_cons_of_mem _ hl)
    have hl' : l ∈ (if 0 < mn x.cnt c then [(⟨x.day, mn x.cnt c, x.cost * mn x.cnt c / x.cnt⟩ : Lot)] else []) ++ takeL r (c - mn x.cnt c) := hl
    rcases List.mem_append.mp hl' with a | a
    · split at a
      · rw [List.mem_singleton] at a
        subst a
        have := part_cost (l := x) (p := mn x.cnt c) hx.1 (by omega) hm.1 hx.2
        exact ⟨by show 1 ≤ mn x.cnt c; omega, this.1⟩
      · cases a
    · exact takeL_good (by omega) hr l a
theorem leftL_good : ∀ {ls : List Lot} {c : Int}, 0 ≤ c → (∀ l ∈ ls, LotG l) → ∀ l ∈ leftL ls c, LotG l
  | [], _, _, _, l, hl => by cases hl
  | x :: r, c, hc, h, l, hl => by
    have hx := h x List.mem_cons_self
    have hm := mn_le x.cnt c
    have hx1 := hx.1
    have hr : ∀ l ∈ r, LotG l := fun l hl => h l (List.mem_cons_of_mem _ hl)
    have hl' : l ∈ (if mn x.cnt c < x.cnt then [(⟨x.day, x.cnt - mn x.cnt c, x.cost - x.cost * mn x.cnt c / x.cnt⟩ : Lot)] else []) ++ leftL r (c - mn x.cnt c) := hl
    rcases List.mem_append.mp hl' with a | a
    · split at a
      · rw [List.mem_singleton] at a
        subst a
        have := part_cost (l := x) (p := mn x.cnt c) hx.1 (by omega) hm.1 hx.2
        refine ⟨by show 1 ≤ x.cnt - mn x.cnt c; omega, ?_⟩
        show 0 ≤ x.cost - x.cost * mn x.cnt c / x.cnt
        omega
      · cases a
    · exact leftL_good (by omega) hr l a
end Lb
namespace Lb
open PySem PySem.Spec PyProof.Rows L2
theorem whole_len {n : Nat} (h : n ≤ 100000) : n ≤ sizeLine := Nat.le_trans h (by decide)
theorem cell_abs {ns : List Int} (h : ∀ z ∈ ns, z.natAbs < 2 ^ bS) (k : Nat) : (cellAt ns k).natAbs < 2 ^ bS := by
  by_cases hk : k < ns.length
  · exact h _ (List.mem_of_getElem? (cellAt_in hk))
  · rw [cellAt_out hk]
    exact Nat.two_pow_pos bS
theorem mix_abs {c : Int} {k : Nat} (h : c.natAbs < 2 ^ bS) (hk : k ≤ 100000) : (mixM c k).natAbs < 2 ^ (bS + 101) := by
  have h1 : (61 * (k : Int)).natAbs < 2 ^ 40 := by omega
  have h2 : (c + 61 * (k : Int)).natAbs < 2 ^ (bS + 1) := abs_add h h1 (Nat.le_refl _) (by rw [bS_eq]; decide)
  have h3 : ((1000003 : Int) ^ 5).natAbs < 2 ^ 100 := by decide
  have h4 := wide_lt h2 h3
  rw [Nat.add_assoc] at h4
  exact h4
theorem up_abs {c : Int} {n m : Nat} (h : c.natAbs < 2 ^ n) (l : n ≤ m) : c.natAbs < 2 ^ m := Nat.lt_of_lt_of_le h (Nat.pow_le_pow_right (by decide) l)
end Lb
namespace Lb
open PySem PySem.Spec PyProof.Rows L2
theorem manyL_take {ls : List Lot} (h : ∀ l ∈ ls, 0 ≤ l.cnt) (k : Nat) : manyL (ls.take k) ≤ manyL ls := by
  have := (sum_take_le (l := ls.map Lot.cnt) (fun x hx => by
    obtain ⟨l, hl, rfl⟩ := List.mem_map.mp hx
    exact h l hl) k).2
  rw [← List.map_take] at this
  exact this
theorem TpA.cat {α : Type} {f : α → List V} {H H' : Hp} {a b p : Addr} {xs ys : List α} {l m : List V} (ha : TpA f H a xs) (hb : TpA f H b ys) (sm : Same H H') (el : H a = some (.lst l)) (em : H b = some (.lst m)) (hp : H' p = some (.lst (l ++ m))) : TpA f H' p (xs ++ ys) := by
  obtain ⟨ts, h1, h2, h3⟩ := ha
  obtain ⟨us, g1, g2, g3⟩ := hb
  rw [h1] at el
  cases el
  rw [g1] at em
  cases em
  refine ⟨ts ++ us, by rw [hp, List.map_append], by rw [List.length_append, List.length_append, h2, g2], fun i t x ht hx => ?_⟩
  by_cases hi : i < ts.length
  · rw [List.getElem?_append_left hi] at ht
    rw [List.getElem?_append_left (by omega)] at hx
    exact sm _ _ (h3 i t x ht hx)
  · rw [List.getElem?_append_right (by omega)] at ht
    rw [List.getElem?_append_right (by omega)] at hx
    rw [h2] at ht
    exact sm _ _ (g3 _ t x ht hx)
end Lb
namespace Lb
open PySem PySem.Spec PyProof.Rows L2
theorem cut_drop (ts : List Addr) (k : Nat) : cutV (ts.map V.ref) (some (k : Int)) none = (ts.drop k).map V.ref := by
  unfold cutV
  rw [HT.sIx_none, HT.sIx_nat, List.length_map, List.map_drop]
  rcases Nat.le_total k ts.length with h | h
  · rw [Nat.min_eq_left h]
    exact List.take_of_length_le (by rw [List.length_drop, List.length_map]; omega)
  · rw [Nat.min_eq_right h, List.drop_of_length_le (by rw [List.length_map]; omega), List.drop_of_length_le (by rw [List.length_map]; omega), List.take_nil]
theorem TpA.drop {α : Type} {f : α → List V} {H' : Hp} {ts : List Addr} {L : List α} {p k : Nat} (tl : ts.length = L.length) (tt : ∀ (i : Nat) t x, ts[i]? = some t → L[i]? = some x → H' t = some (.tup (f x))) (hp : H' p = some (.lst ((ts.drop k).map V.ref))) : TpA f H' p (L.drop k) :=
  ⟨ts.drop k, hp, by rw [List.length_drop, List.length_drop, tl], fun i t z ht hz => by
    rw [List.getElem?_drop] at ht hz
    exact tt _ t z ht hz⟩
theorem at_ref {ts : List Addr} {i : Nat} {t : Addr} (h : ts[i]? = some t) : atI (ts.map V.ref) (i : Int) = some (V.ref t) := atI_nat (by rw [List.getElem?_map, h]; rfl)
theorem get_mid {α : Type} (pre : List α) (a : α) (post : List α) : (pre ++ a :: post)[pre.length]? = some a := by
  rw [List.getElem?_append_right (Nat.le_refl _), Nat.sub_self]
  rfl
theorem get_mid1 {α : Type} (pre : List α) (a b : α) (post : List α) : (pre ++ a :: b :: post)[pre.length + 1]? = some b := by
  rw [List.getElem?_append_right (by omega), show pre.length + 1 - pre.length = 1 by omega]
  rfl
end Lb
namespace Lb
open PySem PySem.Spec PyProof.Rows L2
/-- a new object, its heap by a letter -/
theorem al {H H' : Hp} {p : Addr} {o : HO} (np : H p = none) (h : upd H p o = H') : Same H H' ∧ H' p = some o := by
  subst h
  exact ⟨same_upd np, upd_same⟩
end Lb

namespace Lb
open PySem PySem.Spec PyProof.Rows L2
/-! ### a list made item by item, where making an item may raise -/
/-- the block of such a list: what is raised in it is noted, then goes on in the def's own frame -/
abbrev blkX (X : Cx) (z : Shared) (G : Hp) (sc : Scope) (ce : Env) (fp : List Addr) : Cx :=
  { X.blk z G sc ce fp with xe := notedBy (model X.prog X.w) X.A ce (CompFails (model X.prog X.w) X.A X.xe ce) }
/-- a flight that is held at a frame is not one that is held nowhere -/
theorem fl_none {h B B' : Heap} {a : Addr} {Z Z' : Obj → Prop} {v : Value} (x : HandSPX.TracedZ h B a Z .none) (y : HandSPX.TracedZ h B' a Z' v) : v = .none := by
  obtain ⟨o1, v1, T1, p1, t1, a1, _, b1, c1, _, _, d1, e1, f1⟩ := x
  obtain ⟨o2, v2, T2, p2, t2, a2, _, b2, c2, _, _, d2, e2, f2⟩ := y
  rw [a1] at a2; cases a2
  rw [b1] at b2; cases b2
  rw [c1] at c2; cases c2
  rw [d1] at d2; cases d2
  rw [e1] at e2; cases e2
  rw [f1] at f2
  exact (Option.some.inj f2).symm
theorem fl_made {h B : Heap} {a : Addr} {Z : Obj → Prop} {v : Value} {oe : Obj} {vs : Array Value} (x : HandSPX.TracedZ h B a Z v) (e : h.get? a = some oe) (d : oe.data = .fields vs) (n : vs[1]? = some .none) : False := by
  obtain ⟨o1, v1, T1, p1, t1, a1, _, b1, c1, _⟩ := x
  rw [e] at a1; cases a1
  rw [d] at b1; cases b1
  rw [n] at c1; cases c1
/-- what a call lets out within the block is taken by the def -/
theorem blk_out {X : Cx} {W : WX} {E : XK} {pins : List (Addr × Obj)} {σ : L2.St} {G : Hp} {z : Shared} {sc : Scope} {cl : List (Str × Addr)} {fp : List Addr} {C : Addr} (I : Inv X pins σ G z) (top : X.stack = X.env :: X.outer) (fr : X.env.frame = some X.env.locals)
    (tk : Takes X W) (out : ∀ c d H, E c d H → W c d σ H) (hC : C = z.heap.objs.size) (hfp : ∀ b ∈ fp, FpOk X pins G b) :
    ∀ σ', PassesAt (L2.CX X.prog X.w) (blkX X z G sc (compEnvC sc cl C X.env) fp) σ' E := by
  intro σ' pi H t u t' J c
  have cs := c
  obtain ⟨a, B0, H0, c0, d0, eu, fl, _⟩ := c
  obtain ⟨ta, B, tI, pj, τ, HI, cls, d, eu2, K, nb, up, sky, na, os, ag, w⟩ := XE.of_call (X := blkX X z G sc (compEnvC sc cl C X.env) fp) (W := fun c d _ H => E c d H) J (fun _ _ _ h => h) cs
  subst eu
  cases eu2
  have tr := fl.2.2.2
  have fly : HandSPX.FlyingZ B X.stack a (Zc cls d) t'.heap := by
    rcases sky with ⟨_, _, _, oe, vs, h1, _, h2, h3⟩ | s2 | s3
    · exact (fl_made tr h1 h2 h3).elim
    · exact s2
    · have := fl_none tr s3.2.2.2
      cases this
  have nC : C ∉ frs X.stack := fun hm => by
    obtain ⟨_, o, e, _⟩ := I.stack.mem hm
    exact absurd (Heap.lt_size e) (by rw [hC]; exact Nat.lt_irrefl _)
  have fC : HI C = none := K.free
  obtain ⟨m, hn, _⟩ := K.loc
  have hn : tI.heap.Ns C m := hn
  -- the def's state, without the block
  have J1 : Inv X pins σ HI tI := I.call' (ch := fp) K.os K.base K.hok K.bare fun b hb => ⟨(hfp b hb).2.2.2.1, (hfp b hb).2.1, (hfp b hb).2.2.2.2.1, (hfp b hb).2.2.2.2.2⟩
  have okC : FpOk X pins HI C := I.fpOk (Nat.le_of_eq hC.symm) fC
  have J2 : Inv X pins σ HI { tI with heap := PySem.W.hideAll tI.heap [C] } := by
    obtain ⟨g0, g1, g2, g3, g4, g5⟩ := okC
    exact J1.turned (t' := tI.toks) (fun b o hb e => PySem.W.hideAll_get _ e (by simpa using hb)) g0 g1 g3 g4 g5
  show wpAny _ _ (noteFrame (.ref a) _) _ _ t'
  rw [noteFrame_env (.ref a) (cenv := compEnvC sc cl C X.env) (env := X.env) rfl]
  have hfr : X.A.frames = some (X.env :: X.outer) := by rw [I.ok.frames, top]
  have fly' := fly
  rw [top] at fly'
  refine HandSPX.looks_onZ Zc.steady hfr fr fly' fun h1 hh up1 => ?_
  have hn1 : h1.Ns C m := up1.ns (up.ns hn)
  refine ⟨m, hn1, fun h2 m2 hn2 sb => ?_⟩
  obtain ⟨k1, k2, k3, k4⟩ := hh
  have oC : ∀ {x : Addr} {o : Obj} {vs : Array Value}, h1.get? x = some o → o.data = .fields vs → x ≠ C := fun {x o vs} e q r => by
    obtain ⟨oc, es, ep, ho, hd, _⟩ := hn1
    rw [r, ho] at e
    cases e
    rw [hd] at q
    cases q
  have held : HandSPX.HeldZ (PySem.W.hideAll B [C]) (X.env :: X.outer) a (Zc cls d) X.env.locals h2 := by
    refine ⟨fun b o e => ?_, ?_, ?_, ?_⟩
    · have e1 := PySem.W.of_hideAll _ e
      by_cases q : b = C
      · rw [q, PySem.W.hideAll_none [C] (by simp)] at e
        cases e
      · exact (sb.2 b q).trans (k1 b o e1)
    · cases q : (PySem.W.hideAll B [C]).get? a with
      | none => rfl
      | some o =>
        rw [PySem.W.of_hideAll _ q] at k2
        cases k2
    · have k3' : h1.FunFrames (PySem.W.hideAll B [C]) (X.env :: X.outer) := funFrames_none k3 fun b hb => by
        cases q : (PySem.W.hideAll B [C]).get? b with
        | none => rfl
        | some o =>
          have := (k3.mem hb).1
          rw [PySem.W.of_hideAll _ q] at this
          cases this
      exact Heap.FunFrames.sameBut sb hn2 k3'
    · obtain ⟨oe, vs, T, oT, ts, x1, x2, x3, x4, x5, x6, x7, x8, x9⟩ := k4
      refine ⟨oe, vs, T, oT, ts, (sb.2 a (oC x1 x3)).trans x1, x2, x3, x4, ?_, x6, (sb.2 T (oC x7 x8)).trans x7, x8, x9⟩
      cases q : (PySem.W.hideAll B [C]).get? T with
      | none => rfl
      | some o =>
        rw [PySem.W.of_hideAll _ q] at x5
        cases x5
  show wpAny _ _ (PySem.passOn _ (.ref a) _) _ _ _
  unfold PySem.passOn
  obtain ⟨oe, vs, T, oT, ts, x1, x2, x3, x4, _⟩ := held.2.2.2
  refine wpAny_bind (wpAny_field x1 x3 x4 ?_)
  rw [if_neg (show ¬ ((Value.ref T == Value.none) = true) from by simp)]
  show wpAny _ _ (do setFlight (.ref a) X.env.frame; throw (Value.ref a)) _ _ _
  rw [fr]
  refine wpAny_bind (HandSPX.setFlight_onZ held fun h3 held3 up3 => wpAny_throw ?_)
  refine tk _ _ ⟨a, PySem.W.hideAll B [C], _, pins, σ, HI, cls, d, rfl, J2, fun b o e hb => ?_, fun b o e nf => ?_, .inr (.inr (by rw [top]; exact held3)), na, os, ag, out _ _ _ w⟩
  · have e1 := PySem.W.of_hideAll _ e
    refine PySem.W.hideAll_get _ (nb b o e1 hb) fun q => ?_
    rw [PySem.W.hideAll_none [C] q] at e
    cases e
  · have e1 := PySem.W.of_hideAll _ e
    have q : b ≠ C := fun q => by
      rw [PySem.W.hideAll_none [C] (by simp [q])] at e
      cases e
    obtain ⟨sl1, r1⟩ := up b o e1 nf
    obtain ⟨sl2, r2⟩ := up1 b _ r1 nf
    obtain ⟨sl3, r3⟩ := up3 b _ ((sb.2 b q).trans r2) nf
    exact ⟨sl3, r3⟩
/-- the reading of such a list: as the kit's own, its items read within blkX -/
abbrev InBlk (X : Cx) (sc : Scope) (E : XK) (F : Cx → Prop) : Prop := ∀ (z : Shared) (G : Hp) (C : Addr) (cl : List (Str × Addr)) (fp : List Addr), (∀ σ', PassesAt (L2.CX X.prog X.w) (blkX X z G sc (compEnvC sc cl C X.env) fp) σ' E) → F (blkX X z G sc (compEnvC sc cl C X.env) fp)
section
variable {X : Cx} {W : WX} {E : XK} {elt tg iter : Expr} {ifs : List Expr} {sc : Scope} {own : List (Str × Nat)} {wi : TI} {g : TG} {tt : TT} {te : TE}
theorem lcx_core {pins : List (Addr × Obj)} {z : Shared} {σ : L2.St} {H : Hp} {Q : VK} {pos pos' : Pos} {use : Option (Value → Sem Unit)} {Qf : Value → Shared → Prop}
    (calm : X.calm = true) (nd : X.N.Nodup) (I : Inv X pins σ H z) (hi : PI X tg iter wi) (ok : BlkOk X.N X.env.scope sc own) (top : X.stack = X.env :: X.outer) (fr : X.env.frame = some X.env.locals) (tk : Takes X W) (out : ∀ c d H, E c d H → W c d σ H)
    (hg : InBlk X sc E fun Y => PG Y tg g) (ht : InBlk X sc E fun Y => PTs Y ifs tt) (he : InBlk X sc E fun Y => PE Y elt te) (hs : ∀ x, foldedSetIterable iter X.env x = pure x) (h : tLc wi g tt te (own.map (·.2)) σ H Q)
    (fin : ∀ D C t m H' ce, ce.locals = C → Inv X pins σ H' t → Q (.ref D) H' → t.heap.Ns C m → FpOk X pins H' C → compEnds (model X.prog X.w) X.A X.xe use Qf (.ref D) ce (.ok .next) t) :
    wpAny (model X.prog X.w) X.A (comprehension (.ListComp elt [⟨tg, iter, ifs, 0⟩] sc pos) sc X.env pos' (newList []) false (eval iter X.env) use) Qf X.xe z := by
  have fre : ∀ y ∈ sc.names, y.2 = .free → ∃ c, X.env.cells.lookup y.1 = some c := fun y hy e => (ok.free y hy e).elim (fun k => I.ok.has _ (.inl k)) fun k => I.ok.has _ (.inr k)
  refine comprehension_at (use := use) rfl hs (closure_ok fre) ok.kind (fun y hy e => (ok.uniq y hy).trans (congrArg some e)) (thn (hi.run pins z σ H _ I h) fun xv z1 hx => thn hx fun iv z2 h2 => ?_)
  obtain ⟨it, fp, tn, J, G2, e, I2, T, st2, f2, q⟩ := h2
  subst e
  refine wpAny_newObj_type (newEnv_comp ?_) (Nat.zero_le _)
  obtain ⟨D, hD⟩ : ∃ D, z2.heap.objs.size = D := ⟨_, rfl⟩
  have fD : G2 D = none := I2.hok.fresh (Nat.le_of_eq hD)
  obtain ⟨Wl, ⟨m0, w0⟩, turn⟩ := q D fD
  rw [hD]
  obtain ⟨z3, hz3⟩ : ∃ z3 : Shared, ({ z2 with heap := z2.heap.push { cls := .type "list", data := .seq ([] : List Value).toArray } } : Shared) = z3 := ⟨_, rfl⟩
  have eh : z3.heap = z2.heap.push { cls := .type "list", data := .seq ([] : List Value).toArray } := by rw [← hz3]
  have I3 : Inv X pins σ (upd G2 D (.lst [])) z3 := by
    rw [← hz3]
    refine I2.laid (t' := z2.toks) (fun b o e => Heap.get?_push_of_some _ e) (Nat.le_of_eq hD) ⟨Nat.zero_le _, [], 0, .nil, hD ▸ Heap.get?_push_size _ rfl⟩
  have low : ∀ b ∈ fp, b < z2.heap.objs.size := fun b hb => let ⟨o, e, _⟩ := T.obj _ _ st2 b hb; Heap.lt_size e
  have old : ∀ b o, z2.heap.get? b = some o → z3.heap.get? b = some o := fun b o e => by rw [eh]; exact Heap.get?_push_of_some _ e
  have f3 : ∀ b ∈ fp, FpOk X pins (upd G2 D (.lst [])) b ∧ b < z3.heap.objs.size := fun b hb => ⟨⟨(upd_ne (hD ▸ Nat.ne_of_lt (low b hb))).trans (f2 b hb).1, (f2 b hb).2⟩, by rw [eh, Heap.size_push]; exact Nat.lt_succ_of_lt (low b hb)⟩
  have st3 := T.keep _ _ z3.heap st2 fun b _ o e => old b o e
  have I4 := block_start I3 ok nd f3
  obtain ⟨cl, hcl⟩ : ∃ cl, cellsFrom (z3.heap.objs.size + 1) sc.names (cloFrom X.env.cells sc.names []) = cl := ⟨_, rfl⟩
  obtain ⟨C, hC⟩ : ∃ C, z3.heap.objs.size = C := ⟨_, rfl⟩
  have hps := blk_out (sc := sc) (cl := cl) (fp := fp) I3 top fr tk out hC.symm fun b hb => (f3 b hb).1
  have hz3' : ({ z2 with heap := z2.heap.push { cls := .type "list", dict := none, data := .seq ([] : List Value).toArray } } : Shared) = z3 := hz3
  rw [hz3']
  show codeAny _ _ (.compStart (.ListComp elt [⟨tg, iter, ifs, 0⟩] sc pos) 0 (.ref it) (.ref D) (compEnvC sc (cellsFrom (z3.heap.objs.size + 1) sc.names (cloFrom X.env.cells sc.names [])) z3.heap.objs.size X.env)) (compEnds _ _ _ use Qf (.ref D) (compEnvC sc (cellsFrom (z3.heap.objs.size + 1) sc.names (cloFrom X.env.cells sc.names [])) z3.heap.objs.size X.env)) { z3 with heap := pushCells (z3.heap.push { cls := .type "dict", data := .dict #[] }) sc.names }
  rw [hcl, hC] at I4 ⊢
  obtain ⟨ce, hce⟩ : ∃ ce, compEnvC sc cl C X.env = ce := ⟨_, rfl⟩
  have pg := hg z3 (upd G2 D (.lst [])) C cl fp hps
  have pt := ht z3 (upd G2 D (.lst [])) C cl fp hps
  have pe := he z3 (upd G2 D (.lst [])) C cl fp hps
  have cL : ce.locals = C := by rw [← hce]; rfl
  rw [hce] at I4 pg pt pe ⊢
  obtain ⟨G3, hG3⟩ : ∃ G3, upd G2 D (.lst []) = G3 := ⟨_, rfl⟩
  rw [hG3] at I3 I4 pg pt pe w0 f3
  obtain ⟨z4, hz4⟩ : ∃ z4 : Shared, ({ z3 with heap := pushCells (z3.heap.push { cls := .type "dict", data := .dict #[] }) sc.names } : Shared) = z4 := ⟨_, rfl⟩
  rw [hz4] at I4 ⊢
  have I4 : Inv (blkX X z3 G3 sc ce fp) [] (wipe σ (own.map (·.2))) G3 z4 := I4.toTry _
  have st4 : tn 0 z4.heap := T.keep _ _ _ st3 fun b _ o e => by rw [← hz4]; exact pushCells_keeps _ _ _ _ (Heap.get?_push_of_some _ e)
  have stay : ∀ {σ' : L2.St} {H' : Hp} {t : Shared}, Inv (blkX X z3 G3 sc ce fp) [] σ' H' t → (∀ b ∈ fp, H' b = none) → ∀ b ∈ fp, FpOk (blkX X z3 G3 sc ce fp) [] H' b := fun {σ' H' t} K n b hb =>
    ⟨n b hb, (K.ok.exf b hb).1, K.ok.exfs b hb, .inl hb, fun x c e => (K.ok.exf b hb).2 x c e, fun p hp => absurd (show p ∈ ([] : List (Addr × Obj)) ++ [] from hp) (by simp)⟩
  have eR : (fun e t => compEnds (model X.prog X.w) X.A X.xe use Qf (.ref D) ce (.error e) t) = CompFails (model X.prog X.w) X.A X.xe ce := by
    funext e t
    cases use <;> rfl
  have loop : codeAny (model X.prog X.w) X.A (.compLoop (.ListComp elt [⟨tg, iter, ifs, 0⟩] sc pos) 0 (.ref it) (.ref D) ce) (compEnds (model X.prog X.w) X.A X.xe use Qf (.ref D) ce) z4 := by
    refine compLoop_any (fun n t => ∃ i H', Inv (blkX X z3 G3 sc ce fp) [] (wipe σ (own.map (·.2))) H' t ∧ tn i t.heap ∧ (∀ b ∈ fp, H' b = none) ∧ Wl i n H') ?_ m0 ⟨0, G3, I4, st4, fun b hb => (f3 b hb).1.1, w0⟩
    rw [eR]
    rintro n z5 ⟨i, H5, I5, st5, n5, w5⟩
    rcases turn i n H5 w5 with ⟨stop, qq⟩ | ⟨go, Nx, hNx, step⟩
    · refine thnF (T.done (blkX X z3 G3 sc ce fp) rfl rfl rfl calm i [] z5 _ H5 (fun _ _ => False) I5 (stay I5 n5) st5 stop) fun r z6 ⟨hr, I6⟩ => ?_
      subst hr
      have I7 : Inv X pins σ H5 z6 := I3.call' (ch := fp) I6.os I6.base I6.hok I6.bare fun b hb => ⟨(f3 b hb).1.2.2.2.1, (f3 b hb).1.2.1, (f3 b hb).1.2.2.2.2.1, (f3 b hb).1.2.2.2.2.2⟩
      have fC : H5 C = none := cL ▸ I6.free
      obtain ⟨m, hn, _⟩ := I6.loc
      exact fin D C z6 m H5 ce cL I7 qq (cL ▸ hn) (I3.fpOk (Nat.le_of_eq hC) fC)
    · refine thnF (T.item (blkX X z3 G3 sc ce fp) rfl rfl rfl calm i [] z5 _ H5 (fun _ _ => False) I5 (stay I5 n5) st5 go) fun r z6 ⟨u, hr, h6⟩ => ?_
      subst hr
      refine thnF h6 fun _ z7 ⟨x, H7, I7, r7, y7, st7, n7⟩ => ?_
      refine thn (pg.run _ z7 _ H7 x u _ (I7.pinned (stay I7 n7) (T.obj _ _ st7)) r7 (step x H7 y7)) fun _ z8 ⟨σ8, H8, I8, hw8, q8⟩ => ?_
      refine thn (pt.run _ z8 σ8 H8 _ I8 q8) fun b z9 ⟨H9, I9, q9⟩ => ?_
      have next : ∀ {t : Shared} {H' : Hp}, Inv (blkX X z3 G3 sc ce fp) ([] ++ pinsAt fp z7.heap) σ8 H' t → Nx H' → ∃ m, m < n ∧ ∃ i H', Inv (blkX X z3 G3 sc ce fp) [] (wipe σ (own.map (·.2))) H' t ∧ tn i t.heap ∧ (∀ b ∈ fp, H' b = none) ∧ Wl i m H' := fun {t H'} K nx => by
        obtain ⟨m', hm, w'⟩ := hNx H' nx
        have pin : ∀ b ∈ fp, ∀ o, z7.heap.get? b = some o → t.heap.get? b = some o ∧ H' b = none := fun b hb o e =>
          have y := K.pin (b, o) (List.mem_append_right _ (List.mem_append_right _ (mem_pinsAt hb e)))
          ⟨y.1, y.2.1⟩
        refine ⟨m', hm, i + 1, H', (K.unpinned (pins := [])).weak (by rw [← hw8, wipe_length]) (fun j v e => ?_), T.keep _ _ _ st7 fun b hb o e => (pin b hb o e).1, fun b hb => ?_, w'⟩
        · rw [← hw8] at e
          exact (wipe_some e).1
        · obtain ⟨o, e, _⟩ := T.obj _ _ st7 b hb
          exact (pin b hb o e).2
      cases b with
      | false => exact next I9 q9
      | true =>
        show wpAny _ _ (eval elt ce) _ _ z9
        refine thn (pe.run _ z9 σ8 H9 _ I9 q9) fun y z10 ⟨yv, H10, I10, r10, acc, hD10, hl10, nx⟩ => ?_
        exact app_ok (X := blkX X z3 G3 sc ce fp) I10 hD10 hl10 r10 fun z11 I11 => next I11 nx
  exact codeAny_compStart_list loop (T.self X.A 0 _ _ _ st4 loop)
/-- as a value -/
theorem pe_lcx {pos : Pos} (calm : X.calm = true) (nd : X.N.Nodup) (top : X.stack = X.env :: X.outer) (fr : X.env.frame = some X.env.locals) (tk : Takes X W) (out : ∀ c d σ H, E c d H → W c d σ H) (hi : PI X tg iter wi) (ok : BlkOk X.N X.env.scope sc own)
    (hg : InBlk X sc E fun Y => PG Y tg g) (ht : InBlk X sc E fun Y => PTs Y ifs tt) (he : InBlk X sc E fun Y => PE Y elt te) (hs : ∀ x, foldedSetIterable iter X.env x = pure x := by intro _; rfl) :
    PE X (.ListComp elt [⟨tg, iter, ifs, 0⟩] sc pos) (tLc wi g tt te (own.map (·.2))) := by
  refine ⟨fun pins z σ H Q I h => ?_⟩
  rw [eval_ListComp]
  refine lcx_core calm nd I hi ok top fr tk (fun c d H => out c d σ H) hg ht he hs h fun D C t m H' ce ec I' q hn f => ⟨m, by rw [ec]; exact hn, fun h'' sb => ?_⟩
  rw [ec] at sb
  obtain ⟨f0, f1, f2, f3, f4, f5⟩ := f
  exact ⟨.ref D, H', I'.turned (t' := t.toks) (fun b o hb e => (sb.2 b hb).trans e) f0 f1 f3 f4 f5, rfl, q⟩
/-- name = [..], the name a local -/
theorem ps_setLcx {i : Nat} {y : Str} {py : Pos} {pos spos : Pos} (calm : X.calm = true) (nd : X.N.Nodup) (hy : X.N[i]? = some y) (hyl : X.env.scope.names.lookup y = some .local) (hsw : swapsWith (.ListComp elt [⟨tg, iter, ifs, 0⟩] sc pos) (some (.Name y py)) spos.line X.env = pure true)
    (top : X.stack = X.env :: X.outer) (fr : X.env.frame = some X.env.locals) (tk : Takes X W) (out : ∀ c d σ H, E c d H → W c d σ H) (hi : PI X tg iter wi) (ok : BlkOk X.N X.env.scope sc own)
    (hg : InBlk X sc E fun Y => PG Y tg g) (ht : InBlk X sc E fun Y => PTs Y ifs tt) (he : InBlk X sc E fun Y => PE Y elt te) (hs : ∀ x, foldedSetIterable iter X.env x = pure x := by intro _; rfl) :
    PS X (.Assign [.Name y py] (.ListComp elt [⟨tg, iter, ifs, 0⟩] sc pos) spos) (tAsg (tLc wi g tt te (own.map (·.2))) (gName i)) := by
  refine ⟨fun pins z σ H D I h => ?_⟩
  rw [exec_Assign_Name_used _ _ _ _ hsw]
  refine wpAny_bind (wpAny_standAt (wpAny_bind ?_))
  show wpAny _ X.A (do let _ ← comprehension (.ListComp elt [⟨tg, iter, ifs, 0⟩] sc pos) sc X.env (firstIterPos [⟨tg, iter, ifs, 0⟩] pos) (newList []) false (eval iter X.env) (some (assign (.Name y py) X.env))) _ _ z
  have h : tLc wi g tt te (own.map (·.2)) σ H (fun x H1 => gName i x σ H1 D.nx) := h
  refine wpAny_bind (thn (lcx_core (Qf := fun _ t => SP X pins D .next t) calm nd I hi ok top fr tk (fun c d H => out c d σ H) hg ht he hs h fun L C t m H' ce ec I' q hn f => ?_) fun _ t hq => wpAny_pure (wpAny_pure hq))
  show wpAny _ _ (assign (.Name y py) X.env (.ref L)) _ _ _
  refine wpAny_assign_Name (store_ok2 (v := V.ref L) I' nd hy (.inl hyl) rfl (fun t2 J ⟨a, sb, ha⟩ => ?_) (.inr hyl))
  obtain ⟨f0, f1, f2, f3, f4, f5⟩ := f
  have ne : C ≠ a := ha.elim (fun q => q ▸ f1) fun q e => f4 y a q e.symm
  rw [ec]
  exact ⟨m, hn.sameBut sb ne, fun h3 sb3 => ⟨_, H', J.turned (t' := t2.toks) (fun b o hb e => (sb3.2 b hb).trans e) f0 f1 f3 f4 f5, q⟩⟩
end
/-- what is raised while a dict is locked: the dict is as it was -/
def EL (H0 : Hp) (E : XK) : XK := fun c e H => ∃ dp od u, (∀ o' u', H0 dp ≠ some (.frz o' u')) ∧ H dp = some (.frz od u) ∧ E c e (upd H dp u)
theorem takes_unlock {X : Cx} {E : XK} (tk : Takes X fun c e _ H => E c e H) : Takes X fun c e _ H => EL X.H_0 E c e H := fun u t ⟨a, B, tI, pins, σ, H, cls, d, eu, I, nb, up, sky, na, os, ag, dp, od, v, nf, hd, w⟩ =>
  tk u t ⟨a, B, tI, pins, σ, upd H dp v, cls, d, eu, I.unlock hd nf, nb, up, sky, by rw [upd_ne (fun z => by rw [z, hd] at na; cases na)]; exact na, os, ag, w⟩
end Lb

namespace Lb
open PySem PySem.Spec PyProof.Rows L2
theorem lotV_inj : ∀ x y : Lot, lotV x = lotV y → x = y := fun a b e => by
  cases a
  cases b
  cases e
  rfl
/-- a list of addresses, seen place by place -/
theorem refs_of : ∀ {ys : List V} {P : Nat → Addr → Prop}, (∀ j, j < ys.length → ∃ u, ys[j]? = some (V.ref u) ∧ P j u) → ∃ us : List Addr, ys = us.map V.ref ∧ ∀ (j : Nat) u, us[j]? = some u → P j u
  | [], P, _ => ⟨[], rfl, fun j u h => by simp at h⟩
  | y :: r, P, h => by
    obtain ⟨u, e1, e2⟩ := h 0 (by simp)
    obtain ⟨us, e3, e4⟩ := refs_of (ys := r) (P := fun j => P (j + 1)) fun j hj => by
      obtain ⟨v, a, b⟩ := h (j + 1) (by simp; omega)
      exact ⟨v, a, b⟩
    have ey : y = V.ref u := Option.some.inj e1
    refine ⟨u :: us, by rw [ey, e3]; rfl, fun j v hv => ?_⟩
    cases j with
    | zero =>
      cases Option.some.inj hv
      exact e2
    | succ j => exact e4 j v hv
section
variable {α β : Type} {f : α → List V} {g : β → List V} {K : PySem.W.Frag} {a D : Addr} {σ : L2.St} {H1 : Hp} {xs : List α} {i : Nat} {te : TE} {Qd : Hp → Prop}
/-- [e for x in xs], e a value that no heap knows, xs a list of tuples -/
theorem lc_val {h : α → V} (inj : ∀ x y, f x = f y → x = y) (ha : TpA f H1 a xs) (hl : xs.length ≤ 100000) (nD : H1 D = none)
    (turn : ∀ (t : Addr) (x : α) (H : Hp) (Z : V → Hp → Prop), x ∈ xs → Same H1 H → H t = some (.tup (f x)) → (∀ H', Same H H' → Z (h x) H') → te ((wipe σ [i]).set i (some (.ref t))) H Z)
    (done : ∀ H', Same H1 H' → H' D = some (.lst (xs.map h)) → Qd H') :
    ∃ W : Nat → Nat → Hp → Prop, (∃ m, W 0 m (upd H1 D (.lst []))) ∧ ∀ k m H, W k m H →
      ((Itl K a).stop k H ∧ Qd H) ∨ ((Itl K a).go k H ∧ ∃ Nx : Hp → Prop, (∀ H', Nx H' → ∃ m', m' < m ∧ W (k + 1) m' H') ∧ ∀ x H', (Itl K a).yld k H x H' → gName i x (wipe σ [i]) H' fun σ2 H2 => wipe σ2 [i] = wipe σ [i] ∧ tYes σ2 H2 fun b H3 =>
        if b = true then te σ2 H3 fun y H4 => ∃ acc, H4 D = some (.lst acc) ∧ acc.length < sizeLine ∧ Nx (upd H4 D (.lst (acc ++ [y]))) else Nx H3) := by
  obtain ⟨ts, ta, tl, tt⟩ := id ha
  refine lc_to (K := K) (fun x y _ => ∀ t z, x = .ref t → H1 t = some (.tup (f z)) → y = h z) (SqL.of ta) nD (Nat.le_trans (by rw [List.length_map]; omega) (show 100000 ≤ sizeLine by decide)) (fun _ _ _ _ _ _ h => h) ?_ ?_
  · intro k x H Z hx s1 _ hZ
    obtain ⟨t, z, rfl, hxz, ht⟩ := getM tt tl hx
    refine ⟨wipe1 σ i _, turn t z H Z (List.mem_of_getElem? hxz) s1 (s1 _ _ ht) fun H' sm => hZ _ _ sm fun t' z' e ht' => ?_⟩
    cases e
    rw [ht] at ht'
    have e2 : f z = f z' := by
      injection ht' with e
      injection e
    rw [inj _ _ e2]
  · intro H2 ys s1 hD hlen hys
    have ey : ys = xs.map h := by
      apply ext_get
      · rw [hlen, List.length_map, List.length_map, tl]
      · intro j x y hx hy
        rw [List.getElem?_map] at hy
        have hj := (List.getElem?_eq_some_iff.mp hx).1
        have hj2 : j < xs.length := by rw [hlen, List.length_map, tl] at hj; exact hj
        rw [List.getElem?_eq_getElem hj2] at hy
        have gt : ts[j]? = some ts[j] := List.getElem?_eq_getElem (by omega)
        rw [← Option.some.inj hy]
        exact hys j _ x (by rw [List.getElem?_map, gt]; rfl) hx _ _ rfl (tt j _ _ gt (List.getElem?_eq_getElem hj2))
    subst ey
    exact done H2 s1 hD
/-- [(..) for x in xs], a list of new tuples -/
theorem lc_tups {h : α → β} (inj : ∀ x y, f x = f y → x = y) (ha : TpA f H1 a xs) (hl : xs.length ≤ 100000) (nD : H1 D = none)
    (turn : ∀ (t : Addr) (x : α) (H : Hp) (Z : V → Hp → Prop), x ∈ xs → Same H1 H → H t = some (.tup (f x)) → (∀ u H', Same H H' → H' u = some (.tup (g (h x))) → Z (.ref u) H') → te ((wipe σ [i]).set i (some (.ref t))) H Z)
    (done : ∀ H', Same H1 H' → TpA g H' D (xs.map h) → Qd H') :
    ∃ W : Nat → Nat → Hp → Prop, (∃ m, W 0 m (upd H1 D (.lst []))) ∧ ∀ k m H, W k m H →
      ((Itl K a).stop k H ∧ Qd H) ∨ ((Itl K a).go k H ∧ ∃ Nx : Hp → Prop, (∀ H', Nx H' → ∃ m', m' < m ∧ W (k + 1) m' H') ∧ ∀ x H', (Itl K a).yld k H x H' → gName i x (wipe σ [i]) H' fun σ2 H2 => wipe σ2 [i] = wipe σ [i] ∧ tYes σ2 H2 fun b H3 =>
        if b = true then te σ2 H3 fun y H4 => ∃ acc, H4 D = some (.lst acc) ∧ acc.length < sizeLine ∧ Nx (upd H4 D (.lst (acc ++ [y]))) else Nx H3) := by
  obtain ⟨ts, ta, tl, tt⟩ := id ha
  refine lc_to (K := K) (fun x y H => ∀ t z, x = .ref t → H1 t = some (.tup (f z)) → ∃ u, y = .ref u ∧ H u = some (.tup (g (h z)))) (SqL.of ta) nD (Nat.le_trans (by rw [List.length_map]; omega) (show 100000 ≤ sizeLine by decide)) (fun x y H H' hl k r t z e1 e2 => ?_) ?_ ?_
  · obtain ⟨u, e3, e4⟩ := r t z e1 e2
    obtain ⟨l, hl⟩ := hl
    exact ⟨u, e3, k _ _ (fun e => by rw [e, hl] at e4; cases e4) e4⟩
  · intro k x H Z hx s1 _ hZ
    obtain ⟨t, z, rfl, hxz, ht⟩ := getM tt tl hx
    refine ⟨wipe1 σ i _, turn t z H Z (List.mem_of_getElem? hxz) s1 (s1 _ _ ht) fun u H' sm hu => hZ _ _ sm fun t' z' e ht' => ?_⟩
    cases e
    rw [ht] at ht'
    have e2 : f z = f z' := by
      injection ht' with e
      injection e
    rw [← inj _ _ e2]
    exact ⟨u, rfl, hu⟩
  · intro H2 ys s1 hD hlen hys
    have each : ∀ j (hj : j < xs.length), ∃ u, ys[j]? = some (V.ref u) ∧ H2 u = some (.tup (g (h xs[j]))) := fun j hj => by
      have gt : ts[j]? = some ts[j] := List.getElem?_eq_getElem (by omega)
      have hjy : j < ys.length := by rw [hlen, List.length_map]; omega
      have gy : ys[j]? = some ys[j] := List.getElem?_eq_getElem hjy
      obtain ⟨u, e1, e2⟩ := hys j _ _ (by rw [List.getElem?_map, gt]; rfl) gy _ _ rfl (tt j _ _ gt (List.getElem?_eq_getElem hj))
      exact ⟨u, by rw [gy, e1], e2⟩
    obtain ⟨us, e1, e2⟩ := refs_of (ys := ys) (P := fun j u => ∀ hj : j < xs.length, H2 u = some (.tup (g (h xs[j])))) (by
      intro j hj
      have hj' : j < xs.length := by rw [hlen, List.length_map, tl] at hj; exact hj
      obtain ⟨u, e1, e2⟩ := each j hj'
      exact ⟨u, e1, fun _ => e2⟩)
    subst e1
    refine done H2 s1 ⟨us, hD, by rw [List.length_map] at hlen; rw [hlen, List.length_map, List.length_map, tl], fun j u y hu hy => ?_⟩
    rw [List.getElem?_map] at hy
    have hj : j < xs.length := by
      rw [List.length_map, List.length_map, tl] at hlen
      have := (List.getElem?_eq_some_iff.mp hu).1
      omega
    rw [List.getElem?_eq_getElem hj] at hy
    rw [← Option.some.inj hy]
    exact e2 j u hu hj
end
end Lb
namespace Lb
open PySem PySem.Spec PyProof.Rows L2
def widenL (ls : List Lot) (n : Int) : List Lot := ls.map fun l => ⟨l.day, l.cnt * n, l.cost⟩
def narrowL (ls : List Lot) (n : Int) : List Lot := ls.map fun l => ⟨l.day, l.cnt / n, l.cost⟩
theorem narrowL_snoc (ls : List Lot) (l : Lot) (n : Int) : narrowL (ls ++ [l]) n = narrowL ls n ++ [⟨l.day, l.cnt / n, l.cost⟩] := by
  unfold narrowL
  rw [List.map_append]
  rfl
def spWidened : Sp := fun vs H Q _ => ∃ (a : Addr) (ls : List Lot) (n : Int), vs = [.ref a, .int n] ∧ TpA lotV H a ls ∧ ls.length ≤ 10000 ∧ 1 ≤ n ∧ n.natAbs < 2 ^ bB ∧ (∀ l ∈ ls, LotB bB l) ∧
  ∀ H' p, Same H H' → H p = none → TpA lotV H' p (widenL ls n) → Q (.ref p) H'
def spNarrowed (CU : Addr) : Sp := fun vs H Q E => ∃ (a : Addr) (ls : List Lot) (n : Int), vs = [.ref a, .int n] ∧ TpA lotV H a ls ∧ ls.length ≤ 10000 ∧ 1 ≤ n ∧ n.natAbs < 2 ^ bB ∧ (∀ l ∈ ls, LotB bB l) ∧
  ((∃ l ∈ ls, l.cnt % n ≠ 0) → ∀ H', Same H H' → E (.ref CU) none H') ∧
  ((∀ l ∈ ls, l.cnt % n = 0) → ∀ H' p, Same H H' → H p = none → TpA lotV H' p (narrowL ls n) → Q (.ref p) H')
end Lb

namespace Lb
open PySem PySem.Spec PyProof.Rows L2
def top (i : Nat) : Stmt := PySem.Challenge.pw_lotbook_k05_wide_and_narrow.main.body.getD i (.Pass ⟨0, 0, 0, 0⟩)
abbrev s_divided : Stmt := top 4
abbrev nn_divided : List Str := ["number", "by", "quotient", "rest"]
theorem sc_divided : FnScope nn_divided ["number", "by"] (defScope s_divided) := ⟨rfl, rfl, rfl, by decide +kernel, rfl, by decide +kernel, by decide +kernel⟩
abbrev s_widened : Stmt := top 6
abbrev nn_widened : List Str := ["lots", "number", "day", "count", "cost"]
theorem sc_widened : FnScope nn_widened ["lots", "number"] (defScope s_widened) := ⟨rfl, rfl, rfl, by decide +kernel, rfl, by decide +kernel, by decide +kernel⟩
abbrev s_narrowed : Stmt := top 7
abbrev nn_narrowed : List Str := ["lots", "number", "day", "count", "cost"]
theorem sc_narrowed : FnScope nn_narrowed ["lots", "number"] (defScope s_narrowed) := ⟨rfl, rfl, rfl, by decide +kernel, rfl, by decide +kernel, by decide +kernel⟩
abbrev s_law_whole : Stmt := top 9
abbrev nn_law_whole : List Str := ["_law_found"]
theorem sc_law_whole : FnScope nn_law_whole ["_law_found"] (defScope s_law_whole) := ⟨rfl, rfl, rfl, by decide +kernel, rfl, by decide +kernel, by decide +kernel⟩
abbrev s_law_cell_at : Stmt := top 10
abbrev nn_law_cell_at : List Str := ["_law_script", "_law_k"]
theorem sc_law_cell_at : FnScope nn_law_cell_at ["_law_script", "_law_k"] (defScope s_law_cell_at) := ⟨rfl, rfl, rfl, by decide +kernel, rfl, by decide +kernel, by decide +kernel⟩
abbrev s_law_drawn : Stmt := top 11
abbrev nn_law_drawn : List Str := ["_law_cell", "_law_sizes", "_law_found", "_law_size"]
theorem sc_law_drawn : FnScope nn_law_drawn ["_law_cell", "_law_sizes"] (defScope s_law_drawn) := ⟨rfl, rfl, rfl, by decide +kernel, rfl, by decide +kernel, by decide +kernel⟩
abbrev s_law_mixed : Stmt := top 12
abbrev nn_law_mixed : List Str := ["_law_cell", "_law_place"]
theorem sc_law_mixed : FnScope nn_law_mixed ["_law_cell", "_law_place"] (defScope s_law_mixed) := ⟨rfl, rfl, rfl, by decide +kernel, rfl, by decide +kernel, by decide +kernel⟩
abbrev s_law_lots : Stmt := top 13
abbrev nn_law_lots : List Str := ["_law_script", "_law_many", "_law_lots_here", "_law_day", "_law_k", "_law_cell", "_law_some", "_law_great", "_law_count", "_law_cost"]
theorem sc_law_lots : FnScope nn_law_lots ["_law_script", "_law_many"] (defScope s_law_lots) := ⟨rfl, rfl, rfl, by decide +kernel, rfl, by decide +kernel, by decide +kernel⟩
abbrev s_law_tuples : Stmt := top 14
abbrev nn_law_tuples : List Str := ["_law_found", "_law_due", "_law_k", "_law_one"]
theorem sc_law_tuples : FnScope nn_law_tuples ["_law_found", "_law_due"] (defScope s_law_tuples) := ⟨rfl, rfl, rfl, by decide +kernel, rfl, by decide +kernel, by decide +kernel⟩
abbrev s_law_refused_by_any : Stmt := top 15
abbrev nn_law_refused_by_any : List Str := ["_law_lots_here", "_law_number", "e"]
theorem sc_law_refused_by_any : FnScope nn_law_refused_by_any ["_law_lots_here", "_law_number"] (defScope s_law_refused_by_any) := ⟨rfl, rfl, rfl, by decide +kernel, rfl, by decide +kernel, by decide +kernel⟩
abbrev s_law : Stmt := top 16
abbrev nn_law : List Str := ["_law_script", "_law_first", "_law_many", "_law_lots_here", "_law_number", "_law_rest", "_law_handed", "_law_wide", "_law_refused", "_law_found", "_law_due", "_law_lot"]
theorem sc_law : FnScope nn_law ["_law_script"] (defScope s_law) := ⟨rfl, rfl, rfl, by decide +kernel, rfl, by decide +kernel, by decide +kernel⟩
/-! ### what the top has written -/
structure Nn (mg : Str → Option Value) : Prop where
  len : mg "len" = none
  range : mg "range" = none
  sum : mg "sum" = none
  list : mg "list" = none
  isi : mg "isinstance" = none
  int : mg "int" = none
  bool : mg "bool" = none
  tuple : mg "tuple" = none
  all : mg "all" = none
  any : mg "any" = none
  min : mg "min" = none
  max : mg "max" = none
  enumerate : mg "enumerate" = none
  zip : mg "zip" = none
  str : mg "str" = none
  dict : mg "dict" = none
  divmod : mg "divmod" = none
  ve : mg "ValueError" = none
/-- an own error's class at C, right under the one at CS -/
structure Er (K : PySem.W.Frag) (C CS : Addr) : Prop where
  x : PySem.W.excIn K C [.type "ValueError", .type "Exception", .type "BaseException", .type "object"] "ValueError.__new__" = true
  k : PySem.W.keepIn K (.ref C) = true
  b : PySem.W.subIn K (.ref C) (.type "BaseException") = some true
  t : PySem.W.typeIn K (.ref C) = some (.type "type")
  e : PySem.W.exmOne K (.ref C) (.ref C) = some true
  s : PySem.W.exmOne K (.ref C) (.ref CS) = some true
  c : ExcC K C
  i : PySem.W.kitOne K (.ref C) (.type "ValueError") = some true
section
variable {P : Program} {w : World} {K : PySem.W.Frag} {mg : Str → Option Value} {base : Heap}

/-! ### the law's own helpers -/
theorem fd_law_whole {f : Addr} {fd : FuncData} (D : Dn K mg "_law_whole" s_law_whole ["_law_found"] f fd) (N : Nn mg) : Fd P w K mg base CX0 1 "_law_whole" spWhole := by
  refine D.fd (D.F.ok sc_law_whole (fun vs H Q E h => ?_) (fun cdv A outer s H vs Q E hr h => ?_))
  · obtain ⟨i, rfl, _⟩ := h
    rfl
  · obtain ⟨i, rfl, q⟩ := h
    refine ⟨_, (pss_one (ps_ret (pe_and (pe_callB call_isi (by rfl) N.isi boot_isinstance (pa_cons (pv 0) (pa_cons (pe_bltn (v := .ty "int") (by rfl) N.int boot_int rfl) pa_nil))) (pe_one (pe_not (pe_callB call_isi (by rfl) N.isi boot_isinstance (pa_cons (pv 0) (pa_cons (pe_bltn (v := .ty "bool") (by rfl) N.bool boot_bool rfl) pa_nil)))))))), ?_⟩
    refine ⟨_, rfl, _, _, _, _, true, rfl, .ty "int", .base (.int i), kit_ty (by decide +kernel), true, rfl, if_true_of rfl ?_⟩
    exact ⟨_, rfl, _, _, _, _, false, rfl, .ty "bool", .base (.int i), kit_ty (by decide +kernel), false, rfl, q⟩
def spCell (K : PySem.W.Frag) : Sp := fun vs H Q _ => ∃ (a : Addr) (ns : List Int) (j : Nat), vs = [.ref a, .int (j : Int)] ∧ SqL K H a (ns.map V.int) ∧ Q (.int (cellAt ns j)) H
theorem fd_law_cell_at {f : Addr} {fd : FuncData} (D : Dn K mg "_law_cell_at" s_law_cell_at ["_law_script", "_law_k"] f fd) (N : Nn mg) : Fd P w K mg base CX0 1 "_law_cell_at" (spCell K) := by
  refine D.fd (D.F.ok sc_law_cell_at (fun vs H Q E h => ?_) (fun cdv A outer s H vs Q E hr h => ?_))
  · obtain ⟨a, ns, j, rfl, _⟩ := h
    rfl
  · obtain ⟨a, ns, j, rfl, hS, q⟩ := h
    refine ⟨_, (pss_cons (ps_if (pt_cmpR op_lt (pv 1) (pe_callB call_len_seq (by rfl) N.len boot_len (pa_cons (pv 0) pa_nil)) (nomark _)) (pss_one (ps_ret (pe_ix ix_list (pv 0) (pv 1) (fun _ _ => rfl)))) pss_nil)
      (pss_one (ps_ret pe_int))), ?_⟩
    refine ⟨_, rfl, _, rfl, a, _, rfl, .inl hS, _, _, rfl, rfl, _, rfl, ?_⟩
    by_cases hj : j < ns.length
    · refine if_true_of (decide_eq_true (by rw [List.length_map]; omega)) ?_
      exact ⟨_, rfl, _, rfl, a, _, _, _, rfl, rfl, hS, at_int (cellAt_in hj), q⟩
    · refine if_false_of (decide_eq_false (by rw [List.length_map]; omega)) ?_
      rw [cellAt_out hj] at q
      exact q
def spDrawn (K : PySem.W.Frag) : Sp := fun vs H Q _ => ∃ (c : Int) (a : Addr) (zs : List Int), vs = [.int c, .ref a] ∧ SqL K H a (zs.map V.int) ∧ zs.length ≤ 1000 ∧ (∀ z ∈ zs, 0 < z ∧ z < 1073741824) ∧
  ∀ H' p, Same H H' → H p = none → H' p = some (.lst ((drawnL c zs).map V.int)) → Q (.ref p) H'
theorem fd_law_drawn {f : Addr} {fd : FuncData} (D : Dn K mg "_law_drawn" s_law_drawn ["_law_cell", "_law_sizes"] f fd) : Fd P w K mg base CX0 1 "_law_drawn" (spDrawn K) := by
  refine D.fd (D.F.ok sc_law_drawn (fun vs H Q E h => ?_) (fun cdv A outer s H vs Q E hr h => ?_))
  · obtain ⟨c, a, zs, rfl, _⟩ := h
    rfl
  · obtain ⟨c, a, zs, rfl, hS, hl, hz, q⟩ := h
    have nd := sc_law_drawn.nd
    refine ⟨_, (pss_cons (ps_set (i := 2) nd rfl (.inl rfl) (pe_lst pa_nil))
      (pss_cons (ps_for PassesOwn.never rfl (pi_list (pv 1)) (pg_name (i := 3) nd rfl (.inl rfl)) (pss_cons (ps_expr (pe_bm PySem.F.plainAttrs_list PySem.F.slot_list_append PySem.F.type_list_append mt_append (pv 2) (pa_cons (pe_op op_mod (pv 0) (pv 3)) pa_nil)))
      (pss_one (ps_set (i := 0) nd rfl (.inl rfl) (pe_op op_fdivW (pv 0) (pv 3))))))
      (pss_one (ps_ret (pv 2))))), ?_⟩
    refine ⟨Nat.zero_le _, fun o no => ?_⟩
    have hS1 : SqL K (upd H o (.lst [])) a (zs.map V.int) := (same_upd no).seq hS
    refine ⟨_, rfl, a, rfl, ⟨_, hS1⟩, for_list (K := K) (a := a) (xs := zs.map V.int) (fun i σ H' => ∃ v3, σ = [some (.int (dropL c (zs.take i))), some (.ref a), some (.ref o), v3] ∧ Same H H' ∧ H' o = some (.lst ((drawnL c (zs.take i)).map V.int)))
      ⟨none, rfl, same_upd no, upd_same⟩ (fun i σ H' _ ⟨_, _, sm, _⟩ => sm.seq hS) ?_ ?_⟩
    · rintro i y σ H' hi ⟨v3, rfl, sm, ho⟩
      obtain ⟨z, hz', rfl⟩ := item_int hi
      have hil : i < zs.length := (List.getElem?_eq_some_iff.mp hz').1
      have hzz := hz z (List.mem_of_getElem? hz')
      refine ⟨_, rfl, .inl ⟨rfl, _, SqL.of ho⟩, _, rfl, _, rfl, _, _, rfl, rfl, hzz.1, o, _, _, rfl, rfl, ho, ?_, ?_⟩
      · rw [List.length_map, drawnL_len, List.length_take]
        exact Nat.lt_of_le_of_lt (Nat.min_le_right _ _) (small1000 (by omega))
      · refine ⟨_, rfl, _, rfl, _, _, rfl, rfl, wide_div (b := 31) hzz.1 (by omega) (by decide) (by decide), some (.int z), ?_, same_mut sm no, ?_⟩
        · rw [take_snoc hz', dropL_snoc]
          rfl
        · rw [upd_same, take_snoc hz', drawnL_snoc, List.map_append]
          rfl
    · rintro σ H' ⟨v3, rfl, sm, ho⟩
      rw [List.length_map, List.take_length] at ho
      exact ⟨_, rfl, q H' o sm no ho⟩
def spMixed : Sp := fun vs H Q _ => ∃ (c k : Int), vs = [.int c, .int k] ∧ c.natAbs < 2 ^ bS ∧ k.natAbs < 2 ^ 30 ∧ Q (.int (mixM c k)) H
theorem fd_law_mixed {f : Addr} {fd : FuncData} (D : Dn K mg "_law_mixed" s_law_mixed ["_law_cell", "_law_place"] f fd) : Fd P w K mg base CX0 1 "_law_mixed" spMixed := by
  refine D.fd (D.F.ok sc_law_mixed (fun vs H Q E h => ?_) (fun cdv A outer s H vs Q E hr h => ?_))
  · obtain ⟨c, k, rfl, _⟩ := h
    rfl
  · obtain ⟨c, k, rfl, hc, hk, q⟩ := h
    refine ⟨_, (pss_one (ps_ret (pe_op op_mulX (pe_op op_add (pv 0) (pe_op op_mul pe_int (pv 1))) (pe_op op_pow pe_int pe_int)))), ?_⟩
    have h1 : (61 * k).natAbs < 2 ^ 40 := by omega
    exact ⟨_, rfl, _, rfl, _, _, rfl, rfl, .inl ⟨by decide, by decide⟩, _, _, rfl, rfl, _, _, rfl, rfl, ⟨by decide, by decide, by decide⟩, _, _, rfl, rfl, mulX (a := bS + 1) (b := 100) (abs_add hc h1 (Nat.le_refl _) (by rw [bS_eq]; decide)) (by decide) (by omega) (by decide) (by rw [bS_eq]; decide), q⟩

def spLots (K : PySem.W.Frag) : Sp := fun vs H Q _ => ∃ (a : Addr) (ns : List Int) (n : Nat), vs = [.ref a, .int (n : Int)] ∧ SqL K H a (ns.map V.int) ∧ n ≤ 1000 ∧ (∀ z ∈ ns, z.natAbs < 2 ^ bS) ∧
  ∀ H' p, Same H H' → H p = none → TpA lotV H' p (lotsOf ns n) → Q (.ref p) H'
theorem fd_law_lots {f : Addr} {fd : FuncData} (D : Dn K mg "_law_lots" s_law_lots ["_law_script", "_law_many"] f fd) (N : Nn mg) (c_law_cell_at : Fd P w K mg base CX0 1 "_law_cell_at" (spCell K)) (c_law_mixed : Fd P w K mg base CX0 1 "_law_mixed" spMixed)
    (c_law_drawn : Fd P w K mg base CX0 1 "_law_drawn" (spDrawn K)) : Fd P w K mg base CX0 2 "_law_lots" (spLots K) := by
  refine D.fd (D.F.ok sc_law_lots (fun vs H Q E h => ?_) (fun cdv A outer s H vs Q E hr h => ?_))
  · obtain ⟨a, ns, n, rfl, _⟩ := h
    rfl
  · obtain ⟨a, ns, n, rfl, hS, hn, hb, q⟩ := h
    have nd := sc_law_lots.nd
    refine ⟨_, (pss_cons (ps_set (i := 2) nd rfl (.inl rfl) (pe_lst pa_nil))
      (pss_cons (ps_set (i := 3) nd rfl (.inl rfl) pe_int)
      (pss_cons (ps_for PassesOwn.never rfl (pi_range1 (by rfl) N.range (pa_cons (pv 1) pa_nil)) (pg_name (i := 4) nd rfl (.inl rfl)) (pss_cons (ps_set (i := 5) nd rfl (.inl rfl) (pe_cl c_law_mixed hr (pa_cons (pe_cl c_law_cell_at hr (pa_cons (pv 0) (pa_cons (pe_op op_add pe_int (pe_op op_mod (pv 4) pe_int)) pa_nil))) (pa_cons (pv 4) pa_nil))))
      (pss_cons (ps_set (i := 6) nd rfl (.inl rfl) (pe_cl c_law_drawn hr (pa_cons (pv 5) (pa_cons (pe_lst (pa_cons pe_int (pa_cons pe_int (pa_cons pe_int (pa_cons pe_int (pa_cons pe_int pa_nil)))))) pa_nil))))
      (pss_cons (ps_set (i := 3) nd rfl (.inl rfl) (pe_op op_add (pv 3) (pe_ix ix_list (pv 6) pe_int (fun _ _ => rfl))))
      (pss_cons (ps_set (i := 7) nd rfl (.inl rfl) (pe_lst (pa_cons (pe_op op_mod (pe_op op_mulX (pv 5) (pe_op op_pow pe_int pe_int)) (pe_op op_pow pe_int pe_int)) (pa_cons (pe_op op_mod (pe_op op_mulX (pv 5) (pe_op op_pow pe_int pe_int)) (pe_op op_sub (pe_op op_pow pe_int pe_int) pe_int)) pa_nil))))
      (pss_cons (ps_set (i := 8) nd rfl (.inl rfl) (pe_op op_add pe_int (pe_ix ix_list (pe_lst (pa_cons (pe_ix ix_list (pv 6) pe_int (fun _ _ => rfl)) (pa_cons (pe_op op_add (pe_op op_mul pe_int (pe_ix ix_list (pv 6) pe_int (fun _ _ => rfl))) pe_int) (pa_cons (pe_ix ix_list (pv 7) pe_int (fun _ _ => rfl)) (pa_cons (pe_ix ix_list (pv 7) pe_int (fun _ _ => rfl)) pa_nil))))) (pe_ix ix_list (pv 6) pe_int (fun _ _ => rfl)) (fun _ _ => rfl))))
      (pss_cons (ps_set (i := 9) nd rfl (.inl rfl) (pe_ix ix_list (pe_lst (pa_cons pe_int (pa_cons (pe_ix ix_list (pv 6) pe_int (fun _ _ => rfl)) (pa_cons (pe_op op_mod (pe_op op_mulX (pv 5) (pe_op op_pow pe_int pe_int)) (pe_op op_pow pe_int pe_int)) (pa_cons (pe_op op_mod (pe_op op_mulX (pv 5) (pe_op op_pow pe_int pe_int)) (pe_op op_pow pe_int pe_int)) pa_nil))))) (pe_ix ix_list (pv 6) pe_int (fun _ _ => rfl)) (fun _ _ => rfl)))
      (pss_one (ps_expr (pe_bm PySem.F.plainAttrs_list PySem.F.slot_list_append PySem.F.type_list_append mt_append (pv 2) (pa_cons (pe_tup (pa_cons (pv 3) (pa_cons (pv 8) (pa_cons (pv 9) pa_nil)))) pa_nil)))))))))))
      (pss_one (ps_ret (pv 2)))))), ?_⟩
    refine ⟨Nat.zero_le _, fun o no => ?_⟩
    refine ⟨_, rfl, _, rfl, by omega, by omega, for_range (lo := 0) (n := n) (fun i σ' H' => ∃ v4 v5 v6 v7 v8 v9, σ' = [some (.ref a), some (.int (n : Int)), some (.ref o), some (.int (dayUp ns i)), v4, v5, v6, v7, v8, v9] ∧ Same H H' ∧ TpA lotV H' o (lotsOf ns i))
      ⟨none, none, none, none, none, none, rfl, same_upd no, TpA.nil upd_same⟩ ?_ ?_⟩
    · rintro i σ' H' hi ⟨v4, v5, v6, v7, v8, v9, rfl, sm, ho⟩
      have e0 : ((0 : Int) + (i : Int)) = (i : Int) := Int.zero_add _
      rw [e0]
      refine ⟨_, rfl, _, rfl, _, _, rfl, rfl, (by show (0 : Int) < 6; decide), _, _, rfl, rfl, a, ns, 2 + i % 6, ?_, sm.seq hS, ?_⟩
      · show [V.ref a, V.int (2 + (i : Int) % 6)] = [V.ref a, V.int ((2 + i % 6 : Nat) : Int)]
        congr 3
      refine ⟨_, rfl, _, _, rfl, cell_abs hb _, by omega, ?_⟩
      have hcb : (lotCell ns i).natAbs < 2 ^ (bS + 101) := mix_abs (cell_abs hb _) (by omega)
      refine ⟨_, rfl, (by show 5 ≤ sizeLine; decide), fun p1 n1 => ?_⟩
      have s1 : Same H' (upd H' p1 (.lst [V.int 4, V.int 4, V.int 10, V.int 4, V.int 12])) := same_upd n1
      refine ⟨lotCell ns i, p1, [4, 4, 10, 4, 12], rfl, SqL.of upd_same, (by decide), (by decide), fun H2 fp s2 nf ef => ?_⟩
      generalize hc : lotCell ns i = c at hcb ef
      have ef' : H2 fp = some (.lst [V.int (c % 4), V.int (c / 4 % 4), V.int (c / 4 / 4 % 10), V.int (c / 4 / 4 / 10 % 4), V.int (c / 4 / 4 / 10 / 4 % 12)]) := ef
      have s12 := s1.trans s2
      refine ⟨_, rfl, _, rfl, _, _, _, _, rfl, rfl, SqL.of ef', atI_nat (j := 0) rfl, _, _, rfl, rfl, ?_⟩
      have cell5 : some (some (V.int (mixM (cellAt ns (2 + i % 6)) (i : Int)))) = some (some (V.int c)) := by rw [← hc]; rfl
      have pw : ∀ {x : Int}, x.natAbs < 2 ^ 200 → CMulX c x := fun hx => mulX hcb hx (by omega) (by decide) (by rw [bS_eq]; decide)
      refine ⟨_, cell5, _, _, rfl, rfl, ⟨by decide, by decide, by decide⟩, _, _, rfl, rfl, pw (by decide), _, _, rfl, rfl, ⟨by decide, by decide, by decide⟩, _, _, rfl, rfl, (by show (0 : Int) < 10 ^ 12; decide),
        _, cell5, _, _, rfl, rfl, ⟨by decide, by decide, by decide⟩, _, _, rfl, rfl, pw (by decide), _, _, rfl, rfl, ⟨by decide, by decide, by decide⟩, _, _, rfl, rfl, _, _, rfl, rfl, (by show (0 : Int) < 10 ^ 30 - 1; decide), (by show 2 ≤ sizeLine; decide), fun gp ng => ?_⟩
      have s3 : Same H2 (upd H2 gp (.lst [V.int (c * 48271 ^ 7 % 10 ^ 12), V.int (c * 69621 ^ 7 % (10 ^ 30 - 1))])) := same_upd ng
      have eg : (upd H2 gp (.lst [V.int (c * 48271 ^ 7 % 10 ^ 12), V.int (c * 69621 ^ 7 % (10 ^ 30 - 1))])) gp = some (.lst [V.int (c * 48271 ^ 7 % 10 ^ 12), V.int (c * 69621 ^ 7 % (10 ^ 30 - 1))]) := upd_same
      have ef3 := s3 _ _ ef'
      refine ⟨_, rfl, _, _, _, _, rfl, rfl, SqL.of ef3, atI_nat (j := 2) rfl, _, rfl, _, _, _, _, rfl, rfl, SqL.of ef3, atI_nat (j := 2) rfl, _, _, rfl, rfl, .inl ⟨by decide, by decide⟩, _, _, rfl, rfl, _, rfl, _, _, _, _, rfl, rfl, SqL.of eg, atI_nat (j := 0) rfl, _, rfl, _, _, _, _, rfl, rfl, SqL.of eg, atI_nat (j := 1) rfl, (by show 4 ≤ sizeLine; decide), fun p2 n2 => ?_⟩
      have s4 : Same (upd H2 gp (.lst [V.int (c * 48271 ^ 7 % 10 ^ 12), V.int (c * 69621 ^ 7 % (10 ^ 30 - 1))])) (upd (upd H2 gp (.lst [V.int (c * 48271 ^ 7 % 10 ^ 12), V.int (c * 69621 ^ 7 % (10 ^ 30 - 1))])) p2 (.lst [V.int (c / 4 / 4 % 10), V.int (12 * (c / 4 / 4 % 10) + 11), V.int (c * 48271 ^ 7 % 10 ^ 12), V.int (c * 69621 ^ 7 % (10 ^ 30 - 1))])) := same_upd n2
      refine ⟨_, rfl, _, _, _, _, rfl, rfl, SqL.of (s4 _ _ ef3), atI_nat (j := 1) rfl, p2, _, _, _, rfl, rfl, SqL.of upd_same, at_pick4 (by omega) (by omega), _, _, rfl, rfl, ?_⟩
      have ef4 := s4 _ _ ef3
      refine ⟨_, rfl, _, _, _, _, rfl, rfl, SqL.of ef4, atI_nat (j := 4) rfl, _, cell5, _, _, rfl, rfl, ⟨by decide, by decide, by decide⟩, _, _, rfl, rfl, pw (by decide), _, _, rfl, rfl, ⟨by decide, by decide, by decide⟩, _, _, rfl, rfl, (by show (0 : Int) < 10 ^ 15; decide), _, cell5, _, _, rfl, rfl, ⟨by decide, by decide, by decide⟩, _, _, rfl, rfl, pw (by decide), _, _, rfl, rfl, ⟨by decide, by decide, by decide⟩, _, _, rfl, rfl, (by show (0 : Int) < 10 ^ 30; decide), (by show 4 ≤ sizeLine; decide), fun p3 n3 => ?_⟩
      have s5 : Same (upd (upd H2 gp (.lst [V.int (c * 48271 ^ 7 % 10 ^ 12), V.int (c * 69621 ^ 7 % (10 ^ 30 - 1))])) p2 (.lst [V.int (c / 4 / 4 % 10), V.int (12 * (c / 4 / 4 % 10) + 11), V.int (c * 48271 ^ 7 % 10 ^ 12), V.int (c * 69621 ^ 7 % (10 ^ 30 - 1))])) (upd (upd (upd H2 gp (.lst [V.int (c * 48271 ^ 7 % 10 ^ 12), V.int (c * 69621 ^ 7 % (10 ^ 30 - 1))])) p2 (.lst [V.int (c / 4 / 4 % 10), V.int (12 * (c / 4 / 4 % 10) + 11), V.int (c * 48271 ^ 7 % 10 ^ 12), V.int (c * 69621 ^ 7 % (10 ^ 30 - 1))])) p3 (.lst [V.int 0, V.int (c / 4 / 4 / 10 / 4 % 12), V.int (c * 16807 ^ 8 % 10 ^ 15), V.int (c * 40692 ^ 8 % 10 ^ 30)])) := same_upd n3
      refine ⟨_, rfl, _, _, _, _, rfl, rfl, SqL.of (s5 _ _ ef4), atI_nat (j := 3) rfl, p3, _, _, _, rfl, rfl, SqL.of upd_same, at_pick4 (by omega) (by omega), ?_⟩
      have sAll : Same H' (upd (upd (upd H2 gp (.lst [V.int (c * 48271 ^ 7 % 10 ^ 12), V.int (c * 69621 ^ 7 % (10 ^ 30 - 1))])) p2 (.lst [V.int (c / 4 / 4 % 10), V.int (12 * (c / 4 / 4 % 10) + 11), V.int (c * 48271 ^ 7 % 10 ^ 12), V.int (c * 69621 ^ 7 % (10 ^ 30 - 1))])) p3 (.lst [V.int 0, V.int (c / 4 / 4 / 10 / 4 % 12), V.int (c * 16807 ^ 8 % 10 ^ 15), V.int (c * 40692 ^ 8 % 10 ^ 30)])) := ((s12.trans s3).trans s4).trans s5
      obtain ⟨ts, ho1, ho2, ho3⟩ := ho.same sAll
      refine ⟨_, rfl, .inl ⟨rfl, _, SqL.of ho1⟩, _, rfl, _, rfl, _, rfl, (by show 3 ≤ sizeLine; decide), fun t nt => ?_⟩
      have no5 : o ≠ t := ne_of_none ho1 nt
      have s6 : Same (upd (upd (upd H2 gp (.lst [V.int (c * 48271 ^ 7 % 10 ^ 12), V.int (c * 69621 ^ 7 % (10 ^ 30 - 1))])) p2 (.lst [V.int (c / 4 / 4 % 10), V.int (12 * (c / 4 / 4 % 10) + 11), V.int (c * 48271 ^ 7 % 10 ^ 12), V.int (c * 69621 ^ 7 % (10 ^ 30 - 1))])) p3 (.lst [V.int 0, V.int (c / 4 / 4 / 10 / 4 % 12), V.int (c * 16807 ^ 8 % 10 ^ 15), V.int (c * 40692 ^ 8 % 10 ^ 30)])) (upd (upd (upd (upd H2 gp (.lst [V.int (c * 48271 ^ 7 % 10 ^ 12), V.int (c * 69621 ^ 7 % (10 ^ 30 - 1))])) p2 (.lst [V.int (c / 4 / 4 % 10), V.int (12 * (c / 4 / 4 % 10) + 11), V.int (c * 48271 ^ 7 % 10 ^ 12), V.int (c * 69621 ^ 7 % (10 ^ 30 - 1))])) p3 (.lst [V.int 0, V.int (c / 4 / 4 / 10 / 4 % 12), V.int (c * 16807 ^ 8 % 10 ^ 15), V.int (c * 40692 ^ 8 % 10 ^ 30)])) t (.tup [V.int (dayUp ns i + c % 4), V.int (cntM c), V.int (costM c)])) := same_upd nt
      refine ⟨o, _, _, rfl, rfl, s6 _ _ ho1, ?_, some (.int (i : Int)), some (.int c), some (.ref fp), some (.ref gp), some (.int (cntM c)), some (.int (costM c)), ?_, same_mut (sm.trans (sAll.trans s6)) no, ?_⟩
      · rw [List.length_map, ho2, lotsOf_len]
        exact small1000 (by omega)
      · have ed : dayUp ns (i + 1) = dayUp ns i + c % 4 := by
          rw [← hc]
          rfl
        rw [ed]
        have ec : mixM (cellAt ns (2 + i % 6)) (i : Int) = c := by rw [← hc]; rfl
        show [some (V.ref a), some (V.int (n : Int)), some (V.ref o), some (V.int (dayUp ns i + c % 4)), some (V.int (i : Int)), some (V.int (mixM (cellAt ns (2 + i % 6)) (i : Int))), some (V.ref fp), some (V.ref gp), some (V.int (cntM c)), some (V.int (costM c))] = _
        rw [ec]
      · rw [lotsOf_snoc, hc]
        have ed : dayUp ns (i + 1) = dayUp ns i + c % 4 := by
          rw [← hc]
          rfl
        rw [ed]
        refine TpA.snoc (ho.same (sAll.trans s6)) (fun b u hb e => by rw [upd_ne hb]; exact e) (t := t) ?_ (s6 _ _ ho1) upd_same
        rw [upd_ne no5.symm, upd_same]
        rfl
    · rintro σ' H' ⟨v4, v5, v6, v7, v8, v9, rfl, sm, ho⟩
      exact ⟨_, rfl, q H' o sm no ho⟩

def spTuples : Sp := fun vs H Q _ => ∃ (a b : Addr) (rows : List (List Int)), vs = [.ref a, .ref b] ∧ TpA intsV H a rows ∧ TpA intsV H b rows ∧ rows.length ≤ 100000 ∧ (∀ r ∈ rows, r.length ≤ 100) ∧ ∀ H', Same H H' → Q (.bl true) H'
theorem fd_law_tuples {f : Addr} {fd : FuncData} (D : Dn K mg "_law_tuples" s_law_tuples ["_law_found", "_law_due"] f fd) (N : Nn mg) (c_law_whole : Fd P w K mg base CX0 1 "_law_whole" spWhole) : Fd P w K mg base CX0 2 "_law_tuples" spTuples := by
  refine D.fd (D.F.ok sc_law_tuples (fun vs H Q E h => ?_) (fun cdv A outer s H vs Q E hr h => ?_))
  · obtain ⟨a, b, rows, rfl, _⟩ := h
    rfl
  · obtain ⟨a, b, rows, rfl, ha, hb, hl, hr', q⟩ := h
    have nd := sc_law_tuples.nd
    refine ⟨_, (pss_cons (ps_if (PW.pt (pw_or (pt_not (pt_val (pe_callB call_isi (by rfl) N.isi boot_isinstance (pa_cons (pv 0) (pa_cons (pe_bltn (v := .ty "list") (by rfl) N.list boot_list rfl) pa_nil))))) (pw_or1 (pt_cmpR op_ne (pe_callB call_len_seq (by rfl) N.len boot_len (pa_cons (pv 0) pa_nil)) (pe_callB call_len_seq (by rfl) N.len boot_len (pa_cons (pv 1) pa_nil)) (nomark _))))) (pss_one (ps_ret pe_bl)) pss_nil)
      (pss_cons (ps_for PassesOwn.never rfl (pi_range1 (by rfl) N.range (pa_cons (pe_callB call_len_seq (by rfl) N.len boot_len (pa_cons (pv 1) pa_nil)) pa_nil)) (pg_name (i := 2) nd rfl (.inl rfl)) (pss_cons (ps_if (PW.pt (pw_or (pt_not (pt_val (pe_callB call_isi (by rfl) N.isi boot_isinstance (pa_cons (pe_ix ix_list (pv 0) (pv 2) (fun _ _ => rfl)) (pa_cons (pe_bltn (v := .ty "tuple") (by rfl) N.tuple boot_tuple rfl) pa_nil))))) (pw_or1 (pt_cmpR op_ne (pe_callB call_len_seq (by rfl) N.len boot_len (pa_cons (pe_ix ix_list (pv 0) (pv 2) (fun _ _ => rfl)) pa_nil)) (pe_callB call_len_seq (by rfl) N.len boot_len (pa_cons (pe_ix ix_list (pv 1) (pv 2) (fun _ _ => rfl)) pa_nil)) (nomark _))))) (pss_one (ps_ret pe_bl)) pss_nil)
      (pss_one (ps_if (PW.pt (pw_or (pt_not (pt_val (pe_callB (cr_all rfl) (by rfl) N.all boot_all (pa_cons (pe_lc (own := [("_law_one", 3)]) (g := gName 3) (tt := tYes) (te := (tCall spWhole [] E0 (tCons (tVar 3) tNil))) rfl nd (pi_tup (pe_ix ix_list (pv 0) (pv 2) (fun _ _ => rfl))) (blkOk_by (N := nn_law_tuples) (sc := defScope s_law_tuples) (by decide +kernel)) (fun _ _ _ _ _ => (pg_name (i := 3) nd rfl (.inl rfl))) (fun _ _ _ _ _ => pts_nil) (fun _ _ _ _ _ => (pe_cl c_law_whole hr (pa_cons (pv 3) pa_nil)))) pa_nil)))) (pw_or1 (pt_cmpR (op_neD hr.units) (pe_ix ix_list (pv 0) (pv 2) (fun _ _ => rfl)) (pe_ix ix_list (pv 1) (pv 2) (fun _ _ => rfl)) (nomark _))))) (pss_one (ps_ret pe_bl)) pss_nil))))
      (pss_one (ps_ret pe_bl)))), ?_⟩
    obtain ⟨ts, ta, tl, tt⟩ := id ha
    obtain ⟨us, ua, ul, ut⟩ := id hb
    refine ⟨_, rfl, _, _, _, _, true, rfl, .ty "list", .base (.lst ta), kit_ty (by decide +kernel), true, rfl, if_false_of rfl ?_⟩
    refine ⟨_, rfl, a, _, rfl, .inl (SqL.of ta), _, rfl, b, _, rfl, .inl (SqL.of ua), rfl, _, rfl, iteNS (by rw [List.length_map, List.length_map, tl, ul]) ?_⟩
    have el : ((us.map V.ref).length : Int) = (rows.length : Int) := by rw [List.length_map, ul]
    refine ⟨_, rfl, b, _, rfl, .inl (SqL.of ua), _, rfl, (by rw [el]; omega), (by rw [el]; omega), for_range (lo := 0) (n := ((us.map V.ref).length : Int).toNat) (fun i σ H' => ∃ v2 v3, σ = [some (.ref a), some (.ref b), v2, v3] ∧ Same H H') ⟨none, none, rfl, Same.refl H⟩ ?_ ?_⟩
    · rintro i σ H' hi ⟨v2, v3, rfl, sm⟩
      rw [el] at hi
      have hi' : i < rows.length := by omega
      have e0 : ((0 : Int) + (i : Int)) = (i : Int) := Int.zero_add _
      rw [e0]
      have g := List.getElem?_eq_getElem hi'
      have gt : ts[i]? = some ts[i] := List.getElem?_eq_getElem (by omega)
      have gu : us[i]? = some us[i] := List.getElem?_eq_getElem (by omega)
      generalize rows[i] = r at g
      generalize ts[i] = t at gt
      generalize us[i] = u at gu
      have et := tt i t r gt g
      have eu := ut i u r gu g
      have hrl := hr' r (List.mem_of_getElem? g)
      have ia : atI (ts.map V.ref) (i : Int) = some (V.ref t) := atI_nat (by rw [List.getElem?_map, gt]; rfl)
      have ib : atI (us.map V.ref) (i : Int) = some (V.ref u) := atI_nat (by rw [List.getElem?_map, gu]; rfl)
      have ta' := sm _ _ ta
      have ua' := sm _ _ ua
      have et' := sm _ _ et
      have eu' := sm _ _ eu
      refine ⟨_, rfl, _, rfl, _, _, _, _, rfl, rfl, SqL.of ta', ia, _, _, _, _, true, rfl, .ty "tuple", .base (.tup et'), kit_ty (by decide +kernel), true, rfl, if_false_of rfl ?_⟩
      refine ⟨_, rfl, _, rfl, _, _, _, _, rfl, rfl, SqL.of ta', ia, _, _, rfl, .inr (SqT.of et'), _, rfl, _, rfl, _, _, _, _, rfl, rfl, SqL.of ua', ib, _, _, rfl, .inr (SqT.of eu'), rfl, _, rfl, iteNS rfl ?_⟩
      refine ⟨_, rfl, _, rfl, _, _, _, _, rfl, rfl, SqL.of ta', ia, _, rfl, ⟨_, SqT.of et'⟩, fun Da nD => ?_⟩
      refine lcT_to (K := K) (fun _ y _ => y = .bl true) (SqT.of et') nD (whole_len (by rw [List.length_map]; omega)) (fun H' s1 => SqT.of (s1 _ _ et')) mono_pure ?_ ?_
      · intro j x H1 Z hx s1 _ hZ
        obtain ⟨z, hz, rfl⟩ := item_int hx
        exact ⟨rfl, _, rfl, z, rfl, hZ _ _ (Same.refl H1) rfl⟩
      · intro H1 ys s1 hD hlen hys
        have ey : ys = (List.replicate r.length true).map V.bl := by
          apply ext_get
          · rw [hlen, List.length_map, List.length_map, List.length_replicate]
          · intro j x y hx hy
            have hj := (List.getElem?_eq_some_iff.mp hx).1
            have hj2 : j < r.length := by rw [hlen, List.length_map] at hj; exact hj
            have := hys j _ x (by rw [List.getElem?_map, List.getElem?_eq_getElem hj2]; rfl) hx
            rw [this]
            rw [List.getElem?_map, List.getElem?_replicate, if_pos hj2] at hy
            exact Option.some.inj hy
        subst ey
        have eall : (List.replicate r.length true).all id = true := by
          rw [List.all_eq_true]
          intro x hx
          rw [List.eq_of_mem_replicate hx]
          rfl
        refine ⟨_, _, rfl, SqL.of hD, _, rfl, ?_⟩
        rw [eall]
        refine if_false_of rfl ?_
        refine ⟨_, rfl, _, rfl, _, _, _, _, rfl, rfl, SqL.of (s1 _ _ ta'), ia, _, rfl, _, rfl, _, _, _, _, rfl, rfl, SqL.of (s1 _ _ ua'), ib, ne_tints (SqT.of (s1 _ _ et')) (SqT.of (s1 _ _ eu')) ⟨_, rfl, iteNS rfl ?_⟩⟩
        exact ⟨some (.int (i : Int)), v3, rfl, sm.trans s1⟩
    · rintro σ H' ⟨v2, v3, rfl, sm⟩
      exact q H' sm

def spDivided (CU : Addr) : Sp := fun vs H Q E => ∃ (n k : Int), vs = [.int n, .int k] ∧ 0 < k ∧ k.natAbs < 2 ^ bB ∧ (n % k ≠ 0 → ∀ H', Same H H' → E (.ref CU) none H') ∧ (n % k = 0 → ∀ H', Same H H' → Q (.int (n / k)) H')
theorem fd_divided {CU CS : Addr} {f : Addr} {fd : FuncData} (D : Dn K mg "divided" s_divided ["number", "by"] f fd) (N : Nn mg) (g_Uneven : mg "Uneven" = some (.ref CU)) (e_Uneven : Er K CU CS) : Fd P w K mg base (L2.CX P w) 1 "divided" (spDivided CU) := by
  refine D.fd (D.F.okX sc_divided (fun vs H Q E h => ?_) (fun cdv A outer s H vs Q E hr h => ?_))
  · obtain ⟨n, k, rfl, _⟩ := h
    rfl
  · obtain ⟨n, k, rfl, hk, hkb, kE, kQ⟩ := h
    have nd := sc_divided.nd
    refine ⟨_, (pss_cons (ps_asg (pe_callB call_divmodW (by rfl) N.divmod (by decide +kernel) (pa_cons (pv 0) (pa_cons (pv 1) pa_nil))) (pg_tup rfl (pgs_cons (pg_name (i := 2) nd rfl (.inl rfl)) (pgs_cons (pg_name (i := 3) nd rfl (.inl rfl)) pgs_nil))))
      (pss_cons (ps_if (pt_cmpR op_ne (pv 3) pe_int (nomark _)) (pss_one (ps_raise rfl (takes_of rfl rfl rfl rfl) (pmk_own PySem.F.excBase_ValueError e_Uneven.x g_Uneven e_Uneven.k (raises_own e_Uneven.b e_Uneven.t) rfl))) pss_nil)
      (pss_one (ps_ret (pv 2))))), ?_⟩
    refine ⟨_, rfl, _, rfl, _, _, rfl, ⟨hk, PyProof.noPylong_of_log2 (wide_div (i := n) hk hkb (by decide) (by decide)).2⟩, fun p np => ?_⟩
    refine ⟨_, _, rfl, SqT.of upd_same, rfl, _, _, rfl, _, _, rfl, rfl, ?_⟩
    refine ⟨_, rfl, rfl, _, rfl, ?_⟩
    by_cases h : n % k = 0
    · exact iteNS (congrArg V.int h) ⟨_, rfl, kQ h _ (same_upd np)⟩
    · have e : (!decide (V.int (n % k) = V.int 0)) = true := by
        rw [decide_eq_false (fun z => h (V.int.inj z))]
        rfl
      exact if_true_of e (kE h _ (same_upd np))
theorem fd_widened {f : Addr} {fd : FuncData} (D : Dn K mg "widened" s_widened ["lots", "number"] f fd) (N : Nn mg) : Fd P w K mg base CX0 1 "widened" spWidened := by
  refine D.fd (D.F.ok sc_widened (fun vs H Q E h => ?_) (fun cdv A outer s H vs Q E hr h => ?_))
  · obtain ⟨a, ls, n, rfl, _⟩ := h
    rfl
  · obtain ⟨a, ls, n, rfl, ha, hl, hn1, hnb, hls, q⟩ := h
    have nd := sc_widened.nd
    refine ⟨_, (pss_one (ps_ret (pe_lc (own := [("day", 2), ("count", 3), ("cost", 4)]) (g := gTup K 3 (gCons (gName 2) (gCons (gName 3) (gCons (gName 4) gNil)))) (tt := tYes) (te := (tTup (tCons (tVar 2) (tCons (tOp (rI CMulX fun i j => .int (i * j)) (tVar 3) (tVar 1)) (tCons (tVar 4) tNil))))) rfl nd (pi_list (pv 0)) (blkOk_by (N := nn_widened) (sc := defScope s_widened) (by decide +kernel)) (fun _ _ _ _ _ => (pg_tup rfl (pgs_cons (pg_name (i := 2) nd rfl (.inl rfl)) (pgs_cons (pg_name (i := 3) nd rfl (.inl rfl)) (pgs_cons (pg_name (i := 4) nd rfl (.inl rfl)) pgs_nil))))) (fun _ _ _ _ _ => pts_nil) (fun _ _ _ _ _ => (pe_tup (pa_cons (pv 2) (pa_cons (pe_op op_mulX (pv 3) (pv 1)) (pa_cons (pv 4) pa_nil)))))))), ?_⟩
    obtain ⟨ts, ta, tl, tt⟩ := id ha
    refine ⟨_, rfl, a, rfl, ⟨_, SqL.of ta⟩, fun Da nD => ?_⟩
    refine lc_to (K := K) (fun x y H' => ∀ t z, x = .ref t → H t = some (.tup (lotV z)) → ∃ u, y = .ref u ∧ H' u = some (.tup (lotV ⟨z.day, z.cnt * n, z.cost⟩))) (SqL.of ta) nD (whole_len (by rw [List.length_map]; omega)) (fun x y H H' hl k r t z e1 e2 => ?_) ?_ ?_
    · obtain ⟨u, e3, e4⟩ := r t z e1 e2
      obtain ⟨l, hl⟩ := hl
      exact ⟨u, e3, k _ _ (fun e => by rw [e, hl] at e4; cases e4) e4⟩
    · intro j x H1 Z hx s1 _ hZ
      obtain ⟨t, l, rfl, hxl, ht⟩ := getM tt tl hx
      have hlb := hls l (List.mem_of_getElem? hxl)
      refine ⟨t, _, rfl, SqT.of (s1 _ _ ht), rfl, _, _, rfl, _, _, rfl, _, _, rfl, rfl, rfl, _, rfl, _, rfl, _, rfl, _, _, rfl, rfl, mulX hlb.c hnb (by decide) (by decide) (by decide), _, rfl, (by show 3 ≤ sizeLine; decide), fun u nu => ?_⟩
      refine hZ _ _ (same_upd nu) fun t' z e ht' => ⟨u, rfl, ?_⟩
      cases e
      rw [ht] at ht'
      have e2 : lotV l = lotV z := by
        injection ht' with e
        injection e
      rw [← lotV_inj _ _ e2]
      exact upd_same
    · intro H1 ys s1 hD hlen hys
      have each : ∀ j (hj : j < ys.length), ∃ u, ys[j]? = some (V.ref u) ∧ ∀ hj : j < ls.length, H1 u = some (.tup (lotV ⟨ls[j].day, ls[j].cnt * n, ls[j].cost⟩)) := fun j hj => by
        have hj' : j < ls.length := by rw [hlen, List.length_map, tl] at hj; exact hj
        have gt : ts[j]? = some ts[j] := List.getElem?_eq_getElem (by omega)
        have gy : ys[j]? = some ys[j] := List.getElem?_eq_getElem hj
        obtain ⟨u, e1, e2⟩ := hys j _ _ (by rw [List.getElem?_map, gt]; rfl) gy _ _ rfl (tt j _ _ gt (List.getElem?_eq_getElem hj'))
        exact ⟨u, by rw [gy, e1], fun _ => e2⟩
      obtain ⟨us, e1, e2⟩ := refs_of (ys := ys) each
      subst e1
      refine q H1 Da s1 nD ⟨us, hD, by rw [List.length_map, List.length_map] at hlen; unfold widenL; rw [hlen, List.length_map, tl], fun j u y hu hy => ?_⟩
      unfold widenL at hy
      rw [List.getElem?_map] at hy
      have hj : j < ls.length := by
        rw [List.length_map, List.length_map, tl] at hlen
        have := (List.getElem?_eq_some_iff.mp hu).1
        omega
      rw [List.getElem?_eq_getElem hj] at hy
      rw [← Option.some.inj hy]
      exact e2 j u hu hj
theorem fd_narrowed {CU : Addr} {f : Addr} {fd : FuncData} (D : Dn K mg "narrowed" s_narrowed ["lots", "number"] f fd) (c_divided : Fd P w K mg base (L2.CX P w) 1 "divided" (spDivided CU)) : Fd P w K mg base (L2.CX P w) 2 "narrowed" (spNarrowed CU) := by
  refine D.fd (D.F.okX sc_narrowed (fun vs H Q E h => ?_) (fun cdv A outer s H vs Q E hr h => ?_))
  · obtain ⟨a, ls, n, rfl, _⟩ := h
    rfl
  · obtain ⟨a, ls, n, rfl, ha, hl, hn1, hnb, hls, kE, kQ⟩ := h
    have nd := sc_narrowed.nd
    refine ⟨_, (pss_one (ps_ret (pe_lcx (own := [("day", 2), ("count", 3), ("cost", 4)]) (g := gTup K 3 (gCons (gName 2) (gCons (gName 3) (gCons (gName 4) gNil)))) (tt := tYes) (te := (tTup (tCons (tVar 2) (tCons (tCallS (spDivided CU) (fun _ => E) (tCons (tVar 3) (tCons (tVar 1) tNil))) (tCons (tVar 4) tNil))))) rfl nd rfl rfl (takes_of rfl rfl rfl rfl) (fun _ _ _ _ h => h) (pi_list (pv 0)) (blkOk_by (N := nn_narrowed) (sc := defScope s_narrowed) (by decide +kernel)) (fun _ _ _ _ _ _ => (pg_tup rfl (pgs_cons (pg_name (i := 2) nd rfl (.inl rfl)) (pgs_cons (pg_name (i := 3) nd rfl (.inl rfl)) (pgs_cons (pg_name (i := 4) nd rfl (.inl rfl)) pgs_nil))))) (fun _ _ _ _ _ _ => pts_nil) (fun _ _ _ _ _ hx => (pe_tup (pa_cons (pv 2) (pa_cons (pe_clS c_divided hr hx (by exact (pa_cons (pv 3) (pa_cons (pv 1) pa_nil)))) (pa_cons (pv 4) pa_nil)))))))), ?_⟩
    obtain ⟨ts, ta, tl, tt⟩ := id ha
    refine ⟨_, rfl, a, rfl, ⟨_, SqL.of ta⟩, fun Da nD => ?_⟩
    refine lc_to (K := K) (fun x y H' => ∀ t z, x = .ref t → H t = some (.tup (lotV z)) → z.cnt % n = 0 ∧ ∃ u, y = .ref u ∧ H' u = some (.tup (lotV ⟨z.day, z.cnt / n, z.cost⟩))) (SqL.of ta) nD (whole_len (by rw [List.length_map]; omega)) (fun x y H H' hl k r t z e1 e2 => ?_) ?_ ?_
    · obtain ⟨e0, u, e3, e4⟩ := r t z e1 e2
      obtain ⟨l, hl⟩ := hl
      exact ⟨e0, u, e3, k _ _ (fun e => by rw [e, hl] at e4; cases e4) e4⟩
    · intro j x H1 Z hx s1 _ hZ
      obtain ⟨t, l, rfl, hxl, ht⟩ := getM tt tl hx
      have hlm := List.mem_of_getElem? hxl
      refine ⟨t, _, rfl, SqT.of (s1 _ _ ht), rfl, _, _, rfl, _, _, rfl, _, _, rfl, rfl, rfl, _, rfl, _, rfl, _, rfl, _, _, rfl, (by omega), hnb, (fun hne H2 s2 => kE ⟨l, hlm, hne⟩ H2 (s1.trans s2)), fun hev H2 s2 => ?_⟩
      refine ⟨_, rfl, (by show 3 ≤ sizeLine; decide), fun u nu => ?_⟩
      refine hZ _ _ (s2.trans (same_upd nu)) fun t' z e ht' => ?_
      cases e
      rw [ht] at ht'
      have e2 : lotV l = lotV z := by
        injection ht' with e
        injection e
      rw [← lotV_inj _ _ e2]
      exact ⟨hev, u, rfl, upd_same⟩
    · intro H1 ys s1 hD hlen hys
      have each : ∀ j (hj : j < ls.length), ls[j].cnt % n = 0 ∧ ∃ u, ys[j]? = some (V.ref u) ∧ H1 u = some (.tup (lotV ⟨ls[j].day, ls[j].cnt / n, ls[j].cost⟩)) := fun j hj => by
        have gt : ts[j]? = some ts[j] := List.getElem?_eq_getElem (by omega)
        have gy : ys[j]? = some (ys[j]'(by rw [hlen, List.length_map, tl]; exact hj)) := List.getElem?_eq_getElem _
        obtain ⟨e0, u, e1, e2⟩ := hys j _ _ (by rw [List.getElem?_map, gt]; rfl) gy _ _ rfl (tt j _ _ gt (List.getElem?_eq_getElem hj))
        exact ⟨e0, u, by rw [gy, e1], e2⟩
      have hev : ∀ l ∈ ls, l.cnt % n = 0 := fun l hl => by
        obtain ⟨j, hj, e⟩ := List.mem_iff_getElem.mp hl
        rw [← e]
        exact (each j hj).1
      obtain ⟨us, e1, e2⟩ := refs_of (ys := ys) (P := fun j u => ∀ hj : j < ls.length, H1 u = some (.tup (lotV ⟨ls[j].day, ls[j].cnt / n, ls[j].cost⟩))) fun j hj => by
        have hj' : j < ls.length := by rw [hlen, List.length_map, tl] at hj; exact hj
        obtain ⟨_, u, e1, e2⟩ := each j hj'
        exact ⟨u, e1, fun _ => e2⟩
      subst e1
      refine kQ hev H1 Da s1 nD ⟨us, hD, by rw [List.length_map, List.length_map] at hlen; unfold narrowL; rw [hlen, List.length_map, tl], fun j u y hu hy => ?_⟩
      unfold narrowL at hy
      rw [List.getElem?_map] at hy
      have hj : j < ls.length := by
        rw [List.length_map, List.length_map, tl] at hlen
        have := (List.getElem?_eq_some_iff.mp hu).1
        omega
      rw [List.getElem?_eq_getElem hj] at hy
      rw [← Option.some.inj hy]
      exact e2 j u hu hj

end
end Lb
namespace Lb
open PySem PySem.Spec PyProof.Rows L2

section
variable {P : Program} {w : World} {K : PySem.W.Frag} {mg : Str → Option Value} {base : Heap}

def spAny (K : PySem.W.Frag) : Sp := fun vs H Q _ => ∃ (a : Addr) (ls : List Lot) (n : Int), vs = [.ref a, .int n] ∧ TpA lotV H a ls ∧ ls.length ≤ 1000 ∧ 1 ≤ n ∧ n.natAbs < 2 ^ bB ∧ (∀ l ∈ ls, LotB bB l) ∧ (∃ l ∈ ls, l.cnt % n ≠ 0) ∧ ∀ H', Same H H' → Q (.bl true) H'
theorem fd_law_refused_by_any {CU CS : Addr} {f : Addr} {fd : FuncData} (D : Dn K mg "_law_refused_by_any" s_law_refused_by_any ["_law_lots_here", "_law_number"] f fd) (N : Nn mg) (g_ShareError : mg "ShareError" = some (.ref CS)) (e_Uneven : Er K CU CS) (c_narrowed : Fd P w K mg base (L2.CX P w) 2 "narrowed" (spNarrowed CU)) :
    Fd P w K mg base CX0 3 "_law_refused_by_any" (spAny K) := by
  refine D.fd (D.F.ok sc_law_refused_by_any (fun vs H Q E h => ?_) (fun cdv A outer s H vs Q E hr h => ?_))
  · obtain ⟨a, ls, c, rfl, _⟩ := h
    rfl
  · obtain ⟨a, ls, c, rfl, ha, hl, hc0, hcb, hls, hm, q⟩ := h
    have nd := sc_law_refused_by_any.nd
    refine ⟨_, (pss_cons (ps_try_as (i := 2) (tb := fun W => tDrop (tCallS (spNarrowed CU) (WE W) (tCons (tVar 0) (tCons (tVar 1) tNil)))) (ts := fun a cls d => tWhen (cls = .ref CU ∧ d = none) (tRet (tCB (rIsE K CU a) (tCons (tVar 2) (tCons (tC (.ty "ValueError")) tNil))))) (Wout := fun _ _ _ _ => False) rfl rfl nd rfl rfl ⟨rfl, by decide, .inl g_ShareError⟩ takes0 (fun W pn xe tk _ => (pss_one (ps_expr (pe_clS c_narrowed hr (fun σ => passAt tk σ) (by exact (pa_cons (pv 0) (pa_cons (pv 1) pa_nil))))))) (fun a oe cls d pn hz hf => pss_when fun hcd => by
          obtain ⟨rfl, rfl⟩ := hcd
          exact (pss_one (ps_ret (pe_callB (call_isE e_Uneven.c hz hf) (by rfl) N.isi boot_isinstance (pa_cons (pv 2) (pa_cons (pe_bltn (v := .ty "ValueError") (by rfl) N.ve (by decide +kernel) rfl) pa_nil)))))))
      (pss_one (ps_ret pe_bl))), ?_⟩
    refine ⟨_, rfl, _, rfl, a, ls, c, rfl, ha, by omega, hc0, hcb, hls, fun _ H1 s1 => ?_, fun z => ?_⟩
    · refine ⟨true, e_Uneven.s, fun _ a0 _ => ?_, fun z => Bool.noConfusion z⟩
      exact ⟨⟨rfl, rfl⟩, _, rfl, .ty "ValueError", .type "ValueError", true, rfl, fun u hu => hu, e_Uneven.i, q _ s1⟩
    · obtain ⟨l, hl1, hl2⟩ := hm
      exact absurd (z l hl1) hl2
def spLaw (K : PySem.W.Frag) : Sp := fun vs H Q _ => ∃ (a : Addr) (ns : List Int), vs = [.ref a] ∧ SqL K H a (ns.map V.int) ∧ ns.length ≤ 63 ∧ (∀ z ∈ ns, z.natAbs < 2 ^ bS) ∧ ∀ H', Q (.bl true) H'
theorem ok_law {CU CS : Addr} {f : Addr} {fd : FuncData} (D : Dn K mg "law" s_law ["_law_script"] f fd) (N : Nn mg) (g_Uneven : mg "Uneven" = some (.ref CU)) (e_Uneven : Er K CU CS)
    (c_widened : Fd P w K mg base CX0 1 "widened" spWidened) (c_narrowed : Fd P w K mg base (L2.CX P w) 2 "narrowed" (spNarrowed CU))
    (c_law_cell_at : Fd P w K mg base CX0 1 "_law_cell_at" (spCell K)) (c_law_drawn : Fd P w K mg base CX0 1 "_law_drawn" (spDrawn K))
    (c_law_lots : Fd P w K mg base CX0 2 "_law_lots" (spLots K)) (c_law_tuples : Fd P w K mg base CX0 2 "_law_tuples" spTuples) (c_law_refused_by_any : Fd P w K mg base CX0 3 "_law_refused_by_any" (spAny K)) :
    FnOk P w K mg base CX0 4 f fd ["_law_script"] (spLaw K) := by
  refine D.F.ok sc_law (fun vs H Q E h => ?_) (fun cdv A outer s H vs Q E hr h => ?_)
  · obtain ⟨a, ns, rfl, _⟩ := h
    rfl
  · obtain ⟨a, ns, rfl, hS, hlen, hbits, q⟩ := h
    have nd := sc_law.nd
    refine ⟨_, (pss_cons (ps_set (i := 1) nd rfl (.inl rfl) (pe_cl c_law_drawn hr (pa_cons (pe_cl c_law_cell_at hr (pa_cons (pv 0) (pa_cons pe_int pa_nil))) (pa_cons (pe_lst (pa_cons pe_int (pa_cons pe_int (pa_cons pe_int (pa_cons pe_int pa_nil))))) pa_nil))))
      (pss_cons (ps_set (i := 2) nd rfl (.inl rfl) (pe_ix ix_list (pv 1) pe_int (fun _ _ => rfl)))
      (C8.pss_cut (ps_if (pt_cmpR op_eq (pe_ix ix_list (pv 1) pe_int (fun _ _ => rfl)) pe_int (nomark _)) (pss_one (ps_set (i := 2) nd rfl (.inl rfl) pe_int)) pss_nil)
      (pss_cons (ps_set (i := 3) nd rfl (.inl rfl) (pe_cl c_law_lots hr (pa_cons (pv 0) (pa_cons (pv 2) pa_nil))))
      (pss_cons (ps_set (i := 4) nd rfl (.inr rfl) (pe_op op_add pe_int (pe_op op_mod (pe_cl c_law_cell_at hr (pa_cons (pv 0) (pa_cons pe_int pa_nil))) pe_int)))
      (C8.pss_cut (ps_if (pt_cmpR op_eq (pe_ix ix_list (pv 1) pe_int (fun _ _ => rfl)) pe_int (nomark _)) (pss_one (ps_set (i := 4) nd rfl (.inr rfl) (pe_op op_add pe_int (pe_op op_mod (pe_cl c_law_cell_at hr (pa_cons (pv 0) (pa_cons pe_int pa_nil))) (pe_op op_pow pe_int pe_int))))) pss_nil)
      (C8.pss_cut (ps_if (pt_cmpR op_eq (pe_ix ix_list (pv 1) pe_int (fun _ _ => rfl)) pe_int (nomark _)) (pss_one (ps_set (i := 4) nd rfl (.inr rfl) (pe_op op_add pe_int (pe_op op_mod (pe_op op_mulX (pe_cl c_law_cell_at hr (pa_cons (pv 0) (pa_cons pe_int pa_nil))) (pe_op op_pow pe_int pe_int)) (pe_op op_pow pe_int pe_int))))) pss_nil)
      (C8.pss_cut (ps_if (pt_cmpR op_eq (pe_ix ix_list (pv 1) pe_int (fun _ _ => rfl)) pe_int (nomark _)) (pss_cons (ps_set (i := 5) nd rfl (.inr rfl) (pe_ix ix_list (pe_lst (pa_cons (pe_op op_pow pe_int pe_int) (pa_cons pe_int pa_nil))) (pe_callTy call_int1 (by rfl) N.int boot_int (pa_cons (pe_cmpR op_eq (pe_ix ix_list (pv 1) pe_int (fun _ _ => rfl)) pe_int (nomark _)) pa_nil)) (fun _ _ => rfl)))
      (pss_one (ps_setLc (i := 3) (own := [("_law_lot", 11)]) (g := gName 11) (tt := tYes) (te := (tTup (tCons (tOp (rIxT K) (tVar 11) (tC (.int 0))) (tCons (tOp (rI CMulX fun i j => .int (i * j)) (tOp (rI0 fun i j => .int (i + j)) (tC (.int 1)) (tOp (rI (fun _ j => 0 < j) fun i j => .int (i % j)) (tOp (rIxT K) (tVar 11) (tC (.int 1))) (tVar 5))) (tVar 4)) (tCons (tOp (rIxT K) (tVar 11) (tC (.int 2))) tNil))))) rfl nd rfl rfl (sw_true rfl rfl rfl (by decide +kernel)) (pi_list (pv 3)) (blkOk_by (N := nn_law) (sc := defScope s_law) (by decide +kernel)) (fun _ _ _ _ _ => (pg_name (i := 11) nd rfl (.inl rfl))) (fun _ _ _ _ _ => pts_nil) (fun _ _ _ _ _ => (pe_tup (pa_cons (pe_ix ix_tup (pv 11) pe_int (fun _ _ => rfl)) (pa_cons (pe_op op_mulX (pe_op op_add pe_int (pe_op op_mod (pe_ix ix_tup (pv 11) pe_int (fun _ _ => rfl)) (pv 5))) (pv 4)) (pa_cons (pe_ix ix_tup (pv 11) pe_int (fun _ _ => rfl)) pa_nil)))))))) pss_nil)
      (pss_cons (ps_set (i := 6) nd rfl (.inl rfl) (pe_callTy call_list_of (by rfl) N.list boot_list (pa_cons (pv 3) pa_nil)))
      (pss_cons (ps_setLc (i := 7) (own := [("_law_lot", 11)]) (g := gName 11) (tt := tYes) (te := (tTup (tCons (tOp (rIxT K) (tVar 11) (tC (.int 0))) (tCons (tOp (rI CMulX fun i j => .int (i * j)) (tOp (rIxT K) (tVar 11) (tC (.int 1))) (tVar 4)) (tCons (tOp (rIxT K) (tVar 11) (tC (.int 2))) tNil))))) rfl nd rfl rfl (sw_true rfl rfl rfl (by decide +kernel)) (pi_list (pv 3)) (blkOk_by (N := nn_law) (sc := defScope s_law) (by decide +kernel)) (fun _ _ _ _ _ => (pg_name (i := 11) nd rfl (.inl rfl))) (fun _ _ _ _ _ => pts_nil) (fun _ _ _ _ _ => (pe_tup (pa_cons (pe_ix ix_tup (pv 11) pe_int (fun _ _ => rfl)) (pa_cons (pe_op op_mulX (pe_ix ix_tup (pv 11) pe_int (fun _ _ => rfl)) (pv 4)) (pa_cons (pe_ix ix_tup (pv 11) pe_int (fun _ _ => rfl)) pa_nil))))))
      (pss_cons (ps_if (pt_not (pt_val (pe_cl c_law_tuples hr (pa_cons (pe_cl c_widened hr (pa_cons (pv 6) (pa_cons (pv 4) pa_nil))) (pa_cons (pv 7) pa_nil))))) (pss_one (ps_ret pe_bl)) pss_nil)
      (pss_cons (ps_set (i := 8) nd rfl (.inl rfl) pe_bl)
      (pss_cons (ps_set (i := 9) nd rfl (.inl rfl) (pe_lst pa_nil))
      (C8.pss_cut (ps_try_only (tb := fun W => tAsg (tCallS (spNarrowed CU) (WE W) (tCons (tVar 6) (tCons (tVar 4) tNil))) (gName 9)) (ts := fun _ _ _ => tAsg (tC (.bl true)) (gName 8)) (Wout := fun _ _ _ _ => False) rfl rfl ⟨rfl, by decide, .inl g_Uneven⟩ takes0 (fun W pn xe tk _ => (pss_one (ps_set (i := 9) nd rfl (.inl rfl) (pe_clS c_narrowed hr (fun σ => passAt tk σ) (by exact (pa_cons (pv 6) (pa_cons (pv 4) pa_nil))))))) (fun _ _ _ _ _ _ _ => (pss_one (ps_set (i := 8) nd rfl (.inl rfl) pe_bl))))
      (pss_cons (ps_if (pt_cmpR (op_neD hr.units) (pv 6) (pv 3) (nomark _)) (pss_one (ps_ret pe_bl)) pss_nil)
      (pss_cons (ps_if (pt_val (pe_callB (cr_any rfl) (by rfl) N.any boot_any (pa_cons (pe_lc (own := [("_law_lot", 11)]) (g := gName 11) (tt := tYes) (te := (tOp (rI0 fun i j => .bl (decide (j < i))) (tOp (rI (fun _ j => 0 < j) fun i j => .int (i % j)) (tOp (rIxT K) (tVar 11) (tC (.int 1))) (tVar 4)) (tC (.int 0)))) rfl nd (pi_list (pv 3)) (blkOk_by (N := nn_law) (sc := defScope s_law) (by decide +kernel)) (fun _ _ _ _ _ => (pg_name (i := 11) nd rfl (.inl rfl))) (fun _ _ _ _ _ => pts_nil) (fun _ _ _ _ _ => (pe_cmpR op_gt (pe_op op_mod (pe_ix ix_tup (pv 11) pe_int (fun _ _ => rfl)) (pv 4)) pe_int (nomark _)))) pa_nil))) (pss_one (ps_ret (pe_and (pv 8) (pe_one (pe_cl c_law_refused_by_any hr (pa_cons (pv 3) (pa_cons (pv 4) pa_nil))))))) pss_nil)
      (pss_cons (ps_setLc (i := 10) (own := [("_law_lot", 11)]) (g := gName 11) (tt := tYes) (te := (tTup (tCons (tOp (rIxT K) (tVar 11) (tC (.int 0))) (tCons (tOp (rI CDivW fun i j => .int (i / j)) (tOp (rIxT K) (tVar 11) (tC (.int 1))) (tVar 4)) (tCons (tOp (rIxT K) (tVar 11) (tC (.int 2))) tNil))))) rfl nd rfl rfl (sw_true rfl rfl rfl (by decide +kernel)) (pi_list (pv 3)) (blkOk_by (N := nn_law) (sc := defScope s_law) (by decide +kernel)) (fun _ _ _ _ _ => (pg_name (i := 11) nd rfl (.inl rfl))) (fun _ _ _ _ _ => pts_nil) (fun _ _ _ _ _ => (pe_tup (pa_cons (pe_ix ix_tup (pv 11) pe_int (fun _ _ => rfl)) (pa_cons (pe_op op_fdivW (pe_ix ix_tup (pv 11) pe_int (fun _ _ => rfl)) (pv 4)) (pa_cons (pe_ix ix_tup (pv 11) pe_int (fun _ _ => rfl)) pa_nil))))))
      (pss_one (ps_ret (pe_and (pe_not (pv 8)) (pe_one (pe_cl c_law_tuples hr (pa_cons (pv 9) (pa_cons (pv 10) pa_nil)))))))))))))))))))))))), ?_⟩
    -- the draws
    refine ⟨_, rfl, a, ns, 0, rfl, hS, (by show 4 ≤ sizeLine; decide), fun p1 n1 => ?_⟩
    have s1 : Same H (upd H p1 (.lst [V.int 7, V.int 2, V.int 4, V.int 8])) := same_upd n1
    refine ⟨_, p1, [7, 2, 4, 8], rfl, SqL.of upd_same, (by decide), (by decide), fun H1 fp s2 nf ef => ?_⟩
    have sA : Same H H1 := s1.trans s2
    obtain ⟨x, hx⟩ : ∃ x, x = cellAt ns 0 := ⟨_, rfl⟩
    rw [← hx] at ef
    have ef' : H1 fp = some (.lst [V.int (x % 7), V.int (x / 7 % 2), V.int (x / 7 / 2 % 4), V.int (x / 7 / 2 / 4 % 8)]) := ef
    refine ⟨_, rfl, _, _, _, _, rfl, rfl, SqL.of ef', atI_nat (j := 0) rfl, ?_⟩
    -- how many
    refine ⟨fun σ' H' => ∃ n : Nat, n ≤ 60 ∧ σ' = [some (.ref a), some (.ref fp), some (.int (n : Int)), none, none, none, none, none, none, none, none, none] ∧ H' = H1, ?_, ?_⟩
    · refine ⟨_, rfl, _, _, _, _, rfl, rfl, SqL.of ef', atI_nat (j := 3) rfl, rfl, _, rfl, ite2 (fun _ => ?_) (fun _ => ?_)⟩
      · exact ⟨60, Nat.le_refl _, rfl, rfl⟩
      · refine ⟨(x % 7).toNat, by omega, ?_, rfl⟩
        have e : (((x % 7).toNat : Nat) : Int) = x % 7 := Int.toNat_of_nonneg (by omega)
        rw [e]
        rfl
    rintro σ1 H1' ⟨n, hn, rfl, rfl⟩
    -- the lots
    refine ⟨_, rfl, _, rfl, a, ns, n, rfl, sA.seq hS, by omega, hbits, fun H2 lp s3 nl hL => ?_⟩
    have okL := lotsOf_ok ns (n := n) (by omega)
    have lenL := lotsOf_len ns n
    generalize lotsOf ns n = L at hL okL lenL
    have sB : Same H H2 := sA.trans s3
    have ef2 := s3 _ _ ef'
    have hcb := cell_abs hbits 1
    -- the number
    refine ⟨_, rfl, a, ns, 1, rfl, sB.seq hS, _, _, rfl, rfl, (by show (0 : Int) < 12; decide), _, _, rfl, rfl, ?_⟩
    have e6 : (10 : Int) ^ 6 = 1000000 := by decide
    have e29 : (10 : Int) ^ 29 = 100000000000000000000000000000 := by decide
    have e100 : (2 : Nat) ^ 100 = 1267650600228229401496703205376 := by decide
    refine ⟨fun σ' H' => ∃ m : Int, 1 ≤ m ∧ m.natAbs < 2 ^ 100 ∧ σ' = [some (.ref a), some (.ref fp), some (.int (n : Int)), some (.ref lp), some (.int m), none, none, none, none, none, none, none] ∧ H' = H2, ?_, ?_⟩
    · refine ⟨_, rfl, _, _, _, _, rfl, rfl, SqL.of ef2, atI_nat (j := 2) rfl, rfl, _, rfl, ite2 (fun _ => ?_) (fun _ => ?_)⟩
      · refine ⟨_, rfl, a, ns, 1, rfl, sB.seq hS, _, _, rfl, rfl, ⟨by decide, by decide, by decide⟩, _, _, rfl, rfl, (by show (0 : Int) < 10 ^ 6; decide), _, _, rfl, rfl, 1 + cellAt ns 1 % 10 ^ 6, ?_, ?_, rfl, rfl⟩
        · rw [e6]
          omega
        · rw [e6, e100]
          omega
      · refine ⟨1 + cellAt ns 1 % 12, by omega, ?_, rfl, rfl⟩
        rw [e100]
        omega
    rintro σ2 H2' ⟨m0, hm0, hm0b, rfl, rfl⟩
    refine ⟨fun σ' H' => ∃ m : Int, 1 ≤ m ∧ m.natAbs < 2 ^ 100 ∧ σ' = [some (.ref a), some (.ref fp), some (.int (n : Int)), some (.ref lp), some (.int m), none, none, none, none, none, none, none] ∧ H' = H2', ?_, ?_⟩
    · refine ⟨_, rfl, _, _, _, _, rfl, rfl, SqL.of ef2, atI_nat (j := 2) rfl, rfl, _, rfl, ite2 (fun _ => ?_) (fun _ => ?_)⟩
      · refine ⟨_, rfl, a, ns, 1, rfl, sB.seq hS, _, _, rfl, rfl, ⟨by decide, by decide, by decide⟩, _, _, rfl, rfl, mulX (b := 200) hcb (by decide) (by rw [bS_eq]; decide) (by decide) (by rw [bS_eq]; decide), _, _, rfl, rfl, ⟨by decide, by decide, by decide⟩, _, _, rfl, rfl, (by show (0 : Int) < 10 ^ 29; decide), _, _, rfl, rfl, 1 + cellAt ns 1 * 69621 ^ 7 % 10 ^ 29, ?_, ?_, rfl, rfl⟩
        · rw [e29]
          generalize cellAt ns 1 * 69621 ^ 7 = y
          omega
        · rw [e29, e100]
          generalize cellAt ns 1 * 69621 ^ 7 = y
          omega
      · exact ⟨m0, hm0, hm0b, rfl, rfl⟩
    rintro σ3 H3 ⟨m, hm, hmb, rfl, rfl⟩
    have hmB : m.natAbs < 2 ^ bB := up_abs hmb (by decide)
    -- the lots made anew
    refine ⟨fun σ' H' => ∃ v5 lp2 L2, σ' = [some (.ref a), some (.ref fp), some (.int (n : Int)), some (.ref lp2), some (.int m), v5, none, none, none, none, none, none] ∧ TpA lotV H' lp2 L2 ∧ L2.length ≤ 60 ∧ (∀ l ∈ L2, LotB bB l), ?_, ?_⟩
    · refine ⟨_, rfl, _, _, _, _, rfl, rfl, SqL.of ef2, atI_nat (j := 1) rfl, rfl, _, rfl, ite2 (fun _ => ?_) (fun _ => ?_)⟩
      · refine ⟨_, _, rfl, rfl, ⟨by decide, by decide, by decide⟩, (by show 2 ≤ sizeLine; decide), fun p2 n2 => ?_⟩
        generalize hH4 : upd _ p2 _ = H4
        obtain ⟨s4, e4⟩ := al n2 hH4
        have e4' : H4 p2 = some (.lst [V.int (10 ^ 20), V.int 9]) := e4
        have ef4 := s4 _ _ ef2
        refine ⟨_, rfl, _, _, _, _, rfl, rfl, SqL.of ef4, atI_nat (j := 2) rfl, rfl, .inr ⟨_, rfl, ?_⟩⟩
        obtain ⟨r, hr1, hr2, hr3⟩ : ∃ r : Int, atI [V.int (10 ^ 20), V.int 9] (b2i (decide (V.int (x / 7 / 2 % 4) = V.int 2))) = some (V.int r) ∧ 0 < r ∧ r < 2 ^ 100 := by
          cases decide (V.int (x / 7 / 2 % 4) = V.int 2)
          · exact ⟨10 ^ 20, rfl, by decide, by decide⟩
          · exact ⟨9, rfl, by decide, by decide⟩
        refine ⟨p2, _, _, _, rfl, rfl, SqL.of e4', hr1, ?_⟩
        have hL4 := hL.same s4
        obtain ⟨ts, ta, tl, tt⟩ := id hL4
        refine ⟨_, rfl, lp, rfl, ⟨_, SqL.of ta⟩, fun Da nD => ?_⟩
        refine lc_tups (g := lotV) (h := fun l : Lot => (⟨l.day, (1 + l.cnt % r) * m, l.cost⟩ : Lot)) lotV_inj hL4 (by omega) nD (fun t l H5 Z hl s5 ht hZ => ?_) (fun H6 s6 hT => ?_)
        · have ok := okL l hl
          have h0 := Int.emod_nonneg l.cnt (show r ≠ 0 by omega)
          have h1 := Int.emod_lt_of_pos l.cnt hr2
          have hab : (1 + l.cnt % r).natAbs < 2 ^ 101 := by
            have e101 : (2 : Nat) ^ 101 = 2535301200456458802993406410752 := by decide
            have e100' : (2 : Int) ^ 100 = 1267650600228229401496703205376 := by decide
            rw [e100'] at hr3
            rw [e101]
            omega
          refine ⟨_, rfl, t, _, _, _, rfl, rfl, SqT.of ht, at_day l, _, rfl, t, _, _, _, rfl, rfl, SqT.of ht, at_cnt l, _, rfl, _, _, rfl, rfl, hr2, _, _, rfl, rfl, _, rfl, _, _, rfl, rfl, mulX hab hmb (by decide) (by decide) (by decide), _, rfl, t, _, _, _, rfl, rfl, SqT.of ht, at_cost l, (by show 3 ≤ sizeLine; decide), fun u nu => ?_⟩
          exact hZ u _ (same_upd nu) upd_same
        · refine ⟨some (.int r), Da, _, rfl, hT, by rw [List.length_map]; omega, fun l hl => ?_⟩
          obtain ⟨l0, hl0, rfl⟩ := List.mem_map.mp hl
          have ok := okL l0 hl0
          have h0 := Int.emod_nonneg l0.cnt (show r ≠ 0 by omega)
          have h1 := Int.emod_lt_of_pos l0.cnt hr2
          have hab : (1 + l0.cnt % r).natAbs < 2 ^ 101 := by
            have e101 : (2 : Nat) ^ 101 = 2535301200456458802993406410752 := by decide
            have e100' : (2 : Int) ^ 100 = 1267650600228229401496703205376 := by decide
            rw [e100'] at hr3
            rw [e101]
            omega
          have hp : 1 ≤ (1 + l0.cnt % r) * m := by
            have := Int.mul_le_mul (show 1 ≤ 1 + l0.cnt % r by omega) hm (by decide) (by omega)
            omega
          exact ⟨ok.b.d, hp, up_abs (wide_lt hab hmb) (by decide), ok.b.k0, ok.b.k⟩
      · exact ⟨none, lp, L, rfl, hL, by omega, fun l hl => (okL l hl).b⟩
    rintro σ4 H4 ⟨v5, lp2, M, rfl, hM, hM60, bM⟩
    obtain ⟨ts, ta, tl, tt⟩ := id hM
    -- handed, wide
    refine ⟨_, rfl, lp2, _, rfl, .inl (SqL.of ta), fun hp nh => ?_⟩
    generalize hH5 : upd _ hp _ = H5
    obtain ⟨s5, e5⟩ := al nh hH5
    have hH5' : TpA lotV H5 hp M := hM.copy s5 ta e5
    have hM5 := hM.same s5
    refine ⟨_, rfl, lp2, rfl, ⟨_, SqL.of (s5 _ _ ta)⟩, fun Da nD => ?_⟩
    refine lc_tups (g := lotV) (h := fun l : Lot => (⟨l.day, l.cnt * m, l.cost⟩ : Lot)) lotV_inj hM5 (by omega) nD (fun t l H6 Z hl s6 ht hZ => ?_) (fun H6 s6 hW => ?_)
    · refine ⟨_, rfl, t, _, _, _, rfl, rfl, SqT.of ht, at_day l, _, rfl, t, _, _, _, rfl, rfl, SqT.of ht, at_cnt l, _, rfl, _, _, rfl, rfl, mulX (bM l hl).c hmB (by decide) (by decide) (by decide), _, rfl, t, _, _, _, rfl, rfl, SqT.of ht, at_cost l, (by show 3 ≤ sizeLine; decide), fun u nu => ?_⟩
      exact hZ u _ (same_upd nu) upd_same
    have sh3 : ∀ (xs : List Lot), ∀ r ∈ xs.map lotI, r.length ≤ 100 := fun xs r hr => by
      obtain ⟨l, _, rfl⟩ := List.mem_map.mp hr
      show 3 ≤ 100
      decide
    refine ⟨_, rfl, _, rfl, hp, M, m, rfl, hH5'.same s6, by omega, hm, hmB, bM, fun H7 wp s7 nw hw => ?_⟩
    refine ⟨_, rfl, wp, Da, (widenL M m).map lotI, rfl, hw.lots, (hW.same s7).lots, (by rw [List.length_map]; unfold widenL; rw [List.length_map]; omega), sh3 _, fun H8 s8 => ⟨true, rfl, if_false_of rfl ?_⟩⟩
    have s58 := (s6.trans s7).trans s8
    -- narrowed
    refine ⟨Nat.zero_le _, fun q1 m1 => ?_⟩
    generalize hH9 : upd _ q1 _ = H9
    obtain ⟨s9, _⟩ := al m1 hH9
    have s59 := s58.trans s9
    have hH9' := hH5'.same s59
    have hM9 := hM5.same s59
    refine ⟨fun σ' H' => ∃ r fnd, σ' = [some (.ref a), some (.ref fp), some (.int (n : Int)), some (.ref lp2), some (.int m), v5, some (.ref hp), some (.ref Da), some (.bl r), some (.ref fnd), none, none] ∧ TpA lotV H' lp2 M ∧ TpA lotV H' hp M ∧
      ((∃ l ∈ M, l.cnt % m ≠ 0) → r = true) ∧ ((∀ l ∈ M, l.cnt % m = 0) → r = false ∧ TpA lotV H' fnd (narrowL M m)), ?_, ?_⟩
    · refine ⟨_, rfl, _, rfl, hp, M, m, rfl, hH9', by omega, hm, hmB, bM, fun hb H10 s10 => ?_, fun hb H10 p s10 np hp' => ?_⟩
      · refine ⟨true, e_Uneven.e, fun _ a0 _ => ?_, fun z => Bool.noConfusion z⟩
        refine ⟨true, q1, rfl, hM9.same s10, hH9'.same s10, fun _ => rfl, fun z => ?_⟩
        obtain ⟨l, h1, h2⟩ := hb
        exact absurd (z l h1) h2
      · refine ⟨false, p, rfl, hM9.same s10, hH9'.same s10, fun z => ?_, fun _ => ⟨rfl, hp'⟩⟩
        obtain ⟨l, h1, h2⟩ := z
        exact absurd (hb l h1) h2
    rintro σ5 H10 ⟨r, fnd, rfl, hM10, hH10, k0, k1⟩
    refine ⟨_, rfl, _, rfl, ne_rows hH10.lots hM10.lots ⟨_, rfl, iteNS rfl ?_⟩⟩
    obtain ⟨us, ua, ul, ut⟩ := id hM10
    refine ⟨_, rfl, lp2, rfl, ⟨_, SqL.of ua⟩, fun Db nb => ?_⟩
    refine lc_val (h := fun l : Lot => V.bl (decide (0 < l.cnt % m))) lotV_inj hM10 (by omega) nb (fun t l H11 Z hl s11 ht hZ => ?_) (fun H11 s11 hT => ?_)
    · exact ⟨_, rfl, t, _, _, _, rfl, rfl, SqT.of ht, at_cnt l, _, rfl, _, _, rfl, rfl, (by omega), _, _, rfl, rfl, hZ _ (Same.refl _)⟩
    refine ⟨_, M.map fun l => decide (0 < l.cnt % m), rfl, SqL.of (by rw [hT, List.map_map]; rfl), _, rfl, ?_⟩
    by_cases hev : ∀ l ∈ M, l.cnt % m = 0
    · have e : (M.map fun l => decide (0 < l.cnt % m)).any id = false := by
        rw [List.any_eq_false]
        intro b hb
        obtain ⟨l, hl, rfl⟩ := List.mem_map.mp hb
        rw [hev l hl]
        decide
      obtain ⟨rfl, hfn⟩ := k1 hev
      refine if_false_of e ?_
      refine ⟨_, rfl, lp2, rfl, ⟨_, SqL.of (s11 _ _ ua)⟩, fun Dc nc => ?_⟩
      refine lc_tups (g := lotV) (h := fun l : Lot => (⟨l.day, l.cnt / m, l.cost⟩ : Lot)) lotV_inj (hM10.same s11) (by omega) nc (fun t l H12 Z hl s12 ht hZ => ?_) (fun H12 s12 hU => ?_)
      · refine ⟨_, rfl, t, _, _, _, rfl, rfl, SqT.of ht, at_day l, _, rfl, t, _, _, _, rfl, rfl, SqT.of ht, at_cnt l, _, rfl, _, _, rfl, rfl, wide_div (by omega) hmB (by decide) (by decide), _, rfl, t, _, _, _, rfl, rfl, SqT.of ht, at_cost l, (by show 3 ≤ sizeLine; decide), fun u nu => ?_⟩
        exact hZ u _ (same_upd nu) upd_same
      refine ⟨_, rfl, false, rfl, true, rfl, if_true_of rfl ?_⟩
      exact ⟨_, rfl, _, rfl, fnd, Dc, _, rfl, ((hfn.same s11).same s12).lots, hU.lots, (by rw [List.length_map]; unfold narrowL; rw [List.length_map]; omega), sh3 _, fun H13 _ => q H13⟩
    · have hb : ∃ l ∈ M, l.cnt % m ≠ 0 := by
        apply Classical.byContradiction
        intro z
        exact hev fun l hl => Classical.byContradiction fun y => z ⟨l, hl, y⟩
      have e : (M.map fun l => decide (0 < l.cnt % m)).any id = true := by
        rw [List.any_eq_true]
        obtain ⟨l, hl, hz⟩ := hb
        refine ⟨true, List.mem_map.mpr ⟨l, hl, ?_⟩, rfl⟩
        have := Int.emod_nonneg l.cnt (show m ≠ 0 by omega)
        exact decide_eq_true (by omega)
      refine if_true_of e ?_
      rw [k0 hb]
      exact ⟨_, rfl, true, rfl, if_true_of rfl ⟨_, rfl, _, rfl, lp2, M, m, rfl, hM10.same s11, by omega, hm, hmB, bM, hb, fun H' _ => q H'⟩⟩

end
end Lb
namespace Lb
open PySem PySem.Spec PyProof.Rows L2
theorem exm_self {K : PySem.W.Frag} {S : Addr} (h1 : PySem.W.subIn K (.ref S) (.type "BaseException") = some true) (h2 : PySem.W.isClsIn K S = true) (h3 : PySem.W.typeIn K (.ref S) = some (.type "type")) (h4 : PySem.W.subIn K (.ref S) (.ref S) = some true) :
    PySem.W.exmOne K (.ref S) (.ref S) = some true := by
  have e1 : (PySem.W.subIn K (.ref S) (.type "BaseException") == some true) = true := by rw [h1] <;> rfl
  have e2 : ((PySem.W.clsIn K S).isSome && PySem.W.typeIn K (.ref S) == some (.type "type")) = true := by
    have h2' : (PySem.W.clsIn K S).isSome = true := h2
    rw [h2', h3] <;> rfl
  show (if (PySem.W.subIn K (.ref S) (.type "BaseException") == some true) = true then (if ((PySem.W.clsIn K S).isSome && PySem.W.typeIn K (.ref S) == some (.type "type")) = true then PySem.W.subIn K (.ref S) (.ref S) else none) else none) = some true
  rw [if_pos e1, if_pos e2]
  exact h4
theorem all_mk {P : Program} {w : World} {K : PySem.W.Frag} {h : Heap} {mg : Str → Option Value} {fa : Addr} (X : K.In h) (G : h.Ns mainGlobals mg) (hfa : mg "law" = some (.ref fa))
    {f0 : Addr} {od0 an0 : Option Addr} {sl0 : Array (Option Value)} {oc0 kV0 dc0 pm0 cd0 ct0 : Value}
    {f1 : Addr} {od1 an1 : Option Addr} {sl1 : Array (Option Value)} {oc1 kV1 dc1 pm1 cd1 ct1 : Value}
    {f2 : Addr} {od2 an2 : Option Addr} {sl2 : Array (Option Value)} {oc2 kV2 dc2 pm2 cd2 ct2 : Value}
    {f3 : Addr} {od3 an3 : Option Addr} {sl3 : Array (Option Value)} {oc3 kV3 dc3 pm3 cd3 ct3 : Value}
    {f4 : Addr} {od4 an4 : Option Addr} {sl4 : Array (Option Value)} {oc4 kV4 dc4 pm4 cd4 ct4 : Value}
    {f5 : Addr} {od5 an5 : Option Addr} {sl5 : Array (Option Value)} {oc5 kV5 dc5 pm5 cd5 ct5 : Value}
    {f6 : Addr} {od6 an6 : Option Addr} {sl6 : Array (Option Value)} {oc6 kV6 dc6 pm6 cd6 ct6 : Value}
    {f7 : Addr} {od7 an7 : Option Addr} {sl7 : Array (Option Value)} {oc7 kV7 dc7 pm7 cd7 ct7 : Value}
    {f8 : Addr} {od8 an8 : Option Addr} {sl8 : Array (Option Value)} {oc8 kV8 dc8 pm8 cd8 ct8 : Value}
    {f9 : Addr} {od9 an9 : Option Addr} {sl9 : Array (Option Value)} {oc9 kV9 dc9 pm9 cd9 ct9 : Value}
    {f10 : Addr} {od10 an10 : Option Addr} {sl10 : Array (Option Value)} {oc10 kV10 dc10 pm10 cd10 ct10 : Value}
    {CS : Addr}
    {CU : Addr}
    (a0 : PySem.W.nsIn K mainGlobals "divided" = some (some (.ref f0)))
    (l0 : K.lookup f0 = some ⟨oc0, od0, .func (PySem.W.fnOf "divided" "divided" (defArgs s_divided) (defBody s_divided) (defScope s_divided) .none kV0 dc0 pm0 an0 cd0 ct0), sl0⟩)
    (c0 : PySem.W.codeIn K cd0 "divided" = true)
    (k0 : PySem.W.keepIn K (.ref f0) = true)
    (a1 : PySem.W.nsIn K mainGlobals "widened" = some (some (.ref f1)))
    (l1 : K.lookup f1 = some ⟨oc1, od1, .func (PySem.W.fnOf "widened" "widened" (defArgs s_widened) (defBody s_widened) (defScope s_widened) .none kV1 dc1 pm1 an1 cd1 ct1), sl1⟩)
    (c1 : PySem.W.codeIn K cd1 "widened" = true)
    (k1 : PySem.W.keepIn K (.ref f1) = true)
    (a2 : PySem.W.nsIn K mainGlobals "narrowed" = some (some (.ref f2)))
    (l2 : K.lookup f2 = some ⟨oc2, od2, .func (PySem.W.fnOf "narrowed" "narrowed" (defArgs s_narrowed) (defBody s_narrowed) (defScope s_narrowed) .none kV2 dc2 pm2 an2 cd2 ct2), sl2⟩)
    (c2 : PySem.W.codeIn K cd2 "narrowed" = true)
    (k2 : PySem.W.keepIn K (.ref f2) = true)
    (a3 : PySem.W.nsIn K mainGlobals "_law_whole" = some (some (.ref f3)))
    (l3 : K.lookup f3 = some ⟨oc3, od3, .func (PySem.W.fnOf "_law_whole" "_law_whole" (defArgs s_law_whole) (defBody s_law_whole) (defScope s_law_whole) .none kV3 dc3 pm3 an3 cd3 ct3), sl3⟩)
    (c3 : PySem.W.codeIn K cd3 "_law_whole" = true)
    (k3 : PySem.W.keepIn K (.ref f3) = true)
    (a4 : PySem.W.nsIn K mainGlobals "_law_cell_at" = some (some (.ref f4)))
    (l4 : K.lookup f4 = some ⟨oc4, od4, .func (PySem.W.fnOf "_law_cell_at" "_law_cell_at" (defArgs s_law_cell_at) (defBody s_law_cell_at) (defScope s_law_cell_at) .none kV4 dc4 pm4 an4 cd4 ct4), sl4⟩)
    (c4 : PySem.W.codeIn K cd4 "_law_cell_at" = true)
    (k4 : PySem.W.keepIn K (.ref f4) = true)
    (a5 : PySem.W.nsIn K mainGlobals "_law_drawn" = some (some (.ref f5)))
    (l5 : K.lookup f5 = some ⟨oc5, od5, .func (PySem.W.fnOf "_law_drawn" "_law_drawn" (defArgs s_law_drawn) (defBody s_law_drawn) (defScope s_law_drawn) .none kV5 dc5 pm5 an5 cd5 ct5), sl5⟩)
    (c5 : PySem.W.codeIn K cd5 "_law_drawn" = true)
    (k5 : PySem.W.keepIn K (.ref f5) = true)
    (a6 : PySem.W.nsIn K mainGlobals "_law_mixed" = some (some (.ref f6)))
    (l6 : K.lookup f6 = some ⟨oc6, od6, .func (PySem.W.fnOf "_law_mixed" "_law_mixed" (defArgs s_law_mixed) (defBody s_law_mixed) (defScope s_law_mixed) .none kV6 dc6 pm6 an6 cd6 ct6), sl6⟩)
    (c6 : PySem.W.codeIn K cd6 "_law_mixed" = true)
    (k6 : PySem.W.keepIn K (.ref f6) = true)
    (a7 : PySem.W.nsIn K mainGlobals "_law_lots" = some (some (.ref f7)))
    (l7 : K.lookup f7 = some ⟨oc7, od7, .func (PySem.W.fnOf "_law_lots" "_law_lots" (defArgs s_law_lots) (defBody s_law_lots) (defScope s_law_lots) .none kV7 dc7 pm7 an7 cd7 ct7), sl7⟩)
    (c7 : PySem.W.codeIn K cd7 "_law_lots" = true)
    (k7 : PySem.W.keepIn K (.ref f7) = true)
    (a8 : PySem.W.nsIn K mainGlobals "_law_tuples" = some (some (.ref f8)))
    (l8 : K.lookup f8 = some ⟨oc8, od8, .func (PySem.W.fnOf "_law_tuples" "_law_tuples" (defArgs s_law_tuples) (defBody s_law_tuples) (defScope s_law_tuples) .none kV8 dc8 pm8 an8 cd8 ct8), sl8⟩)
    (c8 : PySem.W.codeIn K cd8 "_law_tuples" = true)
    (k8 : PySem.W.keepIn K (.ref f8) = true)
    (a9 : PySem.W.nsIn K mainGlobals "_law_refused_by_any" = some (some (.ref f9)))
    (l9 : K.lookup f9 = some ⟨oc9, od9, .func (PySem.W.fnOf "_law_refused_by_any" "_law_refused_by_any" (defArgs s_law_refused_by_any) (defBody s_law_refused_by_any) (defScope s_law_refused_by_any) .none kV9 dc9 pm9 an9 cd9 ct9), sl9⟩)
    (c9 : PySem.W.codeIn K cd9 "_law_refused_by_any" = true)
    (k9 : PySem.W.keepIn K (.ref f9) = true)
    (a10 : PySem.W.nsIn K mainGlobals "law" = some (some (.ref f10)))
    (l10 : K.lookup f10 = some ⟨oc10, od10, .func (PySem.W.fnOf "law" "law" (defArgs s_law) (defBody s_law) (defScope s_law) .none kV10 dc10 pm10 an10 cd10 ct10), sl10⟩)
    (c10 : PySem.W.codeIn K cd10 "law" = true)
    (k10 : PySem.W.keepIn K (.ref f10) = true)
    (z_len : PySem.W.nsIn K mainGlobals "len" = some none)
    (z_range : PySem.W.nsIn K mainGlobals "range" = some none)
    (z_sum : PySem.W.nsIn K mainGlobals "sum" = some none)
    (z_list : PySem.W.nsIn K mainGlobals "list" = some none)
    (z_isi : PySem.W.nsIn K mainGlobals "isinstance" = some none)
    (z_int : PySem.W.nsIn K mainGlobals "int" = some none)
    (z_bool : PySem.W.nsIn K mainGlobals "bool" = some none)
    (z_tuple : PySem.W.nsIn K mainGlobals "tuple" = some none)
    (z_all : PySem.W.nsIn K mainGlobals "all" = some none)
    (z_any : PySem.W.nsIn K mainGlobals "any" = some none)
    (z_min : PySem.W.nsIn K mainGlobals "min" = some none)
    (z_max : PySem.W.nsIn K mainGlobals "max" = some none)
    (z_enumerate : PySem.W.nsIn K mainGlobals "enumerate" = some none)
    (z_zip : PySem.W.nsIn K mainGlobals "zip" = some none)
    (z_str : PySem.W.nsIn K mainGlobals "str" = some none)
    (z_dict : PySem.W.nsIn K mainGlobals "dict" = some none)
    (z_divmod : PySem.W.nsIn K mainGlobals "divmod" = some none)
    (z_ve : PySem.W.nsIn K mainGlobals "ValueError" = some none)
    (aS : PySem.W.nsIn K mainGlobals "ShareError" = some (some (.ref CS)))
    (bSh : PySem.W.subIn K (.ref CS) (.type "BaseException") = some true)
    (hSh : PySem.W.hasDictIn K CS = true)
    (tSh : PySem.W.typeIn K (.ref CS) = some (.type "type"))
    (e6 : PySem.W.specialIn K (.builtin "object.__class__") "__get__" = some (some (.builtin "getset_descriptor.__get__")))
    (e7 : PySem.W.takesIn K (.builtin "object.__class__") = some true)
    (aUneven : PySem.W.nsIn K mainGlobals "Uneven" = some (some (.ref CU)))
    (xUneven : PySem.W.excIn K CU [.type "ValueError", .type "Exception", .type "BaseException", .type "object"] "ValueError.__new__" = true)
    (kUneven : PySem.W.keepIn K (.ref CU) = true)
    (bUneven : PySem.W.subIn K (.ref CU) (.type "BaseException") = some true)
    (tUneven : PySem.W.typeIn K (.ref CU) = some (.type "type"))
    (iUneven : PySem.W.isClsIn K CU = true)
    (sUneven : PySem.W.subIn K (.ref CU) (.ref CU) = some true)
    (uUneven : PySem.W.subIn K (.ref CU) (.ref CS) = some true)
    (e1Uneven : PySem.W.findIn K (.ref CU) "__getattribute__" = some (some (.builtin "BaseException.__getattribute__")))
    (e2Uneven : PySem.W.findIn K (.ref CU) "__getattr__" = some none)
    (e4Uneven : PySem.W.hasDictIn K CU = true)
    (e5Uneven : PySem.W.findIn K (.ref CU) "__class__" = some (some (.builtin "object.__class__")))
    (e8Uneven : PySem.W.mroIn K CU (.type "object") = some true)
    (e9Uneven : PySem.W.subIn K (.ref CU) (.type "ValueError") = some true)
    : ∃ fd : FuncData, (∀ (s : Shared) (v : Value), BindsTo s fd ⟨[v], []⟩ [("_law_script", v)]) ∧ ∀ base : Heap, K.In base → base.Ns mainGlobals mg → FnOk P w K mg base CX0 4 fa fd ["_law_script"] (spLaw K) := by
  have e := hfa.symm.trans (PySem.W.mg_of X G a10)
  cases e
  have F0 := fun_mk (st := s_divided) l0 c0 k0
  have d_divided : Dn K mg "divided" s_divided ["number", "by"] f0 _ := ⟨F0, PySem.W.mg_of X G a0, F0.binds (ps := ["number", "by"]) fun _ _ _ _ _ _ us hl => match us, hl with | [_, _], _ => rfl⟩
  have F1 := fun_mk (st := s_widened) l1 c1 k1
  have d_widened : Dn K mg "widened" s_widened ["lots", "number"] f1 _ := ⟨F1, PySem.W.mg_of X G a1, F1.binds (ps := ["lots", "number"]) fun _ _ _ _ _ _ us hl => match us, hl with | [_, _], _ => rfl⟩
  have F2 := fun_mk (st := s_narrowed) l2 c2 k2
  have d_narrowed : Dn K mg "narrowed" s_narrowed ["lots", "number"] f2 _ := ⟨F2, PySem.W.mg_of X G a2, F2.binds (ps := ["lots", "number"]) fun _ _ _ _ _ _ us hl => match us, hl with | [_, _], _ => rfl⟩
  have F3 := fun_mk (st := s_law_whole) l3 c3 k3
  have d_law_whole : Dn K mg "_law_whole" s_law_whole ["_law_found"] f3 _ := ⟨F3, PySem.W.mg_of X G a3, F3.binds (ps := ["_law_found"]) fun _ _ _ _ _ _ us hl => match us, hl with | [_], _ => rfl⟩
  have F4 := fun_mk (st := s_law_cell_at) l4 c4 k4
  have d_law_cell_at : Dn K mg "_law_cell_at" s_law_cell_at ["_law_script", "_law_k"] f4 _ := ⟨F4, PySem.W.mg_of X G a4, F4.binds (ps := ["_law_script", "_law_k"]) fun _ _ _ _ _ _ us hl => match us, hl with | [_, _], _ => rfl⟩
  have F5 := fun_mk (st := s_law_drawn) l5 c5 k5
  have d_law_drawn : Dn K mg "_law_drawn" s_law_drawn ["_law_cell", "_law_sizes"] f5 _ := ⟨F5, PySem.W.mg_of X G a5, F5.binds (ps := ["_law_cell", "_law_sizes"]) fun _ _ _ _ _ _ us hl => match us, hl with | [_, _], _ => rfl⟩
  have F6 := fun_mk (st := s_law_mixed) l6 c6 k6
  have d_law_mixed : Dn K mg "_law_mixed" s_law_mixed ["_law_cell", "_law_place"] f6 _ := ⟨F6, PySem.W.mg_of X G a6, F6.binds (ps := ["_law_cell", "_law_place"]) fun _ _ _ _ _ _ us hl => match us, hl with | [_, _], _ => rfl⟩
  have F7 := fun_mk (st := s_law_lots) l7 c7 k7
  have d_law_lots : Dn K mg "_law_lots" s_law_lots ["_law_script", "_law_many"] f7 _ := ⟨F7, PySem.W.mg_of X G a7, F7.binds (ps := ["_law_script", "_law_many"]) fun _ _ _ _ _ _ us hl => match us, hl with | [_, _], _ => rfl⟩
  have F8 := fun_mk (st := s_law_tuples) l8 c8 k8
  have d_law_tuples : Dn K mg "_law_tuples" s_law_tuples ["_law_found", "_law_due"] f8 _ := ⟨F8, PySem.W.mg_of X G a8, F8.binds (ps := ["_law_found", "_law_due"]) fun _ _ _ _ _ _ us hl => match us, hl with | [_, _], _ => rfl⟩
  have F9 := fun_mk (st := s_law_refused_by_any) l9 c9 k9
  have d_law_refused_by_any : Dn K mg "_law_refused_by_any" s_law_refused_by_any ["_law_lots_here", "_law_number"] f9 _ := ⟨F9, PySem.W.mg_of X G a9, F9.binds (ps := ["_law_lots_here", "_law_number"]) fun _ _ _ _ _ _ us hl => match us, hl with | [_, _], _ => rfl⟩
  have F10 := fun_mk (st := s_law) l10 c10 k10
  have d_law : Dn K mg "law" s_law ["_law_script"] fa _ := ⟨F10, PySem.W.mg_of X G a10, F10.binds (ps := ["_law_script"]) fun _ _ _ _ _ _ us hl => match us, hl with | [_], _ => rfl⟩
  have N : Nn mg := { len := PySem.W.mg_none_of X G z_len, range := PySem.W.mg_none_of X G z_range, sum := PySem.W.mg_none_of X G z_sum, list := PySem.W.mg_none_of X G z_list, isi := PySem.W.mg_none_of X G z_isi, int := PySem.W.mg_none_of X G z_int, bool := PySem.W.mg_none_of X G z_bool, tuple := PySem.W.mg_none_of X G z_tuple, all := PySem.W.mg_none_of X G z_all, any := PySem.W.mg_none_of X G z_any, min := PySem.W.mg_none_of X G z_min, max := PySem.W.mg_none_of X G z_max, enumerate := PySem.W.mg_none_of X G z_enumerate, zip := PySem.W.mg_none_of X G z_zip, str := PySem.W.mg_none_of X G z_str, dict := PySem.W.mg_none_of X G z_dict, divmod := PySem.W.mg_none_of X G z_divmod, ve := PySem.W.mg_none_of X G z_ve }
  have g_ShareError := PySem.W.mg_of X G aS
  have g_Uneven := PySem.W.mg_of X G aUneven
  have e_Uneven : Er K CU CS := { x := xUneven, k := kUneven, b := bUneven, t := tUneven, e := exm_self bUneven iUneven tUneven sUneven, s := PySem.W.exm_ref bSh hSh tSh uUneven, c := ⟨e1Uneven, e2Uneven, bUneven, e4Uneven, e5Uneven, e6, e7, e8Uneven⟩, i := kit_ref_ty (by decide +kernel) e9Uneven }
  refine ⟨PySem.W.fnOf "law" "law" (defArgs s_law) (defBody s_law) (defScope s_law) .none kV10 dc10 pm10 an10 cd10 ct10, fun s v => .of_eq rfl, fun base _ _ => ?_⟩
  have c_widened := fd_widened (P := P) (w := w) (base := base) d_widened N
  have c_divided := fd_divided (P := P) (w := w) (base := base) d_divided N g_Uneven e_Uneven
  have c_narrowed := fd_narrowed (P := P) (w := w) (base := base) d_narrowed c_divided
  have c_law_whole := fd_law_whole (P := P) (w := w) (base := base) d_law_whole N
  have c_law_cell_at := fd_law_cell_at (P := P) (w := w) (base := base) d_law_cell_at N
  have c_law_drawn := fd_law_drawn (P := P) (w := w) (base := base) d_law_drawn
  have c_law_mixed := fd_law_mixed (P := P) (w := w) (base := base) d_law_mixed
  have c_law_lots := fd_law_lots (P := P) (w := w) (base := base) d_law_lots N c_law_cell_at c_law_mixed c_law_drawn
  have c_law_tuples := fd_law_tuples (P := P) (w := w) (base := base) d_law_tuples N c_law_whole
  have c_law_refused_by_any := fd_law_refused_by_any (P := P) (w := w) (base := base) d_law_refused_by_any N g_ShareError e_Uneven c_narrowed
  exact ok_law d_law N g_Uneven e_Uneven c_widened c_narrowed c_law_cell_at c_law_drawn c_law_lots c_law_tuples c_law_refused_by_any
end Lb
open PySem PySem.W PyProof.Rows
set_option maxHeartbeats 0 in
theorem PySem.Challenge.cw_lotbook_k05_wide_and_narrow_holds : PySem.Challenge.rw_lotbook_k05_wide_and_narrow.Holds := by
  w_on; o_law; k_head; (case hw => w_witness2)
  k_fill
  refine L2.walk_ofB (l := PySem.Challenge.rw_lotbook_k05_wide_and_narrow) (n := 63) (k := 4) (x := "_law_script") (CX := fun _ => L2.CX0) (sp := fun w => Lb.spLaw _) rfl (by decide) rfl ⟨rfl, by decide, by decide⟩ (fun w h Y => PySem.W.kIn_of Y) ?F (fun _ _ a ns hl hb _ hS => ⟨a, ns, rfl, hS, hl, fun z hz => Lb.bits_S (hb z hz), fun _ => rfl⟩) (fun _ _ _ _ _ h => h)
  case F =>
    intro w mg fa h KX G hmg
    refine' Lb.all_mk KX G hmg ?a0 ?l0 ?c0 ?k0 ?a1 ?l1 ?c1 ?k1 ?a2 ?l2 ?c2 ?k2 ?a3 ?l3 ?c3 ?k3 ?a4 ?l4 ?c4 ?k4 ?a5 ?l5 ?c5 ?k5 ?a6 ?l6 ?c6 ?k6 ?a7 ?l7 ?c7 ?k7 ?a8 ?l8 ?c8 ?k8 ?a9 ?l9 ?c9 ?k9 ?a10 ?l10 ?c10 ?k10 ?z_len ?z_range ?z_sum ?z_list ?z_isi ?z_int ?z_bool ?z_tuple ?z_all ?z_any ?z_min ?z_max ?z_enumerate ?z_zip ?z_str ?z_dict ?z_divmod ?z_ve ?aS ?bSh ?hSh ?tSh ?e6 ?e7 ?aUneven ?xUneven ?kUneven ?bUneven ?tUneven ?iUneven ?sUneven ?uUneven ?e1Uneven ?e2Uneven ?e4Uneven ?e5Uneven ?e8Uneven ?e9Uneven
    (case a0 => k_is)
    (case l0 => k_is)
    (case c0 => k_is)
    (case k0 => k_is)
    (case a1 => k_is)
    (case l1 => k_is)
    (case c1 => k_is)
    (case k1 => k_is)
    (case a2 => k_is)
    (case l2 => k_is)
    (case c2 => k_is)
    (case k2 => k_is)
    (case a3 => k_is)
    (case l3 => k_is)
    (case c3 => k_is)
    (case k3 => k_is)
    (case a4 => k_is)
    (case l4 => k_is)
    (case c4 => k_is)
    (case k4 => k_is)
    (case a5 => k_is)
    (case l5 => k_is)
    (case c5 => k_is)
    (case k5 => k_is)
    (case a6 => k_is)
    (case l6 => k_is)
    (case c6 => k_is)
    (case k6 => k_is)
    (case a7 => k_is)
    (case l7 => k_is)
    (case c7 => k_is)
    (case k7 => k_is)
    (case a8 => k_is)
    (case l8 => k_is)
    (case c8 => k_is)
    (case k8 => k_is)
    (case a9 => k_is)
    (case l9 => k_is)
    (case c9 => k_is)
    (case k9 => k_is)
    (case a10 => k_is)
    (case l10 => k_is)
    (case c10 => k_is)
    (case k10 => k_is)
    (case z_len => k_is)
    (case z_range => k_is)
    (case z_sum => k_is)
    (case z_list => k_is)
    (case z_isi => k_is)
    (case z_int => k_is)
    (case z_bool => k_is)
    (case z_tuple => k_is)
    (case z_all => k_is)
    (case z_any => k_is)
    (case z_min => k_is)
    (case z_max => k_is)
    (case z_enumerate => k_is)
    (case z_zip => k_is)
    (case z_str => k_is)
    (case z_dict => k_is)
    (case z_divmod => k_is)
    (case z_ve => k_is)
    (case aS => k_is)
    (case bSh => k_is)
    (case hSh => k_is)
    (case tSh => k_is)
    (case e6 => k_is)
    (case e7 => k_is)
    (case aUneven => k_is)
    (case xUneven => k_exc)
    (case kUneven => k_is)
    (case bUneven => k_is)
    (case tUneven => k_is)
    (case iUneven => k_is)
    (case sUneven => first | rfl | k_is)
    (case uUneven => k_is)
    (case e1Uneven => k_is)
    (case e2Uneven => k_is)
    (case e4Uneven => k_is)
    (case e5Uneven => k_is)
    (case e8Uneven => k_is)
    (case e9Uneven => k_is)
