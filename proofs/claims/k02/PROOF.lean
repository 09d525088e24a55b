import PyProof.Rows.All
import Wide.All
import OpenK.AllK
import Wide.FinOn
import PySem.Challenge.RW_lotbook_k02_whole_parts
import HandS.ForExc
import HandS.Wide
import HandS.IsInst
import HandS.ExcIs
import HandS.Codes
set_option Elab.async false
set_option linter.all false
set_option maxRecDepth 100000
set_option maxHeartbeats 4000000
/-! The mathematics of sharing out by weights, in plain Lean. -/
namespace Lb
/-- the bits that numbers of the program stay below -/
def bB : Nat := 8000
/-- what a draw gives: the rests, one by one -/
def drawnL : Int → List Int → List Int
  | _, [] => []
  | c, s :: r => c % s :: drawnL (c / s) r
def dropL : Int → List Int → Int
  | c, [] => c
  | c, s :: r => dropL (c / s) r
theorem dropL_snoc : ∀ (l : List Int) (c s : Int), dropL c (l ++ [s]) = dropL c l / s
  | [], _, _ => rfl
  | x :: r, c, s => dropL_snoc r (c / x) s
theorem drawnL_snoc : ∀ (l : List Int) (c s : Int), drawnL c (l ++ [s]) = drawnL c l ++ [dropL c l % s]
  | [], _, _ => rfl
  | x :: r, c, s => by
    show c % x :: drawnL (c / x) (r ++ [s]) = c % x :: (drawnL (c / x) r ++ [dropL (c / x) r % s])
    rw [drawnL_snoc r (c / x) s]
theorem drawnL_len : ∀ (l : List Int) (c : Int), (drawnL c l).length = l.length
  | [], _ => rfl
  | x :: r, c => by
    show (drawnL (c / x) r).length + 1 = r.length + 1
    rw [drawnL_len r]
/-- the parts: what all ahead get together, taken from what it and all ahead get -/
def dueL (c w : Int) : Int → List Int → List Int
  | _, [] => []
  | a, x :: r => (c * (a + x) / w - c * a / w) :: dueL c w (a + x) r
theorem dueL_len (c w : Int) : ∀ (l : List Int) (a : Int), (dueL c w a l).length = l.length
  | [], _ => rfl
  | x :: r, a => by
    show (dueL c w (a + x) r).length + 1 = r.length + 1
    rw [dueL_len c w r]
theorem dueL_snoc (c w : Int) : ∀ (l : List Int) (a x : Int), dueL c w a (l ++ [x]) = dueL c w a l ++ [c * (a + l.sum + x) / w - c * (a + l.sum) / w]
  | [], a, x => by
    show [c * (a + x) / w - c * a / w] = [c * (a + ([] : List Int).sum + x) / w - c * (a + ([] : List Int).sum) / w]
    simp
  | y :: r, a, x => by
    show (c * (a + y) / w - c * a / w) :: dueL c w (a + y) (r ++ [x]) = (c * (a + y) / w - c * a / w) :: (dueL c w (a + y) r ++ [c * (a + (y :: r).sum + x) / w - c * (a + (y :: r).sum) / w])
    rw [dueL_snoc c w r (a + y) x, List.sum_cons, Int.add_assoc a y r.sum]
theorem take_snoc {α : Type} {l : List α} {i : Nat} {x : α} (h : l[i]? = some x) : l.take (i + 1) = l.take i ++ [x] := by
  rw [List.take_add_one, h]
  rfl
theorem sum_snoc (l : List Int) (x : Int) : (l ++ [x]).sum = l.sum + x := by
  rw [List.sum_append, List.sum_cons, List.sum_nil, Int.add_zero]
theorem sum_nonneg : ∀ {l : List Int}, (∀ x ∈ l, 0 ≤ x) → 0 ≤ l.sum
  | [], _ => Int.le_refl 0
  | x :: r, h => by
    have h1 := h x List.mem_cons_self
    have h2 := sum_nonneg (l := r) fun y hy => h y (List.mem_cons_of_mem _ hy)
    rw [List.sum_cons]
    omega
theorem sum_take_le {l : List Int} (h : ∀ x ∈ l, 0 ≤ x) (i : Nat) : 0 ≤ (l.take i).sum ∧ (l.take i).sum ≤ l.sum := by
  have h1 := sum_nonneg (l := l.take i) fun y hy => h y (List.mem_of_mem_take hy)
  have h2 := sum_nonneg (l := l.drop i) fun y hy => h y (List.mem_of_mem_drop hy)
  have e : l.sum = (l.take i).sum + (l.drop i).sum := by
    rw [← List.sum_append, List.take_append_drop]
  omega
theorem sum_le_of : ∀ {l : List Int} {b : Int}, (∀ x ∈ l, x ≤ b) → l.sum ≤ l.length * b
  | [], b, _ => by simp
  | x :: r, b, h => by
    have h1 := h x List.mem_cons_self
    have h2 := sum_le_of (l := r) (b := b) fun y hy => h y (List.mem_cons_of_mem _ hy)
    rw [List.sum_cons, List.length_cons]
    have e : ((r.length + 1 : Nat) : Int) * b = (r.length : Int) * b + b := by
      rw [Int.natCast_add, Int.add_mul]
      simp
    omega
/-- a weight, from its cell -/
def wgt (m c : Int) : Int := if c % 3 = 0 then 0 else if c % 3 = 1 then c / 3 % 10 else if c / 3 % 2 = 0 then c / 6 % 10 ^ 12 else c / 6 % m
theorem wgt_lt {m c : Int} (h0 : 10 ^ 12 ≤ m) : 0 ≤ wgt m c ∧ wgt m c < m := by
  have hm : (10 : Int) ^ 12 = 1000000000000 := by decide
  rw [hm] at h0
  unfold wgt
  rw [hm]
  split
  · omega
  · split
    · omega
    · split
      · omega
      · exact ⟨Int.emod_nonneg _ (by omega), Int.emod_lt_of_pos _ (by omega)⟩
/-- the cell at k of the script, nought beyond -/
def cellAt (ns : List Int) (k : Nat) : Int := ns.getD k 0
theorem cellAt_in {ns : List Int} {k : Nat} (h : k < ns.length) : ns[k]? = some (cellAt ns k) := by
  unfold cellAt
  rw [List.getD_eq_getElem?_getD, List.getElem?_eq_getElem h]
  rfl
theorem cellAt_out {ns : List Int} {k : Nat} (h : ¬ k < ns.length) : cellAt ns k = 0 := by
  unfold cellAt
  rw [List.getD_eq_getElem?_getD, List.getElem?_eq_none (by omega)]
  rfl
/-- the weights of a script -/
def wgtsOf (m : Int) (ns : List Int) (n : Nat) : List Int := (List.range n).map fun k => wgt m (cellAt ns (2 + k % 8) + 31 * ((k / 8 : Nat) : Int))
theorem wgtsOf_snoc (m : Int) (ns : List Int) (n : Nat) : wgtsOf m ns (n + 1) = wgtsOf m ns n ++ [wgt m (cellAt ns (2 + n % 8) + 31 * ((n / 8 : Nat) : Int))] := by
  unfold wgtsOf
  rw [List.range_succ, List.map_append]
  rfl
theorem wgtsOf_len (m : Int) (ns : List Int) (n : Nat) : (wgtsOf m ns n).length = n := by
  unfold wgtsOf
  rw [List.length_map, List.length_range]
theorem wgtsOf_lt {m : Int} (h0 : 10 ^ 12 ≤ m) (ns : List Int) (n : Nat) : ∀ x ∈ wgtsOf m ns n, 0 ≤ x ∧ x < m := by
  intro x hx
  unfold wgtsOf at hx
  obtain ⟨k, _, rfl⟩ := List.mem_map.mp hx
  exact wgt_lt h0
end Lb

namespace Lb
theorem dueL_get (c w : Int) : ∀ (l : List Int) (a : Int) (i : Nat) (z : Int), l[i]? = some z → (dueL c w a l)[i]? = some (c * (a + (l.take i).sum + z) / w - c * (a + (l.take i).sum) / w)
  | [], _, _, _, h => by simp at h
  | x :: r, a, 0, z, h => by
    have e : x = z := Option.some.inj h
    subst e
    show some (c * (a + x) / w - c * a / w) = some (c * (a + ([] : List Int).sum + x) / w - c * (a + ([] : List Int).sum) / w)
    rw [List.sum_nil, Int.add_zero]
  | x :: r, a, i + 1, z, h => by
    have ih := dueL_get c w r (a + x) i z h
    show (dueL c w (a + x) r)[i]? = _
    rw [ih]
    show _ = some (c * (a + (x :: r.take i).sum + z) / w - c * (a + (x :: r.take i).sum) / w)
    rw [List.sum_cons, Int.add_assoc a x]
theorem share_near {c W A w : Int} (hW : 0 < W) : -W < (c * (A + w) / W - c * A / W) * W - c * w ∧ (c * (A + w) / W - c * A / W) * W - c * w < W := by
  have h1 := Int.ediv_mul_le (c * (A + w)) (show W ≠ 0 by omega)
  have h2 := Int.lt_ediv_add_one_mul_self (c * (A + w)) hW
  have h3 := Int.ediv_mul_le (c * A) (show W ≠ 0 by omega)
  have h4 := Int.lt_ediv_add_one_mul_self (c * A) hW
  rw [Int.add_mul, Int.one_mul] at h2 h4
  rw [Int.sub_mul]
  have e : c * (A + w) = c * A + c * w := Int.mul_add c A w
  generalize c * (A + w) / W * W = p at *
  generalize c * A / W * W = q at *
  rw [e] at h1 h2
  generalize c * A = x at *
  generalize c * w = y at *
  omega
theorem share_down {c W A : Int} (hW : 0 < W) : -W < c * A / W * W - c * A ∧ c * A / W * W - c * A ≤ 0 := by
  have h3 := Int.ediv_mul_le (c * A) (show W ≠ 0 by omega)
  have h4 := Int.lt_ediv_add_one_mul_self (c * A) hW
  rw [Int.add_mul, Int.one_mul] at h4
  omega
theorem share_mono {c W A B : Int} (hc : 0 ≤ c) (hW : 0 < W) (h : A ≤ B) : c * A / W ≤ c * B / W :=
  Int.ediv_le_ediv hW (Int.mul_le_mul_of_nonneg_left h hc)
theorem share_all {c W : Int} (hW : 0 < W) : c * W / W = c := Int.mul_ediv_cancel c (by omega)
theorem share_none {c W : Int} : c * 0 / W = 0 := by rw [Int.mul_zero, Int.zero_ediv]
theorem share_le {c W A : Int} (hc : 0 ≤ c) (hW : 0 < W) (h0 : 0 ≤ A) (h : A ≤ W) : 0 ≤ c * A / W ∧ c * A / W ≤ c := by
  have h1 := share_mono (A := 0) (B := A) hc hW h0
  have h2 := share_mono (A := A) (B := W) hc hW h
  rw [share_none] at h1
  rw [share_all hW] at h2
  exact ⟨h1, h2⟩
theorem set_zero_len (l : List Int) (y : Int) : (l.set 0 y).length = l.length := List.length_set
theorem sum_first : ∀ {l : List Int} {z : Int}, l[0]? = some z → (∀ x ∈ l, 0 ≤ x) → z ≤ l.sum
  | [], _, h, _ => by simp at h
  | x :: r, z, h, h0 => by
    have e : x = z := Option.some.inj h
    have h2 := sum_nonneg (l := r) fun y hy => h0 y (List.mem_cons_of_mem _ hy)
    rw [List.sum_cons]
    omega
end Lb

namespace Lb
open PySem PySem.Spec PyProof.Rows L2
/-! ### words for the whole -/
section
variable {P : Program} {w : World} {K : PySem.W.Frag} {mg : Str → Option Value} {base : Heap}
/-- a def of the module as the top leaves it -/
structure Dn (K : PySem.W.Frag) (mg : Str → Option Value) (x : Str) (st : Stmt) (ps : List Str) (f : Addr) (fd : FuncData) : Prop where
  F : Fun K x x st f fd
  g : mg x = some (.ref f)
  b : Binds K fd ps []
/-- a def that may be called by its name -/
structure Fd (P : Program) (w : World) (K : PySem.W.Frag) (mg : Str → Option Value) (base : Heap) (CX : CXT) (k : Nat) (x : Str) (sp : Sp) : Prop where
  ex : ∃ (f : Addr) (fd : FuncData) (ps : List Str), FnOk P w K mg base CX k f fd ps sp ∧ mg x = some (.ref f) ∧ PySem.W.keepIn K (.ref f) = true ∧ Binds K fd ps []
theorem Dn.fd {x : Str} {st : Stmt} {ps : List Str} {f : Addr} {fd : FuncData} {CX : CXT} {k : Nat} {sp : Sp} (D : Dn K mg x st ps f fd) (F : FnOk P w K mg base CX k f fd ps sp) : Fd P w K mg base CX k x sp :=
  ⟨f, fd, ps, F, D.g, D.F.kp, D.b⟩
end
section
variable {X : Cx} {k j : Nat} {x : Str} {sp : Sp} {p pos : Pos} {e : Expr} {es : List Expr} {t : TA}
theorem pe_cl (c : Fd X.prog X.w X.K X.mg X.base CX0 k x sp) (hr : Room j X.A) (ha : PA X (e :: es) t) (hk : k ≤ j := by decide) (hg : Gl X x := by rfl) (hdb : (x == ("__debug__" : Str)) = false := by decide)
    (he : starEach (e :: es) X.env = (false, eval e X.env) :: starEach es X.env := by rfl) (hpl : (backTo pos (starEach es X.env)).any (·.1) = false := by rfl) :
    PE X (.Call (.Name x p) (e :: es) [] pos) (tCall sp [] E0 t) := by
  obtain ⟨f, fd, ps, F, hm, kp, b⟩ := c.ex
  exact pe_call F (hr.mono hk) hg hm kp b .nil pass0 ha hdb he hpl
theorem pe_clS {E : L2.St → XK} (c : Fd X.prog X.w X.K X.mg X.base (L2.CX X.prog X.w) k x sp) (hr : Room j X.A) (hx : ∀ σ, PassesAt (L2.CX X.prog X.w) X σ (E σ)) (ha : PA X (e :: es) t) (hk : k ≤ j := by decide) (hg : Gl X x := by rfl) (hdb : (x == ("__debug__" : Str)) = false := by decide)
    (he : starEach (e :: es) X.env = (false, eval e X.env) :: starEach es X.env := by rfl) (hpl : (backTo pos (starEach es X.env)).any (·.1) = false := by rfl) :
    PE X (.Call (.Name x p) (e :: es) [] pos) (tCallS sp E t) := by
  obtain ⟨f, fd, ps, F, hm, kp, b⟩ := c.ex
  exact pe_callS F (hr.mono hk) hg hm kp b hx ha hdb he hpl
/-- a statement that stands where something is known -/
def tWhen (p : Prop) (t : TS) : TS := fun D σ H => p ∧ t D σ H
theorem pss_when {p : Prop} {l : List Stmt} {t : TS} (h : p → PSs X l t) : PSs X l (tWhen p t) := ⟨fun pins s σ H D I q => (h q.1).run pins s σ H D I q.2⟩
end
/-! ### heaps -/
theorem same_upd {H : Hp} {p : Addr} {o : HO} (h : H p = none) : Same H (upd H p o) := fun b x e => by
  rw [upd_ne (ne_of_none e h)]
  exact e
theorem same_mut {H H' : Hp} {p : Addr} {o : HO} (e : Same H H') (h : H p = none) : Same H (upd H' p o) := fun b x q => by
  rw [upd_ne (ne_of_none q h)]
  exact e b x q
theorem if_true_of {c : Bool} {A B : Prop} (hc : c = true) (h : A) : if c = true then A else B := by
  rw [if_pos hc]
  exact h
theorem if_false_of {c : Bool} {A B : Prop} (hc : c = false) (h : B) : if c = true then A else B := by
  rw [hc, if_neg Bool.false_ne_true]
  exact h
theorem item_int {ns : List Int} {i : Nat} {y : V} (h : (ns.map V.int)[i]? = some y) : ∃ z, ns[i]? = some z ∧ y = V.int z := by
  rw [List.getElem?_map] at h
  cases e : ns[i]? with
  | none =>
    rw [e] at h
    cases h
  | some z =>
    rw [e] at h
    exact ⟨z, rfl, (Option.some.inj h).symm⟩
theorem at_int {ns : List Int} {i : Nat} {z : Int} (h : ns[i]? = some z) : atI (ns.map V.int) (i : Int) = some (V.int z) := atI_nat (by rw [List.getElem?_map, h]; rfl)
theorem dp_ints {K : PySem.W.Frag} {H : Hp} : ∀ ns : List Int, DpAll K H (ns.map V.int) (ns.map PyData.int)
  | [] => .nil
  | n :: r => .cons (.int n) (dp_ints r)
theorem eqv_ints : ∀ ns ms : List Int, PyData.eqvAll (ns.map PyData.int) (ms.map PyData.int) = decide (ns = ms)
  | [], [] => rfl
  | [], m :: s => rfl
  | n :: r, [] => rfl
  | n :: r, m :: s => by
    show (PyData.eqv (.int n) (.int m) && PyData.eqvAll (r.map PyData.int) (s.map PyData.int)) = _
    rw [eqv_ints r s]
    show ((n == m) && decide (r = s)) = _
    by_cases h1 : n = m
    · by_cases h2 : r = s
      · simp [h1, h2]
      · simp [h1, h2]
    · simp [h1]
theorem sh_lay : ∀ ns : List Int, PyData.canLayAll0 (ns.map PyData.int) = true
  | [] => rfl
  | n :: r => by
    show (PyData.canLay0 (.int n) && PyData.canLayAll0 (r.map PyData.int)) = true
    rw [sh_lay r]
    rfl
theorem sh_depth : ∀ ns : List Int, PyData.depthAll (ns.map PyData.int) = 0
  | [] => rfl
  | n :: r => by
    show max (PyData.depth (.int n)) (PyData.depthAll (r.map PyData.int)) = 0
    rw [sh_depth r]
    rfl
theorem sh_ints (ns : List Int) : SeqAt.shaped (.list (ns.map PyData.int)) = true := by
  unfold SeqAt.shaped
  show (PyData.canLayAll0 (ns.map PyData.int) && decide (PyData.depthAll (ns.map PyData.int) + 1 ≤ 64)) = true
  rw [sh_lay, sh_depth]
  rfl
/-- two lists of whole numbers, compared -/
theorem ne_ints {K : PySem.W.Frag} {H : Hp} {a b : Addr} {ns ms : List Int} {Q : VK} (ha : SqL K H a (ns.map V.int)) (hb : SqL K H b (ms.map V.int)) (q : Q (.bl (!decide (ns = ms))) H) : rNeD K (.ref a) (.ref b) H Q := by
  refine ⟨.list (ns.map PyData.int), .list (ms.map PyData.int), .lst ha (dp_ints ns), .lst hb (dp_ints ms), sh_ints _, sh_ints _, ?_⟩
  have e : PyData.eqv (.list (ns.map PyData.int)) (.list (ms.map PyData.int)) = decide (ns = ms) := eqv_ints ns ms
  rw [e]
  exact q
end Lb
namespace Lb
open PySem PySem.Spec PyProof.Rows L2
theorem kit_ref_ty {K : PySem.W.Frag} {C : Addr} {T : String} {b : Bool} (hm : PySem.W.kitMeta T = true) (h : PySem.W.subIn K (.ref C) (.type T) = some b) : PySem.W.kitOne K (.ref C) (.type T) = some b := by
  unfold PySem.W.kitOne
  have e : ((Value.ref C) == (Value.type T)) = false := by
    cases q : ((Value.ref C) == (Value.type T)) with
    | false => rfl
    | true => exact nomatch (beq_iff_eq.mp q)
  rw [e, if_neg Bool.false_ne_true]
  show (if PySem.W.kitMeta T = true then PySem.W.subIn K (.ref C) (.type T) else none) = some b
  rw [if_pos hm]
  exact h
end Lb
namespace Lb
open PySem PySem.Spec PyProof.Rows L2
section
variable {X : Cx} {k j : Nat} {x : Str} {sp : Sp} {p pos : Pos} {e : Expr} {es : List Expr} {t : TA}
/-- a call of a def that may raise, where it does not -/
theorem pe_clL (c : Fd X.prog X.w X.K X.mg X.base (L2.CX X.prog X.w) k x sp) (hr : Room j X.A) (ha : PA X (e :: es) t) (hk : k ≤ j := by decide) (hg : Gl X x := by rfl) (hdb : (x == ("__debug__" : Str)) = false := by decide)
    (he : starEach (e :: es) X.env = (false, eval e X.env) :: starEach es X.env := by rfl) (hpl : (backTo pos (starEach es X.env)).any (·.1) = false := by rfl) :
    PE X (.Call (.Name x p) (e :: es) [] pos) (tCall sp [] E0 t) := by
  obtain ⟨f, fd, ps, F, hm, kp, b⟩ := c.ex
  exact pe_call F (hr.mono hk) hg hm kp b .nil passL ha hdb he hpl
end
end Lb

namespace Lb
open PySem PySem.Spec PyProof.Rows L2
def top (i : Nat) : Stmt := PySem.Challenge.pw_lotbook_k02_whole_parts.main.body.getD i (.Pass ⟨0, 0, 0, 0⟩)
abbrev s_parts : Stmt := top 4
theorem sc_parts : FnScope ["coins", "weights", "whole", "shared", "weighed", "given", "weight", "reached"] ["coins", "weights"] (defScope s_parts) := ⟨rfl, rfl, rfl, by decide +kernel, rfl, by decide +kernel, by decide +kernel⟩
abbrev s_law_whole : Stmt := top 6
theorem sc_law_whole : FnScope ["_law_found"] ["_law_found"] (defScope s_law_whole) := ⟨rfl, rfl, rfl, by decide +kernel, rfl, by decide +kernel, by decide +kernel⟩
abbrev s_law_cell_at : Stmt := top 7
theorem sc_law_cell_at : FnScope ["_law_script", "_law_k"] ["_law_script", "_law_k"] (defScope s_law_cell_at) := ⟨rfl, rfl, rfl, by decide +kernel, rfl, by decide +kernel, by decide +kernel⟩
abbrev s_law_drawn : Stmt := top 8
theorem sc_law_drawn : FnScope ["_law_cell", "_law_sizes", "_law_found", "_law_size"] ["_law_cell", "_law_sizes"] (defScope s_law_drawn) := ⟨rfl, rfl, rfl, by decide +kernel, rfl, by decide +kernel, by decide +kernel⟩
abbrev s_law_weight : Stmt := top 9
theorem sc_law_weight : FnScope ["_law_cell", "_law_way"] ["_law_cell"] (defScope s_law_weight) := ⟨rfl, rfl, rfl, by decide +kernel, rfl, by decide +kernel, by decide +kernel⟩
abbrev s_law : Stmt := top 10
theorem sc_law : FnScope ["_law_script", "_law_first", "_law_many", "_law_weights", "_law_k", "_law_cell", "_law_coins", "_law_whole_here", "_law_found", "_law_got", "_law_ahead", "_law_one"] ["_law_script"] (defScope s_law) := ⟨rfl, rfl, rfl, by decide +kernel, rfl, by decide +kernel, by decide +kernel⟩
/-! ### what the top has written -/
structure Nn (mg : Str → Option Value) : Prop where
  len : mg "len" = none
  range : mg "range" = none
  sum : mg "sum" = none
  list : mg "list" = none
  isi : mg "isinstance" = none
  int : mg "int" = none
  bool : mg "bool" = none
  ve : mg "ValueError" = none
/-- the errors' classes: NoDays at CN, ShareError at CS -/
structure Er (K : PySem.W.Frag) (mg : Str → Option Value) (CN CS : Addr) : Prop where
  gN : mg "NoDays" = some (.ref CN)
  xN : PySem.W.excIn K CN [.type "ValueError", .type "Exception", .type "BaseException", .type "object"] "ValueError.__new__" = true
  kN : PySem.W.keepIn K (.ref CN) = true
  bN : PySem.W.subIn K (.ref CN) (.type "BaseException") = some true
  tN : PySem.W.typeIn K (.ref CN) = some (.type "type")
  eN : PySem.W.exmOne K (.ref CN) (.ref CN) = some true
  gS : mg "ShareError" = some (.ref CS)
  eS : PySem.W.exmOne K (.ref CN) (.ref CS) = some true
  cN : ExcC K CN
  iN : PySem.W.kitOne K (.ref CN) (.type "ValueError") = some true
section
variable {P : Program} {w : World} {K : PySem.W.Frag} {mg : Str → Option Value} {base : Heap} {CN CS : Addr}
/-! ### parts -/
def spParts (K : PySem.W.Frag) (CN : Addr) : Sp := fun vs H Q E => ∃ (c : Int) (a : Addr) (ws : List Int), vs = [.int c, .ref a] ∧ SqL K H a (ws.map V.int) ∧ (∀ x ∈ ws, 0 ≤ x) ∧ ws.length ≤ 1000 ∧ c.natAbs < 2 ^ bB ∧ ws.sum.natAbs < 2 ^ bB ∧
  (ws.sum = 0 → E (.ref CN) none H) ∧ (0 < ws.sum → ∀ H' p, Same H H' → H p = none → H' p = some (.lst ((dueL c ws.sum 0 ws).map V.int)) → Q (.ref p) H')
theorem fd_parts {f : Addr} {fd : FuncData} (D : Dn K mg "parts" s_parts ["coins", "weights"] f fd) (N : Nn mg) (T : Er K mg CN CS) : Fd P w K mg base (L2.CX P w) 1 "parts" (spParts K CN) := by
  refine D.fd (D.F.okX sc_parts (fun vs H Q E h => ?_) (fun cdv A outer s H vs Q E hr h => ?_))
  · obtain ⟨c, a, ws, rfl, _⟩ := h
    rfl
  · obtain ⟨c, a, ws, rfl, hS, h0, hl, hc, hw, kE, kQ⟩ := h
    have nd := sc_parts.nd
    refine ⟨_, pss_cons (ps_set (i := 2) nd rfl (.inl rfl) (pe_callB (cr_sum rfl) (by rfl) N.sum boot_sum (pa_cons (pv 1) pa_nil)))
      (pss_cons (ps_if (pt_cmpR op_eq (pv 2) pe_int (nomark _)) (pss_one (ps_raise rfl (takes_of rfl rfl rfl rfl) (pmk_own PySem.F.excBase_ValueError T.xN T.gN T.kN (raises_own T.bN T.tN) rfl))) pss_nil)
      (pss_cons (ps_set (i := 3) nd rfl (.inl rfl) (pe_lst pa_nil))
      (pss_cons (ps_set (i := 4) nd rfl (.inl rfl) pe_int)
      (pss_cons (ps_set (i := 5) nd rfl (.inl rfl) pe_int)
      (pss_cons (ps_for (passes_of rfl) rfl (pi_list (pv 1)) (pg_name (i := 6) nd rfl (.inl rfl))
        (pss_cons (ps_aug (i := 4) nd rfl (.inl rfl) (pv 6) ip_add)
        (pss_cons (ps_set (i := 7) nd rfl (.inl rfl) (pe_op op_fdivW (pe_op op_mulW (pv 0) (pv 4)) (pv 2)))
        (pss_cons (ps_expr (pe_bm PySem.F.plainAttrs_list PySem.F.slot_list_append PySem.F.type_list_append mt_append (pv 3) (pa_cons (pe_op op_sub (pv 7) (pv 5)) pa_nil)))
        (pss_one (ps_set (i := 5) nd rfl (.inl rfl) (pv 7)))))))
      (pss_one (ps_ret (pv 3)))))))), ?_⟩
    refine ⟨_, rfl, a, ws, rfl, hS, ?_⟩
    refine ⟨_, rfl, rfl, _, rfl, ?_⟩
    by_cases hz : ws.sum = 0
    · exact if_true_of (decide_eq_true (by rw [hz])) (kE hz)
    · refine if_false_of (decide_eq_false (fun z => hz (V.int.inj z))) ?_
      have hp : 0 < ws.sum := by
        have := sum_nonneg h0
        omega
      refine ⟨Nat.zero_le _, fun o no => ?_⟩
      have hS1 : SqL K (upd H o (.lst [])) a (ws.map V.int) := (same_upd no).seq hS
      refine ⟨_, rfl, a, rfl, ⟨_, hS1⟩, for_list (K := K) (a := a) (xs := ws.map V.int) (fun i σ H' => ∃ v6 v7, σ = [some (.int c), some (.ref a), some (.int ws.sum), some (.ref o), some (.int (ws.take i).sum), some (.int (c * (ws.take i).sum / ws.sum)), v6, v7] ∧ Same H H' ∧ H' o = some (.lst ((dueL c ws.sum 0 (ws.take i)).map V.int)))
        ⟨none, none, ?_, same_upd no, upd_same⟩ (fun i σ H' _ ⟨_, _, _, sm, _⟩ => sm.seq hS) ?_ ?_⟩
      · rw [List.take_zero, List.sum_nil, Int.mul_zero, Int.zero_ediv]
        rfl
      · rintro i y σ H' hi ⟨v6, v7, rfl, sm, ho⟩
        obtain ⟨z, hz', rfl⟩ := item_int hi
        have hil : i < ws.length := (List.getElem?_eq_some_iff.mp hz').1
        have e1 : (ws.take (i + 1)).sum = (ws.take i).sum + z := by rw [take_snoc hz', sum_snoc]
        have b1 := sum_take_le h0 (i + 1)
        have b2 : ((ws.take i).sum + z).natAbs < 2 ^ bB := by
          rw [← e1]
          exact wide_le b1.1 b1.2 hw
        have e2 : dueL c ws.sum 0 (ws.take (i + 1)) = dueL c ws.sum 0 (ws.take i) ++ [c * ((ws.take i).sum + z) / ws.sum - c * (ws.take i).sum / ws.sum] := by
          rw [take_snoc hz', dueL_snoc, Int.zero_add]
        refine ⟨_, rfl, _, rfl, _, _, rfl, rfl, ?_⟩
        refine ⟨_, rfl, _, rfl, _, _, rfl, rfl, wide_mul hc b2 (by decide) (by decide) (by decide), _, rfl, _, _, rfl, rfl, wide_div hp hw (by decide) (by decide), ?_⟩
        refine ⟨_, rfl, .inl ⟨rfl, _, SqL.of ho⟩, _, rfl, _, rfl, _, _, rfl, rfl, o, _, _, rfl, rfl, ho, ?_, ?_⟩
        · rw [List.length_map, dueL_len, List.length_take]
          exact Nat.lt_of_le_of_lt (Nat.min_le_right _ _) (small1000 (by omega))
        · refine ⟨_, rfl, some (.int z), some (.int (c * ((ws.take i).sum + z) / ws.sum)), ?_, same_mut sm no, ?_⟩
          · rw [e1]
            rfl
          · rw [upd_same, e2, List.map_append]
            rfl
      · rintro σ H' ⟨v6, v7, rfl, sm, ho⟩
        rw [List.length_map, List.take_length] at ho
        exact ⟨_, rfl, kQ hp H' o sm no ho⟩
/-! ### the law's own helpers -/
def spWhole : Sp := fun vs H Q _ => ∃ i : Int, vs = [.int i] ∧ Q (.bl true) H
theorem fd_law_whole {f : Addr} {fd : FuncData} (D : Dn K mg "_law_whole" s_law_whole ["_law_found"] f fd) (N : Nn mg) : Fd P w K mg base CX0 1 "_law_whole" spWhole := by
  refine D.fd (D.F.ok sc_law_whole (fun vs H Q E h => ?_) (fun cdv A outer s H vs Q E hr h => ?_))
  · obtain ⟨i, rfl, _⟩ := h
    rfl
  · obtain ⟨i, rfl, q⟩ := h
    refine ⟨_, pss_one (ps_ret (pe_and (pe_callB call_isi (by rfl) N.isi boot_isinstance (pa_cons (pv 0) (pa_cons (pe_bltn (v := .ty "int") (by rfl) N.int boot_int rfl) pa_nil)))
      (pe_one (pe_not (pe_callB call_isi (by rfl) N.isi boot_isinstance (pa_cons (pv 0) (pa_cons (pe_bltn (v := .ty "bool") (by rfl) N.bool boot_bool rfl) pa_nil))))))), ?_⟩
    refine ⟨_, rfl, _, _, _, _, true, rfl, .ty "int", .base (.int i), kit_ty (by decide +kernel), true, rfl, if_true_of rfl ?_⟩
    exact ⟨_, rfl, _, _, _, _, false, rfl, .ty "bool", .base (.int i), kit_ty (by decide +kernel), false, rfl, q⟩
def spCell (K : PySem.W.Frag) : Sp := fun vs H Q _ => ∃ (a : Addr) (ns : List Int) (j : Nat), vs = [.ref a, .int (j : Int)] ∧ SqL K H a (ns.map V.int) ∧ Q (.int (cellAt ns j)) H
theorem fd_law_cell_at {f : Addr} {fd : FuncData} (D : Dn K mg "_law_cell_at" s_law_cell_at ["_law_script", "_law_k"] f fd) (N : Nn mg) : Fd P w K mg base CX0 1 "_law_cell_at" (spCell K) := by
  refine D.fd (D.F.ok sc_law_cell_at (fun vs H Q E h => ?_) (fun cdv A outer s H vs Q E hr h => ?_))
  · obtain ⟨a, ns, j, rfl, _⟩ := h
    rfl
  · obtain ⟨a, ns, j, rfl, hS, q⟩ := h
    refine ⟨_, pss_cons (ps_if (pt_cmpR op_lt (pv 1) (pe_callB call_len_seq (by rfl) N.len boot_len (pa_cons (pv 0) pa_nil)) (nomark _)) (pss_one (ps_ret (pe_ix ix_list (pv 0) (pv 1) (fun _ _ => rfl)))) pss_nil)
      (pss_one (ps_ret pe_int)), ?_⟩
    refine ⟨_, rfl, _, rfl, a, _, rfl, .inl hS, _, _, rfl, rfl, _, rfl, ?_⟩
    by_cases hj : j < ns.length
    · refine if_true_of (decide_eq_true (by rw [List.length_map]; omega)) ?_
      exact ⟨_, rfl, _, rfl, a, _, _, _, rfl, rfl, hS, at_int (cellAt_in hj), q⟩
    · refine if_false_of (decide_eq_false (by rw [List.length_map]; omega)) ?_
      rw [cellAt_out hj] at q
      exact q
def spDrawn (K : PySem.W.Frag) : Sp := fun vs H Q _ => ∃ (c : Int) (a : Addr) (zs : List Int), vs = [.int c, .ref a] ∧ SqL K H a (zs.map V.int) ∧ zs.length ≤ 1000 ∧ (∀ z ∈ zs, 0 < z ∧ z < 1073741824) ∧
  ∀ H' p, Same H H' → H p = none → H' p = some (.lst ((drawnL c zs).map V.int)) → Q (.ref p) H'
theorem fd_law_drawn {f : Addr} {fd : FuncData} (D : Dn K mg "_law_drawn" s_law_drawn ["_law_cell", "_law_sizes"] f fd) : Fd P w K mg base CX0 1 "_law_drawn" (spDrawn K) := by
  refine D.fd (D.F.ok sc_law_drawn (fun vs H Q E h => ?_) (fun cdv A outer s H vs Q E hr h => ?_))
  · obtain ⟨c, a, zs, rfl, _⟩ := h
    rfl
  · obtain ⟨c, a, zs, rfl, hS, hl, hz, q⟩ := h
    have nd := sc_law_drawn.nd
    refine ⟨_, pss_cons (ps_set (i := 2) nd rfl (.inl rfl) (pe_lst pa_nil))
      (pss_cons (ps_for PassesOwn.never rfl (pi_list (pv 1)) (pg_name (i := 3) nd rfl (.inl rfl))
        (pss_cons (ps_expr (pe_bm PySem.F.plainAttrs_list PySem.F.slot_list_append PySem.F.type_list_append mt_append (pv 2) (pa_cons (pe_op op_mod (pv 0) (pv 3)) pa_nil)))
        (pss_one (ps_set (i := 0) nd rfl (.inl rfl) (pe_op op_fdiv (pv 0) (pv 3))))))
      (pss_one (ps_ret (pv 2)))), ?_⟩
    refine ⟨Nat.zero_le _, fun o no => ?_⟩
    have hS1 : SqL K (upd H o (.lst [])) a (zs.map V.int) := (same_upd no).seq hS
    refine ⟨_, rfl, a, rfl, ⟨_, hS1⟩, for_list (K := K) (a := a) (xs := zs.map V.int) (fun i σ H' => ∃ v3, σ = [some (.int (dropL c (zs.take i))), some (.ref a), some (.ref o), v3] ∧ Same H H' ∧ H' o = some (.lst ((drawnL c (zs.take i)).map V.int)))
      ⟨none, rfl, same_upd no, upd_same⟩ (fun i σ H' _ ⟨_, _, sm, _⟩ => sm.seq hS) ?_ ?_⟩
    · rintro i y σ H' hi ⟨v3, rfl, sm, ho⟩
      obtain ⟨z, hz', rfl⟩ := item_int hi
      have hil : i < zs.length := (List.getElem?_eq_some_iff.mp hz').1
      have hzz := hz z (List.mem_of_getElem? hz')
      refine ⟨_, rfl, .inl ⟨rfl, _, SqL.of ho⟩, _, rfl, _, rfl, _, _, rfl, rfl, hzz.1, o, _, _, rfl, rfl, ho, ?_, ?_⟩
      · rw [List.length_map, drawnL_len, List.length_take]
        exact Nat.lt_of_le_of_lt (Nat.min_le_right _ _) (small1000 (by omega))
      · refine ⟨_, rfl, _, rfl, _, _, rfl, rfl, hzz, some (.int z), ?_, same_mut sm no, ?_⟩
        · rw [take_snoc hz', dropL_snoc]
          rfl
        · rw [upd_same, take_snoc hz', drawnL_snoc, List.map_append]
          rfl
    · rintro σ H' ⟨v3, rfl, sm, ho⟩
      rw [List.length_map, List.take_length] at ho
      exact ⟨_, rfl, q H' o sm no ho⟩
def mW : Int := 10 ^ 30 - 1
theorem mW_ge : (10 : Int) ^ 12 ≤ mW := by decide
theorem mW_lt : mW < 2 ^ 100 := by decide
def spWeight : Sp := fun vs H Q _ => ∃ c : Int, vs = [.int c] ∧ ∀ H', Same H H' → Q (.int (wgt mW c)) H'
theorem fd_law_weight {f : Addr} {fd : FuncData} (D : Dn K mg "_law_weight" s_law_weight ["_law_cell"] f fd) : Fd P w K mg base CX0 1 "_law_weight" spWeight := by
  refine D.fd (D.F.ok sc_law_weight (fun vs H Q E h => ?_) (fun cdv A outer s H vs Q E hr h => ?_))
  · obtain ⟨c, rfl, _⟩ := h
    rfl
  · obtain ⟨c, rfl, q⟩ := h
    have nd := sc_law_weight.nd
    refine ⟨_, pss_cons (ps_set (i := 1) nd rfl (.inl rfl) (pe_op op_mod (pv 0) pe_int))
      (pss_cons (ps_if (pt_cmpR op_eq (pv 1) pe_int (nomark _)) (pss_one (ps_ret pe_int)) pss_nil)
      (pss_cons (ps_if (pt_cmpR op_eq (pv 1) pe_int (nomark _)) (pss_one (ps_ret (pe_op op_mod (pe_op op_fdiv (pv 0) pe_int) pe_int))) pss_nil)
      (pss_one (ps_ret (pe_op op_mod (pe_op op_fdiv (pv 0) pe_int) (pe_ix ix_list (pe_lst (pa_cons (pe_op op_pow pe_int pe_int) (pa_cons (pe_op op_sub (pe_op op_pow pe_int pe_int) pe_int) pa_nil))) (pe_op op_mod (pe_op op_fdiv (pv 0) pe_int) pe_int) (fun _ _ => rfl))))))), ?_⟩
    refine ⟨_, rfl, _, _, rfl, rfl, (by show (0 : Int) < 3; decide), ?_⟩
    refine ⟨_, rfl, rfl, _, rfl, ?_⟩
    by_cases h0 : c % 3 = 0
    · refine if_true_of (decide_eq_true (congrArg V.int h0)) ?_
      have e : wgt mW c = 0 := if_pos h0
      have q' := q H (Same.refl H)
      rw [e] at q'
      exact q'
    · refine if_false_of (decide_eq_false (fun z => h0 (V.int.inj z))) ?_
      refine ⟨_, rfl, rfl, _, rfl, ?_⟩
      by_cases h1 : c % 3 = 1
      · refine if_true_of (decide_eq_true (congrArg V.int h1)) ?_
        have e : wgt mW c = c / 3 % 10 := by unfold wgt; rw [if_neg h0, if_pos h1]
        have q' := q H (Same.refl H)
        rw [e] at q'
        exact ⟨_, rfl, _, _, rfl, rfl, ⟨by decide, by decide⟩, _, _, rfl, rfl, (by show (0 : Int) < 10; decide), q'⟩
      · refine if_false_of (decide_eq_false (fun z => h1 (V.int.inj z))) ?_
        refine ⟨_, rfl, _, _, rfl, rfl, ⟨by decide, by decide⟩, _, _, rfl, rfl, ⟨by decide, by decide, by decide⟩, _, _, rfl, rfl, ⟨by decide, by decide, by decide⟩, _, _, rfl, rfl, (by show 2 ≤ sizeLine; decide), fun p np => ?_⟩
        refine ⟨_, rfl, _, _, rfl, rfl, ⟨by decide, by decide⟩, _, _, rfl, rfl, (by show (0 : Int) < 2; decide), ?_⟩
        have sm : Same H (upd H p (.lst [V.int (10 ^ 12), V.int mW])) := same_upd np
        by_cases h2 : c / 3 % 2 = 0
        · have e : wgt mW c = c / 6 % 10 ^ 12 := by unfold wgt; rw [if_neg h0, if_neg h1, if_pos h2]
          have q' := q _ sm
          rw [e] at q'
          exact ⟨p, _, _, V.int (10 ^ 12), rfl, rfl, SqL.of upd_same, (by show atI _ (c / 3 % 2) = _; rw [h2]; rfl), _, _, rfl, rfl, (by show (0 : Int) < 10 ^ 12; decide), q'⟩
        · have h3 : c / 3 % 2 = 1 := by omega
          have e : wgt mW c = c / 6 % mW := by unfold wgt; rw [if_neg h0, if_neg h1, if_neg h2]
          have q' := q _ sm
          rw [e] at q'
          exact ⟨p, _, _, V.int mW, rfl, rfl, SqL.of upd_same, (by show atI _ (c / 3 % 2) = _; rw [h3]; rfl), _, _, rfl, rfl, (by show (0 : Int) < mW; decide), q'⟩
theorem menu3 (y : Int) : ∃ m : Int, atI [V.int 10, V.int (10 ^ 15), V.int (10 ^ 30)] (y % 3) = some (V.int m) ∧ 0 < m ∧ m < 2 ^ 100 := by
  have h : y % 3 = 0 ∨ y % 3 = 1 ∨ y % 3 = 2 := by omega
  rcases h with h | h | h
  · exact ⟨10, by rw [h]; rfl, by decide, by decide⟩
  · exact ⟨10 ^ 15, by rw [h]; rfl, by decide, by decide⟩
  · exact ⟨10 ^ 30, by rw [h]; rfl, by decide, by decide⟩
theorem small_abs {c m : Int} {n : Nat} (hm : 0 < m) (hn : m < 2 ^ n) : (c % m).natAbs < 2 ^ n := by
  have h1 := Int.emod_nonneg c (show m ≠ 0 by omega)
  have h2 := Int.emod_lt_of_pos c hm
  have h3 : ((c % m).natAbs : Int) < ((2 ^ n : Nat) : Int) := by
    rw [Int.natAbs_of_nonneg h1]
    have e : ((2 ^ n : Nat) : Int) = (2 : Int) ^ n := by simp
    rw [e]
    exact Int.lt_trans h2 hn
  exact Int.ofNat_lt.mp h3
theorem up_abs {c : Int} {n m : Nat} (h : c.natAbs < 2 ^ n) (l : n ≤ m) : c.natAbs < 2 ^ m := Nat.lt_of_lt_of_le h (Nat.pow_le_pow_right (by decide) l)
theorem sum_abs {ws : List Int} (h0 : ∀ x ∈ ws, 0 ≤ x ∧ x ≤ mW) (hl : ws.length ≤ 60) : ws.sum.natAbs < 2 ^ 110 := by
  have h1 := sum_nonneg fun x hx => (h0 x hx).1
  have h2 : ws.sum ≤ ws.length * mW := sum_le_of fun x hx => (h0 x hx).2
  have h3 : (ws.length : Int) * mW ≤ 60 * mW := Int.mul_le_mul_of_nonneg_right (by omega) (by decide)
  have h4 : 60 * mW < 2 ^ 110 := by decide
  have h5 : (ws.sum.natAbs : Int) < ((2 ^ 110 : Nat) : Int) := by
    rw [Int.natAbs_of_nonneg h1]
    have e : ((2 ^ 110 : Nat) : Int) = (2 : Int) ^ 110 := by decide
    rw [e]
    omega
  exact Int.ofNat_lt.mp h5
def spLaw (K : PySem.W.Frag) : Sp := fun vs H Q _ => ∃ (a : Addr) (ns : List Int), vs = [.ref a] ∧ SqL K H a (ns.map V.int) ∧ ns.length ≤ 63 ∧ ∀ H', Q (.bl true) H'
theorem ok_law {f : Addr} {fd : FuncData} (D : Dn K mg "law" s_law ["_law_script"] f fd) (N : Nn mg) (T : Er K mg CN CS) (cP : Fd P w K mg base (L2.CX P w) 1 "parts" (spParts K CN)) (cI : Fd P w K mg base CX0 1 "_law_whole" spWhole)
    (cC : Fd P w K mg base CX0 1 "_law_cell_at" (spCell K)) (cD : Fd P w K mg base CX0 1 "_law_drawn" (spDrawn K)) (cW : Fd P w K mg base CX0 1 "_law_weight" spWeight) :
    FnOk P w K mg base CX0 3 f fd ["_law_script"] (spLaw K) := by
  refine D.F.ok sc_law (fun vs H Q E h => ?_) (fun cdv A outer s H vs Q E hr h => ?_)
  · obtain ⟨a, ns, rfl, _⟩ := h
    rfl
  · obtain ⟨a, ns, rfl, hS, hlen, q⟩ := h
    have nd := sc_law.nd
    refine ⟨_, pss_cons (ps_set (i := 1) nd rfl (.inl rfl) (pe_cl cD hr (pa_cons (pe_cl cC hr (pa_cons (pv 0) (pa_cons pe_int pa_nil))) (pa_cons (pe_lst (pa_cons pe_int (pa_cons pe_int (pa_cons pe_int pa_nil)))) pa_nil))))
      (pss_cons (ps_set (i := 2) nd rfl (.inl rfl) (pe_op op_add pe_int (pe_ix ix_list (pv 1) pe_int (fun _ _ => rfl))))
      (C8.pss_cut (ps_if (pt_cmpR op_eq (pe_ix ix_list (pv 1) pe_int (fun _ _ => rfl)) pe_int (nomark _)) (pss_one (ps_set (i := 2) nd rfl (.inl rfl) pe_int)) pss_nil)
      (pss_cons (ps_set (i := 3) nd rfl (.inl rfl) (pe_lst pa_nil))
      (C8.pss_cut (ps_for PassesOwn.never rfl (pi_range1 (by rfl) N.range (pa_cons (pv 2) pa_nil)) (pg_name (i := 4) nd rfl (.inl rfl))
        (pss_cons (ps_set (i := 5) nd rfl (.inl rfl) (pe_cl cC hr (pa_cons (pv 0) (pa_cons (pe_op op_add pe_int (pe_op op_mod (pv 4) pe_int)) pa_nil))))
        (pss_one (ps_expr (pe_bm PySem.F.plainAttrs_list PySem.F.slot_list_append PySem.F.type_list_append mt_append (pv 3) (pa_cons (pe_cl cW hr (pa_cons (pe_op op_add (pv 5) (pe_op op_mul pe_int (pe_op op_fdiv (pv 4) pe_int))) pa_nil)) pa_nil))))))
      (C8.pss_cut (ps_asg (pe_op op_add (pe_ix ix_list (pv 3) pe_int (fun _ _ => rfl)) pe_int) (pg_sub (pv 3) pe_int set_list))
      (pss_cons (ps_set (i := 6) nd rfl (.inl rfl) (pe_op op_mod (pe_cl cC hr (pa_cons (pv 0) (pa_cons pe_int pa_nil))) (pe_ix ix_list (pe_lst (pa_cons pe_int (pa_cons (pe_op op_pow pe_int pe_int) (pa_cons (pe_op op_pow pe_int pe_int) pa_nil)))) (pe_ix ix_list (pv 1) pe_int (fun _ _ => rfl)) (fun _ _ => rfl))))
      (pss_cons (ps_set (i := 7) nd rfl (.inl rfl) (pe_callB (cr_sum rfl) (by rfl) N.sum boot_sum (pa_cons (pv 3) pa_nil)))
      (pss_cons (ps_set (i := 8) nd rfl (.inl rfl) (pe_clL cP hr (pa_cons (pv 6) (pa_cons (pe_callTy call_list_of (by rfl) N.list boot_list (pa_cons (pv 3) pa_nil)) pa_nil))))
      (pss_cons (ps_if (PW.pt (pw_or (pt_not (pt_val (pe_callB call_isi (by rfl) N.isi boot_isinstance (pa_cons (pv 8) (pa_cons (pe_bltn (v := .ty "list") (by rfl) N.list boot_list rfl) pa_nil)))))
          (pw_or1 (pt_cmpR op_ne (pe_callB call_len_seq (by rfl) N.len boot_len (pa_cons (pv 8) pa_nil)) (pv 2) (nomark _))))) (pss_one (ps_ret pe_bl)) pss_nil)
      (pss_cons (ps_set (i := 9) nd rfl (.inl rfl) pe_int)
      (pss_cons (ps_set (i := 10) nd rfl (.inl rfl) pe_int)
      (pss_cons (ps_for PassesOwn.never rfl (pi_range1 (by rfl) N.range (pa_cons (pv 2) pa_nil)) (pg_name (i := 4) nd rfl (.inl rfl))
        (pss_cons (ps_set (i := 11) nd rfl (.inl rfl) (pe_ix ix_list (pv 8) (pv 4) (fun _ _ => rfl)))
        (C8.pss_cut (ps_if (PW.pt (pw_or (pt_not (pt_val (pe_cl cI hr (pa_cons (pv 11) pa_nil)))) (pw_or (pt_cmpR op_lt (pv 11) pe_int (nomark _))
            (pw_or1 (PW.pt (pw_and (pt_cmpR op_eq (pe_ix ix_list (pv 3) (pv 4) (fun _ _ => rfl)) pe_int (nomark _)) (pw_and1 (pt_cmpR op_ne (pv 11) pe_int (nomark _))))))))) (pss_one (ps_ret pe_bl)) pss_nil)
        (pss_cons (ps_if (pt_not (pt_chain op_lt op_lt (pe_un un_neg (pv 7)) (pe_op op_sub (pe_op op_mulW (pv 11) (pv 7)) (pe_op op_mulW (pv 6) (pe_ix ix_list (pv 3) (pv 4) (fun _ _ => rfl)))) (pv 7))) (pss_one (ps_ret pe_bl)) pss_nil)
        (pss_cons (ps_set (i := 9) nd rfl (.inl rfl) (pe_op op_add (pv 9) (pv 11)))
        (pss_cons (ps_set (i := 10) nd rfl (.inl rfl) (pe_op op_add (pv 10) (pe_ix ix_list (pv 3) (pv 4) (fun _ _ => rfl))))
        (pss_one (ps_if (pt_not (pt_chain op_lt op_le (pe_un un_neg (pv 7)) (pe_op op_sub (pe_op op_mulW (pv 9) (pv 7)) (pe_op op_mulW (pv 6) (pv 10))) pe_int)) (pss_one (ps_ret pe_bl)) pss_nil))))))))
      (pss_one (ps_ret (pe_cmpR op_eq (pv 9) (pv 6) (nomark _)))))))))))))))), ?_⟩
    -- the draws
    refine ⟨_, rfl, a, ns, 0, rfl, hS, (by show 3 ≤ sizeLine; decide), fun p1 n1 => ?_⟩
    have s1 : Same H (upd H p1 (.lst [V.int 8, V.int 8, V.int 3])) := same_upd n1
    refine ⟨_, p1, [8, 8, 3], rfl, SqL.of upd_same, (by decide), (by decide), fun H1 fp s2 nf ef => ?_⟩
    have sA : Same H H1 := s1.trans s2
    obtain ⟨x, hx⟩ : ∃ x, x = cellAt ns 0 := ⟨_, rfl⟩
    rw [← hx] at ef
    have ef' : H1 fp = some (.lst [V.int (x % 8), V.int (x / 8 % 8), V.int (x / 8 / 8 % 3)]) := ef
    refine ⟨_, rfl, _, _, _, _, rfl, rfl, SqL.of ef', atI_nat (j := 1) rfl, _, _, rfl, rfl, ?_⟩
    -- how many
    refine ⟨fun σ' H' => ∃ n : Nat, n ≤ 60 ∧ 0 < n ∧ σ' = [some (.ref a), some (.ref fp), some (.int (n : Int)), none, none, none, none, none, none, none, none, none] ∧ H' = H1, ?_, ?_⟩
    · refine ⟨_, rfl, _, _, _, _, rfl, rfl, SqL.of ef', atI_nat (j := 0) rfl, rfl, _, rfl, ite2 (fun _ => ?_) (fun _ => ?_)⟩
      · exact ⟨60, Nat.le_refl _, by decide, rfl, rfl⟩
      · refine ⟨(1 + x / 8 % 8).toNat, by omega, by omega, ?_, rfl⟩
        have e : (((1 + x / 8 % 8).toNat : Nat) : Int) = 1 + x / 8 % 8 := Int.toNat_of_nonneg (by omega)
        rw [e]
        rfl
    rintro σ1 H1' ⟨n, hn, hn0, rfl, rfl⟩
    -- the weights
    refine ⟨Nat.zero_le _, fun wp nw => ?_⟩
    have nwH : H wp = none := sA.free nw
    refine ⟨fun σ' H' => ∃ v4 v5, σ' = [some (.ref a), some (.ref fp), some (.int (n : Int)), some (.ref wp), v4, v5, none, none, none, none, none, none] ∧ Same H1' H' ∧ H' wp = some (.lst ((wgtsOf mW ns n).map V.int)), ?_, ?_⟩
    · refine ⟨_, rfl, _, rfl, by omega, by omega, for_range (lo := 0) (n := n) (fun i σ' H' => ∃ v4 v5, σ' = [some (.ref a), some (.ref fp), some (.int (n : Int)), some (.ref wp), v4, v5, none, none, none, none, none, none] ∧ Same H1' H' ∧ H' wp = some (.lst ((wgtsOf mW ns i).map V.int)))
        ⟨none, none, rfl, same_upd nw, upd_same⟩ ?_ ?_⟩
      · rintro i σ' H' hi ⟨v4, v5, rfl, sm, hw⟩
        have e0 : ((0 : Int) + (i : Int)) = (i : Int) := Int.zero_add _
        rw [e0]
        refine ⟨_, rfl, _, rfl, _, _, rfl, rfl, (by show (0 : Int) < 8; decide), _, _, rfl, rfl, a, ns, 2 + i % 8, ?_, sm.seq (sA.seq hS), ?_⟩
        · show [V.ref a, V.int (2 + (i : Int) % 8)] = [V.ref a, V.int ((2 + i % 8 : Nat) : Int)]
          congr 3
        · refine ⟨_, rfl, .inl ⟨rfl, _, SqL.of hw⟩, _, rfl, _, rfl, _, _, rfl, rfl, ⟨by decide, by decide⟩, _, _, rfl, rfl, .inl ⟨by decide, by decide⟩, _, _, rfl, rfl, _, rfl, fun H2 s3 => ?_⟩
          have hw2 := s3 _ _ hw
          refine ⟨wp, _, _, rfl, rfl, hw2, ?_, some (.int (i : Int)), some (.int (cellAt ns (2 + i % 8))), rfl, same_mut (sm.trans s3) nw, ?_⟩
          · rw [List.length_map, wgtsOf_len]
            exact small1000 (by omega)
          · rw [upd_same, wgtsOf_snoc, List.map_append]
            rfl
      · rintro σ' H' ⟨v4, v5, rfl, sm, hw⟩
        exact ⟨v4, v5, rfl, sm, hw⟩
    rintro σ2 H2 ⟨v4, v5, rfl, s3, hw⟩
    have hb0 := wgtsOf_lt mW_ge ns n
    have hl0 := wgtsOf_len mW ns n
    generalize wgtsOf mW ns n = ws0 at hw hb0 hl0
    obtain ⟨z0, hz0⟩ : ∃ z, ws0[0]? = some z := ⟨ws0[0], List.getElem?_eq_getElem (by omega)⟩
    have hz00 := hb0 z0 (List.mem_of_getElem? hz0)
    -- the first one
    refine ⟨fun σ' H' => ∃ ws : List Int, σ' = [some (.ref a), some (.ref fp), some (.int (n : Int)), some (.ref wp), v4, v5, none, none, none, none, none, none] ∧ Same H1' H' ∧ H' wp = some (.lst (ws.map V.int)) ∧ ws.length = n ∧ (∀ z ∈ ws, 0 ≤ z ∧ z ≤ mW) ∧ 0 < ws.sum, ?_, ?_⟩
    · refine ⟨_, rfl, wp, _, _, _, rfl, rfl, SqL.of hw, at_int (i := 0) hz0, _, _, rfl, rfl, _, rfl, wp, _, _, 0, rfl, rfl, hw, ?_, ws0.set 0 (z0 + 1), rfl, same_mut s3 nw, ?_, ?_, ?_, ?_⟩
      · rw [List.length_map, hl0]
        unfold ixN
        rw [if_pos (by decide), if_pos (by omega)]
        rfl
      · rw [upd_same, List.map_set]
      · rw [List.length_set, hl0]
      · intro z hz
        rcases List.mem_or_eq_of_mem_set hz with h | h
        · have := hb0 z h
          omega
        · omega
      · have h1 : (ws0.set 0 (z0 + 1))[0]? = some (z0 + 1) := by
          rw [List.getElem?_set_self (by omega)]
        have h2 := sum_first h1 (fun y hy => by
          rcases List.mem_or_eq_of_mem_set hy with h | h
          · exact (hb0 y h).1
          · omega)
        omega
    rintro σ3 H2' ⟨ws, rfl, s3', hw', hl', hb, hpos⟩
    have h0 : ∀ z ∈ ws, 0 ≤ z := fun z hz => (hb z hz).1
    have hl : ws.length ≤ 60 := by omega
    have bw : ws.sum.natAbs < 2 ^ 110 := sum_abs hb hl
    have sB : Same H H2' := sA.trans s3'
    have ef2 := s3' _ _ ef'
    -- the coins
    obtain ⟨m, hm, m0, m1⟩ := menu3 (x / 8 / 8)
    refine ⟨_, rfl, a, ns, 1, rfl, sB.seq hS, _, _, rfl, rfl, ⟨by decide, by decide, by decide⟩, _, _, rfl, rfl, ⟨by decide, by decide, by decide⟩, (by show 3 ≤ sizeLine; decide), fun p2 n2 => ?_⟩
    have s4 : Same H2' (upd H2' p2 (.lst [V.int 10, V.int (10 ^ 15), V.int (10 ^ 30)])) := same_upd n2
    refine ⟨_, rfl, _, _, _, _, rfl, rfl, SqL.of (s4 _ _ ef2), atI_nat (j := 2) rfl, ?_⟩
    refine ⟨p2, _, _, V.int m, rfl, rfl, SqL.of upd_same, hm, _, _, rfl, rfl, m0, ?_⟩
    have bc : (cellAt ns 1 % m).natAbs < 2 ^ 100 := small_abs m0 m1
    have c0 : 0 ≤ cellAt ns 1 % m := Int.emod_nonneg _ (by omega)
    refine ⟨_, rfl, wp, ws, rfl, SqL.of (s4 _ _ hw'), ?_⟩
    refine ⟨_, rfl, _, rfl, wp, _, rfl, .inl (SqL.of (s4 _ _ hw')), fun hp nh => ?_⟩
    have s5 := s4.trans (same_upd (o := .lst (ws.map V.int)) nh)
    refine ⟨_, hp, ws, rfl, SqL.of upd_same, h0, by omega, up_abs bc (by decide), up_abs bw (by decide), fun hz => by omega, fun _ H3 fnd sm nf3 e5 => ?_⟩
    have e3 : H3 wp = some (.lst (ws.map V.int)) := sm _ _ (s5 _ _ hw')
    have eld : (dueL (cellAt ns 1 % m) ws.sum 0 ws).length = n := by rw [dueL_len, hl']
    refine ⟨_, rfl, _, _, _, _, true, rfl, .ty "list", .base (.lst e5), kit_ty (by decide +kernel), true, rfl, if_false_of rfl ?_⟩
    refine ⟨_, rfl, fnd, _, rfl, .inl (SqL.of e5), _, rfl, rfl, _, rfl, iteNS (by rw [List.length_map, eld]) ?_⟩
    refine ⟨_, rfl, _, rfl, by omega, by omega, for_range (lo := 0) (n := n) (fun i σ' H' => ∃ v4 v11, σ' = [some (.ref a), some (.ref fp), some (.int (n : Int)), some (.ref wp), v4, v5, some (.int (cellAt ns 1 % m)), some (.int ws.sum), some (.ref fnd), some (.int (cellAt ns 1 % m * (ws.take i).sum / ws.sum)), some (.int (ws.take i).sum), v11] ∧ H' = H3)
      ⟨v4, none, ?_, rfl⟩ ?_ ?_⟩
    · rw [List.take_zero, List.sum_nil, share_none]
      rfl
    · rintro i σ' H' hi ⟨v4, v11, rfl, rfl⟩
      have e0 : ((0 : Int) + (i : Int)) = (i : Int) := Int.zero_add _
      rw [e0]
      have hil : i < ws.length := by omega
      obtain ⟨z, hz⟩ : ∃ z, ws[i]? = some z := ⟨ws[i], List.getElem?_eq_getElem hil⟩
      have hd := dueL_get (cellAt ns 1 % m) ws.sum ws 0 i z hz
      rw [Int.zero_add] at hd
      have hzb := hb z (List.mem_of_getElem? hz)
      have e1 : (ws.take (i + 1)).sum = (ws.take i).sum + z := by rw [take_snoc hz, sum_snoc]
      have b0 := sum_take_le h0 i
      have b1 := sum_take_le h0 (i + 1)
      rw [e1] at b1
      have b3 : ((ws.take i).sum + z).natAbs < 2 ^ 110 := wide_le b1.1 b1.2 bw
      have near := share_near (c := cellAt ns 1 % m) (A := (ws.take i).sum) (w := z) hpos
      have down := share_down (c := cellAt ns 1 % m) (A := (ws.take i).sum + z) hpos
      have mono := share_mono (A := (ws.take i).sum) (B := (ws.take i).sum + z) c0 hpos (by omega)
      have le0 := share_le c0 hpos b0.1 b0.2
      have le1 := share_le c0 hpos b1.1 b1.2
      have bz : z.natAbs < 2 ^ 110 := wide_le hzb.1 (by have := (sum_take_le h0 i).1; omega) bw
      have bone : (cellAt ns 1 % m * ((ws.take i).sum + z) / ws.sum - cellAt ns 1 % m * (ws.take i).sum / ws.sum).natAbs < 2 ^ 100 := wide_le (by omega) (by omega) bc
      have bgot : (cellAt ns 1 % m * ((ws.take i).sum + z) / ws.sum).natAbs < 2 ^ 100 := wide_le le1.1 le1.2 bc
      have none0 : z = 0 → cellAt ns 1 % m * ((ws.take i).sum + z) / ws.sum - cellAt ns 1 % m * (ws.take i).sum / ws.sum = 0 := by
        intro e
        rw [e, Int.add_zero]
        omega
      have gw : atI (ws.map V.int) (i : Int) = some (V.int z) := at_int hz
      have gd : atI ((dueL (cellAt ns 1 % m) ws.sum 0 ws).map V.int) (i : Int) = some (V.int _) := at_int hd
      refine ⟨_, rfl, _, rfl, fnd, _, _, _, rfl, rfl, SqL.of e5, gd, ?_⟩
      obtain ⟨one, ho⟩ : ∃ one, one = cellAt ns 1 % m * ((ws.take i).sum + z) / ws.sum - cellAt ns 1 % m * (ws.take i).sum / ws.sum := ⟨_, rfl⟩
      refine ⟨fun σ' H'' => σ' = [some (.ref a), some (.ref fp), some (.int (n : Int)), some (.ref wp), some (.int (i : Int)), v5, some (.int (cellAt ns 1 % m)), some (.int ws.sum), some (.ref fnd), some (.int (cellAt ns 1 % m * (ws.take i).sum / ws.sum)), some (.int (ws.take i).sum), some (.int one)] ∧ H'' = H', ?_, ?_⟩
      · refine ⟨_, rfl, _, rfl, true, rfl, if_false_of rfl ?_⟩
        refine ⟨_, rfl, _, _, rfl, rfl, _, rfl, if_false_of (decide_eq_false (by omega)) ?_⟩
        refine ⟨_, rfl, _, rfl, wp, _, _, _, rfl, rfl, SqL.of e3, gw, rfl, _, rfl, ?_⟩
        by_cases e : z = 0
        · refine if_true_of (decide_eq_true (congrArg V.int e)) ⟨_, rfl, rfl, _, rfl, ?_⟩
          exact iteNS (congrArg V.int (none0 e)) ⟨by rw [ho]; rfl, rfl⟩
        · exact if_false_of (decide_eq_false (fun y => e (V.int.inj y))) (iteF ⟨by rw [ho]; rfl, rfl⟩)
      rintro σ'' H'' ⟨rfl, rfl⟩
      rw [← ho] at near bone
      refine ⟨_, rfl, _, rfl, _, rfl, _, rfl, _, _, rfl, rfl, wide_mul bone bw (by decide) (by decide) (by decide), _, rfl, _, rfl, _, rfl, wp, _, _, _, rfl, rfl, SqL.of e3, gw, _, _, rfl, rfl, wide_mul bc bz (by decide) (by decide) (by decide), _, _, rfl, rfl, _, _, rfl, rfl, _, rfl, if_true_of (decide_eq_true near.1) ?_⟩
      refine ⟨_, rfl, _, _, rfl, rfl, _, rfl, iteNS near.2 ?_⟩
      refine ⟨_, rfl, _, rfl, _, _, rfl, rfl, ?_⟩
      refine ⟨_, rfl, _, rfl, _, rfl, wp, _, _, _, rfl, rfl, SqL.of e3, gw, _, _, rfl, rfl, ?_⟩
      have eg : cellAt ns 1 % m * (ws.take i).sum / ws.sum + one = cellAt ns 1 % m * ((ws.take i).sum + z) / ws.sum := by omega
      have bg : (cellAt ns 1 % m * (ws.take i).sum / ws.sum + one).natAbs < 2 ^ 100 := by rw [eg]; exact bgot
      rw [← eg] at down
      refine ⟨_, rfl, _, rfl, _, rfl, _, rfl, _, _, rfl, rfl, wide_mul bg bw (by decide) (by decide) (by decide), _, rfl, _, rfl, _, _, rfl, rfl, wide_mul bc b3 (by decide) (by decide) (by decide), _, _, rfl, rfl, _, _, rfl, rfl, _, rfl, if_true_of (decide_eq_true down.1) ?_⟩
      refine ⟨_, _, rfl, rfl, _, rfl, iteNS down.2 ?_⟩
      refine ⟨some (.int (i : Int)), some (.int one), ?_, rfl⟩
      rw [e1, ← eg]
      rfl
    · rintro σ' H' ⟨v4, v11, rfl, rfl⟩
      rw [← hl', List.take_length, share_all hpos]
      refine ⟨_, rfl, _, rfl, rfl, ?_⟩
      rw [decide_eq_true rfl]
      exact q _
end
end Lb

namespace Lb
open PySem PySem.Spec PyProof.Rows L2
theorem exm_self {K : PySem.W.Frag} {S : Addr} (h1 : PySem.W.subIn K (.ref S) (.type "BaseException") = some true) (h2 : PySem.W.isClsIn K S = true) (h3 : PySem.W.typeIn K (.ref S) = some (.type "type")) (h4 : PySem.W.subIn K (.ref S) (.ref S) = some true) :
    PySem.W.exmOne K (.ref S) (.ref S) = some true := by
  have e1 : (PySem.W.subIn K (.ref S) (.type "BaseException") == some true) = true := by rw [h1] <;> rfl
  have e2 : ((PySem.W.clsIn K S).isSome && PySem.W.typeIn K (.ref S) == some (.type "type")) = true := by
    have h2' : (PySem.W.clsIn K S).isSome = true := h2
    rw [h2', h3] <;> rfl
  show (if (PySem.W.subIn K (.ref S) (.type "BaseException") == some true) = true then (if ((PySem.W.clsIn K S).isSome && PySem.W.typeIn K (.ref S) == some (.type "type")) = true then PySem.W.subIn K (.ref S) (.ref S) else none) else none) = some true
  rw [if_pos e1, if_pos e2]
  exact h4
theorem all_mk {P : Program} {w : World} {K : PySem.W.Frag} {h : Heap} {mg : Str → Option Value} {fa : Addr} (X : K.In h) (G : h.Ns mainGlobals mg) (hfa : mg "law" = some (.ref fa))
    {f0 : Addr} {od0 an0 : Option Addr} {sl0 : Array (Option Value)} {oc0 kV0 dc0 pm0 cd0 ct0 : Value}
    {f1 : Addr} {od1 an1 : Option Addr} {sl1 : Array (Option Value)} {oc1 kV1 dc1 pm1 cd1 ct1 : Value}
    {f2 : Addr} {od2 an2 : Option Addr} {sl2 : Array (Option Value)} {oc2 kV2 dc2 pm2 cd2 ct2 : Value}
    {f3 : Addr} {od3 an3 : Option Addr} {sl3 : Array (Option Value)} {oc3 kV3 dc3 pm3 cd3 ct3 : Value}
    {f4 : Addr} {od4 an4 : Option Addr} {sl4 : Array (Option Value)} {oc4 kV4 dc4 pm4 cd4 ct4 : Value}
    {f5 : Addr} {od5 an5 : Option Addr} {sl5 : Array (Option Value)} {oc5 kV5 dc5 pm5 cd5 ct5 : Value}
    {CN CS : Addr}
    (a0 : PySem.W.nsIn K mainGlobals "parts" = some (some (.ref f0)))
    (l0 : K.lookup f0 = some ⟨oc0, od0, .func (PySem.W.fnOf "parts" "parts" (defArgs s_parts) (defBody s_parts) (defScope s_parts) .none kV0 dc0 pm0 an0 cd0 ct0), sl0⟩)
    (c0 : PySem.W.codeIn K cd0 "parts" = true)
    (k0 : PySem.W.keepIn K (.ref f0) = true)
    (a1 : PySem.W.nsIn K mainGlobals "_law_whole" = some (some (.ref f1)))
    (l1 : K.lookup f1 = some ⟨oc1, od1, .func (PySem.W.fnOf "_law_whole" "_law_whole" (defArgs s_law_whole) (defBody s_law_whole) (defScope s_law_whole) .none kV1 dc1 pm1 an1 cd1 ct1), sl1⟩)
    (c1 : PySem.W.codeIn K cd1 "_law_whole" = true)
    (k1 : PySem.W.keepIn K (.ref f1) = true)
    (a2 : PySem.W.nsIn K mainGlobals "_law_cell_at" = some (some (.ref f2)))
    (l2 : K.lookup f2 = some ⟨oc2, od2, .func (PySem.W.fnOf "_law_cell_at" "_law_cell_at" (defArgs s_law_cell_at) (defBody s_law_cell_at) (defScope s_law_cell_at) .none kV2 dc2 pm2 an2 cd2 ct2), sl2⟩)
    (c2 : PySem.W.codeIn K cd2 "_law_cell_at" = true)
    (k2 : PySem.W.keepIn K (.ref f2) = true)
    (a3 : PySem.W.nsIn K mainGlobals "_law_drawn" = some (some (.ref f3)))
    (l3 : K.lookup f3 = some ⟨oc3, od3, .func (PySem.W.fnOf "_law_drawn" "_law_drawn" (defArgs s_law_drawn) (defBody s_law_drawn) (defScope s_law_drawn) .none kV3 dc3 pm3 an3 cd3 ct3), sl3⟩)
    (c3 : PySem.W.codeIn K cd3 "_law_drawn" = true)
    (k3 : PySem.W.keepIn K (.ref f3) = true)
    (a4 : PySem.W.nsIn K mainGlobals "_law_weight" = some (some (.ref f4)))
    (l4 : K.lookup f4 = some ⟨oc4, od4, .func (PySem.W.fnOf "_law_weight" "_law_weight" (defArgs s_law_weight) (defBody s_law_weight) (defScope s_law_weight) .none kV4 dc4 pm4 an4 cd4 ct4), sl4⟩)
    (c4 : PySem.W.codeIn K cd4 "_law_weight" = true)
    (k4 : PySem.W.keepIn K (.ref f4) = true)
    (a5 : PySem.W.nsIn K mainGlobals "law" = some (some (.ref f5)))
    (l5 : K.lookup f5 = some ⟨oc5, od5, .func (PySem.W.fnOf "law" "law" (defArgs s_law) (defBody s_law) (defScope s_law) .none kV5 dc5 pm5 an5 cd5 ct5), sl5⟩)
    (c5 : PySem.W.codeIn K cd5 "law" = true)
    (k5 : PySem.W.keepIn K (.ref f5) = true)
    (z_len : PySem.W.nsIn K mainGlobals "len" = some none)
    (z_range : PySem.W.nsIn K mainGlobals "range" = some none)
    (z_sum : PySem.W.nsIn K mainGlobals "sum" = some none)
    (z_list : PySem.W.nsIn K mainGlobals "list" = some none)
    (z_isi : PySem.W.nsIn K mainGlobals "isinstance" = some none)
    (z_int : PySem.W.nsIn K mainGlobals "int" = some none)
    (z_bool : PySem.W.nsIn K mainGlobals "bool" = some none)
    (z_ve : PySem.W.nsIn K mainGlobals "ValueError" = some none)
    (aN : PySem.W.nsIn K mainGlobals "NoDays" = some (some (.ref CN)))
    (aS : PySem.W.nsIn K mainGlobals "ShareError" = some (some (.ref CS)))
    (xN : PySem.W.excIn K CN [.type "ValueError", .type "Exception", .type "BaseException", .type "object"] "ValueError.__new__" = true)
    (kN : PySem.W.keepIn K (.ref CN) = true)
    (bN : PySem.W.subIn K (.ref CN) (.type "BaseException") = some true)
    (tN : PySem.W.typeIn K (.ref CN) = some (.type "type"))
    (iN : PySem.W.isClsIn K CN = true)
    (sN : PySem.W.subIn K (.ref CN) (.ref CN) = some true)
    (bS : PySem.W.subIn K (.ref CS) (.type "BaseException") = some true)
    (hS : PySem.W.hasDictIn K CS = true)
    (tS : PySem.W.typeIn K (.ref CS) = some (.type "type"))
    (sS : PySem.W.subIn K (.ref CN) (.ref CS) = some true)
    (e1 : PySem.W.findIn K (.ref CN) "__getattribute__" = some (some (.builtin "BaseException.__getattribute__")))
    (e2 : PySem.W.findIn K (.ref CN) "__getattr__" = some none)
    (e4 : PySem.W.hasDictIn K CN = true)
    (e5 : PySem.W.findIn K (.ref CN) "__class__" = some (some (.builtin "object.__class__")))
    (e6 : PySem.W.specialIn K (.builtin "object.__class__") "__get__" = some (some (.builtin "getset_descriptor.__get__")))
    (e7 : PySem.W.takesIn K (.builtin "object.__class__") = some true)
    (e8 : PySem.W.mroIn K CN (.type "object") = some true)
    (e9 : PySem.W.subIn K (.ref CN) (.type "ValueError") = some true)
    : ∃ fd : FuncData, (∀ (s : Shared) (v : Value), BindsTo s fd ⟨[v], []⟩ [("_law_script", v)]) ∧ ∀ base : Heap, K.In base → base.Ns mainGlobals mg → FnOk P w K mg base CX0 3 fa fd ["_law_script"] (spLaw K) := by
  have e := hfa.symm.trans (PySem.W.mg_of X G a5)
  cases e
  have F0 := fun_mk (st := s_parts) l0 c0 k0
  have d_parts : Dn K mg "parts" s_parts ["coins", "weights"] f0 _ := ⟨F0, PySem.W.mg_of X G a0, F0.binds (ps := ["coins", "weights"]) fun _ _ _ _ _ _ us hl => match us, hl with | [_, _], _ => rfl⟩
  have F1 := fun_mk (st := s_law_whole) l1 c1 k1
  have d_law_whole : Dn K mg "_law_whole" s_law_whole ["_law_found"] f1 _ := ⟨F1, PySem.W.mg_of X G a1, F1.binds (ps := ["_law_found"]) fun _ _ _ _ _ _ us hl => match us, hl with | [_], _ => rfl⟩
  have F2 := fun_mk (st := s_law_cell_at) l2 c2 k2
  have d_law_cell_at : Dn K mg "_law_cell_at" s_law_cell_at ["_law_script", "_law_k"] f2 _ := ⟨F2, PySem.W.mg_of X G a2, F2.binds (ps := ["_law_script", "_law_k"]) fun _ _ _ _ _ _ us hl => match us, hl with | [_, _], _ => rfl⟩
  have F3 := fun_mk (st := s_law_drawn) l3 c3 k3
  have d_law_drawn : Dn K mg "_law_drawn" s_law_drawn ["_law_cell", "_law_sizes"] f3 _ := ⟨F3, PySem.W.mg_of X G a3, F3.binds (ps := ["_law_cell", "_law_sizes"]) fun _ _ _ _ _ _ us hl => match us, hl with | [_, _], _ => rfl⟩
  have F4 := fun_mk (st := s_law_weight) l4 c4 k4
  have d_law_weight : Dn K mg "_law_weight" s_law_weight ["_law_cell"] f4 _ := ⟨F4, PySem.W.mg_of X G a4, F4.binds (ps := ["_law_cell"]) fun _ _ _ _ _ _ us hl => match us, hl with | [_], _ => rfl⟩
  have F5 := fun_mk (st := s_law) l5 c5 k5
  have d_law : Dn K mg "law" s_law ["_law_script"] fa _ := ⟨F5, PySem.W.mg_of X G a5, F5.binds (ps := ["_law_script"]) fun _ _ _ _ _ _ us hl => match us, hl with | [_], _ => rfl⟩
  have N : Nn mg := { len := PySem.W.mg_none_of X G z_len, range := PySem.W.mg_none_of X G z_range, sum := PySem.W.mg_none_of X G z_sum, list := PySem.W.mg_none_of X G z_list, isi := PySem.W.mg_none_of X G z_isi, int := PySem.W.mg_none_of X G z_int, bool := PySem.W.mg_none_of X G z_bool, ve := PySem.W.mg_none_of X G z_ve }
  have T : Er K mg CN CS := { gN := PySem.W.mg_of X G aN, xN := xN, kN := kN, bN := bN, tN := tN, eN := exm_self bN iN tN sN, gS := PySem.W.mg_of X G aS, eS := PySem.W.exm_ref bS hS tS sS, cN := ⟨e1, e2, bN, e4, e5, e6, e7, e8⟩, iN := kit_ref_ty (by decide +kernel) e9 }
  refine ⟨PySem.W.fnOf "law" "law" (defArgs s_law) (defBody s_law) (defScope s_law) .none kV5 dc5 pm5 an5 cd5 ct5, fun s v => .of_eq rfl, fun base _ _ => ?_⟩
  have cP := fd_parts (P := P) (w := w) (base := base) d_parts N T
  have cW := fd_law_whole (P := P) (w := w) (base := base) d_law_whole N
  have cC := fd_law_cell_at (P := P) (w := w) (base := base) d_law_cell_at N
  have cD := fd_law_drawn (P := P) (w := w) (base := base) d_law_drawn
  have cG := fd_law_weight (P := P) (w := w) (base := base) d_law_weight
  exact ok_law d_law N T cP cW cC cD cG
end Lb
open PySem PySem.W PyProof.Rows
set_option maxHeartbeats 0 in
theorem PySem.Challenge.cw_lotbook_k02_whole_parts_holds : PySem.Challenge.rw_lotbook_k02_whole_parts.Holds := by
  w_on; o_law; k_head; (case hw => w_witness2)
  k_fill
  refine L2.walk_of (l := PySem.Challenge.rw_lotbook_k02_whole_parts) (n := 63) (k := 3) (x := "_law_script") (CX := fun _ => L2.CX0) (sp := fun w => Lb.spLaw _) rfl (by decide) rfl ⟨rfl, by decide, by decide⟩ (fun w h Y => PySem.W.kIn_of Y) ?F (fun _ _ a ns hl _ hS => ⟨a, ns, rfl, hS, hl, fun _ => rfl⟩) (fun _ _ _ _ _ h => h)
  case F =>
    intro w mg fa h KX G hmg
    refine' Lb.all_mk KX G hmg ?a0 ?l0 ?c0 ?k0 ?a1 ?l1 ?c1 ?k1 ?a2 ?l2 ?c2 ?k2 ?a3 ?l3 ?c3 ?k3 ?a4 ?l4 ?c4 ?k4 ?a5 ?l5 ?c5 ?k5 ?z_len ?z_range ?z_sum ?z_list ?z_isi ?z_int ?z_bool ?z_ve ?aN ?aS ?xN ?kN ?bN ?tN ?iN ?sN ?bS ?hS ?tS ?sS ?e1 ?e2 ?e4 ?e5 ?e6 ?e7 ?e8 ?e9
    (case a0 => k_is)
    (case l0 => k_is)
    (case c0 => k_is)
    (case k0 => k_is)
    (case a1 => k_is)
    (case l1 => k_is)
    (case c1 => k_is)
    (case k1 => k_is)
    (case a2 => k_is)
    (case l2 => k_is)
    (case c2 => k_is)
    (case k2 => k_is)
    (case a3 => k_is)
    (case l3 => k_is)
    (case c3 => k_is)
    (case k3 => k_is)
    (case a4 => k_is)
    (case l4 => k_is)
    (case c4 => k_is)
    (case k4 => k_is)
    (case a5 => k_is)
    (case l5 => k_is)
    (case c5 => k_is)
    (case k5 => k_is)
    (case z_len => k_is)
    (case z_range => k_is)
    (case z_sum => k_is)
    (case z_list => k_is)
    (case z_isi => k_is)
    (case z_int => k_is)
    (case z_bool => k_is)
    (case z_ve => k_is)
    (case aN => k_is)
    (case aS => k_is)
    (case xN => k_exc)
    (case kN => k_is)
    (case bN => k_is)
    (case tN => k_is)
    (case iN => k_is)
    (case sN => first | rfl | k_is)
    (case bS => k_is)
    (case hS => k_is)
    (case tS => k_is)
    (case sS => k_is)
    (case e1 => k_is)
    (case e2 => k_is)
    (case e4 => k_is)
    (case e5 => k_is)
    (case e6 => k_is)
    (case e7 => k_is)
    (case e8 => k_is)
    (case e9 => k_is)
