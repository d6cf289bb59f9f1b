/- The contracts of Digits: the program's map of currencies, the specification's list. -/
import Derived.Test.YtkdodamdjajbiaaLeaf
import Derived.Test.YtkdodamdjajbiaaAid
import Derived.Maps.OwnSet
import Derived.Maps.OwnOps
import Derived.Outline
namespace Go.Proofs.Ytkdodamdjajbiaa
open Go.RowKit Go.Maps

/-- an entry of a map literal, at the operation -/
theorem wpList_insert_own {H : Type} {P : Program} (w : World) {ops : Array Oper} {rest : List Oper} {o : Oper} {a : Act} {Q : Exit → Act → World → Prop}
    (hg : o.guard = none) (m x v : Operand) (t : TypeId) (hop : o.op = Op.insert t m x v)
    (k e : TypeId) (K : Keyed P k) (ht : P.underlying t = some (.map k e)) (R : Value → Option (DataW H × List MemPlace)) (b n : Nat) (D : DataW H)
    (hm : a.eval m = .map (some b)) (hown : w.ownsMap P k R b n D) (hn : n < maxLen) (key val : Value) (kl : Lit) (hx : a.eval x = key) (hv : a.eval v = val) (hkey : keyOf P k key = some kl)
    (d : DataW H) (ps : List MemPlace) (hval : R val = some (d, ps))
    (hK : ∀ w', w'.ownsMap P k R b (n + 1) (D.put kl d) → w.grownBy w' (some b) → wpList P ops Q rest (a.put o.dst undef) w') :
    wpList P ops Q (o :: rest) a w := by
  refine wpList_plain hg fun K' hK' => ?_
  obtain ⟨w', hrun, r1, r2⟩ := hown.update K ht hn hkey hval
  unfold Oper.wp
  simp [execOp, hop, hm, hx, hv, hrun, Result.andThen]
  exact hK' _ _ (hK w' r1 r2)

theorem lawInt : Keyed Try.prog 3 := int_keyed Try.underlying3

/-- what the program's map of currencies reads as -/
def curD : DataW Unit := (((((((((DataW.map (H := Unit) []).put (.int .i64 36) (.lit (.int .i64 2))).put (.int .i64 392) (.lit (.int .i64 0))).put (.int .i64 756) (.lit (.int .i64 2))).put (.int .i64 826) (.lit (.int .i64 2))).put (.int .i64 840) (.lit (.int .i64 2))).put (.int .i64 978) (.lit (.int .i64 2))).put (.int .i64 48) (.lit (.int .i64 3))).put (.int .i64 414) (.lit (.int .i64 3)))


/-- how many digits a currency has behind the point; -1 for no currency -/
def digs (cur : Int) : Int := if cur = 36 then 2 else if cur = 392 then 0 else if cur = 756 then 2 else if cur = 826 then 2 else if cur = 840 then 2 else if cur = 978 then 2 else if cur = 48 then 3 else if cur = 414 then 3 else -1
def isCur (cur : Int) : Bool := cur == 36 || cur == 392 || cur == 756 || cur == 826 || cur == 840 || cur == 978 || cur == 48 || cur == 414

theorem cur_cases {cur : Int} (h : isCur cur = true) : cur = 36 ∨ cur = 392 ∨ cur = 756 ∨ cur = 826 ∨ cur = 840 ∨ cur = 978 ∨ cur = 48 ∨ cur = 414 := by
  simp [isCur] at h; omega
theorem cur_none {cur : Int} (h : isCur cur = false) : cur ≠ 36 ∧ cur ≠ 392 ∧ cur ≠ 756 ∧ cur ≠ 826 ∧ cur ≠ 840 ∧ cur ≠ 978 ∧ cur ≠ 48 ∧ cur ≠ 414 := by
  simp [isCur] at h; omega
theorem digs_none {cur : Int} (h : isCur cur = false) : digs cur = -1 := by
  have := cur_none h; simp [digs, this]
theorem digs_bd (cur : Int) : -1 ≤ digs cur ∧ digs cur ≤ 3 := by
  unfold digs; repeat' split
  all_goals omega
theorem digs_cur {cur : Int} (h : isCur cur = true) : 0 ≤ digs cur := by
  rcases cur_cases h with rfl | rfl | rfl | rfl | rfl | rfl | rfl | rfl <;> decide
theorem isCur_iff (cur : Int) : isCur cur = decide (0 ≤ digs cur) := by
  cases h : isCur cur
  · simp [digs_none h]
  · simp [digs_cur h]

theorem curD_has_yes {cur : Int} (h : isCur cur = true) : Maps.has curD (.int .i64 cur) = true := by
  rcases cur_cases h with rfl | rfl | rfl | rfl | rfl | rfl | rfl | rfl <;> decide
theorem curD_at {cur : Int} (h : isCur cur = true) : curD.atKey (.int .i64 cur) (.lit (.int .i64 0)) = .lit (.int .i64 (digs cur)) := by
  rcases cur_cases h with rfl | rfl | rfl | rfl | rfl | rfl | rfl | rfl <;> rfl
theorem lit_ne {a b : Int} (h : a ≠ b) : Lit.int .i64 a ≠ Lit.int .i64 b := fun e => h (by injection e)
theorem curD_has_no {cur : Int} (h : isCur cur = false) : Maps.has curD (.int .i64 cur) = false := by
  have g := cur_none h
  unfold curD
  rw [Maps.has_put_other (lit_ne (by omega)), Maps.has_put_other (lit_ne (by omega)), Maps.has_put_other (lit_ne (by omega)), Maps.has_put_other (lit_ne (by omega)),
    Maps.has_put_other (lit_ne (by omega)), Maps.has_put_other (lit_ne (by omega)), Maps.has_put_other (lit_ne (by omega)), Maps.has_put_other (lit_ne (by omega))]
  rfl

theorem zero3 (w : World) : (zeroValue 3).run Try.prog w = .ok (.int .i64 0) w := by kernel_rfl


/-- the specification's lists -/
def curL : List Int := [36, 392, 756, 826, 840, 978, 48, 414]
def digL : List Int := [2, 0, 2, 2, 2, 2, 3, 3]

theorem below8 {k : Nat} (h : k < 8) : k = 0 ∨ k = 1 ∨ k = 2 ∨ k = 3 ∨ k = 4 ∨ k = 5 ∨ k = 6 ∨ k = 7 := by omega
theorem digL_at {cur : Int} {k : Nat} (hk : k < 8) (h : curL.getD k 0 = cur) : digL.getD k 0 = digs cur := by
  subst h
  rcases below8 hk with rfl | rfl | rfl | rfl | rfl | rfl | rfl | rfl <;> decide
theorem digL_none {cur : Int} (h : ∀ j, j < 8 → curL.getD j 0 ≠ cur) : digs cur = -1 := by
  have h0 := h 0 (by omega); have h1 := h 1 (by omega); have h2 := h 2 (by omega); have h3 := h 3 (by omega)
  have h4 := h 4 (by omega); have h5 := h 5 (by omega); have h6 := h 6 (by omega); have h7 := h 7 (by omega)
  simp [curL] at h0 h1 h2 h3 h4 h5 h6 h7
  simp [digs]; omega



end Go.Proofs.Ytkdodamdjajbiaa
