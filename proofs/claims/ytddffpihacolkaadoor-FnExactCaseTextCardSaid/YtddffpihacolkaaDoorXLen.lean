/- How long the text of an amount is. -/
import Derived.Test.YtddffpihacolkaaDoorXMTxt
namespace Go.Proofs.YtddffpihacolkaaDoor.Mo
open Go.RowKit

theorem mtxt_le (x : Int) (d : Nat) (h1 : -1000000000000 ≤ x) (h2 : x ≤ 1000000000000) (hd : d ≤ 3) : (mtxt x d).length ≤ 30 := by
  have hs : (Lib.decDigits x.natAbs).length ≤ 21 := dec_len _ (by omega)
  have hp := pad_len d (Lib.decDigits x.natAbs)
  have hq : (pointed d (Lib.decDigits x.natAbs)).length ≤ 23 := by
    by_cases h0 : d = 0
    · rw [pointed, if_pos h0]; omega
    · rw [pointed_pos h0]
      simp only [List.length_append, List.length_cons, List.length_take, List.length_drop]
      omega
  unfold mtxt
  split
  · simp only [List.length_append, List.length_cons, List.length_nil]; omega
  · rw [List.nil_append]; omega
theorem moneyT_le {x cur : Int} : (moneyT x cur).length ≤ 30 := by
  unfold moneyT
  split
  · rename_i h
    simp only [textOk, Bool.and_eq_true, decide_eq_true_eq] at h
    have hb := mOk_bd h.1
    have := digs_bd cur
    exact mtxt_le _ _ hb.1 hb.2 (by omega)
  · simp

end Go.Proofs.YtddffpihacolkaaDoor.Mo
