/- The contracts of PutVar, the program's and the specification's. -/
import Derived.Test.YtopgcfgomappjaaDoorFVar
import Derived.Test.YtopgcfgomappjaaDoorFPad
import Derived.Test.YtopgcfgomappjaaDoorFBytes
namespace Go.Proofs.YtopgcfgomappjaaDoor
open Go.RowKit

def putV (l : List UInt8) (wd : Int) : Option (List UInt8) := if wOk wd = true ∧ (l.length : Int) ≤ lim wd then some (padT l.length wd ++ l) else none
theorem putV_no1 {l : List UInt8} {wd : Int} (h : wOk wd = false) : putV l wd = none := if_neg (by rw [h]; simp)
theorem putV_no2 {l : List UInt8} {wd : Int} (h : lim wd < (l.length : Int)) : putV l wd = none := if_neg (by omega)
theorem putV_yes {l : List UInt8} {wd : Int} (h : wOk wd = true) (h2 : (l.length : Int) ≤ lim wd) : putV l wd = some (padT l.length wd ++ l) := if_pos ⟨h, h2⟩
theorem lim_bd (wd : Int) : 0 ≤ lim wd ∧ lim wd ≤ 999 := by
  unfold lim; split
  · omega
  · split <;> omega
theorem padT_len {x n : Int} : (padT x n).length ≤ 18 := by
  rcases padT_cases x n with h | ⟨a, m, rfl, rfl, h1, h2, h3, h⟩
  · rw [h]; simp
  · rw [h, padN_len h1 h3]; exact h2


set_option maxRecDepth 100000 in
set_option maxHeartbeats 400000 in
theorem sPutVar_any (l : List UInt8) (wd : Int) (w : World) (hl : l.length ≤ 1099511627776) :
    Calls Tryd.prog 47 #[.string ⟨l.toArray⟩, .int .i64 wd] w fun e w' => e = .returned (.tuple #[.string ⟨((putV l wd).getD []).toArray⟩, .bool (putV l wd).isSome]) ∧ Below w.heap.size w w' := by
  cases hw : inB wd 2 3
  · have HN : Hid _ := putV_no1 (l := l) (wOk_no (wd := wd) (by rintro rfl; cases hw) (by rintro rfl; cases hw))
    go_enter Tryd.func47, Tryd.ntmps47
    go_wp2_with fail
    refine (in_any _ _ _ _).mono ?_
    rintro e w1 ⟨rfl, hw1⟩
    subst hw1
    rw [hw]
    go_wp2
    go_ret2
    exact ⟨str_ok (by rw [HN.out]; rfl) (by rw [HN.out]; rfl), Below.refl _ _⟩
  · have hwd : 2 ≤ wd ∧ wd ≤ 3 := of_decide_eq_true hw
    have HW : Hid _ := hw
    obtain ⟨d, rfl⟩ := Int.eq_ofNat_of_zero_le (show 0 ≤ wd by omega)
    have hwo : wOk (d : Int) = true := by unfold wOk; rcases (show (d : Int) = 2 ∨ (d : Int) = 3 by omega) with h | h <;> rw [h] <;> rfl
    obtain ⟨t, ht⟩ : ∃ t : Nat, 10 ^ d = t := ⟨_, rfl⟩
    have htl : lim (d : Int) = (t : Int) - 1 ∧ t ≤ 1000 := by
      rw [← ht]
      rcases (show d = 2 ∨ d = 3 by omega) with rfl | rfl
      · exact ⟨rfl, by decide⟩
      · exact ⟨rfl, by decide⟩
    have HD : Hid _ := ht
    have hd18 : d ≤ 18 := by omega
    clear hw ht
    by_cases hge : (t : Int) ≤ (l.length : Int)
    · have HN : Hid _ := putV_no2 (l := l) (wd := d) (by omega)
      clear htl
      go_enter Tryd.func47, Tryd.ntmps47
      go_wp2_with fail
      refine (in_any _ _ _ _).mono ?_
      rintro e w1 ⟨rfl, hw1⟩
      subst hw1
      rw [HW.out]
      go_wp2_with fail
      refine (l01Ten_any _ _ hd18).mono ?_
      rintro e w1 ⟨rfl, hw1⟩
      subst hw1
      rw [HD.out]
      go_wp2
      go_ret2
      exact ⟨str_ok (by rw [HN.out]; rfl) (by rw [HN.out]; rfl), Below.refl _ _⟩
    · have hlt : (l.length : Int) < (t : Int) := by omega
      have HY : Hid _ := putV_yes (l := l) hwo (by omega)
      have h999 : (l.length : Int) ≤ 999 := by omega
      have hpl := padT_len (x := l.length) (n := d)
      clear htl hge hwo
      go_enter Tryd.func47, Tryd.ntmps47
      go_wp2_with fail
      refine (in_any _ _ _ _).mono ?_
      rintro e w1 ⟨rfl, hw1⟩
      subst hw1
      rw [HW.out]
      go_wp2_with fail
      refine (l01Ten_any _ _ hd18).mono ?_
      rintro e w1 ⟨rfl, hw1⟩
      subst hw1
      rw [HD.out]
      go_wp2_with fail
      refine (sPadNum_any _ _ _).mono ?_
      rintro e w2 ⟨rfl, b2⟩
      generalize padT (l.length : Int) d = p at hpl HY
      go_wp2
      go_ret2
      exact ⟨str_ok (by rw [HY.out, ba_append]; rfl) (by rw [HY.out]; rfl), b2⟩

end Go.Proofs.YtopgcfgomappjaaDoor
