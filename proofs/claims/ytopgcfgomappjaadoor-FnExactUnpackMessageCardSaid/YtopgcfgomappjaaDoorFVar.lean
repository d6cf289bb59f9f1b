/- The contracts of GetVar, the program's and the specification's. -/
import Derived.Test.YtopgcfgomappjaaDoorFNum
import Derived.Test.YtopgcfgomappjaaDoorFHas
namespace Go.Proofs.YtopgcfgomappjaaDoor
open Go.RowKit

def lim (wd : Int) : Int := if wd = 2 then 99 else if wd = 3 then 999 else 0
def wOk (wd : Int) : Bool := decide (wd = 2) || decide (wd = 3)
theorem wOk_no {wd : Int} (h2 : wd ≠ 2) (h3 : wd ≠ 3) : wOk wd = false := by simp [wOk, h2, h3]
theorem wOk_is {wd : Int} (h : wOk wd = true) : wd = 2 ∨ wd = 3 := by simpa [wOk] using h
theorem wOk_isnt {wd : Int} (h : wOk wd = false) : wd ≠ 2 ∧ wd ≠ 3 := by simpa [wOk] using h
set_option maxHeartbeats 400000 in
theorem varLimit_any (wd : Int) (w : World) :
    Calls Tryd.prog 116 #[.int .i64 wd] w fun e w' => e = .returned (.tuple #[.int .i64 (lim wd), .bool (wOk wd)]) ∧ w' = w := by
  by_cases h2 : wd = 2
  · subst h2
    go_enter Tryd.func116, Tryd.ntmps116
    go_wp2
    go_ret2
    exact ⟨rfl, rfl⟩
  · by_cases h3 : wd = 3
    · subst h3
      go_enter Tryd.func116, Tryd.ntmps116
      go_wp2
      go_ret2
      exact ⟨rfl, rfl⟩
    · have HL : Hid (lim wd = 0) := by rw [Hid, lim, if_neg h2, if_neg h3]
      have HW : Hid _ := wOk_no h2 h3
      have h2' : (wd == 2) = false := by simpa using h2
      have h3' : (wd == 3) = false := by simpa using h3
      go_enter Tryd.func116, Tryd.ntmps116
      go_wp2
      go_ret2
      exact ⟨two_eq HL.out.symm HW.out.symm, rfl⟩

/-- GetVar -/
def vNum (l : List UInt8) (i wd : Int) : Int := numOf ((l.drop i.toNat).take wd.toNat)
def varOk (l : List UInt8) (i wd : Int) : Bool := wOk wd && decide (0 ≤ i ∧ i + wd ≤ l.length ∧ 0 ≤ vNum l i wd ∧ vNum l i wd ≤ l.length - (i + wd))
def varL (l : List UInt8) (i wd : Int) : List UInt8 := if varOk l i wd = true then (l.drop (i + wd).toNat).take (vNum l i wd).toNat else []
def varI (l : List UInt8) (i wd : Int) : Int := if varOk l i wd = true then i + wd + vNum l i wd else -1
theorem var_no {l : List UInt8} {i wd : Int} (h : varOk l i wd = false) : varL l i wd = [] ∧ varI l i wd = -1 := ⟨if_neg (by rw [h]; decide), if_neg (by rw [h]; decide)⟩
theorem var_yes {l : List UInt8} {i wd : Int} (h : varOk l i wd = true) : varL l i wd = (l.drop (i + wd).toNat).take (vNum l i wd).toNat ∧ varI l i wd = i + wd + vNum l i wd := ⟨if_pos h, if_pos h⟩
theorem varOk_w {l : List UInt8} {i wd : Int} (h : wOk wd = false) : varOk l i wd = false := by unfold varOk; rw [h]; rfl
theorem varOk_no {l : List UInt8} {i wd : Int} (h : ¬ (0 ≤ i ∧ i + wd ≤ l.length ∧ 0 ≤ vNum l i wd ∧ vNum l i wd ≤ l.length - (i + wd))) : varOk l i wd = false := by
  unfold varOk; rw [decide_eq_false h, Bool.and_false]
theorem varOk_yes {l : List UInt8} {i wd : Int} (hw : wOk wd = true) (h : 0 ≤ i ∧ i + wd ≤ l.length ∧ 0 ≤ vNum l i wd ∧ vNum l i wd ≤ l.length - (i + wd)) : varOk l i wd = true := by
  unfold varOk; rw [decide_eq_true h, hw]; rfl

set_option maxHeartbeats 800000 in
theorem iGetVar_any (l : List UInt8) (i wd : Int) (w : World) (hl : l.length ≤ 1099511627776) :
    Calls Tryd.prog 102 #[.string ⟨l.toArray⟩, .int .i64 i, .int .i64 wd] w fun e w' => e = .returned (.tuple #[.string ⟨(varL l i wd).toArray⟩, .int .i64 (varI l i wd)]) ∧ Below w.heap.size w w' := by
  cases hw : wOk wd
  · have HN : Hid _ := var_no (varOk_w (l := l) (i := i) hw)
    go_enter Tryd.func102, Tryd.ntmps102
    go_wp2_with fail
    refine (varLimit_any _ _).mono ?_
    rintro e w1 ⟨rfl, hw1⟩
    subst hw1
    rw [hw]
    go_wp2
    go_ret2
    exact ⟨str_two (by rw [HN.out.1]) HN.out.2.symm, Below.refl _ _⟩
  · have hwd := wOk_is hw
    cases hb : hasB l.length i wd
    · have HN : Hid _ := var_no (varOk_no (l := l) (i := i) (wd := wd) (by have := hasB_out hb; omega))
      have HW : Hid _ := hw
      clear hw hwd
      go_enter Tryd.func102, Tryd.ntmps102
      go_wp2_with fail
      refine (varLimit_any _ _).mono ?_
      rintro e w1 ⟨rfl, hw1⟩
      subst hw1
      rw [HW.out]
      go_wp2_with fail
      refine (hasBytes_any _ _ _ _ hl).mono ?_
      rintro e w1 ⟨rfl, hw1⟩
      subst hw1
      rw [hb]
      go_wp2
      go_ret2
      exact ⟨str_two (by rw [HN.out.1]) HN.out.2.symm, Below.refl _ _⟩
    · have hin := hasB_in hb
      have HW : Hid _ := hw
      have HB : Hid _ := hb
      obtain ⟨k, rfl⟩ := Int.eq_ofNat_of_zero_le hin.1
      obtain ⟨d, rfl⟩ := Int.eq_ofNat_of_zero_le (show 0 ≤ wd by omega)
      have hd : d = 2 ∨ d = 3 := by omega
      have hkd : k + d ≤ l.length := by omega
      have hnb := numOf_bd ((l.drop k).take d)
      have HV : Hid (vNum l k d = numOf ((l.drop k).take d)) := rfl
      have hpl : ((l.drop k).take d).length ≤ 1099511627776 := by simp; omega
      have HP : Hid _ := piece_eq l k d
      clear hw hb hin hwd
      go_enter Tryd.func102, Tryd.ntmps102
      go_wp2_with fail
      refine (varLimit_any _ _).mono ?_
      rintro e w1 ⟨rfl, hw1⟩
      subst hw1
      rw [HW.out]
      go_wp2_with fail
      refine (hasBytes_any _ _ _ _ hl).mono ?_
      rintro e w1 ⟨rfl, hw1⟩
      subst hw1
      rw [HB.out]
      have hk1 : (k : Int) ≤ (k : Int) + (d : Int) := by omega
      have hk2 : (k : Int) + (d : Int) ≤ (l.length : Int) := by omega
      clear HB
      go_wp2_with fail
      rw [HP.out]
      refine (iNumOf_any _ _ hpl).mono ?_
      rintro e w1 ⟨rfl, hw1⟩
      subst hw1
      obtain ⟨n, hn⟩ : ∃ n, numOf ((l.drop k).take d) = n := ⟨_, rfl⟩
      rw [hn] at hnb HV ⊢
      clear hn HP hpl
      by_cases hneg : n < 0
      · have HN : Hid _ := var_no (varOk_no (l := l) (i := k) (wd := d) (by rw [HV.out]; omega))
        go_wp2
        go_ret2
        exact ⟨str_two (by rw [HN.out.1]) HN.out.2.symm, Below.refl _ _⟩
      · obtain ⟨m, rfl⟩ := Int.eq_ofNat_of_zero_le (show 0 ≤ n by omega)
        cases hb : hasB l.length ((k : Int) + (d : Int)) m
        · have HN : Hid _ := var_no (varOk_no (l := l) (i := k) (wd := d) (by have := hasB_out hb; rw [HV.out]; omega))
          go_wp2_with fail
          refine (hasBytes_any _ _ _ _ hl).mono ?_
          rintro e w1 ⟨rfl, hw1⟩
          subst hw1
          rw [hb]
          go_wp2
          go_ret2
          exact ⟨str_two (by rw [HN.out.1]) HN.out.2.symm, Below.refl _ _⟩
        · have hin := hasB_in hb
          have HN : Hid (varL l k d = (l.drop (k + d)).take m ∧ varI l k d = (k : Int) + d + m) := by
            have h := var_yes (varOk_yes (l := l) (i := k) (wd := d) HW.out (by rw [HV.out]; omega))
            rw [HV.out] at h
            exact h
          have HB : Hid _ := hb
          have hkz : 0 ≤ (k : Int) + (d : Int) := by omega
          have hkm : (k : Int) + (d : Int) ≤ (k : Int) + (d : Int) + (m : Int) := by omega
          have hkl : (k : Int) + (d : Int) + (m : Int) ≤ (l.length : Int) := by omega
          have hpl : ((l.drop (k + d)).take m).length ≤ 1099511627776 := by simp; omega
          have HP : Hid _ := piece_eq l (k + d) m
          clear hb hin hneg
          go_wp2_with fail
          refine (hasBytes_any _ _ _ _ hl).mono ?_
          rintro e w1 ⟨rfl, hw1⟩
          subst hw1
          rw [HB.out]
          clear HB
          go_wp2_with fail
          rw [HP.out]
          refine (clone_any _ _ hpl).mono ?_
          rintro e w2 ⟨rfl, b2⟩
          clear hpl
          generalize (l.drop (k + d)).take m = r at HN
          go_wp2
          go_ret2
          exact ⟨str_two (by rw [HN.out.1]) HN.out.2.symm, b2⟩

set_option maxHeartbeats 800000 in
theorem sGetVar_any (l : List UInt8) (i wd : Int) (w : World) (hl : l.length ≤ 1099511627776) :
    Calls Tryd.prog 58 #[.string ⟨l.toArray⟩, .int .i64 i, .int .i64 wd] w fun e w' => e = .returned (.tuple #[.string ⟨(varL l i wd).toArray⟩, .int .i64 (varI l i wd)]) ∧ Below w.heap.size w w' := by
  cases hw : inB wd 2 3
  · have HN : Hid _ := var_no (varOk_w (l := l) (i := i) (wd := wd) (wOk_no (by rintro rfl; cases hw) (by rintro rfl; cases hw)))
    go_enter Tryd.func58, Tryd.ntmps58
    go_wp2_with fail
    refine (in_any _ _ _ _).mono ?_
    rintro e w1 ⟨rfl, hw1⟩
    subst hw1
    rw [hw]
    go_wp2
    go_ret2
    exact ⟨str_two (by rw [HN.out.1]) HN.out.2.symm, Below.refl _ _⟩
  · have hwd : 2 ≤ wd ∧ wd ≤ 3 := by simpa [inB] using hw
    have hwo : wOk wd = true := by unfold wOk; rcases (show wd = 2 ∨ wd = 3 by omega) with rfl | rfl <;> rfl
    cases hb : inB i 0 ((l.length : Int) - wd)
    · have hout : ¬ (0 ≤ i ∧ i ≤ (l.length : Int) - wd) := of_decide_eq_false hb
      have HN : Hid _ := var_no (varOk_no (l := l) (i := i) (wd := wd) (by omega))
      have HW : Hid _ := hw
      clear hw
      go_enter Tryd.func58, Tryd.ntmps58
      go_wp2_with fail
      refine (in_any _ _ _ _).mono ?_
      rintro e w1 ⟨rfl, hw1⟩
      subst hw1
      rw [HW.out]
      go_wp2_with fail
      refine (in_any _ _ _ _).mono ?_
      rintro e w1 ⟨rfl, hw1⟩
      subst hw1
      rw [hb]
      go_wp2
      go_ret2
      exact ⟨str_two (by rw [HN.out.1]) HN.out.2.symm, Below.refl _ _⟩
    · have hin : 0 ≤ i ∧ i ≤ (l.length : Int) - wd := by simpa [inB] using hb
      have HW : Hid _ := hw
      have HB : Hid _ := hb
      obtain ⟨k, rfl⟩ := Int.eq_ofNat_of_zero_le hin.1
      obtain ⟨d, rfl⟩ := Int.eq_ofNat_of_zero_le (show 0 ≤ wd by omega)
      have hd : d ≤ 3 := by omega
      have hnb := numOf_bd ((l.drop k).take d)
      have HV : Hid (vNum l k d = numOf ((l.drop k).take d)) := rfl
      have hpl : ((l.drop k).take d).length ≤ 1099511627776 := by simp; omega
      have HP : Hid _ := piece_eq l k d
      have HO : Hid _ := hwo
      have hk1 : (k : Int) ≤ (k : Int) + (d : Int) := by omega
      have hk2 : (k : Int) + (d : Int) ≤ (l.length : Int) := by omega
      have hkl : k ≤ 1099511627776 := by omega
      clear hw hb hin hwd hwo
      go_enter Tryd.func58, Tryd.ntmps58
      go_wp2_with fail
      refine (in_any _ _ _ _).mono ?_
      rintro e w1 ⟨rfl, hw1⟩
      subst hw1
      rw [HW.out]
      clear HW
      go_wp2_with fail
      refine (in_any _ _ _ _).mono ?_
      rintro e w1 ⟨rfl, hw1⟩
      subst hw1
      rw [HB.out]
      clear HB
      go_wp2_with fail
      rw [HP.out]
      refine (sNumOf_any _ _ hpl).mono ?_
      rintro e w1 ⟨rfl, hw1⟩
      subst hw1
      obtain ⟨n, hn⟩ : ∃ n, numOf ((l.drop k).take d) = n := ⟨_, rfl⟩
      rw [hn] at hnb HV ⊢
      clear hn HP hpl
      by_cases hneg : n < 0
      · have HN : Hid _ := var_no (varOk_no (l := l) (i := k) (wd := d) (by rw [HV.out]; omega))
        go_wp2
        go_ret2
        exact ⟨str_two (by rw [HN.out.1]) HN.out.2.symm, Below.refl _ _⟩
      · obtain ⟨m, rfl⟩ := Int.eq_ofNat_of_zero_le (show 0 ≤ n by omega)
        by_cases hgt : (l.length : Int) - ((k : Int) + (d : Int)) < (m : Int)
        · have HN : Hid _ := var_no (varOk_no (l := l) (i := k) (wd := d) (by rw [HV.out]; omega))
          go_wp2
          go_ret2
          exact ⟨str_two (by rw [HN.out.1]) HN.out.2.symm, Below.refl _ _⟩
        · have hle : (m : Int) ≤ (l.length : Int) - ((k : Int) + (d : Int)) := by omega
          have HN : Hid (varL l k d = (l.drop (k + d)).take m ∧ varI l k d = (k : Int) + d + m) := by
            have h := var_yes (varOk_yes (l := l) (i := k) (wd := d) HO.out (by rw [HV.out]; omega))
            rw [HV.out] at h
            exact h
          have hkz : 0 ≤ (k : Int) + (d : Int) := by omega
          have hkm : (k : Int) + (d : Int) ≤ (k : Int) + (d : Int) + (m : Int) := by omega
          have hkl : (k : Int) + (d : Int) + (m : Int) ≤ (l.length : Int) := by omega
          have HP : Hid _ := piece_eq l (k + d) m
          clear hneg
          go_wp2
          go_ret2
          exact ⟨str_two (by rw [HN.out.1, ← HP.out]) HN.out.2.symm, Below.refl _ _⟩

end Go.Proofs.YtopgcfgomappjaaDoor
