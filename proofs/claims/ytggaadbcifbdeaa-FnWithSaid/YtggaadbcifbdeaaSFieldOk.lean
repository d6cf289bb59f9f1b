/- The contract of the specification's FieldOk. -/
import Derived.Test.YtggaadbcifbdeaaFFits
namespace Go.Proofs.Ytggaadbcifbdeaa
open Go.RowKit

set_option maxHeartbeats 1600000 in
theorem sFieldOk_any (n : Int) (d : List UInt8) (w : World) (hl : d.length ≤ 1099511627776) :
    Calls Try.prog 21 #[.agg #[.int .i64 n, .string ⟨d.toArray⟩]] w fun e w' => e = .returned (.bool (fieldOk n d)) ∧ Below w.heap.size w w' := by
  by_cases h : n ∈ knowns
  · rcases (known_K h).1 with hk | hk | hk | hk | hk
    · by_cases hq : (d.length : Int) = fS n
      · have HO : Hid (fieldOk n d = within 48 57 d) := by rw [Hid, fieldOk, hk, fieldKS, if_pos rfl, decide_eq_true hq, Bool.true_and]
        have HK : Hid _ := hk
        have hp := len_eq hq
        clear hq
        clear hk h
        go_enter Try.func21, Try.ntmps21
        go_wp2_with fail
        refine (l04Form_any _ _).mono ?_
        rintro e w1 ⟨rfl, hw⟩
        subst hw
        rw [HK.out]
        go_wp2_with fail
        refine (sDigits_any d _ hl).mono ?_
        rintro e w1 ⟨rfl, hw⟩
        subst hw
        go_wp2
        go_ret
        exact ⟨one_bool HO.out.symm, (Below.refl _ _).alloc (Nat.le_refl _) _⟩
      · have HO : Hid (fieldOk n d = false) := by rw [Hid, fieldOk, hk, fieldKS, if_pos rfl, decide_eq_false hq, Bool.false_and]
        have HK : Hid _ := hk
        have hp := len_ne hq
        clear hk h
        go_enter Try.func21, Try.ntmps21
        go_wp2_with fail
        refine (l04Form_any _ _).mono ?_
        rintro e w1 ⟨rfl, hw⟩
        subst hw
        rw [HK.out]
        go_wp2
        go_ret
        exact ⟨one_bool HO.out.symm, (Below.refl _ _).alloc (Nat.le_refl _) _⟩
    · by_cases hq : (d.length : Int) ≤ fS n
      · have HO : Hid (fieldOk n d = within 48 57 d) := by rw [Hid, fieldOk, hk, fieldKS, if_neg (by decide), if_pos rfl, decide_eq_true hq, Bool.true_and]
        have HK : Hid _ := hk
        clear hk h
        go_enter Try.func21, Try.ntmps21
        go_wp2_with fail
        refine (l04Form_any _ _).mono ?_
        rintro e w1 ⟨rfl, hw⟩
        subst hw
        rw [HK.out]
        go_wp2_with fail
        refine (sDigits_any d _ hl).mono ?_
        rintro e w1 ⟨rfl, hw⟩
        subst hw
        go_wp2
        go_ret
        exact ⟨one_bool HO.out.symm, (Below.refl _ _).alloc (Nat.le_refl _) _⟩
      · have HO : Hid (fieldOk n d = false) := by rw [Hid, fieldOk, hk, fieldKS, if_neg (by decide), if_pos rfl, decide_eq_false hq, Bool.false_and]
        have HK : Hid _ := hk
        clear hk h
        go_enter Try.func21, Try.ntmps21
        go_wp2_with fail
        refine (l04Form_any _ _).mono ?_
        rintro e w1 ⟨rfl, hw⟩
        subst hw
        rw [HK.out]
        go_wp2
        go_ret
        exact ⟨one_bool HO.out.symm, (Below.refl _ _).alloc (Nat.le_refl _) _⟩
    · by_cases hq : (d.length : Int) = fS n
      · have HO : Hid (fieldOk n d = within 32 126 d) := by rw [Hid, fieldOk, hk, fieldKS, if_neg (by decide), if_neg (by decide), if_pos rfl, decide_eq_true hq, Bool.true_and]
        have HK : Hid _ := hk
        have hp := len_eq hq
        clear hq
        clear hk h
        go_enter Try.func21, Try.ntmps21
        go_wp2_with fail
        refine (l04Form_any _ _).mono ?_
        rintro e w1 ⟨rfl, hw⟩
        subst hw
        rw [HK.out]
        go_wp2_with fail
        refine (sPlain_any d _ hl).mono ?_
        rintro e w1 ⟨rfl, hw⟩
        subst hw
        go_wp2
        go_ret
        exact ⟨one_bool HO.out.symm, (Below.refl _ _).alloc (Nat.le_refl _) _⟩
      · have HO : Hid (fieldOk n d = false) := by rw [Hid, fieldOk, hk, fieldKS, if_neg (by decide), if_neg (by decide), if_pos rfl, decide_eq_false hq, Bool.false_and]
        have HK : Hid _ := hk
        have hp := len_ne hq
        clear hk h
        go_enter Try.func21, Try.ntmps21
        go_wp2_with fail
        refine (l04Form_any _ _).mono ?_
        rintro e w1 ⟨rfl, hw⟩
        subst hw
        rw [HK.out]
        go_wp2
        go_ret
        exact ⟨one_bool HO.out.symm, (Below.refl _ _).alloc (Nat.le_refl _) _⟩
    · by_cases hq : (d.length : Int) ≤ fS n
      · have HO : Hid (fieldOk n d = within 32 126 d) := by rw [Hid, fieldOk, hk, fieldKS, if_neg (by decide), if_neg (by decide), if_neg (by decide), if_pos (.inl rfl), decide_eq_true hq, Bool.true_and]
        have HK : Hid _ := hk
        clear hk h
        go_enter Try.func21, Try.ntmps21
        go_wp2_with fail
        refine (l04Form_any _ _).mono ?_
        rintro e w1 ⟨rfl, hw⟩
        subst hw
        rw [HK.out]
        go_wp2_with fail
        refine (sPlain_any d _ hl).mono ?_
        rintro e w1 ⟨rfl, hw⟩
        subst hw
        go_wp2
        go_ret
        exact ⟨one_bool HO.out.symm, (Below.refl _ _).alloc (Nat.le_refl _) _⟩
      · have HO : Hid (fieldOk n d = false) := by rw [Hid, fieldOk, hk, fieldKS, if_neg (by decide), if_neg (by decide), if_neg (by decide), if_pos (.inl rfl), decide_eq_false hq, Bool.false_and]
        have HK : Hid _ := hk
        clear hk h
        go_enter Try.func21, Try.ntmps21
        go_wp2_with fail
        refine (l04Form_any _ _).mono ?_
        rintro e w1 ⟨rfl, hw⟩
        subst hw
        rw [HK.out]
        go_wp2
        go_ret
        exact ⟨one_bool HO.out.symm, (Below.refl _ _).alloc (Nat.le_refl _) _⟩
    · by_cases hq : (d.length : Int) ≤ fS n
      · have HO : Hid (fieldOk n d = within 32 126 d) := by rw [Hid, fieldOk, hk, ks54, fieldKS, if_neg (by decide), if_neg (by decide), if_neg (by decide), if_pos (.inl rfl), decide_eq_true hq, Bool.true_and]
        have HK : Hid _ := hk
        clear hk h
        go_enter Try.func21, Try.ntmps21
        go_wp2_with fail
        refine (l04Form_any _ _).mono ?_
        rintro e w1 ⟨rfl, hw⟩
        subst hw
        rw [HK.out]
        go_wp2_with fail
        refine (sPlain_any d _ hl).mono ?_
        rintro e w1 ⟨rfl, hw⟩
        subst hw
        go_wp2
        go_ret
        exact ⟨one_bool HO.out.symm, (Below.refl _ _).alloc (Nat.le_refl _) _⟩
      · have HO : Hid (fieldOk n d = false) := by rw [Hid, fieldOk, hk, ks54, fieldKS, if_neg (by decide), if_neg (by decide), if_neg (by decide), if_pos (.inl rfl), decide_eq_false hq, Bool.false_and]
        have HK : Hid _ := hk
        clear hk h
        go_enter Try.func21, Try.ntmps21
        go_wp2_with fail
        refine (l04Form_any _ _).mono ?_
        rintro e w1 ⟨rfl, hw⟩
        subst hw
        rw [HK.out]
        go_wp2
        go_ret
        exact ⟨one_bool HO.out.symm, (Below.refl _ _).alloc (Nat.le_refl _) _⟩
  · have HK : Hid _ := fK_no h
    have HO : Hid _ := fieldOk_no (d := d) h
    clear h
    go_enter Try.func21, Try.ntmps21
    go_wp2_with fail
    refine (l04Form_any _ _).mono ?_
    rintro e w1 ⟨rfl, hw⟩
    subst hw
    rw [HK.out]
    go_wp2
    go_ret
    exact ⟨one_bool HO.out.symm, (Below.refl _ _).alloc (Nat.le_refl _) _⟩

end Go.Proofs.Ytggaadbcifbdeaa
