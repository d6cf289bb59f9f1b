/- The contracts of the forms' own tests and of FieldOk, the program's and the specification's. -/
import Derived.Test.YtpenkpiffdbdmaaGreatDoorKSFForm
namespace Go.Proofs.YtpenkpiffdbdmaaGreatDoor
open Go.RowKit

theorem len_ne {d : List UInt8} {s : Int} (h : ¬ (d.length : Int) = s) : ((d.length : Int) == s) = false := by simpa using h
theorem len_eq {d : List UInt8} {s : Int} (h : (d.length : Int) = s) : ((d.length : Int) == s) = true := by simpa using h

set_option maxHeartbeats 400000 in
theorem formFits1 (s : Int) (d : List UInt8) (w : World) (hl : d.length ≤ 1099511627776) :
    Calls Tryz.prog 149 #[.agg #[.int .i64 s], .string ⟨d.toArray⟩] w fun e w' => e = .returned (.bool (fieldKS 1 s d)) ∧ Below w.heap.size w w' := by
  by_cases h : (d.length : Int) = s
  · have HE : Hid (fieldKS 1 s d = within 48 57 d) := by rw [Hid, fieldKS, if_pos rfl, decide_eq_true h, Bool.true_and]
    have hq := len_eq h
    clear h
    go_enter Tryz.func149, Tryz.ntmps149
    go_wp2_with fail
    refine (iAllDig_any d _ hl).mono ?_
    rintro e w1 ⟨rfl, hw⟩
    subst hw
    go_wp2
    go_ret
    exact ⟨one_bool HE.out.symm, (Below.refl _ _).alloc (Nat.le_refl _) _⟩
  · have HE : Hid (fieldKS 1 s d = false) := by rw [Hid, fieldKS, if_pos rfl, decide_eq_false h, Bool.false_and]
    have hq := len_ne h
    go_enter Tryz.func149, Tryz.ntmps149
    go_wp2
    go_ret
    exact ⟨one_bool HE.out.symm, (Below.refl _ _).alloc (Nat.le_refl _) _⟩

set_option maxHeartbeats 400000 in
theorem formFits2 (s : Int) (d : List UInt8) (w : World) (hl : d.length ≤ 1099511627776) :
    Calls Tryz.prog 148 #[.agg #[.int .i64 s], .string ⟨d.toArray⟩] w fun e w' => e = .returned (.bool (fieldKS 2 s d)) ∧ Below w.heap.size w w' := by
  by_cases h : (d.length : Int) ≤ s
  · have HE : Hid (fieldKS 2 s d = within 48 57 d) := by rw [Hid, fieldKS, if_neg (by decide), if_pos rfl, decide_eq_true h, Bool.true_and]
    go_enter Tryz.func148, Tryz.ntmps148
    go_wp2_with fail
    refine (iAllDig_any d _ hl).mono ?_
    rintro e w1 ⟨rfl, hw⟩
    subst hw
    go_wp2
    go_ret
    exact ⟨one_bool HE.out.symm, (Below.refl _ _).alloc (Nat.le_refl _) _⟩
  · have HE : Hid (fieldKS 2 s d = false) := by rw [Hid, fieldKS, if_neg (by decide), if_pos rfl, decide_eq_false h, Bool.false_and]
    go_enter Tryz.func148, Tryz.ntmps148
    go_wp2
    go_ret
    exact ⟨one_bool HE.out.symm, (Below.refl _ _).alloc (Nat.le_refl _) _⟩

set_option maxHeartbeats 400000 in
theorem formFits3 (s : Int) (d : List UInt8) (w : World) (hl : d.length ≤ 1099511627776) :
    Calls Tryz.prog 151 #[.agg #[.int .i64 s], .string ⟨d.toArray⟩] w fun e w' => e = .returned (.bool (fieldKS 3 s d)) ∧ Below w.heap.size w w' := by
  by_cases h : (d.length : Int) = s
  · have HE : Hid (fieldKS 3 s d = within 32 126 d) := by rw [Hid, fieldKS, if_neg (by decide), if_neg (by decide), if_pos rfl, decide_eq_true h, Bool.true_and]
    have hq := len_eq h
    clear h
    go_enter Tryz.func151, Tryz.ntmps151
    go_wp2_with fail
    refine (iPlain_any d _ hl).mono ?_
    rintro e w1 ⟨rfl, hw⟩
    subst hw
    go_wp2
    go_ret
    exact ⟨one_bool HE.out.symm, (Below.refl _ _).alloc (Nat.le_refl _) _⟩
  · have HE : Hid (fieldKS 3 s d = false) := by rw [Hid, fieldKS, if_neg (by decide), if_neg (by decide), if_pos rfl, decide_eq_false h, Bool.false_and]
    have hq := len_ne h
    go_enter Tryz.func151, Tryz.ntmps151
    go_wp2
    go_ret
    exact ⟨one_bool HE.out.symm, (Below.refl _ _).alloc (Nat.le_refl _) _⟩

set_option maxHeartbeats 400000 in
theorem formFits4 (s q : Int) (d : List UInt8) (w : World) (hl : d.length ≤ 1099511627776) :
    Calls Tryz.prog 150 #[.agg #[.int .i64 s, .int .i64 q], .string ⟨d.toArray⟩] w fun e w' => e = .returned (.bool (fieldKS 4 s d)) ∧ Below w.heap.size w w' := by
  by_cases h : (d.length : Int) ≤ s
  · have HE : Hid (fieldKS 4 s d = within 32 126 d) := by rw [Hid, fieldKS, if_neg (by decide), if_neg (by decide), if_neg (by decide), if_pos (.inl rfl), decide_eq_true h, Bool.true_and]
    go_enter Tryz.func150, Tryz.ntmps150
    go_wp2_with fail
    refine (iPlain_any d _ hl).mono ?_
    rintro e w1 ⟨rfl, hw⟩
    subst hw
    go_wp2
    go_ret
    exact ⟨one_bool HE.out.symm, (Below.refl _ _).alloc (Nat.le_refl _) _⟩
  · have HE : Hid (fieldKS 4 s d = false) := by rw [Hid, fieldKS, if_neg (by decide), if_neg (by decide), if_neg (by decide), if_pos (.inl rfl), decide_eq_false h, Bool.false_and]
    go_enter Tryz.func150, Tryz.ntmps150
    go_wp2
    go_ret
    exact ⟨one_bool HE.out.symm, (Below.refl _ _).alloc (Nat.le_refl _) _⟩

theorem ks54 (s : Int) (d : List UInt8) : fieldKS 5 s d = fieldKS 4 s d := by
  unfold fieldKS; simp

theorem method1 (v : Value) (w : World) : (method 276 105 v "loop.example/g00126/impl.fits").run Tryz.prog w = .ok (149, v) w := by kernel_rfl
theorem method2 (v : Value) (w : World) : (method 276 103 v "loop.example/g00126/impl.fits").run Tryz.prog w = .ok (148, v) w := by kernel_rfl
theorem method3 (v : Value) (w : World) : (method 276 108 v "loop.example/g00126/impl.fits").run Tryz.prog w = .ok (151, v) w := by kernel_rfl
theorem method4 (v : Value) (w : World) : (method 276 107 v "loop.example/g00126/impl.fits").run Tryz.prog w = .ok (150, v) w := by kernel_rfl

set_option maxHeartbeats 1600000 in
theorem iFieldOk_any (n : Int) (d : List UInt8) (w : World) (hl : d.length ≤ 1099511627776) :
    Calls Tryz.prog 46 #[.agg #[.int .i64 n, .string ⟨d.toArray⟩]] w fun e w' => e = .returned (.bool (fieldOk n d)) ∧ Below w.heap.size w w' := by
  by_cases h : n ∈ knowns
  · have HB : Hid _ := knB_yes h
    rcases (known_K h).1 with hk | hk | hk | hk | hk
    · have HF : Hid (formV n = .iface 105 (.agg #[.int .i64 (fS n)])) := by rw [Hid, formV, if_pos hk]
      have HO : Hid (fieldOk n d = fieldKS 1 (fS n) d) := by rw [Hid, fieldOk, hk]
      have hm := method1 (.agg #[.int .i64 (fS n)])
      clear hk h
      go_enter Tryz.func46, Tryz.ntmps46
      go_wp2_with fail
      refine (formOf_any _ _).mono ?_
      rintro e w1 ⟨rfl, hw⟩
      subst hw
      rw [HF.out, HB.out]
      go_wp2_with fail
      refine (formFits1 _ d _ hl).mono ?_
      rintro e w1 ⟨rfl, b1⟩
      go_wp2
      go_ret
      exact ⟨one_bool HO.out.symm, ((Below.refl _ _).alloc (Nat.le_refl _) _).trans (b1.mono (by simp))⟩
    · have HF : Hid (formV n = .iface 103 (.agg #[.int .i64 (fS n)])) := by rw [Hid, formV, if_neg (by rw [hk]; decide), if_pos hk]
      have HO : Hid (fieldOk n d = fieldKS 2 (fS n) d) := by rw [Hid, fieldOk, hk]
      have hm := method2 (.agg #[.int .i64 (fS n)])
      clear hk h
      go_enter Tryz.func46, Tryz.ntmps46
      go_wp2_with fail
      refine (formOf_any _ _).mono ?_
      rintro e w1 ⟨rfl, hw⟩
      subst hw
      rw [HF.out, HB.out]
      go_wp2_with fail
      refine (formFits2 _ d _ hl).mono ?_
      rintro e w1 ⟨rfl, b1⟩
      go_wp2
      go_ret
      exact ⟨one_bool HO.out.symm, ((Below.refl _ _).alloc (Nat.le_refl _) _).trans (b1.mono (by simp))⟩
    · have HF : Hid (formV n = .iface 108 (.agg #[.int .i64 (fS n)])) := by rw [Hid, formV, if_neg (by rw [hk]; decide), if_neg (by rw [hk]; decide), if_pos hk]
      have HO : Hid (fieldOk n d = fieldKS 3 (fS n) d) := by rw [Hid, fieldOk, hk]
      have hm := method3 (.agg #[.int .i64 (fS n)])
      clear hk h
      go_enter Tryz.func46, Tryz.ntmps46
      go_wp2_with fail
      refine (formOf_any _ _).mono ?_
      rintro e w1 ⟨rfl, hw⟩
      subst hw
      rw [HF.out, HB.out]
      go_wp2_with fail
      refine (formFits3 _ d _ hl).mono ?_
      rintro e w1 ⟨rfl, b1⟩
      go_wp2
      go_ret
      exact ⟨one_bool HO.out.symm, ((Below.refl _ _).alloc (Nat.le_refl _) _).trans (b1.mono (by simp))⟩
    · have HF : Hid (formV n = .iface 107 (.agg #[.int .i64 (fS n), .int .i64 2])) := by rw [Hid, formV, if_neg (by rw [hk]; decide), if_neg (by rw [hk]; decide), if_neg (by rw [hk]; decide), if_pos hk]
      have HO : Hid (fieldOk n d = fieldKS 4 (fS n) d) := by rw [Hid, fieldOk, hk]
      have hm := method4 (.agg #[.int .i64 (fS n), .int .i64 2])
      clear hk h
      go_enter Tryz.func46, Tryz.ntmps46
      go_wp2_with fail
      refine (formOf_any _ _).mono ?_
      rintro e w1 ⟨rfl, hw⟩
      subst hw
      rw [HF.out, HB.out]
      go_wp2_with fail
      refine (formFits4 _ _ d _ hl).mono ?_
      rintro e w1 ⟨rfl, b1⟩
      go_wp2
      go_ret
      exact ⟨one_bool HO.out.symm, ((Below.refl _ _).alloc (Nat.le_refl _) _).trans (b1.mono (by simp))⟩
    · have HF : Hid (formV n = .iface 107 (.agg #[.int .i64 (fS n), .int .i64 3])) := by rw [Hid, formV, if_neg (by rw [hk]; decide), if_neg (by rw [hk]; decide), if_neg (by rw [hk]; decide), if_neg (by rw [hk]; decide), if_pos hk]
      have HO : Hid (fieldOk n d = fieldKS 4 (fS n) d) := by rw [Hid, fieldOk, hk, ks54]
      have hm := method4 (.agg #[.int .i64 (fS n), .int .i64 3])
      clear hk h
      go_enter Tryz.func46, Tryz.ntmps46
      go_wp2_with fail
      refine (formOf_any _ _).mono ?_
      rintro e w1 ⟨rfl, hw⟩
      subst hw
      rw [HF.out, HB.out]
      go_wp2_with fail
      refine (formFits4 _ _ d _ hl).mono ?_
      rintro e w1 ⟨rfl, b1⟩
      go_wp2
      go_ret
      exact ⟨one_bool HO.out.symm, ((Below.refl _ _).alloc (Nat.le_refl _) _).trans (b1.mono (by simp))⟩
  · have HB : Hid _ := knB_no h
    have HO : Hid _ := fieldOk_no (d := d) h
    clear h
    go_enter Tryz.func46, Tryz.ntmps46
    go_wp2_with fail
    refine (formOf_any _ _).mono ?_
    rintro e w1 ⟨rfl, hw⟩
    subst hw
    rw [HB.out]
    go_wp2
    go_ret
    exact ⟨one_bool HO.out.symm, (Below.refl _ _).alloc (Nat.le_refl _) _⟩

end Go.Proofs.YtpenkpiffdbdmaaGreatDoor
