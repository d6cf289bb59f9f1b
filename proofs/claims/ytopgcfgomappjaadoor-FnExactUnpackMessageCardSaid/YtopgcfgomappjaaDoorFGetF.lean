/- The contracts of the program's readers of a field's data. -/
import Derived.Test.YtopgcfgomappjaaDoorUnpP
import Derived.Test.YtopgcfgomappjaaDoorFGet
import Derived.Test.YtopgcfgomappjaaDoorFPutF
import Derived.Test.YtopgcfgomappjaaDoorFFits
namespace Go.Proofs.YtopgcfgomappjaaDoor
open Go.RowKit

set_option maxRecDepth 100000 in
set_option maxHeartbeats 800000 in
theorem getCounted_any (l : List UInt8) (i : Nat) (w : World) (hl : l.length ≤ 1048576) :
    Calls Tryd.prog 100 #[.string ⟨l.toArray⟩, .int .i64 i] w fun e w' => e = .returned (.tuple #[.string ⟨(if hasB l.length i 2 = true then getL l (i + 2) (numOf ((l.drop i).take 2)) else []).toArray⟩, .int .i64 (if hasB l.length i 2 = true then getI l (i + 2) (numOf ((l.drop i).take 2)) else -1)]) ∧ Below w.heap.size w w' := by
  cases hb : hasB l.length i 2
  · rw [if_neg (by decide), if_neg (by decide)]
    go_enter Tryd.func100, Tryd.ntmps100
    go_wp2_with fail
    refine (hasBytes_any _ _ _ _ (by omega)).mono ?_
    rintro e w1 ⟨rfl, hw1⟩
    subst hw1
    rw [hb]
    go_wp2
    go_ret2
    exact ⟨rfl, Below.refl _ _⟩
  · rw [if_pos rfl, if_pos rfl]
    have hin := hasB_in hb
    have HB : Hid _ := hb
    have HP : Hid _ := piece_eq l i 2
    have hpl : ((l.drop i).take 2).length ≤ 1099511627776 := by simp; omega
    have i1 : (i : Int) ≤ (i : Int) + 2 := by omega
    have i2 : (i : Int) + 2 ≤ (l.length : Int) := by omega
    clear hb hin
    go_enter Tryd.func100, Tryd.ntmps100
    go_wp2_with fail
    refine (hasBytes_any _ _ _ _ (by omega)).mono ?_
    rintro e w1 ⟨rfl, hw1⟩
    subst hw1
    rw [HB.out]
    go_wp2_with fail
    rw [HP.out]
    refine (iNumOf_any _ _ hpl).mono ?_
    rintro e w1 ⟨rfl, hw1⟩
    subst hw1
    have hnb := numOf_bd ((l.drop i).take 2)
    go_wp2_with fail
    refine (iGetDigits_any _ _ _ _ (by omega)).mono ?_
    rintro e w2 ⟨rfl, b2⟩
    go_wp2
    go_ret2
    exact ⟨rfl, b2⟩

set_option maxRecDepth 100000 in
set_option maxHeartbeats 800000 in
theorem getBytes_any (l : List UInt8) (i m : Nat) (w : World) (hl : l.length ≤ 1048576) (hm : m ≤ 999) :
    Calls Tryd.prog 101 #[.string ⟨l.toArray⟩, .int .i64 i, .int .i64 m] w fun e w' => e = .returned (.tuple #[.string ⟨(if hasB l.length i m = true then (l.drop i).take m else []).toArray⟩, .int .i64 (if hasB l.length i m = true then (i : Int) + m else -1)]) ∧ Below w.heap.size w w' := by
  cases hb : hasB l.length i m
  · rw [if_neg (by decide), if_neg (by decide)]
    go_enter Tryd.func101, Tryd.ntmps101
    go_wp2_with fail
    refine (hasBytes_any _ _ _ _ (by omega)).mono ?_
    rintro e w1 ⟨rfl, hw1⟩
    subst hw1
    rw [hb]
    go_wp2
    go_ret2
    exact ⟨rfl, Below.refl _ _⟩
  · rw [if_pos rfl, if_pos rfl]
    have hin := hasB_in hb
    have HB : Hid _ := hb
    have HP : Hid _ := piece_eq l i m
    have hpl : ((l.drop i).take m).length ≤ 1099511627776 := by simp; omega
    have i1 : (i : Int) ≤ (i : Int) + (m : Int) := by omega
    have i2 : (i : Int) + (m : Int) ≤ (l.length : Int) := by omega
    clear hb hin
    go_enter Tryd.func101, Tryd.ntmps101
    go_wp2_with fail
    refine (hasBytes_any _ _ _ _ (by omega)).mono ?_
    rintro e w1 ⟨rfl, hw1⟩
    subst hw1
    rw [HB.out]
    go_wp2_with fail
    rw [HP.out]
    refine (clone_any _ _ hpl).mono ?_
    rintro e w2 ⟨rfl, b2⟩
    go_wp2
    go_ret2
    exact ⟨rfl, b2⟩

set_option maxRecDepth 100000 in
set_option maxHeartbeats 1600000 in
theorem getData_any (l : List UInt8) (i : Nat) (n : Int) (w : World) (hl : l.length ≤ 1048576) (hn : n ∈ knowns) :
    Calls Tryd.prog 84 #[formV n, .string ⟨l.toArray⟩, .int .i64 i] w fun e w' => e = .returned (.tuple #[.string ⟨(rawL l i n).toArray⟩, .int .i64 (rawI l i n)]) ∧ Below w.heap.size w w' := by
  have hks := known_K hn
  rcases hks.1 with hk | hk | hk | hk | hk
  · rw [formV1 hk, (raw1 hk).1, (raw1 hk).2]
    have h1 := ta11 (fS n)
    clear hk hks hn
    go_enter Tryd.func84, Tryd.ntmps84
    go_wp2_with fail
    refine (iGetDigits_any _ _ _ _ (by omega)).mono ?_
    rintro e w1 ⟨rfl, b1⟩
    go_wp2
    go_ret2
    exact ⟨rfl, Below.trans (by go_grown) (b1.mono (by simp))⟩
  · rw [formV2 hk, (raw2 hk).1, (raw2 hk).2, Int.toNat_natCast]
    have h1 := ta21 (fS n)
    have h2 := ta22 (fS n)
    have hg := fun w => getCounted_any l i w hl
    generalize (if hasB l.length i 2 = true then getL l (i + 2) (numOf ((l.drop i).take 2)) else []) = A at hg ⊢
    generalize (if hasB l.length i 2 = true then getI l (i + 2) (numOf ((l.drop i).take 2)) else -1) = B at hg ⊢
    clear hk hks hn
    go_enter Tryd.func84, Tryd.ntmps84
    go_wp2_with fail
    refine (hg _).mono ?_
    rintro e w1 ⟨rfl, b1⟩
    go_wp2
    go_ret2
    exact ⟨rfl, Below.trans (by go_grown) (b1.mono (by simp))⟩
  · rw [formV3 hk, (raw3 hk).1, (raw3 hk).2, Int.toNat_natCast]
    have h1 := ta31 (fS n)
    have h2 := ta32 (fS n)
    have h3 := ta33 (fS n)
    obtain ⟨m, hm⟩ := Int.eq_ofNat_of_zero_le hks.2.1
    rw [hm] at h1 h2 h3 ⊢
    have hm9 : m ≤ 999 := by omega
    clear hk hks hn hm
    rw [Int.toNat_natCast]
    have hg := fun w => getBytes_any l i m w hl hm9
    generalize (if hasB l.length i m = true then (l.drop i).take m else []) = A at hg ⊢
    generalize (if hasB l.length i m = true then (i : Int) + m else -1) = B at hg ⊢
    go_enter Tryd.func84, Tryd.ntmps84
    go_wp2_with fail
    refine (hg _).mono ?_
    rintro e w1 ⟨rfl, b1⟩
    go_wp2
    go_ret2
    exact ⟨rfl, Below.trans (by go_grown) (b1.mono (by simp))⟩
  · rw [formV4 hk, (raw4 hk).1, (raw4 hk).2]
    have h1 := ta41 (fS n) 2
    have h2 := ta42 (fS n) 2
    have h3 := ta43 (fS n) 2
    have h4 := ta44 (fS n) 2
    clear hk hks hn
    go_enter Tryd.func84, Tryd.ntmps84
    go_wp2_with fail
    refine (iGetVar_any _ _ _ _ (by omega)).mono ?_
    rintro e w1 ⟨rfl, b1⟩
    go_wp2
    go_ret2
    exact ⟨rfl, Below.trans (by go_grown) (b1.mono (by simp))⟩
  · rw [formV5 hk, (raw5 hk).1, (raw5 hk).2]
    have h1 := ta41 (fS n) 3
    have h2 := ta42 (fS n) 3
    have h3 := ta43 (fS n) 3
    have h4 := ta44 (fS n) 3
    clear hk hks hn
    go_enter Tryd.func84, Tryd.ntmps84
    go_wp2_with fail
    refine (iGetVar_any _ _ _ _ (by omega)).mono ?_
    rintro e w1 ⟨rfl, b1⟩
    go_wp2
    go_ret2
    exact ⟨rfl, Below.trans (by go_grown) (b1.mono (by simp))⟩

end Go.Proofs.YtopgcfgomappjaaDoor
