/- The contract of the specification's reader of one field. -/
import Derived.Test.YtbncdhfmhokgeaaGreatDoorJFnBatch1a
import Derived.Test.YtbncdhfmhokgeaaGreatDoorKFnBatchSGet
import Derived.Test.YtbncdhfmhokgeaaGreatDoorKFnBatchSFieldOk
import Derived.Test.YtbncdhfmhokgeaaGreatDoorKFnBatchFForm
import Derived.Test.YtbncdhfmhokgeaaGreatDoorJFnBatch0a
namespace Go.Proofs.YtbncdhfmhokgeaaGreatDoor
open Go.RowKit

def getE (l : List UInt8) (a n : Int) : Ending := if fldAt l a n = true then .returned (.tuple #[.string ⟨(rawL l a n).toArray⟩, .int .i64 (rawI l a n)]) else .returned (.tuple #[.string ⟨#[]⟩, .int .i64 (-1)])
theorem getE_no {l : List UInt8} {a n : Int} (h : fldAt l a n = false) : getE l a n = .returned (.tuple #[.string ⟨#[]⟩, .int .i64 (-1)]) := by unfold getE; rw [h]; rfl
theorem getE_yes {l : List UInt8} {a n : Int} (h : fldAt l a n = true) : getE l a n = .returned (.tuple #[.string ⟨(rawL l a n).toArray⟩, .int .i64 (rawI l a n)]) := by unfold getE; rw [h]; rfl

theorem at_neg {l : List UInt8} {a n : Int} (h : rawI l a n < 0) : fldAt l a n = false := by simp [fldAt]; omega
theorem at_is {l : List UInt8} {a n : Int} {r : List UInt8} {p : Int} {b : Bool} (hr : rawL l a n = r) (hp : rawI l a n = p) (h0 : 0 ≤ p) (hb : fieldOk n r = b) : fldAt l a n = b := by simp [fldAt, hr, hp, hb, h0]

set_option maxRecDepth 100000 in
set_option maxHeartbeats 1600000 in
theorem l04Get_1 (l : List UInt8) (i : Nat) (n : Int) (w : World) (hl : l.length ≤ 1048576) (hk : fK n = 1) :
    Calls Tryz.prog 53 #[.string ⟨l.toArray⟩, .int .i64 i, .int .i64 n] w fun e w' => e = getE l i n ∧ Below w.heap.size w w' := by
  have HK : Hid _ := hk
  have hg := fun w => sGetDigits_any l i (fS n) w (by omega)
  have hrl := rawL_len l i n hl
  obtain ⟨r, hr⟩ : ∃ x, rawL l i n = x := ⟨_, rfl⟩
  obtain ⟨p, hp⟩ : ∃ x, rawI l i n = x := ⟨_, rfl⟩
  obtain ⟨E, hE⟩ : ∃ x, getE l i n = x := ⟨_, rfl⟩
  rw [hE]
  rw [hr] at hrl
  rw [← (raw1 (l := l) (i := i) hk).1, ← (raw1 (l := l) (i := i) hk).2, hr, hp] at hg
  clear hk
  by_cases hneg : p < 0
  · have HT : Hid _ := getE_no (at_neg (show rawI l i n < 0 by rw [hp]; exact hneg))
    rw [hE] at HT
    clear hr hp hE
    go_enter Tryz.func53, Tryz.ntmps53
    go_wp2_with fail
    refine (l04Form_any _ _).mono ?_
    rintro e w1 ⟨rfl, hw⟩
    subst hw
    rw [HK.out]
    go_wp2_with fail
    refine (hg _).mono ?_
    rintro e w2 ⟨rfl, b2⟩
    go_wp2
    go_ret2
    exact ⟨HT.out.symm, b2⟩
  · have hpos : 0 ≤ p := by omega
    cases ho : fieldOk n r
    · have HT : Hid _ := getE_no (at_is hr hp hpos ho)
      rw [hE] at HT
      clear hr hp hE hneg
      go_enter Tryz.func53, Tryz.ntmps53
      go_wp2_with fail
      refine (l04Form_any _ _).mono ?_
      rintro e w1 ⟨rfl, hw⟩
      subst hw
      rw [HK.out]
      go_wp2_with fail
      refine (hg _).mono ?_
      rintro e w2 ⟨rfl, b2⟩
      go_wp2_with fail
      refine (sFieldOk_any n r _ hrl).mono ?_
      rintro e w9 ⟨rfl, b9⟩
      rw [ho]
      go_wp2
      go_ret2
      exact ⟨HT.out.symm, b2.trans (b9.mono b2.size)⟩
    · have HT : Hid _ := getE_yes (at_is hr hp hpos ho)
      rw [hr, hp, hE] at HT
      clear hr hp hE hneg
      go_enter Tryz.func53, Tryz.ntmps53
      go_wp2_with fail
      refine (l04Form_any _ _).mono ?_
      rintro e w1 ⟨rfl, hw⟩
      subst hw
      rw [HK.out]
      go_wp2_with fail
      refine (hg _).mono ?_
      rintro e w2 ⟨rfl, b2⟩
      go_wp2_with fail
      refine (sFieldOk_any n r _ hrl).mono ?_
      rintro e w9 ⟨rfl, b9⟩
      rw [ho]
      go_wp2
      go_ret2
      exact ⟨HT.out.symm, b2.trans (b9.mono b2.size)⟩

set_option maxRecDepth 100000 in
set_option maxHeartbeats 1600000 in
theorem l04Get_4 (l : List UInt8) (i : Nat) (n : Int) (w : World) (hl : l.length ≤ 1048576) (hk : fK n = 4) :
    Calls Tryz.prog 53 #[.string ⟨l.toArray⟩, .int .i64 i, .int .i64 n] w fun e w' => e = getE l i n ∧ Below w.heap.size w w' := by
  have HK : Hid _ := hk
  have hg := fun w => sGetVar_any l i 2 w (by omega)
  have hrl := rawL_len l i n hl
  obtain ⟨r, hr⟩ : ∃ x, rawL l i n = x := ⟨_, rfl⟩
  obtain ⟨p, hp⟩ : ∃ x, rawI l i n = x := ⟨_, rfl⟩
  obtain ⟨E, hE⟩ : ∃ x, getE l i n = x := ⟨_, rfl⟩
  rw [hE]
  rw [hr] at hrl
  rw [← (raw4 (l := l) (i := i) hk).1, ← (raw4 (l := l) (i := i) hk).2, hr, hp] at hg
  clear hk
  by_cases hneg : p < 0
  · have HT : Hid _ := getE_no (at_neg (show rawI l i n < 0 by rw [hp]; exact hneg))
    rw [hE] at HT
    clear hr hp hE
    go_enter Tryz.func53, Tryz.ntmps53
    go_wp2_with fail
    refine (l04Form_any _ _).mono ?_
    rintro e w1 ⟨rfl, hw⟩
    subst hw
    rw [HK.out]
    go_wp2_with fail
    refine (hg _).mono ?_
    rintro e w2 ⟨rfl, b2⟩
    go_wp2
    go_ret2
    exact ⟨HT.out.symm, b2⟩
  · have hpos : 0 ≤ p := by omega
    cases ho : fieldOk n r
    · have HT : Hid _ := getE_no (at_is hr hp hpos ho)
      rw [hE] at HT
      clear hr hp hE hneg
      go_enter Tryz.func53, Tryz.ntmps53
      go_wp2_with fail
      refine (l04Form_any _ _).mono ?_
      rintro e w1 ⟨rfl, hw⟩
      subst hw
      rw [HK.out]
      go_wp2_with fail
      refine (hg _).mono ?_
      rintro e w2 ⟨rfl, b2⟩
      go_wp2_with fail
      refine (sFieldOk_any n r _ hrl).mono ?_
      rintro e w9 ⟨rfl, b9⟩
      rw [ho]
      go_wp2
      go_ret2
      exact ⟨HT.out.symm, b2.trans (b9.mono b2.size)⟩
    · have HT : Hid _ := getE_yes (at_is hr hp hpos ho)
      rw [hr, hp, hE] at HT
      clear hr hp hE hneg
      go_enter Tryz.func53, Tryz.ntmps53
      go_wp2_with fail
      refine (l04Form_any _ _).mono ?_
      rintro e w1 ⟨rfl, hw⟩
      subst hw
      rw [HK.out]
      go_wp2_with fail
      refine (hg _).mono ?_
      rintro e w2 ⟨rfl, b2⟩
      go_wp2_with fail
      refine (sFieldOk_any n r _ hrl).mono ?_
      rintro e w9 ⟨rfl, b9⟩
      rw [ho]
      go_wp2
      go_ret2
      exact ⟨HT.out.symm, b2.trans (b9.mono b2.size)⟩

set_option maxRecDepth 100000 in
set_option maxHeartbeats 1600000 in
theorem l04Get_5 (l : List UInt8) (i : Nat) (n : Int) (w : World) (hl : l.length ≤ 1048576) (hk : fK n = 5) :
    Calls Tryz.prog 53 #[.string ⟨l.toArray⟩, .int .i64 i, .int .i64 n] w fun e w' => e = getE l i n ∧ Below w.heap.size w w' := by
  have HK : Hid _ := hk
  have hg := fun w => sGetVar_any l i 3 w (by omega)
  have hrl := rawL_len l i n hl
  obtain ⟨r, hr⟩ : ∃ x, rawL l i n = x := ⟨_, rfl⟩
  obtain ⟨p, hp⟩ : ∃ x, rawI l i n = x := ⟨_, rfl⟩
  obtain ⟨E, hE⟩ : ∃ x, getE l i n = x := ⟨_, rfl⟩
  rw [hE]
  rw [hr] at hrl
  rw [← (raw5 (l := l) (i := i) hk).1, ← (raw5 (l := l) (i := i) hk).2, hr, hp] at hg
  clear hk
  by_cases hneg : p < 0
  · have HT : Hid _ := getE_no (at_neg (show rawI l i n < 0 by rw [hp]; exact hneg))
    rw [hE] at HT
    clear hr hp hE
    go_enter Tryz.func53, Tryz.ntmps53
    go_wp2_with fail
    refine (l04Form_any _ _).mono ?_
    rintro e w1 ⟨rfl, hw⟩
    subst hw
    rw [HK.out]
    go_wp2_with fail
    refine (hg _).mono ?_
    rintro e w2 ⟨rfl, b2⟩
    go_wp2
    go_ret2
    exact ⟨HT.out.symm, b2⟩
  · have hpos : 0 ≤ p := by omega
    cases ho : fieldOk n r
    · have HT : Hid _ := getE_no (at_is hr hp hpos ho)
      rw [hE] at HT
      clear hr hp hE hneg
      go_enter Tryz.func53, Tryz.ntmps53
      go_wp2_with fail
      refine (l04Form_any _ _).mono ?_
      rintro e w1 ⟨rfl, hw⟩
      subst hw
      rw [HK.out]
      go_wp2_with fail
      refine (hg _).mono ?_
      rintro e w2 ⟨rfl, b2⟩
      go_wp2_with fail
      refine (sFieldOk_any n r _ hrl).mono ?_
      rintro e w9 ⟨rfl, b9⟩
      rw [ho]
      go_wp2
      go_ret2
      exact ⟨HT.out.symm, b2.trans (b9.mono b2.size)⟩
    · have HT : Hid _ := getE_yes (at_is hr hp hpos ho)
      rw [hr, hp, hE] at HT
      clear hr hp hE hneg
      go_enter Tryz.func53, Tryz.ntmps53
      go_wp2_with fail
      refine (l04Form_any _ _).mono ?_
      rintro e w1 ⟨rfl, hw⟩
      subst hw
      rw [HK.out]
      go_wp2_with fail
      refine (hg _).mono ?_
      rintro e w2 ⟨rfl, b2⟩
      go_wp2_with fail
      refine (sFieldOk_any n r _ hrl).mono ?_
      rintro e w9 ⟨rfl, b9⟩
      rw [ho]
      go_wp2
      go_ret2
      exact ⟨HT.out.symm, b2.trans (b9.mono b2.size)⟩

set_option maxRecDepth 100000 in
set_option maxHeartbeats 1600000 in
theorem l04Get_0 (l : List UInt8) (i : Nat) (n : Int) (w : World) (hk : fK n = 0) :
    Calls Tryz.prog 53 #[.string ⟨l.toArray⟩, .int .i64 i, .int .i64 n] w fun e w' => e = getE l i n ∧ Below w.heap.size w w' := by
  have HK : Hid _ := hk
  have HT : Hid _ := getE_no (at_neg (show rawI l i n < 0 by rw [(raw0 hk).2]; decide))
  obtain ⟨E, hE⟩ : ∃ x, getE l i n = x := ⟨_, rfl⟩
  rw [hE] at HT ⊢
  clear hk hE
  go_enter Tryz.func53, Tryz.ntmps53
  go_wp2_with fail
  refine (l04Form_any _ _).mono ?_
  rintro e w1 ⟨rfl, hw⟩
  subst hw
  rw [HK.out]
  go_wp2
  go_ret2
  exact ⟨HT.out.symm, Below.refl _ _⟩

set_option maxRecDepth 100000 in
set_option maxHeartbeats 1600000 in
theorem l04Get_3 (l : List UInt8) (i : Nat) (n : Int) (w : World) (hl : l.length ≤ 1048576) (hi : i ≤ l.length) (hk : fK n = 3) (hs0 : 0 ≤ fS n) (hs1 : fS n ≤ 999) :
    Calls Tryz.prog 53 #[.string ⟨l.toArray⟩, .int .i64 i, .int .i64 n] w fun e w' => e = getE l i n ∧ Below w.heap.size w w' := by
  have HK : Hid _ := hk
  obtain ⟨m, hm⟩ := Int.eq_ofNat_of_zero_le hs0
  have hR := raw3 (l := l) (i := i) hk
  rw [hm] at hs1 hR
  have HM : Hid _ := hm
  by_cases hfit : (m : Int) ≤ (l.length : Int) - (i : Int)
  · rw [if_pos (hasB_pos (by omega) (by omega) hfit), if_pos (hasB_pos (by omega) (by omega) hfit), Int.toNat_natCast, Int.toNat_natCast] at hR
    have HP : Hid _ := piece_eq l i m
    have i1 : (i : Int) ≤ (i : Int) + (m : Int) := by omega
    have i2 : (i : Int) + (m : Int) ≤ (l.length : Int) := by omega
    have hrl := rawL_len l i n hl
    obtain ⟨E, hE⟩ : ∃ x, getE l i n = x := ⟨_, rfl⟩
    rw [hE]
    rw [hR.1] at hrl
    have hpos : (0 : Int) ≤ (i : Int) + (m : Int) := by omega
    clear hs0 hk hm
    cases ho : fieldOk n ((l.drop i).take m)
    · have HT : Hid _ := getE_no (at_is hR.1 hR.2 hpos ho)
      rw [hE] at HT
      clear hE hR hi
      go_enter Tryz.func53, Tryz.ntmps53
      go_wp2_with fail
      refine (l04Form_any _ _).mono ?_
      rintro e w1 ⟨rfl, hw⟩
      subst hw
      rw [HK.out]
      rw [HM.out]
      go_wp2_with fail
      rw [HP.out]
      refine (sFieldOk_any n _ _ hrl).mono ?_
      rintro e w9 ⟨rfl, b9⟩
      rw [ho]
      go_wp2
      go_ret2
      exact ⟨HT.out.symm, b9⟩
    · have HT : Hid _ := getE_yes (at_is hR.1 hR.2 hpos ho)
      rw [hR.1, hR.2, hE] at HT
      clear hE hR hi
      go_enter Tryz.func53, Tryz.ntmps53
      go_wp2_with fail
      refine (l04Form_any _ _).mono ?_
      rintro e w1 ⟨rfl, hw⟩
      subst hw
      rw [HK.out]
      rw [HM.out]
      go_wp2_with fail
      rw [HP.out]
      refine (sFieldOk_any n _ _ hrl).mono ?_
      rintro e w9 ⟨rfl, b9⟩
      rw [ho]
      go_wp2
      go_ret2
      exact ⟨HT.out.symm, b9⟩
  · rw [if_neg (by rw [hasB_neg (by omega)]; decide), if_neg (by rw [hasB_neg (by omega)]; decide)] at hR
    have HT : Hid _ := getE_no (at_neg (show rawI l i n < 0 by rw [hR.2]; decide))
    obtain ⟨E, hE⟩ : ∃ x, getE l i n = x := ⟨_, rfl⟩
    rw [hE] at HT ⊢
    clear hs0 hk hm hE hR
    go_enter Tryz.func53, Tryz.ntmps53
    go_wp2_with fail
    refine (l04Form_any _ _).mono ?_
    rintro e w1 ⟨rfl, hw⟩
    subst hw
    rw [HK.out]
    rw [HM.out]
    go_wp2
    go_ret2
    exact ⟨HT.out.symm, Below.refl _ _⟩

set_option maxRecDepth 100000 in
set_option maxHeartbeats 1600000 in
theorem l04Get_2 (l : List UInt8) (i : Nat) (n : Int) (w : World) (hl : l.length ≤ 1048576) (hi : i ≤ l.length) (hk : fK n = 2) :
    Calls Tryz.prog 53 #[.string ⟨l.toArray⟩, .int .i64 i, .int .i64 n] w fun e w' => e = getE l i n ∧ Below w.heap.size w w' := by
  have HK : Hid _ := hk
  have hR := raw2 (l := l) (i := i) hk
  rw [Int.toNat_natCast] at hR
  by_cases hfit : (i : Int) + 2 ≤ (l.length : Int)
  · rw [if_pos (hasB_pos (by omega) (by omega) (by omega)), if_pos (hasB_pos (by omega) (by omega) (by omega))] at hR
    have HP : Hid _ := piece_eq l i 2
    have hpl : ((l.drop i).take 2).length ≤ 1099511627776 := by simp; omega
    have i1 : (i : Int) ≤ (i : Int) + 2 := by omega
    cases hd : within 48 57 ((l.drop i).take 2)
    · rw [numOf_no2 hd, (get_no (getOk_out (by omega))).2] at hR
      have HT : Hid _ := getE_no (at_neg (show rawI l i n < 0 by rw [hR.2]; decide))
      obtain ⟨E, hE⟩ : ∃ x, getE l i n = x := ⟨_, rfl⟩
      rw [hE] at HT ⊢
      clear hk hE hR hi
      go_enter Tryz.func53, Tryz.ntmps53
      go_wp2_with fail
      refine (l04Form_any _ _).mono ?_
      rintro e w1 ⟨rfl, hw⟩
      subst hw
      rw [HK.out]
      go_wp2_with fail
      rw [HP.out]
      refine (sDigits_any _ _ hpl).mono ?_
      rintro e w3 ⟨rfl, hw3⟩
      subst hw3
      rw [hd]
      go_wp2
      go_ret2
      exact ⟨HT.out.symm, Below.refl _ _⟩
    · have hnb := numOf_bd ((l.drop i).take 2)
      obtain ⟨q, hq⟩ : ∃ x, numOf ((l.drop i).take 2) = x := ⟨_, rfl⟩
      have HQ : Hid _ := hq
      rw [hq] at hR hnb
      have hg := fun w => sGetDigits_any l (i + 2) q w (by omega)
      have hrl := rawL_len l i n hl
      obtain ⟨r, hr⟩ : ∃ x, rawL l i n = x := ⟨_, rfl⟩
      obtain ⟨p, hp⟩ : ∃ x, rawI l i n = x := ⟨_, rfl⟩
      obtain ⟨E, hE⟩ : ∃ x, getE l i n = x := ⟨_, rfl⟩
      rw [hE]
      rw [hr] at hrl
      rw [← hR.1, ← hR.2, hr, hp] at hg
      clear hk hR hq hi
      by_cases hneg : p < 0
      · have HT : Hid _ := getE_no (at_neg (show rawI l i n < 0 by rw [hp]; exact hneg))
        rw [hE] at HT
        clear hr hp hE
        go_enter Tryz.func53, Tryz.ntmps53
        go_wp2_with fail
        refine (l04Form_any _ _).mono ?_
        rintro e w1 ⟨rfl, hw⟩
        subst hw
        rw [HK.out]
        go_wp2_with fail
        rw [HP.out]
        refine (sDigits_any _ _ hpl).mono ?_
        rintro e w3 ⟨rfl, hw3⟩
        subst hw3
        rw [hd]
        go_wp2_with fail
        rw [HP.out]
        refine (sNumOf_any _ _ hpl).mono ?_
        rintro e w3 ⟨rfl, hw3⟩
        subst hw3
        rw [HQ.out]
        go_wp2_with fail
        refine (hg _).mono ?_
        rintro e w2 ⟨rfl, b2⟩
        go_wp2
        go_ret2
        exact ⟨HT.out.symm, b2⟩
      · have hpos : 0 ≤ p := by omega
        cases ho : fieldOk n r
        · have HT : Hid _ := getE_no (at_is hr hp hpos ho)
          rw [hE] at HT
          clear hr hp hE hneg
          go_enter Tryz.func53, Tryz.ntmps53
          go_wp2_with fail
          refine (l04Form_any _ _).mono ?_
          rintro e w1 ⟨rfl, hw⟩
          subst hw
          rw [HK.out]
          go_wp2_with fail
          rw [HP.out]
          refine (sDigits_any _ _ hpl).mono ?_
          rintro e w3 ⟨rfl, hw3⟩
          subst hw3
          rw [hd]
          go_wp2_with fail
          rw [HP.out]
          refine (sNumOf_any _ _ hpl).mono ?_
          rintro e w3 ⟨rfl, hw3⟩
          subst hw3
          rw [HQ.out]
          go_wp2_with fail
          refine (hg _).mono ?_
          rintro e w2 ⟨rfl, b2⟩
          go_wp2_with fail
          refine (sFieldOk_any n r _ hrl).mono ?_
          rintro e w9 ⟨rfl, b9⟩
          rw [ho]
          go_wp2
          go_ret2
          exact ⟨HT.out.symm, b2.trans (b9.mono b2.size)⟩
        · have HT : Hid _ := getE_yes (at_is hr hp hpos ho)
          rw [hr, hp, hE] at HT
          clear hr hp hE hneg
          go_enter Tryz.func53, Tryz.ntmps53
          go_wp2_with fail
          refine (l04Form_any _ _).mono ?_
          rintro e w1 ⟨rfl, hw⟩
          subst hw
          rw [HK.out]
          go_wp2_with fail
          rw [HP.out]
          refine (sDigits_any _ _ hpl).mono ?_
          rintro e w3 ⟨rfl, hw3⟩
          subst hw3
          rw [hd]
          go_wp2_with fail
          rw [HP.out]
          refine (sNumOf_any _ _ hpl).mono ?_
          rintro e w3 ⟨rfl, hw3⟩
          subst hw3
          rw [HQ.out]
          go_wp2_with fail
          refine (hg _).mono ?_
          rintro e w2 ⟨rfl, b2⟩
          go_wp2_with fail
          refine (sFieldOk_any n r _ hrl).mono ?_
          rintro e w9 ⟨rfl, b9⟩
          rw [ho]
          go_wp2
          go_ret2
          exact ⟨HT.out.symm, b2.trans (b9.mono b2.size)⟩
  · rw [if_neg (by rw [hasB_neg (by omega)]; decide), if_neg (by rw [hasB_neg (by omega)]; decide)] at hR
    have HT : Hid _ := getE_no (at_neg (show rawI l i n < 0 by rw [hR.2]; decide))
    obtain ⟨E, hE⟩ : ∃ x, getE l i n = x := ⟨_, rfl⟩
    rw [hE] at HT ⊢
    clear hk hE hR
    go_enter Tryz.func53, Tryz.ntmps53
    go_wp2_with fail
    refine (l04Form_any _ _).mono ?_
    rintro e w1 ⟨rfl, hw⟩
    subst hw
    rw [HK.out]
    go_wp2
    go_ret2
    exact ⟨HT.out.symm, Below.refl _ _⟩

theorem l04Get_any (l : List UInt8) (i : Nat) (n : Int) (w : World) (hl : l.length ≤ 1048576) (hi : i ≤ l.length) :
    Calls Tryz.prog 53 #[.string ⟨l.toArray⟩, .int .i64 i, .int .i64 n] w fun e w' => e = getE l i n ∧ Below w.heap.size w w' := by
  by_cases h : n ∈ knowns
  · have hks := known_K h
    rcases hks.1 with hk | hk | hk | hk | hk
    · exact l04Get_1 l i n w hl hk
    · exact l04Get_2 l i n w hl hi hk
    · exact l04Get_3 l i n w hl hi hk hks.2.1 hks.2.2.1
    · exact l04Get_4 l i n w hl hk
    · exact l04Get_5 l i n w hl hk
  · exact l04Get_0 l i n w (fK_no h)

end Go.Proofs.YtbncdhfmhokgeaaGreatDoor
