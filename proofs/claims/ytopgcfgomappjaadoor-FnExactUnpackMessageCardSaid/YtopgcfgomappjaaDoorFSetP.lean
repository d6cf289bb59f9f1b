/- The contract of PutSet, the program's. -/
import Derived.Test.YtopgcfgomappjaaDoorFSet
namespace Go.Proofs.YtopgcfgomappjaaDoor
open Go.RowKit

set_option maxRecDepth 100000 in
set_option maxHeartbeats 1000000 in
theorem iPut_none (ao : Option Addr) (cap : Nat) (w : World) :
    Calls Tryd.prog 23 #[.slice ao 0 cap] w fun e w' => e = .returned (.tuple #[.string ⟨((putS []).getD []).toArray⟩, .bool (putS []).isSome]) ∧ Below w.heap.size w w' := by
    obtain ⟨i0, hi, hz0, hz1, hz2⟩ := info_parts info5
    have HS : Hid (ascS 1 [] = true) := rfl
    go_enter Tryd.func23, Tryd.ntmps23
    go_wp2_with fail
    refine (isSet_any ao cap [] _ (.inl rfl) (by simp)).mono ?_
    rintro e w1 ⟨rfl, hw⟩
    subst hw
    rw [HS.out]
    go_wp2_with (refine wpList_make_full _ rfl (.tmp 23) (.tmp 23) 65 rfl w1.heap.size 5 i0 (.int .u8 0) 1 Tryd.underlying65 hi hz0 hz1 .i64 .i64 _ _ 8 rfl rfl rfl rfl (by rw [hz2]; omega) (by unfold maxLen; omega) (Nat.le_refl _) ?_; intro w2 hown hg)
    rw [made5, cellsS_none] at hown
    have hb2 : Below w1.heap.size w1 w2 := (Below.refl _ _).grown hg (Nat.le_refl _) (fun k hk => by cases hk)
    clear hg
    rw [bitK_zero_small (zs := []) rfl, bitK_all [] 0 (by simp), cellsS_text] at hown
    have ht := text_own hown
    have HY : Hid (putS [] = some (setB (bitS []) 8)) := by rw [Hid, putS_yes HS.out]; rfl
    clear hown
    refine wp_loop_rounds 1 ?_
    rw [rounds_succ]
    go_wp2
    go_ret2
    exact ⟨str_ok (by rw [HY.out]; rfl) (by rw [HY.out]; rfl), hb2⟩

set_option maxRecDepth 100000 in
set_option maxHeartbeats 1000000 in
theorem iPut_wide (b off cap : Nat) (zs : List Int) (w : World) (hb : b < w.heap.size) (hcx : ∀ i, i < zs.length → w.cell? ⟨b, off + i, none⟩ = some (.int .i64 (zs.getD i 0))) (h0 : 0 < zs.length) (hl : zs.length ≤ 1048576) (hs : ascS 1 zs = true) (hw : wide zs = true) :
    Calls Tryd.prog 23 #[.slice (some ⟨b, off, none⟩) zs.length cap] w fun e w' => e = .returned (.tuple #[.string ⟨((putS zs).getD []).toArray⟩, .bool (putS zs).isSome]) ∧ Below w.heap.size w w' := by
    obtain ⟨i0, hi, hz0, hz1, hz2⟩ := info_parts info5
    have HS : Hid (ascS 1 zs = true) := hs
    have HZ : Hid (sizeS zs = 16) := by unfold sizeS; rw [Hid, if_pos hw]
    have HW : Hid (wide zs = true) := hw
    have hlast := wide_last hs (List.length_pos_iff.1 h0)
    rw [hw] at hlast
    have hlb : 64 < zs.getD (zs.length - 1) 0 := of_decide_eq_true hlast.symm
    have eL := hcx (zs.length - 1) (by omega)
    obtain ⟨y, hy⟩ : ∃ y, zs.getD (zs.length - 1) 0 = y := ⟨_, rfl⟩
    rw [hy] at hlb eL
    obtain ⟨t, ht⟩ : ∃ t, zs.length - 1 = t := ⟨_, rfl⟩
    rw [ht] at eL
    have hti : (zs.length : Int) - 1 = (t : Int) := by omega
    have hti2 : (t : Int) < (zs.length : Int) := by omega
    have h0i : (0 : Int) < (zs.length : Int) := by omega
    have HX : Hid (IntsAt w (some ⟨b, off, none⟩) zs) := .inr ⟨b, off, rfl, hb, hcx⟩
    clear hlast hy hs hw ht
    go_enter Tryd.func23, Tryd.ntmps23
    go_wp2_with fail
    refine (isSet_any _ _ _ _ HX.out (by omega)).mono ?_
    rintro e w1 ⟨rfl, hw⟩
    subst hw
    rw [HS.out]
    go_wp2_with (refine wpList_make_full _ rfl (.tmp 23) (.tmp 23) 65 rfl w1.heap.size 5 i0 (.int .u8 0) 1 Tryd.underlying65 hi hz0 hz1 .i64 .i64 _ _ 16 rfl rfl rfl rfl (by rw [hz2]; omega) (by unfold maxLen; omega) (Nat.le_refl _) ?_; intro w2 hown hg)
    rw [made5, cellsS_none] at hown
    have hb2 : Below w1.heap.size w1 w2 := (Below.refl _ _).grown hg (Nat.le_refl _) (fun k hk => by cases hk)
    clear hg
    clear eL
    go_wp2_with fail
    refine (putBit_any _ _ _ w1.heap.size 0 0 _ _ hown (by omega) (by omega) (by omega)).mono ?_
    rintro e w3 ⟨rfl, ho3, hg3⟩
    rw [bitK_zero_wide HW.out] at ho3
    have hb3 : Below w1.heap.size w1 w3 := hb2.grown hg3 hb2.size (fun q hq => by cases hq; exact Nat.le_refl _)
    clear hown hg3 hb2
    go_wp2
    go_loopw [7, 31] (fun _ i wr => ∃ k : Nat, k ≤ zs.length ∧ i = .int .i64 k ∧ wr.ownsRow w1.heap.size 5 1 (.slice (some ⟨w1.heap.size, 0, none⟩) 16 16) 16 (cellsS (bitK zs k) 16) ∧ Below w1.heap.size w1 wr) (fun _ i _ => zs.length - (intOf i).toNat)
    case atStart => exact ⟨0, Nat.zero_le _, rfl, ho3, hb3⟩
    case round =>
      obtain ⟨k, hk, rfl, ho, hbr⟩ := hrel
      clear ho3 hb3
      by_cases hlt : k < zs.length
      · have e1 : wr.cell? ⟨b, off + k, none⟩ = some (.int .i64 (zs.getD k 0)) := (hbr.cell (p := ⟨b, off + k, none⟩) hb).trans (hcx k hlt)
        have hbd := set_bd HS.out hlt
        rw [HZ.out] at hbd
        obtain ⟨x, hxn⟩ := Int.eq_ofNat_of_zero_le (show 0 ≤ zs.getD k 0 by omega)
        have HK : Hid _ := bitK_succ zs k x hlt hxn
        rw [hxn] at e1 hbd
        obtain ⟨q, hq⟩ : ∃ q, (x - 1) / 8 = q := ⟨_, rfl⟩
        obtain ⟨r, hr⟩ : ∃ r, (x - 1) % 8 = r := ⟨_, rfl⟩
        have hr8 : r < 8 := by omega
        have hqs : q < 16 := by omega
        have HX : Hid (x = 8 * q + r + 1) := by rw [Hid]; omega
        have hki : (k : Int) < (zs.length : Int) := by omega
        clear hcx hxn hq hr
        go_wp2_with fail
        rw [show (x : Int) = ((8 * q + r + 1 : Nat) : Int) from by rw [← HX.out]]
        refine (putBit_any _ _ _ w1.heap.size q r _ _ ho (by omega) hqs hr8).mono ?_
        rintro e w3 ⟨rfl, ho3, hg3⟩
        rw [← HX.out, ← HK.out] at ho3
        have hb3 : Below w1.heap.size w1 w3 := hbr.grown hg3 hbr.size (fun q hq => by cases hq; exact Nat.le_refl _)
        clear ho hg3 hbr e1
        go_wp2
        go_roundw
        case rel => exact ⟨k + 1, by omega, by go_num, ho3, hb3⟩
        case measure => simp [intOf]; omega
      · rw [bitK_all zs k (by omega), cellsS_text] at ho
        have ht := text_own ho
        have HY : Hid (putS zs = some (setB (bitS zs) 16)) := by rw [Hid, putS_yes HS.out, HZ.out]
        have hki : ¬ (k : Int) < (zs.length : Int) := by omega
        clear ho hcx
        go_wp2
        go_ret2
        exact ⟨str_ok (by rw [HY.out]; rfl) (by rw [HY.out]; rfl), hbr⟩

set_option maxRecDepth 100000 in
set_option maxHeartbeats 1000000 in
theorem iPut_small (b off cap : Nat) (zs : List Int) (w : World) (hb : b < w.heap.size) (hcx : ∀ i, i < zs.length → w.cell? ⟨b, off + i, none⟩ = some (.int .i64 (zs.getD i 0))) (h0 : 0 < zs.length) (hl : zs.length ≤ 1048576) (hs : ascS 1 zs = true) (hw : wide zs = false) :
    Calls Tryd.prog 23 #[.slice (some ⟨b, off, none⟩) zs.length cap] w fun e w' => e = .returned (.tuple #[.string ⟨((putS zs).getD []).toArray⟩, .bool (putS zs).isSome]) ∧ Below w.heap.size w w' := by
    obtain ⟨i0, hi, hz0, hz1, hz2⟩ := info_parts info5
    have HS : Hid (ascS 1 zs = true) := hs
    have HZ : Hid (sizeS zs = 8) := by unfold sizeS; rw [Hid, if_neg (by rw [hw]; decide)]
    have HW : Hid (wide zs = false) := hw
    have hlast := wide_last hs (List.length_pos_iff.1 h0)
    rw [hw] at hlast
    have hlb : zs.getD (zs.length - 1) 0 ≤ 64 := by have := of_decide_eq_false hlast.symm; omega
    have eL := hcx (zs.length - 1) (by omega)
    obtain ⟨y, hy⟩ : ∃ y, zs.getD (zs.length - 1) 0 = y := ⟨_, rfl⟩
    rw [hy] at hlb eL
    obtain ⟨t, ht⟩ : ∃ t, zs.length - 1 = t := ⟨_, rfl⟩
    rw [ht] at eL
    have hti : (zs.length : Int) - 1 = (t : Int) := by omega
    have hti2 : (t : Int) < (zs.length : Int) := by omega
    have h0i : (0 : Int) < (zs.length : Int) := by omega
    have HX : Hid (IntsAt w (some ⟨b, off, none⟩) zs) := .inr ⟨b, off, rfl, hb, hcx⟩
    clear hlast hy hs hw ht
    go_enter Tryd.func23, Tryd.ntmps23
    go_wp2_with fail
    refine (isSet_any _ _ _ _ HX.out (by omega)).mono ?_
    rintro e w1 ⟨rfl, hw⟩
    subst hw
    rw [HS.out]
    go_wp2_with (refine wpList_make_full _ rfl (.tmp 23) (.tmp 23) 65 rfl w1.heap.size 5 i0 (.int .u8 0) 1 Tryd.underlying65 hi hz0 hz1 .i64 .i64 _ _ 8 rfl rfl rfl rfl (by rw [hz2]; omega) (by unfold maxLen; omega) (Nat.le_refl _) ?_; intro w2 hown hg)
    rw [made5, cellsS_none] at hown
    have hb2 : Below w1.heap.size w1 w2 := (Below.refl _ _).grown hg (Nat.le_refl _) (fun k hk => by cases hk)
    clear hg
    rw [bitK_zero_small HW.out] at hown
    clear eL
    go_wp2
    go_loopw [7, 31] (fun _ i wr => ∃ k : Nat, k ≤ zs.length ∧ i = .int .i64 k ∧ wr.ownsRow w1.heap.size 5 1 (.slice (some ⟨w1.heap.size, 0, none⟩) 8 8) 8 (cellsS (bitK zs k) 8) ∧ Below w1.heap.size w1 wr) (fun _ i _ => zs.length - (intOf i).toNat)
    case atStart => exact ⟨0, Nat.zero_le _, rfl, hown, hb2⟩
    case round =>
      obtain ⟨k, hk, rfl, ho, hbr⟩ := hrel
      clear hown
      by_cases hlt : k < zs.length
      · have e1 : wr.cell? ⟨b, off + k, none⟩ = some (.int .i64 (zs.getD k 0)) := (hbr.cell (p := ⟨b, off + k, none⟩) hb).trans (hcx k hlt)
        have hbd := set_bd HS.out hlt
        rw [HZ.out] at hbd
        obtain ⟨x, hxn⟩ := Int.eq_ofNat_of_zero_le (show 0 ≤ zs.getD k 0 by omega)
        have HK : Hid _ := bitK_succ zs k x hlt hxn
        rw [hxn] at e1 hbd
        obtain ⟨q, hq⟩ : ∃ q, (x - 1) / 8 = q := ⟨_, rfl⟩
        obtain ⟨r, hr⟩ : ∃ r, (x - 1) % 8 = r := ⟨_, rfl⟩
        have hr8 : r < 8 := by omega
        have hqs : q < 8 := by omega
        have HX : Hid (x = 8 * q + r + 1) := by rw [Hid]; omega
        have hki : (k : Int) < (zs.length : Int) := by omega
        clear hcx hxn hq hr
        go_wp2_with fail
        rw [show (x : Int) = ((8 * q + r + 1 : Nat) : Int) from by rw [← HX.out]]
        refine (putBit_any _ _ _ w1.heap.size q r _ _ ho (by omega) hqs hr8).mono ?_
        rintro e w3 ⟨rfl, ho3, hg3⟩
        rw [← HX.out, ← HK.out] at ho3
        have hb3 : Below w1.heap.size w1 w3 := hbr.grown hg3 hbr.size (fun q hq => by cases hq; exact Nat.le_refl _)
        clear ho hg3 hbr e1
        go_wp2
        go_roundw
        case rel => exact ⟨k + 1, by omega, by go_num, ho3, hb3⟩
        case measure => simp [intOf]; omega
      · rw [bitK_all zs k (by omega), cellsS_text] at ho
        have ht := text_own ho
        have HY : Hid (putS zs = some (setB (bitS zs) 8)) := by rw [Hid, putS_yes HS.out, HZ.out]
        have hki : ¬ (k : Int) < (zs.length : Int) := by omega
        clear ho hcx
        go_wp2
        go_ret2
        exact ⟨str_ok (by rw [HY.out]; rfl) (by rw [HY.out]; rfl), hbr⟩

set_option maxRecDepth 100000 in
set_option maxHeartbeats 400000 in
theorem iPutSet_any (ao : Option Addr) (cap : Nat) (zs : List Int) (w : World) (hx : IntsAt w ao zs) (hl : zs.length ≤ 1048576) :
    Calls Tryd.prog 23 #[.slice ao zs.length cap] w fun e w' => e = .returned (.tuple #[.string ⟨((putS zs).getD []).toArray⟩, .bool (putS zs).isSome]) ∧ Below w.heap.size w w' := by
  cases hs : ascS 1 zs
  · have HN : Hid _ := putS_no hs
    go_enter Tryd.func23, Tryd.ntmps23
    go_wp2_with fail
    refine (isSet_any _ _ _ _ hx (by omega)).mono ?_
    rintro e w1 ⟨rfl, hw⟩
    subst hw
    rw [hs]
    go_wp2
    go_ret2
    exact ⟨str_ok (by rw [HN.out]; rfl) (by rw [HN.out]; rfl), Below.refl _ _⟩
  · by_cases h0 : 0 < zs.length
    · rcases hx with rfl | ⟨b, off, rfl, hb, hcx⟩
      · simp at h0
      · cases hw : wide zs
        · exact iPut_small b off cap zs w hb hcx h0 hl hs hw
        · exact iPut_wide b off cap zs w hb hcx h0 hl hs hw
    · have : zs = [] := List.eq_nil_of_length_eq_zero (by omega)
      subst this
      exact iPut_none ao cap w

end Go.Proofs.YtopgcfgomappjaaDoor
