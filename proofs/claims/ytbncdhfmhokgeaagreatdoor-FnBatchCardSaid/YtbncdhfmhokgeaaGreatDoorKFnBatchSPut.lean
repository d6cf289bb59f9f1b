/- The contract of the specification's PutDigits. -/
import Derived.Test.YtbncdhfmhokgeaaGreatDoorJFnBatch0a
namespace Go.Proofs.YtbncdhfmhokgeaaGreatDoor
open Go.RowKit

theorem wrap8 {x : Int} (h0 : 0 ≤ x) (h1 : x ≤ 255) : IntKind.u8.wrap x = x := by
  simp [IntKind.wrap, IntKind.bits, IntKind.signed]; omega
theorem own0 (w : World) : (w.alloc (.cells #[] 5)).ownsRow w.heap.size 5 1 (.slice (some ⟨w.heap.size, 0, none⟩) 0 0) 0 [] := World.ownsRow_lit w #[] 0 (Nat.le_refl _) (by unfold maxLen; omega) rfl
theorem pkB_nat {e : List UInt8} (hd : within 48 57 e = true) (j : Nat) : (pkB e j).toNat = dg e (2 * j) * 16 + dg e (2 * j + 1) := by
  have a := dg_le hd (2 * j)
  have b := dg_le hd (2 * j + 1)
  unfold pkB; rw [UInt8.toNat_ofNat']; omega

set_option maxRecDepth 100000 in
set_option maxHeartbeats 1000000 in
theorem sPutDigits_any (l : List UInt8) (w : World) (hl : l.length ≤ 1099511627776) :
    Calls Tryz.prog 91 #[.string ⟨l.toArray⟩] w fun e w' => e = .returned (.tuple #[.string ⟨((putD l).getD []).toArray⟩, .bool (putD l).isSome]) ∧ Below w.heap.size w w' := by
  cases hd : within 48 57 l
  · have HN : Hid _ := putD_no1 hd
    go_enter Tryz.func91, Tryz.ntmps91
    go_wp2_with fail
    refine (sDigits_any _ _ hl).mono ?_
    rintro e w1 ⟨rfl, hw⟩
    subst hw
    rw [hd]
    go_wp2
    go_ret2
    exact ⟨str_ok (by rw [HN.out]; rfl) (by rw [HN.out]; rfl), Below.refl _ _⟩
  · have HD : Hid _ := hd
    by_cases hbig : 100 < l.length
    · have HN : Hid _ := putD_no2 hbig
      have hbi : (100 : Int) < (l.length : Int) := by omega
      clear hd
      go_enter Tryz.func91, Tryz.ntmps91
      go_wp2_with fail
      refine (sDigits_any _ _ hl).mono ?_
      rintro e w1 ⟨rfl, hw⟩
      subst hw
      rw [HD.out]
      go_wp2
      go_ret2
      exact ⟨str_ok (by rw [HN.out]; rfl) (by rw [HN.out]; rfl), Below.refl _ _⟩
    · have hbi : (l.length : Int) ≤ 100 := by omega
      have hl1 : l.length ≤ 100 := by omega
      have HY : Hid _ := putD_yes hd hl1
      have HE : Hid (within 48 57 (padE l) = true) := padE_dig hd
      have HL : Hid _ := padE_len l
      obtain ⟨i0, hi, hz0, hz1, hz2⟩ := info_parts info5
      clear hd
      by_cases hodd : l.length % 2 = 1
      · have ho1 : (l.length : Int) % 2 = 1 := by omega
        have HP : Hid ((⟨#[48]⟩ : ByteArray) ++ ⟨l.toArray⟩ = ⟨(padE l).toArray⟩) := by rw [Hid, padE_odd hodd]; exact ba_append [48] l
        have own := own0 w
        have bel0 : Below w.heap.size w (w.alloc (.cells #[] 5)) := (Below.refl _ _).alloc (Nat.le_refl _) _
        go_enter Tryz.func91, Tryz.ntmps91
        go_wp2_with fail
        refine (sDigits_any _ _ hl).mono ?_
        rintro e w1 ⟨rfl, hw⟩
        subst hw
        rw [HD.out]
        go_wp2
        rw [HP.out]
        obtain ⟨m, hm⟩ : ∃ m, (l.length + 1) / 2 = m := ⟨_, rfl⟩
        have hm50 : m ≤ 50 := by omega
        have hel : (padE l).length = 2 * m := by rw [HL.out, hm]
        obtain ⟨e, he⟩ : ∃ e, padE l = e := ⟨_, rfl⟩
        rw [hm] at HY
        rw [he] at hel HE HY ⊢
        clear HP HL hm he HD hbi hl1 hbig ho1 hodd hl
        go_loopw [4, 5] (fun v i wr => ∃ j : Nat, j ≤ m ∧ i = .int .i64 (2 * j : Nat) ∧ wr.ownsRow w1.heap.size 5 1 v j ((pkL e j).map cell) ∧ Below w1.heap.size w1 wr) (fun _ i _ => 2 * m - (intOf i).toNat)
        case atStart => exact ⟨0, Nat.zero_le _, rfl, own, bel0⟩
        case round =>
          obtain ⟨j, hj, rfl, ho, hbr⟩ := hrel
          clear own bel0
          by_cases hlt : j < m
          · have hpk := pkB_nat HE.out j
            unfold dg at hpk
            obtain ⟨t, ht⟩ : ∃ t, 2 * j = t := ⟨_, rfl⟩
            rw [ht] at hpk ⊢
            have hj1 : t < e.length := by omega
            have hj2 : t + 1 < e.length := by omega
            have d1 := within_at HE.out hj1
            have d2 := within_at HE.out hj2
            obtain ⟨c1, hc1⟩ : ∃ c, (⟨e.toArray⟩ : ByteArray)[t]'(by rw [ba_size]; exact hj1) = c := ⟨_, rfl⟩
            obtain ⟨c2, hc2⟩ : ∃ c, (⟨e.toArray⟩ : ByteArray)[t + 1]'(by rw [ba_size]; exact hj2) = c := ⟨_, rfl⟩
            rw [(byte_at e _ hj1).trans hc1, (byte_at e _ hj2).trans hc2] at hpk
            rw [(byte_at e _ hj1).trans hc1] at d1
            rw [(byte_at e _ hj2).trans hc2] at d2
            obtain ⟨x, hx⟩ : ∃ x, pkB e j = x := ⟨_, rfl⟩
            rw [hx] at hpk
            have HP : Hid ((pkL e (j + 1)).map cell = (pkL e j).map cell ++ [.int .u8 (x.toNat : Int)]) := by rw [Hid, pkL_succ, hx]; simp [cell]
            obtain ⟨y, hy⟩ : ∃ y : Int, (c1.toNat : Int) - 48 = y := ⟨_, rfl⟩
            have f1 : IntKind.u8.wrap ((c1.toNat : Int) - 48) = y := by rw [hy]; exact wrap8 (by omega) (by omega)
            have f2 : IntKind.u8.wrap (y * 16) = y * 16 := wrap8 (by omega) (by omega)
            have f3 : IntKind.u8.wrap (y * 16 + (c2.toNat : Int)) = y * 16 + (c2.toNat : Int) := wrap8 (by omega) (by omega)
            have f4 : IntKind.u8.wrap (y * 16 + (c2.toNat : Int) - 48) = (x.toNat : Int) := by rw [wrap8 (by omega) (by omega)]; omega
            have hi0 : (0 : Int) ≤ (t : Int) := by omega
            have hi1 : (t : Int) < (e.length : Int) := by omega
            have hi2 : (t : Int) + 1 < (e.length : Int) := by omega
            have hi3 : (0 : Int) ≤ (t : Int) + 1 := by omega
            have hi4 : IntKind.i64.wrap ((t : Int) + 1) = (t : Int) + 1 := by simp [IntKind.wrap, IntKind.bits, IntKind.signed]; omega
            have hi5 : ((t : Int) + 1).toNat = t + 1 := by omega
            have hsz := hbr.size
            have HB : Hid _ := hbr
            clear hy hpk d1 d2 hx hbr
            go_wp2_with fail
            go_region_held3 (fun _ => True) (trivial) ((refine step_append_lies _ (by rfl) _ _ _ (by rfl) w1.heap.size 5 i0 (.int .u8 0) 1 1 Tryz.underlying22 hi hz0 hz1 hz2 rfl (by decide) _ j _ (by rfl) ((ho.alloc _).drew) ⟨wr.heap.size, 0, none⟩ 1 1 [.int .u8 (x.toNat : Int)] (by rfl) (by rfl) (World.news_of_block (cs := #[.int .u8 (x.toNat : Int)]) (t := 5) (fr := (0, 0)) (heap_alloc_new wr _)) (by simp [Value.oneCell']) (by omega) (by unfold maxLen; omega) (by omega) (by simp; omega) (wr.heap.size + 1) (by simp) ?_; intro gg cap w2 ho1 hg1 hat hlt2))
            all_goals have hb1 : Below w1.heap.size w1 w2 := ((HB.out.alloc hsz _).drew).grown hg1 (by simp; omega) (fun q hq => (ho.lt q hq).1)
            all_goals clear hg1 hat ho HB
            all_goals go_wp2
            all_goals exact ⟨⟨j + 1, by omega, by rw [show ((2 * (j + 1) : Nat) : Int) = (t : Int) + 2 from by omega], by rw [HP.out]; exact ho1, hb1⟩, by simp [intOf]; omega⟩
          · have hje : j = m := by omega
            subst hje
            have ht := text_own ho
            clear ho
            go_wp2
            go_ret2
            exact ⟨str_ok (by rw [HY.out]; rfl) (by rw [HY.out]; rfl), hbr⟩
      · have ho1 : (l.length : Int) % 2 = 0 := by omega
        have HP : Hid ((⟨l.toArray⟩ : ByteArray) = ⟨(padE l).toArray⟩) := by rw [Hid, padE_even (by omega)]
        have own := own0 w
        have bel0 : Below w.heap.size w (w.alloc (.cells #[] 5)) := (Below.refl _ _).alloc (Nat.le_refl _) _
        go_enter Tryz.func91, Tryz.ntmps91
        go_wp2_with fail
        refine (sDigits_any _ _ hl).mono ?_
        rintro e w1 ⟨rfl, hw⟩
        subst hw
        rw [HD.out]
        go_wp2
        rw [HP.out]
        obtain ⟨m, hm⟩ : ∃ m, (l.length + 1) / 2 = m := ⟨_, rfl⟩
        have hm50 : m ≤ 50 := by omega
        have hel : (padE l).length = 2 * m := by rw [HL.out, hm]
        obtain ⟨e, he⟩ : ∃ e, padE l = e := ⟨_, rfl⟩
        rw [hm] at HY
        rw [he] at hel HE HY ⊢
        clear HP HL hm he HD hbi hl1 hbig ho1 hodd hl
        go_loopw [4, 5] (fun v i wr => ∃ j : Nat, j ≤ m ∧ i = .int .i64 (2 * j : Nat) ∧ wr.ownsRow w1.heap.size 5 1 v j ((pkL e j).map cell) ∧ Below w1.heap.size w1 wr) (fun _ i _ => 2 * m - (intOf i).toNat)
        case atStart => exact ⟨0, Nat.zero_le _, rfl, own, bel0⟩
        case round =>
          obtain ⟨j, hj, rfl, ho, hbr⟩ := hrel
          clear own bel0
          by_cases hlt : j < m
          · have hpk := pkB_nat HE.out j
            unfold dg at hpk
            obtain ⟨t, ht⟩ : ∃ t, 2 * j = t := ⟨_, rfl⟩
            rw [ht] at hpk ⊢
            have hj1 : t < e.length := by omega
            have hj2 : t + 1 < e.length := by omega
            have d1 := within_at HE.out hj1
            have d2 := within_at HE.out hj2
            obtain ⟨c1, hc1⟩ : ∃ c, (⟨e.toArray⟩ : ByteArray)[t]'(by rw [ba_size]; exact hj1) = c := ⟨_, rfl⟩
            obtain ⟨c2, hc2⟩ : ∃ c, (⟨e.toArray⟩ : ByteArray)[t + 1]'(by rw [ba_size]; exact hj2) = c := ⟨_, rfl⟩
            rw [(byte_at e _ hj1).trans hc1, (byte_at e _ hj2).trans hc2] at hpk
            rw [(byte_at e _ hj1).trans hc1] at d1
            rw [(byte_at e _ hj2).trans hc2] at d2
            obtain ⟨x, hx⟩ : ∃ x, pkB e j = x := ⟨_, rfl⟩
            rw [hx] at hpk
            have HP : Hid ((pkL e (j + 1)).map cell = (pkL e j).map cell ++ [.int .u8 (x.toNat : Int)]) := by rw [Hid, pkL_succ, hx]; simp [cell]
            obtain ⟨y, hy⟩ : ∃ y : Int, (c1.toNat : Int) - 48 = y := ⟨_, rfl⟩
            have f1 : IntKind.u8.wrap ((c1.toNat : Int) - 48) = y := by rw [hy]; exact wrap8 (by omega) (by omega)
            have f2 : IntKind.u8.wrap (y * 16) = y * 16 := wrap8 (by omega) (by omega)
            have f3 : IntKind.u8.wrap (y * 16 + (c2.toNat : Int)) = y * 16 + (c2.toNat : Int) := wrap8 (by omega) (by omega)
            have f4 : IntKind.u8.wrap (y * 16 + (c2.toNat : Int) - 48) = (x.toNat : Int) := by rw [wrap8 (by omega) (by omega)]; omega
            have hi0 : (0 : Int) ≤ (t : Int) := by omega
            have hi1 : (t : Int) < (e.length : Int) := by omega
            have hi2 : (t : Int) + 1 < (e.length : Int) := by omega
            have hi3 : (0 : Int) ≤ (t : Int) + 1 := by omega
            have hi4 : IntKind.i64.wrap ((t : Int) + 1) = (t : Int) + 1 := by simp [IntKind.wrap, IntKind.bits, IntKind.signed]; omega
            have hi5 : ((t : Int) + 1).toNat = t + 1 := by omega
            have hsz := hbr.size
            have HB : Hid _ := hbr
            clear hy hpk d1 d2 hx hbr
            go_wp2_with fail
            go_region_held3 (fun _ => True) (trivial) ((refine step_append_lies _ (by rfl) _ _ _ (by rfl) w1.heap.size 5 i0 (.int .u8 0) 1 1 Tryz.underlying22 hi hz0 hz1 hz2 rfl (by decide) _ j _ (by rfl) ((ho.alloc _).drew) ⟨wr.heap.size, 0, none⟩ 1 1 [.int .u8 (x.toNat : Int)] (by rfl) (by rfl) (World.news_of_block (cs := #[.int .u8 (x.toNat : Int)]) (t := 5) (fr := (0, 0)) (heap_alloc_new wr _)) (by simp [Value.oneCell']) (by omega) (by unfold maxLen; omega) (by omega) (by simp; omega) (wr.heap.size + 1) (by simp) ?_; intro gg cap w2 ho1 hg1 hat hlt2))
            all_goals have hb1 : Below w1.heap.size w1 w2 := ((HB.out.alloc hsz _).drew).grown hg1 (by simp; omega) (fun q hq => (ho.lt q hq).1)
            all_goals clear hg1 hat ho HB
            all_goals go_wp2
            all_goals exact ⟨⟨j + 1, by omega, by rw [show ((2 * (j + 1) : Nat) : Int) = (t : Int) + 2 from by omega], by rw [HP.out]; exact ho1, hb1⟩, by simp [intOf]; omega⟩
          · have hje : j = m := by omega
            subst hje
            have ht := text_own ho
            clear ho
            go_wp2
            go_ret2
            exact ⟨str_ok (by rw [HY.out]; rfl) (by rw [HY.out]; rfl), hbr⟩

end Go.Proofs.YtbncdhfmhokgeaaGreatDoor
