/- Contracts over holiday lists, the program's and the specification's: whether a list is one, whether a day is in it. -/
import Derived.Test.YtjnekdihmchlpaaGreatDoorJT1a
namespace Go.Proofs.YtjnekdihmchlpaaGreatDoor
open Go.RowKit


/-- the day ahead of number k in a list -/
def prev (zs : List Int) (k : Nat) : Int := if k = 0 then -1 else zs.getD (k - 1) 0

set_option maxHeartbeats 1600000 in
theorem sOff_any (ao : Option Addr) (c : Nat) (zs : List Int) (w : World) (hx : IntsAt w ao zs) (h1 : zs.length ≤ 1099511627776) :
    Calls Tryz.prog 89 #[.slice ao zs.length c] w fun e w' => e = .returned (.bool (offOk zs)) ∧ Below w.heap.size w w' := by
  rcases hx with rfl | ⟨b, off, rfl, hb, hcx⟩
  · go_enter Tryz.func89, Tryz.ntmps89
    go_wp2
    refine wp_loop_rounds 1 ?_
    rw [rounds_succ]
    go_wp2
    go_ret
    exact ⟨rfl, Below.refl _ _⟩
  · go_enter Tryz.func89, Tryz.ntmps89
    go_wp2
    go_loopw [3] (fun i wr => ∃ (k : Nat), k ≤ zs.length ∧ i = .int .i64 k ∧ ascB (-1) zs = ascB (prev zs k) (zs.drop k) ∧ Below w.heap.size w wr) (fun i _ => zs.length - (intOf i).toNat)
    case atStart => exact ⟨0, Nat.zero_le _, rfl, rfl, Below.refl _ _⟩
    case round =>
      obtain ⟨k, hk, rfl, ht, hbr⟩ := hrel
      by_cases hlt : k < zs.length
      · have e1 : wr.cell? ⟨b, off + k, none⟩ = some (.int .i64 (zs.getD k 0)) := (hbr.cell (p := ⟨b, off + k, none⟩) hb).trans (hcx k hlt)
        have hs := asc_step zs k (prev zs k) hlt
        have hnext : prev zs (k + 1) = zs.getD k 0 := by simp [prev]
        have hki : (k : Int) < (zs.length : Int) := by omega
        by_cases hk0 : k = 0
        · subst hk0
          obtain ⟨x, hxk⟩ : ∃ x, zs.getD 0 0 = x := ⟨_, rfl⟩
          rw [hxk] at e1 hs hnext
          rw [Nat.add_zero] at e1
          have HK : Hid (ascB (-1) zs = (decide ((-1 : Int) < x ∧ 0 ≤ x ∧ x ≤ 80000) && ascB x (zs.drop (0 + 1)))) := ht.trans hs
          have HX : Hid _ := hnext
          clear hcx hxk ht hs hnext
          cases hd : dOk x
          · have HN : Hid (offOk zs = false) := off_no2 (by rw [HK.out, decide_eq_false (fun hh => by rw [dOk_pos hh.2.1 hh.2.2] at hd; cases hd)]; rfl)
            go_wp2
            go_quiet (exact Calls.quiet_of_same (sDayOk_any _ _))
            go_wp2
            go_ret
            exact ⟨one_bool HN.out.symm, below_drewN hbr _⟩
          · have hb2 := dOk_bd hd
            have HY : Hid (ascB (-1) zs = ascB x (zs.drop (0 + 1))) := by rw [Hid, HK.out, decide_eq_true ⟨by omega, hb2.1, hb2.2⟩]; rfl
            go_wp2
            go_quiet (exact Calls.quiet_of_same (sDayOk_any _ _))
            go_wp2
            go_roundw
            case rel => exact ⟨1, by omega, by go_num, by rw [HX.out]; exact HY.out, below_drewN hbr _⟩
            case measure => simp [intOf]; omega
        · obtain ⟨j, rfl⟩ : ∃ j, k = j + 1 := ⟨k - 1, by omega⟩
          have e2 : wr.cell? ⟨b, off + j, none⟩ = some (.int .i64 (zs.getD j 0)) := (hbr.cell (p := ⟨b, off + j, none⟩) hb).trans (hcx j (by omega))
          have hpv : prev zs (j + 1) = zs.getD j 0 := by simp [prev]
          rw [hpv] at ht hs
          obtain ⟨x, hxk⟩ : ∃ x, zs.getD (j + 1) 0 = x := ⟨_, rfl⟩
          obtain ⟨y, hyk⟩ : ∃ y, zs.getD j 0 = y := ⟨_, rfl⟩
          rw [hxk] at e1 hs hnext
          rw [hyk] at e2 ht hs
          have HK : Hid (ascB (-1) zs = (decide (y < x ∧ 0 ≤ x ∧ x ≤ 80000) && ascB x (zs.drop (j + 1 + 1)))) := ht.trans hs
          have HX : Hid _ := hnext
          clear hcx hxk hyk ht hs hnext hpv
          cases hd : dOk x
          · have HN : Hid (offOk zs = false) := off_no2 (by rw [HK.out, decide_eq_false (fun hh => by rw [dOk_pos hh.2.1 hh.2.2] at hd; cases hd)]; rfl)
            go_wp2
            go_quiet (exact Calls.quiet_of_same (sDayOk_any _ _))
            go_wp2
            go_ret
            exact ⟨one_bool HN.out.symm, below_drewN hbr _⟩
          · have hb2 := dOk_bd hd
            by_cases hp : y < x
            · have HY : Hid (ascB (-1) zs = ascB x (zs.drop (j + 1 + 1))) := by rw [Hid, HK.out, decide_eq_true ⟨hp, hb2.1, hb2.2⟩]; rfl
              go_wp2
              go_quiet (exact Calls.quiet_of_same (sDayOk_any _ _))
              go_wp2
              go_roundw
              case rel => exact ⟨j + 1 + 1, by omega, by go_num, by rw [HX.out]; exact HY.out, below_drewN hbr _⟩
              case measure => simp [intOf]; omega
            · have hp' : x ≤ y := by omega
              have HN : Hid (offOk zs = false) := off_no2 (by rw [HK.out, decide_eq_false (fun hh => hp hh.1)]; rfl)
              go_wp2
              go_quiet (exact Calls.quiet_of_same (sDayOk_any _ _))
              go_wp2
              go_ret
              exact ⟨one_bool HN.out.symm, below_drewN hbr _⟩
      · have hasc : ascB (-1) zs = true := by rw [ht, List.drop_of_length_le (by omega)]; rfl
        have HE : Hid (offOk zs = decide ((zs.length : Int) ≤ 400)) := by
          by_cases h4 : zs.length ≤ 400
          · rw [Hid, off_yes h4 hasc, decide_eq_true (by omega)]
          · rw [Hid, off_no1 (by omega), decide_eq_false (by omega)]
        have hki : ¬ (k : Int) < (zs.length : Int) := by omega
        clear hcx ht hasc
        go_wp2
        go_ret
        exact ⟨one_bool HE.out.symm, hbr⟩

theorem wk_in {zs : List Int} {d : Int} (h : d ∈ zs) : wk zs d = false := by simp [wk, h]
theorem wk_out {zs : List Int} {d : Int} (h : d ∉ zs) : wk zs d = decide ((d + 5) % 7 < 5) := by simp [wk, h]
theorem not_in {zs : List Int} {d : Int} (h : ∀ j, j < zs.length → zs.getD j 0 ≠ d) : d ∉ zs := fun hm => by
  obtain ⟨k, hk, e⟩ := List.mem_iff_getElem.1 hm
  exact h k hk (by simp [List.getD_eq_getElem?_getD, hk, e])

set_option maxHeartbeats 800000 in
theorem sWorks2_any (d : Int) (ao : Option Addr) (c : Nat) (zs : List Int) (w : World) (hx : IntsAt w ao zs) (h1 : zs.length ≤ 1099511627776) (hd : dOk d = true) :
    Calls Tryz.prog 165 #[.int .i64 d, .slice ao zs.length c] w fun e w' => e = .returned (.bool (wk zs d)) ∧ w' = w := by
  have hwd := wdV_yes hd
  have hdb := dOk_bd hd
  rcases hx with rfl | ⟨b, off, rfl, hb, hcx⟩
  · have HV : Hid (wk [] d = decide ((d + 5) % 7 < 5)) := wk_out (by simp)
    go_enter Tryz.func165, Tryz.ntmps165
    go_wp2
    refine wp_loop_rounds 1 ?_
    rw [rounds_succ]
    go_wp2_with (go_at_call 175; refine (sWeekDay_any _ _).mono ?_; rintro e w' ⟨rfl, rfl⟩; rw [hwd])
    go_ret
    exact ⟨one_bool HV.out.symm, rfl⟩
  · go_enter Tryz.func165, Tryz.ntmps165
    go_wp2
    go_loop [5] (fun i => ∃ k : Nat, k ≤ zs.length ∧ i = .int .i64 k ∧ ∀ j, j < k → zs.getD j 0 ≠ d) (fun i => zs.length - (intOf i).toNat)
    case atStart => exact ⟨0, Nat.zero_le _, rfl, fun j hj => by omega⟩
    case round =>
      obtain ⟨k, hk, rfl, hno⟩ := hrel
      have HN : Hid _ := hno
      clear hno
      by_cases hlt : k < zs.length
      · have e1 := hcx k hlt
        have hmem : zs.getD k 0 ∈ zs := by simp [List.getD_eq_getElem?_getD, hlt]
        obtain ⟨x, hxk⟩ : ∃ x, zs.getD k 0 = x := ⟨_, rfl⟩
        rw [hxk] at e1 hmem
        have HX : Hid _ := hxk
        have hki : (k : Int) < (zs.length : Int) := by omega
        clear hcx hxk
        cases he : (x == d)
        · have hne : x ≠ d := by simpa using he
          have HR : Hid (∀ j, j < k + 1 → zs.getD j 0 ≠ d) := fun j hj => by
            rcases (show j < k ∨ j = k from by omega) with h | rfl
            · exact HN.out j h
            · rw [HX.out]; exact hne
          clear hmem hne
          go_wp2
          go_round
          case rel => exact ⟨k + 1, by omega, by go_num, HR.out⟩
          case measure => simp [intOf]; omega
        · have hxd : x = d := by simpa using he
          have HV : Hid (wk zs d = false) := wk_in (hxd ▸ hmem)
          clear hmem hxd
          go_wp2
          go_ret
          exact ⟨one_bool HV.out.symm, rfl⟩
      · have HV : Hid (wk zs d = decide ((d + 5) % 7 < 5)) := wk_out (not_in (fun j hj => HN.out j (by omega)))
        have hki : ¬ (k : Int) < (zs.length : Int) := by omega
        clear hcx
        go_wp2_with (go_at_call 175; refine (sWeekDay_any _ _).mono ?_; rintro e w' ⟨rfl, rfl⟩; rw [hwd])
        go_ret
        exact ⟨one_bool HV.out.symm, rfl⟩

end Go.Proofs.YtjnekdihmchlpaaGreatDoor
