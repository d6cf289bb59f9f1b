/- The contract of the specification's TagsOk. -/
import Derived.Test.YtpenkpiffdbdmaaGreatDoorKSTgFTagsOk
namespace Go.Proofs.YtpenkpiffdbdmaaGreatDoor.Tg
open Go.RowKit

theorem over_same {P : Program} {f : FuncId} {args : Array Value} {w : World} {z : Over w} {v : Value} (h : Calls P f args z.x fun e w' => e = .returned v ∧ w' = z.x) :
    Calls P f args z.x fun e w'' => e = .returned v ∧ ∃ y : Over w, w'' = y.x :=
  h.mono fun _ _ ⟨he, hw⟩ => ⟨he, z, hw⟩

set_option maxHeartbeats 1600000 in
theorem sTagsOk_any (ao : Option Addr) (cap : Nat) (fs : List Fld) (w : World) (hz : FldsAt w ao fs) (hn : fs.length ≤ 4194304) (hd : ∀ f ∈ fs, f.2.length ≤ 1099511627776) :
    Calls Tryz.prog 85 #[.slice ao fs.length cap] w fun e w' => e = .returned (.bool (tagsOk fs)) ∧ Below w.heap.size w w' := by
  rcases hz with rfl | ⟨b, off, rfl, hb, hcell⟩
  · go_enter Tryz.func85, Tryz.ntmps85
    go_wp2
    refine wp_loop_rounds 1 ?_
    rw [rounds_succ]
    go_wp2
    go_ret
    exact ⟨rfl, Below.refl _ _⟩
  · have HC : Hid (∀ i, i < fs.length → w.cell? ⟨b, off + i * 2, none⟩ = some (.int .i64 (at0 fs i).1) ∧ w.cell? ⟨b, off + i * 2 + 1, none⟩ = some (.string ⟨(at0 fs i).2.toArray⟩)) := hcell
    clear hcell
    go_enter Tryz.func85, Tryz.ntmps85
    go_wp2
    go_loopw [3] (fun i wr => ∃ k : Nat, k ≤ fs.length ∧ i = .int .i64 k ∧ okT 0 fs = okT (prevT fs k) (fs.drop k) ∧ Below w.heap.size w wr) (fun i _ => fs.length - (intOf i).toNat)
    case atStart => exact ⟨0, Nat.zero_le _, rfl, rfl, Below.refl _ _⟩
    case round =>
      obtain ⟨k, hk, rfl, hok, hbr⟩ := hrel
      by_cases hlt : k < fs.length
      · have c1 : wr.cell? ⟨b, off + k * 2, none⟩ = some (.int .i64 (at0 fs k).1) := (hbr.cell (p := ⟨b, off + k * 2, none⟩) hb).trans (HC.out k hlt).1
        have c2 : wr.cell? ⟨b, off + k * 2 + 1, none⟩ = some (.string ⟨(at0 fs k).2.toArray⟩) := (hbr.cell (p := ⟨b, off + k * 2 + 1, none⟩) hb).trans (HC.out k hlt).2
        have hki : (k : Int) < (fs.length : Int) := by omega
        have hst := okT_step fs k (prevT fs k) hlt
        have hl := hd _ (at0_mem hlt)
        have HPV : Hid (prevT fs (k + 1) = (at0 fs k).1) := rfl
        obtain ⟨⟨n, s⟩, hf⟩ : ∃ f, at0 fs k = f := ⟨_, rfl⟩
        rw [hf] at c1 c2 hst hl HPV
        simp only at c1 c2 hst hl HPV
        clear hf
        have hne := over_ne wr
        have g1 := over_cell c1
        have g2 := over_cell c2
        have HP : Hid (within 32 126 s = within 32 126 s) := rfl
        by_cases hin : 1 ≤ n ∧ n ≤ 9999
        · have HI : Hid (inB n 1 9999 = true) := inB_pos hin.1 hin.2
          by_cases h3 : s.length ≤ 200
          · have g3 : decide (200 < s.length) = false := decide_eq_false (by omega)
            have g4 : decide ((200 : Int) < (s.length : Int)) = false := decide_eq_false (by omega)
            have HW : Hid (tagOne n s = within 32 126 s) := tagOne_at hin h3
            clear HP
            cases hw : within 32 126 s
            · have HT : Hid (tagOne n s = false) := HW.out.trans hw
              have HP : Hid (within 32 126 s = false) := hw
              clear hw HW hin h3
              have HN : Hid (tagsOk fs = false) := tagsOk_no (by rw [hok, hst, HT.out]; rfl)
              clear hst hok HT
              go_wp2
              refine wp_region_over (by kernel_rfl) (by kernel_rfl) ?_
              repeat (go_big_quiet_step (first | exact over_same (in_is HI.out _) | exact over_same (sPlain_is HP.out _ hl)))
              refine wpQuiet_nil ?_
              rintro _ ⟨⟨w2, b2⟩, hw2⟩
              subst hw2
              go_wp2
              go_ret
              exact ⟨one_bool HN.out.symm, hbr.trans (b2.mono hbr.size)⟩
            · have HT : Hid (tagOne n s = true) := HW.out.trans hw
              have HP : Hid (within 32 126 s = true) := hw
              clear hw HW h3
              rw [HT.out, Bool.true_and] at hst
              by_cases hk0' : k = 0
              · have hkz : decide (0 < k) = false := by simp [hk0']
                have HN : Hid (okT 0 fs = okT (prevT fs (k + 1)) (fs.drop (k + 1))) := by
                  rw [Hid, hok, hst, HPV.out, show prevT fs k = 0 from by rw [hk0']; rfl, decide_eq_true (show 0 < n by omega), Bool.true_and]
                clear hst hok hk0' HT hin
                go_wp2
                refine wp_region_over (by kernel_rfl) (by kernel_rfl) ?_
                repeat (go_big_quiet_step (first | exact over_same (in_is HI.out _) | exact over_same (sPlain_is HP.out _ hl)))
                refine wpQuiet_nil ?_
                rintro _ ⟨⟨w2, b2⟩, hw2⟩
                subst hw2
                go_wp2
                go_roundw
                case rel => exact ⟨k + 1, by omega, by go_num, HN.out, hbr.trans (b2.mono hbr.size)⟩
                case measure => simp [intOf]; omega
              · obtain ⟨j, rfl⟩ : ∃ j, k = j + 1 := ⟨k - 1, by omega⟩
                have hkz : decide (0 < j + 1) = true := by simp
                have c3 : wr.cell? ⟨b, off + j * 2, none⟩ = some (.int .i64 (at0 fs j).1) := (hbr.cell (p := ⟨b, off + j * 2, none⟩) hb).trans (HC.out j (by omega)).1
                have hjn : (j : Int) < (fs.length : Int) := by omega
                have hpv : prevT fs (j + 1) = (at0 fs j).1 := rfl
                obtain ⟨p, hp⟩ : ∃ p, (at0 fs j).1 = p := ⟨_, rfl⟩
                rw [hp] at c3 hpv
                have g5 := over_cell c3
                by_cases hpn : n ≤ p
                · have hdn : decide (n ≤ p) = true := by simpa using hpn
                  have HN : Hid (tagsOk fs = false) := tagsOk_no (by rw [hok, hst, hpv, decide_eq_false (by omega)]; rfl)
                  clear hst hok hp hpv hpn HT hin
                  go_wp2
                  refine wp_region_over (by kernel_rfl) (by kernel_rfl) ?_
                  repeat (go_big_quiet_step (first | exact over_same (in_is HI.out _) | exact over_same (sPlain_is HP.out _ hl)))
                  refine wpQuiet_nil ?_
                  rintro _ ⟨⟨w2, b2⟩, hw2⟩
                  subst hw2
                  go_wp2
                  go_ret
                  exact ⟨one_bool HN.out.symm, hbr.trans (b2.mono hbr.size)⟩
                · have hdn : decide (n ≤ p) = false := by simpa using hpn
                  have HN : Hid (okT 0 fs = okT (prevT fs (j + 1 + 1)) (fs.drop (j + 1 + 1))) := by
                    rw [Hid, hok, hst, HPV.out, hpv, decide_eq_true (by omega), Bool.true_and]
                  clear hst hok hp hpv hpn HT hin
                  go_wp2
                  refine wp_region_over (by kernel_rfl) (by kernel_rfl) ?_
                  repeat (go_big_quiet_step (first | exact over_same (in_is HI.out _) | exact over_same (sPlain_is HP.out _ hl)))
                  refine wpQuiet_nil ?_
                  rintro _ ⟨⟨w2, b2⟩, hw2⟩
                  subst hw2
                  go_wp2
                  go_roundw
                  case rel => exact ⟨j + 1 + 1, by omega, by go_num, HN.out, hbr.trans (b2.mono hbr.size)⟩
                  case measure => simp [intOf]; omega
          · have g3 : decide (200 < s.length) = true := decide_eq_true (by omega)
            have g4 : decide ((200 : Int) < (s.length : Int)) = true := decide_eq_true (by omega)
            have HT : Hid (tagOne n s = false) := tagOne_no2 h3
            clear hin h3
            have HN : Hid (tagsOk fs = false) := tagsOk_no (by rw [hok, hst, HT.out]; rfl)
            clear hst hok HT
            go_wp2
            refine wp_region_over (by kernel_rfl) (by kernel_rfl) ?_
            repeat (go_big_quiet_step (first | exact over_same (in_is HI.out _) | exact over_same (sPlain_is HP.out _ hl)))
            refine wpQuiet_nil ?_
            rintro _ ⟨⟨w2, b2⟩, hw2⟩
            subst hw2
            go_wp2
            go_ret
            exact ⟨one_bool HN.out.symm, hbr.trans (b2.mono hbr.size)⟩
        · have HI : Hid (inB n 1 9999 = false) := inB_neg (by omega)
          have HT : Hid (tagOne n s = false) := tagOne_no1 hin
          clear hin
          have HN : Hid (tagsOk fs = false) := tagsOk_no (by rw [hok, hst, HT.out]; rfl)
          clear hst hok HT
          go_wp2
          refine wp_region_over (by kernel_rfl) (by kernel_rfl) ?_
          repeat (go_big_quiet_step (first | exact over_same (in_is HI.out _) | exact over_same (sPlain_is HP.out _ hl)))
          refine wpQuiet_nil ?_
          rintro _ ⟨⟨w2, b2⟩, hw2⟩
          subst hw2
          go_wp2
          go_ret
          exact ⟨one_bool HN.out.symm, hbr.trans (b2.mono hbr.size)⟩
      · have hke : k = fs.length := by omega
        subst hke
        have HN : Hid (tagsOk fs = decide ((fs.length : Int) ≤ 60)) := by rw [Hid, tagsOk_len (by rw [hok, okT_end])]; simp; omega
        clear hok
        go_wp2
        go_ret
        exact ⟨one_bool HN.out.symm, hbr⟩

end Go.Proofs.YtpenkpiffdbdmaaGreatDoor.Tg
