/- The contracts of TagsOk, the program's and the specification's. -/
import Derived.Test.YtpenkpiffdbdmaaGreatDoorJS1a
namespace Go.Proofs.YtpenkpiffdbdmaaGreatDoor.Tg
open Go.RowKit

theorem tagOne_no1 {n : Int} {d : List UInt8} (h : ¬ (1 ≤ n ∧ n ≤ 9999)) : tagOne n d = false := by unfold tagOne; rw [decide_eq_false h, Bool.false_and]
theorem tagOne_no2 {n : Int} {d : List UInt8} (h : ¬ d.length ≤ 200) : tagOne n d = false := by unfold tagOne; rw [decide_eq_false h, Bool.false_and, Bool.and_false]
theorem tagOne_at {n : Int} {d : List UInt8} (h : 1 ≤ n ∧ n ≤ 9999) (g : d.length ≤ 200) : tagOne n d = within 32 126 d := by unfold tagOne; rw [decide_eq_true h, decide_eq_true g, Bool.true_and, Bool.true_and]

theorem iPlain_is {l : List UInt8} {q : Bool} (hq : within 32 126 l = q) (w : World) (hl : l.length ≤ 1099511627776) :
    Calls Tryz.prog 87 #[.string ⟨l.toArray⟩] w fun e w' => e = .returned (.bool q) ∧ w' = w := by
  rw [← hq]; exact iPlain_any l w hl
theorem sPlain_is {l : List UInt8} {q : Bool} (hq : within 32 126 l = q) (w : World) (hl : l.length ≤ 1099511627776) :
    Calls Tryz.prog 54 #[.string ⟨l.toArray⟩] w fun e w' => e = .returned (.bool q) ∧ w' = w := by
  rw [← hq]; exact sPlain_any l w hl
theorem in_is {x a b : Int} {q : Bool} (hq : inB x a b = q) (w : World) :
    Calls Tryz.prog 29 #[.int .i64 x, .int .i64 a, .int .i64 b] w fun e w' => e = .returned (.bool q) ∧ w' = w := by
  rw [← hq]; exact in_any x a b w

set_option maxHeartbeats 1600000 in
theorem tagOk_any (n : Int) (d : List UInt8) (w : World) (hl : d.length ≤ 1099511627776) :
    Calls Tryz.prog 95 #[.agg #[.int .i64 n, .string ⟨d.toArray⟩]] w fun e w' => e = .returned (.bool (tagOne n d)) ∧ Below w.heap.size w w' := by
  by_cases h1 : 0 < n
  · have g1 : decide (0 < n) = true := decide_eq_true h1
    by_cases h2 : n < 10000
    · have g2 : decide (n < 10000) = true := decide_eq_true h2
      by_cases h3 : d.length ≤ 200
      · have g3 : decide (d.length ≤ 200) = true := decide_eq_true h3
        have g4 : decide ((d.length : Int) ≤ 200) = true := decide_eq_true (by omega)
        have HE : Hid (tagOne n d = within 32 126 d) := tagOne_at (by omega) h3
        obtain ⟨q, hq⟩ : ∃ q, within 32 126 d = q := ⟨_, rfl⟩
        rw [hq] at HE
        have HQ : Hid _ := hq
        clear hq
        go_enter Tryz.func95, Tryz.ntmps95
        go_wp2
        go_quiet (first | exact Calls.quiet_of_same (tenTo_any 4 _ (by omega)) | exact Calls.quiet_of_same (iPlain_is HQ.out _ hl))
        go_wp2
        go_ret
        exact ⟨one_bool HE.out.symm, below_drewN (by go_grown) _⟩
      · have g3 : decide (d.length ≤ 200) = false := decide_eq_false h3
        have g4 : decide ((d.length : Int) ≤ 200) = false := decide_eq_false (by omega)
        have HE : Hid (tagOne n d = false) := tagOne_no2 h3
        go_enter Tryz.func95, Tryz.ntmps95
        go_wp2
        go_quiet (first | exact Calls.quiet_of_same (tenTo_any 4 _ (by omega)) | exact Calls.quiet_of_same (iPlain_any d _ hl))
        go_wp2
        go_ret
        exact ⟨one_bool HE.out.symm, below_drewN (by go_grown) _⟩
    · have g2 : decide (n < 10000) = false := decide_eq_false h2
      have HE : Hid (tagOne n d = false) := tagOne_no1 (by omega)
      go_enter Tryz.func95, Tryz.ntmps95
      go_wp2
      go_quiet (first | exact Calls.quiet_of_same (tenTo_any 4 _ (by omega)) | exact Calls.quiet_of_same (iPlain_any d _ hl))
      go_wp2
      go_ret
      exact ⟨one_bool HE.out.symm, below_drewN (by go_grown) _⟩
  · have g1 : decide (0 < n) = false := decide_eq_false h1
    have HE : Hid (tagOne n d = false) := tagOne_no1 (by omega)
    go_enter Tryz.func95, Tryz.ntmps95
    go_wp2
    go_quiet (first | exact Calls.quiet_of_same (tenTo_any 4 _ (by omega)) | exact Calls.quiet_of_same (iPlain_any d _ hl))
    go_wp2
    go_ret
    exact ⟨one_bool HE.out.symm, below_drewN (by go_grown) _⟩

theorem tagOk_is {n : Int} {d : List UInt8} {q : Bool} (hq : tagOne n d = q) (w : World) (hl : d.length ≤ 1099511627776) :
    Calls Tryz.prog 95 #[.agg #[.int .i64 n, .string ⟨d.toArray⟩]] w fun e w' => e = .returned (.bool q) ∧ Below w.heap.size w w' := by
  rw [← hq]; exact tagOk_any n d w hl

set_option maxHeartbeats 1600000 in
theorem iTagsOk_any (ao : Option Addr) (cap : Nat) (fs : List Fld) (w : World) (hz : FldsAt w ao fs) (hn : fs.length ≤ 4194304) (hd : ∀ f ∈ fs, f.2.length ≤ 1099511627776) :
    Calls Tryz.prog 81 #[.slice ao fs.length cap] w fun e w' => e = .returned (.bool (tagsOk fs)) ∧ Below w.heap.size w w' := by
  by_cases hbig : 60 < fs.length
  · have hb1 : (60 : Int) < (fs.length : Int) := by omega
    have HE : Hid (tagsOk fs = false) := tagsOk_big (by omega)
    go_enter Tryz.func81, Tryz.ntmps81
    go_wp2
    go_ret
    exact ⟨one_bool HE.out.symm, Below.refl _ _⟩
  · have hb1 : ¬ (60 : Int) < (fs.length : Int) := by omega
    have HM : Hid (tagsOk fs = okT 0 fs) := tagsOk_fs (by omega)
    rcases hz with rfl | ⟨b, off, rfl, hb, hcell⟩
    · go_enter Tryz.func81, Tryz.ntmps81
      go_wp2
      refine wp_loop_rounds 1 ?_
      rw [rounds_succ]
      go_wp2
      go_ret
      exact ⟨one_bool HM.out.symm, Below.refl _ _⟩
    · have HC : Hid (∀ i, i < fs.length → w.cell? ⟨b, off + i * 2, none⟩ = some (.int .i64 (at0 fs i).1) ∧ w.cell? ⟨b, off + i * 2 + 1, none⟩ = some (.string ⟨(at0 fs i).2.toArray⟩)) := hcell
      clear hcell
      go_enter Tryz.func81, Tryz.ntmps81
      go_wp2
      go_loopw [10] (fun i wr => ∃ k : Nat, k ≤ fs.length ∧ i = .int .i64 k ∧ okT 0 fs = okT (prevT fs k) (fs.drop k) ∧ Below w.heap.size w wr) (fun i _ => fs.length - (intOf i).toNat)
      case atStart => exact ⟨0, Nat.zero_le _, rfl, rfl, Below.refl _ _⟩
      case round =>
        obtain ⟨k, hk, rfl, hok, hbr⟩ := hrel
        have hsz := hbr.size
        by_cases hlt : k < fs.length
        · have c1 : wr.cell? ⟨b, off + k * 2, none⟩ = some (.int .i64 (at0 fs k).1) := (hbr.cell (p := ⟨b, off + k * 2, none⟩) hb).trans (HC.out k hlt).1
          have c2 : wr.cell? ⟨b, off + k * 2 + 1, none⟩ = some (.string ⟨(at0 fs k).2.toArray⟩) := (hbr.cell (p := ⟨b, off + k * 2 + 1, none⟩) hb).trans (HC.out k hlt).2
          have hki : (k : Int) < (fs.length : Int) := by omega
          have hst := okT_step fs k (prevT fs k) hlt
          have hl := hd _ (at0_mem hlt)
          have HPV : Hid (prevT fs (k + 1) = (at0 fs k).1) := rfl
          obtain ⟨⟨n, s⟩, hf⟩ : ∃ f, at0 fs k = f := ⟨_, rfl⟩
          rw [hf] at c1 c2 hst hl HPV
          simp only at c1 c2 hst hl HPV
          clear hf
          have hne := over_ne (wr.alloc (.cells #[.int .i64 n, .string ⟨s.toArray⟩] 94))
          have g1 := over_cell (W := wr.alloc (.cells #[.int .i64 n, .string ⟨s.toArray⟩] 94)) (a := ⟨wr.heap.size, 0, none⟩) (v := .int .i64 n) (by simp)
          have g2 := over_cell (W := wr.alloc (.cells #[.int .i64 n, .string ⟨s.toArray⟩] 94)) (a := ⟨wr.heap.size, 1, none⟩) (v := .string ⟨s.toArray⟩) (by simp)
          cases hq : tagOne n s
          · have HN : Hid (tagsOk fs = false) := by rw [Hid, HM.out, hok, hst, hq]; rfl
            have HQ : Hid _ := hq
            clear hq hst hok
            go_wp2
            refine wp_region_over (by kernel_rfl) (by kernel_rfl) ?_
            repeat (go_big_quiet_step (exact over_of (tagOk_is HQ.out _ hl)))
            refine wpQuiet_nil ?_
            rintro _ ⟨⟨w2, b2⟩, hw2⟩
            subst hw2
            go_wp2
            go_ret
            exact ⟨one_bool HN.out.symm, (hbr.alloc hsz _).trans (b2.mono (by simp; omega))⟩
          · have HQ : Hid _ := hq
            rw [hq, Bool.true_and] at hst
            clear hq
            by_cases hk0' : k = 0
            · have hkz : decide (0 < k) = false := by simp [hk0']
              have hn1 : 0 < n := by have := (tagOne_parts HQ.out).1; omega
              have HN : Hid (okT 0 fs = okT (prevT fs (k + 1)) (fs.drop (k + 1))) := by
                rw [Hid, hok, hst, HPV.out, show prevT fs k = 0 from by rw [hk0']; rfl, decide_eq_true hn1, Bool.true_and]
              clear hst hok hk0' hn1
              go_wp2
              refine wp_region_over (by kernel_rfl) (by kernel_rfl) ?_
              repeat (go_big_quiet_step (exact over_of (tagOk_is HQ.out _ hl)))
              refine wpQuiet_nil ?_
              rintro _ ⟨⟨w2, b2⟩, hw2⟩
              subst hw2
              go_wp2
              go_roundw
              case rel => exact ⟨k + 1, by omega, by go_num, HN.out, (hbr.alloc hsz _).trans (b2.mono (by simp; omega))⟩
              case measure => simp [intOf]; omega
            · obtain ⟨j, rfl⟩ : ∃ j, k = j + 1 := ⟨k - 1, by omega⟩
              have hkz : decide (0 < j + 1) = true := by simp
              have c3 : wr.cell? ⟨b, off + j * 2, none⟩ = some (.int .i64 (at0 fs j).1) := (hbr.cell (p := ⟨b, off + j * 2, none⟩) hb).trans (HC.out j (by omega)).1
              have hjn : (j : Int) < (fs.length : Int) := by omega
              have hpv : prevT fs (j + 1) = (at0 fs j).1 := rfl
              obtain ⟨p, hp⟩ : ∃ p, (at0 fs j).1 = p := ⟨_, rfl⟩
              rw [hp] at c3 hpv
              have g4 := over_cell (W := wr.alloc (.cells #[.int .i64 n, .string ⟨s.toArray⟩] 94)) (a := ⟨b, off + j * 2, none⟩) (v := .int .i64 p) (by rw [World.cell?_alloc_lt _ _ _ (Nat.lt_of_lt_of_le hb hbr.size)]; exact c3)
              by_cases hpn : n ≤ p
              · have hdn : decide (n ≤ p) = true := by simpa using hpn
                have HN : Hid (tagsOk fs = false) := by rw [Hid, HM.out, hok, hst, hpv, decide_eq_false (by omega)]; rfl
                clear hst hok hp hpv hpn
                go_wp2
                refine wp_region_over (by kernel_rfl) (by kernel_rfl) ?_
                repeat (go_big_quiet_step (exact over_of (tagOk_is HQ.out _ hl)))
                refine wpQuiet_nil ?_
                rintro _ ⟨⟨w2, b2⟩, hw2⟩
                subst hw2
                go_wp2
                go_ret
                exact ⟨one_bool HN.out.symm, (hbr.alloc hsz _).trans (b2.mono (by simp; omega))⟩
              · have hdn : decide (n ≤ p) = false := by simpa using hpn
                have HN : Hid (okT 0 fs = okT (prevT fs (j + 1 + 1)) (fs.drop (j + 1 + 1))) := by
                  rw [Hid, hok, hst, HPV.out, hpv, decide_eq_true (by omega), Bool.true_and]
                clear hst hok hp hpv hpn
                go_wp2
                refine wp_region_over (by kernel_rfl) (by kernel_rfl) ?_
                repeat (go_big_quiet_step (exact over_of (tagOk_is HQ.out _ hl)))
                refine wpQuiet_nil ?_
                rintro _ ⟨⟨w2, b2⟩, hw2⟩
                subst hw2
                go_wp2
                go_roundw
                case rel => exact ⟨j + 1 + 1, by omega, by go_num, HN.out, (hbr.alloc hsz _).trans (b2.mono (by simp; omega))⟩
                case measure => simp [intOf]; omega
        · have hke : k = fs.length := by omega
          subst hke
          have HN : Hid (tagsOk fs = true) := by rw [Hid, HM.out, hok, okT_end]
          clear hok
          go_wp2
          go_ret
          exact ⟨one_bool HN.out.symm, hbr⟩

end Go.Proofs.YtpenkpiffdbdmaaGreatDoor.Tg
