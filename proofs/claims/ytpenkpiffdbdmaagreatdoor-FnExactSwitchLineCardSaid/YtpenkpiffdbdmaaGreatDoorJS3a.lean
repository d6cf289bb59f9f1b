import Derived.Test.YtpenkpiffdbdmaaGreatDoorKSFFits
/- The contract of the program's MessageOk. -/
namespace Go.Proofs.YtpenkpiffdbdmaaGreatDoor
open Go.RowKit
theorem msgOk_no {kd : Int} {fs : List Fld} (h : okF 1 fs = false) : msgOk kd fs = false := by unfold msgOk; rw [h, Bool.and_false]
theorem msgOk_kd {kd : Int} {fs : List Fld} (h : ¬ (0 ≤ kd ∧ kd ≤ 9999)) : msgOk kd fs = false := by unfold msgOk; rw [decide_eq_false h, Bool.false_and]
theorem msgOk_fs {kd : Int} {fs : List Fld} (h : 0 ≤ kd ∧ kd ≤ 9999) : msgOk kd fs = okF 1 fs := by unfold msgOk; rw [decide_eq_true h, Bool.true_and]
theorem bcell {W w1 : World} (hb : Below W.heap.size W w1) : (∀ b o, b < W.heap.size → w1.cell? ⟨b, o, none⟩ = W.cell? ⟨b, o, none⟩) ∧ (∀ b o, b < W.heap.size → w1.frozen? ⟨b, o, none⟩ = W.frozen? ⟨b, o, none⟩) :=
  ⟨fun b o h => hb.cell (p := ⟨b, o, none⟩) h, fun b o h => hb.frozen (p := ⟨b, o, none⟩) h⟩
theorem iFieldOk_is {n : Int} {d : List UInt8} {q : Bool} (hq : fieldOk n d = q) (w : World) (hl : d.length ≤ 1099511627776) :
    Calls Tryz.prog 46 #[.agg #[.int .i64 n, .string ⟨d.toArray⟩]] w fun e w' => e = .returned (.bool q) ∧ Below w.heap.size w w' := by
  rw [← hq]; exact iFieldOk_any n d w hl
set_option maxHeartbeats 1600000 in
theorem iMessageOk_any (kd : Int) (ao : Option Addr) (cap : Nat) (fs : List Fld) (w : World) (hz : FldsAt w ao fs) (hn : fs.length ≤ 1048576) (hd : sumF fs ≤ 1048576) :
    Calls Tryz.prog 22 #[.agg #[.int .i64 kd, .slice ao fs.length cap]] w fun e w' => e = .returned (.bool (msgOk kd fs)) ∧ Below w.heap.size w w' := by
  by_cases hk0 : kd < 0
  · have HM : Hid (msgOk kd fs = false) := msgOk_kd (by omega)
    have hk1 : decide (kd < 0) = true := by simpa using hk0
    go_enter Tryz.func22, Tryz.ntmps22
    go_wp2
    go_quiet (exact Calls.quiet_of_same (tenTo_any 4 _ (by omega)))
    go_wp2
    go_ret
    exact ⟨one_bool HM.out.symm, below_drewN (by go_grown) _⟩
  · have hk1 : decide (kd < 0) = false := by simpa using hk0
    by_cases hk9 : 10000 ≤ kd
    · have HM : Hid (msgOk kd fs = false) := msgOk_kd (by omega)
      have hk2 : decide (10000 ≤ kd) = true := by simpa using hk9
      go_enter Tryz.func22, Tryz.ntmps22
      go_wp2
      go_quiet (exact Calls.quiet_of_same (tenTo_any 4 _ (by omega)))
      go_wp2
      go_ret
      exact ⟨one_bool HM.out.symm, below_drewN (by go_grown) _⟩
    · have hk2 : decide (10000 ≤ kd) = false := by simpa using hk9
      have HM : Hid (msgOk kd fs = okF 1 fs) := msgOk_fs (by omega)
      rcases hz with rfl | ⟨b, off, rfl, hb, hcell⟩
      · go_enter Tryz.func22, Tryz.ntmps22
        go_wp2
        go_quiet (exact Calls.quiet_of_same (tenTo_any 4 _ (by omega)))
        go_wp2
        refine wp_loop_rounds 1 ?_
        rw [rounds_succ]
        go_wp2
        go_ret
        exact ⟨one_bool HM.out.symm, below_drewN (by go_grown) _⟩
      · have HC : Hid (∀ i, i < fs.length → w.cell? ⟨b, off + i * 2, none⟩ = some (.int .i64 (at0 fs i).1) ∧ w.cell? ⟨b, off + i * 2 + 1, none⟩ = some (.string ⟨(at0 fs i).2.toArray⟩)) := hcell
        clear hcell
        go_enter Tryz.func22, Tryz.ntmps22
        go_wp2
        go_quiet (exact Calls.quiet_of_same (tenTo_any 4 _ (by omega)))
        go_wp2
        go_loopw [17] (fun i wr => ∃ k : Nat, k ≤ fs.length ∧ i = .int .i64 k ∧ okF 1 fs = okF (prevF fs k) (fs.drop k) ∧ Below w.heap.size w wr ∧ wr.cell? ⟨w.heap.size, 1, none⟩ = some (.slice (some ⟨b, off, none⟩) fs.length cap)) (fun i _ => fs.length - (intOf i).toNat)
        case atStart => exact ⟨0, Nat.zero_le _, rfl, rfl, below_drewN (by go_grown) _, by simp [go_sem]⟩
        case round =>
          obtain ⟨k, hk, rfl, hok, hbr, hbox⟩ := hrel
          have hws : w.heap.size < wr.heap.size := World.block_lt_of_cell? wr _ hbox
          by_cases hlt : k < fs.length
          · have c1 : wr.cell? ⟨b, off + k * 2, none⟩ = some (.int .i64 (at0 fs k).1) := (hbr.cell (p := ⟨b, off + k * 2, none⟩) hb).trans (HC.out k hlt).1
            have c2 : wr.cell? ⟨b, off + k * 2 + 1, none⟩ = some (.string ⟨(at0 fs k).2.toArray⟩) := (hbr.cell (p := ⟨b, off + k * 2 + 1, none⟩) hb).trans (HC.out k hlt).2
            have hki : (k : Int) < (fs.length : Int) := by omega
            have hst := okF_step fs k (prevF fs k) hlt
            have hdk := at0_le hlt hd
            have HPV : Hid (prevF fs (k + 1) = (at0 fs k).1) := rfl
            obtain ⟨⟨n, s⟩, hf⟩ : ∃ f, at0 fs k = f := ⟨_, rfl⟩
            rw [hf] at c1 c2 hst hdk HPV
            simp only at c1 c2 hst hdk HPV
            have hl : s.length ≤ 1099511627776 := by omega
            clear hf
            cases hq : fieldOk n s
            · have HN : Hid (msgOk kd fs = false) := by rw [Hid, HM.out, hok, hst, hq]; rfl
              have HQ : Hid _ := hq
              clear hq hst hok
              have hne := over_ne (wr.alloc (.cells #[.int .i64 n, .string ⟨s.toArray⟩] 60))
              have g1 := over_cell (W := wr.alloc (.cells #[.int .i64 n, .string ⟨s.toArray⟩] 60)) (a := ⟨wr.heap.size, 0, none⟩) (v := .int .i64 n) (by simp)
              have g2 := over_cell (W := wr.alloc (.cells #[.int .i64 n, .string ⟨s.toArray⟩] 60)) (a := ⟨wr.heap.size, 1, none⟩) (v := .string ⟨s.toArray⟩) (by simp)
              go_wp2
              refine wp_region_over (by kernel_rfl) (by kernel_rfl) ?_
              repeat (go_big_quiet_step (exact over_of (iFieldOk_is HQ.out _ hl)))
              refine wpQuiet_nil ?_
              rintro _ ⟨⟨w2, b2⟩, hw2⟩
              subst hw2
              go_wp2
              go_ret
              exact ⟨one_bool HN.out.symm, (hbr.alloc (Nat.le_of_lt hws) _).trans (b2.mono (by simp; omega))⟩
            · have HQ : Hid _ := hq
              rw [hq, Bool.true_and] at hst
              clear hq
              have hne := over_ne (wr.alloc (.cells #[.int .i64 n, .string ⟨s.toArray⟩] 60))
              have g1 := over_cell (W := wr.alloc (.cells #[.int .i64 n, .string ⟨s.toArray⟩] 60)) (a := ⟨wr.heap.size, 0, none⟩) (v := .int .i64 n) (by simp)
              have g2 := over_cell (W := wr.alloc (.cells #[.int .i64 n, .string ⟨s.toArray⟩] 60)) (a := ⟨wr.heap.size, 1, none⟩) (v := .string ⟨s.toArray⟩) (by simp)
              by_cases hk0' : k = 0
              · have hkz : decide (0 < k) = false := by simp [hk0']
                have hn1 : 1 < n := by have := known_K (ok_known HQ.out); omega
                have HN : Hid (okF 1 fs = okF (prevF fs (k + 1)) (fs.drop (k + 1))) := by
                  rw [Hid, hok, hst, HPV.out, show prevF fs k = 1 from by rw [hk0']; rfl, decide_eq_true hn1, Bool.true_and]
                clear hst hok hk0'
                go_wp2
                refine wp_region_over (by kernel_rfl) (by kernel_rfl) ?_
                repeat (go_big_quiet_step (exact over_of (iFieldOk_is HQ.out _ hl)))
                refine wpQuiet_nil ?_
                rintro _ ⟨⟨w2, b2⟩, hw2⟩
                subst hw2
                go_wp2
                go_roundw
                case rel => exact ⟨k + 1, by omega, by go_num, HN.out, (hbr.alloc (Nat.le_of_lt hws) _).trans (b2.mono (by simp; omega)), (b2.cell (p := ⟨w.heap.size, 1, none⟩) (by simp; omega)).trans (by rw [World.cell?_alloc_lt _ _ _ hws]; exact hbox)⟩
                case measure => simp [intOf]; omega
              · obtain ⟨j, rfl⟩ : ∃ j, k = j + 1 := ⟨k - 1, by omega⟩
                have hkz : decide (0 < j + 1) = true := by simp
                have c3 : wr.cell? ⟨b, off + j * 2, none⟩ = some (.int .i64 (at0 fs j).1) := (hbr.cell (p := ⟨b, off + j * 2, none⟩) hb).trans (HC.out j (by omega)).1
                have hjn : (j : Int) < (fs.length : Int) := by omega
                have hpv : prevF fs (j + 1) = (at0 fs j).1 := rfl
                obtain ⟨p, hp⟩ : ∃ p, (at0 fs j).1 = p := ⟨_, rfl⟩
                rw [hp] at c3 hpv
                have g3 := over_cell (W := wr.alloc (.cells #[.int .i64 n, .string ⟨s.toArray⟩] 60)) (a := ⟨w.heap.size, 1, none⟩) (v := .slice (some ⟨b, off, none⟩) fs.length cap) (by rw [World.cell?_alloc_lt _ _ _ hws]; exact hbox)
                have g4 := over_cell (W := wr.alloc (.cells #[.int .i64 n, .string ⟨s.toArray⟩] 60)) (a := ⟨b, off + j * 2, none⟩) (v := .int .i64 p) (by rw [World.cell?_alloc_lt _ _ _ (Nat.lt_of_lt_of_le hb hbr.size)]; exact c3)
                by_cases hpn : n ≤ p
                · have hdn : decide (n ≤ p) = true := by simpa using hpn
                  have HN : Hid (msgOk kd fs = false) := by rw [Hid, HM.out, hok, hst, hpv, decide_eq_false (by omega)]; rfl
                  clear hst hok hp hpv hpn
                  go_wp2
                  refine wp_region_over (by kernel_rfl) (by kernel_rfl) ?_
                  repeat (go_big_quiet_step (exact over_of (iFieldOk_is HQ.out _ hl)))
                  refine wpQuiet_nil ?_
                  rintro _ ⟨⟨w2, b2⟩, hw2⟩
                  subst hw2
                  go_wp2
                  go_ret
                  exact ⟨one_bool HN.out.symm, (hbr.alloc (Nat.le_of_lt hws) _).trans (b2.mono (by simp; omega))⟩
                · have hdn : decide (n ≤ p) = false := by simpa using hpn
                  have HN : Hid (okF 1 fs = okF (prevF fs (j + 1 + 1)) (fs.drop (j + 1 + 1))) := by
                    rw [Hid, hok, hst, HPV.out, hpv, decide_eq_true (by omega), Bool.true_and]
                  clear hst hok hp hpv hpn
                  go_wp2
                  refine wp_region_over (by kernel_rfl) (by kernel_rfl) ?_
                  repeat (go_big_quiet_step (exact over_of (iFieldOk_is HQ.out _ hl)))
                  refine wpQuiet_nil ?_
                  rintro _ ⟨⟨w2, b2⟩, hw2⟩
                  subst hw2
                  go_wp2
                  go_roundw
                  case rel => exact ⟨j + 1 + 1, by omega, by go_num, HN.out, (hbr.alloc (Nat.le_of_lt hws) _).trans (b2.mono (by simp; omega)), (b2.cell (p := ⟨w.heap.size, 1, none⟩) (by simp; omega)).trans (by rw [World.cell?_alloc_lt _ _ _ hws]; exact hbox)⟩
                  case measure => simp [intOf]; omega
          · have hke : k = fs.length := by omega
            subst hke
            have HN : Hid (msgOk kd fs = true) := by rw [Hid, HM.out, hok, okF_end]
            clear hok
            go_wp2
            go_ret
            exact ⟨one_bool HN.out.symm, hbr⟩
end Go.Proofs.YtpenkpiffdbdmaaGreatDoor
/- The contract of the specification's FieldOk. -/
namespace Go.Proofs.YtpenkpiffdbdmaaGreatDoor
open Go.RowKit
set_option maxHeartbeats 1600000 in
theorem sFieldOk_any (n : Int) (d : List UInt8) (w : World) (hl : d.length ≤ 1099511627776) :
    Calls Tryz.prog 28 #[.agg #[.int .i64 n, .string ⟨d.toArray⟩]] w fun e w' => e = .returned (.bool (fieldOk n d)) ∧ Below w.heap.size w w' := by
  by_cases h : n ∈ knowns
  · rcases (known_K h).1 with hk | hk | hk | hk | hk
    · by_cases hq : (d.length : Int) = fS n
      · have HO : Hid (fieldOk n d = within 48 57 d) := by rw [Hid, fieldOk, hk, fieldKS, if_pos rfl, decide_eq_true hq, Bool.true_and]
        have HK : Hid _ := hk
        have hp := len_eq hq
        clear hq
        clear hk h
        go_enter Tryz.func28, Tryz.ntmps28
        go_wp2_with fail
        refine (l04Form_any _ _).mono ?_
        rintro e w1 ⟨rfl, hw⟩
        subst hw
        rw [HK.out]
        go_wp2_with fail
        refine (sAllDig_any d _ hl).mono ?_
        rintro e w1 ⟨rfl, hw⟩
        subst hw
        go_wp2
        go_ret
        exact ⟨one_bool HO.out.symm, (Below.refl _ _).alloc (Nat.le_refl _) _⟩
      · have HO : Hid (fieldOk n d = false) := by rw [Hid, fieldOk, hk, fieldKS, if_pos rfl, decide_eq_false hq, Bool.false_and]
        have HK : Hid _ := hk
        have hp := len_ne hq
        clear hk h
        go_enter Tryz.func28, Tryz.ntmps28
        go_wp2_with fail
        refine (l04Form_any _ _).mono ?_
        rintro e w1 ⟨rfl, hw⟩
        subst hw
        rw [HK.out]
        go_wp2
        go_ret
        exact ⟨one_bool HO.out.symm, (Below.refl _ _).alloc (Nat.le_refl _) _⟩
    · by_cases hq : (d.length : Int) ≤ fS n
      · have HO : Hid (fieldOk n d = within 48 57 d) := by rw [Hid, fieldOk, hk, fieldKS, if_neg (by decide), if_pos rfl, decide_eq_true hq, Bool.true_and]
        have HK : Hid _ := hk
        clear hk h
        go_enter Tryz.func28, Tryz.ntmps28
        go_wp2_with fail
        refine (l04Form_any _ _).mono ?_
        rintro e w1 ⟨rfl, hw⟩
        subst hw
        rw [HK.out]
        go_wp2_with fail
        refine (sAllDig_any d _ hl).mono ?_
        rintro e w1 ⟨rfl, hw⟩
        subst hw
        go_wp2
        go_ret
        exact ⟨one_bool HO.out.symm, (Below.refl _ _).alloc (Nat.le_refl _) _⟩
      · have HO : Hid (fieldOk n d = false) := by rw [Hid, fieldOk, hk, fieldKS, if_neg (by decide), if_pos rfl, decide_eq_false hq, Bool.false_and]
        have HK : Hid _ := hk
        clear hk h
        go_enter Tryz.func28, Tryz.ntmps28
        go_wp2_with fail
        refine (l04Form_any _ _).mono ?_
        rintro e w1 ⟨rfl, hw⟩
        subst hw
        rw [HK.out]
        go_wp2
        go_ret
        exact ⟨one_bool HO.out.symm, (Below.refl _ _).alloc (Nat.le_refl _) _⟩
    · by_cases hq : (d.length : Int) = fS n
      · have HO : Hid (fieldOk n d = within 32 126 d) := by rw [Hid, fieldOk, hk, fieldKS, if_neg (by decide), if_neg (by decide), if_pos rfl, decide_eq_true hq, Bool.true_and]
        have HK : Hid _ := hk
        have hp := len_eq hq
        clear hq
        clear hk h
        go_enter Tryz.func28, Tryz.ntmps28
        go_wp2_with fail
        refine (l04Form_any _ _).mono ?_
        rintro e w1 ⟨rfl, hw⟩
        subst hw
        rw [HK.out]
        go_wp2_with fail
        refine (sPlain_any d _ hl).mono ?_
        rintro e w1 ⟨rfl, hw⟩
        subst hw
        go_wp2
        go_ret
        exact ⟨one_bool HO.out.symm, (Below.refl _ _).alloc (Nat.le_refl _) _⟩
      · have HO : Hid (fieldOk n d = false) := by rw [Hid, fieldOk, hk, fieldKS, if_neg (by decide), if_neg (by decide), if_pos rfl, decide_eq_false hq, Bool.false_and]
        have HK : Hid _ := hk
        have hp := len_ne hq
        clear hk h
        go_enter Tryz.func28, Tryz.ntmps28
        go_wp2_with fail
        refine (l04Form_any _ _).mono ?_
        rintro e w1 ⟨rfl, hw⟩
        subst hw
        rw [HK.out]
        go_wp2
        go_ret
        exact ⟨one_bool HO.out.symm, (Below.refl _ _).alloc (Nat.le_refl _) _⟩
    · by_cases hq : (d.length : Int) ≤ fS n
      · have HO : Hid (fieldOk n d = within 32 126 d) := by rw [Hid, fieldOk, hk, fieldKS, if_neg (by decide), if_neg (by decide), if_neg (by decide), if_pos (.inl rfl), decide_eq_true hq, Bool.true_and]
        have HK : Hid _ := hk
        clear hk h
        go_enter Tryz.func28, Tryz.ntmps28
        go_wp2_with fail
        refine (l04Form_any _ _).mono ?_
        rintro e w1 ⟨rfl, hw⟩
        subst hw
        rw [HK.out]
        go_wp2_with fail
        refine (sPlain_any d _ hl).mono ?_
        rintro e w1 ⟨rfl, hw⟩
        subst hw
        go_wp2
        go_ret
        exact ⟨one_bool HO.out.symm, (Below.refl _ _).alloc (Nat.le_refl _) _⟩
      · have HO : Hid (fieldOk n d = false) := by rw [Hid, fieldOk, hk, fieldKS, if_neg (by decide), if_neg (by decide), if_neg (by decide), if_pos (.inl rfl), decide_eq_false hq, Bool.false_and]
        have HK : Hid _ := hk
        clear hk h
        go_enter Tryz.func28, Tryz.ntmps28
        go_wp2_with fail
        refine (l04Form_any _ _).mono ?_
        rintro e w1 ⟨rfl, hw⟩
        subst hw
        rw [HK.out]
        go_wp2
        go_ret
        exact ⟨one_bool HO.out.symm, (Below.refl _ _).alloc (Nat.le_refl _) _⟩
    · by_cases hq : (d.length : Int) ≤ fS n
      · have HO : Hid (fieldOk n d = within 32 126 d) := by rw [Hid, fieldOk, hk, ks54, fieldKS, if_neg (by decide), if_neg (by decide), if_neg (by decide), if_pos (.inl rfl), decide_eq_true hq, Bool.true_and]
        have HK : Hid _ := hk
        clear hk h
        go_enter Tryz.func28, Tryz.ntmps28
        go_wp2_with fail
        refine (l04Form_any _ _).mono ?_
        rintro e w1 ⟨rfl, hw⟩
        subst hw
        rw [HK.out]
        go_wp2_with fail
        refine (sPlain_any d _ hl).mono ?_
        rintro e w1 ⟨rfl, hw⟩
        subst hw
        go_wp2
        go_ret
        exact ⟨one_bool HO.out.symm, (Below.refl _ _).alloc (Nat.le_refl _) _⟩
      · have HO : Hid (fieldOk n d = false) := by rw [Hid, fieldOk, hk, ks54, fieldKS, if_neg (by decide), if_neg (by decide), if_neg (by decide), if_pos (.inl rfl), decide_eq_false hq, Bool.false_and]
        have HK : Hid _ := hk
        clear hk h
        go_enter Tryz.func28, Tryz.ntmps28
        go_wp2_with fail
        refine (l04Form_any _ _).mono ?_
        rintro e w1 ⟨rfl, hw⟩
        subst hw
        rw [HK.out]
        go_wp2
        go_ret
        exact ⟨one_bool HO.out.symm, (Below.refl _ _).alloc (Nat.le_refl _) _⟩
  · have HK : Hid _ := fK_no h
    have HO : Hid _ := fieldOk_no (d := d) h
    clear h
    go_enter Tryz.func28, Tryz.ntmps28
    go_wp2_with fail
    refine (l04Form_any _ _).mono ?_
    rintro e w1 ⟨rfl, hw⟩
    subst hw
    rw [HK.out]
    go_wp2
    go_ret
    exact ⟨one_bool HO.out.symm, (Below.refl _ _).alloc (Nat.le_refl _) _⟩
end Go.Proofs.YtpenkpiffdbdmaaGreatDoor
/- The contract of the specification's MessageOk. -/
namespace Go.Proofs.YtpenkpiffdbdmaaGreatDoor
open Go.RowKit
theorem sFieldOk_is {n : Int} {d : List UInt8} {q : Bool} (hq : fieldOk n d = q) (w : World) (hl : d.length ≤ 1099511627776) :
    Calls Tryz.prog 28 #[.agg #[.int .i64 n, .string ⟨d.toArray⟩]] w fun e w' => e = .returned (.bool q) ∧ Below w.heap.size w w' := by
  rw [← hq]; exact sFieldOk_any n d w hl
theorem msgOk_in (kd : Int) {fs : List Fld} (h : okF 1 fs = true) : msgOk kd fs = inB kd 0 9999 := by unfold msgOk; rw [h, Bool.and_true]; rfl
set_option maxHeartbeats 1600000 in
theorem sMessageOk_any (kd : Int) (ao : Option Addr) (cap : Nat) (fs : List Fld) (w : World) (hz : FldsAt w ao fs) (hn : fs.length ≤ 1048576) (hd : sumF fs ≤ 1048576) :
    Calls Tryz.prog 10 #[.agg #[.int .i64 kd, .slice ao fs.length cap]] w fun e w' => e = .returned (.bool (msgOk kd fs)) ∧ Below w.heap.size w w' := by
  rcases hz with rfl | ⟨b, off, rfl, hb, hcell⟩
  · have HM : Hid (msgOk kd [] = inB kd 0 9999) := msgOk_in kd rfl
    go_enter Tryz.func10, Tryz.ntmps10
    go_wp2
    refine wp_loop_rounds 1 ?_
    rw [rounds_succ]
    go_wp2_with fail
    refine (in_any _ _ _ _).mono ?_
    rintro e w1 ⟨rfl, hw1⟩
    subst hw1
    go_wp2
    go_ret
    exact ⟨one_bool HM.out.symm, by go_grown⟩
  · have HC : Hid (∀ i, i < fs.length → w.cell? ⟨b, off + i * 2, none⟩ = some (.int .i64 (at0 fs i).1) ∧ w.cell? ⟨b, off + i * 2 + 1, none⟩ = some (.string ⟨(at0 fs i).2.toArray⟩)) := hcell
    clear hcell
    go_enter Tryz.func10, Tryz.ntmps10
    go_wp2
    go_loopw [3] (fun i wr => ∃ k : Nat, k ≤ fs.length ∧ i = .int .i64 k ∧ okF 1 fs = okF (prevF fs k) (fs.drop k) ∧ Below w.heap.size w wr ∧ wr.cell? ⟨w.heap.size, 1, none⟩ = some (.slice (some ⟨b, off, none⟩) fs.length cap) ∧ wr.cell? ⟨w.heap.size, 0, none⟩ = some (.int .i64 kd)) (fun i _ => fs.length - (intOf i).toNat)
    case atStart => exact ⟨0, Nat.zero_le _, rfl, rfl, by go_grown, by simp [go_sem], by simp [go_sem]⟩
    case round =>
      obtain ⟨k, hk, rfl, hok, hbr, hbox, hbo0⟩ := hrel
      have hws : w.heap.size < wr.heap.size := World.block_lt_of_cell? wr _ hbox
      by_cases hlt : k < fs.length
      · have c1 : wr.cell? ⟨b, off + k * 2, none⟩ = some (.int .i64 (at0 fs k).1) := (hbr.cell (p := ⟨b, off + k * 2, none⟩) hb).trans (HC.out k hlt).1
        have c2 : wr.cell? ⟨b, off + k * 2 + 1, none⟩ = some (.string ⟨(at0 fs k).2.toArray⟩) := (hbr.cell (p := ⟨b, off + k * 2 + 1, none⟩) hb).trans (HC.out k hlt).2
        have hki : (k : Int) < (fs.length : Int) := by omega
        have hst := okF_step fs k (prevF fs k) hlt
        have hdk := at0_le hlt hd
        have HPV : Hid (prevF fs (k + 1) = (at0 fs k).1) := rfl
        obtain ⟨⟨n, s⟩, hf⟩ : ∃ f, at0 fs k = f := ⟨_, rfl⟩
        rw [hf] at c1 c2 hst hdk HPV
        simp only at c1 c2 hst hdk HPV
        have hl : s.length ≤ 1099511627776 := by omega
        clear hf
        have hne := over_ne wr
        have g1 := over_cell c1
        have g2 := over_cell c2
        have g3 := over_cell hbox
        cases hq : fieldOk n s
        · have HN : Hid (msgOk kd fs = false) := msgOk_no (by rw [hok, hst, hq]; rfl)
          have HQ : Hid _ := hq
          clear hq hst hok
          go_wp2
          refine wp_region_over (by kernel_rfl) (by kernel_rfl) ?_
          repeat (go_big_quiet_step (exact over_of (sFieldOk_is HQ.out _ hl)))
          refine wpQuiet_nil ?_
          rintro _ ⟨⟨w2, b2⟩, hw2⟩
          subst hw2
          go_wp2
          go_ret
          exact ⟨one_bool HN.out.symm, hbr.trans (b2.mono hbr.size)⟩
        · have HQ : Hid _ := hq
          rw [hq, Bool.true_and] at hst
          clear hq
          by_cases hk0' : k = 0
          · have hkz : decide (0 < k) = false := by simp [hk0']
            have hn1 : 1 < n := by have := known_K (ok_known HQ.out); omega
            have HN : Hid (okF 1 fs = okF (prevF fs (k + 1)) (fs.drop (k + 1))) := by
              rw [Hid, hok, hst, HPV.out, show prevF fs k = 1 from by rw [hk0']; rfl, decide_eq_true hn1, Bool.true_and]
            clear hst hok hk0'
            go_wp2
            refine wp_region_over (by kernel_rfl) (by kernel_rfl) ?_
            repeat (go_big_quiet_step (exact over_of (sFieldOk_is HQ.out _ hl)))
            refine wpQuiet_nil ?_
            rintro _ ⟨⟨w2, b2⟩, hw2⟩
            subst hw2
            go_wp2
            go_roundw
            case rel => exact ⟨k + 1, by omega, by go_num, HN.out, hbr.trans (b2.mono hbr.size), (b2.cell (p := ⟨w.heap.size, 1, none⟩) hws).trans hbox, (b2.cell (p := ⟨w.heap.size, 0, none⟩) hws).trans hbo0⟩
            case measure => simp [intOf]; omega
          · obtain ⟨j, rfl⟩ : ∃ j, k = j + 1 := ⟨k - 1, by omega⟩
            have hkz : decide (0 < j + 1) = true := by simp
            have c3 : wr.cell? ⟨b, off + j * 2, none⟩ = some (.int .i64 (at0 fs j).1) := (hbr.cell (p := ⟨b, off + j * 2, none⟩) hb).trans (HC.out j (by omega)).1
            have hjn : (j : Int) < (fs.length : Int) := by omega
            have hpv : prevF fs (j + 1) = (at0 fs j).1 := rfl
            obtain ⟨p, hp⟩ : ∃ p, (at0 fs j).1 = p := ⟨_, rfl⟩
            rw [hp] at c3 hpv
            have g4 := over_cell c3
            by_cases hpn : n ≤ p
            · have hdn : decide (n ≤ p) = true := by simpa using hpn
              have HN : Hid (msgOk kd fs = false) := msgOk_no (by rw [hok, hst, hpv, decide_eq_false (by omega)]; rfl)
              clear hst hok hp hpv hpn
              go_wp2
              refine wp_region_over (by kernel_rfl) (by kernel_rfl) ?_
              repeat (go_big_quiet_step (exact over_of (sFieldOk_is HQ.out _ hl)))
              refine wpQuiet_nil ?_
              rintro _ ⟨⟨w2, b2⟩, hw2⟩
              subst hw2
              go_wp2
              go_ret
              exact ⟨one_bool HN.out.symm, hbr.trans (b2.mono hbr.size)⟩
            · have hdn : decide (n ≤ p) = false := by simpa using hpn
              have HN : Hid (okF 1 fs = okF (prevF fs (j + 1 + 1)) (fs.drop (j + 1 + 1))) := by
                rw [Hid, hok, hst, HPV.out, hpv, decide_eq_true (by omega), Bool.true_and]
              clear hst hok hp hpv hpn
              go_wp2
              refine wp_region_over (by kernel_rfl) (by kernel_rfl) ?_
              repeat (go_big_quiet_step (exact over_of (sFieldOk_is HQ.out _ hl)))
              refine wpQuiet_nil ?_
              rintro _ ⟨⟨w2, b2⟩, hw2⟩
              subst hw2
              go_wp2
              go_roundw
              case rel => exact ⟨j + 1 + 1, by omega, by go_num, HN.out, hbr.trans (b2.mono hbr.size), (b2.cell (p := ⟨w.heap.size, 1, none⟩) hws).trans hbox, (b2.cell (p := ⟨w.heap.size, 0, none⟩) hws).trans hbo0⟩
              case measure => simp [intOf]; omega
      · have hke : k = fs.length := by omega
        subst hke
        have HN : Hid (msgOk kd fs = inB kd 0 9999) := msgOk_in kd (by rw [hok, okF_end])
        clear hok
        go_wp2_with fail
        refine (in_any _ _ _ _).mono ?_
        rintro e w1 ⟨rfl, hw1⟩
        subst hw1
        go_wp2
        go_ret
        exact ⟨one_bool HN.out.symm, hbr⟩
end Go.Proofs.YtpenkpiffdbdmaaGreatDoor
