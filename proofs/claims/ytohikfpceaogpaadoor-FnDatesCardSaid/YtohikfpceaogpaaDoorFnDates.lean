/- Proved: for whatever bytes the draws are made of (up to 1048576; more pass by the law's own first test): a day comes back from its date and its date's text, no other date has a day, the next day has a later date, not by much, and weeks have seven days. What it takes: the table of the months' days and the listed tables and errors of Go's library hold what their texts lay into them (the card ties that to the program). -/
import Derived.Test.YtohikfpceaogpaaDoorDEnv
import Derived.Test.YtohikfpceaogpaaDoorDrawDates
namespace Go.Proofs.YtohikfpceaogpaaDoor.fnDates
open Go.ChangeShapes Go.WideShapes Go.ChangeAt Go.RowKit

theorem monthTab {w : World} (h : laidMet Tryd.prog Rows.fnDatesRow.laid w) : MonthTab w := env_month h.tail.tail

theorem iDate_is {d X : Int} (w : World) (ht : MonthTab w) (h : dateV d = X) :
    Calls Tryd.prog 10 #[.int .i64 d] w fun e w' => e = .returned (.int .i64 X) ∧ w' = w := by
  have := iDateOf_any d w ht
  rw [h] at this
  exact this
theorem sDate_is {d X : Int} (w : World) (h : dateV d = X) :
    Calls Tryd.prog 11 #[.int .i64 d] w fun e w' => e = .returned (.int .i64 X) ∧ Below w.heap.size w w' := by
  have := sDateOf_any d w
  rw [h] at this
  exact this
theorem iWeek_is {d X : Int} (w : World) (h : wdV d = X) :
    Calls Tryd.prog 16 #[.int .i64 d] w fun e w' => e = .returned (.int .i64 X) ∧ w' = w := by
  have := iWeekDay_any d w
  rw [h] at this
  exact this
theorem iRead_text {d : Int} (w : World) (he : ReadEnv w) (hd : dOk d = true) :
    Calls Tryd.prog 20 #[.string ⟨(dtxt d).toArray⟩] w fun e w' => e = .returned (.tuple #[.int .i64 d, .bool true]) ∧ Below w.heap.size w w' := by
  have := iRead_any (dtxt d) w (by rw [(dtxt_props hd).1]; omega) he
  rw [implR_text hd rfl] at this
  exact this
theorem date_back {y x : Int} (h : dayV y = some x) : dateV x = y := by
  obtain ⟨a, b⟩ := isDate_dayV h
  exact dateV_yes b a
theorem week {d : Int} (h0 : 0 ≤ d) (h1 : d < 79993) : ∃ r : Int, 0 ≤ r ∧ r < 7 ∧ wdV d = r ∧ wdV (d + 1) = (r + 1) % 7 ∧ wdV (d + 7) = r := by
  refine ⟨(d + 5) % 7, by omega, by omega, wdV_yes (dOk_pos h0 (by omega)), ?_, ?_⟩
  · rw [wdV_yes (dOk_pos (by omega) (by omega))]; omega
  · rw [wdV_yes (dOk_pos (by omega) (by omega))]; omega

set_option maxHeartbeats 3000000 in
theorem walk (a0 : Option Addr) (len0 cap0 : Nat) (z0 : List Int) (w : World) (w0 : IsRow .u8 w a0 len0 cap0 z0) (hL : laidMet Tryd.prog Rows.fnDatesRow.laid w) (hsh : w.ShapedOpen Tryd.prog) :
    Calls Tryd.prog 3 #[.slice a0 len0 cap0] w fun e w' => e = .returned (.bool true) ∧ Below w.heap.size w w' := by
  have HE : Hid (ReadEnv w) := env_read hL.tail.tail hsh
  clear hL hsh
  by_cases hbig : (1048576 : Int) < (len0 : Int)
  · have hdec : decide ((1048576 : Int) < (len0 : Int)) = true := decide_eq_true hbig
    clear w0
    go_enter Tryd.func3, Tryd.ntmps3
    go_wp2_with fail
    refine (big_any _ _ _ _).mono ?_
    rintro e u ⟨rfl, hu⟩
    subst hu
    rw [hdec]
    go_wp2
    go_ret
    exact ⟨rfl, Below.refl _ _⟩
  · have hdec : decide ((1048576 : Int) < (len0 : Int)) = false := decide_eq_false hbig
    have hn : len0 ≤ 1048576 := by omega
    have HR : Hid (IsRow .u8 w a0 len0 cap0 z0) := w0
    clear w0 hbig
    go_enter Tryd.func3, Tryd.ntmps3
    go_wp2_with fail
    refine (big_any _ _ _ _).mono ?_
    rintro e u ⟨rfl, hu⟩
    subst hu
    rw [hdec]
    go_wp2_with fail
    refine (drawDate_any _ _ _ _ _ HR.out hn).mono ?_
    rintro e u1 ⟨d, rfl, hd1, b1⟩
    have HR1 : Hid _ := row_below HR.out b1
    have HE1 : Hid _ := ReadEnv.below HE.out b1
    obtain ⟨X, hX⟩ : ∃ X, dateV d = X := ⟨_, rfl⟩
    have HX : Hid _ := hX
    have hXb := dateV_bd d
    rw [hX] at hXb
    clear hX
    go_wp2_with fail
    refine (iDate_is _ HE1.out.1 HX.out).mono ?_
    rintro e u2 ⟨rfl, hu2⟩
    subst hu2
    go_wp2_with fail
    refine (sDate_is _ HX.out).mono ?_
    rintro e u3 ⟨rfl, b3⟩
    have HR3 : Hid _ := row_below HR1.out b3
    have HE3 : Hid _ := ReadEnv.below HE1.out b3
    have B3 := next b1 b3
    clear b1 b3
    go_wp2_with fail
    refine (drawDay_any _ _ _ _ _ HR3.out hn).mono ?_
    rintro e u4 ⟨y, rfl, hy1, b4⟩
    have HE4 : Hid _ := ReadEnv.below HE3.out b4
    have B4 := next B3 b4
    clear b4 B3
    cases hv : dayV y with
    | none =>
      have HV : Hid _ := hv
      clear hv
      go_wp2_with fail
      refine (iDayOf_none _ HE4.out.1 (wf_of (by omega) (by omega)) HV.out).mono ?_
      rintro e u5 ⟨rfl, hu5⟩
      subst hu5
      go_wp2_with fail
      refine (sDayOf_none _ HV.out).mono ?_
      rintro e u6 ⟨rfl, b6⟩
      have HE6 : Hid _ := ReadEnv.below HE4.out b6
      have B6 := next B4 b6
      clear b6 B4
      cases hd : dOk d
      · have hX0 : X = 0 := by rw [← HX.out, dateV_no hd]
        subst hX0
        have HW : Hid _ := wdV_no hd
        go_wp2_with fail
        refine (sDayOk_any _ _).mono ?_
        rintro e v1 ⟨rfl, hv1⟩
        subst hv1
        rw [hd]
        go_wp2_with fail
        refine (iWeek_is _ HW.out).mono ?_
        rintro e v2 ⟨rfl, hv2⟩
        subst hv2
        go_wp2_with fail
        refine (iDayOk_any _ _).mono ?_
        rintro e v3 ⟨rfl, hv3⟩
        subst hv3
        rw [hd]
        go_wp2
        go_ret
        exact ⟨rfl, B6⟩
      · have hdb := dOk_bd hd
        have HD : Hid _ := hd
        have HBK : Hid (dayV X = some d) := by rw [Hid, ← HX.out]; exact dayV_dateV hd
        go_wp2_with fail
        refine (sDayOk_any _ _).mono ?_
        rintro e v1 ⟨rfl, hv1⟩
        subst hv1
        rw [hd]
        clear hd
        go_wp2_with fail
        refine (iDayOf_some _ HE6.out.1 (wf_of (by omega) (by omega)) HBK.out).mono ?_
        rintro e v2 ⟨rfl, hv2⟩
        subst hv2
        go_wp2_with fail
        refine (iDateText_any _ _ HE6.out.1 HE6.out.2.1).mono ?_
        rintro e v3 ⟨rfl, c3⟩
        have HE7 : Hid _ := ReadEnv.below HE6.out c3
        have B7 := next B6 c3
        clear c3 B6
        go_wp2_with fail
        refine (sDateText_any _ _).mono ?_
        rintro e v4 ⟨rfl, c4⟩
        have HE8 : Hid _ := ReadEnv.below HE7.out c4
        have B8 := next B7 c4
        clear c4 B7
        by_cases hlast : 79993 ≤ d
        · go_wp2
          go_ret
          exact ⟨rfl, B8⟩
        · have hd7 : d < 79993 := by omega
          obtain ⟨r, r0, r7, k0, k1, k7⟩ := week hdb.1 hd7
          have K0 : Hid _ := k0
          have K1 : Hid _ := k1
          have K7 : Hid _ := k7
          have hnx := date_next (d := d) HD.out (dOk_pos (by omega) (by omega))
          have hX1b := dateV_bd (d + 1)
          obtain ⟨X1, hX1⟩ : ∃ X1, dateV (d + 1) = X1 := ⟨_, rfl⟩
          rw [hX1, HX.out] at hnx
          rw [hX1] at hX1b
          have HX1 : Hid _ := hX1
          have hx1 : X < X1 := hnx.1
          have hx2 : X1 - X ≤ 8870 := hnx.2
          clear k0 k1 k7 hX1 hnx
          go_wp2_with fail
          refine (iDateText_any _ _ HE8.out.1 HE8.out.2.1).mono ?_
          rintro e v5 ⟨rfl, c5⟩
          have HE9 : Hid _ := ReadEnv.below HE8.out c5
          have B9 := next B8 c5
          clear c5 B8
          go_wp2_with fail
          refine (iRead_text _ HE9.out HD.out).mono ?_
          rintro e v6 ⟨rfl, c6⟩
          have HE10 : Hid _ := ReadEnv.below HE9.out c6
          have B10 := next B9 c6
          clear c6 B9
          go_wp2_with fail
          refine (iDate_is _ HE10.out.1 HX1.out).mono ?_
          rintro e v7 ⟨rfl, hv7⟩
          subst hv7
          go_wp2_with fail
          refine (iWeek_is _ K0.out).mono ?_
          rintro e v7 ⟨rfl, hv7⟩
          subst hv7
          go_wp2_with fail
          refine (iWeek_is _ K1.out).mono ?_
          rintro e v7 ⟨rfl, hv7⟩
          subst hv7
          go_wp2_with fail
          refine (iWeek_is _ K7.out).mono ?_
          rintro e v7 ⟨rfl, hv7⟩
          subst hv7
          go_wp2_with fail
          refine (iWeek_is _ K0.out).mono ?_
          rintro e v7 ⟨rfl, hv7⟩
          subst hv7
          go_wp2_with fail
          refine (iDate_is _ HE10.out.1 HX1.out).mono ?_
          rintro e v7 ⟨rfl, hv7⟩
          subst hv7
          go_wp2
          go_ret
          exact ⟨one_bool (by simp), B10⟩
    | some x =>
      have HV : Hid _ := hv
      have HB : Hid _ := date_back hv
      clear hv
      go_wp2_with fail
      refine (iDayOf_some _ HE4.out.1 (wf_of (by omega) (by omega)) HV.out).mono ?_
      rintro e u5 ⟨rfl, hu5⟩
      subst hu5
      go_wp2_with fail
      refine (sDayOf_some _ HV.out).mono ?_
      rintro e u6 ⟨rfl, b6⟩
      have HE6 : Hid _ := ReadEnv.below HE4.out b6
      have B6 := next B4 b6
      clear b6 B4
      go_wp2_with fail
      refine (iDate_is _ HE6.out.1 HB.out).mono ?_
      rintro e u7 ⟨rfl, hu7⟩
      subst hu7
      cases hd : dOk d
      · have hX0 : X = 0 := by rw [← HX.out, dateV_no hd]
        subst hX0
        have HW : Hid _ := wdV_no hd
        go_wp2_with fail
        refine (sDayOk_any _ _).mono ?_
        rintro e v1 ⟨rfl, hv1⟩
        subst hv1
        rw [hd]
        go_wp2_with fail
        refine (iWeek_is _ HW.out).mono ?_
        rintro e v2 ⟨rfl, hv2⟩
        subst hv2
        go_wp2_with fail
        refine (iDayOk_any _ _).mono ?_
        rintro e v3 ⟨rfl, hv3⟩
        subst hv3
        rw [hd]
        go_wp2
        go_ret
        exact ⟨rfl, B6⟩
      · have hdb := dOk_bd hd
        have HD : Hid _ := hd
        have HBK : Hid (dayV X = some d) := by rw [Hid, ← HX.out]; exact dayV_dateV hd
        go_wp2_with fail
        refine (sDayOk_any _ _).mono ?_
        rintro e v1 ⟨rfl, hv1⟩
        subst hv1
        rw [hd]
        clear hd
        go_wp2_with fail
        refine (iDayOf_some _ HE6.out.1 (wf_of (by omega) (by omega)) HBK.out).mono ?_
        rintro e v2 ⟨rfl, hv2⟩
        subst hv2
        go_wp2_with fail
        refine (iDateText_any _ _ HE6.out.1 HE6.out.2.1).mono ?_
        rintro e v3 ⟨rfl, c3⟩
        have HE7 : Hid _ := ReadEnv.below HE6.out c3
        have B7 := next B6 c3
        clear c3 B6
        go_wp2_with fail
        refine (sDateText_any _ _).mono ?_
        rintro e v4 ⟨rfl, c4⟩
        have HE8 : Hid _ := ReadEnv.below HE7.out c4
        have B8 := next B7 c4
        clear c4 B7
        by_cases hlast : 79993 ≤ d
        · go_wp2
          go_ret
          exact ⟨rfl, B8⟩
        · have hd7 : d < 79993 := by omega
          obtain ⟨r, r0, r7, k0, k1, k7⟩ := week hdb.1 hd7
          have K0 : Hid _ := k0
          have K1 : Hid _ := k1
          have K7 : Hid _ := k7
          have hnx := date_next (d := d) HD.out (dOk_pos (by omega) (by omega))
          have hX1b := dateV_bd (d + 1)
          obtain ⟨X1, hX1⟩ : ∃ X1, dateV (d + 1) = X1 := ⟨_, rfl⟩
          rw [hX1, HX.out] at hnx
          rw [hX1] at hX1b
          have HX1 : Hid _ := hX1
          have hx1 : X < X1 := hnx.1
          have hx2 : X1 - X ≤ 8870 := hnx.2
          clear k0 k1 k7 hX1 hnx
          go_wp2_with fail
          refine (iDateText_any _ _ HE8.out.1 HE8.out.2.1).mono ?_
          rintro e v5 ⟨rfl, c5⟩
          have HE9 : Hid _ := ReadEnv.below HE8.out c5
          have B9 := next B8 c5
          clear c5 B8
          go_wp2_with fail
          refine (iRead_text _ HE9.out HD.out).mono ?_
          rintro e v6 ⟨rfl, c6⟩
          have HE10 : Hid _ := ReadEnv.below HE9.out c6
          have B10 := next B9 c6
          clear c6 B9
          go_wp2_with fail
          refine (iDate_is _ HE10.out.1 HX1.out).mono ?_
          rintro e v7 ⟨rfl, hv7⟩
          subst hv7
          go_wp2_with fail
          refine (iWeek_is _ K0.out).mono ?_
          rintro e v7 ⟨rfl, hv7⟩
          subst hv7
          go_wp2_with fail
          refine (iWeek_is _ K1.out).mono ?_
          rintro e v7 ⟨rfl, hv7⟩
          subst hv7
          go_wp2_with fail
          refine (iWeek_is _ K7.out).mono ?_
          rintro e v7 ⟨rfl, hv7⟩
          subst hv7
          go_wp2_with fail
          refine (iWeek_is _ K0.out).mono ?_
          rintro e v7 ⟨rfl, hv7⟩
          subst hv7
          go_wp2_with fail
          refine (iDate_is _ HE10.out.1 HX1.out).mono ?_
          rintro e v7 ⟨rfl, hv7⟩
          subst hv7
          go_wp2
          go_ret
          exact ⟨one_bool (by simp), B10⟩

set_option maxRecDepth 100000 in
theorem lifted (os : Os) (started : os.Started) (H : Type) (enc : TypeId × Value → H) (F : Stop.Interp) :
    ReturnsInHanded {} Tryd.checked os 3 .any ((OpenSpec.ofChange Rows.fnDatesSpec).preRow enc Tryd.prog Tryd.f3 Rows.fnDatesRow.domain false Rows.fnDatesRow.laid)
      (((OpenSpec.ofChange Rows.fnDatesSpec).at F).post enc Tryd.prog Tryd.f3 false true false false) := by
  refine returnsInHanded_of_row (C := Tryd.checked) (s := OpenSpec.ofChange Rows.fnDatesSpec) own started (by kernel_rfl) Tryd.func3
    (ChangeSpec.witness_shaped (enc := enc) (C := Tryd.checked) (os := os) (X := fun w _ => laidMetH Tryd.prog Rows.fnDatesRow.laid w) false (World.laidAll Tryd.prog os Rows.fnDatesRow.laid) #[.slice none 0 0] 8 (World.laidAll_os _ _ _)
      (World.shaped_of_ZipB (by kernel_rfl) (by kernel_rfl)) (by kernel_rfl) (by kernel_rfl) (by kernel_rfl)
      (by rw [MakeChecks.laidMetH_plain _ _ _ (by kernel_rfl)]; exact laidMet_laidAll _ (by kernel_rfl) (by kernel_rfl))) ?_
  intro W base args ds gs before hval0 hW _ _ _ hL hsh _
  have hval : ∀ (j : Nat) t v, Tryd.f3.params[j]? = some t → args[j]? = some v → Value.okWide Tryd.prog W .any base t v := hval0
  have hW' := hW
  obtain ⟨p, q, hA0, hV0, rfl, _, _⟩ := hW
  have hV : DataW.TrodVars enc Tryd.prog W (fun _ => true) ["loop.example/g00126/impl.monthDays"] gs q := hV0
  have hA : DataW.TrodAll enc Tryd.prog W 0 (fun _ => true) true Tryd.f3.params.toList args.toList ds p := hA0
  rw [Tryd.params3] at hA hval
  obtain ⟨v0, vs0, d0, ds0, p0, q0, hargs, rfl, rfl, h0, r0⟩ := trodAll_cons hA
  obtain ⟨rfl, rfl, rfl⟩ := trodAll_nil r0
  obtain rfl : args = #[v0] := by cases args; simp_all
  obtain ⟨gv, tv, cs, fv, dv, pv, rfl, hgv, htv, hvar, hdv, rfl⟩ := trodVars_one hV
  obtain ⟨a0, len0, cap0, rfl⟩ := okWide_slice Tryd.underlying22 (hval 0 22 v0 rfl rfl)
  have k0 := h0
  have lt0 : ∀ x ∈ p0, x.block < W.heap.size := by obtain ⟨m, hm⟩ := k0; exact DataW.trod_lt m _ _ _ hm
  obtain ⟨z0, w0⟩ : ∃ zs, IsRow .u8 W a0 len0 cap0 zs := is_row Tryd.underlying22 Tryd.underlying5 (by kernel_rfl) h0
  clear hA0 hval0
  rw [MakeChecks.laidMetH_plain _ _ _ (by kernel_rfl)] at hL
  have HM := monthTab hL
  refine (walk a0 len0 cap0 z0 W w0 hL hsh).mono fun e W' ⟨he, bel⟩ => ?_
  subst he
  exact ⟨_, rfl, _, _, _, [], _, _, hW', trodAll_mk1 (shut_bool Tryd.underlying4 _), (trodAll_cons_mk (Below.trod laidOut (by kernel_rfl) (of_decide_eq_true (by kernel_rfl)) k0 bel lt0) trodAll_mk0), month_vars hgv htv hvar hdv HM bel, bel.frame _, fun h => by cases h⟩

theorem said : Rows.FnDatesSaid :=
  OpenClaim.holds_of_cond 3 Tryd.f3 rfl rfl rfl rfl rfl rfl rfl ⟨rfl, rfl, rfl, rfl, rfl⟩ rfl rfl rfl rfl rfl (by kernel_rfl) Tryd.func3 (by kernel_rfl)
    (of_decide_eq_true (by kernel_rfl)) (by unfold Func.isWrapper; first | (rw [if_pos (by decide +kernel)]; kernel_rfl) | (rw [if_neg (by decide +kernel)]; exact ⟨rfl, rfl⟩))
    (fun os started H enc _ F => by rw [OpenClaim.pre_eq_preRow]; exact lifted os started H enc F)

theorem proved : Rows.FnDatesCardSaid :=
  Claim7.holds_tied_plain_at .later [] _ _ _ _ said (fun _ h => by cases h) (by kernel_rfl) (fun _ h => by cases h) fnDates_row_tie rfl ⟨rfl, rfl⟩ (by kernel_rfl) rfl
    (fun f fn hf hfn => by
      obtain rfl : f = 3 := Option.some.inj ((show Tryd.prog.funcNamed "loop.example/g00126/laws.FnDates" = some 3 by kernel_rfl).symm.trans hf) |>.symm
      obtain rfl : fn = Tryd.f3 := (Option.some.inj (Tryd.func3.symm.trans hfn)).symm
      refine ⟨by kernel_rfl, fun j t ht => ?_⟩
      rw [Tryd.params3] at ht
      have hm : t ∈ [22] := by have := Array.mem_of_getElem? ht; simp at this ⊢; first | exact this | exact this.symm
      have hall : ([22].all fun u => !Tryd.prog.wantsStandIn u) = true := by kernel_rfl
      have h1 := List.all_eq_true.1 hall t hm
      have h2 : Tryd.prog.wantsStandIn t = false := by simpa using h1
      exact h2)
    (by kernel_rfl)
end Go.Proofs.YtohikfpceaogpaaDoor.fnDates
