/- The contract of the specification's CaseText. -/
import Derived.Test.YtddffpihacolkaaDoorCtTxt
namespace Go.Proofs.YtddffpihacolkaaDoor
open Go.RowKit
set_option maxRecDepth 100000

set_option maxHeartbeats 12800000 in
theorem sCaseText_any (c : Cs) (w : World) :
    Calls Tryd.prog 4 #[cv c] w fun e w' => e = .returned (.string ⟨(caseT c).toArray⟩) ∧ Below w.heap.size w w' := by
  obtain ⟨q, hq⟩ : ∃ q, caseOk c = q := ⟨_, rfl⟩
  have HO : Hid (∀ u, Calls Tryd.prog 7 #[cv c] u fun e w' => e = .returned (.bool q) ∧ Below u.heap.size u w') := fun u => by rw [← hq]; exact sCaseOk_any c u
  obtain ⟨W, hW⟩ : ∃ W, W = w.alloc (.cells #[.int .i64 c.iss, .int .i64 c.acq, .int .i64 c.cur, .int .i64 c.am, .int .i64 c.st, .int .i64 c.rsn, .int .i64 c.cl, .int .i64 c.bk, .int .i64 c.fee, .bool c.cop, .int .i64 c.sta, .int .i64 c.due] 25) := ⟨_, rfl⟩
  have hb0 : CB w.heap.size 0 c W := by rw [hW]; exact CB.new w c _
  have HBB : Hid (CB w.heap.size 0 c W) := hb0
  have HBW : Hid (Below w.heap.size w W) := by rw [Hid, hW]; exact (Below.refl _ _).alloc (Nat.le_refl _) _
  have HW : Hid _ := hW
  clear hW
  cases q
  · have HE : Hid (caseT c = []) := caseT_no hq
    clear hq HBB
    obtain ⟨iss, acq, cur, am, st, rsn, cl, bk, fee, cop, sta, due⟩ := c
    unfold cv at HO ⊢
    simp only at HW HO ⊢
    obtain ⟨f0, f1, f2, f3, f4, f5, f6, f7, f8, f9, f10, f11⟩ := hb0
    simp only [Nat.zero_add] at f0 f1 f2 f3 f4 f5 f6 f7 f8 f9 f10 f11
    go_enter Tryd.func4, Tryd.ntmps4
    go_upto_region 1 with fail
    rw [← HW.out]
    clear HW
    go_wp2_with fail
    refine (HO.out _).mono ?_
    rintro e u1 ⟨rfl, b1⟩
    have HB1 : Hid (Below w.heap.size w u1) := next HBW.out b1
    clear b1 f0 f1 f2 f3 f4 f5 f6 f7 f8 f9 f10 f11
    go_wp2
    go_ret
    exact ⟨one_str (by rw [HE.out]), HB1.out⟩
  obtain ⟨h1, h2, h3, h4⟩ := case_small hq
  have HE : Hid (caseT c = stL0 c.st ++ [32] ++ decI c.iss ++ [32] ++ decI c.acq ++ [32] ++ decI c.cur ++ [32] ++ Mo.moneyT c.am c.cur ++ [32] ++ Mo.moneyT c.cl c.cur ++ [32] ++ Mo.moneyT c.bk c.cur ++ [32] ++ dueT c.due) := caseT_yes hq
  have HS : Hid (∀ v, Calls Tryd.prog 9 #[.int .i64 c.st] v fun e w' => e = .returned (.string ⟨(stL0 c.st).toArray⟩) ∧ Below v.heap.size v w') := fun v => by
    rw [stL0_is]
    exact sState_any c.st v
  have HA : Hid (∀ v, Calls Tryd.prog 10 #[.int .i64 c.iss] v fun e w' => e = .returned (.string ⟨(decI c.iss).toArray⟩) ∧ Below v.heap.size v w') := fun v => decII v (by omega) (by omega)
  have HB : Hid (∀ v, Calls Tryd.prog 10 #[.int .i64 c.acq] v fun e w' => e = .returned (.string ⟨(decI c.acq).toArray⟩) ∧ Below v.heap.size v w') := fun v => decII v (by omega) (by omega)
  have HK : Hid (∀ v, Calls Tryd.prog 10 #[.int .i64 c.cur] v fun e w' => e = .returned (.string ⟨(decI c.cur).toArray⟩) ∧ Below v.heap.size v w') := fun v => decII v (by omega) (by omega)
  have HM : Hid (∀ v, Calls Tryd.prog 11 #[.int .i64 c.am, .int .i64 c.cur] v fun e w' => e = .returned (.string ⟨(Mo.moneyT c.am c.cur).toArray⟩) ∧ Below v.heap.size v w') := fun v => Mo.sMoneyText_any c.am c.cur v
  have HL : Hid (∀ v, Calls Tryd.prog 11 #[.int .i64 c.cl, .int .i64 c.cur] v fun e w' => e = .returned (.string ⟨(Mo.moneyT c.cl c.cur).toArray⟩) ∧ Below v.heap.size v w') := fun v => Mo.sMoneyText_any c.cl c.cur v
  have HR : Hid (∀ v, Calls Tryd.prog 11 #[.int .i64 c.bk, .int .i64 c.cur] v fun e w' => e = .returned (.string ⟨(Mo.moneyT c.bk c.cur).toArray⟩) ∧ Below v.heap.size v w') := fun v => Mo.sMoneyText_any c.bk c.cur v
  have HD : Hid (∀ v, Calls Tryd.prog 8 #[.int .i64 c.due] v fun e w' => e = .returned (.string ⟨(Dt.dtxt c.due).toArray⟩) ∧ Below v.heap.size v w') := fun v => Dt.sDateText_any c.due v
  have l0 : (stL0 c.st).length ≤ 30 := stL0_le _
  have l1 : (decI c.iss).length ≤ 21 := Mo.dec_len _ (by omega)
  have l2 : (decI c.acq).length ≤ 21 := Mo.dec_len _ (by omega)
  have l3 : (decI c.cur).length ≤ 21 := Mo.dec_len _ (by omega)
  have l4 : (Mo.moneyT c.am c.cur).length ≤ 30 := Mo.moneyT_le
  have l5 : (Mo.moneyT c.cl c.cur).length ≤ 30 := Mo.moneyT_le
  have l6 : (Mo.moneyT c.bk c.cur).length ≤ 30 := Mo.moneyT_le
  have l7 : (dueT c.due).length ≤ 10 := by
    unfold dueT
    split
    · simp
    · rw [(Dt.dtxt_props (by rcases h4 with h | h; exact absurd h (by assumption); exact h)).1]; omega
  have HDU : Hid ((if c.due = -1 then [45] else Dt.dtxt c.due) = dueT c.due) := rfl
  obtain ⟨S, hS⟩ : ∃ x, stL0 c.st = x := ⟨_, rfl⟩
  rw [hS] at HE HS l0
  obtain ⟨A, hA⟩ : ∃ x, decI c.iss = x := ⟨_, rfl⟩
  rw [hA] at HE HA l1
  obtain ⟨B, hB⟩ : ∃ x, decI c.acq = x := ⟨_, rfl⟩
  rw [hB] at HE HB l2
  obtain ⟨K, hK⟩ : ∃ x, decI c.cur = x := ⟨_, rfl⟩
  rw [hK] at HE HK l3
  obtain ⟨M, hM⟩ : ∃ x, Mo.moneyT c.am c.cur = x := ⟨_, rfl⟩
  rw [hM] at HE HM l4
  obtain ⟨L, hL⟩ : ∃ x, Mo.moneyT c.cl c.cur = x := ⟨_, rfl⟩
  rw [hL] at HE HL l5
  obtain ⟨R, hR⟩ : ∃ x, Mo.moneyT c.bk c.cur = x := ⟨_, rfl⟩
  rw [hR] at HE HR l6
  obtain ⟨D, hD⟩ : ∃ x, dueT c.due = x := ⟨_, rfl⟩
  rw [hD] at HE HDU l7
  have hdd : c.due ≠ -1 → 0 ≤ c.due := fun h => by rcases h4 with e | e; exact absurd e h; simp [dOk] at e; omega
  clear hS hA hB hK hM hL hR hD hq h1 h2 h3 h4
  obtain ⟨iss, acq, cur, am, st, rsn, cl, bk, fee, cop, sta, due⟩ := c
  unfold cv at HO ⊢
  simp only at HW HO HE HS HA HB HK HM HL HR HD HDU hdd ⊢
  obtain ⟨f0, f1, f2, f3, f4, f5, f6, f7, f8, f9, f10, f11⟩ := hb0
  simp only [Nat.zero_add] at f0 f1 f2 f3 f4 f5 f6 f7 f8 f9 f10 f11
  go_enter Tryd.func4, Tryd.ntmps4
  go_upto_region 1 with fail
  rw [← HW.out]
  clear HW
  go_wp2_with fail
  refine (HO.out _).mono ?_
  rintro e u1 ⟨rfl, b1⟩
  have HB1 : Hid (Below w.heap.size w u1) := next HBW.out b1
  have B1 := HBB.out.below b1
  have HC1 : Hid (CB w.heap.size 0 ⟨iss, acq, cur, am, st, rsn, cl, bk, fee, cop, sta, due⟩ u1) := B1
  clear b1 f0 f1 f2 f3 f4 f5 f6 f7 f8 f9 f10 f11 HO HBW HBB
  obtain ⟨f0, f1, f2, f3, f4, f5, f6, f7, f8, f9, f10, f11⟩ := B1
  simp only [Nat.zero_add] at f0 f1 f2 f3 f4 f5 f6 f7 f8 f9 f10 f11
  go_upto_if 9 with fail
  go_cut [3] (fun v wd => v = .string ⟨D.toArray⟩ ∧ Below u1.heap.size u1 wd)
  case first =>
    by_cases hd : due = -1
    · have HDD : Hid (D = [45]) := HDU.out.symm.trans (if_pos hd)
      subst hd
      go_wp2_with fail
      go_meet
      exact ⟨one_txt HDD.out.symm, Below.refl _ _⟩
    · have HDD : Hid (D = Dt.dtxt due) := HDU.out.symm.trans (if_neg hd)
      have h0 := hdd hd
      have hne : (due == -1) = false := by simpa using hd
      have hne' : (due != -1) = true := by simpa using hd
      go_wp2_with fail
      refine (HD.out _).mono ?_
      rintro e v1 ⟨rfl, b1⟩
      go_wp2_with fail
      go_meet
      exact ⟨one_txt HDD.out.symm, b1⟩
  case rest =>
    obtain ⟨rfl, bc⟩ := hcut
    have HBC : Hid (Below w.heap.size w wc) := next HB1.out bc
    have HKC : Hid (CB w.heap.size 0 ⟨iss, acq, cur, am, st, rsn, cl, bk, fee, cop, sta, due⟩ wc) := HC1.out.below bc
    clear bc f0 f1 f2 f3 f4 f5 f6 f7 f8 f9 f10 f11 HD HDU hdd HB1 HC1
    obtain ⟨f0, f1, f2, f3, f4, f5, f6, f7, f8, f9, f10, f11⟩ := HKC.out
    simp only [Nat.zero_add] at f0 f1 f2 f3 f4 f5 f6 f7 f8 f9 f10 f11
    go_upto_region 6 with fail
    have hne := over_ne wc
    have g0 := over_cell f0
    have g1 := over_cell f1
    have g2 := over_cell f2
    have g3 := over_cell f3
    have g4 := over_cell f4
    have g6 := over_cell f6
    have g7 := over_cell f7
    refine wp_region_over (by kernel_rfl) (by kernel_rfl) ?_
    repeat (go_big_quiet_step (first | with_reducible exact over_of (HS.out _) | with_reducible exact over_of (HA.out _) | with_reducible exact over_of (HB.out _) | with_reducible exact over_of (HK.out _) | with_reducible exact over_of (HM.out _) | with_reducible exact over_of (HL.out _) | with_reducible exact over_of (HR.out _)))
    refine wpQuiet_nil ?_
    rintro w6 ⟨⟨wz, b6⟩, hw6⟩
    subst hw6
    have HB6 : Hid (Below w.heap.size w w6) := next HBC.out b6
    clear b6 g0 g1 g2 g3 g4 g6 g7 hne HS HA HB HK HM HL HR f0 f1 f2 f3 f4 f5 f6 f7 f8 f9 f10 f11
    go_wp2
    go_ret
    exact ⟨one_str (by rw [HE.out]; simp only [ba_append]; try rfl), HB6.out⟩

end Go.Proofs.YtddffpihacolkaaDoor
