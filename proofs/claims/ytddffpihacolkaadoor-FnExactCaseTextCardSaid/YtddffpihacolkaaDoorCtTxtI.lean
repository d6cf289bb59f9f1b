/- The contract of the program's CaseText. -/
import Derived.Test.YtddffpihacolkaaDoorCtTxt
import Derived.Test.YtddffpihacolkaaDoorShelf
namespace Go.Proofs.YtddffpihacolkaaDoor
open Go.RowKit
set_option maxRecDepth 100000

set_option maxHeartbeats 12800000 in
theorem iCaseText_any (c : Cs) (w : World) (hc : (Lit.int .i64 c.cur).wf = true) (ht : MonthTab w) (hs : StateTab w) (hp : Mo.Pow10 w) :
    Calls Tryd.prog 6 #[cv c] w fun e w' => e = .returned (.string ⟨(caseT c).toArray⟩) ∧ Below w.heap.size w w' := by
  obtain ⟨q, hq⟩ : ∃ q, caseOk c = q := ⟨_, rfl⟩
  have HO : Hid (∀ u, Calls Tryd.prog 12 #[cv c] u fun e w' => e = .returned (.bool q) ∧ Below u.heap.size u w') := fun u => by rw [← hq]; exact iCaseOk_any c u hc
  obtain ⟨W, hW⟩ : ∃ W, W = w.alloc (.cells #[.int .i64 c.iss, .int .i64 c.acq, .int .i64 c.cur, .int .i64 c.am, .int .i64 c.st, .int .i64 c.rsn, .int .i64 c.cl, .int .i64 c.bk, .int .i64 c.fee, .bool c.cop, .int .i64 c.sta, .int .i64 c.due] 25) := ⟨_, rfl⟩
  have hb0 : CB w.heap.size 0 c W := by rw [hW]; exact CB.new w c _
  have HBB : Hid (CB w.heap.size 0 c W) := hb0
  have HBW : Hid (Below w.heap.size w W) := by rw [Hid, hW]; exact (Below.refl _ _).alloc (Nat.le_refl _) _
  have HW : Hid _ := hW
  clear hW
  cases q
  · have HE : Hid (caseT c = []) := caseT_no hq
    clear hq HBB hc ht hs hp
    obtain ⟨iss, acq, cur, am, st, rsn, cl, bk, fee, cop, sta, due⟩ := c
    unfold cv at HO ⊢
    simp only at HW HO ⊢
    obtain ⟨f0, f1, f2, f3, f4, f5, f6, f7, f8, f9, f10, f11⟩ := hb0
    simp only [Nat.zero_add] at f0 f1 f2 f3 f4 f5 f6 f7 f8 f9 f10 f11
    go_enter Tryd.func6, Tryd.ntmps6
    go_upto_region 1 with fail
    rw [← HW.out]
    clear HW
    go_wp2_with fail
    refine (HO.out _).mono ?_
    rintro e u1 ⟨rfl, b1⟩
    have HB1 : Hid (Below w.heap.size w u1) := next HBW.out b1
    clear b1 f0 f1 f2 f3 f4 f5 f6 f7 f8 f9 f10 f11
    go_wp2
    go_ret
    exact ⟨one_str (by rw [HE.out]), HB1.out⟩
  obtain ⟨h1, h2, h3, h4⟩ := case_small hq
  have HE : Hid (caseT c = stL0 c.st ++ [32] ++ decI c.iss ++ [32] ++ decI c.acq ++ [32] ++ decI c.cur ++ [32] ++ Mo.moneyT c.am c.cur ++ [32] ++ Mo.moneyT c.cl c.cur ++ [32] ++ Mo.moneyT c.bk c.cur ++ [32] ++ dueT c.due) := caseT_yes hq
  have HS : Hid (∀ v, Below w.heap.size w v → Calls Tryd.prog 15 #[.int .i64 c.st] v fun e w' => e = .returned (.string ⟨(stL0 c.st).toArray⟩) ∧ Below v.heap.size v w') := fun v hv => by
    rw [stL0_is]
    exact (iState_any c.st v (StateTab.below hs hv)).mono fun e w' h => ⟨h.1, by rw [h.2]; exact Below.refl _ _⟩
  have HA : Hid (∀ v, Below w.heap.size w v → Calls Tryd.prog 16 #[.int .i64 c.iss] v fun e w' => e = .returned (.string ⟨(decI c.iss).toArray⟩) ∧ Below v.heap.size v w') := fun v hv => itoaI (by omega) (by omega) (Mo.Pow10.below hp hv)
  have HB : Hid (∀ v, Below w.heap.size w v → Calls Tryd.prog 16 #[.int .i64 c.acq] v fun e w' => e = .returned (.string ⟨(decI c.acq).toArray⟩) ∧ Below v.heap.size v w') := fun v hv => itoaI (by omega) (by omega) (Mo.Pow10.below hp hv)
  have HK : Hid (∀ v, Below w.heap.size w v → Calls Tryd.prog 16 #[.int .i64 c.cur] v fun e w' => e = .returned (.string ⟨(decI c.cur).toArray⟩) ∧ Below v.heap.size v w') := fun v hv => itoaI (by omega) (by omega) (Mo.Pow10.below hp hv)
  have HM : Hid (∀ v, Below w.heap.size w v → Calls Tryd.prog 17 #[.int .i64 c.am, .int .i64 c.cur] v fun e w' => e = .returned (.string ⟨(Mo.moneyT c.am c.cur).toArray⟩) ∧ Below v.heap.size v w') := fun v hv => Mo.iMoneyText_any c.am c.cur v hc (Mo.Pow10.below hp hv)
  have HL : Hid (∀ v, Below w.heap.size w v → Calls Tryd.prog 17 #[.int .i64 c.cl, .int .i64 c.cur] v fun e w' => e = .returned (.string ⟨(Mo.moneyT c.cl c.cur).toArray⟩) ∧ Below v.heap.size v w') := fun v hv => Mo.iMoneyText_any c.cl c.cur v hc (Mo.Pow10.below hp hv)
  have HR : Hid (∀ v, Below w.heap.size w v → Calls Tryd.prog 17 #[.int .i64 c.bk, .int .i64 c.cur] v fun e w' => e = .returned (.string ⟨(Mo.moneyT c.bk c.cur).toArray⟩) ∧ Below v.heap.size v w') := fun v hv => Mo.iMoneyText_any c.bk c.cur v hc (Mo.Pow10.below hp hv)
  have HD : Hid (∀ v, Below w.heap.size w v → Calls Tryd.prog 13 #[.int .i64 c.due] v fun e w' => e = .returned (.string ⟨(Dt.dtxt c.due).toArray⟩) ∧ Below v.heap.size v w') := fun v hv => Dt.iDateText_any c.due v (MonthTab.below ht hv) (Dt.Pow10.below hp hv)
  have l0 : (stL0 c.st).length ≤ 30 := stL0_le _
  have l1 : (decI c.iss).length ≤ 21 := Mo.dec_len _ (by omega)
  have l2 : (decI c.acq).length ≤ 21 := Mo.dec_len _ (by omega)
  have l3 : (decI c.cur).length ≤ 21 := Mo.dec_len _ (by omega)
  have l4 : (Mo.moneyT c.am c.cur).length ≤ 30 := Mo.moneyT_le
  have l5 : (Mo.moneyT c.cl c.cur).length ≤ 30 := Mo.moneyT_le
  have l6 : (Mo.moneyT c.bk c.cur).length ≤ 30 := Mo.moneyT_le
  have l7 : (dueT c.due).length ≤ 10 := by
    unfold dueT
    split
    · simp
    · rw [(Dt.dtxt_props (by rcases h4 with h | h; exact absurd h (by assumption); exact h)).1]; omega
  have HDU : Hid ((if c.due = -1 then [45] else Dt.dtxt c.due) = dueT c.due) := rfl
  obtain ⟨S, hS⟩ : ∃ x, stL0 c.st = x := ⟨_, rfl⟩
  rw [hS] at HE HS l0
  obtain ⟨A, hA⟩ : ∃ x, decI c.iss = x := ⟨_, rfl⟩
  rw [hA] at HE HA l1
  obtain ⟨B, hB⟩ : ∃ x, decI c.acq = x := ⟨_, rfl⟩
  rw [hB] at HE HB l2
  obtain ⟨K, hK⟩ : ∃ x, decI c.cur = x := ⟨_, rfl⟩
  rw [hK] at HE HK l3
  obtain ⟨M, hM⟩ : ∃ x, Mo.moneyT c.am c.cur = x := ⟨_, rfl⟩
  rw [hM] at HE HM l4
  obtain ⟨L, hL⟩ : ∃ x, Mo.moneyT c.cl c.cur = x := ⟨_, rfl⟩
  rw [hL] at HE HL l5
  obtain ⟨R, hR⟩ : ∃ x, Mo.moneyT c.bk c.cur = x := ⟨_, rfl⟩
  rw [hR] at HE HR l6
  obtain ⟨D, hD⟩ : ∃ x, dueT c.due = x := ⟨_, rfl⟩
  rw [hD] at HE HDU l7
  have HJ : Hid (∀ (v : World) (bk : Nat), bk < v.heap.size → v.cell? ⟨bk, 0, none⟩ = some (.string ⟨S.toArray⟩) → v.cell? ⟨bk, 1, none⟩ = some (.string ⟨A.toArray⟩) → v.cell? ⟨bk, 2, none⟩ = some (.string ⟨B.toArray⟩) → v.cell? ⟨bk, 3, none⟩ = some (.string ⟨K.toArray⟩) → v.cell? ⟨bk, 4, none⟩ = some (.string ⟨M.toArray⟩) → v.cell? ⟨bk, 5, none⟩ = some (.string ⟨L.toArray⟩) → v.cell? ⟨bk, 6, none⟩ = some (.string ⟨R.toArray⟩) → v.cell? ⟨bk, 7, none⟩ = some (.string ⟨D.toArray⟩) →
      Calls Tryd.prog 14 #[.slice (some ⟨bk, 0, none⟩) 8 8, .string ⟨#[32]⟩] v fun e w' => e = .returned (.string ⟨(S ++ [32] ++ A ++ [32] ++ B ++ [32] ++ K ++ [32] ++ M ++ [32] ++ L ++ [32] ++ R ++ [32] ++ D).toArray⟩) ∧ Below v.heap.size v w') := fun v bk hb c0 c1 c2 c3 c4 c5 c6 c7 => by
    have hjn : Lib.join (([⟨S.toArray⟩, ⟨A.toArray⟩, ⟨B.toArray⟩, ⟨K.toArray⟩, ⟨M.toArray⟩, ⟨L.toArray⟩, ⟨R.toArray⟩, ⟨D.toArray⟩] : List ByteArray).map (·.data.toList)) (⟨#[32]⟩ : ByteArray).data.toList = S ++ [32] ++ A ++ [32] ++ B ++ [32] ++ K ++ [32] ++ M ++ [32] ++ L ++ [32] ++ R ++ [32] ++ D := join8 S A B K M L R D
    have := Tryd.strings_Join bk 0 8 [⟨S.toArray⟩, ⟨A.toArray⟩, ⟨B.toArray⟩, ⟨K.toArray⟩, ⟨M.toArray⟩, ⟨L.toArray⟩, ⟨R.toArray⟩, ⟨D.toArray⟩] ⟨#[32]⟩ v (fun j x hj => by
      rw [Nat.zero_add]
      have hlt : j < 8 := by have := (List.getElem?_eq_some_iff.1 hj).1; simpa using this
      rcases (show j = 0 ∨ j = 1 ∨ j = 2 ∨ j = 3 ∨ j = 4 ∨ j = 5 ∨ j = 6 ∨ j = 7 by omega) with rfl | rfl | rfl | rfl | rfl | rfl | rfl | rfl
      · simp at hj; rw [← hj]; exact c0
      · simp at hj; rw [← hj]; exact c1
      · simp at hj; rw [← hj]; exact c2
      · simp at hj; rw [← hj]; exact c3
      · simp at hj; rw [← hj]; exact c4
      · simp at hj; rw [← hj]; exact c5
      · simp at hj; rw [← hj]; exact c6
      · simp at hj; rw [← hj]; exact c7) hb (by simp) (by simp) (by rw [hjn]; simp only [List.length_append, List.length_cons, List.length_nil]; omega)
    rw [hjn] at this
    exact this
  have hdd : c.due ≠ -1 → 0 ≤ c.due := fun h => by rcases h4 with e | e; exact absurd e h; simp [dOk] at e; omega
  clear hS hA hB hK hM hL hR hD hq h1 h2 h3 h4 hc ht hs hp
  obtain ⟨iss, acq, cur, am, st, rsn, cl, bk, fee, cop, sta, due⟩ := c
  unfold cv at HO ⊢
  simp only at HW HO HE HS HA HB HK HM HL HR HD HDU hdd HJ ⊢
  obtain ⟨f0, f1, f2, f3, f4, f5, f6, f7, f8, f9, f10, f11⟩ := hb0
  simp only [Nat.zero_add] at f0 f1 f2 f3 f4 f5 f6 f7 f8 f9 f10 f11
  go_enter Tryd.func6, Tryd.ntmps6
  go_upto_region 1 with fail
  rw [← HW.out]
  clear HW
  go_wp2_with fail
  refine (HO.out _).mono ?_
  rintro e u1 ⟨rfl, b1⟩
  have HB1 : Hid (Below w.heap.size w u1) := next HBW.out b1
  have B1 := HBB.out.below b1
  have HC1 : Hid (CB w.heap.size 0 ⟨iss, acq, cur, am, st, rsn, cl, bk, fee, cop, sta, due⟩ u1) := B1
  clear b1 f0 f1 f2 f3 f4 f5 f6 f7 f8 f9 f10 f11 HO HBW HBB
  obtain ⟨f0, f1, f2, f3, f4, f5, f6, f7, f8, f9, f10, f11⟩ := B1
  simp only [Nat.zero_add] at f0 f1 f2 f3 f4 f5 f6 f7 f8 f9 f10 f11
  go_upto_if 9 with fail
  go_cut [3] (fun v wd => v = .string ⟨D.toArray⟩ ∧ Below u1.heap.size u1 wd)
  case first =>
    by_cases hd : due = -1
    · have HDD : Hid (D = [45]) := HDU.out.symm.trans (if_pos hd)
      subst hd
      go_wp2_with fail
      go_meet
      exact ⟨one_txt HDD.out.symm, Below.refl _ _⟩
    · have HDD : Hid (D = Dt.dtxt due) := HDU.out.symm.trans (if_neg hd)
      have h0 := hdd hd
      have hne : (due == -1) = false := by simpa using hd
      have hne' : (due != -1) = true := by simpa using hd
      go_wp2_with fail
      refine (HD.out _ HB1.out).mono ?_
      rintro e v1 ⟨rfl, b1⟩
      go_wp2_with fail
      go_meet
      exact ⟨one_txt HDD.out.symm, b1⟩
  case rest =>
    obtain ⟨rfl, bc⟩ := hcut
    have HBC : Hid (Below w.heap.size w wc) := next HB1.out bc
    have HKC : Hid (CB w.heap.size 0 ⟨iss, acq, cur, am, st, rsn, cl, bk, fee, cop, sta, due⟩ wc) := HC1.out.below bc
    clear bc f0 f1 f2 f3 f4 f5 f6 f7 f8 f9 f10 f11 HD HDU hdd HB1 HC1
    have HKK : Hid (∀ v, Below wc.heap.size wc v → v.cell? ⟨w.heap.size, 0, none⟩ = some (.int .i64 iss) ∧ v.cell? ⟨w.heap.size, 1, none⟩ = some (.int .i64 acq) ∧ v.cell? ⟨w.heap.size, 2, none⟩ = some (.int .i64 cur) ∧ v.cell? ⟨w.heap.size, 3, none⟩ = some (.int .i64 am) ∧ v.cell? ⟨w.heap.size, 4, none⟩ = some (.int .i64 st) ∧ v.cell? ⟨w.heap.size, 6, none⟩ = some (.int .i64 cl) ∧ v.cell? ⟨w.heap.size, 7, none⟩ = some (.int .i64 bk)) := fun v hv => by
      obtain ⟨t0, t1, t2, t3, t4, t5, t6, t7, t8, t9, t10, t11⟩ := HKC.out.below hv
      simp only [Nat.zero_add] at t0 t1 t2 t3 t4 t6 t7
      exact ⟨t0, t1, t2, t3, t4, t6, t7⟩
    obtain ⟨f0, f1, f2, f3, f4, f6, f7⟩ := HKK.out wc (Below.refl _ _)
    have q0 : Below wc.heap.size wc wc := Below.refl _ _
    go_upto_region 6 with fail
    go_region_held3 (fun w' => w'.cell? ⟨w.heap.size, 0, none⟩ = some (.int .i64 iss) ∧ w'.cell? ⟨w.heap.size, 1, none⟩ = some (.int .i64 acq) ∧ w'.cell? ⟨w.heap.size, 2, none⟩ = some (.int .i64 cur) ∧ w'.cell? ⟨w.heap.size, 3, none⟩ = some (.int .i64 am) ∧ w'.cell? ⟨w.heap.size, 4, none⟩ = some (.int .i64 st) ∧ w'.cell? ⟨w.heap.size, 6, none⟩ = some (.int .i64 cl) ∧ w'.cell? ⟨w.heap.size, 7, none⟩ = some (.int .i64 bk)) (first | exact HKK.out _ q8 | exact HKK.out _ q7 | exact HKK.out _ q6 | exact HKK.out _ q5 | exact HKK.out _ q4 | exact HKK.out _ q3 | exact HKK.out _ q2 | exact HKK.out _ q1 | exact HKK.out _ q0 | exact HKK.out _ (q7.alloc q7.size _) | exact HKK.out _ q0.drew | (simp [go_sem, World.cell?_alloc_some]; done)) ((first
      | (go_at_call 15; (first | with_reducible refine (HS.out _ (next HBC.out q0)).mono ?_ | with_reducible refine (HS.out _ (next HBC.out q0.drew)).mono ?_ | refine (HS.out _ (next HBC.out (by go_grown))).mono ?_); rintro e v1 ⟨rfl, b1⟩; have q1 : Below wc.heap.size wc v1 := next (by go_grown) b1)
      | (go_at_call_of 16 (Value.int .i64 iss); refine (HA.out _ (next HBC.out q1)).mono ?_; rintro e v2 ⟨rfl, b2⟩; have q2 : Below wc.heap.size wc v2 := next q1 b2)
      | (go_at_call_of 16 (Value.int .i64 acq); refine (HB.out _ (next HBC.out q2)).mono ?_; rintro e v3 ⟨rfl, b3⟩; have q3 : Below wc.heap.size wc v3 := next q2 b3)
      | (go_at_call_of 16 (Value.int .i64 cur); refine (HK.out _ (next HBC.out q3)).mono ?_; rintro e v4 ⟨rfl, b4⟩; have q4 : Below wc.heap.size wc v4 := next q3 b4)
      | (go_at_call_of 17 (Value.int .i64 am); refine (HM.out _ (next HBC.out q4)).mono ?_; rintro e v5 ⟨rfl, b5⟩; have q5 : Below wc.heap.size wc v5 := next q4 b5)
      | (go_at_call_of 17 (Value.int .i64 cl); refine (HL.out _ (next HBC.out q5)).mono ?_; rintro e v6 ⟨rfl, b6⟩; have q6 : Below wc.heap.size wc v6 := next q5 b6)
      | (go_at_call_of 17 (Value.int .i64 bk); refine (HR.out _ (next HBC.out q6)).mono ?_; rintro e v7 ⟨rfl, b7⟩; have q7 : Below wc.heap.size wc v7 := next q6 b7)
      | (go_at_call 14; refine (HJ.out _ _ (by simp) (by simp) (by simp) (by simp) (by simp) (by simp) (by simp) (by simp) (by simp)).mono ?_; rintro e v8 ⟨rfl, b8⟩; have q8 : Below wc.heap.size wc v8 := next (q7.alloc q7.size _) b8)))
    all_goals
      have HB8 : Hid (Below w.heap.size w v8) := next HBC.out q8
      go_wp2
      go_ret
      exact ⟨one_str (by rw [HE.out]; simp), HB8.out⟩

end Go.Proofs.YtddffpihacolkaaDoor
