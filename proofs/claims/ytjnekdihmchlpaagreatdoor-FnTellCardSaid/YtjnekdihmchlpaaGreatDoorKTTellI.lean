/- The contract of the program's Tell. -/
import Derived.Test.YtjnekdihmchlpaaGreatDoorJT4a
namespace Go.Proofs.YtjnekdihmchlpaaGreatDoor
open Go.RowKit
set_option maxRecDepth 100000

set_option maxHeartbeats 12800000 in
theorem iTell_any (c : Cs) (n : Int) (w : World) (hc : (Lit.int .i64 c.cur).wf = true) (hp : Mo.Pow10 w) (ht : StateTab w) :
    Calls Tryz.prog 6 #[cv c, .int .i64 n] w (TeR w (tellK c n) (tellL c n) (tellOk c n)) := by
  obtain ⟨W, hW⟩ : ∃ W, W = (w.alloc (.cells #[.int .i64 c.iss, .int .i64 c.acq, .int .i64 c.cur, .int .i64 c.am, .int .i64 c.st, .int .i64 c.rsn, .int .i64 c.cl, .int .i64 c.bk, .int .i64 c.fee, .bool c.cop, .int .i64 c.sta, .int .i64 c.due] 25)).alloc (.cells #[.int .i64 0, .slice none 0 0] 30) := ⟨_, rfl⟩
  have bW : Below w.heap.size w W := by rw [hW]; go_grown
  have hWs : W.heap.size = w.heap.size + 1 + 1 := by rw [hW]; simp
  have hb0 : CB w.heap.size 0 c W := by
    rw [hW]
    exact ⟨by simp [go_sem], by simp [go_sem], by simp [go_sem], by simp [go_sem], by simp [go_sem], by simp [go_sem], by simp [go_sem], by simp [go_sem], by simp [go_sem], by simp [go_sem], by simp [go_sem], by simp [go_sem]⟩
  have hr0 : W.cell? ⟨w.heap.size + 1, 0, none⟩ = some (.int .i64 0) := by rw [hW]; simp [go_sem]
  have hr1 : W.cell? ⟨w.heap.size + 1, 1, none⟩ = some (.slice none 0 0) := by rw [hW]; simp [go_sem]
  have hf0 : W.frozen? ⟨w.heap.size + 1, 0, none⟩ = false := by rw [hW]; simp [go_sem]
  have hf1 : W.frozen? ⟨w.heap.size + 1, 1, none⟩ = false := by rw [hW]; simp [go_sem]
  have HBW : Hid (Below w.heap.size w W) := bW
  have HOK : Hid (∀ v, Below w.heap.size w v → Calls Tryz.prog 20 #[cv c] v fun e w' => e = .returned (.bool (caseOk c)) ∧ Below v.heap.size v w') := fun v hv => iCaseOk_any c v hc
  have HIT : Hid (0 ≤ n ∧ n ≤ 9999 → ∀ v, Below w.heap.size w v → Calls Tryz.prog 22 #[.int .i64 n] v fun e w' => e = .returned (.string ⟨(decI n).toArray⟩) ∧ Below v.heap.size v w') := fun h v hv => itoaI h.1 (by omega) (Mo.Pow10.below hp hv)
  have HST : Hid (∀ v, Below w.heap.size w v → Calls Tryz.prog 15 #[.int .i64 c.st] v fun e w' => e = .returned (.string ⟨(tellS c).toArray⟩) ∧ Below v.heap.size v w') := fun v hv => by
    rw [tellS_is]
    exact (iState_any c.st v (StateTab.below ht hv)).mono fun e w' h => ⟨h.1, by rw [h.2]; exact Below.refl _ _⟩
  have HMT : Hid (∀ v, Below w.heap.size w v → Calls Tryz.prog 23 #[.int .i64 c.cl, .int .i64 c.cur] v fun e w' => e = .returned (.string ⟨(Mo.moneyT c.cl c.cur).toArray⟩) ∧ Below v.heap.size v w') := fun v hv => Mo.iMoneyText_any c.cl c.cur v hc (Mo.Pow10.below hp hv)
  have HP1 : Hid (∀ v, Below w.heap.size w v → Calls Tryz.prog 24 #[.int .i64 c.bk, .int .i64 12] v fun e w' => e = .returned (.string ⟨(Tg.padT c.bk 12).toArray⟩) ∧ Below v.heap.size v w') := fun v hv => Tg.iPadNum_any c.bk 12 v (Tg.Pow10.below hp hv)
  have HP2 : Hid (∀ v, Below w.heap.size w v → Calls Tryz.prog 24 #[.int .i64 c.cur, .int .i64 3] v fun e w' => e = .returned (.string ⟨(Tg.padT c.cur 3).toArray⟩) ∧ Below v.heap.size v w') := fun v hv => Tg.iPadNum_any c.cur 3 v (Tg.Pow10.below hp hv)
  have HPT : Hid (0 ≤ n ∧ n ≤ 9999 → ∀ (v : World) (bk : Nat), Below w.heap.size w v → v.cell? ⟨bk, 0, none⟩ = some (.int .i64 1) → v.cell? ⟨bk, 1, none⟩ = some (.string ⟨(decI n).toArray⟩) → v.cell? ⟨bk, 2, none⟩ = some (.int .i64 2) → v.cell? ⟨bk, 3, none⟩ = some (.string ⟨(tellS c).toArray⟩) → v.cell? ⟨bk, 4, none⟩ = some (.int .i64 3) → v.cell? ⟨bk, 5, none⟩ = some (.string ⟨(Mo.moneyT c.cl c.cur).toArray⟩) →
      Calls Tryz.prog 21 #[.slice (some ⟨bk, 0, none⟩) 3 3] v fun e w' => e = .returned (.tuple #[.string ⟨(Tg.putL (tellTags c n)).toArray⟩, .bool (Tg.putOk (tellTags c n))]) ∧ Below v.heap.size v w') := fun hn v bk hv h0 h1 h2 h3 h4 h5 =>
    Tg.iPutTags_any (some ⟨bk, 0, none⟩) 3 (tellTags c n) v (tags_three h0 h1 h2 h3 h4 h5) (by simp [tellTags]) (tag_small hn) (Tg.Pow10.below hp hv)
  obtain ⟨K, hK⟩ : ∃ K, caseOk c = K := ⟨_, rfl⟩
  rw [hK] at HOK
  have HKE : Hid _ := hK
  have HTF : Hid (tellF c n = [(4, Tg.padT c.bk 12), (24, [54, 57, 49]), (48, Tg.putL (tellTags c n)), (49, Tg.padT c.cur 3)]) := rfl
  have HN1 : Hid _ := @tell_no1 c n
  have HN2 : Hid _ := @tell_no2 c n
  have HY : Hid _ := @tell_yes c n
  have HKN : Hid _ := @tellK_no c n
  have HLN : Hid _ := @tellL_no c n
  have HKY : Hid _ := @tellK_yes c n
  have HLY : Hid _ := @tellL_yes c n
  obtain ⟨TK, hTK⟩ : ∃ x, tellK c n = x := ⟨_, rfl⟩
  obtain ⟨TL, hTL⟩ : ∃ x, tellL c n = x := ⟨_, rfl⟩
  obtain ⟨TO, hTO⟩ : ∃ x, tellOk c n = x := ⟨_, rfl⟩
  obtain ⟨TF, hTF⟩ : ∃ x, tellF c n = x := ⟨_, rfl⟩
  rw [hTK, hTL, hTO]
  rw [hTK, hTO] at HKN HKY
  rw [hTL, hTO] at HLN
  rw [hTL, hTO, hTF] at HLY
  rw [hTO] at HN1 HN2 HY
  rw [hTF] at HTF
  obtain ⟨A, hA⟩ : ∃ x, decI n = x := ⟨_, rfl⟩
  obtain ⟨S, hS⟩ : ∃ x, tellS c = x := ⟨_, rfl⟩
  obtain ⟨M, hM⟩ : ∃ x, Mo.moneyT c.cl c.cur = x := ⟨_, rfl⟩
  obtain ⟨P1, hP1⟩ : ∃ x, Tg.padT c.bk 12 = x := ⟨_, rfl⟩
  obtain ⟨P2, hP2⟩ : ∃ x, Tg.padT c.cur 3 = x := ⟨_, rfl⟩
  obtain ⟨G, hG⟩ : ∃ x, Tg.putL (tellTags c n) = x := ⟨_, rfl⟩
  obtain ⟨GO, hGO⟩ : ∃ x, Tg.putOk (tellTags c n) = x := ⟨_, rfl⟩
  rw [hA] at HIT HPT
  rw [hS] at HST HPT
  rw [hM] at HMT HPT
  rw [hP1] at HP1 HTF
  rw [hP2] at HP2 HTF
  rw [hG] at HPT HTF
  rw [hGO] at HPT
  clear hA hS hM hP1 hP2 hG hGO hTK hTL hTO hTF hp ht hc
  obtain ⟨iss, acq, cur, am, st, rsn, cl, bk, fee, cop, sta, due⟩ := c
  unfold cv at HOK ⊢
  simp only at hW HOK HST HMT HP1 HP2 hK HKE ⊢
  have HW : Hid _ := hW
  have HWS : Hid _ := hWs
  have HCB : Hid _ := hb0
  have HR : Hid (W.cell? ⟨w.heap.size + 1, 0, none⟩ = some (.int .i64 0) ∧ W.cell? ⟨w.heap.size + 1, 1, none⟩ = some (.slice none 0 0) ∧ W.frozen? ⟨w.heap.size + 1, 0, none⟩ = false ∧ W.frozen? ⟨w.heap.size + 1, 1, none⟩ = false) := ⟨hr0, hr1, hf0, hf1⟩
  obtain ⟨f0, f1, f2, f3, f4, f5, f6, f7, f8, f9, f10, f11⟩ := hb0
  simp only [Nat.zero_add] at f0 f1 f2 f3 f4 f5 f6 f7 f8 f9 f10 f11
  clear hW hr0 hr1 hf0 hf1 bW
  go_enter Tryz.func6, Tryz.ntmps6
  go_upto_region 1 with fail
  rw [← HW.out]
  clear HW
  go_wp2_with fail
  refine (HOK.out _ HBW.out).mono ?_
  rintro e u1 ⟨rfl, b1⟩
  have HB1 : Hid (Below w.heap.size w u1) := next HBW.out b1
  have HCB1 : Hid (CB w.heap.size 0 ⟨iss, acq, cur, am, st, rsn, cl, bk, fee, cop, sta, due⟩ u1) := HCB.out.below b1
  have HR1 : Hid (∀ u, Below u1.heap.size u1 u → u.cell? ⟨w.heap.size + 1, 0, none⟩ = some (.int .i64 0) ∧ u.cell? ⟨w.heap.size + 1, 1, none⟩ = some (.slice none 0 0) ∧ u.frozen? ⟨w.heap.size + 1, 0, none⟩ = false ∧ u.frozen? ⟨w.heap.size + 1, 1, none⟩ = false) := fun u h => by
    have hl : w.heap.size + 1 < W.heap.size := by have := HWS.out; omega
    have b := b1.trans (h.mono b1.size)
    exact ⟨(b.cell (p := ⟨w.heap.size + 1, 0, none⟩) hl).trans HR.out.1, (b.cell (p := ⟨w.heap.size + 1, 1, none⟩) hl).trans HR.out.2.1, (b.frozen (p := ⟨w.heap.size + 1, 0, none⟩) hl).trans HR.out.2.2.1, (b.frozen (p := ⟨w.heap.size + 1, 1, none⟩) hl).trans HR.out.2.2.2⟩
  have HCC : Hid (∀ u, Below u1.heap.size u1 u → u.cell? ⟨w.heap.size, 4, none⟩ = some (.int .i64 st) ∧ u.cell? ⟨w.heap.size, 6, none⟩ = some (.int .i64 cl) ∧ u.cell? ⟨w.heap.size, 2, none⟩ = some (.int .i64 cur) ∧ u.cell? ⟨w.heap.size, 7, none⟩ = some (.int .i64 bk)) := fun u h => by
    obtain ⟨t0, t1, t2, t3, t4, t5, t6, t7, t8, t9, t10, t11⟩ := HCB1.out.below h
    simp only [Nat.zero_add] at t2 t4 t6 t7
    exact ⟨t4, t6, t2, t7⟩
  have HCD : Hid (∀ u, Below u1.heap.size u1 u → u.cell? ⟨w.heap.size, 4, none⟩ = some (.int .i64 st) ∧ u.cell? ⟨w.heap.size, 6, none⟩ = some (.int .i64 cl) ∧ u.cell? ⟨w.heap.size, 2, none⟩ = some (.int .i64 cur)) := fun u h => by
    obtain ⟨t0, t1, t2, t3⟩ := HCC.out u h
    exact ⟨t0, t1, t2⟩
  have HS1 : Hid (w.heap.size + 1 < u1.heap.size) := by have := HWS.out; have := b1.size; rw [Hid]; omega
  clear f0 f1 f2 f3 f4 f5 f6 f7 f8 f9 f10 f11 b1 HBW HR HOK HCB hWs
  have NOEND : Hid (TO = false → TK = 0 ∧ TL = []) := fun h => ⟨HKN.out h, HLN.out h⟩
  cases K
  · obtain ⟨z0, z1, z2, z3⟩ := HR1.out u1 (Below.refl _ _)
    have HT : Hid (TO = false) := HN1.out hK
    go_wp2
    refine bodyPost_ret (by simp [results, Tryz.results6, go_sem, z0, z1]; try rfl) rfl ?_
    obtain ⟨e1, e2⟩ := NOEND.out HT.out
    rw [e1, e2, HT.out]
    exact ⟨none, 0, rfl, World.ownsRow_nil _ _ _ _, (HB1.out.setCell (show w.heap.size ≤ w.heap.size + 1 by omega) _).setCell (show w.heap.size ≤ w.heap.size + 1 by omega) _⟩
  by_cases hn : 0 ≤ n ∧ n ≤ 9999
  case neg =>
    obtain ⟨z0, z1, z2, z3⟩ := HR1.out u1 (Below.refl _ _)
    have HT : Hid (TO = false) := HN2.out hn
    by_cases h0 : n < 0
    · go_wp2
      refine bodyPost_ret (by simp [results, Tryz.results6, go_sem, z0, z1]; try rfl) rfl ?_
      obtain ⟨e1, e2⟩ := NOEND.out HT.out
      rw [e1, e2, HT.out]
      exact ⟨none, 0, rfl, World.ownsRow_nil _ _ _ _, (HB1.out.setCell (show w.heap.size ≤ w.heap.size + 1 by omega) _).setCell (show w.heap.size ≤ w.heap.size + 1 by omega) _⟩
    · have h9 : 9999 < n := by omega
      go_wp2
      refine bodyPost_ret (by simp [results, Tryz.results6, go_sem, z0, z1]; try rfl) rfl ?_
      obtain ⟨e1, e2⟩ := NOEND.out HT.out
      rw [e1, e2, HT.out]
      exact ⟨none, 0, rfl, World.ownsRow_nil _ _ _ _, (HB1.out.setCell (show w.heap.size ≤ w.heap.size + 1 by omega) _).setCell (show w.heap.size ≤ w.heap.size + 1 by omega) _⟩
  have HT : Hid (TO = true) := HY.out hK hn
  have HIT1 : Hid _ := HIT.out hn
  have HPT1 : Hid _ := HPT.out hn
  obtain ⟨y4, y6, y2, y7⟩ := HCC.out u1 (Below.refl _ _)
  go_upto_region 3 with fail
  have q0 : Below u1.heap.size u1 u1 := Below.refl _ _
  go_cut [6] (fun v wc => v = .string ⟨G.toArray⟩ ∧ Below u1.heap.size u1 wc)
  case first =>
    go_region_held3 (fun u => u.cell? ⟨w.heap.size, 4, none⟩ = some (.int .i64 st) ∧ u.cell? ⟨w.heap.size, 6, none⟩ = some (.int .i64 cl) ∧ u.cell? ⟨w.heap.size, 2, none⟩ = some (.int .i64 cur)) (first | exact HCD.out _ q5 | exact HCD.out _ q3 | exact HCD.out _ q2 | exact HCD.out _ q1 | exact HCD.out _ q0 | exact HCD.out _ q0.drew | exact HCD.out _ (q3.alloc q3.size _)) ((first
      | (go_at_call 22; (first | with_reducible refine (HIT1.out _ (next HB1.out q0)).mono ?_ | with_reducible refine (HIT1.out _ (next HB1.out q0.drew)).mono ?_ | refine (HIT1.out _ (next HB1.out (by go_grown))).mono ?_); rintro e v1 ⟨rfl, b1⟩; have q1 : Below u1.heap.size u1 v1 := next (by go_grown) b1)
      | (go_at_call 15; refine (HST.out _ (next HB1.out q1)).mono ?_; rintro e v2 ⟨rfl, b2⟩; have q2 : Below u1.heap.size u1 v2 := next q1 b2)
      | (go_at_call 23; refine (HMT.out _ (next HB1.out q2)).mono ?_; rintro e v3 ⟨rfl, b3⟩; have q3 : Below u1.heap.size u1 v3 := next q2 b3)
      | (go_at_call 21; refine (HPT1.out _ _ ((next HB1.out q3).alloc (next HB1.out q3).size _) (by simp) (by simp) (by simp) (by simp) (by simp) (by simp)).mono ?_; rintro e v5 ⟨rfl, b5⟩; have q5 : Below u1.heap.size u1 v5 := next (q3.alloc q3.size _) b5)))
    all_goals
      go_wp2_with fail
      go_meet
      exact ⟨rfl, q5⟩
  case rest =>
    obtain ⟨rfl, b6⟩ := hcut
    have HQ6 : Hid (Below u1.heap.size u1 wc) := b6
    obtain ⟨r4, r6, r2, r7⟩ := HCC.out wc b6
    clear y4 y6 y2 y7 b6
    have k0 : Below wc.heap.size wc wc := Below.refl _ _
    have HC6 : Hid (∀ u, Below wc.heap.size wc u → u.cell? ⟨w.heap.size, 2, none⟩ = some (.int .i64 cur) ∧ u.cell? ⟨w.heap.size, 7, none⟩ = some (.int .i64 bk)) := fun u h => (HCC.out u (next HQ6.out h)).2.2
    have HB6 : Hid (Below w.heap.size w wc) := next HB1.out HQ6.out
    go_upto_region 4 with fail
    have HAA : Hid (∀ v, Below wc.heap.size wc v → ∀ o, (v.alloc o).cell? ⟨w.heap.size + 1, 0, none⟩ = some (.int .i64 0) ∧ (v.alloc o).cell? ⟨w.heap.size + 1, 1, none⟩ = some (.slice none 0 0) ∧ (v.alloc o).frozen? ⟨w.heap.size + 1, 0, none⟩ = false ∧ (v.alloc o).frozen? ⟨w.heap.size + 1, 1, none⟩ = false) := fun v h o => by
      have hk := next HQ6.out h
      exact HR1.out _ (hk.alloc hk.size o)
    go_region_with (first
      | (go_at_call_of 24 (Value.int .i64 bk); (first | with_reducible refine (HP1.out _ (next HB6.out k0)).mono ?_ | with_reducible refine (HP1.out _ (next HB6.out k0.drew)).mono ?_ | refine (HP1.out _ (next HB6.out (by go_grown))).mono ?_); rintro e v7 ⟨rfl, b7⟩; have k1 : Below wc.heap.size wc v7 := next (by go_grown) b7; obtain ⟨s2, s7⟩ := HC6.out _ k1)
      | (go_at_call_of 24 (Value.int .i64 cur); refine (HP2.out _ (next HB6.out k1)).mono ?_; rintro e v8 ⟨rfl, b8⟩; have k2 : Below wc.heap.size wc v8 := next k1 b8; have a0 := fun o => (HAA.out _ k2 o).1; have a1 := fun o => (HAA.out _ k2 o).2.1; have a2 := fun o => (HAA.out _ k2 o).2.2.1; have a3 := fun o => (HAA.out _ k2 o).2.2.2))
    all_goals
      have HK2 : Hid (Below u1.heap.size u1 v8) := next HQ6.out k2
      have HB8 : Hid (Below w.heap.size w v8) := next HB1.out HK2.out
      obtain ⟨V, hV⟩ : ∃ V, V = v8.alloc (.cells #[.int .i64 4, .string ⟨P1.toArray⟩, .int .i64 24, .string ⟨#[54, 57, 49]⟩, .int .i64 48, .string ⟨G.toArray⟩, .int .i64 49, .string ⟨P2.toArray⟩] 57) := ⟨_, rfl⟩
      have bV : Below v8.heap.size v8 V := by rw [hV]; exact (Below.refl _ _).alloc (Nat.le_refl _) _
      have HOV : Hid (V.ownsRow w.heap.size 57 2 (.slice (some ⟨v8.heap.size, 0, none⟩) 4 4) 4 (fcells TF)) := by
        have h := World.ownsRow_lit (base := w.heap.size) (e := 57) (size := 2) v8 #[.int .i64 4, .string ⟨P1.toArray⟩, .int .i64 24, .string ⟨#[54, 57, 49]⟩, .int .i64 48, .string ⟨G.toArray⟩, .int .i64 49, .string ⟨P2.toArray⟩] 4 HB8.out.size (by decide) rfl
        rw [Hid, hV, HTF.out]; exact h
      have HBV : Hid (Below w.heap.size w V) := next HB8.out bV
      have HNE : Hid (w.heap.size + 1 < v8.heap.size) := by have := HS1.out; have := HK2.out.size; rw [Hid]; omega
      have HV : Hid _ := hV
      have HLF : Hid (TF.length = 4) := by rw [Hid, HTF.out]; rfl
      clear hV bV
      go_wp2
      refine bodyPost_ret (by simp [results, Tryz.results6, go_sem, a0, a1]; try rfl) rfl ?_
      rw [← HV.out, HKY.out HT.out, HLY.out HT.out, HT.out]
      refine ⟨some ⟨v8.heap.size, 0, none⟩, 4, by rw [HLF.out], ?_, (HBV.out.setCell (show w.heap.size ≤ w.heap.size + 1 by omega) _).setCell (show w.heap.size ≤ w.heap.size + 1 by omega) _⟩
      rw [HLF.out]
      exact keepSet (keepSet HOV.out _ _ (fun g hg => by cases hg; have := HNE.out; show v8.heap.size ≠ w.heap.size + 1; omega)) _ _ (fun g hg => by cases hg; have := HNE.out; show v8.heap.size ≠ w.heap.size + 1; omega)

end Go.Proofs.YtjnekdihmchlpaaGreatDoor
