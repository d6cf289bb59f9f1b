/- The contract of the specification's Batch. -/
import Derived.Test.YtbncdhfmhokgeaaGreatDoorKFnBatchSBat1
import Derived.Test.YtbncdhfmhokgeaaGreatDoorKFnBatchFBat
import Derived.Test.YtbncdhfmhokgeaaGreatDoorJFnBatch4a
import Derived.Test.YtbncdhfmhokgeaaGreatDoorKFnBatchSBlock
namespace Go.Proofs.YtbncdhfmhokgeaaGreatDoor
open Go.RowKit
set_option maxRecDepth 100000

theorem one_own (w : World) (r : List UInt8) : (w.alloc (.cells #[.string ⟨r.toArray⟩] 9)).ownsRow w.heap.size 9 1 (.slice (some ⟨w.heap.size, 0, none⟩) 1 1) 1 (scells [r]) := World.ownsRow_lit w #[.string ⟨r.toArray⟩] 1 (Nat.le_refl _) (by unfold maxLen; omega) rfl

set_option maxHeartbeats 6400000 in
theorem sBatch_any (ao : Option Addr) (cap : Nat) (xs : List MV) (w : World) (hz : MsgsAt w ao xs) (hs : SmallM xs) (hgd : GoodMs xs) (hn : xs.length ≤ 1048576) :
    Calls Tryz.prog 19 #[.slice ao xs.length cap] w fun e w' => e = .returned (.tuple #[.string ⟨(batchL (plainM xs)).toArray⟩, .bool (batchOk (plainM xs))]) ∧ Below w.heap.size w w' := by
  obtain ⟨i0, hi, hz0, hz1, hz2⟩ := info_parts infoS
  by_cases h198 : (198 : Int) < (xs.length : Int)
  · have HN : Hid _ := batchOk_no1 (ms := plainM xs) (by rw [plainM_len]; omega)
    go_enter Tryz.func19, Tryz.ntmps19
    go_wp2
    go_ret2
    exact ⟨str_ok (by rw [batchL_no HN.out]) HN.out.symm, Below.refl _ _⟩
  · have hn2 : xs.length ≤ 198 := by omega
    have HZ : Hid (MsgsAt w ao xs) := hz
    have HS : Hid (SmallM xs) := hs
    have HG : Hid (GoodMs xs) := hgd
    clear hz hs hgd
    go_enter Tryz.func19, Tryz.ntmps19
    go_wp2
    go_loopw [4] (fun i wr => ∃ (k : Nat), k ≤ xs.length ∧ i = .int .i64 k ∧ allOk (plainM xs) = allOk ((plainM xs).drop k) ∧ Below w.heap.size w wr) (fun i _ => xs.length - (intOf i).toNat)
    case atStart => exact ⟨0, Nat.zero_le _, rfl, rfl, Below.refl _ _⟩
    case round =>
      obtain ⟨k, hk, rfl, hok, hbr⟩ := hrel
      have HOK : Hid _ := hok
      clear hok
      by_cases hlt : k < xs.length
      · obtain ⟨b, off, rfl, hb, c1, c2, hf⟩ := (HZ.out.below hbr).at hlt
        have hki : (k : Int) < (xs.length : Int) := by omega
        have hst := allOk_step (plainM xs) k (by rw [plainM_len]; exact hlt)
        rw [plainM_at hlt] at hst
        have hsm := HS.out _ (vAt_mem hlt)
        obtain ⟨⟨kd, fa, fc, fs⟩, hx⟩ : ∃ x, vAt xs k = x := ⟨_, rfl⟩
        rw [hx] at c1 c2 hf hst hsm
        simp only at c1 c2 hf hst hsm
        have HC : Hid (Calls Tryz.prog 39 #[.agg #[.int .i64 kd, .slice fa fs.length fc]] wr fun e w' => e = .returned (.bool (msgOk kd fs)) ∧ Below wr.heap.size wr w') := sMessageOk_any kd fa fc fs wr hf hsm.1 hsm.2
        clear hx hf hsm
        cases hmo : msgOk kd fs
        · rw [hmo, Bool.false_and] at hst
          have HBAD : Hid (batchOk (plainM xs) = false) := batchOk_no2 (HOK.out.trans hst)
          rw [hmo] at HC
          clear hmo hst
          go_wp2_with fail
          refine HC.out.mono ?_
          rintro e w2 ⟨rfl, b2⟩
          have q2 := next hbr b2
          clear HC b2
          go_wp2
          go_ret2
          exact ⟨str_ok (by rw [batchL_no HBAD.out]) HBAD.out.symm, q2⟩
        · rw [hmo, Bool.true_and] at hst
          have HOK2 : Hid _ := HOK.out.trans hst
          rw [hmo] at HC
          clear hmo hst HOK
          go_wp2_with fail
          refine HC.out.mono ?_
          rintro e w2 ⟨rfl, b2⟩
          have q2 := next hbr b2
          clear HC b2
          go_wp2
          go_roundw
          case rel => exact ⟨k + 1, by omega, by go_num, HOK2.out, q2⟩
          case measure => simp [intOf]; omega
      · have hke : k = xs.length := by omega
        subst hke
        have hki : ¬ (xs.length : Int) < (xs.length : Int) := by omega
        have hall : allOk (plainM xs) = true := by
          have h := HOK.out
          have e : (plainM xs).length = xs.length := plainM_len xs
          rw [← e, allOk_end] at h; exact h
        have HALL : Hid _ := hall
        have HC : Hid (Calls Tryz.prog 60 #[.slice ao xs.length cap] wr (TailR wr (plainM xs))) := l06Tail_any ao cap xs wr (HZ.out.below hbr) HS.out hn2 hall
        clear hall HOK
        go_wp2_with fail
        refine HC.out.mono ?_
        rintro e w1 ⟨tkd, tao, tn, tcap, rfl, hyes, b1⟩
        have q1 := next hbr b1
        have HYES : Hid _ := hyes
        clear HC b1 hyes hbr
        cases hsm : decide (sumA (plainM xs) < 1000000000000)
        · have HBAD : Hid _ := tail_no hsm
          have QQ : Hid (Below w.heap.size w (w1.alloc (.cells #[.int .i64 tkd, .slice tao tn tcap] 26))) := q1.alloc q1.size _
          clear hsm
          go_wp2
          go_ret2
          exact ⟨str_ok (by rw [batchL_no HBAD.out]) HBAD.out.symm, QQ.out⟩
        · have h3 := of_decide_eq_true hsm
          obtain ⟨rfl, rfl, hfl⟩ := HYES.out h3
          have HB1 : Hid _ := batchOk_is (ms := plainM xs) (by rw [plainM_len]; exact hn2) HALL.out h3
          have HB2 : Hid _ := batchL_is (ms := plainM xs) (by rw [plainM_len]; exact hn2) HALL.out h3
          have HTO : Hid (msgOk 1644 (tailF (plainM xs)) = true) := by rw [Hid, tail_ok (sum_bd HALL.out).1 (by rw [plainM_len]; exact hn2), hsm]
          have HTB : Hid _ := tailF_bd (plainM xs)
          have HBL : Hid _ := batchRecs_len (plainM xs)
          have HBD : Hid _ := batchRecs_bd (plainM xs)
          obtain ⟨W, hW⟩ : ∃ W, W = w1.alloc (.cells #[.int .i64 1644, .slice tao 3 tcap] 26) := ⟨_, rfl⟩
          have bW : Below w1.heap.size w1 W := by rw [hW]; go_grown
          have x0 : W.cell? ⟨w1.heap.size, 0, none⟩ = some (.int .i64 1644) := by rw [hW]; simp
          have x1 : W.cell? ⟨w1.heap.size, 1, none⟩ = some (.slice tao 3 tcap) := by rw [hW]; simp
          have HFW : Hid (FldsAt W tao (tailF (plainM xs))) := hfl.below bW
          have qW := next q1 bW
          clear h3 hsm hfl bW HYES
          go_wp2_with fail
          rw [← hW]
          clear hW
          refine (l06Head_any _).mono ?_
          rintro e w2 ⟨rfl, f2, b2⟩
          have q2 : Below W.heap.size W w2 := b2
          have HC2 : Hid (Calls Tryz.prog 10 #[.agg #[.int .i64 1644, .slice (some ⟨W.heap.size + 1, 0, none⟩) 2 2]] w2 fun e w' => e = .returned (.tuple #[.string ⟨(packL 1644 head1).toArray⟩, .bool true]) ∧ Below w2.heap.size w2 w') := by
            have h5 := sPack_any 1644 (some ⟨W.heap.size + 1, 0, none⟩) 2 head1 w2 f2 (by decide) (by decide)
            rw [head1_ok] at h5; exact h5
          clear f2 b2
          go_wp2_with fail
          refine HC2.out.mono ?_
          rintro e w3 ⟨rfl, b3⟩
          have q3 := next q2 b3
          have HR1 : Hid _ := recsTo_one (plainM xs)
          obtain ⟨h, hh⟩ : ∃ h, packL 1644 head1 = h := ⟨_, rfl⟩
          rw [hh] at HR1 ⊢
          have HOW : Hid ((w3.alloc (.cells #[.string ⟨h.toArray⟩] 9)).ownsRow w3.heap.size 9 1 (.slice (some ⟨w3.heap.size, 0, none⟩) 1 1) 1 (scells (recsTo (headM (plainM xs)) 1))) := by rw [Hid, HR1.out]; exact one_own w3 h
          have q4 : Hid (Below W.heap.size W w3) := q3
          have hs3 := q3.size
          clear b3 hh HC2 q2 q3
          go_wp2
          go_loopw [9, 10] (fun s i wr => ∃ (v : Value) (k : Nat), v = s ∧ k ≤ xs.length ∧ i = .int .i64 k ∧ wr.ownsRow w3.heap.size 9 1 v (k + 1) (scells (recsTo (headM (plainM xs)) (k + 1))) ∧ Below w3.heap.size w3 wr) (fun _ i _ => xs.length - (intOf i).toNat)
          case atStart => exact ⟨_, 0, rfl, Nat.zero_le _, rfl, HOW.out, by go_grown⟩
          case round =>
            obtain ⟨v, k, hvs, hk, rfl, ho, hbr⟩ := hrel
            subst hvs
            clear HOW
            obtain ⟨R, hR⟩ : ∃ R, R = wr := ⟨_, rfl⟩
            subst hR
            have hbs := hbr.size
            have HO : Hid (R.ownsRow w3.heap.size 9 1 v (k + 1) (scells (recsTo (headM (plainM xs)) (k + 1)))) := ho
            have HLT : Hid (∀ j, v.ownBlock = some j → w3.heap.size ≤ j) := fun j hj => (ho.lt j hj).1
            have qR := next qW (next q4.out hbr)
            clear ho
            by_cases hlt : k < xs.length
            · obtain ⟨b, off, rfl, hb, c1, c2, hf⟩ := (HZ.out.below qR).at hlt
              have hki : (k : Int) < (xs.length : Int) := by omega
              have hg := HG.out _ (vAt_mem hlt)
              have hsm := HS.out _ (vAt_mem hlt)
              have hmk := allOk_mem HALL.out _ (plainM_mem (vAt_mem hlt))
              have HRS : Hid _ := recsTo_succ (headM (plainM xs)) (k + 1)
              have hpa : mAt (headM (plainM xs)) (k + 1) = mAt (plainM xs) k := rfl
              rw [hpa, plainM_at hlt] at HRS
              obtain ⟨⟨kd, fa, fc, fs⟩, hx⟩ : ∃ x, vAt xs k = x := ⟨_, rfl⟩
              rw [hx] at c1 c2 hf hg hsm hmk HRS
              simp only at c1 c2 hf hsm hmk HRS
              have HF : Hid (FldsAt R fa fs) := hf
              have hn1 := hsm.1
              have hd1 := hsm.2
              have hp8 := place_len (k + 2)
              have hp9 : (place (k + 2)).length ≤ 1099511627776 := by omega
              have hi2 : k + 2 < 100000000 := by omega
              have HWO : Hid (withOk kd fs 71 (place (k + 2)) = true) := by rw [Hid, withOk71 hi2]; exact hmk
              have HPL : Hid (padT ((k : Int) + 2) 8 = place (k + 2)) := by
                rw [Hid, place]; congr 1
              have HMK : Hid _ := hmk
              have hwk : IntKind.i64.wrap ((k : Int) + 2) = (k : Int) + 2 := by simp [IntKind.wrap, IntKind.bits, IntKind.signed]; omega
              have k0a : ∀ o, (R.alloc o).cell? ⟨b, off + k * 2, none⟩ = some (.int .i64 kd) := fun o => (World.cell?_alloc_lt _ _ ⟨b, off + k * 2, none⟩ hb).trans c1
              have k1a : ∀ o, (R.alloc o).cell? ⟨b, off + k * 2 + 1, none⟩ = some (.slice fa fs.length fc) := fun o => (World.cell?_alloc_lt _ _ ⟨b, off + k * 2 + 1, none⟩ hb).trans c2
              clear hx hf hsm hmk hpa
              go_upto_region 16 with fail
              go_cut [11, 12] (fun v11 v12 wc => ∃ B a3 c3, v11 = .pointer (some ⟨B, 0, none⟩) ∧ v12 = .bool true ∧ PlB R kd (withL kd fs 71 (place (k + 2))) B a3 c3 wc)
              case first =>
                go_region_law (first
                  | (go_simp; go_at_call 42; refine (sPadNum_any _ _ _).mono ?_; rintro e w5 ⟨rfl, b5⟩; have q5 : Below R.heap.size R w5 := ((Below.refl _ _).drew).trans b5; rw [HPL.out]; have j0 := (q5.cell (p := ⟨b, off + k * 2, none⟩) hb).trans c1; have j1 := (q5.cell (p := ⟨b, off + k * 2 + 1, none⟩) hb).trans c2; have hb5 : b < w5.heap.size := Nat.lt_of_lt_of_le hb q5.size; have j0a : ∀ o, (w5.alloc o).cell? ⟨b, off + k * 2, none⟩ = some (.int .i64 kd) := (fun o => (World.cell?_alloc_lt _ _ ⟨b, off + k * 2, none⟩ hb5).trans j0); have j1a : ∀ o, (w5.alloc o).cell? ⟨b, off + k * 2 + 1, none⟩ = some (.slice fa fs.length fc) := (fun o => (World.cell?_alloc_lt _ _ ⟨b, off + k * 2 + 1, none⟩ hb5).trans j1); have hk2 : R.heap.size ≤ w5.heap.size := q5.size; clear b5)
                  | (go_simp; go_at_call 42; refine (sPadNum_any _ _ _).mono ?_; rintro e w5 ⟨rfl, b5⟩; have b5' := drewBox b5; obtain ⟨m0, m1, m2, m3, q5, hlt2⟩ := b5'; rw [HPL.out]; have j0 := (q5.cell (p := ⟨b, off + k * 2, none⟩) hb).trans c1; have j1 := (q5.cell (p := ⟨b, off + k * 2 + 1, none⟩) hb).trans c2; have hk2 : R.heap.size ≤ w5.heap.size := q5.size; clear b5)
                  | (go_simp; go_at_call 62; refine (sWithG hg (HF.out.below q5) hn1 hd1 hp9).mono ?_; rintro e w6 ⟨a3, c3, rfl, o6, b6⟩; rw [HWO.out]; have q6 := next q5 b6; have HO6 : Hid (w6.ownsRow w5.heap.size 60 2 (.slice a3 (withL kd fs 71 (place (k + 2))).length c3) (withL kd fs 71 (place (k + 2))).length (fcells (withL kd fs 71 (place (k + 2))))) := o6; (first | (have t := keep4 ⟨m0, m1, m2, m3⟩ b6; obtain ⟨n0, n1, n2, n3⟩ := t) | skip); clear b6 o6)
                  | (go_simp; go_at_call 62; refine (sWithG hg (HF.out.below (bA1 q5 _)) hn1 hd1 hp9).mono ?_; rintro e w6 ⟨a3, c3, rfl, o6, b6⟩; rw [HWO.out]; obtain ⟨n0, n1, n2, n3, q6', hlt3⟩ := box2f b6; have q6 := next q5 q6'; have HO6 : Hid (w6.ownsRow (w5.heap.size + 1) 60 2 (.slice a3 (withL kd fs 71 (place (k + 2))).length c3) (withL kd fs 71 (place (k + 2))).length (fcells (withL kd fs 71 (place (k + 2))))) := (by rw [Hid]; simpa using o6); clear b6 o6 q6')
                  | fail)
                all_goals
                  go_wp2_with fail
                  go_meet
                  first
                    | exact ⟨_, _, _, rfl, rfl, plB_new HO6.out q6⟩
                    | exact ⟨_, _, _, rfl, rfl, plB_set hk2 n0 n1 HO6.out (Nat.lt_succ_self _) q6⟩
                    | exact ⟨_, _, _, rfl, rfl, plB_set (Nat.le_refl _) n0 n1 HO6.out hlt2 q6⟩
              case rest =>
                obtain ⟨B, a3, c3, rfl, rfl, P⟩ := hcut
                obtain ⟨u, hu⟩ : ∃ x, x = wc := ⟨_, rfl⟩
                subst hu
                have hw := withL_yes HWO.out
                have hmw := msgOk_with HMK.out hi2
                obtain ⟨hs1, hs2⟩ := small_ok (msgOk_parts hmw).2
                have p0 := P.c0
                have p1 := P.c1
                have pf := P.fl
                have qu := P.bel
                rw [hw] at p1 pf
                have HRR : Hid (recOf (kd, fs) (k + 1 + 1) = packL kd (withF fs 71 (place (k + 2)))) := rfl
                rw [HRR.out] at HRS
                obtain ⟨G, hG⟩ : ∃ G, withF fs 71 (place (k + 2)) = G := ⟨_, rfl⟩
                rw [hG] at p1 pf hmw hs1 hs2 HRS
                have HC : Hid (Calls Tryz.prog 10 #[.agg #[.int .i64 kd, .slice a3 G.length c3]] u fun e w' => e = .returned (.tuple #[.string ⟨(packL kd G).toArray⟩, .bool true]) ∧ Below u.heap.size u w') := by
                  have h5 := sPack_any kd a3 c3 G u pf (by omega) (by omega)
                  rw [hmw] at h5; exact h5
                have hpl := packL_len kd G
                clear hw hmw hG pf P c1 c2 k0a k1a HRR
                go_wp2_with fail
                refine HC.out.mono ?_
                rintro e w5 ⟨rfl, b5⟩
                have q5 := next qu b5
                have qq := next hbr q5
                have hs5 := qq.size
                have HO5 : Hid (w5.ownsRow w3.heap.size 9 1 v (k + 1) (scells (recsTo (headM (plainM xs)) (k + 1)))) := keepRow HO.out q5
                obtain ⟨r, hr⟩ : ∃ r, packL kd G = r := ⟨_, rfl⟩
                rw [hr] at HRS hpl ⊢
                clear hr b5 HC HO q5 qu p0 p1
                go_wp2_with (at_builtin; refine wpList_append_own _ rfl (.tmp 68) (.tmp 70) 79 rfl w3.heap.size 9 i0 (.string ⟨#[]⟩) 1 16 Tryz.underlying79 hi hz0 hz1 hz2 rfl (by decide) _ _ _ rfl (HO5.out.alloc _) ⟨w5.heap.size, 0, none⟩ 1 1 [.string ⟨r.toArray⟩] rfl rfl (one_txt (by simp [go_sem])) (one_oneS r) (by unfold maxLen; omega) (by omega) (by simp; omega) ?_; intro v7 w7 o7 g7 _)
                have q7 : Below w3.heap.size w3 w7 := (qq.alloc hs5 _).grown g7 (by simp; omega) HLT.out
                have HR7 : Hid (w7.ownsRow w3.heap.size 9 1 v7 (k + 1 + 1) (scells (recsTo (headM (plainM xs)) (k + 1 + 1)))) := by rw [Hid, HRS.out, scells_append]; exact o7
                clear o7 g7 HO5
                go_wp2
                go_roundw
                case rel => exact ⟨_, k + 1, rfl, by omega, by go_num, HR7.out, q7⟩
                case measure => simp [intOf]; omega
            · have hke : k = xs.length := by omega
              have hki : ¬ (k : Int) < (xs.length : Int) := by omega
              have qWR : Below W.heap.size W R := next q4.out hbr
              have hw1 : w1.heap.size < W.heap.size := World.block_lt_of_cell? W _ x0
              have y0 := (qWR.cell (p := ⟨w1.heap.size, 0, none⟩) hw1).trans x0
              have y1 := (qWR.cell (p := ⟨w1.heap.size, 1, none⟩) hw1).trans x1
              have HC : Hid (Calls Tryz.prog 10 #[.agg #[.int .i64 1644, .slice tao 3 tcap]] R fun e w' => e = .returned (.tuple #[.string ⟨(packL 1644 (tailF (plainM xs))).toArray⟩, .bool true]) ∧ Below R.heap.size R w') := by
                have h5 := sPack_any 1644 tao tcap (tailF (plainM xs)) R (HFW.out.below qWR) (show 3 ≤ 1048576 by decide) (by have := HTB.out; omega)
                rw [HTO.out] at h5; exact h5
              have HRB : Hid (recsTo (headM (plainM xs)) (k + 1) ++ [packL 1644 (tailF (plainM xs))] = batchRecs (plainM xs)) := by rw [Hid, hke, batchRecs, plainM_len]
              have hpl := packL_len 1644 (tailF (plainM xs))
              obtain ⟨r, hr⟩ : ∃ r, packL 1644 (tailF (plainM xs)) = r := ⟨_, rfl⟩
              rw [hr] at HC HRB hpl
              clear hr x0 x1
              go_wp2_with fail
              refine HC.out.mono ?_
              rintro e w5 ⟨rfl, b5⟩
              have qq := next hbr b5
              have hs5 := qq.size
              have HO5 : Hid (w5.ownsRow w3.heap.size 9 1 v (k + 1) (scells (recsTo (headM (plainM xs)) (k + 1)))) := keepRow HO.out b5
              clear HC b5 HO y0 y1
              go_wp2_with (at_builtin; refine wpList_append_own _ rfl (.tmp 77) (.tmp 79) 79 rfl w3.heap.size 9 i0 (.string ⟨#[]⟩) 1 16 Tryz.underlying79 hi hz0 hz1 hz2 rfl (by decide) _ _ _ rfl (HO5.out.alloc _) ⟨w5.heap.size, 0, none⟩ 1 1 [.string ⟨r.toArray⟩] rfl rfl (one_txt (by simp [go_sem])) (one_oneS r) (by unfold maxLen; omega) (by omega) (by simp; omega) ?_; intro v7 w7 o7 g7 _; have q7 : Below w3.heap.size w3 w7 := (qq.alloc hs5 _).grown g7 (by simp; omega) HLT.out; have R7 : w7.ownsRow w3.heap.size 9 1 v7 (k + 1 + 1) (scells (batchRecs (plainM xs))) := (by rw [← HRB.out, scells_append]; exact o7); obtain ⟨a7, c7, hv7, ht7, hn7⟩ := txts_of_own R7; subst hv7; have HT7 : Hid (TxtsAt w7 a7 (batchRecs (plainM xs))) := ht7; clear o7 g7 R7 ht7)
              refine (sBlock_any a7 c7 (batchRecs (plainM xs)) w7 HT7.out (by rw [HBL.out, plainM_len]; omega) HBD.out).mono ?_
              rintro e w8 ⟨rfl, b8⟩
              have q8 := next (next qW (next q4.out q7)) b8
              rw [← HB1.out, ← HB2.out]
              clear b8
              obtain ⟨L, hL⟩ : ∃ L, batchL (plainM xs) = L := ⟨_, rfl⟩
              obtain ⟨K, hK⟩ : ∃ K, batchOk (plainM xs) = K := ⟨_, rfl⟩
              rw [hL, hK]
              have HLE : Hid _ := hL
              have HKE : Hid _ := hK
              clear hL hK
              go_wp2
              go_ret2
              exact ⟨str_ok (by rw [HLE.out]) HKE.out.symm, q8⟩

end Go.Proofs.YtbncdhfmhokgeaaGreatDoor
