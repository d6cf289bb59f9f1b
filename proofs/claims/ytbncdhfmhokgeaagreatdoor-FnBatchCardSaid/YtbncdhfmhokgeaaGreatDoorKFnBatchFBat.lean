/- The contract of the program's Batch. -/
import Derived.Test.YtbncdhfmhokgeaaGreatDoorKFnBatchFBat1
import Derived.Test.YtbncdhfmhokgeaaGreatDoorKFnBatchFBat2
import Derived.Test.YtbncdhfmhokgeaaGreatDoorJFnBatch1a
namespace Go.Proofs.YtbncdhfmhokgeaaGreatDoor
open Go.RowKit
set_option maxRecDepth 100000

theorem recsTo_bd (L : List Msg) (k : Nat) : ∀ r ∈ recsTo L k, r.length ≤ 1099511627776 := by
  intro r hr
  simp only [recsTo, List.mem_map] at hr
  obtain ⟨i, _, rfl⟩ := hr
  have := packL_len (mAt L i).1 (withF (mAt L i).2 71 (place (i + 1)))
  unfold recOf; omega
theorem batchRecs_bd (ms : List Msg) : ∀ r ∈ batchRecs ms, r.length ≤ 1099511627776 := by
  intro r hr
  rcases List.mem_append.1 hr with h | h
  · exact recsTo_bd _ _ r h
  · obtain rfl : r = packL 1644 (tailF ms) := by simpa using h
    have := packL_len 1644 (tailF ms); omega
theorem batchRecs_len (ms : List Msg) : (batchRecs ms).length = ms.length + 2 := by simp [batchRecs, recsTo_len]
theorem allOk_head (ms : List Msg) : allOk (headM ms) = allOk ms := by
  show (msgOkM (1644, headF) && allOk ms) = _
  rw [show msgOkM (1644, headF) = true from head_ok]; rfl
theorem tail_no {ms : List Msg} (h : decide (sumA ms < 1000000000000) = false) : batchOk ms = false := batchOk_no3 (by have := of_decide_eq_false h; omega)

/-- messages as a batch takes them -/
def GoodMs (xs : List MV) : Prop := ∀ x ∈ xs, GoodMV x

set_option maxHeartbeats 3200000 in
theorem iBatch_any (ao : Option Addr) (cap : Nat) (xs : List MV) (w : World) (hz : MsgsAt w ao xs) (hs : SmallM xs) (hgd : GoodMs xs) (hn : xs.length ≤ 1048576) (ht : Pow10 w) :
    Calls Tryz.prog 18 #[.slice ao xs.length cap] w fun e w' => e = .returned (.tuple #[.string ⟨(batchL (plainM xs)).toArray⟩, .bool (batchOk (plainM xs))]) ∧ Below w.heap.size w w' := by
  obtain ⟨i0, hi, hz0, hz1, hz2⟩ := info_parts infoS
  by_cases h198 : (198 : Int) < (xs.length : Int)
  · have HN : Hid _ := batchOk_no1 (ms := plainM xs) (by rw [plainM_len]; omega)
    go_enter Tryz.func18, Tryz.ntmps18
    go_wp2
    go_ret2
    exact ⟨str_ok (by rw [batchL_no HN.out]) HN.out.symm, Below.refl _ _⟩
  · have hn2 : xs.length ≤ 198 := by omega
    have HZ : Hid (MsgsAt w ao xs) := hz
    have HT : Hid (Pow10 w) := ht
    have HS : Hid (SmallM xs) := hs
    have HG : Hid (GoodMs xs) := hgd
    clear hz ht hs hgd
    go_enter Tryz.func18, Tryz.ntmps18
    go_wp2_with fail
    refine (batchHead_any _).mono ?_
    rintro e w1 ⟨rfl, f1, b1⟩
    have HF1 : Hid (FldsAt w1 (some ⟨w.heap.size + 1, 0, none⟩) headF) := f1
    have HTW : Hid (TwoM ((w1.alloc (.cells #[.int .i64 1644, .slice (some ⟨w.heap.size + 1, 0, none⟩) 1 1] 26)).alloc (.cells #[.slice (some ⟨w1.heap.size, 0, none⟩) 1 1, .slice ao xs.length cap] 35)) (w1.heap.size + 1) (some ⟨w1.heap.size, 0, none⟩) 1 ao cap [⟨1644, some ⟨w.heap.size + 1, 0, none⟩, 1, headF⟩] xs) := by
      refine ⟨by simp [go_sem], by simp [go_sem], one_msg (by simp [go_sem]) (by simp [go_sem]; rfl) (HF1.out.below (by go_grown)), HZ.out.below (b1.trans (Below.mono (B := w1.heap.size) (by go_grown) b1.size))⟩
    have q1 := b1
    clear f1 b1
    go_wp2_with fail
    refine (joinM_any _ _ _ _ _ _ _ _ HTW.out (by simp) (by omega)).mono ?_
    rintro e w2 ⟨v2, rfl, o2, b2⟩
    have q2 : Below w.heap.size w w2 := q1.trans (Below.mono (B := w1.heap.size) (Below.trans (by go_grown) (b2.mono (by simp; omega))) q1.size)
    have b12 : Below w1.heap.size w1 w2 := Below.trans (by go_grown) (b2.mono (by simp; omega))
    obtain ⟨aJ, cJ, hv, hm, hlen⟩ := msgs_of_own (xs := [⟨1644, some ⟨w.heap.size + 1, 0, none⟩, 1, headF⟩] ++ xs) o2 (fun x hx => by
      rcases List.mem_append.1 hx with h | h
      · obtain rfl : x = ⟨1644, some ⟨w.heap.size + 1, 0, none⟩, 1, headF⟩ := by simpa using h
        exact HF1.out.below b12
      · exact (HZ.out.below q2).2 x h)
    subst hv
    have HGJ : Hid (∀ x ∈ [(⟨1644, some ⟨w.heap.size + 1, 0, none⟩, 1, headF⟩ : MV)] ++ xs, GoodMV x ∧ x.fs.length ≤ 1048576 ∧ sumF x.fs ≤ 1048576) := fun x hx => by
      rcases List.mem_append.1 hx with h | h
      · obtain rfl : x = ⟨1644, some ⟨w.heap.size + 1, 0, none⟩, 1, headF⟩ := by simpa using h
        exact ⟨.inr ⟨_, _, rfl, (show headF.length ≤ 1 by decide), (show 1 ≤ 9223372036854775807 by decide)⟩, (show headF.length ≤ 1048576 by decide), (show sumF headF ≤ 1048576 by decide)⟩
      · exact ⟨HG.out x h, HS.out x h⟩
    have HPJ : Hid (plainM ([(⟨1644, some ⟨w.heap.size + 1, 0, none⟩, 1, headF⟩ : MV)] ++ xs) = headM (plainM xs)) := rfl
    have HJL : Hid (([(⟨1644, some ⟨w.heap.size + 1, 0, none⟩, 1, headF⟩ : MV)] ++ xs).length = xs.length + 1) := by rw [Hid]; simp
    obtain ⟨J, hJ⟩ : ∃ J, [(⟨1644, some ⟨w.heap.size + 1, 0, none⟩, 1, headF⟩ : MV)] ++ xs = J := ⟨_, rfl⟩
    rw [hJ] at hm HGJ HPJ HJL ⊢
    have HM : Hid (MsgsAt w2 aJ J) := hm
    have hJl : J.length ≤ 199 := by have := HJL.out; omega
    have HT2 : Hid (Pow10 w2) := HT.out.below q2
    clear hJ hm o2 b2 b12 HTW HF1 q1 hlen
    go_wp2
    go_loopw [4, 20] (fun s i wr => ∃ (v : Value) (k : Nat), v = s ∧ k ≤ J.length ∧ i = .int .i64 k ∧ allOk (headM (plainM xs)) = allOk ((headM (plainM xs)).drop k) ∧ wr.ownsRow w2.heap.size 9 1 v k (scells (recsTo (headM (plainM xs)) k)) ∧ Below w2.heap.size w2 wr) (fun _ i _ => J.length - (intOf i).toNat)
    case atStart => exact ⟨_, 0, rfl, Nat.zero_le _, rfl, rfl, World.ownsRow_nil _ _ _ _, Below.refl _ _⟩
    case round =>
      obtain ⟨v, k, hvs, hk, rfl, hok, ho, hbr⟩ := hrel
      subst hvs
      have hbs := hbr.size
      have HO : Hid (wr.ownsRow w2.heap.size 9 1 v k (scells (recsTo (headM (plainM xs)) k))) := ho
      have HLT : Hid (∀ j, v.ownBlock = some j → w2.heap.size ≤ j) := fun j hj => (ho.lt j hj).1
      have HOK : Hid _ := hok
      clear ho hok
      by_cases hlt : k < J.length
      · obtain ⟨b, off, rfl, hb, c1, c2, hf⟩ := (HM.out.below hbr).at hlt
        have hki : (k : Int) < (J.length : Int) := by omega
        have hgj := HGJ.out _ (vAt_mem hlt)
        have hpa := plainM_at hlt
        rw [HPJ.out] at hpa
        have HST : Hid _ := allOk_step (headM (plainM xs)) k (by rw [← HPJ.out, plainM_len]; exact hlt)
        have HRS : Hid _ := recsTo_succ (headM (plainM xs)) k
        rw [hpa] at HST HRS
        obtain ⟨⟨kd, fa, fc, fs⟩, hx⟩ : ∃ x, vAt J k = x := ⟨_, rfl⟩
        rw [hx] at c1 c2 hf hgj HST HRS
        simp only at c1 c2 hf HST HRS
        have hq := HST.out
        have bx : Below w2.heap.size w2 (wr.alloc (.cells #[.int .i64 kd, .slice fa fs.length fc] 26)) := hbr.alloc hbs _
        have HCP : Hid (Calls Tryz.prog 57 #[.agg #[.int .i64 kd, .slice fa fs.length fc], .int .i64 ((k : Int) + 1)] (wr.alloc (.cells #[.int .i64 kd, .slice fa fs.length fc] 26)) fun e w' => e = .returned (.tuple #[.string ⟨(placedL kd fs (k + 1)).toArray⟩, .bool (msgOk kd fs)]) ∧ Below (wr.alloc (.cells #[.int .i64 kd, .slice fa fs.length fc] 26)).heap.size (wr.alloc (.cells #[.int .i64 kd, .slice fa fs.length fc] 26)) w') :=
          placed_any kd fa fc fs _ (k + 1) _ (by omega) hgj.1 (hf.below (by go_grown)) hgj.2.1 hgj.2.2 (by omega) (HT2.out.below bx)
        clear hx hf hgj hpa HST
        cases hmo : msgOk kd fs
        · rw [hmo, Bool.false_and] at hq
          have HBAD : Hid (batchOk (plainM xs) = false) := batchOk_no2 (by rw [← allOk_head, HOK.out, hq])
          rw [hmo, placedL_no hmo] at HCP
          clear hmo hq
          go_wp2_with fail
          refine HCP.out.mono ?_
          rintro e w3 ⟨rfl, b3⟩
          have q3 := bx.trans (b3.mono bx.size)
          clear HCP b3 bx
          go_wp2
          go_ret2
          exact ⟨str_ok (by rw [batchL_no HBAD.out]) HBAD.out.symm, next q2 q3⟩
        · rw [hmo, Bool.true_and] at hq
          have HOK2 : Hid _ := HOK.out.trans hq
          rw [hmo, placedL_yes hmo] at HCP
          have hpl := packL_len kd (withF fs 71 (place (k + 1)))
          have HRR : Hid (recOf (kd, fs) (k + 1) = packL kd (withF fs 71 (place (k + 1)))) := rfl
          obtain ⟨r, hr⟩ : ∃ r, packL kd (withF fs 71 (place (k + 1))) = r := ⟨_, rfl⟩
          rw [hr] at HCP hpl HRR
          rw [HRR.out] at HRS
          clear hmo hq HOK hr HRR
          go_wp2_with fail
          refine HCP.out.mono ?_
          rintro e w3 ⟨rfl, b3⟩
          have q3 := bx.trans (b3.mono bx.size)
          have hs3 := q3.size
          have HO3 : Hid (w3.ownsRow w2.heap.size 9 1 v k (scells (recsTo (headM (plainM xs)) k))) := keepRow HO.out (Below.trans (by go_grown) (b3.mono (by simp)))
          clear HCP b3 bx HO
          go_wp2_with (at_builtin; refine wpList_append_own _ rfl (.tmp 34) (.tmp 36) 79 rfl w2.heap.size 9 i0 (.string ⟨#[]⟩) 1 16 Tryz.underlying79 hi hz0 hz1 hz2 rfl (by decide) _ _ _ rfl (HO3.out.alloc _) ⟨w3.heap.size, 0, none⟩ 1 1 [.string ⟨r.toArray⟩] rfl rfl (one_txt (by simp [go_sem])) (one_oneS r) (by unfold maxLen; omega) (by omega) (by simp; omega) ?_; intro v5 w5 o5 g5 _)
          have q5 : Below w2.heap.size w2 w5 := (q3.alloc hs3 _).grown g5 (by simp; omega) HLT.out
          have HR5 : Hid (w5.ownsRow w2.heap.size 9 1 v5 (k + 1) (scells (recsTo (headM (plainM xs)) (k + 1)))) := by rw [Hid, HRS.out, scells_append]; exact o5
          clear o5 g5 HO3
          go_wp2
          go_roundw
          case rel => exact ⟨_, k + 1, rfl, by omega, by go_num, HOK2.out, HR5.out, q5⟩
          case measure => simp [intOf]; omega
      · have hke : k = J.length := by omega
        have hkx : k = xs.length + 1 := by have := HJL.out; omega
        have hall : allOk (plainM xs) = true := by
          rw [← allOk_head, HOK.out, hke, ← HPJ.out, ← plainM_len, allOk_end]
        have q3 := next q2 hbr
        have HC : Hid (Calls Tryz.prog 58 #[.slice ao xs.length cap] wr fun e w' => e = .returned (.tuple #[.string ⟨(packL 1644 (tailF (plainM xs))).toArray⟩, .bool (decide (sumA (plainM xs) < 1000000000000))]) ∧ Below wr.heap.size wr w') :=
          tailRecord_any ao cap xs wr (HZ.out.below q3) HS.out hn2 hall (HT.out.below q3)
        have HRB : Hid (recsTo (headM (plainM xs)) k ++ [packL 1644 (tailF (plainM xs))] = batchRecs (plainM xs)) := by rw [Hid, hkx, batchRecs, plainM_len]
        have HRL : Hid ((recsTo (headM (plainM xs)) k).length = k) := recsTo_len _ _
        have hpl := packL_len 1644 (tailF (plainM xs))
        cases hsm : decide (sumA (plainM xs) < 1000000000000)
        · have HBAD : Hid _ := tail_no hsm
          rw [hsm] at HC
          clear hsm
          go_wp2_with fail
          refine HC.out.mono ?_
          rintro e w4 ⟨rfl, b4⟩
          have q4 := next q3 b4
          clear HC b4
          obtain ⟨r, hr⟩ : ∃ r, packL 1644 (tailF (plainM xs)) = r := ⟨_, rfl⟩
          rw [hr]
          clear hr
          go_wp2
          go_ret2
          exact ⟨str_ok (by rw [batchL_no HBAD.out]) HBAD.out.symm, q4⟩
        · have h3 := of_decide_eq_true hsm
          have HB1 : Hid _ := batchOk_is (ms := plainM xs) (by rw [plainM_len]; exact hn2) hall h3
          have HB2 : Hid _ := batchL_is (ms := plainM xs) (by rw [plainM_len]; exact hn2) hall h3
          have HBL : Hid _ := batchRecs_len (plainM xs)
          have HBD : Hid _ := batchRecs_bd (plainM xs)
          rw [hsm] at HC
          obtain ⟨r, hr⟩ : ∃ r, packL 1644 (tailF (plainM xs)) = r := ⟨_, rfl⟩
          rw [hr] at HC HRB hpl
          have hki : ¬ (k : Int) < (J.length : Int) := by omega
          clear hsm h3 hr hall
          go_wp2_with fail
          refine HC.out.mono ?_
          rintro e w4 ⟨rfl, b4⟩
          have q4 := next q3 b4
          have qq := next hbr b4
          have hs4 := qq.size
          have HO4 : Hid (w4.ownsRow w2.heap.size 9 1 v k (scells (recsTo (headM (plainM xs)) k))) := keepRow HO.out b4
          clear HC b4 HO
          go_wp2_with (at_builtin; refine wpList_append_own _ rfl (.tmp 46) (.tmp 48) 79 rfl w2.heap.size 9 i0 (.string ⟨#[]⟩) 1 16 Tryz.underlying79 hi hz0 hz1 hz2 rfl (by decide) _ _ _ rfl (HO4.out.alloc _) ⟨w4.heap.size, 0, none⟩ 1 1 [.string ⟨r.toArray⟩] rfl rfl (one_txt (by simp [go_sem])) (one_oneS r) (by unfold maxLen; omega) (by omega) (by simp; omega) ?_; intro v5 w5 o5 g5 _; have q5 : Below w2.heap.size w2 w5 := (qq.alloc hs4 _).grown g5 (by simp; omega) HLT.out; have R5 : w5.ownsRow w2.heap.size 9 1 v5 (k + 1) (scells (batchRecs (plainM xs))) := (by rw [← HRB.out, scells_append]; exact o5); obtain ⟨a5, c5, hv5, ht5, hn5⟩ := txts_of_own R5; subst hv5; have HT5 : Hid (TxtsAt w5 a5 (batchRecs (plainM xs))) := ht5; clear o5 g5 R5 ht5)
          refine (iBlock_any a5 c5 (batchRecs (plainM xs)) w5 HT5.out (by rw [HBL.out, plainM_len]; omega) HBD.out).mono ?_
          rintro e w6 ⟨rfl, b6⟩
          have q6 := next (next q2 q5) b6
          rw [← HB1.out, ← HB2.out]
          clear b6
          obtain ⟨L, hL⟩ : ∃ L, batchL (plainM xs) = L := ⟨_, rfl⟩
          obtain ⟨K, hK⟩ : ∃ K, batchOk (plainM xs) = K := ⟨_, rfl⟩
          rw [hL, hK]
          have HLE : Hid _ := hL
          have HKE : Hid _ := hK
          clear hL hK
          go_wp2
          go_ret2
          exact ⟨str_ok (by rw [HLE.out]) HKE.out.symm, q6⟩

end Go.Proofs.YtbncdhfmhokgeaaGreatDoor
