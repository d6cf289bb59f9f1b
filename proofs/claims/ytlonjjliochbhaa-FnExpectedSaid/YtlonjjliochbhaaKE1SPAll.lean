/- The contract of the specification's PostAll. -/
import Derived.Test.YtlonjjliochbhaaJE14a
import Derived.Test.YtlonjjliochbhaaKE1PostB
namespace Go.Proofs.Ytlonjjliochbhaa
open Go.RowKit
set_option maxRecDepth 100000

set_option maxHeartbeats 3200000 in
theorem sPostAll_any (ao : Option Addr) (cap : Nat) (ls : List Ln) (eo : Option Addr) (ec : Nat) (es : List En) (w : World) (hz : LinesAt w ao ls) (hn : ls.length ≤ 1048576) (hy : EntsAt w eo es) (hm : es.length ≤ 1048576) :
    Calls Try.prog 51 #[.agg #[.slice ao ls.length cap], .slice eo es.length ec] w (PostR w (allL ls es) (allOk ls es)) := by
  obtain ⟨W, hW⟩ : ∃ W, W = (w.alloc (.cells #[.slice ao ls.length cap] 29)).alloc (.cells #[.slice none 0 0] 29) := ⟨_, rfl⟩
  have bW : Below w.heap.size w W := by rw [hW]; go_grown
  have hWs : W.heap.size = w.heap.size + 2 := by rw [hW]; simp
  have l0 : W.cell? ⟨w.heap.size, 0, none⟩ = some (.slice ao ls.length cap) := by rw [hW]; simp [go_sem]
  have r0 : W.cell? ⟨w.heap.size + 1, 0, none⟩ = some (.slice none 0 0) := by rw [hW]; simp [go_sem]
  have rf : W.frozen? ⟨w.heap.size + 1, 0, none⟩ = false := by rw [hW]; simp [go_sem]
  have HL0 : Hid _ := l0
  have HR0 : Hid _ := r0
  have HRF : Hid _ := rf
  have HZ : Hid (LinesAt w ao ls) := hz
  have HY : Hid (EntsAt w eo es) := hy
  have HBW : Hid (Below w.heap.size w W) := bW
  have HWS : Hid _ := hWs
  clear hz hy r0 rf bW hWs
  go_enter Try.func51, Try.ntmps51
  go_upto_region 1 with fail
  rw [← hW]
  clear hW
  go_wp2_with fail
  refine (sCopy_any ao cap ls W (HZ.out.below HBW.out) (by omega)).mono ?_
  rintro e w1 ⟨a1, k1, rfl, o1, b1⟩
  have hws := HWS.out
  have P1 : PA w.heap.size w1.heap.size ao cap ls.length ls a1 k1 (w1.alloc (.cells #[.slice a1 ls.length k1] 29)) := pa_start ((b1.cell (p := ⟨w.heap.size, 0, none⟩) (by show w.heap.size < W.heap.size; omega)).trans HL0.out) ((b1.cell (p := ⟨w.heap.size + 1, 0, none⟩) (by show w.heap.size + 1 < W.heap.size; omega)).trans HR0.out) ((b1.frozen (p := ⟨w.heap.size + 1, 0, none⟩) (by show w.heap.size + 1 < W.heap.size; omega)).trans HRF.out) (lowerL o1 (by omega))
  have q1 := next HBW.out b1
  obtain ⟨V, hV⟩ : ∃ V, V = w1.alloc (.cells #[.slice a1 ls.length k1] 29) := ⟨_, rfl⟩
  have qV : Below w.heap.size w V := by rw [hV]; exact q1.alloc q1.size _
  have HPV : Hid (PA w.heap.size w1.heap.size ao cap ls.length ls a1 k1 V) := by rw [Hid, hV]; exact P1
  obtain ⟨B, hBe⟩ : ∃ B, B = w1.heap.size := ⟨_, rfl⟩
  clear P1 q1 o1 b1 l0 hws
  go_upto_region 2 with fail
  rw [← hV, ← hBe]
  rw [← hBe] at HPV
  clear hV hBe
  go_wp2
  go_loopw [7] (fun i wr => ∃ (k : Nat) (cur : List Ln) (a2 : Option Addr) (k2 : Nat), k ≤ es.length ∧ i = .int .i64 k ∧ postsL ls es = postsL cur (es.drop k) ∧ PA w.heap.size B ao cap ls.length cur a2 k2 wr ∧ cur.length ≤ 1048576 ∧ Below w.heap.size w wr) (fun i _ => es.length - (intOf i).toNat)
  case atStart => exact ⟨0, ls, a1, k1, Nat.zero_le _, rfl, rfl, HPV.out, hn, qV⟩
  case round =>
    obtain ⟨k, cur, a2, k2, hk, rfl, hps, hpa, hcl, hbr⟩ := hrel
    have HPA : Hid (PA w.heap.size B ao cap ls.length cur a2 k2 wr) := hpa
    have HPS : Hid (postsL ls es = postsL cur (es.drop k)) := hps
    clear hpa hps HPV qV
    by_cases hlt : k < es.length
    · have hki : (k : Int) < (es.length : Int) := by omega
      obtain ⟨b, off, rfl, hb2, y1, y2, y3, y4⟩ := (HY.out.below hbr).at hlt
      have hst := posts_step cur es k hlt
      obtain ⟨⟨a, a', c, m⟩, hx⟩ : ∃ x, enAt es k = x := ⟨_, rfl⟩
      rw [hx] at y1 y2 y3 y4 hst
      simp only at y1 y2 y3 y4
      have HST : Hid _ := HPS.out.trans hst
      have c6 := HPA.out.c6
      have HKP : Hid (∀ u, Below wr.heap.size wr u → u.cell? ⟨B, 0, none⟩ = some (.slice a2 cur.length k2) ∧ u.cell? ⟨b, off + k * 4, none⟩ = some (.int .i64 a) ∧ u.cell? ⟨b, off + k * 4 + 1, none⟩ = some (.int .i64 a') ∧ u.cell? ⟨b, off + k * 4 + 2, none⟩ = some (.int .i64 c) ∧ u.cell? ⟨b, off + k * 4 + 3, none⟩ = some (.int .i64 m)) := fun u hu =>
        ⟨(HPA.out.below hu).c6, (hu.cell (p := ⟨b, off + k * 4, none⟩) hb2).trans y1, (hu.cell (p := ⟨b, off + k * 4 + 1, none⟩) hb2).trans y2, (hu.cell (p := ⟨b, off + k * 4 + 2, none⟩) hb2).trans y3, (hu.cell (p := ⟨b, off + k * 4 + 3, none⟩) hb2).trans y4⟩
      have HSP : Hid (∀ u, LinesAt u a2 cur → Calls Try.prog 59 #[.agg #[.slice a2 cur.length k2], .agg #[.int .i64 a, .int .i64 a', .int .i64 c, .int .i64 m]] u (PostR u (postL cur (a, a', c, m)) (postOk cur (a, a', c, m)))) := fun u h => sPost_any a2 k2 cur a a' c m u h hcl
      clear hst hx
      go_upto_region 5 with fail
      have z : ZB wr wr none (fun v => LinesAt v a2 cur) := ZB.start (fun v hv => (lines_any HPA.out.own).below hv)
      obtain ⟨nx, hnx⟩ : ∃ nx, postL cur (a, a', c, m) = nx := ⟨_, rfl⟩
      obtain ⟨ok, hok⟩ : ∃ ok, postOk cur (a, a', c, m) = ok := ⟨_, rfl⟩
      rw [hnx, hok] at HSP
      have HNX : Hid _ := hnx
      have HOK : Hid _ := hok
      clear hnx hok
      go_cut [8, 9] (fun v8 v9 wc => ∃ B8 a8 k8, v8 = .pointer (some ⟨B8, 0, none⟩) ∧ v9 = .bool ok ∧ LB wr nx B8 a8 k8 wc)
      case first =>
        go_region_held3 (fun u => u.cell? ⟨B, 0, none⟩ = some (.slice a2 cur.length k2) ∧ u.cell? ⟨b, off + k * 4, none⟩ = some (.int .i64 a) ∧ u.cell? ⟨b, off + k * 4 + 1, none⟩ = some (.int .i64 a') ∧ u.cell? ⟨b, off + k * 4 + 2, none⟩ = some (.int .i64 c) ∧ u.cell? ⟨b, off + k * 4 + 3, none⟩ = some (.int .i64 m)) (first | exact ⟨c6, y1, y2, y3, y4⟩ | exact HKP.out _ z.bel | exact HKP.out _ z.drew.bel | exact HKP.out _ (z.al _).bel | exact HKP.out _ (z.al _).drew.bel | exact HKP.out _ (z.drew.al _).bel | exact HKP.out _ (HF.out _).bel | exact HKP.out _ HF.out.bel) ((
          (go_at_call 59; (first | with_reducible refine (zPost z (HSP.out _ z.now)).mono ?_ | with_reducible refine (zPost z.drew (HSP.out _ z.drew.now)).mono ?_ | with_reducible refine (zPost (z.al _) (HSP.out _ (z.al _).now)).mono ?_ | with_reducible refine (zPost (z.al _).drew (HSP.out _ (z.al _).drew.now)).mono ?_ | with_reducible refine (zPost (z.drew.al _) (HSP.out _ (z.drew.al _).now)).mono ?_); rintro e v3 ⟨a3, k3, rfl, o3, z0, z⟩; (first | (have HF : Hid (∀ t, LB wr nx v3.heap.size a3 k3 (v3.alloc (.cells #[.slice a3 nx.length k3] t))) := (fun t => LB.new o3 z0 z)) | (have HF : Hid _ := LB.set o3 z0 z; obtain ⟨_, _, n0, n1⟩ := z.box _ rfl)); clear o3 z0)))
        all_goals
          go_wp2_with fail
          go_meet
          first
            | exact ⟨_, _, _, rfl, rfl, HF.out _⟩
            | exact ⟨_, _, _, rfl, rfl, HF.out⟩
      obtain ⟨B8, a3, k3, rfl, rfl, P8⟩ := hcut
      obtain ⟨w2, hu⟩ : ∃ x, x = wc := ⟨_, rfl⟩
      subst hu
      have P3 := HPA.out.below P8.bel
      have d6 := P3.c6
      have f6 := P3.f6
      have c8 := P8.c0
      have q3 := next hbr P8.bel
      have hBw : B < wr.heap.size := World.block_lt_of_cell? wr _ HPA.out.c6
      have HP4 : Hid (PA w.heap.size B ao cap ls.length nx a3 k3 (w2.setCell ⟨B, 0, none⟩ (.slice a3 nx.length k3))) := P3.put P8.own hBw
      have hBs := HPA.out.hB
      have q4 : Below w.heap.size w (w2.setCell ⟨B, 0, none⟩ (.slice a3 nx.length k3)) := q3.setCell (by show w.heap.size ≤ B; omega) _
      have HP3 : Hid (PA w.heap.size B ao cap ls.length cur a2 k2 w2) := P3
      clear P3 P8 hBw hBs z c6 y1 y2 y3 y4 HKP HSP hbr
      have hok := HOK.out
      cases ok
      · rw [hok] at HST
        have HNO : Hid (postsL ls es = none) := HST.out
        clear HST hok
        have l4 := HP3.out.l0
        have HZX : Hid (LinesAt w2 ao ls) := HZ.out.below q3
        clear d6 f6 q4 HP4 c8
        go_wp2_with fail
        refine (sCopy_any ao cap ls w2 HZX.out (by omega)).mono ?_
        rintro e w5 ⟨a5, k5, rfl, o5, b5⟩
        have P5 := HP3.out.below b5
        have r5 := P5.r0
        have rf5 := P5.rf
        have HE : Hid (PostR w (allL ls es) (allOk ls es) (.returned (.tuple #[.agg #[.slice a5 ls.length k5], .bool false])) (w5.setCell ⟨w.heap.size + 1, 0, none⟩ (.slice a5 ls.length k5))) := by
          have h1 : allOk ls es = false := by unfold allOk; rw [HNO.out]; rfl
          have h2 : allL ls es = ls := by unfold allL; rw [HNO.out]; rfl
          rw [Hid, h1]
          exact all_end (w := w) h2 o5 (World.block_lt_of_cell? w2 _ HP3.out.r0) (next q3 b5)
        clear o5 b5 P5 l4
        go_wp2
        refine bodyPost_ret (by simp [results, Try.results51, go_sem, r5]; try rfl) rfl ?_
        exact HE.out
      · have hpo := posted_ok hok
        rw [hok] at HST
        rw [HNX.out] at hpo
        have HN : Hid (postsL ls es = postsL nx (es.drop (k + 1))) := by rw [Hid, HST.out, hpo.1]; rfl
        have HB2 : Hid (nx.length ≤ 1048576) := by
          rw [hpo.1, Hid]
          have := (ledgerOk_parts hpo.2).2.1; omega
        clear HST hok hpo HNX HOK HP3 q3
        go_wp2
        go_roundw
        case rel => exact ⟨k + 1, nx, a3, k3, by omega, by go_num, HN.out, HP4.out, HB2.out, q4⟩
        case measure => simp [intOf]; omega
    · have hke : k = es.length := by omega
      subst hke
      have hki : ¬ (es.length : Int) < (es.length : Int) := by omega
      have hsome : postsL ls es = some cur := by rw [HPS.out, posts_end]
      have c6 := HPA.out.c6
      have r0 := HPA.out.r0
      have rf := HPA.out.rf
      have HE : Hid (PostR w (allL ls es) (allOk ls es) (.returned (.tuple #[.agg #[.slice a2 cur.length k2], .bool true])) (wr.setCell ⟨w.heap.size + 1, 0, none⟩ (.slice a2 cur.length k2))) := by
        have h1 : allOk ls es = true := by unfold allOk; rw [hsome]; rfl
        have h2 : allL ls es = cur := by unfold allL; rw [hsome]; rfl
        rw [Hid, h1]
        exact all_end (w := w) h2 HPA.out.own (by omega) hbr
      clear hsome HPS
      go_wp2
      refine bodyPost_ret (by simp [results, Try.results51, go_sem, r0]; try rfl) rfl ?_
      exact HE.out

end Go.Proofs.Ytlonjjliochbhaa
