/- The contracts of BookOpen and BookDue: the specification's. -/
import Derived.Test.YtlhdpbbgmjfbkaaCaNum
import Derived.Test.YtlhdpbbgmjfbkaaBkTo
import Derived.Test.YtlhdpbbgmjfbkaaIntApp
namespace Go.Proofs.Ytlhdpbbgmjfbkaa
open Go.RowKit
set_option maxRecDepth 100000

set_option maxHeartbeats 6400000 in
theorem sBookOpen_any (b : Bk) (p : Bp) (w : World) (hx : BookAt w b p) (hn : bkSm b) :
    Calls Try.prog 8 #[bkv b p] w (NuR w (numsL opP b.cs b.cs.length)) := by
  obtain ⟨i0, hi, hz0, hz1, hz2⟩ := info_parts infoI
  obtain ⟨W, hW⟩ : ∃ W, W = (w.alloc (.cells #[.int .i64 b.today, .slice p.o b.off.length p.oc, .slice p.a b.az.length p.ac, .slice p.c b.cs.length p.cc, .slice p.l b.ls.length p.lc, .slice p.g b.log.length p.gc] 39)).alloc (.cells #[] 3) := ⟨_, rfl⟩
  have bW : Below w.heap.size w W := by rw [hW]; go_grown
  have HS : Hid (S6 w.heap.size b p W) := by rw [Hid, hW]; exact (S6.new w b p _).below ((Below.refl _ _).alloc (Nat.le_refl _) _)
  have HO0 : Hid (W.ownsRow (w.heap.size + 1) 3 1 (.slice (some ⟨w.heap.size + 1, 0, none⟩) 0 0) 0 (([] : List Int).map (Value.int .i64))) := by
    have h := World.ownsRow_lit (base := w.heap.size + 1) (e := 3) (size := 1) (w.alloc (.cells #[.int .i64 b.today, .slice p.o b.off.length p.oc, .slice p.a b.az.length p.ac, .slice p.c b.cs.length p.cc, .slice p.l b.ls.length p.lc, .slice p.g b.log.length p.gc] 39)) #[] 0 (by simp) (by unfold maxLen; omega) rfl
    rw [Hid, hW]; simpa using h
  have HX : Hid (CasesAt w p.c b.cs) := hx.cs
  have HBW : Hid (Below w.heap.size w W) := bW
  have HWS : Hid (W.heap.size = w.heap.size + 2) := by rw [Hid, hW]; simp
  have HQ : Hid (∀ u, Below (w.heap.size + 1) W u → Below w.heap.size w u) := fun u h => bW.trans (h.mono (by omega))
  have HK : Hid (∀ u, Below (w.heap.size + 1) W u → S6 w.heap.size b p u) := fun u h => HS.out.under h (by omega)
  have hcn := hn.2.2.1
  clear hx hn bW HS
  have HW : Hid _ := hW
  clear hW
  obtain ⟨td, fo, az, cs, ls, lg⟩ := b
  obtain ⟨o, oc, a, ac, c, cc, l, lc, g, gc⟩ := p
  unfold bkv
  simp only at HW HX hcn ⊢
  go_enter Try.func8, Try.ntmps8
  go_upto_region 2 with fail
  rw [← HW.out]
  clear HW
  go_wp2_with fail
  go_loopw [3, 4] (fun s i wr => ∃ (v : Value) (k : Nat), v = s ∧ k ≤ cs.length ∧ i = .int .i64 (k : Int) ∧ wr.ownsRow (w.heap.size + 1) 3 1 v (numsL opP cs k).length ((numsL opP cs k).map (Value.int .i64)) ∧ Below (w.heap.size + 1) W wr) (fun _ i _ => cs.length - (intOf i).toNat)
  case atStart => exact ⟨_, 0, rfl, Nat.zero_le _, rfl, HO0.out, Below.refl _ _⟩
  case round =>
    obtain ⟨v, k, hvs, hk, rfl, hown, hbr⟩ := hrel
    subst hvs
    have HBR : Hid (Below (w.heap.size + 1) W wr) := hbr
    have HO : Hid (wr.ownsRow (w.heap.size + 1) 3 1 v (numsL opP cs k).length ((numsL opP cs k).map (Value.int .i64))) := hown
    obtain ⟨x0, x1, x2, x3, x4, x5⟩ := HK.out _ hbr
    simp only at x0 x1 x2 x3 x4 x5
    by_cases hlt : k < cs.length
    · have hki : (k : Int) < (cs.length : Int) := by omega
      obtain ⟨cb, off, rfl, hb2, hcb⟩ := (HX.out.below (HQ.out _ hbr)).at hlt
      have hle := numsL_le opP cs k
      have HIN : Hid _ := @numsL_in (opP) cs k
      have HOUT : Hid _ := @numsL_out (opP) cs k
      obtain ⟨⟨iss, acq, cur, am, st, rsn, cl, bk, fee, cop, sta, due⟩, hc⟩ : ∃ f, csAt cs k = f := ⟨_, rfl⟩
      rw [hc] at hcb HIN HOUT
      obtain ⟨y0, y1, y2, y3, y4, y5, y6, y7, y8, y9, y10, y11⟩ := hcb
      simp only at y0 y1 y2 y3 y4 y5 y6 y7 y8 y9 y10 y11
      clear hc hown hbr hb2
      by_cases h7 : st = 7
      · subst h7
        have HP : Hid _ := @opP_no ⟨iss, acq, cur, am, 7, rsn, cl, bk, fee, cop, sta, due⟩ rfl
        have HR5 : Hid (wr.ownsRow (w.heap.size + 1) 3 1 v (numsL (opP) cs (k + 1)).length ((numsL (opP) cs (k + 1)).map (Value.int .i64))) := by
          rw [Hid, HOUT.out HP.out]; exact HO.out
        go_wp2
        go_roundw
        case rel => exact ⟨_, k + 1, rfl, by omega, by go_num, HR5.out, HBR.out⟩
        case measure => simp [intOf]; omega
      · have h7b : (st != 7) = true := by simpa using h7
        have HP : Hid _ := @opP_yes ⟨iss, acq, cur, am, st, rsn, cl, bk, fee, cop, sta, due⟩ (by simpa using h7)
        have HLT : Hid (∀ j, v.ownBlock = some j → w.heap.size + 1 ≤ j) := fun j hj => (HO.out.lt j hj).1
        have HSZ : Hid (W.heap.size ≤ wr.heap.size) := HBR.out.size
        go_wp2_with (at_builtin; refine wpList_append_own _ rfl (.tmp 20) (.tmp 22) 22 rfl (w.heap.size + 1) 3 i0 (.int .i64 0) 1 8 Try.underlying22 hi hz0 hz1 hz2 rfl (by decide) _ _ _ rfl (HO.out.alloc _) ⟨wr.heap.size, 0, none⟩ 1 1 [.int .i64 (k : Int)] rfl rfl (World.news_of_block (heap_alloc_new wr _)) (one_nu _) (by unfold maxLen; omega) (by omega) (by simp; have := HSZ.out; have := HWS.out; omega) ?_; intro v5 w5 o5 g5 _)
        have hws := HWS.out
        have hsz := HSZ.out
        have q5 : Below (w.heap.size + 1) W w5 := (HBR.out.alloc (by omega) _).grown g5 (by simp; omega) HLT.out
        have HR5 : Hid (w5.ownsRow (w.heap.size + 1) 3 1 v5 (numsL (opP) cs (k + 1)).length ((numsL (opP) cs (k + 1)).map (Value.int .i64))) := by
          rw [Hid, HIN.out HP.out, List.length_append, List.map_append]; exact o5
        clear o5 g5 HO x0 x1 x2 x3 x4 x5 y0 y1 y2 y3 y4 y5 y6 y7 y8 y9 y10 y11 hws hsz
        go_wp2
        go_roundw
        case rel => exact ⟨_, k + 1, rfl, by omega, by go_num, HR5.out, q5⟩
        case measure => simp [intOf]; omega
    · have hke : k = cs.length := by omega
      subst hke
      have hki : ¬ (cs.length : Int) < (cs.length : Int) := by omega
      obtain ⟨va, vk, hva⟩ := own_shape hown
      subst hva
      clear hbr hown
      go_wp2
      go_ret
      exact ⟨va, vk, rfl, lowerL HO.out (by omega), HQ.out _ HBR.out⟩

set_option maxHeartbeats 6400000 in
theorem sBookDue_any (b : Bk) (p : Bp) (w : World) (hx : BookAt w b p) (hn : bkSm b) :
    Calls Try.prog 16 #[bkv b p] w (NuR w (numsL (dueP b.today) b.cs b.cs.length)) := by
  obtain ⟨i0, hi, hz0, hz1, hz2⟩ := info_parts infoI
  obtain ⟨W, hW⟩ : ∃ W, W = (w.alloc (.cells #[.int .i64 b.today, .slice p.o b.off.length p.oc, .slice p.a b.az.length p.ac, .slice p.c b.cs.length p.cc, .slice p.l b.ls.length p.lc, .slice p.g b.log.length p.gc] 39)).alloc (.cells #[] 3) := ⟨_, rfl⟩
  have bW : Below w.heap.size w W := by rw [hW]; go_grown
  have HS : Hid (S6 w.heap.size b p W) := by rw [Hid, hW]; exact (S6.new w b p _).below ((Below.refl _ _).alloc (Nat.le_refl _) _)
  have HO0 : Hid (W.ownsRow (w.heap.size + 1) 3 1 (.slice (some ⟨w.heap.size + 1, 0, none⟩) 0 0) 0 (([] : List Int).map (Value.int .i64))) := by
    have h := World.ownsRow_lit (base := w.heap.size + 1) (e := 3) (size := 1) (w.alloc (.cells #[.int .i64 b.today, .slice p.o b.off.length p.oc, .slice p.a b.az.length p.ac, .slice p.c b.cs.length p.cc, .slice p.l b.ls.length p.lc, .slice p.g b.log.length p.gc] 39)) #[] 0 (by simp) (by unfold maxLen; omega) rfl
    rw [Hid, hW]; simpa using h
  have HX : Hid (CasesAt w p.c b.cs) := hx.cs
  have HBW : Hid (Below w.heap.size w W) := bW
  have HWS : Hid (W.heap.size = w.heap.size + 2) := by rw [Hid, hW]; simp
  have HQ : Hid (∀ u, Below (w.heap.size + 1) W u → Below w.heap.size w u) := fun u h => bW.trans (h.mono (by omega))
  have HK : Hid (∀ u, Below (w.heap.size + 1) W u → S6 w.heap.size b p u) := fun u h => HS.out.under h (by omega)
  have hcn := hn.2.2.1
  clear hx hn bW HS
  have HW : Hid _ := hW
  clear hW
  obtain ⟨td, fo, az, cs, ls, lg⟩ := b
  obtain ⟨o, oc, a, ac, c, cc, l, lc, g, gc⟩ := p
  unfold bkv
  simp only at HW HX hcn ⊢
  go_enter Try.func16, Try.ntmps16
  go_upto_region 2 with fail
  rw [← HW.out]
  clear HW
  go_wp2_with fail
  go_loopw [3, 4] (fun s i wr => ∃ (v : Value) (k : Nat), v = s ∧ k ≤ cs.length ∧ i = .int .i64 (k : Int) ∧ wr.ownsRow (w.heap.size + 1) 3 1 v (numsL (dueP td) cs k).length ((numsL (dueP td) cs k).map (Value.int .i64)) ∧ Below (w.heap.size + 1) W wr) (fun _ i _ => cs.length - (intOf i).toNat)
  case atStart => exact ⟨_, 0, rfl, Nat.zero_le _, rfl, HO0.out, Below.refl _ _⟩
  case round =>
    obtain ⟨v, k, hvs, hk, rfl, hown, hbr⟩ := hrel
    subst hvs
    have HBR : Hid (Below (w.heap.size + 1) W wr) := hbr
    have HO : Hid (wr.ownsRow (w.heap.size + 1) 3 1 v (numsL (dueP td) cs k).length ((numsL (dueP td) cs k).map (Value.int .i64))) := hown
    have HBR0 := HBR
    obtain ⟨x0, x1, x2, x3, x4, x5⟩ := HK.out _ hbr
    simp only at x0 x1 x2 x3 x4 x5
    by_cases hlt : k < cs.length
    · have hki : (k : Int) < (cs.length : Int) := by omega
      obtain ⟨cb, off, rfl, hb2, hcb⟩ := (HX.out.below (HQ.out _ hbr)).at hlt
      have hle := numsL_le (dueP td) cs k
      have HIN : Hid _ := @numsL_in ((dueP td)) cs k
      have HOUT : Hid _ := @numsL_out ((dueP td)) cs k
      obtain ⟨⟨iss, acq, cur, am, st, rsn, cl, bk, fee, cop, sta, due⟩, hc⟩ : ∃ f, csAt cs k = f := ⟨_, rfl⟩
      rw [hc] at hcb HIN HOUT
      obtain ⟨y0, y1, y2, y3, y4, y5, y6, y7, y8, y9, y10, y11⟩ := hcb
      simp only at y0 y1 y2 y3 y4 y5 y6 y7 y8 y9 y10 y11
      clear hc hown hbr hb2
      obtain ⟨B, hB⟩ : ∃ B, dueP td ⟨iss, acq, cur, am, st, rsn, cl, bk, fee, cop, sta, due⟩ = B := ⟨_, rfl⟩
      have HDB : Hid _ := hB
      rw [hB] at HIN HOUT
      clear hB
      go_upto_region 5 with fail
      go_cut [30] (fun v wc => v = .bool B ∧ Below wr.heap.size wr wc)
      case first =>
        have hne := over_ne wr
        have ox0 := over_cell x0
        have ox3 := over_cell x3
        have oy4 := over_cell y4
        have oy11 := over_cell y11
        by_cases h7 : st = 7
        · subst h7
          have HB : Hid (B = false) := by rw [Hid, ← HDB.out]; exact dueP_no rfl
          refine wp_region_over (by kernel_rfl) (by kernel_rfl) ?_
          repeat (go_big_quiet_step (fail))
          refine wpQuiet_nil ?_
          rintro _ ⟨⟨w2, b2⟩, hw2⟩
          subst hw2
          go_wp2_with fail
          go_meet
          exact ⟨by rw [HB.out], b2⟩
        · have h7b : (st != 7) = true := by simpa using h7
          have HB : Hid (B = lateV td due) := by rw [Hid, ← HDB.out]; exact dueP_late (by simpa using h7)
          have HLT : Hid (∀ u, Calls Try.prog 45 #[.int .i64 td, .int .i64 due] u fun e w' => e = .returned (.bool B) ∧ Below u.heap.size u w') := fun u => by rw [HB.out]; exact (sLate_any td due u).mono fun e w' h => ⟨h.1, by rw [h.2]; exact Below.refl _ _⟩
          refine wp_region_over (by kernel_rfl) (by kernel_rfl) ?_
          repeat (go_big_quiet_step (exact over_of (HLT.out _)))
          refine wpQuiet_nil ?_
          rintro _ ⟨⟨w2, b2⟩, hw2⟩
          subst hw2
          go_wp2_with fail
          go_meet
          exact ⟨rfl, b2⟩
      case rest =>
        obtain ⟨rfl, b8⟩ := hcut
        have HO1 : Hid (wc.ownsRow (w.heap.size + 1) 3 1 v (numsL (dueP td) cs k).length ((numsL (dueP td) cs k).map (Value.int .i64))) := keepL HO.out b8
        have HBR1 : Hid (Below (w.heap.size + 1) W wc) := HBR.out.trans (b8.mono (by have := HWS.out; have := HBR.out.size; omega))
        clear b8 HO HBR HBR0 x0 x1 x2 x3 x4 x5 y0 y1 y2 y3 y4 y5 y6 y7 y8 y9 y10 y11 HDB
        cases B
        · have HR5 : Hid (wc.ownsRow (w.heap.size + 1) 3 1 v (numsL ((dueP td)) cs (k + 1)).length ((numsL ((dueP td)) cs (k + 1)).map (Value.int .i64))) := by
            rw [Hid, HOUT.out rfl]; exact HO1.out
          go_wp2
          go_roundw
          case rel => exact ⟨_, k + 1, rfl, by omega, by go_num, HR5.out, HBR1.out⟩
          case measure => simp [intOf]; omega
        · have HLT : Hid (∀ j, v.ownBlock = some j → w.heap.size + 1 ≤ j) := fun j hj => (HO1.out.lt j hj).1
          have HSZ : Hid (W.heap.size ≤ wc.heap.size) := HBR1.out.size
          go_wp2_with (at_builtin; refine wpList_append_own _ rfl (.tmp 31) (.tmp 33) 22 rfl (w.heap.size + 1) 3 i0 (.int .i64 0) 1 8 Try.underlying22 hi hz0 hz1 hz2 rfl (by decide) _ _ _ rfl (HO1.out.alloc _) ⟨wc.heap.size, 0, none⟩ 1 1 [.int .i64 (k : Int)] rfl rfl (World.news_of_block (heap_alloc_new wc _)) (one_nu _) (by unfold maxLen; omega) (by omega) (by simp; have := HSZ.out; have := HWS.out; omega) ?_; intro v5 w5 o5 g5 _)
          have hws := HWS.out
          have hsz := HSZ.out
          have q5 : Below (w.heap.size + 1) W w5 := (HBR1.out.alloc (by omega) _).grown g5 (by simp; omega) HLT.out
          have HR5 : Hid (w5.ownsRow (w.heap.size + 1) 3 1 v5 (numsL ((dueP td)) cs (k + 1)).length ((numsL ((dueP td)) cs (k + 1)).map (Value.int .i64))) := by
            rw [Hid, HIN.out rfl, List.length_append, List.map_append]; exact o5
          clear o5 g5 hws hsz
          go_wp2
          go_roundw
          case rel => exact ⟨_, k + 1, rfl, by omega, by go_num, HR5.out, q5⟩
          case measure => simp [intOf]; omega
    · have hke : k = cs.length := by omega
      subst hke
      have hki : ¬ (cs.length : Int) < (cs.length : Int) := by omega
      obtain ⟨va, vk, hva⟩ := own_shape hown
      subst hva
      clear hbr hown
      go_wp2
      go_ret
      exact ⟨va, vk, rfl, lowerL HO.out (by omega), HQ.out _ HBR.out⟩

end Go.Proofs.Ytlhdpbbgmjfbkaa
