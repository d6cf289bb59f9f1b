/- The contracts of BookOpen and BookDue: the program's. -/
import Derived.Test.YtlhdpbbgmjfbkaaBkNumS
namespace Go.Proofs.Ytlhdpbbgmjfbkaa
open Go.RowKit
set_option maxRecDepth 100000

set_option maxHeartbeats 800000 in
theorem isOpen_any (c : Cs) (w : World) : Calls Try.prog 36 #[cv c] w fun e w' => e = .returned (.bool (opP c)) ∧ Below w.heap.size w w' := by
  obtain ⟨iss, acq, cur, am, st, rsn, cl, bk, fee, cop, sta, due⟩ := c
  unfold cv
  simp only
  by_cases h : st = 7
  · subst h
    go_enter Try.func36, Try.ntmps36
    go_wp2
    go_ret
    refine ⟨rfl, ?_⟩
    go_grown
  · have h7 : (st != 7) = true := by simpa using h
    have HP : Hid _ := @opP_yes ⟨iss, acq, cur, am, st, rsn, cl, bk, fee, cop, sta, due⟩ (by simpa using h)
    go_enter Try.func36, Try.ntmps36
    go_wp2
    go_ret
    refine ⟨one_bool HP.out.symm, ?_⟩
    go_grown

set_option maxHeartbeats 1600000 in
theorem due1_any (c : Cs) (g : Nat) (td : Int) (w : World) (hc : w.cell? ⟨g, 0, none⟩ = some (.int .i64 td)) :
    Calls Try.prog 46 #[cv c, .pointer (some ⟨g, 0, none⟩)] w fun e w' => e = .returned (.bool (dueP td c)) ∧ Below w.heap.size w w' := by
  have hg : g < w.heap.size := World.block_lt_of_cell? w _ hc
  obtain ⟨iss, acq, cur, am, st, rsn, cl, bk, fee, cop, sta, due⟩ := c
  obtain ⟨U, hU⟩ : ∃ U, U = w.alloc (.cells #[.int .i64 iss, .int .i64 acq, .int .i64 cur, .int .i64 am, .int .i64 st, .int .i64 rsn, .int .i64 cl, .int .i64 bk, .int .i64 fee, .bool cop, .int .i64 sta, .int .i64 due] 53) := ⟨_, rfl⟩
  have bU : Below w.heap.size w U := by rw [hU]; exact (Below.refl _ _).alloc (Nat.le_refl _) _
  have hcU : CB w.heap.size 0 ⟨iss, acq, cur, am, st, rsn, cl, bk, fee, cop, sta, due⟩ U := by rw [hU]; exact ⟨by simp, by simp, by simp, by simp, by simp, by simp, by simp, by simp, by simp, by simp, by simp, by simp⟩
  have HFN : Hid (Calls Try.prog 36 #[.agg #[.int .i64 iss, .int .i64 acq, .int .i64 cur, .int .i64 am, .int .i64 st, .int .i64 rsn, .int .i64 cl, .int .i64 bk, .int .i64 fee, .bool cop, .int .i64 sta, .int .i64 due]] U fun e w' => e = .returned (.bool (opP ⟨iss, acq, cur, am, st, rsn, cl, bk, fee, cop, sta, due⟩)) ∧ Below U.heap.size U w') := isOpen_any ⟨iss, acq, cur, am, st, rsn, cl, bk, fee, cop, sta, due⟩ U
  unfold cv
  simp only
  have HU : Hid _ := hU
  have HG : Hid (U.cell? ⟨g, 0, none⟩ = some (.int .i64 td)) := (bU.cell (p := ⟨g, 0, none⟩) hg).trans hc
  have HBU : Hid (Below w.heap.size w U) := bU
  have HCU : Hid _ := hcU
  obtain ⟨z0, z1, z2, z3, z4, z5, z6, z7, z8, z9, z10, z11⟩ := hcU
  simp only [Nat.zero_add] at z0 z1 z2 z3 z4 z5 z6 z7 z8 z9 z10 z11
  clear hU hc bU
  go_enter Try.func46, Try.ntmps46
  go_upto_region 1 with fail
  rw [← HU.out]
  clear HU
  go_wp2_with fail
  refine HFN.out.mono ?_
  rintro e w2 ⟨rfl, b2⟩
  have HB2 : Hid (Below w.heap.size w w2) := next HBU.out b2
  have q0 : w2.cell? ⟨g, 0, none⟩ = some (.int .i64 td) := (b2.cell (p := ⟨g, 0, none⟩) (World.block_lt_of_cell? U _ HG.out)).trans HG.out
  have q1 : w2.cell? ⟨w.heap.size, 11, none⟩ = some (.int .i64 due) := (b2.cell (p := ⟨w.heap.size, 11, none⟩) (World.block_lt_of_cell? U _ z11)).trans z11
  clear z0 z1 z2 z3 z4 z5 z6 z7 z8 z9 z10 z11 b2 HFN
  by_cases h : st = 7
  · subst h
    have HP : Hid _ := @dueP_no td ⟨iss, acq, cur, am, 7, rsn, cl, bk, fee, cop, sta, due⟩ rfl
    have HQ : Hid _ := @opP_no ⟨iss, acq, cur, am, 7, rsn, cl, bk, fee, cop, sta, due⟩ rfl
    rw [HQ.out]
    go_wp2
    go_ret
    exact ⟨one_bool HP.out.symm, HB2.out⟩
  · have HP : Hid _ := @dueP_late td ⟨iss, acq, cur, am, st, rsn, cl, bk, fee, cop, sta, due⟩ (by simpa using h)
    have HQ : Hid _ := @opP_yes ⟨iss, acq, cur, am, st, rsn, cl, bk, fee, cop, sta, due⟩ (by simpa using h)
    rw [HQ.out]
    go_wp2_with (go_at_call 47; refine (iLate_any _ _ _).mono ?_; rintro e w' ⟨rfl, rfl⟩)
    go_ret
    exact ⟨one_bool HP.out.symm, HB2.out⟩

set_option maxHeartbeats 6400000 in
theorem nums_open (ao : Option Addr) (cap : Nat) (cs : List Cs) (w : World) (hz : CasesAt w ao cs) (hn : cs.length ≤ 1048576) :
    Calls Try.prog 35 #[.slice ao cs.length cap, .func (.func 36) #[] #[]] w (NuR w (numsL opP cs cs.length)) := by
  obtain ⟨i0, hi, hz0, hz1, hz2⟩ := info_parts infoI
  have HX : Hid (CasesAt w ao cs) := hz
  clear hz
  go_enter Try.func35, Try.ntmps35
  go_wp2
  go_loopw [5, 10] (fun s i wr => ∃ (v : Value) (k : Nat), v = s ∧ k ≤ cs.length ∧ i = .int .i64 (k : Int) ∧ wr.ownsRow w.heap.size 3 1 v (numsL opP cs k).length ((numsL opP cs k).map (Value.int .i64)) ∧ Below w.heap.size w wr) (fun _ i _ => cs.length - (intOf i).toNat)
  case atStart => exact ⟨_, 0, rfl, Nat.zero_le _, rfl, World.ownsRow_nil _ _ _ _, Below.refl _ _⟩
  case round =>
    obtain ⟨v, k, hvs, hk, rfl, hown, hbr⟩ := hrel
    subst hvs
    have HBR : Hid (Below w.heap.size w wr) := hbr
    have HO : Hid (wr.ownsRow w.heap.size 3 1 v (numsL opP cs k).length ((numsL opP cs k).map (Value.int .i64))) := hown
    by_cases hlt : k < cs.length
    · have hki : (k : Int) < (cs.length : Int) := by omega
      obtain ⟨cb, off, rfl, hb2, hcb⟩ := (HX.out.below hbr).at hlt
      have hle := numsL_le opP cs k
      have HIN : Hid _ := @numsL_in (opP) cs k
      have HOUT : Hid _ := @numsL_out (opP) cs k
      obtain ⟨⟨iss, acq, cur, am, st, rsn, cl, bk, fee, cop, sta, due⟩, hc⟩ : ∃ f, csAt cs k = f := ⟨_, rfl⟩
      rw [hc] at hcb HIN HOUT
      obtain ⟨y0, y1, y2, y3, y4, y5, y6, y7, y8, y9, y10, y11⟩ := hcb
      simp only at y0 y1 y2 y3 y4 y5 y6 y7 y8 y9 y10 y11
      clear hc hown hbr hb2
      go_upto_region 5 with fail
      obtain ⟨B, hB⟩ : ∃ B, opP ⟨iss, acq, cur, am, st, rsn, cl, bk, fee, cop, sta, due⟩ = B := ⟨_, rfl⟩
      obtain ⟨U, hU⟩ : ∃ U, U = wr.alloc (.cells #[.int .i64 iss, .int .i64 acq, .int .i64 cur, .int .i64 am, .int .i64 st, .int .i64 rsn, .int .i64 cl, .int .i64 bk, .int .i64 fee, .bool cop, .int .i64 sta, .int .i64 due] 53) := ⟨_, rfl⟩
      have bU : Below wr.heap.size wr U := by rw [hU]; exact (Below.refl _ _).alloc (Nat.le_refl _) _
      have hcU : CB wr.heap.size 0 ⟨iss, acq, cur, am, st, rsn, cl, bk, fee, cop, sta, due⟩ U := by rw [hU]; exact ⟨by simp, by simp, by simp, by simp, by simp, by simp, by simp, by simp, by simp, by simp, by simp, by simp⟩
      rw [← hU]
      have HFN : Hid (Calls Try.prog 36 #[.agg #[.int .i64 iss, .int .i64 acq, .int .i64 cur, .int .i64 am, .int .i64 st, .int .i64 rsn, .int .i64 cl, .int .i64 bk, .int .i64 fee, .bool cop, .int .i64 sta, .int .i64 due]] U fun e w' => e = .returned (.bool B) ∧ Below U.heap.size U w') := by rw [Hid, ← hB]; exact isOpen_any ⟨iss, acq, cur, am, st, rsn, cl, bk, fee, cop, sta, due⟩ U
      have HO1 : Hid (U.ownsRow w.heap.size 3 1 v (numsL opP cs k).length ((numsL opP cs k).map (Value.int .i64))) := keepL HO.out bU
      have HB1 : Hid (Below w.heap.size w U) := next HBR.out bU
      rw [hB] at HIN HOUT
      clear hU bU HO HBR y0 y1 y2 y3 y4 y5 y6 y7 y8 y9 y10 y11 hB
      obtain ⟨z0, z1, z2, z3, z4, z5, z6, z7, z8, z9, z10, z11⟩ := hcU
      simp only [Nat.zero_add] at z0 z1 z2 z3 z4 z5 z6 z7 z8 z9 z10 z11
      go_wp2_with fail
      refine HFN.out.mono ?_
      rintro e w2 ⟨rfl, b2⟩
      have HO2 : Hid (w2.ownsRow w.heap.size 3 1 v (numsL opP cs k).length ((numsL opP cs k).map (Value.int .i64))) := keepL HO1.out b2
      have HB2 : Hid (Below w.heap.size w w2) := next HB1.out b2
      have HSZ : Hid (w.heap.size ≤ w2.heap.size) := HB2.out.size
      clear b2 HFN HO1 HB1 z0 z1 z2 z3 z4 z5 z6 z7 z8 z9 z10 z11
      cases B
      · have HR5 : Hid (w2.ownsRow w.heap.size 3 1 v (numsL opP cs (k + 1)).length ((numsL opP cs (k + 1)).map (Value.int .i64))) := by
          rw [Hid, HOUT.out (by first | rfl | trivial)]; exact HO2.out
        go_wp2
        go_roundw
        case rel => exact ⟨_, k + 1, rfl, by omega, by go_num, HR5.out, HB2.out⟩
        case measure => simp [intOf]; omega
      · have HLT : Hid (∀ j, v.ownBlock = some j → w.heap.size ≤ j) := fun j hj => (HO2.out.lt j hj).1
        go_wp2_with (at_builtin; refine wpList_append_own _ rfl (.tmp 18) (.tmp 20) 22 rfl w.heap.size 3 i0 (.int .i64 0) 1 8 Try.underlying22 hi hz0 hz1 hz2 rfl (by decide) _ _ _ rfl (HO2.out.alloc _) ⟨w2.heap.size, 0, none⟩ 1 1 [.int .i64 (k : Int)] rfl rfl (World.news_of_block (heap_alloc_new w2 _)) (one_nu _) (by unfold maxLen; omega) (by omega) (by simp; have := HSZ.out; omega) ?_; intro v5 w5 o5 g5 _)
        have q5 : Below w.heap.size w w5 := (HB2.out.alloc (by have := HSZ.out; omega) _).grown g5 (by have := HSZ.out; simp; omega) HLT.out
        have HR5 : Hid (w5.ownsRow w.heap.size 3 1 v5 (numsL opP cs (k + 1)).length ((numsL opP cs (k + 1)).map (Value.int .i64))) := by
          rw [Hid, HIN.out (by first | rfl | trivial), List.length_append, List.map_append]; exact o5
        clear o5 g5
        go_wp2
        go_roundw
        case rel => exact ⟨_, k + 1, rfl, by omega, by go_num, HR5.out, q5⟩
        case measure => simp [intOf]; omega
    · have hke : k = cs.length := by omega
      subst hke
      have hki : ¬ (cs.length : Int) < (cs.length : Int) := by omega
      obtain ⟨va, vk, hva⟩ := own_shape hown
      subst hva
      clear hbr hown
      go_wp2
      go_ret
      exact ⟨va, vk, rfl, HO.out, HBR.out⟩

set_option maxHeartbeats 6400000 in
theorem nums_due (ao : Option Addr) (cap : Nat) (cs : List Cs) (g : Nat) (td : Int) (w : World) (hz : CasesAt w ao cs) (hn : cs.length ≤ 1048576) (hc : w.cell? ⟨g, 0, none⟩ = some (.int .i64 td)) :
    Calls Try.prog 35 #[.slice ao cs.length cap, .func (.func 46) #[] #[.pointer (some ⟨g, 0, none⟩)]] w (NuR w (numsL (dueP td) cs cs.length)) := by
  obtain ⟨i0, hi, hz0, hz1, hz2⟩ := info_parts infoI
  have HX : Hid (CasesAt w ao cs) := hz
  have HG : Hid (∀ u, Below w.heap.size w u → u.cell? ⟨g, 0, none⟩ = some (.int .i64 td)) := fun u h => (h.cell (p := ⟨g, 0, none⟩) (World.block_lt_of_cell? w _ hc)).trans hc
  clear hz hc
  go_enter Try.func35, Try.ntmps35
  go_wp2
  go_loopw [5, 10] (fun s i wr => ∃ (v : Value) (k : Nat), v = s ∧ k ≤ cs.length ∧ i = .int .i64 (k : Int) ∧ wr.ownsRow w.heap.size 3 1 v (numsL (dueP td) cs k).length ((numsL (dueP td) cs k).map (Value.int .i64)) ∧ Below w.heap.size w wr) (fun _ i _ => cs.length - (intOf i).toNat)
  case atStart => exact ⟨_, 0, rfl, Nat.zero_le _, rfl, World.ownsRow_nil _ _ _ _, Below.refl _ _⟩
  case round =>
    obtain ⟨v, k, hvs, hk, rfl, hown, hbr⟩ := hrel
    subst hvs
    have HBR : Hid (Below w.heap.size w wr) := hbr
    have HO : Hid (wr.ownsRow w.heap.size 3 1 v (numsL (dueP td) cs k).length ((numsL (dueP td) cs k).map (Value.int .i64))) := hown
    by_cases hlt : k < cs.length
    · have hki : (k : Int) < (cs.length : Int) := by omega
      obtain ⟨cb, off, rfl, hb2, hcb⟩ := (HX.out.below hbr).at hlt
      have hle := numsL_le (dueP td) cs k
      have HIN : Hid _ := @numsL_in ((dueP td)) cs k
      have HOUT : Hid _ := @numsL_out ((dueP td)) cs k
      obtain ⟨⟨iss, acq, cur, am, st, rsn, cl, bk, fee, cop, sta, due⟩, hc⟩ : ∃ f, csAt cs k = f := ⟨_, rfl⟩
      rw [hc] at hcb HIN HOUT
      obtain ⟨y0, y1, y2, y3, y4, y5, y6, y7, y8, y9, y10, y11⟩ := hcb
      simp only at y0 y1 y2 y3 y4 y5 y6 y7 y8 y9 y10 y11
      clear hc hown hbr hb2
      go_upto_region 5 with fail
      obtain ⟨B, hB⟩ : ∃ B, (dueP td) ⟨iss, acq, cur, am, st, rsn, cl, bk, fee, cop, sta, due⟩ = B := ⟨_, rfl⟩
      obtain ⟨U, hU⟩ : ∃ U, U = wr.alloc (.cells #[.int .i64 iss, .int .i64 acq, .int .i64 cur, .int .i64 am, .int .i64 st, .int .i64 rsn, .int .i64 cl, .int .i64 bk, .int .i64 fee, .bool cop, .int .i64 sta, .int .i64 due] 53) := ⟨_, rfl⟩
      have bU : Below wr.heap.size wr U := by rw [hU]; exact (Below.refl _ _).alloc (Nat.le_refl _) _
      have hcU : CB wr.heap.size 0 ⟨iss, acq, cur, am, st, rsn, cl, bk, fee, cop, sta, due⟩ U := by rw [hU]; exact ⟨by simp, by simp, by simp, by simp, by simp, by simp, by simp, by simp, by simp, by simp, by simp, by simp⟩
      rw [← hU]
      have HFN : Hid (Calls Try.prog 46 #[.agg #[.int .i64 iss, .int .i64 acq, .int .i64 cur, .int .i64 am, .int .i64 st, .int .i64 rsn, .int .i64 cl, .int .i64 bk, .int .i64 fee, .bool cop, .int .i64 sta, .int .i64 due], .pointer (some ⟨g, 0, none⟩)] U fun e w' => e = .returned (.bool B) ∧ Below U.heap.size U w') := by rw [Hid, ← hB]; exact due1_any ⟨iss, acq, cur, am, st, rsn, cl, bk, fee, cop, sta, due⟩ g td U (HG.out _ (next HBR.out bU))
      have HO1 : Hid (U.ownsRow w.heap.size 3 1 v (numsL (dueP td) cs k).length ((numsL (dueP td) cs k).map (Value.int .i64))) := keepL HO.out bU
      have HB1 : Hid (Below w.heap.size w U) := next HBR.out bU
      rw [hB] at HIN HOUT
      clear hU bU HO HBR y0 y1 y2 y3 y4 y5 y6 y7 y8 y9 y10 y11 hB
      obtain ⟨z0, z1, z2, z3, z4, z5, z6, z7, z8, z9, z10, z11⟩ := hcU
      simp only [Nat.zero_add] at z0 z1 z2 z3 z4 z5 z6 z7 z8 z9 z10 z11
      go_wp2_with fail
      refine HFN.out.mono ?_
      rintro e w2 ⟨rfl, b2⟩
      have HO2 : Hid (w2.ownsRow w.heap.size 3 1 v (numsL (dueP td) cs k).length ((numsL (dueP td) cs k).map (Value.int .i64))) := keepL HO1.out b2
      have HB2 : Hid (Below w.heap.size w w2) := next HB1.out b2
      have HSZ : Hid (w.heap.size ≤ w2.heap.size) := HB2.out.size
      clear b2 HFN HO1 HB1 z0 z1 z2 z3 z4 z5 z6 z7 z8 z9 z10 z11
      cases B
      · have HR5 : Hid (w2.ownsRow w.heap.size 3 1 v (numsL (dueP td) cs (k + 1)).length ((numsL (dueP td) cs (k + 1)).map (Value.int .i64))) := by
          rw [Hid, HOUT.out (by first | rfl | trivial)]; exact HO2.out
        go_wp2
        go_roundw
        case rel => exact ⟨_, k + 1, rfl, by omega, by go_num, HR5.out, HB2.out⟩
        case measure => simp [intOf]; omega
      · have HLT : Hid (∀ j, v.ownBlock = some j → w.heap.size ≤ j) := fun j hj => (HO2.out.lt j hj).1
        go_wp2_with (at_builtin; refine wpList_append_own _ rfl (.tmp 18) (.tmp 20) 22 rfl w.heap.size 3 i0 (.int .i64 0) 1 8 Try.underlying22 hi hz0 hz1 hz2 rfl (by decide) _ _ _ rfl (HO2.out.alloc _) ⟨w2.heap.size, 0, none⟩ 1 1 [.int .i64 (k : Int)] rfl rfl (World.news_of_block (heap_alloc_new w2 _)) (one_nu _) (by unfold maxLen; omega) (by omega) (by simp; have := HSZ.out; omega) ?_; intro v5 w5 o5 g5 _)
        have q5 : Below w.heap.size w w5 := (HB2.out.alloc (by have := HSZ.out; omega) _).grown g5 (by have := HSZ.out; simp; omega) HLT.out
        have HR5 : Hid (w5.ownsRow w.heap.size 3 1 v5 (numsL (dueP td) cs (k + 1)).length ((numsL (dueP td) cs (k + 1)).map (Value.int .i64))) := by
          rw [Hid, HIN.out (by first | rfl | trivial), List.length_append, List.map_append]; exact o5
        clear o5 g5
        go_wp2
        go_roundw
        case rel => exact ⟨_, k + 1, rfl, by omega, by go_num, HR5.out, q5⟩
        case measure => simp [intOf]; omega
    · have hke : k = cs.length := by omega
      subst hke
      have hki : ¬ (cs.length : Int) < (cs.length : Int) := by omega
      obtain ⟨va, vk, hva⟩ := own_shape hown
      subst hva
      clear hbr hown
      go_wp2
      go_ret
      exact ⟨va, vk, rfl, HO.out, HBR.out⟩

set_option maxHeartbeats 3200000 in
theorem iBookOpen_any (b : Bk) (p : Bp) (w : World) (hx : BookAt w b p) (hn : bkSm b) :
    Calls Try.prog 10 #[bkv b p] w (NuR w (numsL opP b.cs b.cs.length)) := by
  obtain ⟨W, hW⟩ : ∃ W, W = w.alloc (.cells #[.int .i64 b.today, .slice p.o b.off.length p.oc, .slice p.a b.az.length p.ac, .slice p.c b.cs.length p.cc, .slice p.l b.ls.length p.lc, .slice p.g b.log.length p.gc] 39) := ⟨_, rfl⟩
  have bW : Below w.heap.size w W := by rw [hW]; exact (Below.refl _ _).alloc (Nat.le_refl _) _
  have HS : Hid (S6 w.heap.size b p W) := by rw [Hid, hW]; exact S6.new w b p _
  have HX : Hid (CasesAt W p.c b.cs) := (hx.below bW).cs
  have HBW : Hid (Below w.heap.size w W) := bW
  have HWS : Hid (w.heap.size ≤ W.heap.size) := bW.size
  have hcn := hn.2.2.1
  clear hx hn bW
  have HW : Hid _ := hW
  clear hW
  obtain ⟨td, fo, az, cs, ls, lg⟩ := b
  obtain ⟨o, oc, a, ac, c, cc, l, lc, g, gc⟩ := p
  unfold bkv
  simp only at HW HX hcn ⊢
  obtain ⟨x0, x1, x2, x3, x4, x5⟩ := HS.out
  simp only at x0 x1 x2 x3 x4 x5
  go_enter Try.func10, Try.ntmps10
  go_upto_region 1 with fail
  rw [← HW.out]
  clear HW
  go_wp2_with fail
  refine (nums_open _ _ cs _ HX.out hcn).mono ?_
  rintro e w2 ⟨va, vk, rfl, o2, b2⟩
  have HO : Hid _ := lowerL o2 HWS.out
  have HB2 : Hid (Below w.heap.size w w2) := next HBW.out b2
  clear x0 x1 x2 x3 x4 x5 o2 b2
  go_wp2
  go_ret
  exact ⟨va, vk, rfl, HO.out, HB2.out⟩

set_option maxHeartbeats 3200000 in
theorem iBookDue_any (b : Bk) (p : Bp) (w : World) (hx : BookAt w b p) (hn : bkSm b) :
    Calls Try.prog 17 #[bkv b p] w (NuR w (numsL (dueP b.today) b.cs b.cs.length)) := by
  obtain ⟨W, hW⟩ : ∃ W, W = w.alloc (.cells #[.int .i64 b.today, .slice p.o b.off.length p.oc, .slice p.a b.az.length p.ac, .slice p.c b.cs.length p.cc, .slice p.l b.ls.length p.lc, .slice p.g b.log.length p.gc] 39) := ⟨_, rfl⟩
  have bW : Below w.heap.size w W := by rw [hW]; exact (Below.refl _ _).alloc (Nat.le_refl _) _
  have HS : Hid (S6 w.heap.size b p W) := by rw [Hid, hW]; exact S6.new w b p _
  have HX : Hid (CasesAt W p.c b.cs) := (hx.below bW).cs
  have HBW : Hid (Below w.heap.size w W) := bW
  have HWS : Hid (w.heap.size ≤ W.heap.size) := bW.size
  have hcn := hn.2.2.1
  clear hx hn bW
  have HW : Hid _ := hW
  clear hW
  obtain ⟨td, fo, az, cs, ls, lg⟩ := b
  obtain ⟨o, oc, a, ac, c, cc, l, lc, g, gc⟩ := p
  unfold bkv
  simp only at HW HX hcn ⊢
  obtain ⟨x0, x1, x2, x3, x4, x5⟩ := HS.out
  simp only at x0 x1 x2 x3 x4 x5
  go_enter Try.func17, Try.ntmps17
  go_upto_region 1 with fail
  rw [← HW.out]
  clear HW
  go_wp2_with fail
  refine (nums_due _ _ cs w.heap.size td _ HX.out hcn x0).mono ?_
  rintro e w2 ⟨va, vk, rfl, o2, b2⟩
  have HO : Hid _ := lowerL o2 HWS.out
  have HB2 : Hid (Below w.heap.size w w2) := next HBW.out b2
  clear x0 x1 x2 x3 x4 x5 o2 b2
  go_wp2
  go_ret
  exact ⟨va, vk, rfl, HO.out, HB2.out⟩

end Go.Proofs.Ytlhdpbbgmjfbkaa
