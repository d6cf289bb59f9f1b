/- What is drawn as a message, whatever the bytes: the walk. -/
import Derived.Test.YtggaadbcifbdeaaDrawMs
import Derived.Test.YtggaadbcifbdeaaFConv
namespace Go.Proofs.Ytggaadbcifbdeaa
open Go.RowKit
set_option maxRecDepth 100000

theorem dA {w Y : World} (h : Below w.heap.size w Y) (o : Obj) : Below w.heap.size w (Y.alloc o) := h.alloc h.size o
/-- what stands behind an append and the store of what it gave -/
theorem MI.put {B g M T L base : Nat} {w : World} {kd : Int} {va : Option Addr} {vc : Nat} {fs : List Fld} {wr w6 : World} (h : MI B g M T L base w kd va vc fs wr) (hB : B ≤ T) (hw : w.heap.size ≤ T) (hM : M < base) (hT : T < base) (hL : L < base) (hMT : M ≠ T) (hLT : L ≠ T) (hb : Below base wr w6) {va' : Option Addr} {vc' : Nat} {fs' : List Fld} (ho : w6.ownsRow base 35 2 (.slice va' fs'.length vc') fs'.length (fcells fs')) :
    MI B g M T L base w kd va' vc' fs' (w6.setCell ⟨T, 1, none⟩ (.slice va' fs'.length vc')) := by
  have t1 := (hb.cell (p := ⟨T, 1, none⟩) hT).trans h.t1
  have cw := cursor_bd h.cu
  refine ⟨?_, ?_, ?_, ?_, ?_, ?_, ?_, ?_, ?_, ?_, ?_, ?_, ?_⟩
  · rw [World.cell?_setCell_other _ _ _ _ (by first | (simp; done) | (simp; omega))]; exact (hb.cell (p := ⟨M, 0, none⟩) hM).trans h.a0
  · rw [World.cell?_setCell_other _ _ _ _ (by first | (simp; done) | (simp; omega))]; exact (hb.cell (p := ⟨M, 1, none⟩) hM).trans h.a1
  · rw [World.frozen?_setCell]; exact (hb.frozen (p := ⟨M, 0, none⟩) hM).trans h.z0
  · rw [World.frozen?_setCell]; exact (hb.frozen (p := ⟨M, 1, none⟩) hM).trans h.z1
  · rw [World.cell?_setCell_other _ _ _ _ (by first | (simp; done) | (simp; omega))]; exact (hb.cell (p := ⟨T, 0, none⟩) hT).trans h.t0
  · exact World.cell?_setCell_same _ _ _ t1
  · rw [World.frozen?_setCell]; exact (hb.frozen (p := ⟨T, 0, none⟩) hT).trans h.y0
  · rw [World.frozen?_setCell]; exact (hb.frozen (p := ⟨T, 1, none⟩) hT).trans h.y1
  · intro i hi
    rw [World.cell?_setCell_other _ _ _ _ (by first | (simp; done) | (simp; omega))]; exact (hb.cell (p := ⟨L, i, none⟩) hL).trans (h.ls i hi)
  · exact keepSet ho _ _ (fun x hx => by have := (ho.lt x hx).1; simp only; omega)
  · exact cursor_keep (cursor_keep h.cu (hb.mono (by omega))) ((Below.refl B w6).setCell hB _)
  · have g1 : w.grownBy w6 (some g) := ⟨hb.os.trans h.gr.os, hb.tape.trans h.gr.tape, hb.output.trans h.gr.output, Nat.le_trans h.gr.size hb.size, fun k hk hne => (hb.block k (by omega)).trans (h.gr.block k hk hne)⟩
    exact ⟨g1.os, g1.tape, g1.output, by simpa using g1.size, fun k hk hne => (Below.heap_setCell _ _ _ _ (by simp only; omega)).trans (g1.block k hk hne)⟩
  · have := h.sz; have := hb.size; simp; omega

theorem end0 {X : World} {M : Nat} {o v1 : Value} (a0 : X.cell? ⟨M, 0, none⟩ = some o) (v0 : Value) : ((X.setCell ⟨M, 0, none⟩ v0).setCell ⟨M, 1, none⟩ v1).cell? ⟨M, 0, none⟩ = some v0 := by
  rw [World.cell?_setCell_other _ _ _ _ (by first | (simp; done) | (simp; omega))]; exact World.cell?_setCell_same _ _ _ a0
theorem end1 {X : World} {M : Nat} {o : Value} (a1 : X.cell? ⟨M, 1, none⟩ = some o) (v0 v1 : Value) : ((X.setCell ⟨M, 0, none⟩ v0).setCell ⟨M, 1, none⟩ v1).cell? ⟨M, 1, none⟩ = some v1 := by
  have h : (X.setCell ⟨M, 0, none⟩ v0).cell? ⟨M, 1, none⟩ = some o := by
    rw [World.cell?_setCell_other _ _ _ _ (by first | (simp; done) | (simp; omega))]; exact a1
  exact World.cell?_setCell_same _ _ _ h
theorem MI.kind {B g M T L base : Nat} {w : World} {kd : Int} {va : Option Addr} {vc : Nat} {fs : List Fld} {wr : World} (h : MI B g M T L base w kd va vc fs wr) (hB : B ≤ T) (hw : w.heap.size ≤ T) (hT : T < base) (hMT : M ≠ T) (hLT : L ≠ T) (kd' : Int) :
    MI B g M T L base w kd' va vc fs (wr.setCell ⟨T, 0, none⟩ (.int .i64 kd')) := by
  refine ⟨?_, ?_, ?_, ?_, ?_, ?_, ?_, ?_, ?_, ?_, ?_, ?_, ?_⟩
  · rw [World.cell?_setCell_other _ _ _ _ (by first | (simp; done) | (simp; omega))]; exact h.a0
  · rw [World.cell?_setCell_other _ _ _ _ (by first | (simp; done) | (simp; omega))]; exact h.a1
  · rw [World.frozen?_setCell]; exact h.z0
  · rw [World.frozen?_setCell]; exact h.z1
  · exact World.cell?_setCell_same _ _ _ h.t0
  · rw [World.cell?_setCell_other _ _ _ _ (by first | (simp; done) | (simp; omega))]; exact h.t1
  · rw [World.frozen?_setCell]; exact h.y0
  · rw [World.frozen?_setCell]; exact h.y1
  · intro i hi
    rw [World.cell?_setCell_other _ _ _ _ (by first | (simp; done) | (simp; omega))]; exact h.ls i hi
  · exact keepSet h.ow _ _ (fun x hx => by have := (h.ow.lt x hx).1; simp only; omega)
  · exact cursor_keep h.cu ((Below.refl B wr).setCell hB _)
  · exact ⟨h.gr.os, h.gr.tape, h.gr.output, by simpa using h.gr.size, fun k hk hne => (Below.heap_setCell _ _ _ _ (by simp only; omega)).trans (h.gr.block k hk hne)⟩
  · have := h.sz; simp; omega
theorem MI.done {B g M T L base : Nat} {w : World} {kd : Int} {va : Option Addr} {vc : Nat} {fs : List Fld} {wr : World} (h : MI B g M T L base w kd va vc fs wr) (hB : B ≤ M) (hw : w.heap.size ≤ M) (hM : M < base) (hg : g < base) (hn : fs.length ≤ 16) (hm : ∀ f ∈ fs, f.2.length ≤ 999) (v0 v1 : Value) :
    DrewM B g w (.returned (.agg #[.int .i64 kd, .slice va fs.length vc])) ((wr.setCell ⟨M, 0, none⟩ v0).setCell ⟨M, 1, none⟩ v1) := by
  have o1 := keepSet (keepSet h.ow ⟨M, 0, none⟩ v0 (fun x hx => by have := (h.ow.lt x hx).1; simp only; omega)) ⟨M, 1, none⟩ v1 (fun x hx => by have := (h.ow.lt x hx).1; simp only; omega)
  obtain ⟨ao', c', hv, hf, -⟩ := flds_of_own' o1
  obtain ⟨rfl, rfl⟩ : va = ao' ∧ vc = c' := by simpa using hv
  refine ⟨kd, va, vc, fs, rfl, hn, hm, hf, cursor_keep h.cu (((Below.refl B wr).setCell hB _).setCell hB _), ?_, fun x hx => ?_, lowerRow o1 (by omega)⟩
  · exact ⟨h.gr.os, h.gr.tape, h.gr.output, by simpa using h.gr.size, fun k hk hne => ((Below.heap_setCell _ _ _ _ (by simp only; omega)).trans (Below.heap_setCell _ _ _ _ (by simp only; omega))).trans (h.gr.block k hk hne)⟩
  · subst hx
    have := (h.ow.lt x.block (by simp [Value.ownBlock])).1
    omega

set_option maxHeartbeats 12800000 in
theorem msgD_any {B : Nat} (g : Nat) (w : World) (hc : Cursor B w g) :
    Calls Try.prog 12 #[.pointer (some ⟨g, 0, none⟩)] w (DrewM B g w) := by
  obtain ⟨i0, hi, hz0, hz1, hz2⟩ := info_parts infoF
  have cb := cursor_bd hc
  have c0 : Cursor B ((w.alloc (.cells #[.int .i64 0, .slice none 0 0] 26)).alloc (.cells #[.int .i64 1240, .int .i64 1442, .int .i64 1644, .int .i64 1740, .int .i64 0, .int .i64 9999] 3)) g := cursor_alloc (cursor_alloc hc _) _
  have hzc : ∀ i, i < [(1240 : Int), 1442, 1644, 1740, 0, 9999].length → ((w.alloc (.cells #[.int .i64 0, .slice none 0 0] 26)).alloc (.cells #[.int .i64 1240, .int .i64 1442, .int .i64 1644, .int .i64 1740, .int .i64 0, .int .i64 9999] 3)).cell? ⟨w.heap.size + 1, i, none⟩ = some (.int .i64 ([(1240 : Int), 1442, 1644, 1740, 0, 9999].getD i 0)) := by
    intro i hi
    have h := lit_cells (w.alloc (.cells #[.int .i64 0, .slice none 0 0] 26)) [1240, 1442, 1644, 1740, 0, 9999] #[.int .i64 1240, .int .i64 1442, .int .i64 1644, .int .i64 1740, .int .i64 0, .int .i64 9999] rfl i hi
    rw [World.size_alloc] at h
    exact h
  go_enter Try.func12, Try.ntmps12
  go_wp2_with fail
  refine (pickInt_any g (w.heap.size + 1) 6 [1240, 1442, 1644, 1740, 0, 9999] ((w.alloc (.cells #[.int .i64 0, .slice none 0 0] 26)).alloc (.cells #[.int .i64 1240, .int .i64 1442, .int .i64 1644, .int .i64 1740, .int .i64 0, .int .i64 9999] 3)) c0 (by omega) hzc (by decide) (by decide)).mono ?_
  rintro e w1 ⟨kd, rfl, hkd, c1, g1⟩
  have a0 := far_cell (b := w.heap.size) (o := 0) (v := .int .i64 0) (by simp [go_sem]) g1 (by omega)
  have a1 := far_cell (b := w.heap.size) (o := 1) (v := .slice none 0 0) (by simp [go_sem]) g1 (by omega)
  have z0 := far_froz (b := w.heap.size) (o := 0) (by simp [go_sem]) (by simp <;> omega) g1 (by omega)
  have z1 := far_froz (b := w.heap.size) (o := 1) (by simp [go_sem]) (by simp <;> omega) g1 (by omega)
  have b1 : w.grownBy w1 (some g) := ((grown_alloc w _ _).trans (grown_alloc _ _ _)).trans g1
  have hs1 : w.heap.size + 1 < w1.heap.size := by have := g1.size; simp at this; omega
  clear hc c0 hzc g1 hkd
  go_wp2_with fail
  refine (numsM_any _).mono ?_
  rintro e w2 ⟨rfl, hls, b2, hs2, g2⟩
  have I : MI B g w.heap.size w1.heap.size (w1.heap.size + 1) w2.heap.size w kd none 0 [] w2 := by
    have q := Below.trans ((Below.refl w1.heap.size w1).alloc (Nat.le_refl _) (.cells #[.int .i64 kd, .slice none 0 0] 26)) (b2.mono (by simp))
    refine ⟨(q.cell (p := ⟨w.heap.size, 0, none⟩) (by show w.heap.size < w1.heap.size; omega)).trans a0, (q.cell (p := ⟨w.heap.size, 1, none⟩) (by show w.heap.size < w1.heap.size; omega)).trans a1, (q.frozen (p := ⟨w.heap.size, 0, none⟩) (by show w.heap.size < w1.heap.size; omega)).trans z0, (q.frozen (p := ⟨w.heap.size, 1, none⟩) (by show w.heap.size < w1.heap.size; omega)).trans z1,
      (b2.cell (p := ⟨w1.heap.size, 0, none⟩) (by simp)).trans (by simp), (b2.cell (p := ⟨w1.heap.size, 1, none⟩) (by simp)).trans (by simp), (b2.frozen (p := ⟨w1.heap.size, 0, none⟩) (by simp)).trans (by simp), (b2.frozen (p := ⟨w1.heap.size, 1, none⟩) (by simp)).trans (by simp),
      fun i hi => by have := hls i hi; simpa using this, World.ownsRow_nil _ _ _ _, cursor_below (cursor_alloc c1 _) b2, grown_far (b1.trans (grown_alloc w1 _ _)) g2 (fun j hj => by cases hj), Nat.le_refl _⟩
  have hs3 : w2.heap.size = w1.heap.size + 2 := by rw [hs2]; simp
  have HI : Hid (MI B g w.heap.size w1.heap.size (w1.heap.size + 1) w2.heap.size w kd none 0 [] w2) := I
  simp only [World.size_alloc]
  clear I hls b2 hs2 g2 a0 a1 z0 z1 b1 c1
  go_wp2
  go_loopw [5] (fun i_ wr => ∃ (i : Nat) (fs : List Fld) (va : Option Addr) (vc : Nat), i ≤ 15 ∧ i_ = .int .i64 i ∧ fs.length ≤ i ∧ (∀ f ∈ fs, f.2.length ≤ 999) ∧ MI B g w.heap.size w1.heap.size (w1.heap.size + 1) w2.heap.size w kd va vc fs wr) (fun i _ => 15 - (intOf i).toNat)
  case atStart => exact ⟨0, [], none, 0, Nat.zero_le _, rfl, Nat.le_refl _, (fun f hf => by cases hf), HI.out⟩
  case round =>
    obtain ⟨i, fs, va, vc, hi15, rfl, hfl, hmem, I⟩ := hrel
    have HM : Hid (∀ f ∈ fs, f.2.length ≤ 999) := hmem
    clear HI hmem
    by_cases hlt : i < 15
    · have hki : (i : Int) < 15 := by omega
      go_wp2_with fail
      refine (once_any _ _ _ I.cu (by omega)).mono ?_
      rintro e w3 ⟨q, rfl, c3, g3⟩
      have J := I.draw (by omega) (by omega) (by omega) (by omega) g3 c3
      clear I g3 c3
      cases q
      · have HJ : Hid (MI B g w.heap.size w1.heap.size (w1.heap.size + 1) w2.heap.size w kd va vc fs w3) := J
        clear J
        go_wp2
        go_roundw
        case rel => exact ⟨i + 1, fs, va, vc, by omega, by go_num, by omega, HM.out, HJ.out⟩
        case measure => simp [intOf]; omega
      · have HJ : Hid (MI B g w.heap.size w1.heap.size (w1.heap.size + 1) w2.heap.size w kd va vc fs w3) := J
        have t1 := J.t1
        have y1 := J.y1
        have l1 := J.ls i hlt
        have hkn : knowns.getD i 0 ∈ knowns := by
          have hl : i < knowns.length := hlt
          rw [List.getD_eq_getElem?_getD, List.getElem?_eq_getElem hl, Option.getD_some]; exact List.getElem_mem hl
        obtain ⟨n, hnn⟩ : ∃ n, knowns.getD i 0 = n := ⟨_, rfl⟩
        rw [hnn] at l1 hkn
        have HNN : Hid _ := hnn
        have cJ := J.cu
        clear J hnn
        go_wp2
        have hT5 : w1.heap.size < w2.heap.size := by omega
        have hL5 : w1.heap.size + 1 < w2.heap.size := by omega
        have hw2 : w2.heap.size ≤ w3.heap.size := HJ.out.sz
        go_region_law (first
          | (refine step_app_own rfl (.tmp 20) (.tmp 32) 24 rfl w2.heap.size 35 i0 _ 2 24 Try.underlying24 hi hz0 hz1 hz2 rfl (by decide) (.slice va fs.length vc) fs.length (fcells fs) (by kernel_rfl) (keepRow J5.out.ow (dA (Below.refl _ _) _)) ⟨w5.heap.size, 0, none⟩ 1 1 [.int .i64 n, .string ⟨s.toArray⟩] (by kernel_rfl) rfl (World.news_of_block (heap_alloc_new w5 _)) (oneM n s) (by unfold maxLen; omega) (by omega) (by have := J5.out.sz; simp; omega) ?_; intro v' w6 o6 g6 _; have q6 : Below w2.heap.size w5 w6 := Below.grown (Below.mono (dA (Below.refl w5.heap.size w5) _) J5.out.sz) g6 (by have := J5.out.sz; simp; omega) (fun j hj => (J5.out.ow.lt j hj).1); have t16 := (q6.cell (p := ⟨w1.heap.size, 1, none⟩) hT5).trans J5.out.t1; have y16 := (q6.frozen (p := ⟨w1.heap.size, 1, none⟩) hT5).trans J5.out.y1; have r6 : w6.ownsRow w2.heap.size 35 2 v' (fs ++ [(n, s)]).length (fcells (fs ++ [(n, s)])) := (by rw [fcells_append, List.length_append]; exact o6); obtain ⟨a6, c6, hv6, -, -⟩ := flds_of_own' r6; subst hv6; have HJ6 : Hid (MI B g w.heap.size w1.heap.size (w1.heap.size + 1) w2.heap.size w kd a6 c6 (fs ++ [(n, s)]) (w6.setCell ⟨w1.heap.size, 1, none⟩ (.slice a6 (fs ++ [(n, s)]).length c6))) := J5.out.put (by omega) (by omega) (by omega) (by omega) (by omega) (by omega) (by omega) q6 r6; clear o6 g6 r6 q6)
          | (go_simp; go_at_call 16; refine (dataG_any _ n _ (by first | exact cJ | exact cursor_below cJ (Below.refl _ _).drew) hkn).mono ?_; rintro e w5 ⟨s, rfl, hsl, c5, g5⟩; have J5 : Hid (MI B g w.heap.size w1.heap.size (w1.heap.size + 1) w2.heap.size w kd va vc fs w5) := HJ.out.draw (by omega) (by omega) (by omega) (by omega) ⟨g5.os, g5.tape, g5.output, g5.size, g5.block⟩ c5; have t15 := J5.out.t1; have l15 := J5.out.ls i hlt; rw [HNN.out] at l15; have t15a : ∀ o, (w5.alloc o).cell? ⟨w1.heap.size, 1, none⟩ = some (.slice va fs.length vc) := (fun o => (World.cell?_alloc_lt _ _ ⟨w1.heap.size, 1, none⟩ (Nat.lt_of_lt_of_le hT5 J5.out.sz)).trans t15); clear g5 c5)
          | fail)
        all_goals
          go_wp2
          go_roundw
          case rel => exact ⟨i + 1, fs ++ [(n, s)], a6, c6, by omega, by go_num, by simp; omega, mem_snocM HM.out (by omega), (by have h6 := HJ6.out; rw [List.length_append] at h6; exact h6)⟩
          case measure => simp [intOf]; omega
    · have hie : i = 15 := by omega
      subst hie
      go_wp2_with fail
      refine (below_any _ _ _ I.cu (by omega)).mono ?_
      rintro e w3 ⟨z, rfl, z0, z1, c3, g3⟩
      have J := I.draw (by omega) (by omega) (by omega) (by omega) g3 c3
      have hw2 : w2.heap.size ≤ w3.heap.size := J.sz
      clear I g3 c3 z1
      by_cases k0 : z = 0
      · subst k0
        have HJ : Hid (MI B g w.heap.size w1.heap.size (w1.heap.size + 1) w2.heap.size w kd va vc fs w3) := J
        have cJ := J.cu
        clear J
        go_wp2_with fail
        refine (pickInt_any _ _ _ [-1, 10000] _ (cursor_alloc cJ _) (cursor_ne cJ) (lit_cells w3 [-1, 10000] _ rfl) (by decide) (by decide)).mono ?_
        rintro e w4 ⟨y, rfl, -, c4, g4⟩
        have J4 := HJ.out.draw (by omega) (by omega) (by omega) (by omega) ((grown_alloc w3 _ _).trans g4) c4
        have J5 := J4.kind (by omega) (by omega) (by omega) (by omega) (by omega) y
        have t0 := J4.t0
        have y0 := J4.y0
        have e0 := J5.t0
        have e1 := J5.t1
        have a0 := J5.a0
        have a1 := J5.a1
        have u0 := J5.z0
        have u1 := J5.z1
        have HD : Hid (DrewM B g w (.returned (.agg #[.int .i64 y, .slice va fs.length vc])) (((w4.setCell ⟨w1.heap.size, 0, none⟩ (.int .i64 y)).setCell ⟨w.heap.size, 0, none⟩ (.int .i64 y)).setCell ⟨w.heap.size, 1, none⟩ (.slice va fs.length vc))) := J5.done (by omega) (by omega) (by omega) (by omega) (by omega) HM.out _ _
        have F0 : Hid _ := end0 (v1 := .slice va fs.length vc) a0 (.int .i64 y)
        have F1 : Hid _ := end1 a1 (.int .i64 y) (.slice va fs.length vc)
        clear J4 J5 g4 c4 HJ
        go_wp2
        have f0 := F0.out
        have f1 := F1.out
        refine bodyPost_ret (by simp [results, Try.results12, go_sem, f0, f1]; try rfl) rfl ?_
        exact HD.out
      have k0' : (z == 0) = false := by simpa using k0
      by_cases k1 : z = 1
      · subst k1
        have HJ : Hid (MI B g w.heap.size w1.heap.size (w1.heap.size + 1) w2.heap.size w kd va vc fs w3) := J
        have cJ := J.cu
        have t1 := J.t1
        have t1a : ∀ o, (w3.alloc o).cell? ⟨w1.heap.size, 1, none⟩ = some (.slice va fs.length vc) := fun o => (World.cell?_alloc_lt _ _ ⟨w1.heap.size, 1, none⟩ (by show w1.heap.size < w3.heap.size; omega)).trans t1
        have hT5 : w1.heap.size < w2.heap.size := by omega
        have HLC : Hid (∀ i, i < [(5 : Int), 2, 128].length → (w3.alloc (.cells #[.int .i64 5, .int .i64 2, .int .i64 128] 3)).cell? ⟨w3.heap.size, i, none⟩ = some (.int .i64 ([(5 : Int), 2, 128].getD i 0))) := lit_cells w3 [5, 2, 128] _ rfl
        clear J
        go_wp2
        go_region_law (first
          | (refine step_app_own rfl (.tmp 46) (.tmp 51) 24 rfl w2.heap.size 35 i0 _ 2 24 Try.underlying24 hi hz0 hz1 hz2 rfl (by decide) (.slice va fs.length vc) fs.length (fcells fs) (by kernel_rfl) (keepRow J5.out.ow (dA (Below.refl _ _) _)) ⟨w5.heap.size, 0, none⟩ 1 1 [.int .i64 n, .string ⟨#[49]⟩] (by kernel_rfl) rfl (World.news_of_block (heap_alloc_new w5 _)) (oneM n [49]) (by unfold maxLen; omega) (by omega) (by have := J5.out.sz; simp; omega) ?_; intro v' w6 o6 g6 _; have q6 : Below w2.heap.size w5 w6 := Below.grown (Below.mono (dA (Below.refl w5.heap.size w5) _) J5.out.sz) g6 (by have := J5.out.sz; simp; omega) (fun j hj => (J5.out.ow.lt j hj).1); have t16 := (q6.cell (p := ⟨w1.heap.size, 1, none⟩) hT5).trans J5.out.t1; have y16 := (q6.frozen (p := ⟨w1.heap.size, 1, none⟩) hT5).trans J5.out.y1; have r6 : w6.ownsRow w2.heap.size 35 2 v' (fs ++ [(n, [49])]).length (fcells (fs ++ [(n, [49])])) := (by rw [fcells_append, List.length_append]; exact o6); obtain ⟨a6, c6, hv6, -, -⟩ := flds_of_own' r6; subst hv6; have HJ6 : Hid (MI B g w.heap.size w1.heap.size (w1.heap.size + 1) w2.heap.size w kd a6 c6 (fs ++ [(n, [49])]) (w6.setCell ⟨w1.heap.size, 1, none⟩ (.slice a6 (fs ++ [(n, [49])]).length c6))) := J5.out.put (by omega) (by omega) (by omega) (by omega) (by omega) (by omega) (by omega) q6 r6; clear o6 g6 r6 q6)
          | (go_simp; go_at_call 24; refine (pickInt_any g w3.heap.size 3 [5, 2, 128] _ (by first | exact cursor_alloc cJ _ | exact cursor_below cJ (dA (Below.refl _ _).drew _) | exact cursor_below cJ (dA (Below.refl _ _) _).drew) (by omega) (by first | exact HLC.out | exact (fun i hi => HLC.out i hi)) (by decide) (by decide)).mono ?_; rintro e w5 ⟨n, rfl, -, c5, g5⟩; have J5 : Hid (MI B g w.heap.size w1.heap.size (w1.heap.size + 1) w2.heap.size w kd va vc fs w5) := HJ.out.draw (by omega) (by omega) (by omega) (by omega) ((grown_alloc w3 (.cells #[.int .i64 5, .int .i64 2, .int .i64 128] 3) _).trans ⟨g5.os, g5.tape, g5.output, g5.size, g5.block⟩) c5; have t15 := J5.out.t1; have t15a : ∀ o, (w5.alloc o).cell? ⟨w1.heap.size, 1, none⟩ = some (.slice va fs.length vc) := (fun o => (World.cell?_alloc_lt _ _ ⟨w1.heap.size, 1, none⟩ (Nat.lt_of_lt_of_le hT5 J5.out.sz)).trans t15); clear g5 c5)
          | fail)
        all_goals
          have hlen6 : (fs ++ [(n, ([49] : List UInt8))]).length = fs.length + 1 := by simp
          have J6 := HJ6.out
          have e0 := J6.t0
          have e1 := J6.t1
          have a0 := J6.a0
          have a1 := J6.a1
          have u0 := J6.z0
          have u1 := J6.z1
          have HD : Hid (DrewM B g w (.returned (.agg #[.int .i64 kd, .slice a6 (fs ++ [(n, [49])]).length c6])) (((w6.setCell ⟨w1.heap.size, 1, none⟩ (.slice a6 (fs ++ [(n, [49])]).length c6)).setCell ⟨w.heap.size, 0, none⟩ (.int .i64 kd)).setCell ⟨w.heap.size, 1, none⟩ (.slice a6 (fs ++ [(n, [49])]).length c6))) := J6.done (by omega) (by omega) (by omega) (by omega) (by rw [hlen6]; omega) (mem_snocM HM.out (by simp)) _ _
          have F0 : Hid _ := end0 (v1 := .slice a6 (fs ++ [(n, [49])]).length c6) a0 (.int .i64 kd)
          have F1 : Hid _ := end1 a1 (.int .i64 kd) (.slice a6 (fs ++ [(n, [49])]).length c6)
          rw [hlen6] at e0 e1 a0 a1 u0 u1 HD F0 F1
          clear J6 HJ6
          go_wp2
          have f0 := F0.out
          have f1 := F1.out
          refine bodyPost_ret (by simp [results, Try.results12, go_sem, f0, f1]; try rfl) rfl ?_
          exact HD.out
      · have k1' : (z == 1) = false := by simpa using k1
        have e0 := J.t0
        have e1 := J.t1
        have a0 := J.a0
        have a1 := J.a1
        have u0 := J.z0
        have u1 := J.z1
        have HD : Hid (DrewM B g w (.returned (.agg #[.int .i64 kd, .slice va fs.length vc])) ((w3.setCell ⟨w.heap.size, 0, none⟩ (.int .i64 kd)).setCell ⟨w.heap.size, 1, none⟩ (.slice va fs.length vc))) := J.done (by omega) (by omega) (by omega) (by omega) (by omega) HM.out _ _
        have F0 : Hid _ := end0 (v1 := .slice va fs.length vc) a0 (.int .i64 kd)
        have F1 : Hid _ := end1 a1 (.int .i64 kd) (.slice va fs.length vc)
        clear J
        go_wp2
        have f0 := F0.out
        have f1 := F1.out
        refine bodyPost_ret (by simp [results, Try.results12, go_sem, f0, f1]; try rfl) rfl ?_
        exact HD.out

end Go.Proofs.Ytggaadbcifbdeaa
