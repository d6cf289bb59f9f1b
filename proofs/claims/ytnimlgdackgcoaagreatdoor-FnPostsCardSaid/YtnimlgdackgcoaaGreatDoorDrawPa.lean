/- What PostAll's law draws: a ledger and a list of entries. -/
import Derived.Test.YtnimlgdackgcoaaGreatDoorDrawPo
import Derived.Test.YtnimlgdackgcoaaGreatDoorDrawEs
namespace Go.Proofs.YtnimlgdackgcoaaGreatDoor
open Go.RowKit
set_option maxRecDepth 100000

theorem ents_set {u : World} {ao : Option Addr} {es : List En} {s j : Nat} {v : Value} (h : EntsAt u ao es) (hs : ∀ b off, ao = some ⟨b, off, none⟩ → b ≠ s) : EntsAt (u.setCell ⟨s, j, none⟩ v) ao es := by
  rcases h with h | ⟨b, off, rfl, hb, hc⟩
  · exact .inl h
  · have gr := grown_set u s j v
    have hne : some b ≠ some s := fun e => hs b off rfl (by injection e)
    refine .inr ⟨b, off, rfl, Nat.lt_of_lt_of_le hb gr.size, fun i hi => ?_⟩
    obtain ⟨x1, x2, x3, x4⟩ := hc i hi
    exact ⟨(gr.cell_far ⟨b, off + i * 4, none⟩ hb hne).trans x1, (gr.cell_far ⟨b, off + i * 4 + 1, none⟩ hb hne).trans x2, (gr.cell_far ⟨b, off + i * 4 + 2, none⟩ hb hne).trans x3, (gr.cell_far ⟨b, off + i * 4 + 3, none⟩ hb hne).trans x4⟩
def PaD (w : World) (e : Ending) (w' : World) : Prop :=
  ∃ ao k ls bo j es, e = .returned (.tuple #[.agg #[.slice ao (List.length ls) k], .slice bo (List.length es) j]) ∧ LnD ls ∧ EsSm es ∧ LinesAt w' ao ls ∧ EntsAt w' bo es ∧ Below w.heap.size w w'

set_option maxHeartbeats 3200000 in
theorem drawPostAll_any (a : Option Addr) (len cap : Nat) (zs : List Int) (w : World) (hr : IsRow .u8 w a len cap zs) (hn : len ≤ 1048576) : Calls Tryz.prog 5 #[.slice a len cap] w (PaD w) := by
  obtain ⟨W, hW⟩ : ∃ W, W = w.alloc (.cells #[.slice none 0 0] 26) := ⟨_, rfl⟩
  have bW : Below w.heap.size w W := by rw [hW]; go_grown
  have hWs : W.heap.size = w.heap.size + 1 := by rw [hW]; simp
  have k0 : W.cell? ⟨w.heap.size, 0, none⟩ = some (.slice none 0 0) := by rw [hW]; simp [go_sem]
  have kf : W.frozen? ⟨w.heap.size, 0, none⟩ = false := by rw [hW]; simp [go_sem]
  have hr1 := row_below hr bW
  have HBW : Hid (Below w.heap.size w W) := bW
  have HK0 : Hid _ := k0
  have HKF : Hid _ := kf
  have HWS : Hid (W.heap.size = w.heap.size + 1) := hWs
  clear bW k0 kf hWs
  go_enter Tryz.func5, Tryz.ntmps5
  go_upto_region 1 with fail
  rw [← hW]
  clear hW
  go_wp2_with fail
  refine (new_any _ _ _ _ _ hr1 hn).mono ?_
  rintro e w1 ⟨rfl, c1, b1⟩
  have HC1 : Hid (Cursor (W.heap.size + 1) w1 W.heap.size) := c1
  have HB1 : Hid (Below W.heap.size W w1) := b1
  have h1s : W.heap.size + 1 ≤ w1.heap.size := (cursor_bd c1).2
  clear c1 b1 hr1
  go_wp2_with fail
  refine (ledgerD_any _ _ HC1.out).mono ?_
  rintro e w2 ⟨ao, k, ls, rfl, hd, hl, hbl, c2, g2⟩
  obtain ⟨V, hV⟩ : ∃ V, V = w2.alloc (.cells #[.slice ao ls.length k] 26) := ⟨_, rfl⟩
  have gA := grown_alloc w2 (.cells #[.slice ao ls.length k] 26) (some W.heap.size)
  rw [← hV] at gA
  have g2' := g2.trans gA
  have x5 : V.cell? ⟨w2.heap.size, 0, none⟩ = some (.slice ao ls.length k) := by rw [hV]; simp
  have HX5 : Hid (V.cell? ⟨w2.heap.size, 0, none⟩ = some (.slice ao ls.length k)) := x5
  have hs2 := g2.size
  have hws := HWS.out
  have HLV : Hid (LinesAt V ao ls) := lines_grown hl gA (fun b off e h => by have := hbl b off e; cases h; omega)
  have HCV : Hid (Cursor (W.heap.size + 1) V W.heap.size) := by rw [Hid, hV]; exact cursor_alloc c2 _
  have q1 : Below w.heap.size w w1 := next HBW.out HB1.out
  have HGV : Hid (Below w.heap.size w V) := q1.grown g2' q1.size (fun j hj => by cases hj; omega)
  have HKV : Hid (V.cell? ⟨w.heap.size, 0, none⟩ = some (.slice none 0 0) ∧ V.frozen? ⟨w.heap.size, 0, none⟩ = false) := ⟨(g2'.cell_far ⟨w.heap.size, 0, none⟩ (by show w.heap.size < w1.heap.size; omega) (by simp; omega)).trans ((HB1.out.cell (p := ⟨w.heap.size, 0, none⟩) (by show w.heap.size < W.heap.size; omega)).trans HK0.out), (g2'.frozen_far ⟨w.heap.size, 0, none⟩ (by show w.heap.size < w1.heap.size; omega) (by simp; omega)).trans ((HB1.out.frozen (p := ⟨w.heap.size, 0, none⟩) (by show w.heap.size < W.heap.size; omega)).trans HKF.out)⟩
  have HBL : Hid (∀ b off, ao = some ⟨b, off, none⟩ → w1.heap.size < b) := hbl
  have HD : Hid (LnD ls) := hd
  have HB5 : Hid (w1.heap.size ≤ w2.heap.size) := hs2
  have HH1 : Hid (W.heap.size + 1 ≤ w1.heap.size) := h1s
  have HX5d : Hid (V.drew.cell? ⟨w2.heap.size, 0, none⟩ = some (.slice ao ls.length k)) := x5
  have HN0 : Hid (w.heap.size ≠ w2.heap.size) := by rw [Hid]; omega
  clear g2 gA g2' hl hbl c2 q1 hd hs2 hws h1s HC1 HB1
  go_upto_region 3 with fail
  rw [← hV]
  clear hV
  go_region_held3 (fun u => u.cell? ⟨w2.heap.size, 0, none⟩ = some (.slice ao ls.length k)) (repeat' (first | with_reducible exact HX5d.out | with_reducible exact x5 | with_reducible exact HX6.out | with_reducible refine setD_other (fun h => absurd h HN0.out) ?_)) ((go_at_call 19; refine (entriesD_any _ _ (cursor_below HCV.out ((Below.refl _ _).drew))).mono ?_; rintro e w3 ⟨bo, j, es, rfl, hsm, he3, hbo, c3, g3'⟩; have g3 : V.grownBy w3 (some W.heap.size) := ⟨g3'.os, g3'.tape, g3'.output, g3'.size, g3'.block⟩; have HX6 : Hid (w3.cell? ⟨w2.heap.size, 0, none⟩ = some (.slice ao ls.length k)) := (g3.cell_far ⟨w2.heap.size, 0, none⟩ (World.block_lt_of_cell? V _ HX5.out) (by have := HB5.out; have := HH1.out; simp; omega)).trans HX5.out; have k3 := (g3.cell_far ⟨w.heap.size, 0, none⟩ (World.block_lt_of_cell? V _ HKV.out.1) (by have := HWS.out; simp; omega)).trans HKV.out.1; have kf3 := (g3.frozen_far ⟨w.heap.size, 0, none⟩ (World.block_lt_of_cell? V _ HKV.out.1) (by have := HWS.out; simp; omega)).trans HKV.out.2))
  all_goals
    have hws := HWS.out
    have hh1 := HH1.out
    have hvs := World.block_lt_of_cell? V _ HKV.out.1
    have lb : ∀ b off, ao = some ⟨b, off, none⟩ → W.heap.size + 1 < b := fun b off e => by have := HBL.out b off e; omega
    have L3 := lines_grown HLV.out g3 (fun b off e h => by have := lb b off e; cases h; omega)
    have HLF : Hid (LinesAt (w3.setCell ⟨w.heap.size, 0, none⟩ (.slice ao ls.length k)) ao ls) := lines_grown L3 (grown_set w3 w.heap.size 0 _) (fun b off e h => by have := lb b off e; cases h; omega)
    have HEF : Hid (EntsAt (w3.setCell ⟨w.heap.size, 0, none⟩ (.slice ao ls.length k)) bo es) := ents_set he3 (fun b off e h => by have h1 : V.heap.size ≤ b := hbo b off e; have h2 : w.heap.size < V.heap.size := hvs; omega)
    have B3 : Below w.heap.size w w3 := HGV.out.grown g3 HGV.out.size (fun j hj => by cases hj; omega)
    have HBF : Hid (Below w.heap.size w (w3.setCell ⟨w.heap.size, 0, none⟩ (.slice ao ls.length k))) := B3.setCell (Nat.le_refl _) _
    have HSM : Hid (EsSm es) := hsm
    clear g3 g3' c3 L3 B3 lb hws hh1 hvs x5 he3 hbo hsm
    go_wp2
    refine bodyPost_ret (by simp [results, Tryz.results5, go_sem, k3]; try rfl) rfl ?_
    exact ⟨ao, k, ls, bo, j, es, rfl, HD.out, HSM.out, HLF.out, HEF.out, HBF.out⟩

end Go.Proofs.YtnimlgdackgcoaaGreatDoor
