/- What Post's law draws: a ledger and an entry; whether two ledgers are the same. -/
import Derived.Test.YtcaepfomhcmfpaaDrawLg
namespace Go.Proofs.Ytcaepfomhcmfpaa
open Go.RowKit
set_option maxRecDepth 100000

theorem lines_grown {u u' : World} {ao : Option Addr} {ls : List Ln} {row : Option Nat} (h : LinesAt u ao ls) (gr : u.grownBy u' row) (hs : ∀ b off, ao = some ⟨b, off, none⟩ → some b ≠ row) : LinesAt u' ao ls := by
  rcases h with h | ⟨b, off, rfl, hb, hc⟩
  · exact .inl h
  · have hne := hs b off rfl
    refine .inr ⟨b, off, rfl, Nat.lt_of_lt_of_le hb gr.size, fun i hi => ?_⟩
    obtain ⟨x1, x2, x3⟩ := hc i hi
    exact ⟨(gr.cell_far ⟨b, off + i * 3, none⟩ hb hne).trans x1, (gr.cell_far ⟨b, off + i * 3 + 1, none⟩ hb hne).trans x2, (gr.cell_far ⟨b, off + i * 3 + 2, none⟩ hb hne).trans x3⟩
def PoD (w : World) (e : Ending) (w' : World) : Prop :=
  ∃ ao k ls a b c m, e = .returned (.tuple #[.agg #[.slice ao (List.length ls) k], .agg #[.int .i64 a, .int .i64 b, .int .i64 c, .int .i64 m]]) ∧ LnD ls ∧ EnSm (a, b, c, m) ∧ LinesAt w' ao ls ∧ Below w.heap.size w w'

set_option maxHeartbeats 3200000 in
theorem drawPost_any (a : Option Addr) (len cap : Nat) (zs : List Int) (w : World) (hr : IsRow .u8 w a len cap zs) (hn : len ≤ 1048576) : Calls Try.prog 12 #[.slice a len cap] w (PoD w) := by
  obtain ⟨W, hW⟩ : ∃ W, W = (w.alloc (.cells #[.slice none 0 0] 26)).alloc (.cells #[.int .i64 0, .int .i64 0, .int .i64 0, .int .i64 0] 28) := ⟨_, rfl⟩
  have bW : Below w.heap.size w W := by rw [hW]; go_grown
  have hWs : W.heap.size = w.heap.size + 2 := by rw [hW]; simp
  have k0 : W.cell? ⟨w.heap.size, 0, none⟩ = some (.slice none 0 0) := by rw [hW]; simp [go_sem]
  have kf : W.frozen? ⟨w.heap.size, 0, none⟩ = false := by rw [hW]; simp [go_sem]
  have QW : Q4 (w.heap.size + 1) 0 0 0 0 W := by rw [hW]; have := q4_new (w.alloc (.cells #[.slice none 0 0] 26)) 0 0 0 0 28; simpa using this
  have hr1 := row_below hr bW
  have HBW : Hid (Below w.heap.size w W) := bW
  have HK0 : Hid _ := k0
  have HKF : Hid _ := kf
  have HQW : Hid (Q4 (w.heap.size + 1) 0 0 0 0 W) := QW
  have HWS : Hid (W.heap.size = w.heap.size + 2) := hWs
  clear bW k0 kf QW hWs
  go_enter Try.func12, Try.ntmps12
  go_upto_region 1 with fail
  rw [← hW]
  clear hW
  go_wp2_with fail
  refine (new_any _ _ _ _ _ hr1 hn).mono ?_
  rintro e w1 ⟨rfl, c1, b1⟩
  have HC1 : Hid (Cursor (W.heap.size + 1) w1 W.heap.size) := c1
  have HB1 : Hid (Below W.heap.size W w1) := b1
  have h1s : W.heap.size + 1 ≤ w1.heap.size := (cursor_bd c1).2
  clear c1 b1 hr1
  go_wp2_with fail
  refine (ledgerD_any _ _ HC1.out).mono ?_
  rintro e w2 ⟨ao, k, ls, rfl, hd, hl, hbl, c2, g2⟩
  obtain ⟨V, hV⟩ : ∃ V, V = w2.alloc (.cells #[.slice ao ls.length k] 26) := ⟨_, rfl⟩
  have gA := grown_alloc w2 (.cells #[.slice ao ls.length k] 26) (some W.heap.size)
  rw [← hV] at gA
  have g2' := g2.trans gA
  have x5 : V.cell? ⟨w2.heap.size, 0, none⟩ = some (.slice ao ls.length k) := by rw [hV]; simp
  have HX5 : Hid (V.cell? ⟨w2.heap.size, 0, none⟩ = some (.slice ao ls.length k)) := x5
  have hs2 := g2.size
  have hws := HWS.out
  have HLV : Hid (LinesAt V ao ls) := lines_grown hl gA (fun b off e h => by have := hbl b off e; cases h; omega)
  have HCV : Hid (Cursor (W.heap.size + 1) V W.heap.size) := by rw [Hid, hV]; exact cursor_alloc c2 _
  have q1 : Below w.heap.size w w1 := next HBW.out HB1.out
  have HGV : Hid (Below w.heap.size w V) := q1.grown g2' q1.size (fun j hj => by cases hj; omega)
  have HKV : Hid (V.cell? ⟨w.heap.size, 0, none⟩ = some (.slice none 0 0) ∧ V.frozen? ⟨w.heap.size, 0, none⟩ = false) := ⟨(g2'.cell_far ⟨w.heap.size, 0, none⟩ (by show w.heap.size < w1.heap.size; omega) (by simp; omega)).trans ((HB1.out.cell (p := ⟨w.heap.size, 0, none⟩) (by show w.heap.size < W.heap.size; omega)).trans HK0.out), (g2'.frozen_far ⟨w.heap.size, 0, none⟩ (by show w.heap.size < w1.heap.size; omega) (by simp; omega)).trans ((HB1.out.frozen (p := ⟨w.heap.size, 0, none⟩) (by show w.heap.size < W.heap.size; omega)).trans HKF.out)⟩
  have HQV : Hid (Q4 (w.heap.size + 1) 0 0 0 0 V) := (HQW.out.grown (grown_below HB1.out none) (by simp)).grown g2' (by simp; omega)
  have HBL : Hid (∀ b off, ao = some ⟨b, off, none⟩ → w1.heap.size < b) := hbl
  have HD : Hid (LnD ls) := hd
  have HB5 : Hid (w1.heap.size ≤ w2.heap.size) := hs2
  have HH1 : Hid (W.heap.size + 1 ≤ w1.heap.size) := h1s
  have HX5d : Hid (V.drew.cell? ⟨w2.heap.size, 0, none⟩ = some (.slice ao ls.length k)) := x5
  have HN0 : Hid (w.heap.size ≠ w2.heap.size) := by rw [Hid]; omega
  have HN1 : Hid (w.heap.size + 1 ≠ w2.heap.size) := by rw [Hid]; omega
  clear g2 gA g2' hl hbl c2 q1 hd hs2 hws h1s HC1 HB1
  go_upto_region 3 with fail
  rw [← hV]
  clear hV
  go_region_held3 (fun u => u.cell? ⟨w2.heap.size, 0, none⟩ = some (.slice ao ls.length k)) (repeat' (first | with_reducible exact HX5d.out | with_reducible exact x5 | with_reducible exact HX6.out | with_reducible refine setD_other (fun h => absurd h HN0.out) ?_ | with_reducible refine setD_other (fun h => absurd h HN1.out) ?_)) ((go_at_call 42; refine (entryD_any _ _ (cursor_below HCV.out ((Below.refl _ _).drew))).mono ?_; rintro e w3 ⟨ea, eb, ec, em, rfl, hsm, c3, g3'⟩; have g3 : V.grownBy w3 (some W.heap.size) := ⟨g3'.os, g3'.tape, g3'.output, g3'.size, g3'.block⟩; have HX6 : Hid (w3.cell? ⟨w2.heap.size, 0, none⟩ = some (.slice ao ls.length k)) := (g3.cell_far ⟨w2.heap.size, 0, none⟩ (World.block_lt_of_cell? V _ HX5.out) (by have := HB5.out; have := HH1.out; simp; omega)).trans HX5.out; have k3 := (g3.cell_far ⟨w.heap.size, 0, none⟩ (World.block_lt_of_cell? V _ HKV.out.1) (by have := HWS.out; simp; omega)).trans HKV.out.1; have kf3 := (g3.frozen_far ⟨w.heap.size, 0, none⟩ (World.block_lt_of_cell? V _ HKV.out.1) (by have := HWS.out; simp; omega)).trans HKV.out.2; have Q3 := HQV.out.grown g3 (by have := HWS.out; simp; omega); obtain ⟨y0, y1, y2, y3, z0, z1, z2, z3⟩ := Q3))
  all_goals
    have hws := HWS.out
    have hh1 := HH1.out
    have lb : ∀ b off, ao = some ⟨b, off, none⟩ → W.heap.size + 1 < b := fun b off e => by have := HBL.out b off e; omega
    have L3 := lines_grown HLV.out g3 (fun b off e h => by have := lb b off e; cases h; omega)
    have ls0 : ∀ (u : World) (s j : Nat) (v : Value), s ≤ w.heap.size + 1 → LinesAt u ao ls → LinesAt (u.setCell ⟨s, j, none⟩ v) ao ls := fun u s j v hs h => lines_grown h (grown_set u s j v) (fun b off e h => by have := lb b off e; cases h; omega)
    have HLF : Hid _ := ls0 _ (w.heap.size + 1) 3 (.int .i64 em) (Nat.le_refl _) (ls0 _ (w.heap.size + 1) 2 (.int .i64 ec) (Nat.le_refl _) (ls0 _ (w.heap.size + 1) 1 (.int .i64 eb) (Nat.le_refl _) (ls0 _ (w.heap.size + 1) 0 (.int .i64 ea) (Nat.le_refl _) (ls0 _ w.heap.size 0 (.slice ao ls.length k) (by omega) L3))))
    have B3 : Below w.heap.size w w3 := HGV.out.grown g3 HGV.out.size (fun j hj => by cases hj; omega)
    have bs : ∀ (u : World) (s j : Nat) (v : Value), w.heap.size ≤ s → Below w.heap.size w u → Below w.heap.size w (u.setCell ⟨s, j, none⟩ v) := fun u s j v hs h => h.setCell hs v
    have HBF : Hid _ := bs _ (w.heap.size + 1) 3 (.int .i64 em) (by omega) (bs _ (w.heap.size + 1) 2 (.int .i64 ec) (by omega) (bs _ (w.heap.size + 1) 1 (.int .i64 eb) (by omega) (bs _ (w.heap.size + 1) 0 (.int .i64 ea) (by omega) (bs _ w.heap.size 0 (.slice ao ls.length k) (by omega) B3))))
    clear g3 g3' c3 L3 ls0 bs B3 lb hws hh1 x5
    go_wp2
    refine bodyPost_ret (by simp [results, Try.results12, go_sem, k3, y0, y1, y2, y3]; try rfl) rfl ?_
    exact ⟨ao, k, ls, ea, eb, ec, em, rfl, HD.out, hsm, HLF.out, HBF.out⟩

set_option maxHeartbeats 1600000 in
theorem sameLedger_same (ao bo : Option Addr) (c1 c2 : Nat) (ls : List Ln) (w : World) (hx : LinesAt w ao ls) (hy : LinesAt w bo ls) (h1 : ls.length ≤ 1099511627776) :
    Calls Try.prog 15 #[.agg #[.slice ao ls.length c1], .agg #[.slice bo ls.length c2]] w fun e w' => e = .returned (.bool true) ∧ Below w.heap.size w w' := by
  obtain ⟨W, hW⟩ : ∃ W, W = (w.alloc (.cells #[.slice ao ls.length c1] 26)).alloc (.cells #[.slice bo ls.length c2] 26) := ⟨_, rfl⟩
  have bW : Below w.heap.size w W := by rw [hW]; go_grown
  have hWs : W.heap.size = w.heap.size + 2 := by rw [hW]; simp
  have k0 : W.cell? ⟨w.heap.size, 0, none⟩ = some (.slice ao ls.length c1) := by rw [hW]; simp [go_sem]
  have k1 : W.cell? ⟨w.heap.size + 1, 0, none⟩ = some (.slice bo ls.length c2) := by rw [hW]; simp [go_sem]
  have HX : Hid (LinesAt W ao ls) := hx.below bW
  have HY : Hid (LinesAt W bo ls) := hy.below bW
  have HBW : Hid (Below w.heap.size w W) := bW
  have HK0 : Hid (W.cell? ⟨w.heap.size, 0, none⟩ = some (.slice ao ls.length c1)) := k0
  have HK1 : Hid (W.cell? ⟨w.heap.size + 1, 0, none⟩ = some (.slice bo ls.length c2)) := k1
  have HWS : Hid _ := hWs
  clear hx hy bW hWs
  go_enter Try.func15, Try.ntmps15
  go_wp2
  rw [← hW]
  clear hW k0 k1
  go_loopw [5] (fun i wr => ∃ k : Nat, k ≤ ls.length ∧ i = .int .i64 k ∧ Below W.heap.size W wr) (fun i _ => ls.length - (intOf i).toNat)
  case atStart => exact ⟨0, Nat.zero_le _, rfl, Below.refl _ _⟩
  case round =>
    obtain ⟨k, hk, rfl, hbr⟩ := hrel
    have k0 := (hbr.cell (p := ⟨w.heap.size, 0, none⟩) (by have := HWS.out; show w.heap.size < W.heap.size; omega)).trans HK0.out
    have k1 := (hbr.cell (p := ⟨w.heap.size + 1, 0, none⟩) (by have := HWS.out; show w.heap.size + 1 < W.heap.size; omega)).trans HK1.out
    by_cases hlt : k < ls.length
    · obtain ⟨b, off, rfl, hb, e1, e2, e3⟩ := (HX.out.below hbr).at hlt
      obtain ⟨b', off', rfl, hb', e4, e5, e6⟩ := (HY.out.below hbr).at hlt
      have hki : (k : Int) < (ls.length : Int) := by omega
      obtain ⟨⟨x, y, z⟩, hxk⟩ : ∃ x, lnAt ls k = x := ⟨_, rfl⟩
      rw [hxk] at e1 e2 e3 e4 e5 e6
      simp only at e1 e2 e3 e4 e5 e6
      clear hxk
      go_wp2
      go_region
      all_goals
        go_wp2
        go_roundw
        case rel => exact ⟨k + 1, by omega, by go_num, hbr.drew⟩
        case measure => simp [intOf]; omega
    · go_wp2
      go_ret
      exact ⟨rfl, next HBW.out hbr⟩

end Go.Proofs.Ytcaepfomhcmfpaa
