/- A drawn ledger, and what Post's law draws. -/
import Derived.Test.YtnimlgdackgcoaaGreatDoorDrawEn
import Derived.Test.YtnimlgdackgcoaaGreatDoorPAllB
namespace Go.Proofs.YtnimlgdackgcoaaGreatDoor
open Go.RowKit
set_option maxRecDepth 100000

/-- the boxes of a ledger that is drawn -/
structure LG (s : Nat) (cur : List Ln) (a2 : Option Addr) (k2 : Nat) (u : World) : Prop where
  r0 : u.cell? ⟨s, 0, none⟩ = some (.slice none 0 0)
  rf : u.frozen? ⟨s, 0, none⟩ = false
  c1 : u.cell? ⟨s + 1, 0, none⟩ = some (.slice a2 cur.length k2)
  f1 : u.frozen? ⟨s + 1, 0, none⟩ = false
  own : u.ownsRow (s + 2) 49 3 (.slice a2 cur.length k2) cur.length (lcells cur)
theorem LG.grown {s : Nat} {cur : List Ln} {a2 : Option Addr} {k2 g : Nat} {u u' : World} (h : LG s cur a2 k2 u) (gr : u.grownBy u' (some g)) (hg : g < s) : LG s cur a2 k2 u' := by
  have h0 : s < u.heap.size := World.block_lt_of_cell? u _ h.r0
  have h1 : s + 1 < u.heap.size := World.block_lt_of_cell? u _ h.c1
  exact ⟨(gr.cell_far ⟨s, 0, none⟩ h0 (by simp; omega)).trans h.r0, (gr.frozen_far ⟨s, 0, none⟩ h0 (by simp; omega)).trans h.rf, (gr.cell_far ⟨s + 1, 0, none⟩ h1 (by simp; omega)).trans h.c1, (gr.frozen_far ⟨s + 1, 0, none⟩ h1 (by simp; omega)).trans h.f1,
    keepG h.own gr (fun x hx e => by have := (h.own.lt x hx).1; cases e; omega)⟩
theorem LG.put {s base : Nat} {cur nx : List Ln} {a2 a3 : Option Addr} {k2 k3 : Nat} {u : World} (h : LG s cur a2 k2 u) (o : u.ownsRow base 49 3 (.slice a3 nx.length k3) nx.length (lcells nx)) (hb : s + 2 ≤ base) : LG s nx a3 k3 (u.setCell ⟨s + 1, 0, none⟩ (.slice a3 nx.length k3)) := by
  refine ⟨?_, by simp [go_sem, h.rf], by simp [go_sem, h.c1], by simp [go_sem, h.f1], lowerL (keepSetL o _ _ (fun g hg => by have := (o.lt g hg).1; simp only; omega)) hb⟩
  rw [World.cell?_setCell_far _ _ _ _ (by simp)]; exact h.r0
/-- lines that were drawn -/
def LnD (ls : List Ln) : Prop := ls.length ≤ 500 ∧ ∀ x ∈ ls, lnBd x
def LgD (B g : Nat) (w : World) (e : Ending) (w' : World) : Prop :=
  ∃ ao cap ls, e = .returned (.agg #[.slice ao (List.length ls) cap]) ∧ LnD ls ∧ LinesAt w' ao ls ∧ (∀ b off, ao = some ⟨b, off, none⟩ → w.heap.size < b) ∧ Cursor B w' g ∧ w.grownBy w' (some g)
theorem lg_end {B g : Nat} {w u : World} {cur : List Ln} {a2 : Option Addr} {k2 : Nat} (h : LinesAt u a2 cur) (hs : ∀ b off, a2 = some ⟨b, off, none⟩ → w.heap.size < b) (hd : LnD cur) (hc : Cursor B u g) (hg : w.grownBy u (some g)) (hB : B ≤ w.heap.size) :
    LgD B g w (.returned (.agg #[.slice a2 cur.length k2])) (u.setCell ⟨w.heap.size, 0, none⟩ (.slice a2 cur.length k2)) := by
  refine ⟨a2, k2, cur, rfl, hd, ?_, hs, cur_set hc hB, set_new hg (Nat.le_refl _)⟩
  rcases h with h | ⟨b, off, rfl, hb, hcell⟩
  · exact .inl h
  · have hne := hs b off rfl
    refine .inr ⟨b, off, rfl, by simpa using hb, fun i hi => ?_⟩
    obtain ⟨x1, x2, x3⟩ := hcell i hi
    exact ⟨(World.cell?_setCell_far _ _ _ _ (by simp; omega)).trans x1, (World.cell?_setCell_far _ _ _ _ (by simp; omega)).trans x2, (World.cell?_setCell_far _ _ _ _ (by simp; omega)).trans x3⟩

/-- a world on the way through a region in which is drawn -/
structure ZC (W u : World) (ob : Option Nat) (B g : Nat) : Prop where
  gr : W.grownBy u (some g)
  cu : Cursor B u g
  box : ∀ b, ob = some b → W.heap.size ≤ b ∧ b < u.heap.size ∧ u.cell? ⟨b, 0, none⟩ = some (.slice none 0 0) ∧ u.frozen? ⟨b, 0, none⟩ = false
theorem ZC.start {W : World} {B g : Nat} (h : Cursor B W g) : ZC W W none B g := ⟨World.grownBy.refl _ _, h, fun b hb => by cases hb⟩
theorem ZC.step {W u u' : World} {ob : Option Nat} {B g : Nat} (z : ZC W u ob B g) (gr : u.grownBy u' (some g)) (hc : Cursor B u' g) (hg : g < W.heap.size) : ZC W u' ob B g :=
  ⟨z.gr.trans gr, hc, fun b hb => by
    obtain ⟨h1, h2, h3, h4⟩ := z.box b hb
    exact ⟨h1, Nat.lt_of_lt_of_le h2 gr.size, (gr.cell_far ⟨b, 0, none⟩ h2 (by simp; omega)).trans h3, (gr.frozen_far ⟨b, 0, none⟩ h2 (by simp; omega)).trans h4⟩⟩
theorem grown_below {u u' : World} (b : Below u.heap.size u u') (row : Option Nat) : u.grownBy u' row := ⟨b.os, b.tape, b.output, b.size, fun i hi _ => b.block i hi⟩
theorem ZC.lt {W u : World} {ob : Option Nat} {B g : Nat} (z : ZC W u ob B g) (hB : B ≤ W.heap.size) : g < W.heap.size := by have := (cursor_bd z.cu).1; omega
theorem ZC.drew {W u : World} {ob : Option Nat} {B g : Nat} (z : ZC W u ob B g) : ZC W u.drew ob B g := ⟨⟨z.gr.os, z.gr.tape, z.gr.output, z.gr.size, z.gr.block⟩, cursor_below z.cu ((Below.refl _ _).drew), z.box⟩
theorem ZC.al {W u : World} {B g : Nat} (z : ZC W u none B g) (t : TypeId) : ZC W (u.alloc (.cells #[.slice none 0 0] t)) (some u.heap.size) B g :=
  ⟨z.gr.trans (grown_alloc u _ _), cursor_alloc z.cu _, fun b hb => by injection hb with hb; subst hb; exact ⟨z.gr.size, by simp, by simp, by simp [go_sem]⟩⟩
theorem zEn {W u : World} {ob : Option Nat} {B g : Nat} (z : ZC W u ob B g) : Calls Tryz.prog 41 #[.pointer (some ⟨g, 0, none⟩)] u fun e u' => ∃ a b c m, e = .returned (.agg #[.int .i64 a, .int .i64 b, .int .i64 c, .int .i64 m]) ∧ EnSm (a, b, c, m) ∧ (g < W.heap.size → ZC W u' ob B g) :=
  (entryD_any g u z.cu).mono fun _ _ ⟨a, b, c, m, he, hs, hc, hg⟩ => ⟨a, b, c, m, he, hs, fun h => z.step hg hc h⟩
def PostG (W u : World) (ob : Option Nat) (B g : Nat) (L : List Ln) (ok : Bool) (e : Ending) (u' : World) : Prop :=
  ∃ ao cap, e = .returned (.tuple #[.agg #[.slice ao L.length cap], .bool ok]) ∧ u'.ownsRow u.heap.size 49 3 (.slice ao L.length cap) L.length (lcells L) ∧ ZC W u ob B g ∧ (g < W.heap.size → ZC W u' ob B g)
theorem zPostG {W u : World} {ob : Option Nat} {B g : Nat} {f : FuncId} {args : Array Value} {L : List Ln} {ok : Bool} (z : ZC W u ob B g) (h : Calls Tryz.prog f args u (PostR u L ok)) : Calls Tryz.prog f args u (PostG W u ob B g L ok) :=
  h.mono fun _ _ ⟨ao, cap, he, ho, hb⟩ => ⟨ao, cap, he, ho, z, fun h => z.step (grown_below hb _) (cursor_below z.cu hb) h⟩
/-- the drawn ledger in its box -/
def BX (W : World) (B g : Nat) (L : List Ln) (b : Nat) (ao : Option Addr) (cap : Nat) (u : World) : Prop :=
  u.cell? ⟨b, 0, none⟩ = some (.slice ao L.length cap) ∧ u.ownsRow W.heap.size 49 3 (.slice ao L.length cap) L.length (lcells L) ∧ Cursor B u g ∧ W.grownBy u (some g)
theorem bx_new {W u u0 : World} {ob : Option Nat} {B g : Nat} {L : List Ln} {ao : Option Addr} {cap : Nat} {t : TypeId} (o : u.ownsRow u0.heap.size 49 3 (.slice ao L.length cap) L.length (lcells L)) (z0 : ZC W u0 ob B g) (z : ZC W u none B g) : BX W B g L u.heap.size ao cap (u.alloc (.cells #[.slice ao L.length cap] t)) :=
  ⟨by simp, lowerL (keepL o (by go_grown)) z0.gr.size, cursor_alloc z.cu _, z.gr.trans (grown_alloc u _ _)⟩
theorem bx_set {W u u0 : World} {b B g : Nat} {L : List Ln} {ao : Option Addr} {cap : Nat} (o : u.ownsRow u0.heap.size 49 3 (.slice ao L.length cap) L.length (lcells L)) (z0 : ZC W u0 (some b) B g) (z : ZC W u (some b) B g) (hB : B ≤ W.heap.size) : BX W B g L b ao cap (u.setCell ⟨b, 0, none⟩ (.slice ao L.length cap)) := by
  obtain ⟨h1, h2, _, _⟩ := z0.box b rfl
  obtain ⟨_, _, h3, _⟩ := z.box b rfl
  exact ⟨by simp [go_sem, h3], lowerL (keepSetL o _ _ (fun x hx => by have := (o.lt x hx).1; simp only; omega)) z0.gr.size, cur_set z.cu (by omega), set_new z.gr h1⟩
theorem post_lnD {cur : List Ln} {e : En} (h : LnD cur) : LnD (postL cur e) := by
  cases hp : postOk cur e
  · rw [postL_no hp]; exact h
  · obtain ⟨h1, h2⟩ := posted_ok hp
    rw [h1]
    exact ⟨by have := (ledgerOk_parts h2).2.1; omega, bd_of_ok h2⟩
def LnM (ls : List Ln) : Prop := ls.length ≤ 400 ∧ ∀ x ∈ ls, lnBd x
theorem post_lnM {cur : List Ln} {e : En} (h : LnM cur) : LnM (postL cur e) := by
  cases hp : postOk cur e
  · rw [postL_no hp]; exact h
  · obtain ⟨h1, h2⟩ := posted_ok hp
    rw [h1]
    exact ⟨(ledgerOk_parts h2).2.1, bd_of_ok h2⟩
theorem bd_snoc {ls ms : List Ln} (h : LnM ls) (hm : ms.length ≤ 2) (hb : ∀ x ∈ ms, lnBd x) : LnD (ls ++ ms) := by
  refine ⟨by have := h.1; simp; omega, fun x hx => ?_⟩
  rcases List.mem_append.1 hx with h1 | h1
  · exact h.2 x h1
  · exact hb x h1

theorem LG.app {s : Nat} {cur nx : List Ln} {a2 a5 : Option Addr} {k2 k5 : Nat} {u u' : World} (h : LG s cur a2 k2 u) (gr : u.grownBy u' (Value.slice a2 cur.length k2).ownBlock) (o : u'.ownsRow (s + 2) 49 3 (.slice a5 nx.length k5) nx.length (lcells nx)) : LG s nx a5 k5 (u'.setCell ⟨s + 1, 0, none⟩ (.slice a5 nx.length k5)) := by
  have h0 : s < u.heap.size := World.block_lt_of_cell? u _ h.r0
  have h1 : s + 1 < u.heap.size := World.block_lt_of_cell? u _ h.c1
  have n0 : some s ≠ (Value.slice a2 cur.length k2).ownBlock := fun e => by have := (h.own.lt _ e.symm).1; omega
  have n1 : some (s + 1) ≠ (Value.slice a2 cur.length k2).ownBlock := fun e => by have := (h.own.lt _ e.symm).1; omega
  have d1 := (gr.cell_far ⟨s + 1, 0, none⟩ h1 n1).trans h.c1
  have e1 := (gr.frozen_far ⟨s + 1, 0, none⟩ h1 n1).trans h.f1
  have e0 := (gr.frozen_far ⟨s, 0, none⟩ h0 n0).trans h.rf
  refine ⟨?_, by simp [go_sem, e0], by simp [go_sem, d1], by simp [go_sem, e1], keepSetL o _ _ (fun g hg => by have := (o.lt g hg).1; simp only; omega)⟩
  rw [World.cell?_setCell_far _ _ _ _ (by simp)]; exact (gr.cell_far ⟨s, 0, none⟩ h0 n0).trans h.r0
theorem curL_app {B g : Nat} {u u' : World} {row : Option Nat} (c : Cursor B u g) (gr : u.grownBy u' row) (h : ∀ j, row = some j → B ≤ j) : Cursor B u' g :=
  cursor_keep c ((Below.refl _ _).grown gr (cursor_bd c).2 h)
theorem grownL_new {w u u' : World} {g : Nat} {row : Option Nat} (h : w.grownBy u (some g)) (h2 : u.grownBy u' row) (hr : ∀ j, row = some j → w.heap.size ≤ j) : w.grownBy u' (some g) :=
  h.andThen h2 (fun j hj => .inl (hr j hj))
theorem lg_fin {B g : Nat} {w u : World} {cur : List Ln} {a2 : Option Addr} {k2 : Nat} (h : LG w.heap.size cur a2 k2 u) (hd : LnD cur) (hc : Cursor B u g) (hg : w.grownBy u (some g)) (hB : B ≤ w.heap.size) :
    LgD B g w (.returned (.agg #[.slice a2 cur.length k2])) (u.setCell ⟨w.heap.size, 0, none⟩ (.slice a2 cur.length k2)) :=
  lg_end (lines_any h.own) (fun b off e => by
    rcases h.own.2 with ⟨e0, _⟩ | ⟨x, cap, _, e0, hx, _⟩
    · injection e0 with e1; rw [e1] at e; cases e
    · injection e0 with e1; rw [e1] at e; cases e; omega) hd hc hg hB
theorem two3 (x y z a b c : Int) : ∀ u ∈ [Value.int .i64 x, .int .i64 y, .int .i64 z, .int .i64 a, .int .i64 b, .int .i64 c], u.oneCell' = true := by
  intro u hu
  simp at hu
  rcases hu with rfl | rfl | rfl | rfl | rfl | rfl <;> rfl
theorem lnBd_small {x : Ln} (h : Sm x.1 ∧ Sm x.2.1 ∧ Sm x.2.2) : lnBd x := ⟨sm_wf h.1, sm_wf h.2.1, sm_wf h.2.2⟩
theorem sizeLn (W : World) : (sizeOf 49).run Tryz.prog W = .ok 3 W := by
  obtain ⟨i0, hi, hz0, hz1, hz2⟩ := info_parts infoL
  simp [sizeOf, typeInfo, hi, hz1]
theorem elemLn : Tryz.prog.elem 24 = 49 := by simp [Program.elem, Tryz.underlying24]
theorem underLn : Tryz.prog.underlying 24 = some (.slice (Tryz.prog.elem 24)) := by rw [elemLn]; exact Tryz.underlying24
theorem add_at0 (b j : Nat) : (⟨b, 0, none⟩ : Addr).add j = ⟨b, j, none⟩ := by unfold Addr.add; split <;> simp_all
theorem slice1 {b n c : Nat} (hn : 1 < n) (hc : n ≤ c) (W : World) : (Instr.slice 24 (.slice (some ⟨b, 0, none⟩) n c) (some (.int .i64 1)) none none).run Tryz.prog W = .ok (.slice (some ⟨b, 3, none⟩) (n - 1) (c - 1)) W := by
  rw [run_slice_l W _ _ _ _ underLn .i64 _ (by omega) (by omega), elemLn, sizeLn]
  simp [Result.andThen, sliced, add_at0, show ¬ c = 1 by omega]
theorem tail_lines {u : World} {b : Nat} {cur : List Ln} (h : LinesAt u (some ⟨b, 0, none⟩) cur) (h1 : 1 < cur.length) : LinesAt u (some ⟨b, 3, none⟩) (cur.drop 1) := by
  rcases h with h | ⟨b', off, e, hb, hc⟩
  · rw [h] at h1; simp at h1
  · obtain ⟨rfl, rfl⟩ : b = b' ∧ 0 = off := by simpa using e
    refine .inr ⟨b, 3, rfl, hb, fun i hi => ?_⟩
    have hl : lnAt (cur.drop 1) i = lnAt cur (i + 1) := by simp [lnAt, List.getD_eq_getElem?_getD]
    have := hc (i + 1) (by simp at hi; omega)
    rw [hl]
    rw [show 0 + (i + 1) * 3 = 3 + i * 3 by omega] at this
    exact this
theorem lines_setCell {u : World} {b off s : Nat} {ls : List Ln} {v : Value} (h : LinesAt u (some ⟨b, off, none⟩) ls) (hs : b ≠ s) : LinesAt (u.setCell ⟨s, 0, none⟩ v) (some ⟨b, off, none⟩) ls := by
  rcases h with h | ⟨b', off', e, hb, hc⟩
  · exact .inl h
  · obtain ⟨rfl, rfl⟩ : b = b' ∧ off = off' := by simpa using e
    refine .inr ⟨b, off, rfl, by simpa using hb, fun i hi => ?_⟩
    obtain ⟨x1, x2, x3⟩ := hc i hi
    exact ⟨(World.cell?_setCell_far _ _ _ _ (by simp; omega)).trans x1, (World.cell?_setCell_far _ _ _ _ (by simp; omega)).trans x2, (World.cell?_setCell_far _ _ _ _ (by simp; omega)).trans x3⟩

set_option maxHeartbeats 6400000 in
theorem ledgerD_any {B : Nat} (g : Nat) (w : World) (hc : Cursor B w g) : Calls Tryz.prog 18 #[.pointer (some ⟨g, 0, none⟩)] w (LgD B g w) := by
  obtain ⟨i0, hi, hz0, hz1, hz2⟩ := info_parts infoL
  have cb := cursor_bd hc
  have hgs : g < w.heap.size := by omega
  obtain ⟨W, hW⟩ : ∃ W, W = (w.alloc (.cells #[.slice none 0 0] 26)).alloc (.cells #[.slice none 0 0] 26) := ⟨_, rfl⟩
  have HLW : Hid (LG w.heap.size [] none 0 W) := by rw [Hid, hW]; exact ⟨by simp [go_sem], by simp [go_sem], by simp [go_sem], by simp [go_sem], World.ownsRow_nil _ _ _ _⟩
  have HCW : Hid (Cursor B W g) := by rw [Hid, hW]; exact cursor_alloc (cursor_alloc hc _) _
  have HGW : Hid (w.grownBy W (some g)) := by rw [Hid, hW]; exact (grown_alloc w _ _).trans (grown_alloc _ _ _)
  clear hc
  go_enter Tryz.func18, Tryz.ntmps18
  go_upto_region 2 with fail
  rw [← hW]
  clear hW
  go_wp2_with fail
  refine (below_any _ _ _ HCW.out (by omega)).mono ?_
  rintro e w1 ⟨n, rfl, n0, n1, c1, g1⟩
  have hn := n1 (by omega)
  obtain ⟨N, rfl⟩ := Int.eq_ofNat_of_zero_le n0
  have HL1 : Hid (LG w.heap.size [] none 0 w1) := HLW.out.grown g1 hgs
  have HC1 : Hid (Cursor B w1 g) := c1
  have HG1 : Hid (w.grownBy w1 (some g)) := HGW.out.trans g1
  clear HLW HCW HGW g1 c1 n1 n0
  go_wp2
  go_loopw [5] (fun i wr => ∃ (k : Nat) (cur : List Ln) (a2 : Option Addr) (k2 : Nat), k ≤ N ∧ i = .int .i64 k ∧ LnM cur ∧ LG w.heap.size cur a2 k2 wr ∧ Cursor B wr g ∧ w.grownBy wr (some g)) (fun i _ => N - (intOf i).toNat)
  case atStart => exact ⟨0, [], none, 0, Nat.zero_le _, rfl, ⟨Nat.zero_le _, (fun x hx => by cases hx)⟩, HL1.out, HC1.out, HG1.out⟩
  case round =>
    obtain ⟨k, cur, a2, k2, hk, rfl, hm, hlg, hcu, hgr⟩ := hrel
    have HLG : Hid (LG w.heap.size cur a2 k2 wr) := hlg
    have HCU : Hid (Cursor B wr g) := hcu
    have HGR : Hid (w.grownBy wr (some g)) := hgr
    have HM : Hid (LnM cur) := hm
    have hws : w.heap.size ≤ wr.heap.size := hgr.size
    have hgr' : g < wr.heap.size := by omega
    have hBr : B ≤ wr.heap.size := by omega
    have c1 := hlg.c1
    have hcl := hm.1
    clear hlg hcu hgr hm HL1 HC1 HG1
    by_cases hlt : k < N
    · have hki : (k : Int) < (N : Int) := by omega
      have HSP : Hid (∀ (u : World) (a b c m : Int), wr.grownBy u (some g) → Calls Tryz.prog 22 #[.agg #[.slice a2 cur.length k2], .agg #[.int .i64 a, .int .i64 b, .int .i64 c, .int .i64 m]] u (PostR u (postL cur (a, b, c, m)) (postOk cur (a, b, c, m)))) := fun u a b c m hu => sPost_any a2 k2 cur a b c m u (lines_any (HLG.out.grown hu hgs).own) (by omega)
      have z : ZC wr wr none B g := ZC.start HCU.out
      go_upto_region 6 with fail
      go_cut [6, 7] (fun v6 v7 wc => ∃ b ao k nx ok, v6 = .pointer (some ⟨b, 0, none⟩) ∧ v7 = .bool ok ∧ LnM nx ∧ BX wr B g nx b ao k wc)
      case first =>
        go_region_held3 (fun u => u.cell? ⟨w.heap.size + 1, 0, none⟩ = some (.slice a2 cur.length k2)) (first | exact c1 | exact (HLG.out.grown z.gr hgs).c1 | exact (HLG.out.grown z.drew.gr hgs).c1 | exact (HLG.out.grown (z.al _).gr hgs).c1 | exact (HLG.out.grown (z.al _).drew.gr hgs).c1 | exact (HLG.out.grown (z.drew.al _).gr hgs).c1 | exact (HLG.out.grown HF.out.2.2.2 hgs).c1 | exact (HLG.out.grown (HF.out _).2.2.2 hgs).c1) ((first
          | (go_at_call 41; (first | with_reducible refine (zEn z).mono ?_ | with_reducible refine (zEn z.drew).mono ?_ | with_reducible refine (zEn (z.al _)).mono ?_ | with_reducible refine (zEn (z.al _).drew).mono ?_ | with_reducible refine (zEn (z.drew.al _)).mono ?_); rintro e v1 ⟨a, b, c, m, rfl, hsm, hz⟩; have z := hz hgr'; clear hz)
          | (go_at_call 22; (first | with_reducible refine (zPostG z (HSP.out _ _ _ _ _ z.gr)).mono ?_ | with_reducible refine (zPostG z.drew (HSP.out _ _ _ _ _ z.drew.gr)).mono ?_ | with_reducible refine (zPostG (z.al _) (HSP.out _ _ _ _ _ (z.al _).gr)).mono ?_ | with_reducible refine (zPostG (z.al _).drew (HSP.out _ _ _ _ _ (z.al _).drew.gr)).mono ?_ | with_reducible refine (zPostG (z.drew.al _) (HSP.out _ _ _ _ _ (z.drew.al _).gr)).mono ?_); rintro e v3 ⟨a3, k3, rfl, o3, z0, hz⟩; have z := hz hgr'; (first | (have HF : Hid (∀ t, BX wr B g (postL cur (a, b, c, m)) v3.heap.size a3 k3 (v3.alloc (.cells #[.slice a3 (postL cur (a, b, c, m)).length k3] t))) := (fun t => bx_new o3 z0 z)) | (have HF : Hid _ := bx_set o3 z0 z hBr; obtain ⟨_, _, n0, n1⟩ := z.box _ rfl)); clear o3 z0 hz)))
        all_goals
          go_wp2_with fail
          go_meet
          first
            | exact ⟨_, _, _, _, _, rfl, rfl, post_lnM HM.out, HF.out _⟩
            | exact ⟨_, _, _, _, _, rfl, rfl, post_lnM HM.out, HF.out⟩
      case rest =>
        obtain ⟨b, a3, k3, nx, ok, rfl, rfl, hnx, d0, o3, c3, g3⟩ := hcut
        obtain ⟨w2, hu⟩ : ∃ x, x = wc := ⟨_, rfl⟩
        subst hu
        have L3 := HLG.out.grown g3 hgs
        have d1 := L3.c1
        have e1 := L3.f1
        have h2 : w.heap.size + 2 ≤ wr.heap.size := World.block_lt_of_cell? wr _ HLG.out.c1
        have HL4 : Hid (LG w.heap.size nx a3 k3 (w2.setCell ⟨w.heap.size + 1, 0, none⟩ (.slice a3 nx.length k3))) := L3.put o3 h2
        have HC4 : Hid (Cursor B (w2.setCell ⟨w.heap.size + 1, 0, none⟩ (.slice a3 nx.length k3)) g) := cur_set c3 (by omega)
        have HG4 : Hid (w.grownBy (w2.setCell ⟨w.heap.size + 1, 0, none⟩ (.slice a3 nx.length k3)) (some g)) := set_new (HGR.out.trans g3) (by omega)
        have HNX : Hid (LnM nx) := hnx
        clear L3 o3 c3 g3 hnx h2 c1 z HSP
        go_wp2
        go_roundw
        case rel => exact ⟨k + 1, nx, a3, k3, by omega, by go_num, HNX.out, HL4.out, HC4.out, HG4.out⟩
        case measure => simp [intOf]; omega
    · have hki : ¬ (k : Int) < (N : Int) := by omega
      have hkN : k = N := by omega
      subst hkN
      clear c1
      go_wp2_with fail
      refine (below_any _ _ _ HCU.out (by omega)).mono ?_
      rintro e w2 ⟨z, rfl, z0, z1, c2, g2⟩
      have HL2 : Hid (LG w.heap.size cur a2 k2 w2) := HLG.out.grown g2 hgs
      have HC2 : Hid (Cursor B w2 g) := c2
      have HG2 : Hid (w.grownBy w2 (some g)) := HGR.out.trans g2
      have hs2 : w.heap.size + 2 ≤ w2.heap.size := World.block_lt_of_cell? w2 _ HL2.out.c1
      clear g2 c2 z1 HLG HCU HGR
      have c1 := HL2.out.c1
      have f1 := HL2.out.f1
      have HOWN : Hid (w2.ownsRow (w.heap.size + 2) 49 3 (.slice a2 cur.length k2) cur.length (lcells cur)) := HL2.out.own
      have HNE : Hid (∀ i, i < 2 → some (w.heap.size + i) ≠ (Value.slice a2 cur.length k2).ownBlock) := fun i hi e => by have := (HOWN.out.lt _ e.symm).1; omega
      have gA0 := grown_alloc w2 (.cells #[.int .i64 9000, .int .i64 840, .int .i64 5] 49) (some g)
      have gA1 := grown_alloc w2 (.cells #[.int .i64 9000, .int .i64 840, .int .i64 5, .int .i64 9001, .int .i64 840, .int .i64 (-5)] 49) (some g)
      by_cases h0 : z = 0
      · subst h0
        go_wp2_with (at_builtin; refine wpList_append_own _ rfl (.tmp 29) (.tmp 31) 24 rfl (w.heap.size + 2) 49 i0 _ 3 24 Tryz.underlying24 hi hz0 hz1 hz2 rfl (by decide) _ _ _ rfl (HOWN.out.alloc _) ⟨w2.heap.size, 0, none⟩ 1 1 [.int .i64 9000, .int .i64 840, .int .i64 5] rfl rfl (World.news_of_block (heap_alloc_new w2 _)) (one3 9000 840 5) (by unfold maxLen; omega) (by omega) (by simp; omega) ?_; intro v5 w5 o5 g5 _; have o6 : w5.ownsRow (w.heap.size + 2) 49 3 v5 (cur ++ [(9000, 840, 5)]).length (lcells (cur ++ [(9000, 840, 5)])) := (by rw [List.length_append, lcells_append]; exact o5); obtain ⟨a5, k5, hv5, -, -⟩ := lines_of_own o6; subst hv5; have HO5 : Hid (w5.ownsRow (w.heap.size + 2) 49 3 (.slice a5 (cur ++ [(9000, 840, 5)]).length k5) (cur ++ [(9000, 840, 5)]).length (lcells (cur ++ [(9000, 840, 5)]))) := o6; clear o6; have HG5 : Hid ((w2.alloc (.cells #[.int .i64 9000, .int .i64 840, .int .i64 5] 49)).grownBy w5 (Value.slice a2 cur.length k2).ownBlock) := g5; clear o5 g5; have n5 := (HG5.out.cell_far ⟨w.heap.size + 1, 0, none⟩ (by simp; omega) (HNE.out 1 (by omega))).trans ((gA0.cell_far ⟨w.heap.size + 1, 0, none⟩ (by show w.heap.size + 1 < w2.heap.size; omega) (by simp; omega)).trans c1); have m5 := (HG5.out.frozen_far ⟨w.heap.size + 1, 0, none⟩ (by simp; omega) (HNE.out 1 (by omega))).trans ((gA0.frozen_far ⟨w.heap.size + 1, 0, none⟩ (by show w.heap.size + 1 < w2.heap.size; omega) (by simp; omega)).trans f1); have r5 := (HG5.out.cell_far ⟨w.heap.size, 0, none⟩ (by simp; omega) (HNE.out 0 (by omega))).trans ((gA0.cell_far ⟨w.heap.size, 0, none⟩ (by show w.heap.size < w2.heap.size; omega) (by simp; omega)).trans HL2.out.r0); have t5 := (HG5.out.frozen_far ⟨w.heap.size, 0, none⟩ (by simp; omega) (HNE.out 0 (by omega))).trans ((gA0.frozen_far ⟨w.heap.size, 0, none⟩ (by show w.heap.size < w2.heap.size; omega) (by simp; omega)).trans HL2.out.rf))
        have hl : (cur ++ [(9000, 840, 5)]).length = cur.length + 1 := by simp
        have HDF : LnD (cur ++ [(9000, 840, 5)]) := bd_snoc HM.out (by simp) (by intro x hx; simp at hx; rw [hx]; exact lnBd_small ⟨by unfold Sm; simp, by unfold Sm; simp, by unfold Sm; simp⟩)
        have HCF : Cursor B (w5.setCell ⟨w.heap.size + 1, 0, none⟩ (.slice a5 (cur ++ [(9000, 840, 5)]).length k5)) g := cur_set (curL_app (cursor_alloc HC2.out _) HG5.out (fun j hj => by have := (HOWN.out.lt j hj).1; omega)) (by omega)
        have HGF : w.grownBy (w5.setCell ⟨w.heap.size + 1, 0, none⟩ (.slice a5 (cur ++ [(9000, 840, 5)]).length k5)) (some g) := set_new (grownL_new (HG2.out.trans gA0) HG5.out (fun j hj => by have := (HOWN.out.lt j hj).1; omega)) (by omega)
        have HE := lg_fin (B := B) (w := w) ((HL2.out.grown gA0 hgs).app HG5.out HO5.out) HDF HCF HGF cb.2
        rw [hl] at HE
        refine bodyPost_ret (by simp [results, Tryz.results18, go_sem, r5]; try rfl) rfl ?_
        exact HE
      have h0' : (z == 0) = false := by simpa using h0
      by_cases h1 : z = 1
      · subst h1
        go_wp2_with (at_builtin; refine wpList_append_own _ rfl (.tmp 37) (.tmp 40) 24 rfl (w.heap.size + 2) 49 i0 _ 3 24 Tryz.underlying24 hi hz0 hz1 hz2 rfl (by decide) _ _ _ rfl (HOWN.out.alloc _) ⟨w2.heap.size, 0, none⟩ 2 2 [.int .i64 9000, .int .i64 840, .int .i64 5, .int .i64 9001, .int .i64 840, .int .i64 (-5)] rfl rfl (World.news_of_block (heap_alloc_new w2 _)) (two3 9000 840 5 9001 840 (-5)) (by unfold maxLen; omega) (by omega) (by simp; omega) ?_; intro v5 w5 o5 g5 _; have o6 : w5.ownsRow (w.heap.size + 2) 49 3 v5 (cur ++ [(9000, 840, 5), (9001, 840, -5)]).length (lcells (cur ++ [(9000, 840, 5), (9001, 840, -5)])) := (by rw [List.length_append, lcells_append]; exact o5); obtain ⟨a5, k5, hv5, -, -⟩ := lines_of_own o6; subst hv5; have HO5 : Hid (w5.ownsRow (w.heap.size + 2) 49 3 (.slice a5 (cur ++ [(9000, 840, 5), (9001, 840, -5)]).length k5) (cur ++ [(9000, 840, 5), (9001, 840, -5)]).length (lcells (cur ++ [(9000, 840, 5), (9001, 840, -5)]))) := o6; clear o6; have HG5 : Hid ((w2.alloc (.cells #[.int .i64 9000, .int .i64 840, .int .i64 5, .int .i64 9001, .int .i64 840, .int .i64 (-5)] 49)).grownBy w5 (Value.slice a2 cur.length k2).ownBlock) := g5; clear o5 g5; have n5 := (HG5.out.cell_far ⟨w.heap.size + 1, 0, none⟩ (by simp; omega) (HNE.out 1 (by omega))).trans ((gA1.cell_far ⟨w.heap.size + 1, 0, none⟩ (by show w.heap.size + 1 < w2.heap.size; omega) (by simp; omega)).trans c1); have m5 := (HG5.out.frozen_far ⟨w.heap.size + 1, 0, none⟩ (by simp; omega) (HNE.out 1 (by omega))).trans ((gA1.frozen_far ⟨w.heap.size + 1, 0, none⟩ (by show w.heap.size + 1 < w2.heap.size; omega) (by simp; omega)).trans f1); have r5 := (HG5.out.cell_far ⟨w.heap.size, 0, none⟩ (by simp; omega) (HNE.out 0 (by omega))).trans ((gA1.cell_far ⟨w.heap.size, 0, none⟩ (by show w.heap.size < w2.heap.size; omega) (by simp; omega)).trans HL2.out.r0); have t5 := (HG5.out.frozen_far ⟨w.heap.size, 0, none⟩ (by simp; omega) (HNE.out 0 (by omega))).trans ((gA1.frozen_far ⟨w.heap.size, 0, none⟩ (by show w.heap.size < w2.heap.size; omega) (by simp; omega)).trans HL2.out.rf))
        have hl : (cur ++ [(9000, 840, 5), (9001, 840, -5)]).length = cur.length + 2 := by simp
        have HDF : LnD (cur ++ [(9000, 840, 5), (9001, 840, -5)]) := bd_snoc HM.out (by simp) (by intro x hx; simp at hx; rcases hx with rfl | rfl <;> exact lnBd_small ⟨by unfold Sm; simp, by unfold Sm; simp, by unfold Sm; simp⟩)
        have HCF : Cursor B (w5.setCell ⟨w.heap.size + 1, 0, none⟩ (.slice a5 (cur ++ [(9000, 840, 5), (9001, 840, -5)]).length k5)) g := cur_set (curL_app (cursor_alloc HC2.out _) HG5.out (fun j hj => by have := (HOWN.out.lt j hj).1; omega)) (by omega)
        have HGF : w.grownBy (w5.setCell ⟨w.heap.size + 1, 0, none⟩ (.slice a5 (cur ++ [(9000, 840, 5), (9001, 840, -5)]).length k5)) (some g) := set_new (grownL_new (HG2.out.trans gA1) HG5.out (fun j hj => by have := (HOWN.out.lt j hj).1; omega)) (by omega)
        have HE := lg_fin (B := B) (w := w) ((HL2.out.grown gA1 hgs).app HG5.out HO5.out) HDF HCF HGF cb.2
        rw [hl] at HE
        refine bodyPost_ret (by simp [results, Tryz.results18, go_sem, r5]; try rfl) rfl ?_
        exact HE
      have h1' : (z == 1) = false := by simpa using h1
      have r0 := HL2.out.r0
      have rf := HL2.out.rf
      have HE : Hid _ := lg_fin (B := B) (w := w) HL2.out ⟨by have := HM.out.1; omega, HM.out.2⟩ HC2.out HG2.out cb.2
      by_cases h2 : z = 2
      · subst h2
        by_cases hl : 1 < cur.length
        · have hli : (1 : Int) < (cur.length : Int) := by omega
          obtain ⟨b, hb, hbs, hck⟩ : ∃ b, a2 = some ⟨b, 0, none⟩ ∧ w.heap.size + 2 ≤ b ∧ cur.length ≤ k2 := by
            rcases HOWN.out.2 with ⟨_, h⟩ | ⟨x, cap, _, e0, hx, _, hnc, _⟩
            · omega
            · injection e0 with e1 _ e3
              exact ⟨x, e1, hx, by omega⟩
          subst hb
          have hsl := fun W => slice1 (b := b) hl hck W
          have HLT : Hid (LinesAt w2 (some ⟨b, 3, none⟩) (cur.drop 1)) := tail_lines (lines_any HOWN.out) hl
          have HE2 : Hid _ := lg_end (B := B) (g := g) (w := w) (k2 := k2 - 1) (lines_setCell (v := .slice (some ⟨b, 3, none⟩) (cur.length - 1) (k2 - 1)) HLT.out (show b ≠ w.heap.size + 1 by omega)) (fun b' off' e => by cases e; omega) ⟨by have := HM.out.1; simp; omega, fun x hx => HM.out.2 x (List.mem_of_mem_drop hx)⟩ (cur_set HC2.out (by omega)) (set_new HG2.out (by omega)) cb.2
          rw [List.length_drop] at HE2
          clear HLT HE HOWN HL2 HC2 HG2 HNE gA0 gA1 h0 h1 hbs hck cb
          go_wp2
          refine bodyPost_ret (by simp [results, Tryz.results18, go_sem, r0]; try rfl) rfl ?_
          exact HE2.out
        · have hli : ¬ (1 : Int) < (cur.length : Int) := by omega
          clear HOWN HL2 HC2 HG2 HNE gA0 gA1 h0 h1 cb
          go_wp2
          refine bodyPost_ret (by simp [results, Tryz.results18, go_sem, r0]; try rfl) rfl ?_
          exact HE.out
      · have h2' : (z == 2) = false := by simpa using h2
        clear HOWN HL2 HC2 HG2 HNE gA0 gA1 h0 h1 h2 cb
        go_wp2
        refine bodyPost_ret (by simp [results, Tryz.results18, go_sem, r0]; try rfl) rfl ?_
        exact HE.out

end Go.Proofs.YtnimlgdackgcoaaGreatDoor
