/- Joined: DrawMs, DrawSp, FWith, BatP, Msgs, FPack, BatR, BatBack. -/
import Derived.Test.YtbncdhfmhokgeaaGreatDoorKFnBatchDrawMd
import Derived.Test.YtbncdhfmhokgeaaGreatDoorJFnBatch1a
import Derived.Deep.AppendLies
import Derived.Deep.RegionLaw
import Derived.Test.YtbncdhfmhokgeaaGreatDoorKFnBatchDrawR
import Derived.Test.YtbncdhfmhokgeaaGreatDoorJFnBatch0a
import Derived.ArgAppend
import Derived.Test.YtbncdhfmhokgeaaGreatDoorKFnBatchFMsgOk
import Derived.Test.YtbncdhfmhokgeaaGreatDoorKFnBatchFCopy
import Derived.Test.YtbncdhfmhokgeaaGreatDoorKFnBatchFFieldOf
import Derived.Test.YtbncdhfmhokgeaaGreatDoorKFnBatchMsgEq
import Derived.Lib.AppendZeros
import Derived.Maps.AppendAt
/- What is drawn as a message, whatever the bytes. -/
namespace Go.Proofs.YtbncdhfmhokgeaaGreatDoor
open Go.RowKit

theorem step_app_own {P : Program} {ops : Array Oper} {o : Oper} {a : Act} {w : World} {K : Act → World → Prop} {Q : Exit → Act → World → Prop} {E : Prop}
    (hg : o.guard = none) (s x : Operand) (t : TypeId) (ho : o.op = Op.call { callee := Callee.builtin Builtin.append, args := #[s, x], argTypes := #[t, t] })
    (base : Nat) (e : TypeId) (i : TypeInfo) (z : Value) (size bytes : Nat) (ht : P.underlying t = some (.slice e)) (hi : P.info? e = some i) (hz : i.zero = some z)
    (hsize : i.size = size) (hby : i.bytes = bytes) (hzs : z.cells.size = size) (hsz : 0 < size)
    (v : Value) (n : Nat) (xs : List Value) (hs : a.eval s = v) (hown : w.ownsRow base e size v n xs)
    (ad : Addr) (m c : Nat) (news : List Value) (hx : a.eval x = .slice (some ad) m c) (hl : news.length = m * size) (hnews : ∀ j u, news[j]? = some u → w.cell? (ad.add j) = some u) (h1 : ∀ u ∈ news, u.oneCell' = true)
    (h63 : n + m ≤ maxLen) (hbytes : (n + m) * bytes ≤ 140737488355328) (hbase : base ≤ w.heap.size)
    (h : ∀ v' w', w'.ownsRow base e size v' (n + m) (xs ++ news) → w.grownBy w' v.ownBlock → (v' = .slice none 0 0 ↔ v = .slice none 0 0 ∧ m = 0) → K (a.put o.dst v') w') :
    if Region.wanted o (yielded ops a.tmps) = true then Oper.wp P o a w K Q else E := by
  rw [if_pos (by simp [Region.wanted, hg])]
  exact wp_append_own w s x t ho base e i z size bytes ht hi hz hsize hby hzs hsz v n xs hs hown ad m c news hx hl hnews h1 h63 hbytes hbase h
theorem curM_app {B : Nat} {g : Nat} {w w4 : World} {o : Obj} {row : Option Nat} (c3 : Cursor B w g) (hg4 : (w.alloc o).grownBy w4 row) (h : ∀ j, row = some j → B ≤ j) : Cursor B w4 g :=
  cursor_keep c3 (((Below.refl _ w).alloc (cursor_bd c3).2 _).grown hg4 (by have := (cursor_bd c3).2; simp; omega) h)
theorem ownM_ne {w : World} {base g n : Nat} {v : Value} {xs : List Value} (h : w.ownsRow base 60 2 v n xs) (hg : g < base) : v.ownBlock = none ∨ v.ownBlock ≠ some g := by
  right; intro e; have := (h.lt g e).1; omega
theorem oneM (n : Int) (s : List UInt8) : ∀ u ∈ [Value.int .i64 n, .string ⟨s.toArray⟩], u.oneCell' = true := by
  intro u hu
  simp at hu
  rcases hu with rfl | rfl <;> rfl
theorem mem_snocM {fs : List Fld} {x : Fld} {m : Nat} (h : ∀ f ∈ fs, f.2.length ≤ m) (hx : x.2.length ≤ m) : ∀ f ∈ fs ++ [x], f.2.length ≤ m := by
  intro f hf
  rcases List.mem_append.1 hf with h1 | h1
  · exact h f h1
  · obtain rfl : f = x := by simpa using h1
    exact hx
/-- a block's cells under a draw that moves only the cursor -/
theorem far_cell {w w' : World} {g b o : Nat} {v : Value} (h : w.cell? ⟨b, o, none⟩ = some v) (hg : w.grownBy w' (some g)) (hb : b ≠ g) : w'.cell? ⟨b, o, none⟩ = some v := hg.cell (a := ⟨b, o, none⟩) h (by simpa using hb)
theorem far_froz {w w' : World} {g b o : Nat} (h : w.frozen? ⟨b, o, none⟩ = false) (hl : b < w.heap.size) (hg : w.grownBy w' (some g)) (hb : b ≠ g) : w'.frozen? ⟨b, o, none⟩ = false := (hg.frozen_far ⟨b, o, none⟩ hl (by simpa using hb)).trans h

set_option maxRecDepth 100000 in
set_option maxHeartbeats 800000 in
theorem numsM_any (w : World) :
    Calls Tryz.prog 80 #[] w fun e w' => e = .returned (.slice (some ⟨w.heap.size, 0, none⟩) 15 15) ∧ (∀ i, i < 15 → w'.cell? ⟨w.heap.size, i, none⟩ = some (.int .i64 (knowns.getD i 0))) ∧ Below w.heap.size w w' ∧ w'.heap.size = w.heap.size + 1 ∧ w.grownBy w' none := by
  have hz := lit_cells w knowns #[.int .i64 2, .int .i64 3, .int .i64 4, .int .i64 12, .int .i64 24, .int .i64 25, .int .i64 31, .int .i64 37, .int .i64 38, .int .i64 42, .int .i64 48, .int .i64 49, .int .i64 71, .int .i64 72, .int .i64 93] rfl
  go_enter Tryz.func80, Tryz.ntmps80
  go_wp2
  go_ret
  exact ⟨rfl, fun i hi => hz i hi, by go_grown, by simp, grown_alloc _ _ _⟩

/-- what such a draw hands back -/
def DrewM (B g : Nat) (w : World) (e : Ending) (w' : World) : Prop :=
  ∃ (kd : Int) (ao : Option Addr) (c : Nat) (fs : List Fld), e = .returned (.agg #[.int .i64 kd, .slice ao fs.length c]) ∧ fs.length ≤ 16 ∧ (∀ f ∈ fs, f.2.length ≤ 999) ∧ FldsAt w' ao fs ∧ Cursor B w' g ∧ w.grownBy w' (some g) ∧ (∀ x, ao = some x → g < x.block) ∧ w'.ownsRow w.heap.size 60 2 (.slice ao fs.length c) fs.length (fcells fs)

theorem two_cells {W : World} {x y : Value} {b : Nat} (h0 : W.cell? ⟨b, 0, none⟩ = some x) (h1 : W.cell? ⟨b, 1, none⟩ = some y) : ∀ (j : Nat) (u : Value), [x, y][j]? = some u → W.cell? ((⟨b, 0, none⟩ : Addr).add j) = some u := by
  intro j u h
  match j with
  | 0 => simp at h; subst h; simpa [Addr.add] using h0
  | 1 => simp at h; subst h; simpa [Addr.add] using h1
  | j + 2 => simp at h
/-- what stands while a message is drawn: the result's box M, the message's box T, the numbers L, the fields in a row of their own, the cursor -/
structure MI (B g M T L base : Nat) (w : World) (kd : Int) (va : Option Addr) (vc : Nat) (fs : List Fld) (wr : World) : Prop where
  a0 : wr.cell? ⟨M, 0, none⟩ = some (.int .i64 0)
  a1 : wr.cell? ⟨M, 1, none⟩ = some (.slice none 0 0)
  z0 : wr.frozen? ⟨M, 0, none⟩ = false
  z1 : wr.frozen? ⟨M, 1, none⟩ = false
  t0 : wr.cell? ⟨T, 0, none⟩ = some (.int .i64 kd)
  t1 : wr.cell? ⟨T, 1, none⟩ = some (.slice va fs.length vc)
  y0 : wr.frozen? ⟨T, 0, none⟩ = false
  y1 : wr.frozen? ⟨T, 1, none⟩ = false
  ls : ∀ i, i < 15 → wr.cell? ⟨L, i, none⟩ = some (.int .i64 (knowns.getD i 0))
  ow : wr.ownsRow base 60 2 (.slice va fs.length vc) fs.length (fcells fs)
  cu : Cursor B wr g
  gr : w.grownBy wr (some g)
  sz : base ≤ wr.heap.size
theorem MI.draw {B g M T L base : Nat} {w : World} {kd : Int} {va : Option Addr} {vc : Nat} {fs : List Fld} {wr w5 : World} (h : MI B g M T L base w kd va vc fs wr) (hM : g < M) (hT : g < T) (hL : g < L) (hb : g < base) (hg : wr.grownBy w5 (some g)) (hc : Cursor B w5 g) : MI B g M T L base w kd va vc fs w5 :=
  ⟨far_cell h.a0 hg (by omega), far_cell h.a1 hg (by omega), far_froz h.z0 (World.block_lt_of_cell? wr _ h.a0) hg (by omega), far_froz h.z1 (World.block_lt_of_cell? wr _ h.a0) hg (by omega), far_cell h.t0 hg (by omega), far_cell h.t1 hg (by omega),
    far_froz h.y0 (World.block_lt_of_cell? wr _ h.t0) hg (by omega), far_froz h.y1 (World.block_lt_of_cell? wr _ h.t0) hg (by omega), fun i hi => far_cell (h.ls i hi) hg (by omega), h.ow.kept hg (ownM_ne h.ow hb), hc, h.gr.trans hg, Nat.le_trans h.sz hg.size⟩
end Go.Proofs.YtbncdhfmhokgeaaGreatDoor

/- What is drawn as a spoilt file, whatever the bytes. -/
namespace Go.Proofs.YtbncdhfmhokgeaaGreatDoor
open Go.RowKit
set_option maxRecDepth 100000

theorem Row.grown {w w' : World} {g b : Nat} {l : List UInt8} (h : Row w b l) (hg : w.grownBy w' (some g)) (hb : b ≠ g) : Row w' b l :=
  ⟨fun j x hx => hg.cell (a := ⟨b, j, none⟩) (h.cell j x hx) (by simpa using hb), fun j hj => (hg.frozen_far ⟨b, j, none⟩ h.lt (by simpa using hb)).trans (h.free j hj), Nat.lt_of_lt_of_le h.lt hg.size⟩
theorem Row.put {w : World} {g : Nat} {l : List UInt8} (h : Row w g l) {i : Nat} (hi : i < l.length) (c : UInt8) : Row (w.setCell ⟨g, i, none⟩ (.int .u8 (c.toNat : Int))) g (l.set i c) := by
  refine ⟨fun j x hx => ?_, fun j hj => ?_, by simpa using h.lt⟩
  · have hj : j < l.length := by have := (List.getElem?_eq_some_iff.1 hx).1; rwa [List.length_set] at this
    by_cases hji : j = i
    · subst hji
      rw [World.cell?_setCell_same _ _ _ (h.cell j _ (List.getElem?_eq_getElem hj))]
      rw [List.getElem?_set_self hj] at hx
      cases hx; rfl
    · rw [World.cell?_setCell_other _ _ _ _ (by simp)]
      rw [List.getElem?_set_ne (by omega)] at hx
      exact h.cell j x hx
  · rw [List.length_set] at hj
    rw [World.frozen?_setCell]; exact h.free j hj
theorem convR_full (d : List UInt8) (W : World) : Row (convW d W) W.heap.size (d ++ List.replicate (convC d W - d.length) 0) := by
  have hh : (convW d W).heap[W.heap.size]? = some (.cells (convR d W) 5 ((convR d W).size, (convR d W).size + 1)) := heap_alloc_new W.drew _
  have hsz : (convR d W).size = d.length + (convC d W - d.length) := by simp [convR, bytesRow, convC]; rfl
  refine ⟨fun j x hx => ?_, fun j hj => ?_, by rw [convW_size]; omega⟩
  · rw [cell_of_row _ W.heap.size j _ _ _ hh]
    have hj := (List.getElem?_eq_some_iff.1 hx).1
    rw [List.length_append, List.length_replicate] at hj
    by_cases h1 : j < d.length
    · rw [List.getElem?_append_left h1] at hx
      simp [convR, bytesRow, Array.getElem?_append, h1, (List.getElem?_eq_some_iff.1 hx).2]
    · rw [List.getElem?_append_right (by omega), List.getElem?_replicate] at hx
      have h2 : j - d.length < convC d W - d.length := by omega
      rw [if_pos h2] at hx
      cases hx
      have h3 : j - d.length < grownCap W d.length 0 5 - (⟨d.toArray⟩ : ByteArray).size := by rw [ba_size]; exact h2
      simp [convR, bytesRow, Array.getElem?_append, h1, h3]
  · unfold World.frozen?
    rw [hh]
    rw [List.length_append, List.length_replicate] at hj
    simp; omega
theorem row_left {w : World} {g : Nat} {l r : List UInt8} (h : Row w g (l ++ r)) : Row w g l :=
  ⟨fun j x hx => h.cell j x (by rw [List.getElem?_append_left (List.getElem?_eq_some_iff.1 hx).1]; exact hx), fun j hj => h.free j (by rw [List.length_append]; omega), h.lt⟩
theorem row_setCells {w : World} {g o : Nat} {l cs : List UInt8} (hr : Row w g l) (hfit : o + cs.length ≤ l.length) : Row (w.setCells g o (cs.map cell)) g (splice l o cs) := by
  have hget : ∀ j, j < l.length → (w.cell? ⟨g, j, none⟩).isSome = true := fun j hj => by rw [hr.cell j _ (List.getElem?_eq_getElem hj)]; rfl
  have hl : (cs.map cell).length = cs.length := List.length_map ..
  have hbel : Below g w (w.setCells g o (cs.map cell)) := Lib.below_setCells g (Nat.le_refl _) _ _ (Below.refl _ _)
  have hin := World.cell?_setCells_in g (cs.map cell) o w (fun j hj => by rw [hl] at hj; exact hget _ (by omega))
  have hout := World.cell?_setCells_out g (cs.map cell) o w
  have hsl := length_splice l o cs hfit
  refine ⟨fun j x hx => ?_, fun j hj => ?_, Nat.lt_of_lt_of_le hr.lt hbel.size⟩
  · have hj : j < l.length := by rw [← hsl]; exact (List.getElem?_eq_some_iff.1 hx).1
    by_cases h1 : j < o
    · rw [hout ⟨g, j, none⟩ (fun _ _ => Or.inl h1)]
      refine hr.cell j x ?_
      rw [← hx, splice, List.getElem?_append_left (by rw [List.length_take]; omega), List.getElem?_take, if_pos h1]
    · by_cases h2 : j < o + cs.length
      · obtain ⟨d, rfl⟩ : ∃ d, j = o + d := ⟨j - o, by omega⟩
        rw [hin d (by rw [hl]; omega)]
        rw [splice, List.getElem?_append_right (by rw [List.length_take]; omega), List.length_take, Nat.min_eq_left (by omega), Nat.add_sub_cancel_left, List.getElem?_append_left (by omega)] at hx
        simp [List.getElem_map, cell, (List.getElem?_eq_some_iff.1 hx).2]
      · rw [hout ⟨g, j, none⟩ (fun _ _ => Or.inr (by rw [hl]; show o + cs.length ≤ j; omega))]
        refine hr.cell j x ?_
        rw [splice, List.getElem?_append_right (by rw [List.length_take]; omega), List.length_take, Nat.min_eq_left (by omega), List.getElem?_append_right (by omega), List.getElem?_drop] at hx
        rw [← hx]; congr 1; omega
  · rw [World.frozen?_setCells]
    exact hr.free j (by rw [← hsl]; exact hj)
theorem grown_setCells (w : World) (g : Nat) : ∀ (vs : List Value) (o : Nat), w.grownBy (w.setCells g o vs) (some g)
  | [], _ => World.grownBy.refl _ _
  | v :: r, o => by
    have h1 := grown_set w g o v
    have h2 := grown_setCells (w.setCell ⟨g, o, none⟩ v) g r (o + 1)
    exact h1.trans h2
/-- appending bytes of the block itself behind its text -/
theorem app_self (w : World) (ty : TypeId) (gb C n m : Nat) (s R ns : List UInt8) (hr : Row w gb (s ++ R)) (hC : s.length + R.length = C) (hn : s.length = n) (hm : ns.length = m) (ad : Addr) (c : Nat) (hns : ∀ j x, ns[j]? = some x → w.cell? (ad.add j) = some (.int .u8 (x.toNat : Int))) (hb : n + m ≤ 100000000) :
    ∃ g' c' w', (Builtin.append_ #[22, 22] ty #[.slice (some ⟨gb, 0, none⟩) n C, .slice (some ad) m c]).run Tryz.prog w = .ok (.slice (some ⟨g', 0, none⟩) (n + m) c') w' ∧ Row w' g' (s ++ ns) ∧ w.grownBy w' (some gb) := by
  obtain ⟨i0, hi, hz0, hz1, hz2⟩ := info_parts info5
  have hnews : ∀ j u, (ns.map cell)[j]? = some u → w.cell? (ad.add j) = some u := fun j u hj => by
    rw [List.getElem?_map] at hj
    obtain ⟨y, hy, rfl⟩ := Option.map_eq_some_iff.1 hj
    exact hns j y hy
  have hone : ∀ u ∈ ns.map cell, u.oneCell' = true := fun u hu => by obtain ⟨x, _, rfl⟩ := List.mem_map.1 hu; rfl
  subst hn
  by_cases hroom : s.length + m ≤ C
  · have h := run_append_room_cells (P := Tryz.prog) w 22 ty 5 i0 Tryz.underlying22 hi gb 0 s.length C ad m c (ns.map cell) (by rw [List.length_map, hz1, Nat.mul_one]; exact hm) hnews hone hroom
      (fun j hj => by
        rw [List.length_map] at hj
        rw [hz1, Nat.mul_one, Nat.zero_add, hr.cell _ _ (List.getElem?_eq_getElem (by rw [List.length_append]; omega))]; rfl)
      (fun j hj => by
        rw [List.length_map] at hj
        rw [hz1, Nat.mul_one, Nat.zero_add]; exact hr.free _ (by rw [List.length_append]; omega))
    rw [hz1, Nat.mul_one, Nat.zero_add] at h
    refine ⟨gb, C, _, h, ?_, grown_setCells w gb _ _⟩
    have hrow := row_setCells (o := s.length) (cs := ns) hr (by rw [List.length_append]; omega)
    have e : splice (s ++ R) s.length ns = (s ++ ns) ++ (s ++ R).drop (s.length + ns.length) := by
      unfold splice
      rw [List.take_left, List.append_assoc]
    rw [e] at hrow
    exact ⟨fun j x hx => hrow.cell j x (by rw [List.getElem?_append_left (List.getElem?_eq_some_iff.1 hx).1]; exact hx), fun j hj => hrow.free j (by rw [List.length_append]; omega), hrow.lt⟩
  · have hol : ∀ j v, (s.map cell)[j]? = some v → w.cell? ((⟨gb, 0, none⟩ : Addr).add j) = some v := fun j v hj => by
      rw [List.getElem?_map] at hj
      obtain ⟨y, hy, rfl⟩ := Option.map_eq_some_iff.1 hj
      rw [add_at, Nat.zero_add]
      exact (row_left hr).cell j y hy
    obtain ⟨v', w', h, ho, hgr⟩ := run_append_arg_grows (P := Tryz.prog) w 22 ty 5 i0 (.int .u8 0) 1 1 Tryz.underlying22 hi hz0 hz1 hz2 rfl (by decide) ⟨gb, 0, none⟩ s.length C (s.map cell) (by rw [List.length_map, Nat.mul_one]) hol ad m c (ns.map cell) (by rw [List.length_map, Nat.mul_one]; exact hm) hnews (by omega) (by unfold maxLen; omega) (by omega)
    rw [← List.map_append] at ho
    rcases ho.2 with ⟨_, h0⟩ | ⟨g', c', cur, hv, _⟩
    · omega
    · subst hv
      exact ⟨g', c', w', h, row_of_own ho, ⟨hgr.os, hgr.tape, hgr.output, hgr.size, fun k hk _ => hgr.block k hk (by simp)⟩⟩

theorem wpList_append_run8 {ops : Array Oper} {rest : List Oper} {o : Oper} {a : Act} {Q : Exit → Act → World → Prop} (w : World) (hgd : o.guard = none) (s x : Operand)
    (ho : o.op = .call { callee := .builtin .append, args := #[s, x], argTypes := #[22, 22] }) (v u : Value) (hs : a.eval s = v) (hx : a.eval x = u) {v' : Value} {w' : World}
    (hr : (Builtin.append_ #[22, 22] o.type #[v, u]).run Tryz.prog w = .ok v' w') (h : wpList Tryz.prog ops Q rest (a.put o.dst v') w') : wpList Tryz.prog ops Q (o :: rest) a w :=
  Lib.wpList_append_run w hgd s x _ _ ho _ _ hs hx v' w' hr h

/-- what such a draw hands back -/
def Spoilt (B g : Nat) (w : World) (e : Ending) (w' : World) : Prop := ∃ l : List UInt8, e = .returned (.string ⟨l.toArray⟩) ∧ l.length ≤ 100000 ∧ Cursor B w' g ∧ w.grownBy w' (some g)
theorem row_text {w : World} {g n c : Nat} {l : List UInt8} (h : Row w g l) (hn : l.length = n) : (convert 22 9 (.slice (some ⟨g, 0, none⟩) n c)).run Tryz.prog w = .ok (.string ⟨l.toArray⟩) w := by
  subst hn
  exact text_at (fun j x hx => by rw [Nat.zero_add]; exact h.cell j x hx)

set_option maxHeartbeats 3200000 in
theorem spoilD_any {B : Nat} (g : Nat) (s : List UInt8) (w : World) (hc : Cursor B w g) (hs : s.length = 0 ∨ 1014 ≤ s.length) (hl : s.length ≤ 60000) :
    Calls Tryz.prog 72 #[.pointer (some ⟨g, 0, none⟩), .string ⟨s.toArray⟩] w (Spoilt B g w) := by
  have cb := cursor_bd hc
  have hcv := conv_run s w
  have hW := convW_below s w
  have hsz := convW_size s w
  have HRF : Hid _ := convR_full s w
  have hCg := convC_ge s w
  have hCm := convC_le s w (by unfold maxLen; omega)
  unfold maxLen at hCm
  have cW : Cursor B (convW s w) g := cursor_below hc hW
  have gW : w.grownBy (convW s w) (some g) := ⟨hW.os, hW.tape, hW.output, hW.size, fun k hk _ => hW.block k hk⟩
  obtain ⟨C, hC⟩ : ∃ C, convC s w = C := ⟨_, rfl⟩
  obtain ⟨W, hWe⟩ : ∃ W, convW s w = W := ⟨_, rfl⟩
  rw [hC] at hcv HRF hCg hCm
  rw [hWe] at hcv HRF hsz cW gW
  clear hC hWe hW hc
  by_cases h0 : s.length = 0
  · have h0i : ((s.length : Int) == 0) = true := by rw [beq_iff_eq]; omega
    clear hs
    go_enter Tryz.func72, Tryz.ntmps72
    go_wp2
    go_ret
    exact ⟨s, rfl, by omega, cW, gW⟩
  have h0i : ((s.length : Int) == 0) = false := beq_eq_false_iff_ne.2 (by omega)
  have h14 : 1014 ≤ s.length := by omega
  clear hs h0
  go_enter Tryz.func72, Tryz.ntmps72
  go_wp2_with fail
  refine (below_any _ _ _ cW (by omega)).mono ?_
  rintro e w2 ⟨x, rfl, x0, x1, c2, g2⟩
  have hxl := x1 (by omega)
  have r2 := HRF.out.grown g2 (by omega)
  have G2 := gW.trans g2
  obtain ⟨X, rfl⟩ := Int.eq_ofNat_of_zero_le x0
  have hX : X < s.length := by omega
  clear x1 g2 cW gW x0 HRF hcv
  go_wp2_with fail
  refine (below_any _ _ _ c2 (by omega)).mono ?_
  rintro e w3 ⟨z, rfl, z0, z1, c3, g3⟩
  have r3 := r2.grown g3 (by omega)
  have G3 := G2.trans g3
  have hs3 := G3.size
  clear z1 c2 g3 r2 G2
  have hRl : s.length + (List.replicate (C - s.length) (0 : UInt8)).length = C := by rw [List.length_replicate]; omega
  obtain ⟨R, hR⟩ : ∃ R, List.replicate (C - s.length) (0 : UInt8) = R := ⟨_, rfl⟩
  rw [hR] at hRl r3
  have HR3 : Hid (Row w3 w.heap.size (s ++ R)) := r3
  have HRL : Hid _ := hRl
  clear hR hRl r3
  by_cases k0 : z = 0
  · subst k0
    go_wp2_with fail
    refine (below_any _ _ _ c3 (by omega)).mono ?_
    rintro e w4 ⟨y, rfl, y0, y1, c4, g4⟩
    have hyb := y1 (by omega)
    have r4 := (row_left HR3.out).grown g4 (by omega)
    have G4 := G3.trans g4
    obtain ⟨Y, rfl⟩ := Int.eq_ofNat_of_zero_le y0
    have hYt : (UInt8.ofNat Y).toNat = Y := by rw [UInt8.toNat_ofNat']; omega
    have d1 : ∃ v, w4.cell? ⟨w.heap.size, X, none⟩ = some v := ⟨_, r4.at hX⟩
    obtain ⟨old, d1⟩ := d1
    have d2 := r4.free X hX
    have r5 := r4.put hX (UInt8.ofNat Y)
    rw [hYt] at r5
    have ht := row_text (c := C) r5 (by rw [List.length_set])
    have G5 : w.grownBy (w4.setCell ⟨w.heap.size, X, none⟩ (.int .u8 (Y : Int))) (some g) := grown_new G4 (grown_set w4 w.heap.size X _) (fun k hk => by cases hk; exact Nat.le_refl _)
    have c5 : Cursor B (w4.setCell ⟨w.heap.size, X, none⟩ (.int .u8 (Y : Int))) g := cursor_keep c4 ((Below.refl _ w4).setCell cb.2 _)
    have hll : (s.set X (UInt8.ofNat Y)).length ≤ 100000 := by rw [List.length_set]; omega
    obtain ⟨l2, hl2⟩ : ∃ l2, s.set X (UInt8.ofNat Y) = l2 := ⟨_, rfl⟩
    rw [hl2] at ht hll
    have HG : Hid _ := G5
    have HC : Hid (Cursor B (w4.setCell ⟨w.heap.size, X, none⟩ (.int .u8 (Y : Int))) g) := c5
    clear hl2 r4 r5 g4 c4 G4 G5 c5 hYt y1
    go_wp2
    go_ret
    exact ⟨l2, rfl, hll, HC.out, HG.out⟩
  have k0' : (z == 0) = false := by simpa using k0
  by_cases k1 : z = 1
  · subst k1
    have hs1 := fun W => sl_h (g := w.heap.size) (o := 0) (n := s.length) (c := C) (x := (X : Int)) X rfl (by omega) (by omega) W
    have rt : Row w3 w.heap.size (s.take X) := row_left (r := s.drop X) (by rw [List.take_append_drop]; exact row_left HR3.out)
    have ht := row_text (c := C) (n := X) rt (by rw [List.length_take]; omega)
    have hll : (s.take X).length ≤ 100000 := by rw [List.length_take]; omega
    obtain ⟨l2, hl2⟩ : ∃ l2, s.take X = l2 := ⟨_, rfl⟩
    rw [hl2] at ht hll
    clear hl2 rt
    go_wp2
    go_ret
    exact ⟨l2, rfl, hll, c3, G3⟩
  have k1' : (z == 1) = false := by simpa using k1
  by_cases k2 : z = 2
  · subst k2
    have r4 := row_left HR3.out
    have hX2 : s.length - 1 < s.length := by omega
    have d1 : ∃ v, w3.cell? ⟨w.heap.size, s.length - 1, none⟩ = some v := ⟨_, r4.at hX2⟩
    obtain ⟨old, d1⟩ := d1
    have d2 := r4.free (s.length - 1) hX2
    have r5 := r4.put hX2 0
    have ht := row_text (c := C) r5 (by rw [List.length_set])
    have G5 : w.grownBy (w3.setCell ⟨w.heap.size, s.length - 1, none⟩ (.int .u8 ((0 : UInt8).toNat : Int))) (some g) := grown_new G3 (grown_set w3 w.heap.size (s.length - 1) _) (fun k hk => by cases hk; exact Nat.le_refl _)
    have c5 : Cursor B (w3.setCell ⟨w.heap.size, s.length - 1, none⟩ (.int .u8 ((0 : UInt8).toNat : Int))) g := cursor_keep c3 ((Below.refl _ w3).setCell cb.2 _)
    have hll : (s.set (s.length - 1) 0).length ≤ 100000 := by rw [List.length_set]; omega
    obtain ⟨l2, hl2⟩ : ∃ l2, s.set (s.length - 1) 0 = l2 := ⟨_, rfl⟩
    obtain ⟨K, hK⟩ : ∃ K, s.length - 1 = K := ⟨_, rfl⟩
    have hKi : (s.length : Int) - 1 = (K : Int) := by omega
    have hKl : K < s.length := by omega
    rw [hl2] at ht hll
    rw [hK] at ht d1 d2 G5 c5
    rw [show (((0 : UInt8).toNat : Nat) : Int) = 0 from rfl] at ht G5 c5
    have HG : Hid _ := G5
    have HC : Hid (Cursor B (w3.setCell ⟨w.heap.size, K, none⟩ (.int .u8 0)) g) := c5
    clear hl2 r4 r5 G5 c5 hK hX2
    go_wp2
    go_ret
    exact ⟨l2, rfl, hll, HC.out, HG.out⟩
  have k2' : (z == 2) = false := by simpa using k2
  by_cases k3 : z = 3
  · subst k3
    obtain ⟨K, hK⟩ : ∃ K, s.length - 1014 = K := ⟨_, rfl⟩
    have hs1 := fun W => sl_l (g := w.heap.size) (o := 0) (n := s.length) (c := C) (x := (s.length : Int) - 1014) K (by omega) (by omega) (by omega) W
    rw [Nat.zero_add, show s.length - K = 1014 by omega] at hs1
    have hdl : (s.drop K).length = 1014 := by rw [List.length_drop]; omega
    obtain ⟨g', c', w5, hrun, r5, g5⟩ := app_self w3 22 w.heap.size C s.length 1014 s R (s.drop K) HR3.out HRL.out rfl hdl ⟨w.heap.size, K, none⟩ (C - K) (fun j x hx => by
      rw [add_at]
      rw [List.getElem?_drop] at hx
      exact (row_left HR3.out).cell _ x hx) (by omega)
    have ht := row_text (c := c') (n := s.length + 1014) r5 (by rw [List.length_append, hdl])
    have hll : (s ++ s.drop K).length ≤ 100000 := by rw [List.length_append, hdl]; omega
    obtain ⟨l2, hl2⟩ : ∃ l2, s ++ s.drop K = l2 := ⟨_, rfl⟩
    rw [hl2] at ht hll
    have HG : Hid (w.grownBy w5 (some g)) := grown_new G3 g5 (fun k hk => by cases hk; exact Nat.le_refl _)
    have HC : Hid (Cursor B w5 g) := cursor_keep c3 ((Below.refl B w3).grown g5 (by omega) (fun k hk => by cases hk; exact cb.2))
    clear hl2 r5 g5 hdl hK
    go_wp2_with (at_builtin; refine wpList_append_run8 _ rfl (.tmp 41) (.tmp 46) rfl _ _ rfl rfl hrun ?_)
    go_ret
    exact ⟨l2, rfl, hll, HC.out, HG.out⟩
  have k3' : (z == 3) = false := by simpa using k3
  by_cases k4 : z = 4
  · subst k4
    go_wp2_with fail
    refine (below_any _ _ _ c3 (by omega)).mono ?_
    rintro e w4 ⟨y, rfl, y0, y1, c4, g4⟩
    have hyb := y1 (by omega)
    have r4 := (row_left HR3.out).grown g4 (by omega)
    have G4 := G3.trans g4
    obtain ⟨Y, rfl⟩ := Int.eq_ofNat_of_zero_le y0
    have hY4 : Y < s.length := by omega
    clear g4 c3 G3 y1
    go_wp2_with fail
    refine (below_any _ _ _ c4 (by omega)).mono ?_
    rintro e w5 ⟨q, rfl, q0, q1, c5, g5⟩
    have hqb := q1 (by omega)
    have r5 := r4.grown g5 (by omega)
    have G5 := G4.trans g5
    obtain ⟨U, rfl⟩ := Int.eq_ofNat_of_zero_le q0
    have hUt : (UInt8.ofNat U).toNat = U := by rw [UInt8.toNat_ofNat']; omega
    have d1 : ∃ v, w5.cell? ⟨w.heap.size, Y, none⟩ = some v := ⟨_, r5.at hY4⟩
    obtain ⟨old, d1⟩ := d1
    have d2 := r5.free Y hY4
    have r6 := r5.put hY4 (UInt8.ofNat U)
    rw [hUt] at r6
    have ht := row_text (c := C) r6 (by rw [List.length_set])
    have G6 : w.grownBy (w5.setCell ⟨w.heap.size, Y, none⟩ (.int .u8 (U : Int))) (some g) := grown_new G5 (grown_set w5 w.heap.size Y _) (fun k hk => by cases hk; exact Nat.le_refl _)
    have c6 : Cursor B (w5.setCell ⟨w.heap.size, Y, none⟩ (.int .u8 (U : Int))) g := cursor_keep c5 ((Below.refl _ w5).setCell cb.2 _)
    have hll : (s.set Y (UInt8.ofNat U)).length ≤ 100000 := by rw [List.length_set]; omega
    obtain ⟨l2, hl2⟩ : ∃ l2, s.set Y (UInt8.ofNat U) = l2 := ⟨_, rfl⟩
    rw [hl2] at ht hll
    have HG : Hid _ := G6
    have HC : Hid (Cursor B (w5.setCell ⟨w.heap.size, Y, none⟩ (.int .u8 (U : Int))) g) := c6
    clear hl2 r4 r5 r6 g5 c4 c5 G4 G5 G6 c6 hUt q1
    go_wp2
    go_ret
    exact ⟨l2, rfl, hll, HC.out, HG.out⟩
  · have k4' : (z == 4) = false := by simpa using k4
    have ht := row_text (c := C) (row_left HR3.out) rfl
    go_wp2
    go_ret
    exact ⟨s, rfl, by omega, c3, G3⟩

end Go.Proofs.YtbncdhfmhokgeaaGreatDoor

/- The contract of the program's With. -/
namespace Go.Proofs.YtbncdhfmhokgeaaGreatDoor
open Go.RowKit
set_option maxRecDepth 100000

def withOk (kd : Int) (fs : List Fld) (num : Int) (d : List UInt8) : Bool := fieldOk num d && msgOk kd fs
def withL (kd : Int) (fs : List Fld) (num : Int) (d : List UInt8) : List Fld := if withOk kd fs num d = true then withF fs num d else fs
theorem withL_no {kd : Int} {fs : List Fld} {num : Int} {d : List UInt8} (h : withOk kd fs num d = false) : withL kd fs num d = fs := if_neg (by rw [h]; decide)
theorem withL_yes {kd : Int} {fs : List Fld} {num : Int} {d : List UInt8} (h : withOk kd fs num d = true) : withL kd fs num d = withF fs num d := if_pos h
theorem withL_len (kd : Int) (fs : List Fld) (num : Int) (d : List UInt8) : (withL kd fs num d).length ≤ fs.length + 1 := by
  unfold withL; split
  · exact withF_len fs num d
  · omega
/-- what With answers: a message whose fields are its own -/
def Withs (w : World) (kd : Int) (gs : List Fld) (ok : Bool) (e : Ending) (w' : World) : Prop :=
  ∃ ao cap, e = .returned (.tuple #[.agg #[.int .i64 kd, .slice ao gs.length cap], .bool ok]) ∧ w'.ownsRow w.heap.size 60 2 (.slice ao gs.length cap) gs.length (fcells gs) ∧ Below w.heap.size w w'

theorem threebox {w u : World} {x y x' y' x'' y'' : Value} {t t' t'' : TypeId} (b : Below (((w.alloc (.cells #[x, y] t)).alloc (.cells #[x', y'] t')).alloc (.cells #[x'', y''] t'')).heap.size (((w.alloc (.cells #[x, y] t)).alloc (.cells #[x', y'] t')).alloc (.cells #[x'', y''] t'')) u) :
    u.cell? ⟨w.heap.size, 0, none⟩ = some x ∧ u.cell? ⟨w.heap.size, 1, none⟩ = some y ∧ u.cell? ⟨w.heap.size + 1, 0, none⟩ = some x' ∧ u.cell? ⟨w.heap.size + 1, 1, none⟩ = some y' ∧
      u.frozen? ⟨w.heap.size + 1, 0, none⟩ = false ∧ u.frozen? ⟨w.heap.size + 1, 1, none⟩ = false ∧ u.cell? ⟨w.heap.size + 1 + 1, 0, none⟩ = some x'' ∧ u.cell? ⟨w.heap.size + 1 + 1, 1, none⟩ = some y'' ∧ Below w.heap.size w u ∧ w.heap.size + 1 + 1 < u.heap.size :=
  ⟨(b.cell (p := ⟨w.heap.size, 0, none⟩) (by simp; omega)).trans (by simp [go_sem]), (b.cell (p := ⟨w.heap.size, 1, none⟩) (by simp; omega)).trans (by simp [go_sem]),
    (b.cell (p := ⟨w.heap.size + 1, 0, none⟩) (by simp)).trans (by simp [go_sem]), (b.cell (p := ⟨w.heap.size + 1, 1, none⟩) (by simp)).trans (by simp [go_sem]),
    (b.frozen (p := ⟨w.heap.size + 1, 0, none⟩) (by simp)).trans (by simp [go_sem]), (b.frozen (p := ⟨w.heap.size + 1, 1, none⟩) (by simp)).trans (by simp [go_sem]),
    (b.cell (p := ⟨w.heap.size + 1 + 1, 0, none⟩) (by simp)).trans (by simp [go_sem]), (b.cell (p := ⟨w.heap.size + 1 + 1, 1, none⟩) (by simp)).trans (by simp [go_sem]),
    ((((Below.refl _ _).alloc (Nat.le_refl _) _).alloc (by simp) _).alloc (by simp; omega) _).trans (b.mono (by simp; omega)), by have := b.size; simp at this; omega⟩

theorem with_end {kd : Int} {g n : Nat} {w u : World} {ok : Bool} {gs fs : List Fld} (hg : gs = fs) (hn : n = fs.length) (ho : u.ownsRow w.heap.size 60 2 (.slice (some ⟨g, 0, none⟩) n n) n (fcells fs)) (hb : Below w.heap.size w u) (hlt : w.heap.size + 1 < g) :
    Withs w kd gs ok (.returned (.tuple #[.agg #[.int .i64 kd, .slice (some ⟨g, 0, none⟩) n n], .bool ok])) ((u.setCell ⟨w.heap.size + 1, 0, none⟩ (.int .i64 kd)).setCell ⟨w.heap.size + 1, 1, none⟩ (.slice (some ⟨g, 0, none⟩) n n)) := by
  subst hg; subst hn
  have hne : ∀ (x : Nat), (Value.slice (some ⟨g, 0, none⟩) gs.length gs.length).ownBlock = some x → x ≠ w.heap.size + 1 := by
    intro x h
    simp [Value.ownBlock] at h
    omega
  exact ⟨_, _, rfl, keepSet (keepSet ho _ _ hne) _ _ hne, (hb.setCell (by show w.heap.size ≤ w.heap.size + 1; omega) _).setCell (by show w.heap.size ≤ w.heap.size + 1; omega) _⟩

theorem iMessageOk_is {kd : Int} {ao : Option Addr} {cap : Nat} {fs : List Fld} {w : World} {q : Bool} (hq : msgOk kd fs = q) (hz : FldsAt w ao fs) (hn : fs.length ≤ 1048576) (hd : sumF fs ≤ 1048576) :
    Calls Tryz.prog 35 #[.agg #[.int .i64 kd, .slice ao fs.length cap]] w fun e w' => e = .returned (.bool q) ∧ Below w.heap.size w w' := by
  rw [← hq]; exact iMessageOk_any kd ao cap fs w hz hn hd

set_option maxHeartbeats 1600000 in
theorem iWith_no (kd : Int) (ao : Option Addr) (cap : Nat) (fs : List Fld) (num : Int) (d : List UInt8) (w : World) (hz : FldsAt w ao fs) (hn : fs.length ≤ 1048576) (hd : sumF fs ≤ 1048576) (hl : d.length ≤ 1099511627776) (hno : withOk kd fs num d = false) :
    Calls Tryz.prog 22 #[.agg #[.int .i64 kd, .slice ao fs.length cap], .int .i64 num, .string ⟨d.toArray⟩] w (Withs w kd (withL kd fs num d) (withOk kd fs num d)) := by
  have HL : Hid _ := withL_no hno
  have hds : ∀ f ∈ fs, f.2.length ≤ 1099511627776 := fun f hf => by have := sumF_mem hf; omega
  rw [hno]
  have hno' := hno
  unfold withOk at hno'
  cases hf : fieldOk num d
  · have HF : Hid _ := hf
    clear hno hno' hf
    go_enter Tryz.func22, Tryz.ntmps22
    go_wp2_with fail
    refine (iFieldOk_is HF.out _ hl).mono ?_
    rintro e w1 ⟨rfl, b1⟩
    obtain ⟨x0, x1, x2, x3, f2, f3, _, _, bel, hsz⟩ := threebox b1
    clear b1
    go_wp2_with fail
    refine (copyMessage_any _ _ _ _ _ (hz.below bel) (by omega) hds).mono ?_
    rintro e w2 ⟨g, rfl, o2, b2⟩
    have y2 := (b2.cell (p := ⟨w.heap.size + 1, 0, none⟩) (by show w.heap.size + 1 < w1.heap.size; omega)).trans x2
    have y3 := (b2.cell (p := ⟨w.heap.size + 1, 1, none⟩) (by show w.heap.size + 1 < w1.heap.size; omega)).trans x3
    have z2 := (b2.frozen (p := ⟨w.heap.size + 1, 0, none⟩) (by show w.heap.size + 1 < w1.heap.size; omega)).trans f2
    have z3 := (b2.frozen (p := ⟨w.heap.size + 1, 1, none⟩) (by show w.heap.size + 1 < w1.heap.size; omega)).trans f3
    have hgl : w.heap.size + 1 < g := by have := (o2.lt g rfl).1; omega
    have HE : Hid _ := with_end (kd := kd) (ok := false) HL.out rfl (lowerRow o2 bel.size) (next bel b2) hgl
    clear x0 x1 x2 x3 f2 f3 bel hsz o2 b2 hz
    go_wp2
    refine bodyPost_ret (by simp [results, Tryz.results22, go_sem, y2, y3]; try rfl) rfl ?_
    exact HE.out
  · rw [hf, Bool.true_and] at hno'
    have HF : Hid _ := hf
    have HM : Hid _ := hno'
    clear hno hno' hf
    go_enter Tryz.func22, Tryz.ntmps22
    go_wp2_with fail
    refine (iFieldOk_is HF.out _ hl).mono ?_
    rintro e w1 ⟨rfl, b1⟩
    obtain ⟨x0, x1, x2, x3, f2, f3, _, _, bel, hsz⟩ := threebox b1
    clear b1
    go_wp2_with fail
    refine (iMessageOk_is HM.out (hz.below bel) hn hd).mono ?_
    rintro e w1' ⟨rfl, b1'⟩
    have x0 := (b1'.cell (p := ⟨w.heap.size, 0, none⟩) (by show w.heap.size < w1.heap.size; omega)).trans x0
    have x1 := (b1'.cell (p := ⟨w.heap.size, 1, none⟩) (by show w.heap.size < w1.heap.size; omega)).trans x1
    have x2 := (b1'.cell (p := ⟨w.heap.size + 1, 0, none⟩) (by show w.heap.size + 1 < w1.heap.size; omega)).trans x2
    have x3 := (b1'.cell (p := ⟨w.heap.size + 1, 1, none⟩) (by show w.heap.size + 1 < w1.heap.size; omega)).trans x3
    have f2 := (b1'.frozen (p := ⟨w.heap.size + 1, 0, none⟩) (by show w.heap.size + 1 < w1.heap.size; omega)).trans f2
    have f3 := (b1'.frozen (p := ⟨w.heap.size + 1, 1, none⟩) (by show w.heap.size + 1 < w1.heap.size; omega)).trans f3
    have bel := next bel b1'
    have hsz' := b1'.size
    clear b1'
    go_wp2_with fail
    refine (copyMessage_any _ _ _ _ _ (hz.below bel) (by omega) hds).mono ?_
    rintro e w2 ⟨g, rfl, o2, b2⟩
    have y2 := (b2.cell (p := ⟨w.heap.size + 1, 0, none⟩) (by show w.heap.size + 1 < w1'.heap.size; omega)).trans x2
    have y3 := (b2.cell (p := ⟨w.heap.size + 1, 1, none⟩) (by show w.heap.size + 1 < w1'.heap.size; omega)).trans x3
    have z2 := (b2.frozen (p := ⟨w.heap.size + 1, 0, none⟩) (by show w.heap.size + 1 < w1'.heap.size; omega)).trans f2
    have z3 := (b2.frozen (p := ⟨w.heap.size + 1, 1, none⟩) (by show w.heap.size + 1 < w1'.heap.size; omega)).trans f3
    have hgl : w.heap.size + 1 < g := by have := (o2.lt g rfl).1; omega
    have HE : Hid _ := with_end (kd := kd) (ok := false) HL.out rfl (lowerRow o2 bel.size) (next bel b2) hgl
    clear x0 x1 x2 x3 f2 f3 bel hsz o2 b2 hz
    go_wp2
    refine bodyPost_ret (by simp [results, Tryz.results22, go_sem, y2, y3]; try rfl) rfl ?_
    exact HE.out

end Go.Proofs.YtbncdhfmhokgeaaGreatDoor

/- Batches of messages, plainly: their records, their sum, when there is a batch. No Go in sight. -/
namespace Go.Proofs.YtbncdhfmhokgeaaGreatDoor

abbrev Msg := Int × List Fld
def mAt (ms : List Msg) (k : Nat) : Msg := ms.getD k (0, [])
theorem mAt_is {ms : List Msg} {k : Nat} (h : k < ms.length) : mAt ms k = ms[k] := by simp [mAt, List.getD_eq_getElem?_getD, h]
theorem mAt_mem {ms : List Msg} {k : Nat} (h : k < ms.length) : mAt ms k ∈ ms := by rw [mAt_is h]; exact List.getElem_mem h
theorem take_mAt (ms : List Msg) (k : Nat) (h : k < ms.length) : ms.take (k + 1) = ms.take k ++ [mAt ms k] := by
  rw [List.take_succ_eq_append_getElem h, mAt_is h]
/-- a message's amount: the number of its field 4, 0 when there is none -/
def amtOf (m : Msg) : Int := ((fOf m.2 4).map numOf).getD 0
def sumA (ms : List Msg) : Int := (ms.map amtOf).sum
theorem sumA_step (ms : List Msg) (k : Nat) (h : k < ms.length) : sumA (ms.take (k + 1)) = sumA (ms.take k) + amtOf (mAt ms k) := by
  rw [take_mAt ms k h]; simp [sumA]
def place (i : Nat) : List UInt8 := padT i 8
def headF : List Fld := [(24, [54, 57, 55])]
def tailF (ms : List Msg) : List Fld := [(4, padT (sumA ms) 12), (24, [54, 57, 53]), (71, padT ms.length 8)]
def recOf (m : Msg) (i : Nat) : List UInt8 := packL m.1 (withF m.2 71 (place i))
def headM (ms : List Msg) : List Msg := (1644, headF) :: ms
/-- the first k records of a batch's messages, the head's among them -/
def recsTo (L : List Msg) (k : Nat) : Recs := (List.range k).map fun i => recOf (mAt L i) (i + 1)
theorem recsTo_succ (L : List Msg) (k : Nat) : recsTo L (k + 1) = recsTo L k ++ [recOf (mAt L k) (k + 1)] := by simp [recsTo, List.range_succ]
theorem recsTo_len (L : List Msg) (k : Nat) : (recsTo L k).length = k := by simp [recsTo]
def msgOkM (m : Msg) : Bool := msgOk m.1 m.2
def allOk (ms : List Msg) : Bool := ms.all msgOkM
theorem allOk_mem {ms : List Msg} (h : allOk ms = true) : ∀ m ∈ ms, msgOk m.1 m.2 = true := fun m hm => List.all_eq_true.1 h m hm
theorem allOk_step (ms : List Msg) (k : Nat) (h : k < ms.length) : allOk (ms.drop k) = (msgOk (mAt ms k).1 (mAt ms k).2 && allOk (ms.drop (k + 1))) := by
  rw [List.drop_eq_getElem_cons h, mAt_is h]; rfl
theorem allOk_end (ms : List Msg) : allOk (ms.drop ms.length) = true := by rw [List.drop_of_length_le (Nat.le_refl _)]; rfl
def batchRecs (ms : List Msg) : Recs := recsTo (headM ms) (ms.length + 1) ++ [packL 1644 (tailF ms)]
def batchOk (ms : List Msg) : Bool := decide (ms.length ≤ 198) && (allOk ms && (decide (sumA ms < 1000000000000) && blockOk (batchRecs ms)))
def batchL (ms : List Msg) : List UInt8 := if batchOk ms = true then blockL (batchRecs ms) else []
theorem batchL_no {ms : List Msg} (h : batchOk ms = false) : batchL ms = [] := if_neg (by rw [h]; decide)
theorem batchOk_no1 {ms : List Msg} (h : 198 < ms.length) : batchOk ms = false := by simp [batchOk]; intro h1; omega
theorem batchOk_no2 {ms : List Msg} (h : allOk ms = false) : batchOk ms = false := by simp [batchOk, h]
theorem batchOk_no3 {ms : List Msg} (h : 1000000000000 ≤ sumA ms) : batchOk ms = false := by
  have : ¬ sumA ms < 1000000000000 := by omega
  simp [batchOk, this]
theorem batchOk_is {ms : List Msg} (h1 : ms.length ≤ 198) (h2 : allOk ms = true) (h3 : sumA ms < 1000000000000) : batchOk ms = blockOk (batchRecs ms) := by
  simp [batchOk, h1, h2, h3]
theorem batchL_is {ms : List Msg} (h1 : ms.length ≤ 198) (h2 : allOk ms = true) (h3 : sumA ms < 1000000000000) : batchL ms = blockL (batchRecs ms) := by
  unfold batchL; rw [batchOk_is h1 h2 h3]
  cases h : blockOk (batchRecs ms)
  · rw [if_neg (by decide), blockL_no h]
  · rw [if_pos rfl]

theorem padT8 {i : Nat} (h : i < 100000000) : (place i).length = 8 ∧ within 48 57 (place i) = true := by
  have e : place i = padN i 8 := padT_yes (n := 8) (by omega) (by omega) (by simpa using h)
  rw [e]; exact ⟨padN_len (by omega) (by simpa using h), padN_dig _ _⟩
theorem place_len (i : Nat) : (place i).length ≤ 18 := padT_l _ _
theorem field71 {i : Nat} (h : i < 100000000) : fieldOk 71 (place i) = true := by
  obtain ⟨h1, h2⟩ := padT8 h
  show fieldKS (fK 71) (fS 71) (place i) = true
  rw [show fK 71 = 1 by decide, show fS 71 = 8 by decide]
  simp [fieldKS, h1, h2]
theorem withOk71 {kd : Int} {fs : List Fld} {i : Nat} (h : i < 100000000) : withOk kd fs 71 (place i) = msgOk kd fs := by
  unfold withOk; rw [field71 h]; rfl
/-- a field put into a right message leaves it right -/
theorem okF_filter {q : Fld → Bool} : ∀ {fs : List Fld} {p : Int}, okF p fs = true → okF p (fs.filter q) = true := by
  intro fs
  induction fs with
  | nil => intro p _; rfl
  | cons f r ih =>
    intro p h
    simp only [okF, Bool.and_eq_true, decide_eq_true_eq] at h
    have low : ∀ {l : List Fld} {a b : Int}, a ≤ b → okF b l = true → okF a l = true := by
      intro l a b hab hl
      cases l with
      | nil => rfl
      | cons g s =>
        simp only [okF, Bool.and_eq_true, decide_eq_true_eq] at hl ⊢
        exact ⟨⟨hl.1.1, by omega⟩, hl.2⟩
    by_cases hq : q f = true
    · rw [List.filter_cons_of_pos hq]
      simp only [okF, Bool.and_eq_true, decide_eq_true_eq]
      exact ⟨h.1, ih h.2⟩
    · rw [List.filter_cons_of_neg hq]
      exact low (by omega) (ih h.2)
theorem okF_low {l : List Fld} {a b : Int} (hab : a ≤ b) (hl : okF b l = true) : okF a l = true := by
  cases l with
  | nil => rfl
  | cons g s =>
    simp only [okF, Bool.and_eq_true, decide_eq_true_eq] at hl ⊢
    exact ⟨⟨hl.1.1, by omega⟩, hl.2⟩
theorem okF_high {l : List Fld} {a b : Int} (hl : okF a l = true) (hb : ∀ f ∈ l, b < f.1) : okF b l = true := by
  cases l with
  | nil => rfl
  | cons g s =>
    simp only [okF, Bool.and_eq_true, decide_eq_true_eq] at hl ⊢
    exact ⟨⟨hl.1.1, hb g (List.mem_cons_self ..)⟩, hl.2⟩
theorem okF_app {b : Int} {r : List Fld} (hr : okF b r = true) : ∀ {l : List Fld} {p : Int}, okF p l = true → (∀ f ∈ l, f.1 ≤ b) → p ≤ b → okF p (l ++ r) = true := by
  intro l
  induction l with
  | nil => intro p _ _ hp; exact okF_low hp hr
  | cons g s ih =>
    intro p hl hb hp
    simp only [okF, Bool.and_eq_true, decide_eq_true_eq] at hl
    show ((fieldOk g.1 g.2 && decide (p < g.1)) && okF g.1 (s ++ r)) = true
    rw [hl.1.1, decide_eq_true hl.1.2, ih hl.2 (fun f hf => hb f (List.mem_cons_of_mem _ hf)) (hb g (List.mem_cons_self ..))]; rfl
theorem okF_withF {fs : List Fld} {num : Int} {d : List UInt8} (h : okF 1 fs = true) (hf : fieldOk num d = true) (hn : 1 < num) : okF 1 (withF fs num d) = true := by
  unfold withF
  have h2 : okF num (fs.filter (gtN num)) = true := okF_high (okF_filter h) fun f hf => by
    have := (List.mem_filter.1 hf).2
    simpa [gtN] using this
  have h3 : okF (num - 1) ((num, d) :: fs.filter (gtN num)) = true := by
    show ((fieldOk num d && decide (num - 1 < num)) && okF num (fs.filter (gtN num))) = true
    rw [hf, h2, decide_eq_true (by omega)]; rfl
  refine okF_app h3 (okF_filter h) (fun f hf => ?_) (by omega)
  have := (List.mem_filter.1 hf).2
  have : f.1 < num := by simpa [ltN] using this
  omega
theorem msgOk_with {kd : Int} {fs : List Fld} {i : Nat} (h : msgOk kd fs = true) (hi : i < 100000000) : msgOk kd (withF fs 71 (place i)) = true := by
  obtain ⟨h1, h2⟩ := msgOk_parts h
  unfold msgOk
  rw [decide_eq_true h1, okF_withF h2 (field71 hi) (by omega)]; rfl
theorem head_ok : msgOk 1644 headF = true := by decide
theorem dec1 : place 1 = [48, 48, 48, 48, 48, 48, 48, 49] := by
  have e : place 1 = padN 1 8 := padT_yes (x := 1) (n := 8) (by omega) (by omega) (by simp)
  have d : Lib.decDigits 1 = [49] := by rw [Lib.decDigits, dif_pos (by omega)]; rfl
  rw [e, padN, d]; rfl
def head1 : List Fld := [(24, [54, 57, 55]), (71, [48, 48, 48, 48, 48, 48, 48, 49])]
theorem head_with : withF headF 71 (place 1) = head1 := by rw [dec1]; decide
theorem head1_ok : msgOk 1644 head1 = true := by decide
theorem recsTo_one (ms : List Msg) : recsTo (headM ms) 1 = [packL 1644 head1] := by
  show [packL 1644 (withF headF 71 (place 1))] = _
  rw [head_with]

/-- amounts of right messages -/
theorem fOf_mem {fs : List Fld} {n : Int} {d : List UInt8} (h : fOf fs n = some d) : (n, d) ∈ fs := by
  induction fs with
  | nil => cases h
  | cons f r ih =>
    simp only [fOf] at h
    split at h
    · rename_i e
      obtain rfl : f.2 = d := by simpa using h
      rw [← e]; exact List.mem_cons_self ..
    · exact List.mem_cons_of_mem _ (ih h)
theorem amt_bd {m : Msg} (h : msgOk m.1 m.2 = true) : 0 ≤ amtOf m ∧ amtOf m < 1000000000000 := by
  unfold amtOf
  cases hf : fOf m.2 4 with
  | none => simp
  | some d =>
    have hk := (okF_mem (msgOk_parts h).2 _ (fOf_mem hf)).1
    have e : d.length = 12 ∧ within 48 57 d = true := by
      have : fieldKS (fK 4) (fS 4) d = true := hk
      rw [show fK 4 = 1 by decide, show fS 4 = 12 by decide] at this
      simp [fieldKS] at this
      exact ⟨by omega, this.2⟩
    have hb := val_bound d e.2 d.length (Nat.le_refl _)
    rw [List.take_of_length_le (Nat.le_refl _), e.1] at hb
    show 0 ≤ numOf d ∧ numOf d < 1000000000000
    rw [numOf_yes (by omega) e.2]
    omega
theorem sum_bd : ∀ {ms : List Msg}, allOk ms = true → 0 ≤ sumA ms ∧ sumA ms ≤ 1000000000000 * ms.length := by
  intro ms
  induction ms with
  | nil => intro _; simp [sumA]
  | cons m r ih =>
    intro h
    have h1 := amt_bd (allOk_mem h m (List.mem_cons_self ..))
    have h2 := ih (List.all_eq_true.2 fun x hx => allOk_mem h x (List.mem_cons_of_mem _ hx))
    simp only [sumA, List.map_cons, List.sum_cons, List.length_cons] at h2 ⊢
    omega
theorem allOk_take {ms : List Msg} (h : allOk ms = true) (k : Nat) : allOk (ms.take k) = true := List.all_eq_true.2 fun x hx => allOk_mem h x (List.mem_of_mem_take hx)
theorem tail_ok {ms : List Msg} (h0 : 0 ≤ sumA ms) (hl : ms.length ≤ 198) : msgOk 1644 (tailF ms) = decide (sumA ms < 1000000000000) := by
  have h71 : fieldOk 71 (padT ms.length 8) = true := field71 (i := ms.length) (by omega)
  have h24 : fieldOk 24 [54, 57, 53] = true := by decide
  have h4 : fieldOk 4 (padT (sumA ms) 12) = decide (sumA ms < 1000000000000) := by
    show fieldKS (fK 4) (fS 4) _ = _
    rw [show fK 4 = 1 by decide, show fS 4 = 12 by decide]
    obtain ⟨s, hs⟩ := Int.eq_ofNat_of_zero_le h0
    rw [hs]
    by_cases hlt : s < 1000000000000
    · have e : padT (s : Int) 12 = padN s 12 := padT_yes (n := 12) (by omega) (by omega) (by simpa using hlt)
      rw [e, decide_eq_true (by omega)]
      have a := padN_len (x := s) (n := 12) (by omega) (by simpa using hlt)
      have b := padN_dig s 12
      simp [fieldKS, a, b]
    · have e : padT (s : Int) 12 = [] := padT_no (padOk_no2 (by
        rw [show ((10 ^ (12 : Int).toNat : Nat) : Int) = 1000000000000 by decide]; omega))
      rw [e, decide_eq_false (by omega)]; rfl
  show (decide _ && ((fieldOk 4 _ && decide _) && ((fieldOk 24 _ && decide _) && ((fieldOk 71 _ && decide _) && true)))) = _
  rw [h4, h24, h71]
  simp
theorem sum3 (a b c : List UInt8) (ha : a.length ≤ 18) (hb : b.length ≤ 18) (hc : c.length ≤ 18) : sumF [(4, a), (24, c), (71, b)] ≤ 100 := by
  simp only [sumF, List.map_cons, List.map_nil, List.sum_cons, List.sum_nil]
  omega
theorem tailF_bd (ms : List Msg) : sumF (tailF ms) ≤ 100 := sum3 _ _ _ (padT_l _ _) (padT_l _ _) (by decide)

end Go.Proofs.YtbncdhfmhokgeaaGreatDoor

/- Slices of messages: those that came in, those in a row of one's own. -/
namespace Go.Proofs.YtbncdhfmhokgeaaGreatDoor
open Go.ChangeShapes Go.WideShapes Go.ChangeAt Go.RowKit Go.Deep

/-- a message as it lies: its kind, where its fields lie, and what they are -/
structure MV where
  kd : Int
  ao : Option Addr
  cap : Nat
  fs : List Fld
instance : Inhabited MV := ⟨⟨0, none, 0, []⟩⟩
def MV.m (x : MV) : Msg := (x.kd, x.fs)
def MV.z : MV := ⟨0, none, 0, []⟩
def vAt (xs : List MV) (k : Nat) : MV := xs.getD k MV.z
theorem vAt_is {xs : List MV} {k : Nat} (h : k < xs.length) : vAt xs k = xs[k] := by simp [vAt, List.getD_eq_getElem?_getD, h]
theorem vAt_mem {xs : List MV} {k : Nat} (h : k < xs.length) : vAt xs k ∈ xs := by rw [vAt_is h]; exact List.getElem_mem h
def plainM (xs : List MV) : List Msg := xs.map MV.m
theorem plainM_len (xs : List MV) : (plainM xs).length = xs.length := by simp [plainM]
theorem plainM_at {xs : List MV} {k : Nat} (h : k < xs.length) : mAt (plainM xs) k = ((vAt xs k).kd, (vAt xs k).fs) := by
  rw [mAt_is (by rw [plainM_len]; exact h), vAt_is h]; simp [plainM, MV.m]
theorem plainM_mem {xs : List MV} {x : MV} (h : x ∈ xs) : (x.kd, x.fs) ∈ plainM xs := List.mem_map.2 ⟨x, h, rfl⟩

/-- The slice of messages at 'ao' reads as 'xs' in w. -/
def MsgsAt (w : World) (ao : Option Addr) (xs : List MV) : Prop :=
  (xs = [] ∨ ∃ b off, ao = some ⟨b, off, none⟩ ∧ b < w.heap.size ∧ ∀ i, i < xs.length →
    w.cell? ⟨b, off + i * 2, none⟩ = some (.int .i64 (vAt xs i).kd) ∧ w.cell? ⟨b, off + i * 2 + 1, none⟩ = some (.slice (vAt xs i).ao (vAt xs i).fs.length (vAt xs i).cap)) ∧
  ∀ x ∈ xs, FldsAt w x.ao x.fs
def MsgsBd (xs : List MV) : Prop := xs.length ≤ maxLen ∧ ∀ x ∈ xs, FldsBd x.fs
theorem MsgsAt.below {w w' : World} {ao : Option Addr} {xs : List MV} (h : MsgsAt w ao xs) (hb : Below w.heap.size w w') : MsgsAt w' ao xs := by
  refine ⟨?_, fun x hx => (h.2 x hx).below hb⟩
  rcases h.1 with h | ⟨b, off, h1, h2, h3⟩
  · exact .inl h
  · exact .inr ⟨b, off, h1, Nat.lt_of_lt_of_le h2 hb.size, fun i hi => ⟨(hb.cell (p := ⟨b, off + i * 2, none⟩) h2).trans (h3 i hi).1, (hb.cell (p := ⟨b, off + i * 2 + 1, none⟩) h2).trans (h3 i hi).2⟩⟩
/-- what is read at place k -/
theorem MsgsAt.at {w : World} {ao : Option Addr} {xs : List MV} (h : MsgsAt w ao xs) {k : Nat} (hk : k < xs.length) :
    ∃ b off, ao = some ⟨b, off, none⟩ ∧ b < w.heap.size ∧ w.cell? ⟨b, off + k * 2, none⟩ = some (.int .i64 (vAt xs k).kd) ∧ w.cell? ⟨b, off + k * 2 + 1, none⟩ = some (.slice (vAt xs k).ao (vAt xs k).fs.length (vAt xs k).cap) ∧ FldsAt w (vAt xs k).ao (vAt xs k).fs := by
  rcases h.1 with rfl | ⟨b, off, h1, h2, h3⟩
  · simp at hk
  · exact ⟨b, off, h1, h2, (h3 k hk).1, (h3 k hk).2, h.2 _ (vAt_mem hk)⟩

theorem flds_open {P : Program} {H : Type} {enc : TypeId × Value → H} {W : World} {t e : TypeId} {g0 g1 : Field} {fuel : Nat} {y : Value} {x : DataW H × List MemPlace}
    (t1 : P.underlying t = some (.slice e))
    (he : P.underlying e = some (.struct #[g0, g1])) (ce : P.cellsOf e = 2) (p0 : g0.offset = 0) (p1 : g1.offset = 1) (d0 : P.cellsOf g0.type = 1) (d1 : P.cellsOf g1.type = 1)
    (u0 : P.underlying g0.type = some (.int .i64)) (u1 : P.underlying g1.type = some .string)
    (h1 : DataW.trod enc P W 0 (fun _ => true) true fuel t [y] = some x) :
    ∃ a cap fs, y = .slice a (List.length fs) cap ∧ FldsAt W a fs ∧ FldsBd fs := by
  rcases open_slice_pairs t1 he ce p0 p1 d0 d1 h1 with ⟨e1, _⟩ | ⟨a, len, cap, m, k, V0, V1, D0, D1, P0, P1, e1, hb, hlc, hm, hmm, _, hx⟩
  · simp at e1
    exact ⟨none, 0, [], by rw [e1]; rfl, .inl rfl, Nat.zero_le _, fun f hf => by cases hf⟩
  · simp at e1 hmm
    subst hmm
    obtain ⟨F, hF⟩ := choose_lt (α := Fld) (n := m) (p := fun i f => V0 i = .int .i64 f.1 ∧ V1 i = .string ⟨f.2.toArray⟩ ∧ f.2.length ≤ maxLen) (fun i hi => by
      obtain ⟨_, _, g2, g3⟩ := hx i hi
      obtain ⟨z, q0, _⟩ := DataW.trod_int u0 g2
      obtain ⟨s, q1, _, hs⟩ := DataW.trod_string u1 g3
      simp at q0 q1
      exact ⟨(z, s.data.toList), q0, by rw [q1], by show s.data.toList.length ≤ maxLen; rw [Array.length_toList]; exact hs⟩)
    refine ⟨some a, m, (List.range len).map F, by rw [e1]; simp, ?_, by rw [List.length_map, List.length_range]; exact Nat.le_trans hlc hm, fun f hf => by
      obtain ⟨i, hi, rfl⟩ := List.mem_map.1 hf
      exact (hF i (by have := List.mem_range.1 hi; omega)).2.2⟩
    by_cases hz : len = 0
    · subst hz; exact .inl rfl
    · obtain ⟨bk, off, spot⟩ := a
      have hc0 := (hx 0 (by omega)).1
      have hspot : spot = none := by simpa [Addr.add] using World.cell?_spot hc0
      subst hspot
      refine .inr ⟨bk, off, rfl, ?_, fun i hi => ?_⟩
      · exact World.block_lt_of_cell? W _ hc0
      · have hi' : i < len := by simpa using hi
        have hat : at0 ((List.range len).map F) i = F i := by simp [at0, List.getD_eq_getElem?_getD, hi']
        obtain ⟨g0, g1, _, _⟩ := hx i (by omega)
        rw [hat, ← (hF i (by omega)).1, ← (hF i (by omega)).2.1]
        rw [add_plain] at g0 g1
        exact ⟨g0, by rw [Nat.add_assoc]; exact g1⟩

/-- a slice of messages that came in -/
theorem is_msgs {P : Program} {H : Type} {enc : TypeId × Value → H} {W : World} {r : Reach} {base : Nat} {t s e : TypeId} {f0 f1 g0 g1 : Field} {v : Value} {d : DataW H} {p : List MemPlace}
    (ht : P.underlying t = some (.slice s))
    (hs : P.underlying s = some (.struct #[f0, f1])) (hc : P.cellsOf s = 2) (o0 : f0.offset = 0) (o1 : f1.offset = 1) (c0 : P.cellsOf f0.type = 1) (c1 : P.cellsOf f1.type = 1)
    (t0 : P.underlying f0.type = some (.int .i64)) (t1 : P.underlying f1.type = some (.slice e))
    (he : P.underlying e = some (.struct #[g0, g1])) (ce : P.cellsOf e = 2) (p0 : g0.offset = 0) (p1 : g1.offset = 1) (d0 : P.cellsOf g0.type = 1) (d1 : P.cellsOf g1.type = 1)
    (u0 : P.underlying g0.type = some (.int .i64)) (u1 : P.underlying g1.type = some .string)
    (hv : Value.okWide P W r base t v) (h : DataW.Trod enc P W 0 (fun _ => true) true t v d p) :
    ∃ a cap xs, v = .slice a (List.length xs) cap ∧ MsgsAt W a xs ∧ MsgsBd xs := by
  obtain ⟨va, vl, vc, rfl⟩ := okWide_slice ht hv
  obtain ⟨fuel, h1⟩ := h
  rcases open_slice_pairs ht hs hc o0 o1 c0 c1 h1 with ⟨e1, _⟩ | ⟨a, len, cap, m, k, V0, V1, D0, D1, P0, P1, e1, hb, hlc, hm, hmm, _, hx⟩
  · have e2 : Value.slice va vl vc = .slice none 0 0 := by simpa [Value.cells] using e1
    exact ⟨none, 0, [], e2, ⟨.inl rfl, fun f hf => by cases hf⟩, Nat.zero_le _, fun f hf => by cases hf⟩
  · simp at hmm
    subst hmm
    have e2 : Value.slice va vl vc = .slice (some a) len m := by simpa [Value.cells] using e1
    obtain ⟨F, hF⟩ := choose_lt (α := MV) (n := m) (p := fun i x => V0 i = .int .i64 x.kd ∧ V1 i = .slice x.ao x.fs.length x.cap ∧ FldsAt W x.ao x.fs ∧ FldsBd x.fs) (fun i hi => by
      obtain ⟨_, _, g2, g3⟩ := hx i hi
      obtain ⟨z, q0, _⟩ := DataW.trod_int t0 g2
      obtain ⟨fa, fc, fs, q1, q2, q3⟩ := flds_open t1 he ce p0 p1 d0 d1 u0 u1 g3
      simp at q0
      exact ⟨⟨z, fa, fc, fs⟩, q0, q1, q2, q3⟩)
    refine ⟨some a, m, (List.range len).map F, by rw [e2]; simp, ⟨?_, fun x hx => by
      obtain ⟨i, hi, rfl⟩ := List.mem_map.1 hx
      exact (hF i (by have := List.mem_range.1 hi; omega)).2.2.1⟩, by rw [List.length_map, List.length_range]; exact Nat.le_trans hlc hm, fun f hf => by
      obtain ⟨i, hi, rfl⟩ := List.mem_map.1 hf
      exact (hF i (by have := List.mem_range.1 hi; omega)).2.2.2⟩
    by_cases hz : len = 0
    · subst hz; exact .inl rfl
    · obtain ⟨bk, off, spot⟩ := a
      have hc0 := (hx 0 (by omega)).1
      have hspot : spot = none := by simpa [Addr.add] using World.cell?_spot hc0
      subst hspot
      refine .inr ⟨bk, off, rfl, ?_, fun i hi => ?_⟩
      · exact World.block_lt_of_cell? W _ hc0
      · have hi' : i < len := by simpa using hi
        have hat : vAt ((List.range len).map F) i = F i := by simp [vAt, List.getD_eq_getElem?_getD, hi']
        obtain ⟨g0, g1, _, _⟩ := hx i (by omega)
        rw [hat, ← (hF i (by omega)).1, ← (hF i (by omega)).2.1]
        rw [add_plain] at g0 g1
        exact ⟨g0, by rw [Nat.add_assoc]; exact g1⟩

def mcell (x : MV) : List Value := [.int .i64 x.kd, .slice x.ao x.fs.length x.cap]
def mcells (xs : List MV) : List Value := xs.flatMap mcell
theorem mcells_cons (x : MV) (r : List MV) : mcells (x :: r) = .int .i64 x.kd :: .slice x.ao x.fs.length x.cap :: mcells r := rfl
theorem mcells_append (a b : List MV) : mcells (a ++ b) = mcells a ++ mcells b := by simp [mcells]
theorem mcells_len (xs : List MV) : (mcells xs).length = xs.length * 2 := by
  induction xs with
  | nil => rfl
  | cons f r ih => rw [mcells_cons]; simp [ih]; omega
theorem mcells_at (xs : List MV) : ∀ k, k < xs.length → (mcells xs)[k * 2]? = some (.int .i64 (vAt xs k).kd) ∧ (mcells xs)[k * 2 + 1]? = some (.slice (vAt xs k).ao (vAt xs k).fs.length (vAt xs k).cap) := by
  induction xs with
  | nil => intro k h; simp at h
  | cons f r ih =>
    intro k h
    rw [mcells_cons]
    cases k with
    | zero => exact ⟨rfl, rfl⟩
    | succ k =>
      have := ih k (by simpa using h)
      rw [show (k + 1) * 2 = k * 2 + 1 + 1 by omega, List.getElem?_cons_succ, List.getElem?_cons_succ, List.getElem?_cons_succ, List.getElem?_cons_succ]
      exact this
theorem mcells_set (xs : List MV) (x : MV) : ∀ k, k < xs.length → ((mcells xs).set (k * 2) (.int .i64 x.kd)).set (k * 2 + 1) (.slice x.ao x.fs.length x.cap) = mcells (xs.set k x) := by
  induction xs with
  | nil => intro k h; simp at h
  | cons g r ih =>
    intro k h
    rw [mcells_cons]
    cases k with
    | zero => rfl
    | succ k =>
      have := ih k (by simpa using h)
      rw [show (k + 1) * 2 = k * 2 + 1 + 1 by omega, List.set_cons_succ, List.set_cons_succ, List.set_cons_succ, List.set_cons_succ, this]
      rfl
theorem mcells_one (xs : List MV) : ∀ u ∈ mcells xs, u.oneCell' = true := by
  intro u hu
  simp only [mcells, List.mem_flatMap, mcell] at hu
  obtain ⟨f, _, hf⟩ := hu
  simp at hf
  rcases hf with rfl | rfl <;> rfl

theorem msgs_of_own {w : World} {base n : Nat} {t : TypeId} {v : Value} {xs : List MV} (h : w.ownsRow base t 2 v n (mcells xs)) (hf : ∀ x ∈ xs, FldsAt w x.ao x.fs) : ∃ ao cap, v = .slice ao xs.length cap ∧ MsgsAt w ao xs ∧ n = xs.length := by
  have hn : n = xs.length := by have := h.1; rw [mcells_len] at this; omega
  subst hn
  rcases h.2 with ⟨rfl, hn⟩ | ⟨g, cap, cur, rfl, _⟩
  · have : xs = [] := List.eq_nil_of_length_eq_zero hn
    subst this
    exact ⟨none, 0, rfl, ⟨.inl rfl, hf⟩, rfl⟩
  · refine ⟨_, cap, rfl, ⟨?_, hf⟩, rfl⟩
    by_cases h0 : xs = []
    · exact .inl h0
    · refine .inr ⟨g, 0, rfl, (h.lt g rfl).2, fun i hi => ?_⟩
      have := mcells_at xs i hi
      rw [Nat.zero_add, h.cellAt (i * 2) (by omega), h.cellAt (i * 2 + 1) (by omega)]
      exact this

theorem infoM : (Tryz.prog.info? 26).map (fun i => (i.zero, i.size, i.bytes)) = some (some (.agg #[.int .i64 0, .slice none 0 0]), 2, 32) := by kernel_rfl
theorem cells_repM (m : Nat) : (madeCells (Value.agg #[.int .i64 0, .slice none 0 0]).cells (m * 2)).toList = mcells (List.replicate m MV.z) := by
  apply List.ext_getElem?
  intro j
  by_cases hj : j < m * 2
  · have hq : j / 2 < (List.replicate m MV.z).length := by simp; omega
    have ha : vAt (List.replicate m MV.z) (j / 2) = MV.z := by
      simp [vAt, List.getD_eq_getElem?_getD, List.getElem?_replicate]; split <;> rfl
    have h := mcells_at _ _ hq
    rw [ha] at h
    have hl : (madeCells (Value.agg #[.int .i64 0, .slice none 0 0]).cells (m * 2)).toList[j]? = some ((#[Value.int .i64 0, .slice none 0 0] : Array Value)[j % 2]!) := by
      simp [madeCells, hj, Value.cells]
    rcases Nat.mod_two_eq_zero_or_one j with e | e
    · rw [hl, e, show j = j / 2 * 2 by omega, h.1]; rfl
    · rw [hl, e, show j = j / 2 * 2 + 1 by omega, h.2]; rfl
  · rw [List.getElem?_eq_none (by rw [Array.length_toList, size_madeCells]; omega), List.getElem?_eq_none (by rw [mcells_len]; simp; omega)]

theorem msgs_news {w : World} {a : Addr} {xs : List MV} (h : MsgsAt w (some a) xs) : ∀ j u, (mcells xs)[j]? = some u → w.cell? (a.add j) = some u := by
  intro j u hj
  have hlt : j < xs.length * 2 := by
    rw [← mcells_len]
    exact (List.getElem?_eq_some_iff.1 hj).1
  rcases h.1 with rfl | ⟨b', off', hq, hb, hc⟩
  · simp at hlt
  · obtain rfl : a = ⟨b', off', none⟩ := by simpa using hq
    have e : ((⟨b', off', none⟩ : Addr).add j) = ⟨b', off' + j, none⟩ := by unfold Addr.add; split <;> simp_all
    have hk := hc (j / 2) (by omega)
    have hf := mcells_at xs (j / 2) (by omega)
    rw [e]
    rcases Nat.mod_two_eq_zero_or_one j with m | m
    · have hj' : j = j / 2 * 2 := by omega
      rw [hj', hf.1] at hj
      rw [hj', hk.1]; exact hj
    · have hj' : j = j / 2 * 2 + 1 := by omega
      rw [hj', hf.2] at hj
      rw [hj', ← Nat.add_assoc, hk.2]; exact hj

theorem run_append_msgs (w : World) (base : Nat) (ty : TypeId) (v : Value) (n : Nat) (cs : List Value) (hown : w.ownsRow base 26 2 v n cs) (ao : Option Addr) (c : Nat) (xs : List MV) (hz : MsgsAt w ao xs)
    (hn : n + xs.length ≤ 4000000) (hbase : base ≤ w.heap.size) :
    ∃ v' w', (Builtin.append_ #[35, 35] ty #[v, .slice ao xs.length c]).run Tryz.prog w = .ok v' w' ∧ w'.ownsRow base 26 2 v' (n + xs.length) (cs ++ mcells xs) ∧ w.grownBy w' v.ownBlock ∧
      (v ≠ .slice none 0 0 → v' ≠ .slice none 0 0) := by
  obtain ⟨i0, hi, hz0, hz1, hz2⟩ := info_parts infoM
  cases ao with
  | none =>
    have hf : xs = [] := by
      rcases hz.1 with h | ⟨b, off, h, _⟩
      · exact h
      · cases h
    subst hf
    refine ⟨v, w, ?_, by simpa [mcells] using hown, ⟨rfl, rfl, rfl, Nat.le_refl _, fun _ _ _ => rfl⟩, id⟩
    have hu := Tryz.underlying35
    rcases hown.2 with ⟨rfl, rfl⟩ | ⟨g, cap, cur, rfl, hbg, hg, hnc, hcm, hcs, htake⟩
    · simp [Builtin.append_, run_underlying hu, sizeOf, typeInfo, hi, Builtin.lenOf, Builtin.firstCells]
    · simp [Builtin.append_, run_underlying hu, sizeOf, typeInfo, hi, Builtin.lenOf, Builtin.firstCells, loadCells, hnc, storeCells]
  | some a =>
    obtain ⟨v', w', h1, h2, h3, h4, _⟩ := run_append_own_at (P := Tryz.prog) w base 35 ty 26 i0 _ 2 32 Tryz.underlying35 hi hz0 hz1 hz2 rfl (by decide) v n cs hown a xs.length c (mcells xs) (mcells_len xs) (msgs_news hz) (mcells_one xs) (by unfold maxLen; omega) (by omega) hbase
    exact ⟨v', w', h1, h2, h3, fun hne h => hne (h4.1 h).1⟩

theorem wpList_append_msgs {ops : Array Oper} {rest : List Oper} {o : Oper} {a : Act} {Q : Exit → Act → World → Prop} (w : World) (hgd : o.guard = none) (s x : Operand)
    (ho : o.op = .call { callee := .builtin .append, args := #[s, x], argTypes := #[35, 35] }) (base : Nat) (v : Value) (n : Nat) (cs : List Value) (hs : a.eval s = v) (hown : w.ownsRow base 26 2 v n cs)
    (ao : Option Addr) (c : Nat) (xs : List MV) (hx : a.eval x = .slice ao xs.length c) (hz : MsgsAt w ao xs) (hn : n + xs.length ≤ 4000000) (hbase : base ≤ w.heap.size)
    (h : ∀ v' w', w'.ownsRow base 26 2 v' (n + xs.length) (cs ++ mcells xs) → w.grownBy w' v.ownBlock → (v ≠ .slice none 0 0 → v' ≠ .slice none 0 0) → wpList Tryz.prog ops Q rest (a.put o.dst v') w') : wpList Tryz.prog ops Q (o :: rest) a w := by
  obtain ⟨v', w', hr, h1, h2, h3⟩ := run_append_msgs w base o.type v n cs hown ao c xs hz hn hbase
  exact Lib.wpList_append_run w hgd s x _ _ ho _ _ hs hx v' w' hr (h v' w' h1 h2 h3)

theorem wpList_append_msg {ops : Array Oper} {rest : List Oper} {o : Oper} {a : Act} {Q : Exit → Act → World → Prop} (w : World) (hgd : o.guard = none) (s x : Operand)
    (ho : o.op = .call { callee := .builtin .append, args := #[s, x], argTypes := #[35, 35] }) (base : Nat) (v : Value) (n : Nat) (cs : List Value) (hs : a.eval s = v) (hown : w.ownsRow base 26 2 v n cs)
    (m : MV) (ad : Addr) (hx : a.eval x = .slice (some ad) 1 1) (hnews : ∀ j u, (mcells [m])[j]? = some u → w.cell? (ad.add j) = some u) (hn : n ≤ 4000000) (hbase : base ≤ w.heap.size)
    (h : ∀ v' w', w'.ownsRow base 26 2 v' (n + 1) (cs ++ mcells [m]) → w.grownBy w' v.ownBlock → (v'.ownBlock = v.ownBlock ∨ v'.ownBlock = some w.heap.size) → wpList Tryz.prog ops Q rest (a.put o.dst v') w') : wpList Tryz.prog ops Q (o :: rest) a w := by
  obtain ⟨i0, hi, hz0, hz1, hz2⟩ := info_parts infoM
  obtain ⟨v', w', h1, h2, h3, _, h5⟩ := run_append_own_at (P := Tryz.prog) w base 35 o.type 26 i0 _ 2 32 Tryz.underlying35 hi hz0 hz1 hz2 rfl (by decide) v n cs hown ad 1 1 (mcells [m]) (mcells_len [m]) hnews (mcells_one [m]) (by unfold maxLen; omega) (by omega) hbase
  exact Lib.wpList_append_run w hgd s x _ _ ho _ _ hs hx v' w' h1 (h v' w' h2 h3 h5)

theorem one_msg {w : World} {g : Nat} {x : MV} (h0 : w.cell? ⟨g, 0, none⟩ = some (.int .i64 x.kd)) (h1 : w.cell? ⟨g, 1, none⟩ = some (.slice x.ao x.fs.length x.cap)) (h2 : FldsAt w x.ao x.fs) : MsgsAt w (some ⟨g, 0, none⟩) [x] :=
  ⟨.inr ⟨g, 0, rfl, World.block_lt_of_cell? w _ h0, fun i hi => by
    obtain rfl : i = 0 := by simpa using hi
    exact ⟨h0, h1⟩⟩, fun y hy => by
    obtain rfl : y = x := by simpa using hy
    exact h2⟩

end Go.Proofs.YtbncdhfmhokgeaaGreatDoor

/- The contract of the program's PackMessage. -/
namespace Go.Proofs.YtbncdhfmhokgeaaGreatDoor
open Go.RowKit

theorem iPutSet_F {ao : Option Addr} {cap : Nat} {fs : List Fld} {w : World} (hx : IntsAt w ao (numsF fs)) (hl : fs.length ≤ 1048576) :
    Calls Tryz.prog 33 #[.slice ao fs.length cap] w fun e w' => e = .returned (.tuple #[.string ⟨(setF fs).toArray⟩, .bool (putS (numsF fs)).isSome]) ∧ Below w.heap.size w w' := by
  have h := iPutSet_any ao cap (numsF fs) w hx (by rw [numsF_len]; exact hl)
  rwa [numsF_len] at h
theorem iMsg_is {kd : Int} {ao : Option Addr} {cap : Nat} {fs : List Fld} {w : World} {q : Bool} (hq : msgOk kd fs = q) (hz : FldsAt w ao fs) (hn : fs.length ≤ 1048576) (hd : sumF fs ≤ 1048576) :
    Calls Tryz.prog 35 #[.agg #[.int .i64 kd, .slice ao fs.length cap]] w fun e w' => e = .returned (.bool q) ∧ Below w.heap.size w w' := by
  rw [← hq]; exact iMessageOk_any kd ao cap fs w hz hn hd
theorem setF_len (fs : List Fld) : (setF fs).length ≤ 16 := putS_len _
theorem okF_take {fs : List Fld} {p : Int} (h : okF p fs = true) (k : Nat) : ∀ f ∈ fs.take k, fieldOk f.1 f.2 = true := fun f hf => (okF_mem h f (List.mem_of_mem_take hf)).1
theorem body_bd {fs : List Fld} (h : okF 1 fs = true) (k : Nat) : (bodyP (fs.take k)).length ≤ 100000 := by
  have h1 := bodyP_len (okF_take h k)
  have h2 : (fs.take k).length ≤ fs.length := by rw [List.length_take]; omega
  rcases okF_len h (by omega) with h3 | h3
  · rw [h3] at h1 h2 ⊢; simp [bodyP]
  · omega
theorem body_step (fs : List Fld) (k : Nat) (h : k < fs.length) : bodyP (fs.take (k + 1)) = bodyP (fs.take k) ++ putFld (at0 fs k).1 (at0 fs k).2 := by
  have e : at0 fs k = fs[k] := by simp [at0, List.getD_eq_getElem?_getD, h]
  rw [List.take_succ_eq_append_getElem h, bodyP_append, e, bodyP_one]

set_option maxRecDepth 100000 in
set_option maxHeartbeats 1600000 in
theorem iPack_any (kd : Int) (ao : Option Addr) (cap : Nat) (fs : List Fld) (w : World) (hz : FldsAt w ao fs) (hn : fs.length ≤ 1048576) (hd : sumF fs ≤ 1048576) (ht : Pow10 w) :
    Calls Tryz.prog 9 #[.agg #[.int .i64 kd, .slice ao fs.length cap]] w fun e w' => e = .returned (.tuple #[.string ⟨(packL kd fs).toArray⟩, .bool (msgOk kd fs)]) ∧ Below w.heap.size w w' := by
  have bel : Below w.heap.size w (w.alloc (.cells #[.int .i64 kd, .slice ao fs.length cap] 26)) := by go_grown
  have HT : Hid (Pow10 w) := ht
  go_enter Tryz.func9, Tryz.ntmps9
  go_wp2_with fail
  refine (numsOf_any _ _ _ _ (hz.below bel) hn).mono ?_
  rintro e w1 ⟨rfl, o1, b1⟩
  obtain ⟨c0, c1, q1, hs1⟩ := box2 b1
  have i1 : IntsAt w1 (some ⟨(w.alloc (.cells #[.int .i64 kd, .slice ao fs.length cap] 26)).heap.size, 0, none⟩) (numsF fs) := ints_of_own o1
  clear b1 o1 bel ht
  go_wp2_with fail
  refine (iPutSet_F (by simpa using i1) hn).mono ?_
  rintro e w2 ⟨rfl, b2⟩
  have q2 := next q1 b2
  obtain ⟨d0, d1⟩ := keep2 c0 c1 b2
  have hsb := hs1
  clear i1 b2 q1 c0 c1
  cases hm : msgOk kd fs
  · have HN : Hid _ := packL_no hm
    have HM : Hid _ := hm
    clear hm
    cases hs : (putS (numsF fs)).isSome
    · go_wp2
      go_ret2
      exact ⟨str_ok (by rw [HN.out]) HM.out.symm, q2⟩
    · go_wp2_with fail
      refine (iMsg_is HM.out (hz.below q2) hn hd).mono ?_
      rintro e w3 ⟨rfl, b3⟩
      have q3 := next q2 b3
      clear b3 q2
      go_wp2
      go_ret2
      exact ⟨str_ok (by rw [HN.out]) HM.out.symm, q3⟩
  · have HY : Hid _ := packL_yes hm
    have HM : Hid _ := hm
    have HOK : Hid _ := (msgOk_parts hm).2
    rw [set_ok hm]
    clear hm
    go_wp2_with fail
    refine (iMsg_is HM.out (hz.below q2) hn hd).mono ?_
    rintro e w3 ⟨rfl, b3⟩
    have q3 := next q2 b3
    obtain ⟨c0, c1⟩ := keep2 d0 d1 b3
    clear b3 q2 d0 d1
    go_wp2_with fail
    refine (iPadNum_any _ _ _ (HT.out.below q3)).mono ?_
    rintro e w4 ⟨rfl, b4⟩
    have q4 := next q3 b4
    obtain ⟨d0, d1⟩ := keep2 c0 c1 b4
    have hpl := padT_l kd 4
    have hsl := setF_len fs
    have HT4 : Hid (Pow10 w4) := HT.out.below q4
    have HC : Hid (∀ i, i < fs.length → ∃ b off, ao = some ⟨b, off, none⟩ ∧ b < w4.heap.size ∧ w4.cell? ⟨b, off + i * 2, none⟩ = some (.int .i64 (at0 fs i).1) ∧ w4.cell? ⟨b, off + i * 2 + 1, none⟩ = some (.string ⟨(at0 fs i).2.toArray⟩)) := by
      rcases hz.below q4 with rfl | ⟨b, off, rfl, hb, hcell⟩
      · intro i hi; simp at hi
      · exact fun i hi => ⟨b, off, rfl, hb, hcell i hi⟩
    have HQ : Hid _ := q4
    clear b4 q3 c0 c1 q4 hz
    obtain ⟨p, hp⟩ : ∃ p, padT kd 4 = p := ⟨_, rfl⟩
    obtain ⟨s, hs⟩ : ∃ s, setF fs = s := ⟨_, rfl⟩
    rw [hp] at hpl HY ⊢
    rw [hs] at hsl HY ⊢
    clear hp hs
    go_wp2
    rw [ba_append]
    obtain ⟨H, hH⟩ : ∃ H, p ++ s = H := ⟨_, rfl⟩
    have hHl : H.length ≤ 34 := by rw [← hH, List.length_append]; omega
    rw [hH] at HY ⊢
    clear hH hpl hsl
    go_loopw [6, 33] (fun v i wr => ∃ k : Nat, k ≤ fs.length ∧ i = .int .i64 k ∧ v = .string ⟨(H ++ bodyP (fs.take k)).toArray⟩ ∧ Below w4.heap.size w4 wr) (fun _ i _ => fs.length - (intOf i).toNat)
    case atStart => exact ⟨0, Nat.zero_le _, rfl, by simp [bodyP], Below.refl _ _⟩
    case round =>
      obtain ⟨k, hk, rfl, rfl, hbr⟩ := hrel
      clear d0 d1
      have hbd := body_bd HOK.out k
      by_cases hlt : k < fs.length
      · obtain ⟨b, off, rfl, hb, e1, e2⟩ := HC.out k hlt
        have c1 : wr.cell? ⟨b, off + k * 2, none⟩ = some (.int .i64 (at0 fs k).1) := (hbr.cell (p := ⟨b, off + k * 2, none⟩) hb).trans e1
        have c2 : wr.cell? ⟨b, off + k * 2 + 1, none⟩ = some (.string ⟨(at0 fs k).2.toArray⟩) := (hbr.cell (p := ⟨b, off + k * 2 + 1, none⟩) hb).trans e2
        have hki : (k : Int) < (fs.length : Int) := by omega
        have HSTEP : Hid _ := body_step fs k hlt
        have hfo : fieldOk (at0 fs k).1 (at0 fs k).2 = true := (okF_mem HOK.out _ (at0_mem hlt)).1
        obtain ⟨⟨n, dt⟩, hf⟩ : ∃ f, at0 fs k = f := ⟨_, rfl⟩
        rw [hf] at c1 c2 HSTEP hfo
        simp only at c1 c2 HSTEP hfo
        have HF : Hid _ := hfo
        have hfl := putFld_len hfo
        have bx : Below w4.heap.size w4 (wr.alloc (.cells #[.int .i64 n, .string ⟨dt.toArray⟩] 60)) := hbr.alloc hbr.size _
        have HTr : Hid (Pow10 (wr.alloc (.cells #[.int .i64 n, .string ⟨dt.toArray⟩] 60))) := HT4.out.below bx
        obtain ⟨B, hB⟩ : ∃ B, H ++ bodyP (fs.take k) = B := ⟨_, rfl⟩
        have hBl : B.length ≤ 200000 := by rw [← hB, List.length_append]; omega
        rw [hB]
        have HB : Hid _ := hB
        clear hf hfo e1 e2 hB
        go_wp2_with fail
        refine (formOf_any _ _).mono ?_
        rintro e w5 ⟨rfl, hw5⟩
        subst hw5
        generalize knB n = kn
        go_wp2_with fail
        refine (putData_any _ _ _ HF.out HTr.out).mono ?_
        rintro e w6 ⟨rfl, b6⟩
        have bb : Below w4.heap.size w4 w6 := bx.trans (b6.mono (by have := hbr.size; simp; omega))
        obtain ⟨pf, hpf⟩ : ∃ x, putFld n dt = x := ⟨_, rfl⟩
        rw [hpf] at hfl HSTEP ⊢
        clear hpf b6 HTr bx
        generalize formV n = fv
        go_wp2
        go_roundw
        case rel => exact ⟨k + 1, by omega, by go_num, by rw [ba_append, HSTEP.out, ← HB.out, List.append_assoc], bb⟩
        case measure => simp [intOf]; omega
      · have hke : k = fs.length := by omega
        subst hke
        have HE : Hid (packL kd fs = H ++ bodyP (fs.take fs.length)) := by rw [Hid, HY.out, List.take_of_length_le (Nat.le_refl _)]
        obtain ⟨B, hB⟩ : ∃ B, H ++ bodyP (fs.take fs.length) = B := ⟨_, rfl⟩
        rw [hB] at HE ⊢
        clear hB
        go_wp2
        go_ret2
        exact ⟨str_ok (by rw [HE.out]) HM.out.symm, HQ.out.trans (hbr.mono HQ.out.size)⟩

end Go.Proofs.YtbncdhfmhokgeaaGreatDoor

/- Reading a batch, plainly. No Go in sight. -/
namespace Go.Proofs.YtbncdhfmhokgeaaGreatDoor

def unpM (r : List UInt8) : Msg := ((unp r).2.2.1, (unp r).2.2.2)
def unpOk (r : List UInt8) : Bool := decide ((unp r).1 = 0)
def allUnp (rs : Recs) : Bool := rs.all unpOk
theorem allUnp_step (rs : Recs) (k : Nat) (h : k < rs.length) : allUnp (rs.drop k) = (unpOk (nth rs k) && allUnp (rs.drop (k + 1))) := by
  rw [List.drop_eq_getElem_cons h, nth_is h]; rfl
theorem allUnp_end (rs : Recs) : allUnp (rs.drop rs.length) = true := by rw [List.drop_of_length_le (Nat.le_refl _)]; rfl
theorem allUnp_mem {rs : Recs} (h : allUnp rs = true) : ∀ r ∈ rs, (unp r).1 = 0 := fun r hr => of_decide_eq_true (List.all_eq_true.1 h r hr)
/-- the messages between the first and the last -/
def innerM (rs : Recs) : List Msg := ((rs.map unpM).drop 1).take (rs.length - 2)
theorem innerM_len (rs : Recs) : (innerM rs).length = rs.length - 2 := by simp [innerM]; omega
/-- what reading a batch answers -/
def rdB (s : List UInt8) : List Msg × Nat :=
  if (unb s).2 ≠ 0 then ([], 1)
  else if allUnp (unb s).1 = false then ([], 2)
  else if (unb s).1.length < 2 ∨ nth (unb s).1 0 ≠ packL 1644 head1 then ([], 3)
  else if batchOk (innerM (unb s).1) = true ∧ batchL (innerM (unb s).1) = s then (innerM (unb s).1, 0) else ([], 4)
theorem rdB_1 {s : List UInt8} (h : (unb s).2 ≠ 0) : rdB s = ([], 1) := if_pos h
theorem rdB_2 {s : List UInt8} (h : (unb s).2 = 0) (h2 : allUnp (unb s).1 = false) : rdB s = ([], 2) := by rw [rdB, if_neg (by simpa using h), if_pos h2]
theorem rdB_3 {s : List UInt8} (h : (unb s).2 = 0) (h2 : allUnp (unb s).1 = true) (h3 : (unb s).1.length < 2 ∨ nth (unb s).1 0 ≠ packL 1644 head1) : rdB s = ([], 3) := by
  rw [rdB, if_neg (by simpa using h), if_neg (by rw [h2]; decide), if_pos h3]
theorem rdB_4 {s : List UInt8} (h : (unb s).2 = 0) (h2 : allUnp (unb s).1 = true) (h3 : ¬ ((unb s).1.length < 2 ∨ nth (unb s).1 0 ≠ packL 1644 head1)) (h4 : ¬ (batchOk (innerM (unb s).1) = true ∧ batchL (innerM (unb s).1) = s)) : rdB s = ([], 4) := by
  rw [rdB, if_neg (by simpa using h), if_neg (by rw [h2]; decide), if_neg h3, if_neg h4]
theorem rdB_0 {s : List UInt8} (h : (unb s).2 = 0) (h2 : allUnp (unb s).1 = true) (h3 : ¬ ((unb s).1.length < 2 ∨ nth (unb s).1 0 ≠ packL 1644 head1)) (h4 : batchOk (innerM (unb s).1) = true ∧ batchL (innerM (unb s).1) = s) : rdB s = (innerM (unb s).1, 0) := by
  rw [rdB, if_neg (by simpa using h), if_neg (by rw [h2]; decide), if_neg h3, if_pos h4]
theorem unb_bd (s : List UInt8) : (unb s).1.length ≤ 200 ∧ ∀ r ∈ (unb s).1, r.length ≤ 3000 := by
  by_cases h : (unb s).2 = 0
  · obtain ⟨h1, _⟩ := unb_is h
    obtain ⟨a, b, _⟩ := blockOk_parts h1
    exact ⟨a, fun r hr => (recsOk_mem b r hr).2⟩
  · rw [unb_not h]; exact ⟨by simp, fun r hr => by cases hr⟩
theorem unpM_ok {r : List UInt8} (h : (unp r).1 = 0) : msgOk (unpM r).1 (unpM r).2 = true := (pack_unp h).1
theorem rdB_code (s : List UInt8) : (rdB s).2 ≤ 4 := by
  unfold rdB
  split
  · decide
  · split
    · decide
    · split
      · decide
      · split <;> simp
theorem rdB_bd (s : List UInt8) : (rdB s).1.length ≤ 198 := by
  unfold rdB
  split
  · simp
  · split
    · simp
    · split
      · simp
      · split
        · have := (unb_bd s).1
          rw [innerM_len]; omega
        · simp

end Go.Proofs.YtbncdhfmhokgeaaGreatDoor

/- A batch comes back from its file, plainly. No Go in sight. -/
namespace Go.Proofs.YtbncdhfmhokgeaaGreatDoor

def putM (m : Msg) (i : Nat) : Msg := (m.1, withF m.2 71 (place i))
/-- the messages as they stand in a batch: each with its place -/
def placedMs (ms : List Msg) : List Msg := (List.range ms.length).map fun i => putM (mAt ms i) (i + 2)
theorem placedMs_len (ms : List Msg) : (placedMs ms).length = ms.length := by simp [placedMs]
theorem placedMs_at (ms : List Msg) (k : Nat) (h : k < ms.length) : mAt (placedMs ms) k = putM (mAt ms k) (k + 2) := by simp [mAt, placedMs, List.getD_eq_getElem?_getD, h]
theorem withF_idem (fs : List Fld) (n : Int) (d : List UInt8) : withF (withF fs n d) n d = withF fs n d := by
  have a1 : (fs.filter (ltN n)).filter (ltN n) = fs.filter (ltN n) := List.filter_eq_self.2 fun f hf => (List.mem_filter.1 hf).2
  have a2 : (fs.filter (gtN n)).filter (gtN n) = fs.filter (gtN n) := List.filter_eq_self.2 fun f hf => (List.mem_filter.1 hf).2
  have a3 : (fs.filter (gtN n)).filter (ltN n) = [] := List.filter_eq_nil_iff.2 fun f hf => by
    have h1 : n < f.1 := by simpa [gtN] using (List.mem_filter.1 hf).2
    simp [ltN]; omega
  have a4 : (fs.filter (ltN n)).filter (gtN n) = [] := List.filter_eq_nil_iff.2 fun f hf => by
    have h1 : f.1 < n := by simpa [ltN] using (List.mem_filter.1 hf).2
    simp [gtN]; omega
  have b1 : ltN n (n, d) = false := by simp [ltN]
  have b2 : gtN n (n, d) = false := by simp [gtN]
  show (withF fs n d).filter (ltN n) ++ (n, d) :: (withF fs n d).filter (gtN n) = withF fs n d
  unfold withF
  rw [List.filter_append, List.filter_append, a1, a4, List.filter_cons_of_neg (by rw [b1]; decide), List.filter_cons_of_neg (by rw [b2]; decide), a2, a3]
  simp
theorem fOf_app (a b : List Fld) (n : Int) : fOf (a ++ b) n = (fOf a n).or (fOf b n) := by
  induction a with
  | nil => simp [fOf]
  | cons f r ih =>
    simp only [List.cons_append, fOf]
    split
    · rfl
    · exact ih
theorem fOf_filter {q : Fld → Bool} {n : Int} (h : ∀ f : Fld, f.1 = n → q f = true) (fs : List Fld) : fOf (fs.filter q) n = fOf fs n := by
  induction fs with
  | nil => rfl
  | cons f r ih =>
    by_cases hf : f.1 = n
    · rw [List.filter_cons_of_pos (h f hf)]; simp [fOf, hf]
    · by_cases hq : q f = true
      · rw [List.filter_cons_of_pos hq]; simp [fOf, hf, ih]
      · rw [List.filter_cons_of_neg hq, ih]; simp [fOf, hf]
theorem fOf_nothing {fs : List Fld} {n : Int} (h : ∀ f ∈ fs, f.1 ≠ n) : fOf fs n = none := by
  induction fs with
  | nil => rfl
  | cons f r ih =>
    simp only [fOf]
    rw [if_neg (h f (List.mem_cons_self ..))]
    exact ih fun g hg => h g (List.mem_cons_of_mem _ hg)
theorem fOf_with4 (fs : List Fld) (d : List UInt8) : fOf (withF fs 71 d) 4 = fOf fs 4 := by
  have h1 : fOf (fs.filter (ltN 71)) 4 = fOf fs 4 := fOf_filter (fun f hf => by simp [ltN]; omega) fs
  have h2 : fOf ((71, d) :: fs.filter (gtN 71)) 4 = none := fOf_nothing fun f hf => by
    rcases List.mem_cons.1 hf with rfl | hf
    · simp
    · have : (71 : Int) < f.1 := by simpa [gtN] using (List.mem_filter.1 hf).2
      omega
  rw [withF, fOf_app, h1, h2]; simp
theorem fOf_with71 (fs : List Fld) (d : List UInt8) : fOf (withF fs 71 d) 71 = some d := by
  have h1 : fOf (fs.filter (ltN 71)) 71 = none := fOf_nothing fun f hf => by
    have : f.1 < (71 : Int) := by simpa [ltN] using (List.mem_filter.1 hf).2
    omega
  rw [withF, fOf_app, h1]; simp [fOf]
theorem amt_put (m : Msg) (i : Nat) : amtOf (putM m i) = amtOf m := by
  unfold amtOf putM
  simp only
  rw [fOf_with4]
theorem mAt_map (ms : List Msg) : (List.range ms.length).map (mAt ms) = ms := by
  apply List.ext_getElem (by simp)
  intro i h1 h2
  simp [mAt, List.getD_eq_getElem?_getD, h2]
theorem sum_placed (ms : List Msg) : sumA (placedMs ms) = sumA ms := by
  have e1 : (placedMs ms).map amtOf = (List.range ms.length).map fun i => amtOf (mAt ms i) := by
    simp only [placedMs, List.map_map]
    apply List.map_congr_left
    intro i _
    exact amt_put _ _
  have e2 : ms.map amtOf = (List.range ms.length).map fun i => amtOf (mAt ms i) := by
    have h := congrArg (List.map amtOf) (mAt_map ms)
    rw [List.map_map] at h
    exact h.symm
  unfold sumA
  rw [e1, e2]
theorem allOk_placed {ms : List Msg} (h : allOk ms = true) (hl : ms.length ≤ 198) : allOk (placedMs ms) = true := by
  refine List.all_eq_true.2 fun m hm => ?_
  simp only [placedMs, List.mem_map, List.mem_range] at hm
  obtain ⟨i, hi, rfl⟩ := hm
  exact msgOk_with (allOk_mem h _ (mAt_mem hi)) (by omega)
theorem recs_placed (ms : List Msg) : batchRecs (placedMs ms) = batchRecs ms := by
  have e1 : tailF (placedMs ms) = tailF ms := by unfold tailF; rw [sum_placed, placedMs_len]
  unfold batchRecs
  rw [e1, placedMs_len]
  congr 1
  unfold recsTo
  apply List.map_congr_left
  intro i hi
  have hi := List.mem_range.1 hi
  cases i with
  | zero => rfl
  | succ j =>
    have e2 : mAt (headM (placedMs ms)) (j + 1) = mAt (placedMs ms) j := rfl
    have e3 : mAt (headM ms) (j + 1) = mAt ms j := rfl
    rw [e2, e3, placedMs_at ms j (by omega)]
    unfold recOf putM
    simp only
    rw [withF_idem]
theorem batchOk_parts {ms : List Msg} (h : batchOk ms = true) : ms.length ≤ 198 ∧ allOk ms = true ∧ sumA ms < 1000000000000 ∧ blockOk (batchRecs ms) = true := by
  simp only [batchOk, Bool.and_eq_true, decide_eq_true_eq] at h
  exact ⟨h.1, h.2.1, h.2.2.1, h.2.2.2⟩
theorem unp_okB {kd : Int} {fs : List Fld} (h : msgOk kd fs = true) : unp (packL kd fs) = (0, 0, kd, fs) := by
  have h1 := unp_pack [] h
  rw [List.append_nil, if_pos rfl] at h1
  exact h1
theorem batch_again {ms : List Msg} (h : batchOk ms = true) : batchOk (placedMs ms) = true ∧ batchL (placedMs ms) = batchL ms := by
  obtain ⟨h1, h2, h3, h4⟩ := batchOk_parts h
  have k1 : (placedMs ms).length ≤ 198 := by rw [placedMs_len]; exact h1
  have k2 := allOk_placed h2 h1
  have k3 : sumA (placedMs ms) < 1000000000000 := by rw [sum_placed]; exact h3
  rw [batchOk_is k1 k2 k3, batchL_is k1 k2 k3, batchL_is h1 h2 h3, recs_placed]
  exact ⟨h4, rfl⟩
theorem unpM_recs {ms : List Msg} (h1 : ms.length ≤ 198) (h2 : allOk ms = true) (h3 : sumA ms < 1000000000000) : allUnp (batchRecs ms) = true ∧ (batchRecs ms).map unpM = (1644, head1) :: (placedMs ms ++ [(1644, tailF ms)]) := by
  have ht : msgOk 1644 (tailF ms) = true := by rw [tail_ok (sum_bd h2).1 h1, decide_eq_true h3]
  have hk : ∀ i, i < ms.length + 1 → msgOk (mAt (headM ms) i).1 (withF (mAt (headM ms) i).2 71 (place (i + 1))) = true := by
    intro i hi
    refine msgOk_with ?_ (by omega)
    cases i with
    | zero => exact head_ok
    | succ j =>
      have e3 : mAt (headM ms) (j + 1) = mAt ms j := rfl
      rw [e3]
      exact allOk_mem h2 _ (mAt_mem (by omega))
  constructor
  · refine List.all_eq_true.2 fun r hr => decide_eq_true ?_
    rcases List.mem_append.1 hr with hr | hr
    · simp only [recsTo, List.mem_map, List.mem_range] at hr
      obtain ⟨i, hi, rfl⟩ := hr
      unfold recOf
      rw [unp_okB (hk i hi)]
    · obtain rfl : r = packL 1644 (tailF ms) := by simpa using hr
      rw [unp_okB ht]
  · unfold batchRecs
    rw [List.map_append]
    have e1 : (recsTo (headM ms) (ms.length + 1)).map unpM = (List.range (ms.length + 1)).map fun i => putM (mAt (headM ms) i) (i + 1) := by
      simp only [recsTo, List.map_map]
      apply List.map_congr_left
      intro i hi
      have hi := List.mem_range.1 hi
      show unpM (recOf (mAt (headM ms) i) (i + 1)) = _
      unfold unpM recOf
      rw [unp_okB (hk i hi)]; rfl
    have e2 : [packL 1644 (tailF ms)].map unpM = [(1644, tailF ms)] := by
      show [unpM (packL 1644 (tailF ms))] = _
      unfold unpM
      rw [unp_okB ht]
    rw [e1, e2, List.range_succ_eq_map, List.map_cons, List.map_map]
    have e3 : putM (mAt (headM ms) 0) (0 + 1) = (1644, head1) := by
      show (1644, withF headF 71 (place 1)) = _
      rw [head_with]
    rw [e3]
    rfl
theorem rd_batch {ms : List Msg} (h : batchOk ms = true) : rdB (batchL ms) = (placedMs ms, 0) := by
  obtain ⟨h1, h2, h3, h4⟩ := batchOk_parts h
  have hL := batchL_is h1 h2 h3
  have hu : unb (batchL ms) = (batchRecs ms, 0) := by rw [hL]; exact unb_block h4
  obtain ⟨a1, a2⟩ := unpM_recs h1 h2 h3
  have hlen : (batchRecs ms).length = ms.length + 2 := by simp [batchRecs, recsTo_len]
  have hin : innerM (batchRecs ms) = placedMs ms := by
    unfold innerM
    rw [a2, hlen, List.drop_succ_cons, List.drop_zero, show ms.length + 2 - 2 = (placedMs ms).length by rw [placedMs_len]; omega]
    exact List.take_left
  have hn0 : nth (batchRecs ms) 0 = packL 1644 head1 := by
    have e : batchRecs ms = recOf (mAt (headM ms) 0) (0 + 1) :: ((List.range ms.length).map fun i => recOf (mAt (headM ms) (i + 1)) (i + 1 + 1)) ++ [packL 1644 (tailF ms)] := by
      unfold batchRecs recsTo
      rw [List.range_succ_eq_map, List.map_cons, List.map_map]; rfl
    rw [e]
    show packL 1644 (withF headF 71 (place 1)) = _
    rw [head_with]
  obtain ⟨g1, g2⟩ := batch_again h
  have r := rdB_0 (s := batchL ms) (by rw [hu]) (by rw [hu]; exact a1) (by rw [hu]; simp only; rw [hn0]; rintro (h | h); omega; exact h rfl) (by rw [hu]; simp only; rw [hin]; exact ⟨g1, g2⟩)
  rw [hu] at r
  simp only at r
  rw [hin] at r
  exact r
theorem place_num {i : Nat} (h : i < 100000000) : numOf (place i) = (i : Int) := by
  have e : place i = padN i 8 := padT_yes (n := 8) (by omega) (by omega) (by simpa using h)
  rw [e]; exact padN_num (by omega) (by omega) (by simpa using h)
theorem rdB_no {s : List UInt8} (h : (rdB s).2 ≠ 0) : (rdB s).1 = [] := by
  unfold rdB at h ⊢
  split at h
  · rename_i h1; rw [if_pos h1]
  · rename_i h1; rw [if_neg h1]
    split at h
    · rename_i h2; rw [if_pos h2]
    · rename_i h2; rw [if_neg h2]
      split at h
      · rename_i h3; rw [if_pos h3]
      · rename_i h3; rw [if_neg h3]
        split at h
        · exact absurd rfl h
        · rename_i h4; rw [if_neg h4]
theorem batchL_sizes (ms : List Msg) : ((batchL ms).length = 0 ∨ 1014 ≤ (batchL ms).length) ∧ (batchL ms).length ≤ 60000 := by
  cases h : batchOk ms
  · rw [batchL_no h]; simp
  · obtain ⟨h1, h2, h3, h4⟩ := batchOk_parts h
    rw [batchL_is h1 h2 h3]
    have := blockL_shape h4
    omega

end Go.Proofs.YtbncdhfmhokgeaaGreatDoor
