/- What is drawn as a spoilt file, whatever the bytes. -/
import Derived.Test.YtbncdhfmhokgeaaDrawR
import Derived.Test.YtbncdhfmhokgeaaFConv
import Derived.ArgAppend
namespace Go.Proofs.Ytbncdhfmhokgeaa
open Go.RowKit
set_option maxRecDepth 100000

theorem Row.grown {w w' : World} {g b : Nat} {l : List UInt8} (h : Row w b l) (hg : w.grownBy w' (some g)) (hb : b ≠ g) : Row w' b l :=
  ⟨fun j x hx => hg.cell (a := ⟨b, j, none⟩) (h.cell j x hx) (by simpa using hb), fun j hj => (hg.frozen_far ⟨b, j, none⟩ h.lt (by simpa using hb)).trans (h.free j hj), Nat.lt_of_lt_of_le h.lt hg.size⟩
theorem Row.put {w : World} {g : Nat} {l : List UInt8} (h : Row w g l) {i : Nat} (hi : i < l.length) (c : UInt8) : Row (w.setCell ⟨g, i, none⟩ (.int .u8 (c.toNat : Int))) g (l.set i c) := by
  refine ⟨fun j x hx => ?_, fun j hj => ?_, by simpa using h.lt⟩
  · have hj : j < l.length := by have := (List.getElem?_eq_some_iff.1 hx).1; rwa [List.length_set] at this
    by_cases hji : j = i
    · subst hji
      rw [World.cell?_setCell_same _ _ _ (h.cell j _ (List.getElem?_eq_getElem hj))]
      rw [List.getElem?_set_self hj] at hx
      cases hx; rfl
    · rw [World.cell?_setCell_other _ _ _ _ (by simp)]
      rw [List.getElem?_set_ne (by omega)] at hx
      exact h.cell j x hx
  · rw [List.length_set] at hj
    rw [World.frozen?_setCell]; exact h.free j hj
theorem convR_full (d : List UInt8) (W : World) : Row (convW d W) W.heap.size (d ++ List.replicate (convC d W - d.length) 0) := by
  have hh : (convW d W).heap[W.heap.size]? = some (.cells (convR d W) 5 ((convR d W).size, (convR d W).size + 1)) := heap_alloc_new W.drew _
  have hsz : (convR d W).size = d.length + (convC d W - d.length) := by simp [convR, bytesRow, convC]; rfl
  refine ⟨fun j x hx => ?_, fun j hj => ?_, by rw [convW_size]; omega⟩
  · rw [cell_of_row _ W.heap.size j _ _ _ hh]
    have hj := (List.getElem?_eq_some_iff.1 hx).1
    rw [List.length_append, List.length_replicate] at hj
    by_cases h1 : j < d.length
    · rw [List.getElem?_append_left h1] at hx
      simp [convR, bytesRow, Array.getElem?_append, h1, (List.getElem?_eq_some_iff.1 hx).2]
    · rw [List.getElem?_append_right (by omega), List.getElem?_replicate] at hx
      have h2 : j - d.length < convC d W - d.length := by omega
      rw [if_pos h2] at hx
      cases hx
      have h3 : j - d.length < grownCap W d.length 0 5 - (⟨d.toArray⟩ : ByteArray).size := by rw [ba_size]; exact h2
      simp [convR, bytesRow, Array.getElem?_append, h1, h3]
  · unfold World.frozen?
    rw [hh]
    rw [List.length_append, List.length_replicate] at hj
    simp; omega
theorem row_left {w : World} {g : Nat} {l r : List UInt8} (h : Row w g (l ++ r)) : Row w g l :=
  ⟨fun j x hx => h.cell j x (by rw [List.getElem?_append_left (List.getElem?_eq_some_iff.1 hx).1]; exact hx), fun j hj => h.free j (by rw [List.length_append]; omega), h.lt⟩
theorem row_setCells {w : World} {g o : Nat} {l cs : List UInt8} (hr : Row w g l) (hfit : o + cs.length ≤ l.length) : Row (w.setCells g o (cs.map cell)) g (splice l o cs) := by
  have hget : ∀ j, j < l.length → (w.cell? ⟨g, j, none⟩).isSome = true := fun j hj => by rw [hr.cell j _ (List.getElem?_eq_getElem hj)]; rfl
  have hl : (cs.map cell).length = cs.length := List.length_map ..
  have hbel : Below g w (w.setCells g o (cs.map cell)) := Lib.below_setCells g (Nat.le_refl _) _ _ (Below.refl _ _)
  have hin := World.cell?_setCells_in g (cs.map cell) o w (fun j hj => by rw [hl] at hj; exact hget _ (by omega))
  have hout := World.cell?_setCells_out g (cs.map cell) o w
  have hsl := length_splice l o cs hfit
  refine ⟨fun j x hx => ?_, fun j hj => ?_, Nat.lt_of_lt_of_le hr.lt hbel.size⟩
  · have hj : j < l.length := by rw [← hsl]; exact (List.getElem?_eq_some_iff.1 hx).1
    by_cases h1 : j < o
    · rw [hout ⟨g, j, none⟩ (fun _ _ => Or.inl h1)]
      refine hr.cell j x ?_
      rw [← hx, splice, List.getElem?_append_left (by rw [List.length_take]; omega), List.getElem?_take, if_pos h1]
    · by_cases h2 : j < o + cs.length
      · obtain ⟨d, rfl⟩ : ∃ d, j = o + d := ⟨j - o, by omega⟩
        rw [hin d (by rw [hl]; omega)]
        rw [splice, List.getElem?_append_right (by rw [List.length_take]; omega), List.length_take, Nat.min_eq_left (by omega), Nat.add_sub_cancel_left, List.getElem?_append_left (by omega)] at hx
        simp [List.getElem_map, cell, (List.getElem?_eq_some_iff.1 hx).2]
      · rw [hout ⟨g, j, none⟩ (fun _ _ => Or.inr (by rw [hl]; show o + cs.length ≤ j; omega))]
        refine hr.cell j x ?_
        rw [splice, List.getElem?_append_right (by rw [List.length_take]; omega), List.length_take, Nat.min_eq_left (by omega), List.getElem?_append_right (by omega), List.getElem?_drop] at hx
        rw [← hx]; congr 1; omega
  · rw [World.frozen?_setCells]
    exact hr.free j (by rw [← hsl]; exact hj)
theorem grown_setCells (w : World) (g : Nat) : ∀ (vs : List Value) (o : Nat), w.grownBy (w.setCells g o vs) (some g)
  | [], _ => World.grownBy.refl _ _
  | v :: r, o => by
    have h1 := grown_set w g o v
    have h2 := grown_setCells (w.setCell ⟨g, o, none⟩ v) g r (o + 1)
    exact h1.trans h2
/-- appending bytes of the block itself behind its text -/
theorem app_self (w : World) (ty : TypeId) (gb C n m : Nat) (s R ns : List UInt8) (hr : Row w gb (s ++ R)) (hC : s.length + R.length = C) (hn : s.length = n) (hm : ns.length = m) (ad : Addr) (c : Nat) (hns : ∀ j x, ns[j]? = some x → w.cell? (ad.add j) = some (.int .u8 (x.toNat : Int))) (hb : n + m ≤ 100000000) :
    ∃ g' c' w', (Builtin.append_ #[22, 22] ty #[.slice (some ⟨gb, 0, none⟩) n C, .slice (some ad) m c]).run Try.prog w = .ok (.slice (some ⟨g', 0, none⟩) (n + m) c') w' ∧ Row w' g' (s ++ ns) ∧ w.grownBy w' (some gb) := by
  obtain ⟨i0, hi, hz0, hz1, hz2⟩ := info_parts info5
  have hnews : ∀ j u, (ns.map cell)[j]? = some u → w.cell? (ad.add j) = some u := fun j u hj => by
    rw [List.getElem?_map] at hj
    obtain ⟨y, hy, rfl⟩ := Option.map_eq_some_iff.1 hj
    exact hns j y hy
  have hone : ∀ u ∈ ns.map cell, u.oneCell' = true := fun u hu => by obtain ⟨x, _, rfl⟩ := List.mem_map.1 hu; rfl
  subst hn
  by_cases hroom : s.length + m ≤ C
  · have h := run_append_room_cells (P := Try.prog) w 22 ty 5 i0 Try.underlying22 hi gb 0 s.length C ad m c (ns.map cell) (by rw [List.length_map, hz1, Nat.mul_one]; exact hm) hnews hone hroom
      (fun j hj => by
        rw [List.length_map] at hj
        rw [hz1, Nat.mul_one, Nat.zero_add, hr.cell _ _ (List.getElem?_eq_getElem (by rw [List.length_append]; omega))]; rfl)
      (fun j hj => by
        rw [List.length_map] at hj
        rw [hz1, Nat.mul_one, Nat.zero_add]; exact hr.free _ (by rw [List.length_append]; omega))
    rw [hz1, Nat.mul_one, Nat.zero_add] at h
    refine ⟨gb, C, _, h, ?_, grown_setCells w gb _ _⟩
    have hrow := row_setCells (o := s.length) (cs := ns) hr (by rw [List.length_append]; omega)
    have e : splice (s ++ R) s.length ns = (s ++ ns) ++ (s ++ R).drop (s.length + ns.length) := by
      unfold splice
      rw [List.take_left, List.append_assoc]
    rw [e] at hrow
    exact ⟨fun j x hx => hrow.cell j x (by rw [List.getElem?_append_left (List.getElem?_eq_some_iff.1 hx).1]; exact hx), fun j hj => hrow.free j (by rw [List.length_append]; omega), hrow.lt⟩
  · have hol : ∀ j v, (s.map cell)[j]? = some v → w.cell? ((⟨gb, 0, none⟩ : Addr).add j) = some v := fun j v hj => by
      rw [List.getElem?_map] at hj
      obtain ⟨y, hy, rfl⟩ := Option.map_eq_some_iff.1 hj
      rw [add_at, Nat.zero_add]
      exact (row_left hr).cell j y hy
    obtain ⟨v', w', h, ho, hgr⟩ := run_append_arg_grows (P := Try.prog) w 22 ty 5 i0 (.int .u8 0) 1 1 Try.underlying22 hi hz0 hz1 hz2 rfl (by decide) ⟨gb, 0, none⟩ s.length C (s.map cell) (by rw [List.length_map, Nat.mul_one]) hol ad m c (ns.map cell) (by rw [List.length_map, Nat.mul_one]; exact hm) hnews (by omega) (by unfold maxLen; omega) (by omega)
    rw [← List.map_append] at ho
    rcases ho.2 with ⟨_, h0⟩ | ⟨g', c', cur, hv, _⟩
    · omega
    · subst hv
      exact ⟨g', c', w', h, row_of_own ho, ⟨hgr.os, hgr.tape, hgr.output, hgr.size, fun k hk _ => hgr.block k hk (by simp)⟩⟩

theorem wpList_append_run8 {ops : Array Oper} {rest : List Oper} {o : Oper} {a : Act} {Q : Exit → Act → World → Prop} (w : World) (hgd : o.guard = none) (s x : Operand)
    (ho : o.op = .call { callee := .builtin .append, args := #[s, x], argTypes := #[22, 22] }) (v u : Value) (hs : a.eval s = v) (hx : a.eval x = u) {v' : Value} {w' : World}
    (hr : (Builtin.append_ #[22, 22] o.type #[v, u]).run Try.prog w = .ok v' w') (h : wpList Try.prog ops Q rest (a.put o.dst v') w') : wpList Try.prog ops Q (o :: rest) a w :=
  Lib.wpList_append_run w hgd s x _ _ ho _ _ hs hx v' w' hr h

/-- what such a draw hands back -/
def Spoilt (B g : Nat) (w : World) (e : Ending) (w' : World) : Prop := ∃ l : List UInt8, e = .returned (.string ⟨l.toArray⟩) ∧ l.length ≤ 100000 ∧ Cursor B w' g ∧ w.grownBy w' (some g)
theorem row_text {w : World} {g n c : Nat} {l : List UInt8} (h : Row w g l) (hn : l.length = n) : (convert 22 9 (.slice (some ⟨g, 0, none⟩) n c)).run Try.prog w = .ok (.string ⟨l.toArray⟩) w := by
  subst hn
  exact text_at (fun j x hx => by rw [Nat.zero_add]; exact h.cell j x hx)

set_option maxHeartbeats 3200000 in
theorem spoilD_any {B : Nat} (g : Nat) (s : List UInt8) (w : World) (hc : Cursor B w g) (hs : s.length = 0 ∨ 1014 ≤ s.length) (hl : s.length ≤ 60000) :
    Calls Try.prog 30 #[.pointer (some ⟨g, 0, none⟩), .string ⟨s.toArray⟩] w (Spoilt B g w) := by
  have cb := cursor_bd hc
  have hcv := conv_run s w
  have hW := convW_below s w
  have hsz := convW_size s w
  have HRF : Hid _ := convR_full s w
  have hCg := convC_ge s w
  have hCm := convC_le s w (by unfold maxLen; omega)
  unfold maxLen at hCm
  have cW : Cursor B (convW s w) g := cursor_below hc hW
  have gW : w.grownBy (convW s w) (some g) := ⟨hW.os, hW.tape, hW.output, hW.size, fun k hk _ => hW.block k hk⟩
  obtain ⟨C, hC⟩ : ∃ C, convC s w = C := ⟨_, rfl⟩
  obtain ⟨W, hWe⟩ : ∃ W, convW s w = W := ⟨_, rfl⟩
  rw [hC] at hcv HRF hCg hCm
  rw [hWe] at hcv HRF hsz cW gW
  clear hC hWe hW hc
  by_cases h0 : s.length = 0
  · have h0i : ((s.length : Int) == 0) = true := by rw [beq_iff_eq]; omega
    clear hs
    go_enter Try.func30, Try.ntmps30
    go_wp2
    go_ret
    exact ⟨s, rfl, by omega, cW, gW⟩
  have h0i : ((s.length : Int) == 0) = false := beq_eq_false_iff_ne.2 (by omega)
  have h14 : 1014 ≤ s.length := by omega
  clear hs h0
  go_enter Try.func30, Try.ntmps30
  go_wp2_with fail
  refine (below_any _ _ _ cW (by omega)).mono ?_
  rintro e w2 ⟨x, rfl, x0, x1, c2, g2⟩
  have hxl := x1 (by omega)
  have r2 := HRF.out.grown g2 (by omega)
  have G2 := gW.trans g2
  obtain ⟨X, rfl⟩ := Int.eq_ofNat_of_zero_le x0
  have hX : X < s.length := by omega
  clear x1 g2 cW gW x0 HRF hcv
  go_wp2_with fail
  refine (below_any _ _ _ c2 (by omega)).mono ?_
  rintro e w3 ⟨z, rfl, z0, z1, c3, g3⟩
  have r3 := r2.grown g3 (by omega)
  have G3 := G2.trans g3
  have hs3 := G3.size
  clear z1 c2 g3 r2 G2
  have hRl : s.length + (List.replicate (C - s.length) (0 : UInt8)).length = C := by rw [List.length_replicate]; omega
  obtain ⟨R, hR⟩ : ∃ R, List.replicate (C - s.length) (0 : UInt8) = R := ⟨_, rfl⟩
  rw [hR] at hRl r3
  have HR3 : Hid (Row w3 w.heap.size (s ++ R)) := r3
  have HRL : Hid _ := hRl
  clear hR hRl r3
  by_cases k0 : z = 0
  · subst k0
    go_wp2_with fail
    refine (below_any _ _ _ c3 (by omega)).mono ?_
    rintro e w4 ⟨y, rfl, y0, y1, c4, g4⟩
    have hyb := y1 (by omega)
    have r4 := (row_left HR3.out).grown g4 (by omega)
    have G4 := G3.trans g4
    obtain ⟨Y, rfl⟩ := Int.eq_ofNat_of_zero_le y0
    have hYt : (UInt8.ofNat Y).toNat = Y := by rw [UInt8.toNat_ofNat']; omega
    have d1 : ∃ v, w4.cell? ⟨w.heap.size, X, none⟩ = some v := ⟨_, r4.at hX⟩
    obtain ⟨old, d1⟩ := d1
    have d2 := r4.free X hX
    have r5 := r4.put hX (UInt8.ofNat Y)
    rw [hYt] at r5
    have ht := row_text (c := C) r5 (by rw [List.length_set])
    have G5 : w.grownBy (w4.setCell ⟨w.heap.size, X, none⟩ (.int .u8 (Y : Int))) (some g) := grown_new G4 (grown_set w4 w.heap.size X _) (fun k hk => by cases hk; exact Nat.le_refl _)
    have c5 : Cursor B (w4.setCell ⟨w.heap.size, X, none⟩ (.int .u8 (Y : Int))) g := cursor_keep c4 ((Below.refl _ w4).setCell cb.2 _)
    have hll : (s.set X (UInt8.ofNat Y)).length ≤ 100000 := by rw [List.length_set]; omega
    obtain ⟨l2, hl2⟩ : ∃ l2, s.set X (UInt8.ofNat Y) = l2 := ⟨_, rfl⟩
    rw [hl2] at ht hll
    have HG : Hid _ := G5
    have HC : Hid (Cursor B (w4.setCell ⟨w.heap.size, X, none⟩ (.int .u8 (Y : Int))) g) := c5
    clear hl2 r4 r5 g4 c4 G4 G5 c5 hYt y1
    go_wp2
    go_ret
    exact ⟨l2, rfl, hll, HC.out, HG.out⟩
  have k0' : (z == 0) = false := by simpa using k0
  by_cases k1 : z = 1
  · subst k1
    have hs1 := fun W => sl_h (g := w.heap.size) (o := 0) (n := s.length) (c := C) (x := (X : Int)) X rfl (by omega) (by omega) W
    have rt : Row w3 w.heap.size (s.take X) := row_left (r := s.drop X) (by rw [List.take_append_drop]; exact row_left HR3.out)
    have ht := row_text (c := C) (n := X) rt (by rw [List.length_take]; omega)
    have hll : (s.take X).length ≤ 100000 := by rw [List.length_take]; omega
    obtain ⟨l2, hl2⟩ : ∃ l2, s.take X = l2 := ⟨_, rfl⟩
    rw [hl2] at ht hll
    clear hl2 rt
    go_wp2
    go_ret
    exact ⟨l2, rfl, hll, c3, G3⟩
  have k1' : (z == 1) = false := by simpa using k1
  by_cases k2 : z = 2
  · subst k2
    have r4 := row_left HR3.out
    have hX2 : s.length - 1 < s.length := by omega
    have d1 : ∃ v, w3.cell? ⟨w.heap.size, s.length - 1, none⟩ = some v := ⟨_, r4.at hX2⟩
    obtain ⟨old, d1⟩ := d1
    have d2 := r4.free (s.length - 1) hX2
    have r5 := r4.put hX2 0
    have ht := row_text (c := C) r5 (by rw [List.length_set])
    have G5 : w.grownBy (w3.setCell ⟨w.heap.size, s.length - 1, none⟩ (.int .u8 ((0 : UInt8).toNat : Int))) (some g) := grown_new G3 (grown_set w3 w.heap.size (s.length - 1) _) (fun k hk => by cases hk; exact Nat.le_refl _)
    have c5 : Cursor B (w3.setCell ⟨w.heap.size, s.length - 1, none⟩ (.int .u8 ((0 : UInt8).toNat : Int))) g := cursor_keep c3 ((Below.refl _ w3).setCell cb.2 _)
    have hll : (s.set (s.length - 1) 0).length ≤ 100000 := by rw [List.length_set]; omega
    obtain ⟨l2, hl2⟩ : ∃ l2, s.set (s.length - 1) 0 = l2 := ⟨_, rfl⟩
    obtain ⟨K, hK⟩ : ∃ K, s.length - 1 = K := ⟨_, rfl⟩
    have hKi : (s.length : Int) - 1 = (K : Int) := by omega
    have hKl : K < s.length := by omega
    rw [hl2] at ht hll
    rw [hK] at ht d1 d2 G5 c5
    rw [show (((0 : UInt8).toNat : Nat) : Int) = 0 from rfl] at ht G5 c5
    have HG : Hid _ := G5
    have HC : Hid (Cursor B (w3.setCell ⟨w.heap.size, K, none⟩ (.int .u8 0)) g) := c5
    clear hl2 r4 r5 G5 c5 hK hX2
    go_wp2
    go_ret
    exact ⟨l2, rfl, hll, HC.out, HG.out⟩
  have k2' : (z == 2) = false := by simpa using k2
  by_cases k3 : z = 3
  · subst k3
    obtain ⟨K, hK⟩ : ∃ K, s.length - 1014 = K := ⟨_, rfl⟩
    have hs1 := fun W => sl_l (g := w.heap.size) (o := 0) (n := s.length) (c := C) (x := (s.length : Int) - 1014) K (by omega) (by omega) (by omega) W
    rw [Nat.zero_add, show s.length - K = 1014 by omega] at hs1
    have hdl : (s.drop K).length = 1014 := by rw [List.length_drop]; omega
    obtain ⟨g', c', w5, hrun, r5, g5⟩ := app_self w3 22 w.heap.size C s.length 1014 s R (s.drop K) HR3.out HRL.out rfl hdl ⟨w.heap.size, K, none⟩ (C - K) (fun j x hx => by
      rw [add_at]
      rw [List.getElem?_drop] at hx
      exact (row_left HR3.out).cell _ x hx) (by omega)
    have ht := row_text (c := c') (n := s.length + 1014) r5 (by rw [List.length_append, hdl])
    have hll : (s ++ s.drop K).length ≤ 100000 := by rw [List.length_append, hdl]; omega
    obtain ⟨l2, hl2⟩ : ∃ l2, s ++ s.drop K = l2 := ⟨_, rfl⟩
    rw [hl2] at ht hll
    have HG : Hid (w.grownBy w5 (some g)) := grown_new G3 g5 (fun k hk => by cases hk; exact Nat.le_refl _)
    have HC : Hid (Cursor B w5 g) := cursor_keep c3 ((Below.refl B w3).grown g5 (by omega) (fun k hk => by cases hk; exact cb.2))
    clear hl2 r5 g5 hdl hK
    go_wp2_with (at_builtin; refine wpList_append_run8 _ rfl (.tmp 41) (.tmp 46) rfl _ _ rfl rfl hrun ?_)
    go_ret
    exact ⟨l2, rfl, hll, HC.out, HG.out⟩
  have k3' : (z == 3) = false := by simpa using k3
  by_cases k4 : z = 4
  · subst k4
    go_wp2_with fail
    refine (below_any _ _ _ c3 (by omega)).mono ?_
    rintro e w4 ⟨y, rfl, y0, y1, c4, g4⟩
    have hyb := y1 (by omega)
    have r4 := (row_left HR3.out).grown g4 (by omega)
    have G4 := G3.trans g4
    obtain ⟨Y, rfl⟩ := Int.eq_ofNat_of_zero_le y0
    have hY4 : Y < s.length := by omega
    clear g4 c3 G3 y1
    go_wp2_with fail
    refine (below_any _ _ _ c4 (by omega)).mono ?_
    rintro e w5 ⟨q, rfl, q0, q1, c5, g5⟩
    have hqb := q1 (by omega)
    have r5 := r4.grown g5 (by omega)
    have G5 := G4.trans g5
    obtain ⟨U, rfl⟩ := Int.eq_ofNat_of_zero_le q0
    have hUt : (UInt8.ofNat U).toNat = U := by rw [UInt8.toNat_ofNat']; omega
    have d1 : ∃ v, w5.cell? ⟨w.heap.size, Y, none⟩ = some v := ⟨_, r5.at hY4⟩
    obtain ⟨old, d1⟩ := d1
    have d2 := r5.free Y hY4
    have r6 := r5.put hY4 (UInt8.ofNat U)
    rw [hUt] at r6
    have ht := row_text (c := C) r6 (by rw [List.length_set])
    have G6 : w.grownBy (w5.setCell ⟨w.heap.size, Y, none⟩ (.int .u8 (U : Int))) (some g) := grown_new G5 (grown_set w5 w.heap.size Y _) (fun k hk => by cases hk; exact Nat.le_refl _)
    have c6 : Cursor B (w5.setCell ⟨w.heap.size, Y, none⟩ (.int .u8 (U : Int))) g := cursor_keep c5 ((Below.refl _ w5).setCell cb.2 _)
    have hll : (s.set Y (UInt8.ofNat U)).length ≤ 100000 := by rw [List.length_set]; omega
    obtain ⟨l2, hl2⟩ : ∃ l2, s.set Y (UInt8.ofNat U) = l2 := ⟨_, rfl⟩
    rw [hl2] at ht hll
    have HG : Hid _ := G6
    have HC : Hid (Cursor B (w5.setCell ⟨w.heap.size, Y, none⟩ (.int .u8 (U : Int))) g) := c6
    clear hl2 r4 r5 r6 g5 c4 c5 G4 G5 G6 c6 hUt q1
    go_wp2
    go_ret
    exact ⟨l2, rfl, hll, HC.out, HG.out⟩
  · have k4' : (z == 4) = false := by simpa using k4
    have ht := row_text (c := C) (row_left HR3.out) rfl
    go_wp2
    go_ret
    exact ⟨s, rfl, by omega, c3, G3⟩

end Go.Proofs.Ytbncdhfmhokgeaa
