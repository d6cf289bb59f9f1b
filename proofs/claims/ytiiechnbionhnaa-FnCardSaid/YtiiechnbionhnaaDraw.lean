/- The cursor over the bytes of a draw: whatever the bytes, what is drawn is within its bounds. -/
import Derived.Test.YtiiechnbionhnaaAid
import Derived.Test.YtiiechnbionhnaaBase
import Derived.OwnWalk
import Derived.Outline
import Derived.Maps.AppendAt
namespace Go.Proofs.Ytiiechnbionhnaa
open Go.RowKit

theorem setD_other {w : World} {g k g' k' : Nat} {v u : Value} (h : g = g' → k ≠ k') (hc : w.cell? ⟨g', k', none⟩ = some u) : (w.setCell ⟨g, k, none⟩ v).cell? ⟨g', k', none⟩ = some u := by
  rw [World.cell?_setCell_other w ⟨g, k, none⟩ v (b := ⟨g', k', none⟩) (fun e => by injection e with e1 e2; exact h e1 e2)]; exact hc
theorem set_same {w : World} {g k : Nat} {v u : Value} (hc : w.cell? ⟨g, k, none⟩ = some u) : (w.setCell ⟨g, k, none⟩ v).cell? ⟨g, k, none⟩ = some v := World.cell?_setCell_same w ⟨g, k, none⟩ v hc
theorem set_frozen {w : World} {a b : Addr} {v : Value} (h : w.frozen? b = false) : (w.setCell a v).frozen? b = false := by simp [h]

/-- n bytes lie at 'ao', below block B, none of them in block g -/
def BytesAt (B : Nat) (w : World) (g : Nat) (ao : Option Addr) (n : Nat) : Prop :=
  n = 0 ∨ ∃ b off, ao = some ⟨b, off, none⟩ ∧ b ≠ g ∧ b < B ∧ ∀ j, j < n → ∃ v : Int, 0 ≤ v ∧ v ≤ 255 ∧ w.cell? ⟨b, off + j, none⟩ = some (.int .u8 v)

/-- block g is a cursor over bytes that lie elsewhere, all of it below block B -/
def Cursor (B : Nat) (w : World) (g : Nat) : Prop :=
  ∃ (ao : Option Addr) (n cap : Nat) (i h : Int), 0 ≤ i ∧ i ≤ n ∧ n ≤ 1048576 ∧ (g < B ∧ B ≤ w.heap.size) ∧ w.cell? ⟨g, 0, none⟩ = some (.slice ao n cap) ∧ w.cell? ⟨g, 1, none⟩ = some (.int .i64 i) ∧
    w.cell? ⟨g, 2, none⟩ = some (.int .i64 h) ∧ w.frozen? ⟨g, 1, none⟩ = false ∧ w.frozen? ⟨g, 2, none⟩ = false ∧ BytesAt B w g ao n

theorem wrap_small (n : Nat) (h : n ≤ 1073741823) : IntKind.i64.wrap (n : Int) = n := by
  simp [IntKind.wrap, IntKind.bits, IntKind.signed]; omega
theorem and_mask (a : Int) (m : Nat) (hm : m ≤ 1073741823) : 0 ≤ bits .and .i64 a (m : Int) ∧ bits .and .i64 a (m : Int) ≤ m := by
  have h : (BitVec.ofInt 64 a &&& BitVec.ofInt 64 (m : Int)).toNat ≤ m := by
    rw [BitVec.toNat_and]
    refine Nat.le_trans Nat.and_le_right ?_
    rw [BitVec.toNat_ofInt]
    omega
  have e : bits .and .i64 a (m : Int) = IntKind.i64.wrap (((BitVec.ofInt 64 a &&& BitVec.ofInt 64 (m : Int)).toNat : Nat) : Int) := rfl
  rw [e, wrap_small _ (by omega)]
  omega
theorem and255 (a : Int) : 0 ≤ bits .and .i64 a 255 ∧ bits .and .i64 a 255 ≤ 255 := and_mask a 255 (by omega)

theorem grown_set (w : World) (g k : Nat) (v : Value) : w.grownBy (w.setCell ⟨g, k, none⟩ v) (some g) :=
  ⟨rfl, rfl, rfl, by simp, fun j _ hj => Below.heap_setCell _ _ _ _ (fun e => hj (by rw [e]))⟩
theorem grown_drewN {w w' : World} {row : Option Nat} (h : w.grownBy w' row) (n : Nat) : w.grownBy (w'.drewN n) row := ⟨h.os, h.tape, h.output, h.size, h.block⟩

theorem bytes_set {B : Nat} {w : World} {g k n : Nat} {v : Value} {ao : Option Addr} (h : BytesAt B w g ao n) : BytesAt B (w.setCell ⟨g, k, none⟩ v) g ao n := by
  rcases h with h | ⟨b, off, h1, h2, h3, h4⟩
  · exact .inl h
  · refine .inr ⟨b, off, h1, h2, h3, fun j hj => ?_⟩
    obtain ⟨x, x0, x1, hx⟩ := h4 j hj
    exact ⟨x, x0, x1, setD_other (fun e => absurd e.symm h2) hx⟩
theorem cursor_h {B : Nat} {w : World} {g : Nat} (hc : Cursor B w g) (H : Int) : Cursor B (w.setCell ⟨g, 2, none⟩ (.int .i64 H)) g := by
  obtain ⟨ao, n, cap, i, h, h1, h2, h3, hg, c0, c1, c2, f1, f2, hb⟩ := hc
  exact ⟨ao, n, cap, i, H, h1, h2, h3, by simpa using hg, setD_other (by omega) c0, setD_other (by omega) c1, set_same c2, set_frozen f1, set_frozen f2, bytes_set hb⟩
theorem cursor_i {B : Nat} {w : World} {g n cap : Nat} {ao : Option Addr} (hc : Cursor B w g) (h0 : w.cell? ⟨g, 0, none⟩ = some (.slice ao n cap)) (j : Int) (j0 : 0 ≤ j) (j1 : j ≤ n) : Cursor B (w.setCell ⟨g, 1, none⟩ (.int .i64 j)) g := by
  obtain ⟨ao', n', cap', i, h, h1, h2, h3, hg, c0, c1, c2, f1, f2, hb⟩ := hc
  rw [h0] at c0
  obtain ⟨rfl, rfl, rfl⟩ : ao = ao' ∧ n = n' ∧ cap = cap' := by simpa using c0
  exact ⟨ao, n, cap, j, h, j0, j1, h3, by simpa using hg, setD_other (by omega) h0, set_same c1, setD_other (by omega) c2, set_frozen f1, set_frozen f2, bytes_set hb⟩
theorem cursor_keep {B : Nat} {w w' : World} {g : Nat} (hc : Cursor B w g) (hb : Below B w w') : Cursor B w' g := by
  obtain ⟨ao, n, cap, i, h, h1, h2, h3, hg, c0, c1, c2, f1, f2, hy⟩ := hc
  have hl := hg.1
  refine ⟨ao, n, cap, i, h, h1, h2, h3, ⟨hg.1, Nat.le_trans hg.2 hb.size⟩, (hb.cell hl).trans c0, (hb.cell hl).trans c1, (hb.cell hl).trans c2, (hb.frozen hl).trans f1, (hb.frozen hl).trans f2, ?_⟩
  rcases hy with hy | ⟨b, off, y1, y2, y3, y4⟩
  · exact .inl hy
  · refine .inr ⟨b, off, y1, y2, y3, fun j hj => ?_⟩
    obtain ⟨x, x0, x1, hx⟩ := y4 j hj
    exact ⟨x, x0, x1, (hb.cell (p := ⟨b, off + j, none⟩) y3).trans hx⟩
theorem cursor_bd {B : Nat} {w : World} {g : Nat} (hc : Cursor B w g) : g < B ∧ B ≤ w.heap.size := by
  obtain ⟨_, _, _, _, _, _, _, _, hg, _⟩ := hc; exact hg
theorem cursor_below {B : Nat} {w w' : World} {g : Nat} (hc : Cursor B w g) (hb : Below w.heap.size w w') : Cursor B w' g := cursor_keep hc (hb.mono (cursor_bd hc).2)

set_option maxHeartbeats 800000 in
theorem byte_any {B : Nat} (g : Nat) (w : World) (hc : Cursor B w g) :
    Calls Try.prog 64 #[.pointer (some ⟨g, 0, none⟩)] w fun e w' => ∃ x : Int, e = .returned (.int .i64 x) ∧ 0 ≤ x ∧ x ≤ 255 ∧ Cursor B w' g ∧ w.grownBy w' (some g) := by
  have HC : Hid (Cursor B w g) := hc
  obtain ⟨ao, n, cap, i, h, h1, h2, h3, hg, c0, c1, c2, f1, f2, hy⟩ := hc
  by_cases hlt : i < n
  · rcases hy with hy | ⟨b, off, rfl, y2, y3, y4⟩
    · omega
    · obtain ⟨v, v0, v1, cb⟩ := y4 i.toNat (by omega)
      clear y4
      go_enter Try.func64, Try.ntmps64
      go_wp2
      generalize wrap64 (wrap64 (h * 6364136223846793005) + 1442695040888963407) = H
      obtain ⟨W, hW⟩ : ∃ W, w.setCell ⟨g, 2, none⟩ (.int .i64 H) = W := ⟨_, rfl⟩
      have d0 : W.cell? ⟨g, 0, none⟩ = some (.slice (some ⟨b, off, none⟩) n cap) := hW ▸ setD_other (by omega) c0
      have d1 : W.cell? ⟨g, 1, none⟩ = some (.int .i64 i) := hW ▸ setD_other (by omega) c1
      have d2 : W.cell? ⟨g, 2, none⟩ = some (.int .i64 H) := hW ▸ set_same c2
      have db : W.cell? ⟨b, off + i.toNat, none⟩ = some (.int .u8 v) := hW ▸ setD_other (by omega) cb
      have e1 : W.frozen? ⟨g, 1, none⟩ = false := hW ▸ set_frozen f1
      have HR : Hid (Cursor B W g ∧ w.grownBy W (some g)) := hW ▸ ⟨cursor_h HC.out H, grown_set w g 2 _⟩
      rw [hW]
      clear hW c0 c1 c2 f1 f2 cb
      go_quiet (fail)
      go_wp2
      go_quiet (fail)
      go_wp2
      go_quiet (fail)
      go_wp2
      go_ret
      exact ⟨_, rfl, (and255 _).1, (and255 _).2, cursor_i HR.out.1 d0 _ (by omega) (by omega), grown_drewN (HR.out.2.trans (grown_set _ _ _ _)) _⟩
  · go_enter Try.func64, Try.ntmps64
    go_wp2
    generalize wrap64 (wrap64 (h * 6364136223846793005) + 1442695040888963407) = H
    obtain ⟨W, hW⟩ : ∃ W, w.setCell ⟨g, 2, none⟩ (.int .i64 H) = W := ⟨_, rfl⟩
    have d0 : W.cell? ⟨g, 0, none⟩ = some (.slice ao n cap) := hW ▸ setD_other (by omega) c0
    have d1 : W.cell? ⟨g, 1, none⟩ = some (.int .i64 i) := hW ▸ setD_other (by omega) c1
    have d2 : W.cell? ⟨g, 2, none⟩ = some (.int .i64 H) := hW ▸ set_same c2
    have HR : Hid (Cursor B W g ∧ w.grownBy W (some g)) := hW ▸ ⟨cursor_h HC.out H, grown_set w g 2 _⟩
    rw [hW]
    clear hW c0 c1 c2 f1 f2 hy
    go_quiet (fail)
    go_wp2
    go_quiet (fail)
    go_wp2
    go_ret
    exact ⟨_, rfl, (and255 _).1, (and255 _).2, HR.out.1, grown_drewN (grown_drewN HR.out.2 _) _⟩

set_option maxHeartbeats 800000 in
theorem below_any {B : Nat} (g : Nat) (n : Int) (w : World) (hc : Cursor B w g) (hn : n ≤ 1099511627776) :
    Calls Try.prog 56 #[.pointer (some ⟨g, 0, none⟩), .int .i64 n] w fun e w' => ∃ x : Int, e = .returned (.int .i64 x) ∧ 0 ≤ x ∧ (1 ≤ n → x < n) ∧ Cursor B w' g ∧ w.grownBy w' (some g) := by
  by_cases h1 : n ≤ 0
  · go_enter Try.func56, Try.ntmps56
    go_wp2
    go_ret
    exact ⟨0, rfl, by omega, by omega, hc, World.grownBy.refl _ _⟩
  · have hne : (n == 0) = false := by simp; omega
    by_cases h2 : n ≤ 256
    · go_enter Try.func56, Try.ntmps56
      go_wp2_with fail
      refine (byte_any _ _ hc).mono ?_
      rintro e w1 ⟨x, rfl, x0, x1, c1, g1⟩
      go_wp2
      go_ret
      exact ⟨_, rfl, Int.emod_nonneg _ (by omega), fun _ => Int.emod_lt_of_pos _ (by omega), c1, g1⟩
    · go_enter Try.func56, Try.ntmps56
      go_wp2_with fail
      refine (byte_any _ _ hc).mono ?_
      rintro e w1 ⟨x, rfl, x0, x1, c1, g1⟩
      go_wp2_with fail
      refine (byte_any _ _ c1).mono ?_
      rintro e w2 ⟨y, rfl, y0, y1, c2, g2⟩
      go_wp2_with fail
      refine (byte_any _ _ c2).mono ?_
      rintro e w3 ⟨z, rfl, z0, z1, c3, g3⟩
      go_wp2_with fail
      refine (byte_any _ _ c3).mono ?_
      rintro e w4 ⟨u, rfl, u0, u1, c4, g4⟩
      go_wp2
      go_ret
      exact ⟨_, rfl, Int.emod_nonneg _ (by omega), fun _ => Int.emod_lt_of_pos _ (by omega), c4, ((g1.trans g2).trans g3).trans g4⟩

set_option maxHeartbeats 800000 in
theorem once_any {B : Nat} (g : Nat) (n : Int) (w : World) (hc : Cursor B w g) (hn : n ≤ 1099511627776) :
    Calls Try.prog 44 #[.pointer (some ⟨g, 0, none⟩), .int .i64 n] w fun e w' => ∃ x : Bool, e = .returned (.bool x) ∧ Cursor B w' g ∧ w.grownBy w' (some g) := by
  go_enter Try.func44, Try.ntmps44
  go_wp2_with fail
  refine (below_any _ _ _ hc hn).mono ?_
  rintro e w1 ⟨x, rfl, x0, x1, c1, g1⟩
  go_wp2
  go_ret
  exact ⟨_, rfl, c1, g1⟩

/-- byte slices that came in: a new cursor over them -/
theorem bytes_of_row {w : World} {a : Option Addr} {len cap g : Nat} {zs : List Int} (h : IsRow .u8 w a len cap zs) (hg : w.heap.size ≤ g) : BytesAt g w g a len := by
  rcases h with ⟨rfl, rfl, rfl, rfl⟩ | ⟨x, rfl, hl, hm, hz, hcell, hwz⟩
  · exact .inl rfl
  · by_cases h0 : len = 0
    · exact .inl h0
    · obtain ⟨b, off, spot⟩ := x
      have hc := hcell 0 (by omega)
      have hspot : spot = none := by simpa [Addr.add] using World.cell?_spot hc
      subst hspot
      have hlt := World.block_lt_of_cell? w _ hc
      refine .inr ⟨b, off, rfl, by simp [Addr.add] at hlt; omega, by simp [Addr.add] at hlt; omega, fun j hj => ?_⟩
      have hj' := hcell j (by omega)
      have hwf := hwz (zs.getD j 0) (by
        have : j < zs.length := by omega
        simp [List.getD_eq_getElem?_getD, this])
      have hbd : 0 ≤ zs.getD j 0 ∧ zs.getD j 0 ≤ 255 := by simpa [Lit.wf, IntKind.min, IntKind.max, IntKind.signed, IntKind.bits] using hwf
      refine ⟨zs.getD j 0, hbd.1, hbd.2, ?_⟩
      by_cases e : j = 0
      · subst e; simpa [Addr.add] using hj'
      · simpa [Addr.add, e] using hj'

theorem cursor_new {w : World} {ao : Option Addr} {n cap : Nat} (h : Int) (t : TypeId) (hb : BytesAt w.heap.size w w.heap.size ao n) (hn : n ≤ 1048576) :
    Cursor (w.heap.size + 1) (w.alloc (.cells #[.slice ao n cap, .int .i64 0, .int .i64 h] t)) w.heap.size := by
  refine ⟨ao, n, cap, 0, h, by omega, by omega, hn, ⟨by omega, by simp⟩, by simp, by simp, by simp, by simp, by simp, ?_⟩
  rcases hb with hb | ⟨b, off, y1, y2, y3, y4⟩
  · exact .inl hb
  · refine .inr ⟨b, off, y1, y2, by omega, fun j hj => ?_⟩
    obtain ⟨x, x0, x1, hx⟩ := y4 j hj
    exact ⟨x, x0, x1, by rw [World.cell?_alloc_lt _ _ _ (by exact y3)]; exact hx⟩

set_option maxHeartbeats 800000 in
theorem new_any (a : Option Addr) (len cap : Nat) (zs : List Int) (w : World) (hr : IsRow .u8 w a len cap zs) (hn : len ≤ 1048576) :
    Calls Try.prog 42 #[.slice a len cap] w fun e w' => e = .returned (.pointer (some ⟨w.heap.size, 0, none⟩)) ∧ Cursor (w.heap.size + 1) w' w.heap.size ∧ Below w.heap.size w w' := by
  have hb := bytes_of_row (g := w.heap.size) hr (Nat.le_refl _)
  clear hr
  have HB : Hid (BytesAt w.heap.size w w.heap.size a len) := hb
  rcases hb with rfl | ⟨b, off, rfl, hbg, hbl, hbytes⟩
  · go_enter Try.func42, Try.ntmps42
    go_wp2
    refine wp_loop_rounds 1 ?_
    rw [rounds_succ]
    go_wp2
    go_ret
    exact ⟨rfl, cursor_new _ _ HB.out hn, (Below.refl _ _).alloc (Nat.le_refl _) _⟩
  · go_enter Try.func42, Try.ntmps42
    go_wp2
    go_loop [3, 4] (fun c i => ∃ (k : Nat) (H : Int), k ≤ len ∧ i = .int .i64 k ∧ c = .int .i64 H) (fun _ i => len - (intOf i).toNat)
    case atStart => exact ⟨0, _, Nat.zero_le _, rfl, rfl⟩
    case round =>
      obtain ⟨k, H, hk, rfl, rfl⟩ := hrel
      by_cases hlt : k < len
      · have hki : (k : Int) < (len : Int) := by omega
        by_cases h4 : (k : Int) < 4000
        · obtain ⟨v, v0, v1, cb⟩ := hbytes k hlt
          clear hbytes
          go_wp2
          go_round
          case rel => exact ⟨k + 1, _, by omega, by go_num, rfl⟩
          case measure => simp [intOf]; omega
        · clear hbytes
          go_wp2
          go_ret
          exact ⟨rfl, cursor_new _ _ HB.out hn, (Below.refl _ _).alloc (Nat.le_refl _) _⟩
      · clear hbytes
        go_wp2
        go_ret
        exact ⟨rfl, cursor_new _ _ HB.out hn, (Below.refl _ _).alloc (Nat.le_refl _) _⟩

end Go.Proofs.Ytiiechnbionhnaa
