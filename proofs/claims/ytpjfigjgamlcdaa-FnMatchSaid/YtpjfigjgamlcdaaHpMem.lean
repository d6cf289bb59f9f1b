/- A heap of candidates as it lies: a row of one's own, and the variable that holds it. -/
import Derived.Test.YtpjfigjgamlcdaaHeapP
import Derived.Test.YtpjfigjgamlcdaaAid
import Derived.Test.YtpjfigjgamlcdaaBase
import Derived.Handy
import Derived.OwnWalk
import Derived.Lib.AppendZeros
import Derived.Maps.AppendAt
import Derived.Deep.AppendLies
import Derived.Deep.RegionWith
namespace Go.Proofs.Ytpjfigjgamlcdaa
open Go.RowKit
set_option maxRecDepth 100000

def ccell (x : Cd) : List Value := [.int .i64 x.1, .int .i64 x.2]
def ccells (H : List Cd) : List Value := H.flatMap ccell
theorem ccells_cons (x : Cd) (r : List Cd) : ccells (x :: r) = .int .i64 x.1 :: .int .i64 x.2 :: ccells r := rfl
theorem ccells_append (a b : List Cd) : ccells (a ++ b) = ccells a ++ ccells b := by simp [ccells]
theorem ccells_len (H : List Cd) : (ccells H).length = H.length * 2 := by
  induction H with
  | nil => rfl
  | cons x r ih => rw [ccells_cons]; simp [ih]; omega
theorem ccells_at (H : List Cd) : ∀ k, k < H.length → (ccells H)[k * 2]? = some (.int .i64 (cdAt H k).1) ∧ (ccells H)[k * 2 + 1]? = some (.int .i64 (cdAt H k).2) := by
  induction H with
  | nil => intro k h; simp at h
  | cons x r ih =>
    intro k h
    rw [ccells_cons]
    cases k with
    | zero => exact ⟨rfl, rfl⟩
    | succ k =>
      have := ih k (by simpa using h)
      rw [show (k + 1) * 2 = k * 2 + 1 + 1 by omega, List.getElem?_cons_succ, List.getElem?_cons_succ, List.getElem?_cons_succ, List.getElem?_cons_succ]
      exact this
theorem ccells_set (H : List Cd) (x : Cd) : ∀ k, k < H.length → ((ccells H).set (k * 2) (.int .i64 x.1)).set (k * 2 + 1) (.int .i64 x.2) = ccells (H.set k x) := by
  induction H with
  | nil => intro k h; simp at h
  | cons g r ih =>
    intro k h
    rw [ccells_cons]
    cases k with
    | zero => rfl
    | succ k =>
      have := ih k (by simpa using h)
      rw [show (k + 1) * 2 = k * 2 + 1 + 1 by omega, List.set_cons_succ, List.set_cons_succ, List.set_cons_succ, List.set_cons_succ, this]
      rfl
theorem ccells_one (H : List Cd) : ∀ u ∈ ccells H, u.oneCell' = true := by
  intro u hu
  obtain ⟨a, _, h⟩ := List.mem_flatMap.1 hu
  simp only [ccell, List.mem_cons, List.not_mem_nil, or_false] at h
  rcases h with rfl | rfl <;> rfl
theorem infoC : (Try.prog.info? 61).map (fun i => (i.zero, i.size, i.bytes)) = some (some (.agg #[.int .i64 0, .int .i64 0]), 2, 16) := by kernel_rfl

/-- the candidates H stand in the row at 'ao', which the variable behind w holds; all that stood in w stands, and one block more, if it is named -/
structure HP (q : Option (Nat × Obj)) (w : World) (H : List Cd) (ao : Option Addr) (cap : Nat) (u : World) : Prop where
  bel : Below w.heap.size w u
  box : u.cell? ⟨w.heap.size, 0, none⟩ = some (.slice ao H.length cap)
  fz : u.frozen? ⟨w.heap.size, 0, none⟩ = false
  own : u.ownsRow (w.heap.size + 1) 61 2 (.slice ao H.length cap) H.length (ccells H)
  kp : ∀ b o, q = some (b, o) → u.heap[b]? = some o ∧ w.heap.size < b ∧ ∀ x, (Value.slice ao H.length cap).ownBlock = some x → x ≠ b
theorem HP.lt {q : Option (Nat × Obj)} {w u : World} {H : List Cd} {ao : Option Addr} {cap : Nat} (h : HP q w H ao cap u) : w.heap.size < u.heap.size := World.block_lt_of_cell? u _ h.box
theorem keepC {w w' : World} {base n size : Nat} {t : TypeId} {v : Value} {xs : List Value} (h : w.ownsRow base t size v n xs) (hb : Below w.heap.size w w') : w'.ownsRow base t size v n xs := by
  obtain ⟨h1, h2⟩ := h
  refine ⟨h1, ?_⟩
  rcases h2 with h | ⟨g, cap, cur, hv, hg, hh, a1, a2, a3, a4⟩
  · exact .inl h
  · have hlt : g < w.heap.size := (Array.getElem?_eq_some_iff.1 hh).1
    exact .inr ⟨g, cap, cur, hv, hg, (hb.block g hlt).trans hh, a1, a2, a3, a4⟩
theorem HP.below {q : Option (Nat × Obj)} {w u u' : World} {H : List Cd} {ao : Option Addr} {cap : Nat} (h : HP q w H ao cap u) (b : Below u.heap.size u u') : HP q w H ao cap u' :=
  ⟨h.bel.trans (b.mono h.bel.size), (b.cell (p := ⟨w.heap.size, 0, none⟩) h.lt).trans h.box, (b.frozen (p := ⟨w.heap.size, 0, none⟩) h.lt).trans h.fz, keepC h.own b, fun x o e => by
    obtain ⟨h1, h2, h3⟩ := h.kp x o e
    exact ⟨(b.block x (Array.getElem?_eq_some_iff.1 h1).1).trans h1, h2, h3⟩⟩
theorem HP.row {q : Option (Nat × Obj)} {w u : World} {H : List Cd} {ao : Option Addr} {cap : Nat} (h : HP q w H ao cap u) (h0 : 0 < H.length) : ∃ g, ao = some ⟨g, 0, none⟩ ∧ w.heap.size < g ∧ g < u.heap.size := by
  rcases h.own.2 with ⟨hv, hn⟩ | ⟨g, c, cur, hv, hg, _⟩
  · omega
  · obtain ⟨rfl, rfl⟩ : ao = some ⟨g, 0, none⟩ ∧ cap = c := by simpa using hv
    exact ⟨g, rfl, by omega, (h.own.lt g rfl).2⟩
theorem HP.at {q : Option (Nat × Obj)} {w u : World} {H : List Cd} {g : Nat} {cap : Nat} (h : HP q w H (some ⟨g, 0, none⟩) cap u) {k : Nat} (hk : k < H.length) : u.cell? ⟨g, k * 2, none⟩ = some (.int .i64 (cdAt H k).1) ∧ u.cell? ⟨g, k * 2 + 1, none⟩ = some (.int .i64 (cdAt H k).2) := by
  have hl := h.own.1
  rw [h.own.cellAt (k * 2) (by omega), h.own.cellAt (k * 2 + 1) (by omega)]
  exact ccells_at H k hk
theorem HP.apart {q : Option (Nat × Obj)} {w u : World} {H : List Cd} {ao : Option Addr} {cap : Nat} (h : HP q w H ao cap u) : some w.heap.size ≠ (Value.slice ao H.length cap).ownBlock := fun e => by have := (h.own.lt _ e.symm).1; omega
theorem setC_other {w : World} {g k g' k' : Nat} {v u : Value} (h : g ≠ g') (hc : w.cell? ⟨g', k', none⟩ = some u) : (w.setCell ⟨g, k, none⟩ v).cell? ⟨g', k', none⟩ = some u := by
  rw [World.cell?_setCell_other w ⟨g, k, none⟩ v (b := ⟨g', k', none⟩) (fun e => by injection e with e1 e2; exact h e1)]; exact hc
theorem HP.setAt {q : Option (Nat × Obj)} {w u : World} {H : List Cd} {g : Nat} {cap : Nat} (h : HP q w H (some ⟨g, 0, none⟩) cap u) {k : Nat} (hk : k < H.length) (x : Cd) : HP q w (H.set k x) (some ⟨g, 0, none⟩) cap ((u.setCell ⟨g, k * 2, none⟩ (.int .i64 x.1)).setCell ⟨g, k * 2 + 1, none⟩ (.int .i64 x.2)) := by
  obtain ⟨g', e, hg, _⟩ := h.row (by omega)
  obtain rfl : g = g' := by simpa using e
  have R0 := h.own.stored (k * 2) (.int .i64 x.1)
  have R1 := R0.1.stored (k * 2 + 1) (.int .i64 x.2)
  have R := R1.1
  rw [ccells_set H x k hk] at R
  refine ⟨(h.bel.setCell (Nat.le_of_lt hg) _).setCell (Nat.le_of_lt hg) _, ?_, ?_, by rw [List.length_set]; exact R, fun b o e => ?_⟩
  · rw [List.length_set]
    exact setC_other (by omega) (setC_other (by omega) h.box)
  · simp [h.fz]
  · obtain ⟨h1, h2, h3⟩ := h.kp b o e
    have hgb : g ≠ b := h3 g rfl
    refine ⟨?_, h2, by rw [List.length_set]; exact h3⟩
    rw [Below.heap_setCell _ _ _ _ (fun e => hgb e.symm), Below.heap_setCell _ _ _ _ (fun e => hgb e.symm)]
    exact h1

end Go.Proofs.Ytpjfigjgamlcdaa
