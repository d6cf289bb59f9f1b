/- A struct of two cells that lies in a box of its own: what is kept of it. -/
import Derived.Test.YtggaadbcifbdeaaAid
namespace Go.Proofs.Ytggaadbcifbdeaa
open Go.RowKit

theorem box2 {w u : World} {x y : Value} {t : TypeId} (b : Below (w.alloc (.cells #[x, y] t)).heap.size (w.alloc (.cells #[x, y] t)) u) :
    u.cell? ⟨w.heap.size, 0, none⟩ = some x ∧ u.cell? ⟨w.heap.size, 1, none⟩ = some y ∧ Below w.heap.size w u ∧ w.heap.size < u.heap.size :=
  ⟨(b.cell (p := ⟨w.heap.size, 0, none⟩) (by simp)).trans (by simp), (b.cell (p := ⟨w.heap.size, 1, none⟩) (by simp)).trans (by simp),
    ((Below.refl _ _).alloc (Nat.le_refl _) _).trans (b.mono (by simp)), by have := b.size; simp at this; omega⟩
theorem keep2 {w u : World} {b : Nat} {x y : Value} (h0 : w.cell? ⟨b, 0, none⟩ = some x) (h1 : w.cell? ⟨b, 1, none⟩ = some y) (k : Below w.heap.size w u) :
    u.cell? ⟨b, 0, none⟩ = some x ∧ u.cell? ⟨b, 1, none⟩ = some y :=
  have hb : b < w.heap.size := World.block_lt_of_cell? w _ h0
  ⟨(k.cell (p := ⟨b, 0, none⟩) hb).trans h0, (k.cell (p := ⟨b, 1, none⟩) hb).trans h1⟩

end Go.Proofs.Ytggaadbcifbdeaa
