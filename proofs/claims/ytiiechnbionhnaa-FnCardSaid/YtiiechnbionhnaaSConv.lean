/- A text turned into bytes, and back. -/
import Derived.Test.YtiiechnbionhnaaBy
import Derived.Test.YtiiechnbionhnaaFBytes
import Derived.Test.YtiiechnbionhnaaAid
import Derived.Lib.ConvBytes
namespace Go.Proofs.Ytiiechnbionhnaa
open Go.RowKit
set_option maxRecDepth 100000

/-- block g holds the bytes l, and may be written there -/
def BAt (w : World) (g : Nat) (l : List UInt8) : Prop := g < w.heap.size ∧ ∀ j, j < l.length → w.cell? ⟨g, j, none⟩ = some (cell (l.getD j 0)) ∧ w.frozen? ⟨g, j, none⟩ = false
theorem BAt.below {w w' : World} {g : Nat} {l : List UInt8} (h : BAt w g l) (hb : Below w.heap.size w w') : BAt w' g l :=
  ⟨Nat.lt_of_lt_of_le h.1 hb.size, fun j hj => ⟨(hb.cell (p := ⟨g, j, none⟩) h.1).trans (h.2 j hj).1, (hb.frozen (p := ⟨g, j, none⟩) h.1).trans (h.2 j hj).2⟩⟩
theorem BAt.text {w : World} {g cap : Nat} {l : List UInt8} (h : BAt w g l) : (convert 32 9 (.slice (some ⟨g, 0, none⟩) l.length cap)).run Try.prog w = .ok (.string ⟨l.toArray⟩) w := by
  refine run_convert_bytes_back w _ _ _ _ _ _ Try.underlying32 Try.underlying5 Try.underlying9 fun j hj => ?_
  rw [show (⟨g, 0, none⟩ : Addr).add j = ⟨g, j, none⟩ from by unfold Addr.add; split <;> simp_all, (h.2 j hj).1]
  simp [cell, List.getD_eq_getElem?_getD, hj]
theorem conv_bytes (d : List UInt8) (w : World) : ∃ cap w', (convert 9 32 (.string ⟨d.toArray⟩)).run Try.prog w = .ok (.slice (some ⟨w.heap.size, 0, none⟩) d.length cap) w' ∧ BAt w' w.heap.size d ∧ Below w.heap.size w w' := by
  have h := run_bytes_of_string (P := Try.prog) w 9 32 5 ⟨d.toArray⟩ Try.underlying9 Try.underlying32 Try.underlying5
  rw [ba_size] at h
  refine ⟨_, _, h, ⟨by simp [World.alloc, World.drew, -World.alloc_eq, -World.drew_eq], fun j hj => ?_⟩, ((Below.refl _ _).drew).alloc (Nat.le_refl _) _⟩
  have hh := heap_alloc_new w.drew (.cells (bytesRow ⟨d.toArray⟩ (grownCap w d.length 0 5)) 5 ((bytesRow ⟨d.toArray⟩ (grownCap w d.length 0 5)).size, (bytesRow ⟨d.toArray⟩ (grownCap w d.length 0 5)).size + 1))
  have hsz : d.length ≤ (bytesRow ⟨d.toArray⟩ (grownCap w d.length 0 5)).size := by simp [bytesRow]
  constructor
  · rw [cell_of_row _ w.heap.size j _ _ _ hh]
    simp [bytesRow, cell, Array.getElem?_append, hj, List.getD_eq_getElem?_getD]
  · unfold World.frozen?
    have hh' : (w.drew.alloc (.cells (bytesRow ⟨d.toArray⟩ (grownCap w d.length 0 5)) 5 ((bytesRow ⟨d.toArray⟩ (grownCap w d.length 0 5)).size, (bytesRow ⟨d.toArray⟩ (grownCap w d.length 0 5)).size + 1))).heap[w.heap.size]? = _ := hh
    rw [hh']
    simp; omega

theorem bytes_one (d : List UInt8) : ∀ u ∈ d.map cell, u.oneCell' = true := by
  intro u hu
  obtain ⟨x, _, rfl⟩ := List.mem_map.1 hu
  rfl

end Go.Proofs.Ytiiechnbionhnaa
