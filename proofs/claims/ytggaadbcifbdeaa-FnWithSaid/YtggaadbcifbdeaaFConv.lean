/- A text turned into bytes of its own: a new block, whose room behind the bytes is anyone's. -/
import Derived.Test.YtggaadbcifbdeaaFRow
namespace Go.Proofs.Ytggaadbcifbdeaa
open Go.RowKit
set_option maxRecDepth 100000

def convR (d : List UInt8) (W : World) : Array Value := bytesRow ⟨d.toArray⟩ (grownCap W d.length 0 5)
def convW (d : List UInt8) (W : World) : World := W.drew.alloc (.cells (convR d W) 5 ((convR d W).size, (convR d W).size + 1))
def convC (d : List UInt8) (W : World) : Nat := grownCap W d.length 0 5
theorem conv_run (d : List UInt8) (W : World) : (convert 9 22 (.string ⟨d.toArray⟩)).run Try.prog W = .ok (.slice (some ⟨W.heap.size, 0, none⟩) d.length (convC d W)) (convW d W) := by
  have h := run_bytes_of_string (P := Try.prog) W 9 22 5 ⟨d.toArray⟩ Try.underlying9 Try.underlying22 Try.underlying5
  rw [ba_size] at h
  exact h
theorem convW_size (d : List UInt8) (W : World) : (convW d W).heap.size = W.heap.size + 1 := by simp [convW, World.alloc, World.drew, -World.alloc_eq, -World.drew_eq]
theorem convW_below (d : List UInt8) (W : World) : Below W.heap.size W (convW d W) := ((Below.refl _ _).drew).alloc (Nat.le_refl _) _
theorem convC_ge (d : List UInt8) (W : World) : d.length ≤ convC d W := grownCap_ge W d.length 0 5
theorem convC_le (d : List UInt8) (W : World) (h : d.length ≤ maxLen) : convC d W ≤ maxLen := grownCap_le_maxLen W d.length 0 5 h
theorem convW_row (d : List UInt8) (W : World) : Row (convW d W) W.heap.size d := by
  have hh : (convW d W).heap[W.heap.size]? = some (.cells (convR d W) 5 ((convR d W).size, (convR d W).size + 1)) := heap_alloc_new W.drew _
  have hsz : d.length ≤ (convR d W).size := by simp [convR, bytesRow]
  refine ⟨fun j x hx => ?_, fun j hj => ?_, by rw [convW_size]; omega⟩
  · have hj := (List.getElem?_eq_some_iff.1 hx).1
    rw [cell_of_row _ W.heap.size j _ _ _ hh]
    simp [convR, bytesRow, Array.getElem?_append, hj, (List.getElem?_eq_some_iff.1 hx).2]
  · unfold World.frozen?
    rw [hh]
    simp; omega

end Go.Proofs.Ytggaadbcifbdeaa
