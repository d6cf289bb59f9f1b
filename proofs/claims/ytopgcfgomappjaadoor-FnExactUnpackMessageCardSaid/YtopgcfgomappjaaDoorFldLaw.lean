/- The laws' own small functions over fields: how much one takes, its copy, whether two are the same. -/
import Derived.Test.YtopgcfgomappjaaDoorBase
import Derived.Test.YtopgcfgomappjaaDoorMsgP
import Derived.Handy
namespace Go.Proofs.YtopgcfgomappjaaDoor
open Go.RowKit

def leftF (l : List UInt8) (left : Int) : Int := if left - (l.length : Int) < 0 then -1 else left - (l.length : Int)

set_option maxHeartbeats 400000 in
theorem szField_any (n : Int) (l : List UInt8) (left : Int) (w : World) (hl : left ≤ 1048576 ∧ 0 ≤ left) (hm : l.length ≤ 9223372036854775807) :
    Calls Tryd.prog 42 #[.agg #[.int .i64 n, .string ⟨l.toArray⟩], .int .i64 left] w λe w' => e = .returned (.int .i64 (leftF l left)) ∧ Below w.heap.size w w' := by
  by_cases h : left - (l.length : Int) < 0
  · have HE : Hid (leftF l left = -1) := if_pos h
    go_enter Tryd.func42, Tryd.ntmps42
    go_wp2
    go_ret
    exact ⟨one_int HE.out.symm, (Below.refl _ _).alloc (Nat.le_refl _) _⟩
  · have HE : Hid (leftF l left = left - (l.length : Int)) := if_neg h
    go_enter Tryd.func42, Tryd.ntmps42
    go_wp2
    go_ret
    exact ⟨one_int HE.out.symm, (Below.refl _ _).alloc (Nat.le_refl _) _⟩

set_option maxHeartbeats 400000 in
theorem toField_any (n : Int) (l : List UInt8) (w : World) :
    Calls Tryd.prog 49 #[.agg #[.int .i64 n, .string ⟨l.toArray⟩]] w λe w' => e = .returned (.agg #[.int .i64 n, .string ⟨l.toArray⟩]) ∧ Below w.heap.size w w' := by
  go_enter Tryd.func49, Tryd.ntmps49
  go_wp2
  go_returns
  refine ⟨rfl, ?_⟩
  go_grown

end Go.Proofs.YtopgcfgomappjaaDoor
namespace Go.Proofs.YtopgcfgomappjaaDoor
open Go.RowKit

theorem box2 {w u : World} {x y : Value} {t : TypeId} (b : Below (w.alloc (.cells #[x, y] t)).heap.size (w.alloc (.cells #[x, y] t)) u) :
    u.cell? ⟨w.heap.size, 0, none⟩ = some x ∧ u.cell? ⟨w.heap.size, 1, none⟩ = some y ∧ Below w.heap.size w u ∧ w.heap.size < u.heap.size :=
  ⟨(b.cell (p := ⟨w.heap.size, 0, none⟩) (by simp)).trans (by simp), (b.cell (p := ⟨w.heap.size, 1, none⟩) (by simp)).trans (by simp),
    ((Below.refl _ _).alloc (Nat.le_refl _) _).trans (b.mono (by simp)), by have := b.size; simp at this; omega⟩
theorem keep2 {w u : World} {b : Nat} {x y : Value} (h0 : w.cell? ⟨b, 0, none⟩ = some x) (h1 : w.cell? ⟨b, 1, none⟩ = some y) (k : Below w.heap.size w u) :
    u.cell? ⟨b, 0, none⟩ = some x ∧ u.cell? ⟨b, 1, none⟩ = some y :=
  have hb : b < w.heap.size := World.block_lt_of_cell? w _ h0
  ⟨(k.cell (p := ⟨b, 0, none⟩) hb).trans h0, (k.cell (p := ⟨b, 1, none⟩) hb).trans h1⟩

end Go.Proofs.YtopgcfgomappjaaDoor
