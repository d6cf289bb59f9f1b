/- Slices of bytes that are one's own memory, and the text that they are turned into. -/
import Derived.Test.YtopgcfgomappjaaDoorBase
import Derived.Test.YtopgcfgomappjaaDoorBy
import Derived.OwnWalk
import Derived.Laws.IdiomStrings
import Derived.Laws.BytesArg
import Derived.Maps.AppendAt
import Derived.Deep.RegionHeld3
import Derived.Deep.AppendLies
namespace Go.Proofs.YtopgcfgomappjaaDoor
open Go.RowKit

theorem info5 : (Tryd.prog.info? 5).map (fun i => (i.zero, i.size, i.bytes)) = some (some (.int .u8 0), 1, 1) := by kernel_rfl
/-- a byte as a cell -/
def cell (c : UInt8) : Value := .int .u8 (c.toNat : Int)
/-- the text of bytes that one owns -/
theorem text_own {w : World} {base : Nat} {v : Value} {n : Nat} {l : List UInt8} (h : w.ownsRow base 5 1 v n (l.map cell)) :
    (convert 65 9 v).run Tryd.prog w = .ok (.string ⟨l.toArray⟩) w := by
  rcases h.2 with ⟨rfl, h0⟩ | ⟨g, cap, cur, rfl, hrest⟩
  · subst h0
    have hl : l = [] := by have := h.1; simpa using this
    subst hl
    exact run_convert_bytes_nil w _ _ Tryd.underlying65 Tryd.underlying5 _ _ _ Tryd.underlying9
  · have hl : l.length = n := by simpa using h.1
    subst hl
    refine run_convert_bytes_back w _ _ _ _ _ _ Tryd.underlying65 Tryd.underlying5 Tryd.underlying9 fun j hj => ?_
    have := h.cellAt j (by omega)
    rw [show (⟨g, 0, none⟩ : Addr).add j = ⟨g, j, none⟩ from by unfold Addr.add; split <;> simp_all]
    rw [this]
    simp [cell, hj]
theorem made5 (m : Nat) : (madeCells (Value.int .u8 0).cells (m * 1)).toList = (List.replicate m (0 : UInt8)).map cell := by
  rw [Nat.mul_one]
  refine (toList_madeCells_one _ _).trans ?_
  simp [cell]
theorem str_ok {a b : ByteArray} {x y : Bool} (h : a = b) (g : x = y) : Ending.returned (.tuple #[.string a, .bool x]) = .returned (.tuple #[.string b, .bool y]) := by rw [h, g]

end Go.Proofs.YtopgcfgomappjaaDoor
