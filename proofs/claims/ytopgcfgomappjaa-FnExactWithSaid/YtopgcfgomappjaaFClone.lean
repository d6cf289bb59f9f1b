/- The contract of the library's strings.Clone, at a text given as bytes. -/
import Derived.Test.YtopgcfgomappjaaAid
import Derived.Test.YtopgcfgomappjaaBy
import Derived.Test.YtopgcfgomappjaaShelf
namespace Go.Proofs.Ytopgcfgomappjaa
open Go.RowKit

set_option maxHeartbeats 400000 in
theorem clone_any (l : List UInt8) (w : World) (hl : l.length ≤ 1099511627776) :
    Calls Try.prog 31 #[.string ⟨l.toArray⟩] w fun e w' => e = .returned (.string ⟨l.toArray⟩) ∧ Below w.heap.size w w' := by
  go_enter Try.func31, Try.ntmps31
  go_wp2_with fail
  refine (Try.stringslite_Clone ⟨l.toArray⟩ _ (by rw [ba_size]; omega)).mono ?_
  rintro e w1 ⟨rfl, b1⟩
  go_wp2
  go_ret
  exact ⟨rfl, b1⟩

end Go.Proofs.Ytopgcfgomappjaa
