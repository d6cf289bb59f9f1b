/- The contract of the library's strings.Clone, at a text given as bytes. -/
import Derived.Test.YtiiechnbionhnaaAid
import Derived.Test.YtiiechnbionhnaaBy
import Derived.Test.YtiiechnbionhnaaShelf
namespace Go.Proofs.Ytiiechnbionhnaa
open Go.RowKit

set_option maxHeartbeats 400000 in
theorem clone_any (l : List UInt8) (w : World) (hl : l.length ≤ 1099511627776) :
    Calls Try.prog 41 #[.string ⟨l.toArray⟩] w fun e w' => e = .returned (.string ⟨l.toArray⟩) ∧ Below w.heap.size w w' := by
  go_enter Try.func41, Try.ntmps41
  go_wp2_with fail
  refine (Try.stringslite_Clone ⟨l.toArray⟩ _ (by rw [ba_size]; omega)).mono ?_
  rintro e w1 ⟨rfl, b1⟩
  go_wp2
  go_ret
  exact ⟨rfl, b1⟩

end Go.Proofs.Ytiiechnbionhnaa
