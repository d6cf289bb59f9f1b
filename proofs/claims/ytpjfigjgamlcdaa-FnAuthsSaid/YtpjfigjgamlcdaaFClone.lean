/- The contract of the library's strings.Clone, at a text given as bytes. -/
import Derived.Test.YtpjfigjgamlcdaaAid
import Derived.Test.YtpjfigjgamlcdaaBy
import Derived.Test.YtpjfigjgamlcdaaShelf
namespace Go.Proofs.Ytpjfigjgamlcdaa
open Go.RowKit

set_option maxHeartbeats 400000 in
theorem clone_any (l : List UInt8) (w : World) (hl : l.length ≤ 1099511627776) :
    Calls Try.prog 65 #[.string ⟨l.toArray⟩] w fun e w' => e = .returned (.string ⟨l.toArray⟩) ∧ Below w.heap.size w w' := by
  go_enter Try.func65, Try.ntmps65
  go_wp2_with fail
  refine (Try.stringslite_Clone ⟨l.toArray⟩ _ (by rw [ba_size]; omega)).mono ?_
  rintro e w1 ⟨rfl, b1⟩
  go_wp2
  go_ret
  exact ⟨rfl, b1⟩

end Go.Proofs.Ytpjfigjgamlcdaa
