/- The contract of hasBytes: whether so many bytes stand in a text from a place on. -/
import Derived.Test.YtopgcfgomappjaaDoorFLeaf
import Derived.Test.YtopgcfgomappjaaDoorBase
import Derived.Test.YtopgcfgomappjaaDoorBy
import Derived.Test.YtopgcfgomappjaaDoorShelf
namespace Go.Proofs.YtopgcfgomappjaaDoor
open Go.RowKit

theorem str_two {a b : ByteArray} {x y : Int} (h : a = b) (g : x = y) : Ending.returned (.tuple #[.string a, .int .i64 x]) = .returned (.tuple #[.string b, .int .i64 y]) := by rw [h, g]
theorem piece_eq (l : List UInt8) (a b : Nat) : (⟨l.toArray⟩ : ByteArray).extract a (a + b) = ⟨((l.drop a).take b).toArray⟩ := by
  rw [ba_extract, Nat.add_sub_cancel_left]

def hasB (n : Nat) (i size : Int) : Bool := decide (0 ≤ i ∧ i ≤ n ∧ size ≤ n - i)
theorem hasB_pos {n : Nat} {i size : Int} (h0 : 0 ≤ i) (h1 : i ≤ n) (h2 : size ≤ n - i) : hasB n i size = true := decide_eq_true ⟨h0, h1, h2⟩
theorem hasB_neg {n : Nat} {i size : Int} (h : i < 0 ∨ n < i ∨ n - i < size) : hasB n i size = false := decide_eq_false (by omega)
theorem hasB_in {n : Nat} {i size : Int} (h : hasB n i size = true) : 0 ≤ i ∧ i ≤ n ∧ size ≤ n - i := of_decide_eq_true h
theorem hasB_out {n : Nat} {i size : Int} (h : hasB n i size = false) : ¬ (0 ≤ i ∧ i ≤ n ∧ size ≤ n - i) := of_decide_eq_false h

set_option maxHeartbeats 400000 in
theorem hasBytes_any (l : List UInt8) (i size : Int) (w : World) (hl : l.length ≤ 1099511627776) :
    Calls Tryd.prog 80 #[.string ⟨l.toArray⟩, .int .i64 i, .int .i64 size] w λe w' => e = .returned (.bool (hasB l.length i size)) ∧ w' = w := by
  by_cases h0 : 0 ≤ i
  · by_cases h1 : i ≤ (l.length : Int)
    · by_cases h2 : size ≤ (l.length : Int) - i
      · have HB : Hid _ := hasB_pos h0 h1 h2
        go_enter Tryd.func80, Tryd.ntmps80
        go_wp2
        go_ret
        exact ⟨one_bool HB.out.symm, rfl⟩
      · have HB : Hid (hasB l.length i size = false) := hasB_neg (by omega)
        have h2' : (l.length : Int) - i < size := by omega
        go_enter Tryd.func80, Tryd.ntmps80
        go_wp2
        go_ret
        exact ⟨one_bool HB.out.symm, rfl⟩
    · have HB : Hid (hasB l.length i size = false) := hasB_neg (by omega)
      go_enter Tryd.func80, Tryd.ntmps80
      go_wp2
      go_ret
      exact ⟨one_bool HB.out.symm, rfl⟩
  · have HB : Hid (hasB l.length i size = false) := hasB_neg (by omega)
    go_enter Tryd.func80, Tryd.ntmps80
    go_wp2
    go_ret
    exact ⟨one_bool HB.out.symm, rfl⟩

end Go.Proofs.YtopgcfgomappjaaDoor
namespace Go.Proofs.YtopgcfgomappjaaDoor
open Go.RowKit

set_option maxHeartbeats 400000 in
theorem clone_any (l : List UInt8) (w : World) (hl : l.length ≤ 1099511627776) :
    Calls Tryd.prog 115 #[.string ⟨l.toArray⟩] w λe w' => e = .returned (.string ⟨l.toArray⟩) ∧ Below w.heap.size w w' := by
  go_enter Tryd.func115, Tryd.ntmps115
  go_wp2_with fail
  refine (Tryd.stringslite_Clone ⟨l.toArray⟩ _ (by rw [ba_size]; omega)).mono ?_
  rintro e w1 ⟨rfl, b1⟩
  go_wp2
  go_ret
  exact ⟨rfl, b1⟩

end Go.Proofs.YtopgcfgomappjaaDoor
