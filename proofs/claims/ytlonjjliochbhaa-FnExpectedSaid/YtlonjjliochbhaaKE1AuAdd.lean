/- The contract of the program's AuthAdd. -/
import Derived.Test.YtlonjjliochbhaaJE10b
import Derived.Test.YtlonjjliochbhaaJE10a
namespace Go.Proofs.Ytlonjjliochbhaa
open Go.RowKit
set_option maxRecDepth 100000

def refP (l : List UInt8) (a : Au) : Bool := a.ref == l
def addOk (az : List Au) (a : Au) : Bool := auOk a && (!az.any (refP a.ref) && decide (az.length < 100))
def addA (az : List Au) (a : Au) : List Au := if addOk az a = true then az ++ [a] else az
theorem addA_no {az : List Au} {a : Au} (h : addOk az a = false) : addA az a = az := by rw [addA, if_neg (by rw [h]; decide)]
theorem addA_yes {az : List Au} {a : Au} (h : addOk az a = true) : addA az a = az ++ [a] := by rw [addA, if_pos h]
theorem addA_len (az : List Au) (a : Au) : (addA az a).length ≤ az.length + 1 := by unfold addA; split <;> simp
theorem any_step (p : Au → Bool) (az : List Au) (k : Nat) (h : k < az.length) : (az.drop k).any p = (p (auAt az k) || (az.drop (k + 1)).any p) := by
  rw [List.drop_eq_getElem_cons h, auAt_is h, List.any_cons]
theorem au_oneA {w : World} {g : Nat} {a : Au} (h : AuB g a w) : AuthsAt w (some ⟨g, 0, none⟩) [a] :=
  .inr ⟨g, 0, rfl, h.lt, fun i hi => by
    obtain rfl : i = 0 := by simpa using hi
    exact ⟨h.c0, h.c1, h.c2, h.c3, h.c4, h.c5⟩⟩


end Go.Proofs.Ytlonjjliochbhaa
