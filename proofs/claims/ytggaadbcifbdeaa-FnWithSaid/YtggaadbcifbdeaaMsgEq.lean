/- The laws' own functions over messages: a message's copy; whether two are the same. -/
import Derived.Test.YtggaadbcifbdeaaMsgOwn
import Derived.Deep.RegionWith
namespace Go.Proofs.Ytggaadbcifbdeaa
open Go.RowKit

def fldEq (f g : Fld) : Bool := decide (f = g)
theorem fldEq_yes {f g : Fld} (h : fldEq f g = true) : f = g := of_decide_eq_true h
theorem fldEq_no {f g : Fld} (h : fldEq f g = false) : f ≠ g := of_decide_eq_false h

def msgEq (k1 : Int) (xs : List Fld) (k2 : Int) (ys : List Fld) : Bool := decide (k1 = k2 ∧ xs = ys)
theorem msgEq_self (k : Int) (xs : List Fld) : msgEq k xs k xs = true := decide_eq_true ⟨rfl, rfl⟩

end Go.Proofs.Ytggaadbcifbdeaa
