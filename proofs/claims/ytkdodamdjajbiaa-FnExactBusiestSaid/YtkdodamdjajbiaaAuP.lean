/- Authorizations, plainly: when one is so, how near it is, which is the nearest. No Go in sight. -/
import Derived.Test.YtkdodamdjajbiaaLedP
import Derived.Test.YtkdodamdjajbiaaCal
import Derived.Test.YtkdodamdjajbiaaBy
namespace Go.Proofs.Ytkdodamdjajbiaa

/-- an authorization -/
structure Au where
  ref : List UInt8
  iss : Int
  cur : Int
  am : Int
  day : Int
  used : Bool
def zeroAu : Au := ⟨[], 0, 0, 0, 0, false⟩
def auAt (az : List Au) (k : Nat) : Au := az.getD k zeroAu
theorem auAt_is {az : List Au} {k : Nat} (h : k < az.length) : auAt az k = az[k] := by simp [auAt, List.getD_eq_getElem?_getD, h]
theorem auAt_mem {az : List Au} {k : Nat} (h : k < az.length) : auAt az k ∈ az := by rw [auAt_is h]; exact List.getElem_mem h
theorem au_ext {az bs : List Au} (hl : az.length = bs.length) (h : ∀ i, i < az.length → auAt az i = auAt bs i) : az = bs := by
  apply List.ext_getElem hl
  intro i g1 g2
  have := h i g1
  rwa [auAt_is g1, auAt_is g2] at this

def refOk (l : List UInt8) : Bool := decide (l.length = 12) && within 33 126 l
def auOk (a : Au) : Bool := refOk a.ref && (acctOk a.iss && (decide (0 ≤ digs a.cur) && (decide (1 ≤ a.am ∧ a.am ≤ 100000000000) && dOk a.day)))
def timeOk (a : Au) (day : Int) : Bool := decide (a.day ≤ day ∧ day ≤ a.day + 7)
def sumOk (a : Au) (am : Int) : Bool := decide (1 ≤ am ∧ am ≤ a.am + a.am / 10)
def canV (a : Au) (iss cur am day : Int) : Bool := auOk a && (!a.used && (decide (a.iss = iss) && (decide (a.cur = cur) && (timeOk a day && sumOk a am))))
def absV (x : Int) : Int := if x < 0 then -x else x
def scoreV (a : Au) (iss cur am day : Int) : Int := if canV a iss cur am day = true then 8 * absV (am - a.am) + day - a.day else -1
theorem auOk_parts {a : Au} (h : auOk a = true) : refOk a.ref = true ∧ acctOk a.iss = true ∧ 0 ≤ digs a.cur ∧ (1 ≤ a.am ∧ a.am ≤ 100000000000) ∧ dOk a.day = true := by
  simpa [auOk] using h

end Go.Proofs.Ytkdodamdjajbiaa
