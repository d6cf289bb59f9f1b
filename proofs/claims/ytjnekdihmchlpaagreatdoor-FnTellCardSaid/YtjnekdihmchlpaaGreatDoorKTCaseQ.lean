/- Cases, plainly: what an act makes of a case on a day. No Go in sight. -/
import Derived.Test.YtjnekdihmchlpaaGreatDoorJT1a
import Derived.Test.YtjnekdihmchlpaaGreatDoorJT2a
namespace Go.Proofs.YtjnekdihmchlpaaGreatDoor

/-- an amount to the issuer, or from it; nothing for 0 -/
def toIss (c : Cs) (x : Int) : List En := if x = 0 then [] else [(c.acq, c.iss, c.cur, x)]
def fromIss (c : Cs) (x : Int) : List En := if x = 0 then [] else [(c.iss, c.acq, c.cur, x)]
def endC (c : Cs) (x : Int) : Cs := ⟨c.iss, c.acq, c.cur, c.am, 7, c.rsn, 0, c.bk + x, c.fee, c.cop, c.sta, -1⟩
def loser (c : Cs) (x : Int) : Int := if c.cl ≤ 2 * x then c.acq else c.iss
def ruleC (c : Cs) (x : Int) : Cs := ⟨c.iss, c.acq, c.cur, c.am, 7, c.rsn, 0, c.bk + x, c.fee + 50000, c.cop, c.sta, -1⟩
def ruleE (c : Cs) (x : Int) : List En := toIss c x ++ [(loser c x, 9999, c.cur, 50000)]
def givenC (c : Cs) : Cs := ⟨c.iss, c.acq, c.cur, c.am, 2, c.rsn, c.cl, c.bk, c.fee, true, c.sta, -1⟩

/-- whether an act is of a state -/
def ofSt (st k : Int) : Bool :=
  if k = 0 then decide (st = 0) else if k = 1 then decide (st = 1) else if k = 2 then decide (0 ≤ st ∧ st ≤ 2) else if k = 3 then decide (st = 3) else if k = 4 then decide (st = 4)
  else if k = 5 then decide (st = 5) else if k = 6 then decide (st = 5) else if k = 7 then decide (st = 6) else if k = 8 then decide (st = 1 ∨ 3 ≤ st ∧ st ≤ 6) else if k = 9 then decide (st = 0 ∨ st = 2) else false
theorem of_cases {st k : Int} (h : ofSt st k = true) : (k = 0 ∧ st = 0) ∨ (k = 1 ∧ st = 1) ∨ (k = 2 ∧ (st = 0 ∨ st = 1 ∨ st = 2)) ∨ (k = 3 ∧ st = 3) ∨ (k = 4 ∧ st = 4) ∨ (k = 5 ∧ st = 5) ∨ (k = 6 ∧ st = 5) ∨ (k = 7 ∧ st = 6) ∨ (k = 8 ∧ (st = 1 ∨ st = 3 ∨ st = 4 ∨ st = 5 ∨ st = 6)) ∨ (k = 9 ∧ (st = 0 ∨ st = 2)) := by
  unfold ofSt at h
  repeat' split at h
  all_goals simp at h
  all_goals omega

def copied (c : Cs) (t : Int) : Bool := c.cop || (decide (c.st = 1) && lateV t c.due)
/-- the code of asking money back -/
def chargeV (c : Cs) (a : Ac) (t : Int) (zs : List Int) : Int :=
  if rOk a.rsn = false ∨ (rProof a.rsn = true ∧ copied c t = false) then 3
  else if ¬ (1 ≤ a.am ∧ a.am ≤ c.am) ∨ (a.am < c.am ∧ rPart a.rsn = false) then 2
  else if lateV t (dueV c.sta (rDays a.rsn) zs) = true then 4 else 0
/-- whether an act of the state can be done -/
def codeV (c : Cs) (a : Ac) (t : Int) (zs : List Int) : Int :=
  if a.kind = 2 then chargeV c a t zs
  else if a.kind = 1 ∨ a.kind = 6 then (if lateV t c.due = true then 4 else 0)
  else if a.kind = 3 ∨ a.kind = 4 then (if lateV t c.due = true then 4 else if 1 ≤ a.am ∧ a.am ≤ c.cl then 0 else 2)
  else if a.kind = 7 then (if 0 ≤ a.am ∧ a.am ≤ c.cl then 0 else 2)
  else if a.kind = 8 then (if lateV t c.due = true then 0 else 4) else 0
def expireC (c : Cs) : Cs := if c.st = 1 then givenC c else if c.st = 5 then endC c c.cl else if c.st = 6 then ruleC c (c.cl / 2) else endC c 0
def expireE (c : Cs) : List En := if c.st = 1 then [] else if c.st = 5 then toIss c c.cl else if c.st = 6 then ruleE c (c.cl / 2) else []
/-- what an act that can be done makes of a case -/
def nextC (c : Cs) (a : Ac) (t : Int) (zs : List Int) : Cs :=
  if a.kind = 0 then ⟨c.iss, c.acq, c.cur, c.am, 1, c.rsn, c.cl, c.bk, c.fee, c.cop, c.sta, dueV t 20 zs⟩
  else if a.kind = 1 then givenC c
  else if a.kind = 2 then ⟨c.iss, c.acq, c.cur, c.am, 3, a.rsn, a.am, a.am, c.fee, c.cop, c.sta, dueV t 30 zs⟩
  else if a.kind = 3 then ⟨c.iss, c.acq, c.cur, c.am, 4, c.rsn, a.am, c.bk - a.am, c.fee, c.cop, c.sta, dueV t 30 zs⟩
  else if a.kind = 4 then ⟨c.iss, c.acq, c.cur, c.am, 5, c.rsn, a.am, c.bk, c.fee, c.cop, c.sta, dueV t 15 zs⟩
  else if a.kind = 5 then endC c c.cl
  else if a.kind = 6 then ⟨c.iss, c.acq, c.cur, c.am, 6, c.rsn, c.cl, c.bk, c.fee, c.cop, c.sta, dueV t 60 zs⟩
  else if a.kind = 7 then ruleC c a.am
  else if a.kind = 8 then expireC c
  else ⟨c.iss, c.acq, c.cur, c.am, 7, c.rsn, c.cl, c.bk, c.fee, c.cop, c.sta, -1⟩
def nextE (c : Cs) (a : Ac) : List En :=
  if a.kind = 2 then toIss c a.am else if a.kind = 3 then fromIss c a.am else if a.kind = 5 then toIss c c.cl else if a.kind = 7 then ruleE c a.am else if a.kind = 8 then expireE c else []
def dayOkAt (c : Cs) (t : Int) (zs : List Int) : Bool := caseOk c && (dOk t && (decide (c.sta ≤ t) && offOk zs))
/-- the code of an act -/
def doV (c : Cs) (a : Ac) (t : Int) (zs : List Int) : Int :=
  if dayOkAt c t zs = false then 5 else if ofSt c.st a.kind = false then 1 else if codeV c a t zs ≠ 0 then codeV c a t zs else if caseOk (nextC c a t zs) = true then 0 else 1
def doC (c : Cs) (a : Ac) (t : Int) (zs : List Int) : Cs := if doV c a t zs = 0 then nextC c a t zs else c
def doE (c : Cs) (a : Ac) (t : Int) (zs : List Int) : List En := if doV c a t zs = 0 then nextE c a else []

end Go.Proofs.YtjnekdihmchlpaaGreatDoor
