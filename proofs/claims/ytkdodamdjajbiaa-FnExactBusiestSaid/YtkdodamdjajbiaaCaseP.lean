/- Cases, plainly: reasons, when a case is so, what a start answers. No Go in sight. -/
import Derived.Test.YtkdodamdjajbiaaLedP
import Derived.Test.YtkdodamdjajbiaaCal
namespace Go.Proofs.Ytkdodamdjajbiaa

/-- a case -/
structure Cs where
  iss : Int
  acq : Int
  cur : Int
  am : Int
  st : Int
  rsn : Int
  cl : Int
  bk : Int
  fee : Int
  cop : Bool
  sta : Int
  due : Int
/-- an act -/
structure Ac where
  kind : Int
  am : Int
  rsn : Int

def rOk (x : Int) : Bool := x == 4837 || x == 4855 || x == 4834 || x == 4831 || x == 4853 || x == 4841
def rDays (x : Int) : Int := if x = 4837 then 85 else if x = 4855 then 65 else if x = 4834 then 45 else if x = 4831 then 45 else if x = 4853 then 65 else if x = 4841 then 45 else -1
def rPart (x : Int) : Bool := x == 4831 || x == 4853
def rProof (x : Int) : Bool := x == 4837 || x == 4834
theorem r_cases (x : Int) : x = 4837 ∨ x = 4855 ∨ x = 4834 ∨ x = 4831 ∨ x = 4853 ∨ x = 4841 ∨ (x ≠ 4837 ∧ x ≠ 4855 ∧ x ≠ 4834 ∧ x ≠ 4831 ∧ x ≠ 4853 ∧ x ≠ 4841) := by omega
theorem rOk_no {x : Int} (h : x ≠ 4837 ∧ x ≠ 4855 ∧ x ≠ 4834 ∧ x ≠ 4831 ∧ x ≠ 4853 ∧ x ≠ 4841) : rOk x = false := by simp [rOk, h]
theorem rDays_no {x : Int} (h : x ≠ 4837 ∧ x ≠ 4855 ∧ x ≠ 4834 ∧ x ≠ 4831 ∧ x ≠ 4853 ∧ x ≠ 4841) : rDays x = -1 := by simp [rDays, h]
theorem rPart_no {x : Int} (h : x ≠ 4837 ∧ x ≠ 4855 ∧ x ≠ 4834 ∧ x ≠ 4831 ∧ x ≠ 4853 ∧ x ≠ 4841) : rPart x = false := by simp [rPart, h]
theorem rProof_no {x : Int} (h : x ≠ 4837 ∧ x ≠ 4855 ∧ x ≠ 4834 ∧ x ≠ 4831 ∧ x ≠ 4853 ∧ x ≠ 4841) : rProof x = false := by simp [rProof, h]

def early (st : Int) : Bool := decide (0 ≤ st ∧ st ≤ 2) || decide (st = 7)
def party (a : Int) : Bool := acctOk a && decide (a ≠ 9999)
def reasonOkAt (r st : Int) : Bool := rOk r || (decide (r = 0) && early st)
/-- when a case is so -/
def caseOk (c : Cs) : Bool :=
  party c.iss && (party c.acq && (decide (c.iss ≠ c.acq) && (decide (0 ≤ digs c.cur) && (decide (1 ≤ c.am ∧ c.am ≤ 100000000000) && (decide (0 ≤ c.st ∧ c.st ≤ 7) && (reasonOkAt c.rsn c.st &&
    (decide (0 ≤ c.cl ∧ c.cl ≤ c.am) && (decide (0 ≤ c.bk ∧ c.bk ≤ c.am) && (decide (0 ≤ c.fee ∧ c.fee ≤ 500000) && (dOk c.sta && (dOk c.due || decide (c.due = -1))))))))))))
theorem caseOk_parts {c : Cs} (h : caseOk c = true) : party c.iss = true ∧ party c.acq = true ∧ c.iss ≠ c.acq ∧ 0 ≤ digs c.cur ∧ (1 ≤ c.am ∧ c.am ≤ 100000000000) ∧ (0 ≤ c.st ∧ c.st ≤ 7) ∧ reasonOkAt c.rsn c.st = true ∧
    (0 ≤ c.cl ∧ c.cl ≤ c.am) ∧ (0 ≤ c.bk ∧ c.bk ≤ c.am) ∧ (0 ≤ c.fee ∧ c.fee ≤ 500000) ∧ dOk c.sta = true ∧ (dOk c.due = true ∨ c.due = -1) := by
  simpa [caseOk] using h

/-- what a start answers -/
def startC (iss acq cur am day : Int) : Cs := ⟨iss, acq, cur, am, 0, 0, 0, 0, 0, false, day, -1⟩

end Go.Proofs.Ytkdodamdjajbiaa
