/- The text of a case, plainly; the contracts of CaseText, the program's and the specification's. -/
import Derived.Test.YtddffpihacolkaaDoorXMTxt
import Derived.Test.YtddffpihacolkaaDoorXLen
import Derived.Test.YtddffpihacolkaaDoorYDTxt
import Derived.Test.YtddffpihacolkaaDoorICaseOk
import Derived.Test.YtddffpihacolkaaDoorSCaseOk
import Derived.Test.YtddffpihacolkaaDoorRState
import Derived.Test.YtddffpihacolkaaDoorOver
import Derived.Test.YtddffpihacolkaaDoorBy
import Derived.Deep.RegionHeld3
import Derived.Deep.DeepCutAuto
import Derived.Sort.Grow
namespace Go.Proofs.YtddffpihacolkaaDoor
open Go.RowKit
set_option maxRecDepth 100000

def decI (n : Int) : List UInt8 := Lib.decDigits n.toNat
def stL0 (st : Int) : List UInt8 := (stV st).data.toList
theorem stL0_is (st : Int) : (⟨(stL0 st).toArray⟩ : ByteArray) = stV st := by simp [stL0]
theorem stL0_le (st : Int) : (stL0 st).length ≤ 30 := by
  unfold stL0 stV
  split
  · rename_i h
    have hb : 0 ≤ st ∧ st ≤ 7 := by simpa [stOk, inB] using h
    rcases (show st = 0 ∨ st = 1 ∨ st = 2 ∨ st = 3 ∨ st = 4 ∨ st = 5 ∨ st = 6 ∨ st = 7 by omega) with rfl | rfl | rfl | rfl | rfl | rfl | rfl | rfl <;> decide
  · simp
def dueT (d : Int) : List UInt8 := if d = -1 then [45] else Dt.dtxt d
def caseT (c : Cs) : List UInt8 := if caseOk c = true then stL0 c.st ++ [32] ++ decI c.iss ++ [32] ++ decI c.acq ++ [32] ++ decI c.cur ++ [32] ++ Mo.moneyT c.am c.cur ++ [32] ++ Mo.moneyT c.cl c.cur ++ [32] ++ Mo.moneyT c.bk c.cur ++ [32] ++ dueT c.due else []
theorem caseT_no {c : Cs} (h : caseOk c = false) : caseT c = [] := if_neg (by rw [h]; decide)
theorem caseT_yes {c : Cs} (h : caseOk c = true) : caseT c = stL0 c.st ++ [32] ++ decI c.iss ++ [32] ++ decI c.acq ++ [32] ++ decI c.cur ++ [32] ++ Mo.moneyT c.am c.cur ++ [32] ++ Mo.moneyT c.cl c.cur ++ [32] ++ Mo.moneyT c.bk c.cur ++ [32] ++ dueT c.due := if_pos h
theorem case_small {c : Cs} (h : caseOk c = true) : (1 ≤ c.iss ∧ c.iss ≤ 9999) ∧ (1 ≤ c.acq ∧ c.acq ≤ 9999) ∧ (0 ≤ c.cur ∧ c.cur ≤ 1000) ∧ (c.due = -1 ∨ dOk c.due = true) := by
  have hp := caseOk_parts h
  have h1 : 1 ≤ c.iss ∧ c.iss ≤ 9999 := by have := hp.1; simp [party, acctOk] at this; exact this.1
  have h2 : 1 ≤ c.acq ∧ c.acq ≤ 9999 := by have := hp.2.1; simp [party, acctOk] at this; exact this.1
  have h3 := hp.2.2.2.1
  refine ⟨h1, h2, ?_, ?_⟩
  · have hc : isCur c.cur = true := by rw [isCur_iff]; exact decide_eq_true h3
    rcases cur_cases hc with h | h | h | h | h | h | h | h <;> omega
  · exact hp.2.2.2.2.2.2.2.2.2.2.2.symm
theorem grow_below (w : World) (q : Nat) (os : Array Obj) : Below w.heap.size w (Go.Sort.grow (w.drewN q) os) :=
  ⟨rfl, rfl, rfl, by simp [Go.Sort.grow, World.drewN], fun k hk => by simp [Go.Sort.grow, World.drewN, Array.getElem?_append, hk]⟩
theorem itoaI {n : Int} {w : World} (h0 : 0 ≤ n) (h1 : n ≤ 1000000000000) (ht : Mo.Pow10 w) :
    Calls Tryd.prog 16 #[.int .i64 n] w fun e w' => e = .returned (.string ⟨(decI n).toArray⟩) ∧ Below w.heap.size w w' := by
  refine (Tryd.strconv_Itoa n (by omega) (by omega) w ht).mono ?_
  rintro e w' ⟨rfl, k, os, rfl⟩
  exact ⟨by rw [Lib.itoa, if_neg (by omega)]; rfl, grow_below w k os⟩
theorem decII {n : Int} (w : World) (h0 : 0 ≤ n) (h1 : n ≤ 1000000000000) :
    Calls Tryd.prog 10 #[.int .i64 n] w fun e w' => e = .returned (.string ⟨(decI n).toArray⟩) ∧ Below w.heap.size w w' := by
  obtain ⟨m, rfl⟩ := Int.eq_ofNat_of_zero_le h0
  refine (Mo.dec_up m w (by omega)).mono ?_
  rintro e w' ⟨rfl, rfl⟩
  exact ⟨rfl, Below.refl _ _⟩
theorem join8 (S A B K M L R D : List UInt8) : Lib.join [S, A, B, K, M, L, R, D] [32] = S ++ [32] ++ A ++ [32] ++ B ++ [32] ++ K ++ [32] ++ M ++ [32] ++ L ++ [32] ++ R ++ [32] ++ D := by
  simp [Lib.join]
theorem one_txt {a b : List UInt8} (h : a = b) : Value.string ⟨a.toArray⟩ = Value.string ⟨b.toArray⟩ := by rw [h]

end Go.Proofs.YtddffpihacolkaaDoor
