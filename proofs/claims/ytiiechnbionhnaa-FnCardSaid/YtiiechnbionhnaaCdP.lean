/- Cards plainly: what the digits make up, every second one taken twice, and what a digit that is put behind, changed or turned makes of it; and a scope that is left by a goto ahead to its one label. -/
import Derived.Test.YtiiechnbionhnaaBy
import Derived.ScopeJumps
import Derived.WalkMore
namespace Go

theorem wp_scope_ahead {P : Program} {a : Act} {w : World} {Q : Exit → Act → World → Prop} {c rest : Code} (l : Nat) (hf : findLabel c l = some rest)
    (first : c.wp P (Exit.jump l (fun a' w' => rest.wp P (Exit.noGoto Q) a' w') Q) a w) : (Code.scope c).wp P Q a w :=
  wp_scope_jumps l (fun a' w' => rest.wp P (Exit.noGoto Q) a' w') (fun _ _ => 0) hf first fun _ _ hJ =>
    Code.wp_mono (fun e _ _ q => by cases e <;> first | exact q | exact q.elim) hJ

end Go
namespace Go.Proofs.Ytiiechnbionhnaa

/-- What a digit counts: itself, or twice (less 9, where that is above 9). -/
def digV (tw : Bool) (c : UInt8) : Nat := if tw then (if 9 < 2 * (c.toNat - 48) then 2 * (c.toNat - 48) - 9 else 2 * (c.toNat - 48)) else c.toNat - 48

/-- What the last k digits make up, the last one taken twice when tw. -/
def lastV (tw : Bool) (l : List UInt8) : Nat → Nat
  | 0 => 0
  | k + 1 => lastV tw l k + digV (tw != decide (k % 2 = 1)) (l.getD (l.length - 1 - k) 0)

def luhn (tw : Bool) (l : List UInt8) : Nat := lastV tw l l.length

def cardOk (l : List UInt8) : Bool := decide (12 ≤ l.length ∧ l.length ≤ 19) && (within 48 57 l && decide (luhn false l % 10 = 0))
def checkV (l : List UInt8) : Int := if decide (11 ≤ l.length ∧ l.length ≤ 18) && within 48 57 l then (((10 - luhn true l % 10) % 10 : Nat) : Int) else -1

theorem digV_le (tw : Bool) {c : UInt8} (h : 48 ≤ c.toNat ∧ c.toNat ≤ 57) : digV tw c ≤ 9 := by
  unfold digV; split
  · split <;> omega
  · omega

theorem lastV_le (tw : Bool) {l : List UInt8} (h : within 48 57 l = true) : ∀ k, k ≤ l.length → lastV tw l k ≤ 9 * k := by
  intro k
  induction k with
  | zero => intro _; exact Nat.le_refl _
  | succ k ih =>
    intro hk
    have h1 := ih (by omega)
    have hlt : l.length - 1 - k < l.length := by omega
    have h2 := digV_le (tw != decide (k % 2 = 1)) (within_at h hlt)
    simp only [lastV]
    omega

end Go.Proofs.Ytiiechnbionhnaa
