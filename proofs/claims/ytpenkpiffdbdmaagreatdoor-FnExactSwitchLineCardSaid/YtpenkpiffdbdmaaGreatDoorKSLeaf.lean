/- The contracts of the small functions of chapter 1 (money): what each returns for every argument. -/
import Derived.Test.YtpenkpiffdbdmaaGreatDoorProg
import Derived.WalkLawsBesides
namespace Go.Proofs.YtpenkpiffdbdmaaGreatDoor
open Go.RowKit

def mOk (x : Int) : Bool := decide (-1000000000000 ≤ x ∧ x ≤ 1000000000000)
theorem mOk_pos {x : Int} (h1 : -1000000000000 ≤ x) (h2 : x ≤ 1000000000000) : mOk x = true := by simp [mOk, h1, h2]
theorem mOk_neg {x : Int} (h : x < -1000000000000 ∨ 1000000000000 < x) : mOk x = false := by simp [mOk]; omega
theorem mOk_bd {x : Int} (h : mOk x = true) : -1000000000000 ≤ x ∧ x ≤ 1000000000000 := by simpa [mOk] using h
theorem mOk_out {x : Int} (h : mOk x = false) : x < -1000000000000 ∨ 1000000000000 < x := by simp [mOk] at h; omega

def inB (x a b : Int) : Bool := decide (a ≤ x ∧ x ≤ b)

set_option maxHeartbeats 400000 in
theorem in_any (x a b : Int) (w : World) :
    Calls Tryz.prog 29 #[.int .i64 x, .int .i64 a, .int .i64 b] w fun e w' => e = .returned (.bool (inB x a b)) ∧ w' = w := by
  by_cases h1 : a ≤ x
  · by_cases h2 : x ≤ b
    · go_enter Tryz.func29, Tryz.ntmps29
      go_wp2
      go_ret
      exact ⟨by simp [inB, h1, h2], rfl⟩
    · go_enter Tryz.func29, Tryz.ntmps29
      go_wp2
      go_ret
      exact ⟨by simp [inB, h1, h2], rfl⟩
  · go_enter Tryz.func29, Tryz.ntmps29
    go_wp2
    go_ret
    exact ⟨by simp [inB]; omega, rfl⟩




end Go.Proofs.YtpenkpiffdbdmaaGreatDoor
