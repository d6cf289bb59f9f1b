/- The contracts of the small functions of chapter 1 (money): what each returns for every argument. -/
import Derived.Test.YtddffpihacolkaaDoorProg
import Derived.WalkKit
import Derived.WalkLawsBesides
namespace Go.Proofs.YtddffpihacolkaaDoor
open Go.RowKit

def mOk (x : Int) : Bool := decide (-1000000000000 ≤ x ∧ x ≤ 1000000000000)
theorem mOk_pos {x : Int} (h1 : -1000000000000 ≤ x) (h2 : x ≤ 1000000000000) : mOk x = true := by simp [mOk, h1, h2]
theorem mOk_neg {x : Int} (h : x < -1000000000000 ∨ 1000000000000 < x) : mOk x = false := by simp [mOk]; omega
theorem mOk_bd {x : Int} (h : mOk x = true) : -1000000000000 ≤ x ∧ x ≤ 1000000000000 := by simpa [mOk] using h
theorem mOk_out {x : Int} (h : mOk x = false) : x < -1000000000000 ∨ 1000000000000 < x := by simp [mOk] at h; omega

def inB (x a b : Int) : Bool := decide (a ≤ x ∧ x ≤ b)

set_option maxHeartbeats 400000 in
theorem in_any (x a b : Int) (w : World) :
    Calls Tryd.prog 19 #[.int .i64 x, .int .i64 a, .int .i64 b] w fun e w' => e = .returned (.bool (inB x a b)) ∧ w' = w := by
  by_cases h1 : a ≤ x
  · by_cases h2 : x ≤ b
    · go_enter Tryd.func19, Tryd.ntmps19
      go_wp2
      go_ret
      exact ⟨by simp [inB, h1, h2], rfl⟩
    · go_enter Tryd.func19, Tryd.ntmps19
      go_wp2
      go_ret
      exact ⟨by simp [inB, h1, h2], rfl⟩
  · go_enter Tryd.func19, Tryd.ntmps19
    go_wp2
    go_ret
    exact ⟨by simp [inB]; omega, rfl⟩

set_option maxHeartbeats 400000 in
theorem sMoneyOk_any (x : Int) (w : World) :
    Calls Tryd.prog 25 #[.int .i64 x] w fun e w' => e = .returned (.bool (mOk x)) ∧ w' = w := by
  go_enter Tryd.func25, Tryd.ntmps25
  go_wp2_with (go_at_call 19; refine (in_any _ _ _ _).mono ?_; rintro e w' ⟨rfl, rfl⟩)
  go_ret
  exact ⟨rfl, rfl⟩

set_option maxHeartbeats 400000 in
theorem ok_any (x : Int) (w : World) :
    Calls Tryd.prog 51 #[.int .i64 x] w fun e w' => e = .returned (.bool (mOk x)) ∧ w' = w := by
  by_cases h1 : -1000000000000 ≤ x
  · by_cases h2 : x ≤ 1000000000000
    · go_enter Tryd.func51, Tryd.ntmps51
      go_wp2
      go_ret
      exact ⟨by simp [mOk, h1, h2], rfl⟩
    · go_enter Tryd.func51, Tryd.ntmps51
      go_wp2
      go_ret
      exact ⟨by simp [mOk, h1, h2], rfl⟩
  · go_enter Tryd.func51, Tryd.ntmps51
    go_wp2
    go_ret
    exact ⟨by simp [mOk]; omega, rfl⟩

set_option maxHeartbeats 400000 in
theorem iMoneyOk_any (x : Int) (w : World) :
    Calls Tryd.prog 36 #[.int .i64 x] w fun e w' => e = .returned (.bool (mOk x)) ∧ w' = w := by
  go_enter Tryd.func36, Tryd.ntmps36
  go_wp2_with (go_at_call 51; refine (ok_any _ _).mono ?_; rintro e w' ⟨rfl, rfl⟩)
  go_ret
  exact ⟨rfl, rfl⟩

end Go.Proofs.YtddffpihacolkaaDoor
