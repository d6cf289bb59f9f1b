/- Proved: whatever bytes are drawn from, sums by the program's Plus and Total are those of the specification, Plus does not hang on the order of its two numbers, and what it answers with true is the sum of the numbers and an amount. No conditions. -/
import Derived.Test.YtkhohbkdfgnmnaaBase
import Derived.Test.YtkhohbkdfgnmnaaDraws1
import Derived.Test.YtkhohbkdfgnmnaaTot
namespace Go.Proofs.Ytkhohbkdfgnmnaa.fnPlus
open Go.ChangeShapes Go.WideShapes Go.ChangeAt Go.RowKit

theorem plusOk_comm (a b : Int) : plusOk a b = plusOk b a := by
  unfold plusOk; rw [Int.add_comm a b]; cases mOk a <;> cases mOk b <;> rfl
theorem plusV_comm (a b : Int) : plusV a b = plusV b a := by
  unfold plusV; rw [plusOk_comm a b, Int.add_comm a b]
theorem plus_bd {a b : Int} (h : plusOk a b = true) : mOk a = true ∧ mOk b = true ∧ mOk (a + b) = true := by
  simpa [plusOk, and_assoc] using h

set_option maxHeartbeats 1000000 in
theorem walk (a0 : Option Addr) (len0 cap0 : Nat) (z0 : List Int) (w : World) (w0 : IsRow .u8 w a0 len0 cap0 z0) :
    Calls Try.prog 3 #[.slice a0 len0 cap0] w fun e w' => e = .returned (.bool true) ∧ Below w.heap.size w w' := by
  by_cases hbig : (1048576 : Int) < (len0 : Int)
  · go_enter Try.func3, Try.ntmps3
    go_wp2_with (go_at_call 14; refine (big_any _ _ _ _).mono ?_; rintro e w1 ⟨rfl, hw1⟩; subst hw1)
    go_ret
    exact ⟨rfl, Below.refl _ _⟩
  · have hn : len0 ≤ 1048576 := by omega
    go_enter Try.func3, Try.ntmps3
    go_wp2_with fail
    refine (big_any _ _ _ _).mono ?_
    rintro e w1 ⟨rfl, hw1⟩
    subst hw1
    go_wp2_with fail
    refine (drawPlus_any _ _ _ _ _ w0 hn).mono ?_
    rintro e w1 ⟨x, y, rfl, fx, fy, b1⟩
    go_wp2_with fail
    refine (iPlus_any _ _ _).mono ?_
    rintro e w2 ⟨rfl, hw2⟩
    subst hw2
    go_wp2_with fail
    refine (iPlus_any _ _ _).mono ?_
    rintro e w2 ⟨rfl, hw2⟩
    subst hw2
    rw [plusV_comm y x, plusOk_comm y x]
    go_wp2_with fail
    refine (sPlus_any _ _ _).mono ?_
    rintro e w2 ⟨rfl, hw2⟩
    subst hw2
    go_wp2_with fail
    refine (drawTotal_any _ _ _ _ _ (row_below w0 b1) hn).mono ?_
    rintro e w2 ⟨ao, c, xs, rfl, hl, hz, b2⟩
    go_wp2_with fail
    refine (iTotal_any _ _ _ _ hz (by omega)).mono ?_
    rintro e w3 ⟨rfl, b3⟩
    go_wp2_with fail
    refine (sTotal_any _ _ _ _ (hz.below b3) (by omega)).mono ?_
    rintro e w4 ⟨rfl, b4⟩
    have B4 := next (next (next b1 b2) b3) b4
    cases hp : plusOk x y
    · go_wp2
      go_ret
      exact ⟨rfl, B4⟩
    · have hq := plus_bd hp
      have d1 := mOk_bd hq.1
      have d2 := mOk_bd hq.2.1
      have hv : plusV x y = x + y := (plus_4 hq.1 hq.2.1 hq.2.2).2
      have hm := hq.2.2
      clear hq
      go_wp2_with (go_at_call 21; refine (iMoneyOk_any _ _).mono ?_; rintro e w5 ⟨rfl, hw5⟩; subst hw5)
      go_ret
      exact ⟨rfl, B4⟩

set_option maxRecDepth 100000 in
theorem lifted (os : Os) (started : os.Started) (H : Type) (enc : TypeId × Value → H) :
    ReturnsInHanded {} Try.checked os 3 .any (Rows.fnPlusSpec.pre6 enc Try.prog Try.f3 Rows.fnPlusRow.domain false) (Rows.fnPlusSpec.post enc Try.prog Try.f3 false true false false) := by
  refine returnsInHanded_of_change (C := Try.checked) own started (by kernel_rfl) Try.func3
    (ChangeSpec.witness6 (enc := enc) (C := Try.checked) false ⟨#[], #[.slice none 0 0], []⟩ 8 (by kernel_rfl) (by kernel_rfl) (by kernel_rfl) (by kernel_rfl)) ?_
  intro W base args ds gs before hval0 hW hcnd _
  have hval : ∀ (j : Nat) t v, Try.f3.params[j]? = some t → args[j]? = some v → Value.okWide Try.prog W .any base t v := hval0
  have hW' := hW
  obtain ⟨p, q, hA0, hV, rfl, hfz, hnd⟩ := hW
  have hA : DataW.TrodAll enc Try.prog W 0 (fun _ => true) true Try.f3.params.toList args.toList ds p := hA0
  rw [Try.params3] at hA hval
  obtain ⟨v0, vs0, d0, ds0, p0, q0, hargs, rfl, rfl, h0, r0⟩ := trodAll_cons hA
  obtain ⟨rfl, rfl, rfl⟩ := trodAll_nil r0
  obtain rfl : args = #[v0] := by cases args; simp_all
  obtain ⟨rfl, rfl⟩ := trodVars_none hV
  obtain ⟨a0, len0, cap0, rfl⟩ := okWide_slice Try.underlying22 (hval 0 22 v0 rfl rfl)
  have k0 := h0
  have lt0 : ∀ x ∈ p0, x.block < W.heap.size := by obtain ⟨m, hm⟩ := k0; exact DataW.trod_lt m _ _ _ hm
  obtain ⟨z0, w0⟩ : ∃ zs, IsRow .u8 W a0 len0 cap0 zs := is_row Try.underlying22 Try.underlying5 (by kernel_rfl) h0
  clear hA0 hval0
  refine (walk a0 len0 cap0 z0 W w0).mono fun e W' ⟨he, bel⟩ => ?_
  subst he
  exact ⟨_, rfl, _, _, _, [], _, [], hW', trodAll_mk1 (shut_bool Try.underlying4 _), (trodAll_cons_mk (Below.trod laidOut (by kernel_rfl) (of_decide_eq_true (by kernel_rfl)) k0 bel lt0) trodAll_mk0), rfl, bel.frame _, fun h => by cases h⟩

theorem proved : Rows.FnPlusSaid :=
  OpenClaim.holds_of_wide 3 Try.f3 rfl rfl rfl rfl rfl rfl rfl ⟨rfl, rfl, rfl, rfl, rfl⟩ rfl rfl rfl rfl rfl (by kernel_rfl) Try.func3 (by kernel_rfl)
    (of_decide_eq_true (by kernel_rfl)) (by unfold Func.isWrapper; first | (rw [if_pos (by decide +kernel)]; kernel_rfl) | (rw [if_neg (by decide +kernel)]; exact ⟨rfl, rfl⟩))
    (fun os started H enc _ => lifted os started H enc)
end Go.Proofs.Ytkhohbkdfgnmnaa.fnPlus
