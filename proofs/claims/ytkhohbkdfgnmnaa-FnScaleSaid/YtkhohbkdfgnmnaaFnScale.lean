/- Proved: whatever bytes are drawn from, what the program's Scale answers is the specification's, as near as a whole number can be, halves even, the same away from 0 on both sides, and scaling by one for one gives the number itself. No conditions. -/
import Derived.Test.YtkhohbkdfgnmnaaBase
import Derived.Test.YtkhohbkdfgnmnaaDraws1
import Derived.Test.YtkhohbkdfgnmnaaScale
namespace Go.Proofs.Ytkhohbkdfgnmnaa.fnScale
open Go.ChangeShapes Go.WideShapes Go.ChangeAt Go.RowKit

theorem scale_bd {x num den : Int} (h : scaleOk x num den = true) :
    mOk x = true ∧ 0 ≤ num ∧ num ≤ 1000000 ∧ 1 ≤ den ∧ den ≤ 1000000 ∧ mOk (Plain.near (x * num) den) = true ∧ scaleV x num den = Plain.near (x * num) den := by
  have hv : scaleV x num den = Plain.near (x * num) den := by simp [scaleV, h]
  simp [scaleOk, scaleArgs, inB] at h
  exact ⟨h.1.1.1, h.1.1.2.1, h.1.1.2.2, h.1.2.1, h.1.2.2, h.2, hv⟩
theorem scale_no {x num den : Int} (h : scaleOk x num den = false) : scaleV x num den = 0 := by simp [scaleV, h]
theorem scale_other {x num den : Int} (h : scaleOk x num den = true) : scaleOk (-x) num den = true ∧ scaleV (-x) num den = - scaleV x num den := by
  obtain ⟨h1, h2, h3, h4, h5, h6, h7⟩ := scale_bd h
  have e : Plain.near (-x * num) den = - Plain.near (x * num) den := by rw [Int.neg_mul, Plain.near_neg _ _ h4]
  have := scale_2 (args_4 (by rw [mOk_minus]; exact h1) h2 h3 h4 h5) (by rw [e, mOk_minus]; exact h6)
  exact ⟨this.1, by rw [this.2, e, h7]⟩
theorem scale_same {x num den : Int} (h : scaleOk x num den = true) : scaleOk x den den = true ∧ scaleV x den den = x := by
  obtain ⟨h1, h2, h3, h4, h5, h6, h7⟩ := scale_bd h
  have e : Plain.near (x * den) den = x := by
    unfold Plain.near
    rw [Int.mul_emod_left, Int.mul_ediv_cancel _ (by omega), if_neg (by omega)]
  have := scale_2 (args_4 h1 (by omega) h5 h4 h5) (by rw [e]; exact h1)
  exact ⟨this.1, by rw [this.2, e]⟩

set_option maxHeartbeats 2000000 in
theorem walk (a0 : Option Addr) (len0 cap0 : Nat) (z0 : List Int) (w : World) (w0 : IsRow .u8 w a0 len0 cap0 z0) :
    Calls Try.prog 4 #[.slice a0 len0 cap0] w fun e w' => e = .returned (.bool true) ∧ Below w.heap.size w w' := by
  by_cases hbig : (1048576 : Int) < (len0 : Int)
  · go_enter Try.func4, Try.ntmps4
    go_wp2_with (go_at_call 14; refine (big_any _ _ _ _).mono ?_; rintro e w1 ⟨rfl, hw1⟩; subst hw1)
    go_ret
    exact ⟨rfl, Below.refl _ _⟩
  · have hn : len0 ≤ 1048576 := by omega
    go_enter Try.func4, Try.ntmps4
    go_wp2_with fail
    refine (big_any _ _ _ _).mono ?_
    rintro e w1 ⟨rfl, hw1⟩
    subst hw1
    go_wp2_with fail
    refine (drawScale_any _ _ _ _ _ w0 hn).mono ?_
    rintro e w1 ⟨x, num, den, rfl, fx, fn, fd, b1⟩
    go_wp2_with fail
    refine (iScale_any _ _ _ _).mono ?_
    rintro e w2 ⟨rfl, b2⟩
    go_wp2_with fail
    refine (sScale_any _ _ _ _).mono ?_
    rintro e w3 ⟨rfl, b3⟩
    have B3 := next (next b1 b2) b3
    clear b1 b2 b3
    cases hp : scaleOk x num den
    · have hz := scale_no hp
      go_wp2
      go_ret
      exact ⟨rfl, B3⟩
    · obtain ⟨h1, h2, h3, h4, h5, h6, h7⟩ := scale_bd hp
      have d1 := mOk_bd h1
      have hf := Plain.near_far (x * num) den h4
      have hm := Plain.mul_bd x num 1000000000000 1000000 d1.1 d1.2 h2 h3 (by omega)
      obtain ⟨o1, o2⟩ := scale_other hp
      obtain ⟨s1, s2⟩ := scale_same hp
      rw [h7] at o2
      generalize Plain.near (x * num) den = q at hf h6 h7 o2
      have d6 := mOk_bd h6
      have m1 : -1000000000000000000 ≤ x * num := by omega
      have m2 : x * num ≤ 1000000000000000000 := by omega
      have q1 : -1000000000001000000 ≤ q * den := by omega
      have q2 : q * den ≤ 1000000000001000000 := by omega
      obtain ⟨f1, f2, f3⟩ := hf
      have F3 : Hid _ := f3
      clear hm f3
      by_cases hneg : 2 * (q * den - x * num) < 0
      · by_cases hlt : -(2 * (q * den - x * num)) < den
        · go_wp2_with (go_at_call 23; refine (iScale_any _ _ _ _).mono ?_; rintro e w4 ⟨rfl, b4⟩)
          go_ret
          exact ⟨rfl, next (next B3 ‹_›) b4⟩
        · have ke : (q.tmod 2 == 0) = true := by simpa using (Plain.even_t q).2 (F3.out (.inr (by omega)))
          go_wp2_with (go_at_call 23; refine (iScale_any _ _ _ _).mono ?_; rintro e w4 ⟨rfl, b4⟩)
          go_ret
          exact ⟨rfl, next (next B3 ‹_›) b4⟩
      · by_cases hlt : 2 * (q * den - x * num) < den
        · go_wp2_with (go_at_call 23; refine (iScale_any _ _ _ _).mono ?_; rintro e w4 ⟨rfl, b4⟩)
          go_ret
          exact ⟨rfl, next (next B3 ‹_›) b4⟩
        · have ke : (q.tmod 2 == 0) = true := by simpa using (Plain.even_t q).2 (F3.out (.inl (by omega)))
          go_wp2_with (go_at_call 23; refine (iScale_any _ _ _ _).mono ?_; rintro e w4 ⟨rfl, b4⟩)
          go_ret
          exact ⟨rfl, next (next B3 ‹_›) b4⟩

set_option maxRecDepth 100000 in
theorem lifted (os : Os) (started : os.Started) (H : Type) (enc : TypeId × Value → H) :
    ReturnsInHanded {} Try.checked os 4 .any (Rows.fnScaleSpec.pre6 enc Try.prog Try.f4 Rows.fnScaleRow.domain false) (Rows.fnScaleSpec.post enc Try.prog Try.f4 false true false false) := by
  refine returnsInHanded_of_change (C := Try.checked) own started (by kernel_rfl) Try.func4
    (ChangeSpec.witness6 (enc := enc) (C := Try.checked) false ⟨#[], #[.slice none 0 0], []⟩ 8 (by kernel_rfl) (by kernel_rfl) (by kernel_rfl) (by kernel_rfl)) ?_
  intro W base args ds gs before hval0 hW hcnd _
  have hval : ∀ (j : Nat) t v, Try.f4.params[j]? = some t → args[j]? = some v → Value.okWide Try.prog W .any base t v := hval0
  have hW' := hW
  obtain ⟨p, q, hA0, hV, rfl, hfz, hnd⟩ := hW
  have hA : DataW.TrodAll enc Try.prog W 0 (fun _ => true) true Try.f4.params.toList args.toList ds p := hA0
  rw [Try.params4] at hA hval
  obtain ⟨v0, vs0, d0, ds0, p0, q0, hargs, rfl, rfl, h0, r0⟩ := trodAll_cons hA
  obtain ⟨rfl, rfl, rfl⟩ := trodAll_nil r0
  obtain rfl : args = #[v0] := by cases args; simp_all
  obtain ⟨rfl, rfl⟩ := trodVars_none hV
  obtain ⟨a0, len0, cap0, rfl⟩ := okWide_slice Try.underlying22 (hval 0 22 v0 rfl rfl)
  have k0 := h0
  have lt0 : ∀ x ∈ p0, x.block < W.heap.size := by obtain ⟨m, hm⟩ := k0; exact DataW.trod_lt m _ _ _ hm
  obtain ⟨z0, w0⟩ : ∃ zs, IsRow .u8 W a0 len0 cap0 zs := is_row Try.underlying22 Try.underlying5 (by kernel_rfl) h0
  clear hA0 hval0
  refine (walk a0 len0 cap0 z0 W w0).mono fun e W' ⟨he, bel⟩ => ?_
  subst he
  exact ⟨_, rfl, _, _, _, [], _, [], hW', trodAll_mk1 (shut_bool Try.underlying4 _), (trodAll_cons_mk (Below.trod laidOut (by kernel_rfl) (of_decide_eq_true (by kernel_rfl)) k0 bel lt0) trodAll_mk0), rfl, bel.frame _, fun h => by cases h⟩

theorem proved : Rows.FnScaleSaid :=
  OpenClaim.holds_of_wide 4 Try.f4 rfl rfl rfl rfl rfl rfl rfl ⟨rfl, rfl, rfl, rfl, rfl⟩ rfl rfl rfl rfl rfl (by kernel_rfl) Try.func4 (by kernel_rfl)
    (of_decide_eq_true (by kernel_rfl)) (by unfold Func.isWrapper; first | (rw [if_pos (by decide +kernel)]; kernel_rfl) | (rw [if_neg (by decide +kernel)]; exact ⟨rfl, rfl⟩))
    (fun os started H enc _ => lifted os started H enc)
end Go.Proofs.Ytkhohbkdfgnmnaa.fnScale
