/- Proved: whatever bytes are drawn from, what the program's Convert answers is the specification's; an amount converted at one for one to its own currency is itself; none changes its side of 0. No conditions. -/
import Derived.Test.YtkhohbkdfgnmnaaBase
import Derived.Test.YtkhohbkdfgnmnaaDraws1
import Derived.Test.YtkhohbkdfgnmnaaConv
namespace Go.Proofs.Ytkhohbkdfgnmnaa.fnConvert
open Go.ChangeShapes Go.WideShapes Go.ChangeAt Go.RowKit

theorem near_nonneg {p den : Int} (hp : 0 ≤ p) (hd : 1 ≤ den) : 0 ≤ Plain.near p den := by
  have := Int.ediv_nonneg hp (show 0 ≤ den by omega)
  unfold Plain.near
  split <;> omega
theorem near_nonpos {p den : Int} (hp : p ≤ 0) (hd : 1 ≤ den) : Plain.near p den ≤ 0 := by
  have h := near_nonneg (p := -p) (by omega) hd
  rw [Plain.near_neg _ _ hd] at h; omega
theorem conv_bd {x fr to num den : Int} (h : convOk x fr to num den = true) :
    mOk x = true ∧ 0 ≤ digs fr ∧ (0 ≤ x → 0 ≤ convV x fr to num den) ∧ (x ≤ 0 → convV x fr to num den ≤ 0) := by
  simp [convOk] at h
  obtain ⟨ha, hs⟩ := h
  have hv : convV x fr to num den = scaleV x (num * ten (digs to)) (den * ten (digs fr)) := (conv_1 ha).2
  have hv2 : scaleV x (num * ten (digs to)) (den * ten (digs fr)) = Plain.near (x * (num * ten (digs to))) (den * ten (digs fr)) := by simp [scaleV, hs]
  simp [convArgs, inB] at ha
  simp [scaleOk, scaleArgs, inB] at hs
  refine ⟨hs.1.1.1, ha.1.1.1, fun hx => ?_, fun hx => ?_⟩
  · rw [hv, hv2]; exact near_nonneg (Int.mul_nonneg hx hs.1.1.2.1) hs.1.2.1
  · rw [hv, hv2]; exact near_nonpos (Int.mul_nonpos_of_nonpos_of_nonneg hx hs.1.1.2.1) hs.1.2.1
theorem conv_same {x fr : Int} (h1 : mOk x = true) (h2 : 0 ≤ digs fr) : convOk x fr fr 7 7 = true ∧ convV x fr fr 7 7 = x := by
  have ha := cargs_2 (fr := fr) (to := fr) (num := 7) (den := 7) h2 h2 (by omega) (by omega) (by omega) (by omega)
  have ht := ten_bd (digs fr)
  have e : Plain.near (x * (7 * ten (digs fr))) (7 * ten (digs fr)) = x := by
    unfold Plain.near
    rw [Int.mul_emod_left, Int.mul_ediv_cancel _ (by omega), if_neg (by omega)]
  have hs := scale_2 (x := x) (num := 7 * ten (digs fr)) (den := 7 * ten (digs fr)) (args_4 h1 (by omega) (by omega) (by omega) (by omega)) (by rw [e]; exact h1)
  have hc := conv_1 (x := x) ha
  exact ⟨by rw [hc.1, hs.1], by rw [hc.2, hs.2, e]⟩

set_option maxHeartbeats 2000000 in
theorem walk (a0 : Option Addr) (len0 cap0 : Nat) (z0 : List Int) (w : World) (w0 : IsRow .u8 w a0 len0 cap0 z0) :
    Calls Try.prog 6 #[.slice a0 len0 cap0] w fun e w' => e = .returned (.bool true) ∧ Below w.heap.size w w' := by
  by_cases hbig : (1048576 : Int) < (len0 : Int)
  · go_enter Try.func6, Try.ntmps6
    go_wp2_with (go_at_call 14; refine (big_any _ _ _ _).mono ?_; rintro e w1 ⟨rfl, hw1⟩; subst hw1)
    go_ret
    exact ⟨rfl, Below.refl _ _⟩
  · have hn : len0 ≤ 1048576 := by omega
    go_enter Try.func6, Try.ntmps6
    go_wp2_with fail
    refine (big_any _ _ _ _).mono ?_
    rintro e w1 ⟨rfl, hw1⟩
    subst hw1
    go_wp2_with fail
    refine (drawConvert_any _ _ _ _ _ w0 hn).mono ?_
    rintro e w1 ⟨x, fr, to, num, den, rfl, fx, ff, ft, fn, fd, b1⟩
    go_wp2_with fail
    refine (iConvert_any _ _ _ _ _ _ (fits_wf ff) (fits_wf ft)).mono ?_
    rintro e w2 ⟨rfl, b2⟩
    go_wp2_with fail
    refine (sConvert_any _ _ _ _ _ _).mono ?_
    rintro e w3 ⟨rfl, b3⟩
    go_wp2_with fail
    refine (iConvert_any _ _ _ _ _ _ (fits_wf ff) (fits_wf ff)).mono ?_
    rintro e w4 ⟨rfl, b4⟩
    have B4 := next (next (next b1 b2) b3) b4
    clear b1 b2 b3 b4
    cases hp : convOk x fr to num den
    · go_wp2
      go_ret
      exact ⟨rfl, B4⟩
    · obtain ⟨h1, h2, h3, h4⟩ := conv_bd hp
      obtain ⟨s1, s2⟩ := conv_same h1 h2
      generalize convV x fr to num den = y at h3 h4
      by_cases hx : x < 0
      · have k1 := h4 (by omega)
        have k2 : ¬ 0 < x := by omega
        clear h3 h4
        go_wp2
        go_ret
        exact ⟨rfl, B4⟩
      · have k1 := h3 (by omega)
        by_cases hx2 : 0 < x
        · clear h3 h4
          go_wp2
          go_ret
          exact ⟨rfl, B4⟩
        · have k3 := h4 (by omega)
          clear h3 h4
          go_wp2
          go_ret
          exact ⟨rfl, B4⟩

set_option maxRecDepth 100000 in
theorem lifted (os : Os) (started : os.Started) (H : Type) (enc : TypeId × Value → H) :
    ReturnsInHanded {} Try.checked os 6 .any (Rows.fnConvertSpec.pre6 enc Try.prog Try.f6 Rows.fnConvertRow.domain false) (Rows.fnConvertSpec.post enc Try.prog Try.f6 false true false false) := by
  refine returnsInHanded_of_change (C := Try.checked) own started (by kernel_rfl) Try.func6
    (ChangeSpec.witness6 (enc := enc) (C := Try.checked) false ⟨#[], #[.slice none 0 0], []⟩ 8 (by kernel_rfl) (by kernel_rfl) (by kernel_rfl) (by kernel_rfl)) ?_
  intro W base args ds gs before hval0 hW hcnd _
  have hval : ∀ (j : Nat) t v, Try.f6.params[j]? = some t → args[j]? = some v → Value.okWide Try.prog W .any base t v := hval0
  have hW' := hW
  obtain ⟨p, q, hA0, hV, rfl, hfz, hnd⟩ := hW
  have hA : DataW.TrodAll enc Try.prog W 0 (fun _ => true) true Try.f6.params.toList args.toList ds p := hA0
  rw [Try.params6] at hA hval
  obtain ⟨v0, vs0, d0, ds0, p0, q0, hargs, rfl, rfl, h0, r0⟩ := trodAll_cons hA
  obtain ⟨rfl, rfl, rfl⟩ := trodAll_nil r0
  obtain rfl : args = #[v0] := by cases args; simp_all
  obtain ⟨rfl, rfl⟩ := trodVars_none hV
  obtain ⟨a0, len0, cap0, rfl⟩ := okWide_slice Try.underlying22 (hval 0 22 v0 rfl rfl)
  have k0 := h0
  have lt0 : ∀ x ∈ p0, x.block < W.heap.size := by obtain ⟨m, hm⟩ := k0; exact DataW.trod_lt m _ _ _ hm
  obtain ⟨z0, w0⟩ : ∃ zs, IsRow .u8 W a0 len0 cap0 zs := is_row Try.underlying22 Try.underlying5 (by kernel_rfl) h0
  clear hA0 hval0
  refine (walk a0 len0 cap0 z0 W w0).mono fun e W' ⟨he, bel⟩ => ?_
  subst he
  exact ⟨_, rfl, _, _, _, [], _, [], hW', trodAll_mk1 (shut_bool Try.underlying4 _), (trodAll_cons_mk (Below.trod laidOut (by kernel_rfl) (of_decide_eq_true (by kernel_rfl)) k0 bel lt0) trodAll_mk0), rfl, bel.frame _, fun h => by cases h⟩

theorem proved : Rows.FnConvertSaid :=
  OpenClaim.holds_of_wide 6 Try.f6 rfl rfl rfl rfl rfl rfl rfl ⟨rfl, rfl, rfl, rfl, rfl⟩ rfl rfl rfl rfl rfl (by kernel_rfl) Try.func6 (by kernel_rfl)
    (of_decide_eq_true (by kernel_rfl)) (by unfold Func.isWrapper; first | (rw [if_pos (by decide +kernel)]; kernel_rfl) | (rw [if_neg (by decide +kernel)]; exact ⟨rfl, rfl⟩))
    (fun os started H enc _ => lifted os started H enc)
end Go.Proofs.Ytkhohbkdfgnmnaa.fnConvert
