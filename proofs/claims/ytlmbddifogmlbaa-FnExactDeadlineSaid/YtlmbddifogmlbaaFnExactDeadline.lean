/- Proved: at every two ints and every list of ints (up to 1048576 of them; a longer one passes by the law's own first test) the program's Deadline answers as the specification's, and leaves the list as it was. No conditions. -/
import Derived.Test.YtlmbddifogmlbaaBase
import Derived.Test.YtlmbddifogmlbaaIntsEq
import Derived.Test.YtlmbddifogmlbaaRDue
namespace Go.Proofs.Ytlmbddifogmlbaa.fnExactDeadline
open Go.ChangeShapes Go.WideShapes Go.ChangeAt Go.RowKit

set_option maxHeartbeats 800000 in
theorem walk (d n : Int) (a0 : Option Addr) (len0 cap0 : Nat) (z0 : List Int) (w : World) (_wd : (Lit.int .i64 d).wf = true) (_wn : (Lit.int .i64 n).wf = true) (w0 : IsRow .i64 w a0 len0 cap0 z0) :
    Calls Try.prog 3 #[.int .i64 d, .int .i64 n, .slice a0 len0 cap0] w fun e w' => e = .returned (.bool true) ∧ Below w.heap.size w w' := by
  obtain ⟨hl, hz⟩ := ints_of_row w0
  clear w0
  generalize z0.take len0 = zs at hl hz
  subst hl
  by_cases hbig : (1048576 : Int) < (zs.length : Int)
  · go_enter Try.func3, Try.ntmps3
    go_wp2
    go_ret
    exact ⟨rfl, Below.refl _ _⟩
  · have hn : zs.length ≤ 1048576 := by omega
    go_enter Try.func3, Try.ntmps3
    go_wp2_with fail
    refine (toIntS_any _ _ zs _ hz hn).mono ?_
    rintro e w1 ⟨rfl, o1, b1⟩
    have z1 := ints_of_own o1
    go_wp2_with fail
    refine (sDue_any _ _ _ _ zs _ z1 (by omega)).mono ?_
    rintro e w2 ⟨rfl, b2⟩
    have B2 := next b1 b2
    go_wp2_with fail
    refine (toIntS_any _ _ zs _ (hz.below B2) hn).mono ?_
    rintro e w3 ⟨rfl, o3, b3⟩
    have z3 := ints_of_own o3
    go_wp2_with fail
    refine (iDue_any _ _ _ _ zs _ z3 (by omega)).mono ?_
    rintro e w4 ⟨rfl, b4⟩
    have B4 := next (next B2 b3) b4
    go_wp2_with fail
    refine (toIntS_any _ _ zs _ (hz.below B4) hn).mono ?_
    rintro e w5 ⟨rfl, o5, b5⟩
    have z5 := ints_of_own o5
    go_wp2_with fail
    refine (eqIntS_any _ _ _ _ zs zs _ ((z3.below b4).below b5) z5 (by omega) (by omega)).mono ?_
    rintro e w6 ⟨rfl, b6⟩
    have B6 := next (next B4 b5) b6
    go_wp2
    go_ret
    exact ⟨rfl, B6⟩

set_option maxRecDepth 100000 in
theorem lifted (os : Os) (started : os.Started) (H : Type) (enc : TypeId × Value → H) :
    ReturnsInHanded {} Try.checked os 3 .any (Rows.fnExactDeadlineSpec.pre6 enc Try.prog Try.f3 Rows.fnExactDeadlineRow.domain false) (Rows.fnExactDeadlineSpec.post enc Try.prog Try.f3 false true false false) := by
  refine returnsInHanded_of_change (C := Try.checked) own started (by kernel_rfl) Try.func3
    (ChangeSpec.witness6 (enc := enc) (C := Try.checked) false ⟨#[], #[.int .i64 0, .int .i64 0, .slice none 0 0], []⟩ 8 (by kernel_rfl) (by kernel_rfl) (by kernel_rfl) (by kernel_rfl)) ?_
  intro W base args ds gs before hval0 hW hcnd _
  have hval : ∀ (j : Nat) t v, Try.f3.params[j]? = some t → args[j]? = some v → Value.okWide Try.prog W .any base t v := hval0
  have hW' := hW
  obtain ⟨p, q, hA0, hV, rfl, hfz, hnd⟩ := hW
  have hA : DataW.TrodAll enc Try.prog W 0 (fun _ => true) true Try.f3.params.toList args.toList ds p := hA0
  rw [Try.params3] at hA hval
  obtain ⟨v0, vs0, d0, ds0, p0, q0, hargs, rfl, rfl, h0, r0⟩ := trodAll_cons hA
  obtain ⟨v1, vs1, d1, ds1, p1, q1, rfl, rfl, rfl, h1, r1⟩ := trodAll_cons r0
  obtain ⟨v2, vs2, d2, ds2, p2, q2, rfl, rfl, rfl, h2, r2⟩ := trodAll_cons r1
  obtain ⟨rfl, rfl, rfl⟩ := trodAll_nil r2
  obtain rfl : args = #[v0, v1, v2] := by cases args; simp_all
  obtain ⟨rfl, rfl⟩ := trodVars_none hV
  obtain ⟨a0, rfl, rfl, rfl, w0⟩ := open_int Try.underlying3 (hval 0 3 v0 rfl rfl) h0
  obtain ⟨a1, rfl, rfl, rfl, w1⟩ := open_int Try.underlying3 (hval 1 3 v1 rfl rfl) h1
  obtain ⟨a2, len2, cap2, rfl⟩ := okWide_slice Try.underlying22 (hval 2 22 v2 rfl rfl)
  have k2 := h2
  have lt2 : ∀ x ∈ p2, x.block < W.heap.size := by obtain ⟨m, hm⟩ := k2; exact DataW.trod_lt m _ _ _ hm
  obtain ⟨z2, w2⟩ : ∃ zs, IsRow .i64 W a2 len2 cap2 zs := is_row Try.underlying22 Try.underlying3 (by kernel_rfl) h2
  clear hA0 hval0
  refine (walk a0 a1 a2 len2 cap2 z2 W w0 w1 w2).mono fun e W' ⟨he, bel⟩ => ?_
  subst he
  exact ⟨_, rfl, _, _, _, [], _, [], hW', trodAll_mk1 (shut_bool Try.underlying4 _), (trodAll_cons_mk (shut_int Try.underlying3 w0) (trodAll_cons_mk (shut_int Try.underlying3 w1) (trodAll_cons_mk (Below.trod laidOut (by kernel_rfl) (of_decide_eq_true (by kernel_rfl)) k2 bel lt2) trodAll_mk0))), rfl, bel.frame _, fun h => by cases h⟩

theorem proved : Rows.FnExactDeadlineSaid :=
  OpenClaim.holds_of_wide 3 Try.f3 rfl rfl rfl rfl rfl rfl rfl ⟨rfl, rfl, rfl, rfl, rfl⟩ rfl rfl rfl rfl rfl (by kernel_rfl) Try.func3 (by kernel_rfl)
    (of_decide_eq_true (by kernel_rfl)) (by unfold Func.isWrapper; first | (rw [if_pos (by decide +kernel)]; kernel_rfl) | (rw [if_neg (by decide +kernel)]; exact ⟨rfl, rfl⟩))
    (fun os started H enc _ => lifted os started H enc)
end Go.Proofs.Ytlmbddifogmlbaa.fnExactDeadline
