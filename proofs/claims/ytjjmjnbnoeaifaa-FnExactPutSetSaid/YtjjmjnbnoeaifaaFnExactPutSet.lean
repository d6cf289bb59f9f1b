/- Proved: at every list of ints (up to 1048576 of them; a longer one passes by the law's own first test) the program's PutSet answers as the specification's, both results, and leaves the list as it was. No conditions. -/
import Derived.Test.YtjjmjnbnoeaifaaBase
import Derived.Test.YtjjmjnbnoeaifaaSSet
import Derived.Test.YtjjmjnbnoeaifaaIntsEq
namespace Go.Proofs.Ytjjmjnbnoeaifaa.fnExactPutSet
open Go.ChangeShapes Go.WideShapes Go.ChangeAt Go.RowKit

set_option maxHeartbeats 800000 in
theorem walk (a0 : Option Addr) (len0 cap0 : Nat) (z0 : List Int) (w : World) (w0 : IsRow .i64 w a0 len0 cap0 z0) :
    Calls Try.prog 8 #[.slice a0 len0 cap0] w fun e w' => e = .returned (.bool true) ∧ Below w.heap.size w w' := by
  obtain ⟨hl, hz⟩ := ints_of_row w0
  clear w0
  generalize z0.take len0 = zs at hl hz
  subst hl
  by_cases hbig : (1048576 : Int) < (zs.length : Int)
  · go_enter Try.func8, Try.ntmps8
    go_wp2
    go_ret
    exact ⟨rfl, Below.refl _ _⟩
  · have hn : zs.length ≤ 1048576 := by omega
    go_enter Try.func8, Try.ntmps8
    go_wp2_with fail
    refine (toIntS_any _ _ zs _ hz hn).mono ?_
    rintro e w1 ⟨rfl, o1, b1⟩
    have z1 := ints_of_own o1
    go_wp2_with fail
    refine (sPutSet_any _ _ zs _ z1 (by omega)).mono ?_
    rintro e w2 ⟨rfl, b2⟩
    have B2 := next b1 b2
    go_wp2_with fail
    refine (toIntS_any _ _ zs _ (hz.below B2) hn).mono ?_
    rintro e w3 ⟨rfl, o3, b3⟩
    have z3 := ints_of_own o3
    go_wp2_with fail
    refine (iPutSet_any _ _ zs _ z3 (by omega)).mono ?_
    rintro e w4 ⟨rfl, b4⟩
    have B4 := next (next B2 b3) b4
    go_wp2_with fail
    refine (toIntS_any _ _ zs _ (hz.below B4) hn).mono ?_
    rintro e w5 ⟨rfl, o5, b5⟩
    have z5 := ints_of_own o5
    go_wp2_with fail
    refine (eqIntS_any _ _ _ _ zs zs _ ((z3.below b4).below b5) z5 (by omega) (by omega)).mono ?_
    rintro e w6 ⟨rfl, b6⟩
    have B6 := next (next B4 b5) b6
    go_wp2
    go_ret
    exact ⟨rfl, B6⟩

set_option maxRecDepth 100000 in
theorem lifted (os : Os) (started : os.Started) (H : Type) (enc : TypeId × Value → H) :
    ReturnsInHanded {} Try.checked os 8 .any (Rows.fnExactPutSetSpec.pre6 enc Try.prog Try.f8 Rows.fnExactPutSetRow.domain false) (Rows.fnExactPutSetSpec.post enc Try.prog Try.f8 false true false false) := by
  refine returnsInHanded_of_change (C := Try.checked) own started (by kernel_rfl) Try.func8
    (ChangeSpec.witness6 (enc := enc) (C := Try.checked) false ⟨#[], #[.slice none 0 0], []⟩ 8 (by kernel_rfl) (by kernel_rfl) (by kernel_rfl) (by kernel_rfl)) ?_
  intro W base args ds gs before hval0 hW hcnd _
  have hval : ∀ (j : Nat) t v, Try.f8.params[j]? = some t → args[j]? = some v → Value.okWide Try.prog W .any base t v := hval0
  have hW' := hW
  obtain ⟨p, q, hA0, hV, rfl, hfz, hnd⟩ := hW
  have hA : DataW.TrodAll enc Try.prog W 0 (fun _ => true) true Try.f8.params.toList args.toList ds p := hA0
  rw [Try.params8] at hA hval
  obtain ⟨v0, vs0, d0, ds0, p0, q0, hargs, rfl, rfl, h0, r0⟩ := trodAll_cons hA
  obtain ⟨rfl, rfl, rfl⟩ := trodAll_nil r0
  obtain rfl : args = #[v0] := by cases args; simp_all
  obtain ⟨rfl, rfl⟩ := trodVars_none hV
  obtain ⟨a0, len0, cap0, rfl⟩ := okWide_slice Try.underlying31 (hval 0 31 v0 rfl rfl)
  have k0 := h0
  have lt0 : ∀ x ∈ p0, x.block < W.heap.size := by obtain ⟨m, hm⟩ := k0; exact DataW.trod_lt m _ _ _ hm
  obtain ⟨z0, w0⟩ : ∃ zs, IsRow .i64 W a0 len0 cap0 zs := is_row Try.underlying31 Try.underlying3 (by kernel_rfl) h0
  clear hA0 hval0
  refine (walk a0 len0 cap0 z0 W w0).mono fun e W' ⟨he, bel⟩ => ?_
  subst he
  exact ⟨_, rfl, _, _, _, [], _, [], hW', trodAll_mk1 (shut_bool Try.underlying4 _), (trodAll_cons_mk (Below.trod laidOut (by kernel_rfl) (of_decide_eq_true (by kernel_rfl)) k0 bel lt0) trodAll_mk0), rfl, bel.frame _, fun h => by cases h⟩

theorem proved : Rows.FnExactPutSetSaid :=
  OpenClaim.holds_of_wide 8 Try.f8 rfl rfl rfl rfl rfl rfl rfl ⟨rfl, rfl, rfl, rfl, rfl⟩ rfl rfl rfl rfl rfl (by kernel_rfl) Try.func8 (by kernel_rfl)
    (of_decide_eq_true (by kernel_rfl)) (by unfold Func.isWrapper; first | (rw [if_pos (by decide +kernel)]; kernel_rfl) | (rw [if_neg (by decide +kernel)]; exact ⟨rfl, rfl⟩))
    (fun os started H enc _ => lifted os started H enc)
end Go.Proofs.Ytjjmjnbnoeaifaa.fnExactPutSet
