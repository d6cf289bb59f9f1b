/- Proved: at every case the program's CaseNet answers as the specification's. No conditions. -/
import Derived.Test.YtcglkfhphinfaaaBase
import Derived.Test.YtcglkfhphinfaaaCLaw
import Derived.Deep.DeepCutAuto
namespace Go.Proofs.Ytcglkfhphinfaaa.fnExactCaseNet
open Go.ChangeShapes Go.WideShapes Go.ChangeAt Go.RowKit
set_option maxRecDepth 100000

set_option maxHeartbeats 800000 in
theorem iNet_any (c : Cs) (w : World) : Calls Try.prog 28 #[cv c] w fun e w' => e = .returned (.int .i64 (wrap64 (c.am - c.bk))) ∧ Below w.heap.size w w' := by
  obtain ⟨iss, acq, cur, am, st, rsn, cl, bk, fee, cop, sta, due⟩ := c
  unfold cv
  go_enter Try.func28, Try.ntmps28
  go_wp2
  go_ret
  exact ⟨rfl, by go_grown⟩
set_option maxHeartbeats 800000 in
theorem sNet_any (c : Cs) (w : World) : Calls Try.prog 27 #[cv c] w fun e w' => e = .returned (.int .i64 (wrap64 (c.am - c.bk))) ∧ Below w.heap.size w w' := by
  obtain ⟨iss, acq, cur, am, st, rsn, cl, bk, fee, cop, sta, due⟩ := c
  unfold cv
  go_enter Try.func27, Try.ntmps27
  go_wp2
  go_ret
  exact ⟨rfl, by go_grown⟩

set_option maxHeartbeats 800000 in
theorem walk (c : Cs) (w : World) (_w0 : csBd c) :
    Calls Try.prog 9 #[cv c] w fun e w' => e = .returned (.bool true) ∧ Below w.heap.size w w' := by
  obtain ⟨N, hN⟩ : ∃ N, wrap64 (c.am - c.bk) = N := ⟨_, rfl⟩
  have HI : Hid (∀ u, Calls Try.prog 28 #[cv c] u fun e w' => e = .returned (.int .i64 N) ∧ Below u.heap.size u w') := fun u => by rw [← hN]; exact iNet_any c u
  have HS : Hid (∀ u, Calls Try.prog 27 #[cv c] u fun e w' => e = .returned (.int .i64 N) ∧ Below u.heap.size u w') := fun u => by rw [← hN]; exact sNet_any c u
  clear hN
  obtain ⟨W, hW⟩ : ∃ W, W = w.alloc (.cells #[.int .i64 c.iss, .int .i64 c.acq, .int .i64 c.cur, .int .i64 c.am, .int .i64 c.st, .int .i64 c.rsn, .int .i64 c.cl, .int .i64 c.bk, .int .i64 c.fee, .bool c.cop, .int .i64 c.sta, .int .i64 c.due] 25) := ⟨_, rfl⟩
  have B : CB w.heap.size 0 c W := by rw [hW]; exact CB.new w c _
  have bW : Below w.heap.size w W := by rw [hW]; exact (Below.refl _ _).alloc (Nat.le_refl _) _
  have HT : Hid (∀ u, Calls Try.prog 19 #[cv c] u fun e w' => e = .returned (cv c) ∧ Below u.heap.size u w') := fun u => toCase_any c u
  obtain ⟨iss, acq, cur, am, st, rsn, cl, bk, fee, cop, sta, due⟩ := c
  unfold cv at HI HS HT ⊢
  simp only at hW HI HS HT ⊢
  have HBC : Hid (CB w.heap.size 0 ⟨iss, acq, cur, am, st, rsn, cl, bk, fee, cop, sta, due⟩ W) := B
  have HW : Hid _ := hW
  have HBW : Hid (Below w.heap.size w W) := bW
  obtain ⟨f0, f1, f2, f3, f4, f5, f6, f7, f8, f9, f10, f11⟩ := B
  simp only [Nat.zero_add] at f0 f1 f2 f3 f4 f5 f6 f7 f8 f9 f10 f11
  clear hW bW
  go_enter Try.func9, Try.ntmps9
  go_upto_region 1 with fail
  rw [← HW.out]
  go_wp2_with fail
  refine (HT.out _).mono ?_
  rintro e u1 ⟨rfl, b1⟩
  go_wp2_with fail
  refine (HS.out _).mono ?_
  rintro e u2 ⟨rfl, b2⟩
  have B2 := (HBC.out.below b1).below b2
  have HB2 : Hid (Below w.heap.size w u2) := next (next HBW.out b1) b2
  clear b1 b2 f0 f1 f2 f3 f4 f5 f6 f7 f8 f9 f10 f11
  obtain ⟨f0, f1, f2, f3, f4, f5, f6, f7, f8, f9, f10, f11⟩ := B2
  simp only [Nat.zero_add] at f0 f1 f2 f3 f4 f5 f6 f7 f8 f9 f10 f11
  go_wp2_with fail
  refine (HT.out _).mono ?_
  rintro e u3 ⟨rfl, b3⟩
  go_wp2_with fail
  refine (HI.out _).mono ?_
  rintro e u4 ⟨rfl, b4⟩
  have HB4 : Hid (Below w.heap.size w u4) := next (next HB2.out b3) b4
  clear b3 b4
  go_wp2
  go_ret
  exact ⟨rfl, HB4.out⟩

set_option maxRecDepth 100000 in
theorem lifted (os : Os) (started : os.Started) (H : Type) (enc : TypeId × Value → H) :
    ReturnsInHanded {} Try.checked os 9 .any (Rows.fnExactCaseNetSpec.pre6 enc Try.prog Try.f9 Rows.fnExactCaseNetRow.domain false) (Rows.fnExactCaseNetSpec.post enc Try.prog Try.f9 false true false false) := by
  refine returnsInHanded_of_change (C := Try.checked) own started (by kernel_rfl) Try.func9
    (ChangeSpec.witness6 (enc := enc) (C := Try.checked) false ⟨#[], #[.agg #[.int .i64 0, .int .i64 0, .int .i64 0, .int .i64 0, .int .i64 0, .int .i64 0, .int .i64 0, .int .i64 0, .int .i64 0, .bool false, .int .i64 0, .int .i64 0]], []⟩ 8 (by kernel_rfl) (by kernel_rfl) (by kernel_rfl) (by kernel_rfl)) ?_
  intro W base args ds gs before hval0 hW hcnd _
  have hval : ∀ (j : Nat) t v, Try.f9.params[j]? = some t → args[j]? = some v → Value.okWide Try.prog W .any base t v := hval0
  have hW' := hW
  obtain ⟨p, q, hA0, hV, rfl, hfz, hnd⟩ := hW
  have hA : DataW.TrodAll enc Try.prog W 0 (fun _ => true) true Try.f9.params.toList args.toList ds p := hA0
  rw [Try.params9] at hA hval
  obtain ⟨v0, vs0, d0, ds0, p0, q0, hargs, rfl, rfl, h0, r0⟩ := trodAll_cons hA
  obtain ⟨rfl, rfl, rfl⟩ := trodAll_nil r0
  obtain rfl : args = #[v0] := by cases args; simp_all
  obtain ⟨rfl, rfl⟩ := trodVars_none hV
  have k0 := h0
  have lt0 : ∀ x ∈ p0, x.block < W.heap.size := by obtain ⟨m, hm⟩ := k0; exact DataW.trod_lt m _ _ _ hm
  obtain ⟨c0, rfl, w0⟩ := is_case Try.underlying25 (by kernel_rfl) rfl rfl rfl rfl rfl rfl rfl rfl rfl rfl rfl rfl (by kernel_rfl) (by kernel_rfl) (by kernel_rfl) (by kernel_rfl) (by kernel_rfl) (by kernel_rfl) (by kernel_rfl) (by kernel_rfl) (by kernel_rfl) (by kernel_rfl) (by kernel_rfl) (by kernel_rfl) Try.underlying3 Try.underlying3 Try.underlying3 Try.underlying3 Try.underlying3 Try.underlying3 Try.underlying3 Try.underlying3 Try.underlying3 Try.underlying4 Try.underlying3 Try.underlying3 (hval 0 25 v0 rfl rfl) h0
  clear hA0 hval0
  refine (walk c0 W w0).mono fun e W' ⟨he, bel⟩ => ?_
  subst he
  exact ⟨_, rfl, _, _, _, [], _, [], hW', trodAll_mk1 (shut_bool Try.underlying4 _), (trodAll_cons_mk (Below.trod laidOut (by kernel_rfl) (of_decide_eq_true (by kernel_rfl)) k0 bel lt0) trodAll_mk0), rfl, bel.frame _, fun h => by cases h⟩

theorem proved : Rows.FnExactCaseNetSaid :=
  OpenClaim.holds_of_wide 9 Try.f9 rfl rfl rfl rfl rfl rfl rfl ⟨rfl, rfl, rfl, rfl, rfl⟩ rfl rfl rfl rfl rfl (by kernel_rfl) Try.func9 (by kernel_rfl)
    (of_decide_eq_true (by kernel_rfl)) (by unfold Func.isWrapper; first | (rw [if_pos (by decide +kernel)]; kernel_rfl) | (rw [if_neg (by decide +kernel)]; exact ⟨rfl, rfl⟩))
    (fun os started H enc _ => lifted os started H enc)
end Go.Proofs.Ytcglkfhphinfaaa.fnExactCaseNet
