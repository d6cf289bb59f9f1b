/- Proved: at every authorization (whose Ref has at most 1048576 bytes; a longer one passes by the law's own first test) and every four ints the program's MatchScore answers as the specification's. No other conditions. -/
import Derived.Test.YtpjfigjgamlcdaaBase
import Derived.Test.YtpjfigjgamlcdaaAuLaw
import Derived.Test.YtpjfigjgamlcdaaAuBox
import Derived.Deep.DeepCutAuto
import Derived.Test.YtpjfigjgamlcdaaFScore
import Derived.Test.YtpjfigjgamlcdaaSScore
namespace Go.Proofs.Ytpjfigjgamlcdaa.fnExactMatchScore
open Go.ChangeShapes Go.WideShapes Go.ChangeAt Go.RowKit
set_option maxRecDepth 100000

set_option maxHeartbeats 1600000 in
theorem walk (c : Au) (a1 a2 a3 a4 : Int) (w : World) (w0 : auBd c) (_w1 : (Lit.int .i64 a1).wf = true) (_w2 : (Lit.int .i64 a2).wf = true) (w3 : (Lit.int .i64 a3).wf = true) (w4 : (Lit.int .i64 a4).wf = true) :
    Calls Try.prog 6 #[auv c, .int .i64 a1, .int .i64 a2, .int .i64 a3, .int .i64 a4] w fun e w' => e = .returned (.bool true) ∧ Below w.heap.size w w' := by
  have hm : c.ref.length ≤ 9223372036854775807 := by have := w0.1; unfold maxLen at this; omega
  obtain ⟨W, hW⟩ : ∃ W, W = w.alloc (.cells #[.string ⟨c.ref.toArray⟩, .int .i64 c.iss, .int .i64 c.cur, .int .i64 c.am, .int .i64 c.day, .bool c.used] 37) := ⟨_, rfl⟩
  have B : AuB w.heap.size c W := by rw [hW]; exact AuB.new w c _
  have bW : Below w.heap.size w W := by rw [hW]; exact (Below.refl _ _).alloc (Nat.le_refl _) _
  have HT : Hid (∀ u, Calls Try.prog 24 #[auv c] u fun e w' => e = .returned (auv c) ∧ Below u.heap.size u w') := fun u => toAuth_any c u
  have HZ : Hid (∀ u, Calls Try.prog 22 #[auv c, .int .i64 1048576] u fun e w' => e = .returned (.int .i64 (leftA c.ref 1048576)) ∧ Below u.heap.size u w') := fun u => szAuth_any c 1048576 u (by omega) hm
  have HBC : Hid (AuB w.heap.size c W) := B
  have HBW : Hid (Below w.heap.size w W) := bW
  clear bW
  by_cases hneg : leftA c.ref 1048576 < 0
  · clear w0 hm
    obtain ⟨r, i, cc, m, d, u⟩ := c
    unfold auv at HT HZ ⊢
    simp only at hW HT HZ hneg ⊢
    have HW : Hid _ := hW
    obtain ⟨f0, f1, f2, f3, f4, f5⟩ := B
    generalize leftA r 1048576 = q at hneg HZ
    clear hW
    go_enter Try.func6, Try.ntmps6
    go_upto_region 2 with fail
    rw [← HW.out]
    go_wp2_with fail
    refine (HZ.out _).mono ?_
    rintro e u1 ⟨rfl, b1⟩
    have HB1 : Hid (Below w.heap.size w u1) := next HBW.out b1
    clear b1 f0 f1 f2 f3 f4 f5
    go_wp2
    go_ret
    exact ⟨rfl, HB1.out⟩
  have hlen : c.ref.length ≤ 1048576 := by
    unfold leftA at hneg
    split at hneg <;> omega
  obtain ⟨N, hN⟩ : ∃ N, scoreV c a1 a2 a3 a4 = N := ⟨_, rfl⟩
  have HI : Hid (∀ u, Calls Try.prog 15 #[auv c, .int .i64 a1, .int .i64 a2, .int .i64 a3, .int .i64 a4] u fun e w' => e = .returned (.int .i64 N) ∧ Below u.heap.size u w') := fun u => by rw [← hN]; exact iScore_any c a1 a2 a3 a4 u (by omega) w0.2.2.1 w3 w4
  have HS : Hid (∀ u, Calls Try.prog 26 #[auv c, .int .i64 a1, .int .i64 a2, .int .i64 a3, .int .i64 a4] u fun e w' => e = .returned (.int .i64 N) ∧ Below u.heap.size u w') := fun u => by rw [← hN]; exact sScore_any c a1 a2 a3 a4 u (by omega) w3 w4
  clear hN _w1 _w2 w3 w4
  clear w0 hm hlen
  obtain ⟨r, i, cc, m, d, u⟩ := c
  unfold auv at HI HS HT HZ ⊢
  simp only at hW HI HS HT HZ hneg ⊢
  have HW : Hid _ := hW
  obtain ⟨f0, f1, f2, f3, f4, f5⟩ := B
  generalize leftA r 1048576 = q at hneg HZ
  clear hW
  go_enter Try.func6, Try.ntmps6
  go_upto_region 2 with fail
  rw [← HW.out]
  go_wp2_with fail
  refine (HZ.out _).mono ?_
  rintro e u0 ⟨rfl, b0⟩
  have B0 := HBC.out.below b0
  have HB0 : Hid (Below w.heap.size w u0) := next HBW.out b0
  have HBC0 : Hid (AuB w.heap.size ⟨r, i, cc, m, d, u⟩ u0) := B0
  clear b0 f0 f1 f2 f3 f4 f5
  obtain ⟨f0, f1, f2, f3, f4, f5⟩ := B0
  simp only at f0 f1 f2 f3 f4 f5
  go_wp2_with fail
  refine (HT.out _).mono ?_
  rintro e u1 ⟨rfl, b1⟩
  go_wp2_with fail
  refine (HS.out _).mono ?_
  rintro e u2 ⟨rfl, b2⟩
  have B2 := (HBC0.out.below b1).below b2
  have HB2 : Hid (Below w.heap.size w u2) := next (next HB0.out b1) b2
  clear b1 b2 f0 f1 f2 f3 f4 f5
  obtain ⟨f0, f1, f2, f3, f4, f5⟩ := B2
  simp only at f0 f1 f2 f3 f4 f5
  go_wp2_with fail
  refine (HT.out _).mono ?_
  rintro e u3 ⟨rfl, b3⟩
  go_wp2_with fail
  refine (HI.out _).mono ?_
  rintro e u4 ⟨rfl, b4⟩
  have HB4 : Hid (Below w.heap.size w u4) := next (next HB2.out b3) b4
  clear b3 b4
  have nn : (N != N) = false := by simp
  go_wp2
  go_ret
  exact ⟨rfl, HB4.out⟩

set_option maxRecDepth 100000 in
theorem lifted (os : Os) (started : os.Started) (H : Type) (enc : TypeId × Value → H) :
    ReturnsInHanded {} Try.checked os 6 .any (Rows.fnExactMatchScoreSpec.pre6 enc Try.prog Try.f6 Rows.fnExactMatchScoreRow.domain false) (Rows.fnExactMatchScoreSpec.post enc Try.prog Try.f6 false true false false) := by
  refine returnsInHanded_of_change (C := Try.checked) own started (by kernel_rfl) Try.func6
    (ChangeSpec.witness6 (enc := enc) (C := Try.checked) false ⟨#[], #[.agg #[.string ByteArray.empty, .int .i64 0, .int .i64 0, .int .i64 0, .int .i64 0, .bool false], .int .i64 0, .int .i64 0, .int .i64 0, .int .i64 0], []⟩ 8 (by kernel_rfl) (by kernel_rfl) (by kernel_rfl) (by kernel_rfl)) ?_
  intro W base args ds gs before hval0 hW hcnd _
  have hval : ∀ (j : Nat) t v, Try.f6.params[j]? = some t → args[j]? = some v → Value.okWide Try.prog W .any base t v := hval0
  have hW' := hW
  obtain ⟨p, q, hA0, hV, rfl, hfz, hnd⟩ := hW
  have hA : DataW.TrodAll enc Try.prog W 0 (fun _ => true) true Try.f6.params.toList args.toList ds p := hA0
  rw [Try.params6] at hA hval
  obtain ⟨v0, vs0, d0, ds0, p0, q0, hargs, rfl, rfl, h0, r0⟩ := trodAll_cons hA
  obtain ⟨v1, vs1, d1, ds1, p1, q1, rfl, rfl, rfl, h1, r1⟩ := trodAll_cons r0
  obtain ⟨v2, vs2, d2, ds2, p2, q2, rfl, rfl, rfl, h2, r2⟩ := trodAll_cons r1
  obtain ⟨v3, vs3, d3, ds3, p3, q3, rfl, rfl, rfl, h3, r3⟩ := trodAll_cons r2
  obtain ⟨v4, vs4, d4, ds4, p4, q4, rfl, rfl, rfl, h4, r4⟩ := trodAll_cons r3
  obtain ⟨rfl, rfl, rfl⟩ := trodAll_nil r4
  obtain rfl : args = #[v0, v1, v2, v3, v4] := by cases args; simp_all
  obtain ⟨rfl, rfl⟩ := trodVars_none hV
  have k0 := h0
  have lt0 : ∀ x ∈ p0, x.block < W.heap.size := by obtain ⟨m, hm⟩ := k0; exact DataW.trod_lt m _ _ _ hm
  obtain ⟨c0, rfl, w0⟩ := is_auth Try.underlying37 (by kernel_rfl) rfl rfl rfl rfl rfl rfl (by kernel_rfl) (by kernel_rfl) (by kernel_rfl) (by kernel_rfl) (by kernel_rfl) (by kernel_rfl) Try.underlying9 Try.underlying3 Try.underlying3 Try.underlying3 Try.underlying3 Try.underlying4 (hval 0 37 v0 rfl rfl) h0
  obtain ⟨a1, rfl, rfl, rfl, w1⟩ := open_int Try.underlying3 (hval 1 3 v1 rfl rfl) h1
  obtain ⟨a2, rfl, rfl, rfl, w2⟩ := open_int Try.underlying3 (hval 2 3 v2 rfl rfl) h2
  obtain ⟨a3, rfl, rfl, rfl, w3⟩ := open_int Try.underlying3 (hval 3 3 v3 rfl rfl) h3
  obtain ⟨a4, rfl, rfl, rfl, w4⟩ := open_int Try.underlying3 (hval 4 3 v4 rfl rfl) h4
  clear hA0 hval0
  refine (walk c0 a1 a2 a3 a4 W w0 w1 w2 w3 w4).mono fun e W' ⟨he, bel⟩ => ?_
  subst he
  exact ⟨_, rfl, _, _, _, [], _, [], hW', trodAll_mk1 (shut_bool Try.underlying4 _), (trodAll_cons_mk (Below.trod laidOut (by kernel_rfl) (of_decide_eq_true (by kernel_rfl)) k0 bel lt0) (trodAll_cons_mk (shut_int Try.underlying3 w1) (trodAll_cons_mk (shut_int Try.underlying3 w2) (trodAll_cons_mk (shut_int Try.underlying3 w3) (trodAll_cons_mk (shut_int Try.underlying3 w4) trodAll_mk0))))), rfl, bel.frame _, fun h => by cases h⟩

theorem proved : Rows.FnExactMatchScoreSaid :=
  OpenClaim.holds_of_wide 6 Try.f6 rfl rfl rfl rfl rfl rfl rfl ⟨rfl, rfl, rfl, rfl, rfl⟩ rfl rfl rfl rfl rfl (by kernel_rfl) Try.func6 (by kernel_rfl)
    (of_decide_eq_true (by kernel_rfl)) (by unfold Func.isWrapper; first | (rw [if_pos (by decide +kernel)]; kernel_rfl) | (rw [if_neg (by decide +kernel)]; exact ⟨rfl, rfl⟩))
    (fun os started H enc _ => lifted os started H enc)
end Go.Proofs.Ytpjfigjgamlcdaa.fnExactMatchScore
