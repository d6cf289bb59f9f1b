/- Proved: at every five ints the program's CaseStart answers as the specification's, all three results; its entries own their memory, behind another call too. No conditions. -/
import Derived.Test.YtcglkfhphinfaaaBase
import Derived.Test.YtcglkfhphinfaaaCLaw
import Derived.Test.YtcglkfhphinfaaaCStart
import Derived.Test.YtcglkfhphinfaaaEnMark
import Derived.Deep.DeepCutAuto
namespace Go.Proofs.Ytcglkfhphinfaaa.fnExactCaseStart
open Go.ChangeShapes Go.WideShapes Go.ChangeAt Go.RowKit
set_option maxRecDepth 100000

theorem startE_len (a b c d e : Int) : (startE a b c d e).length ≤ 1 := by unfold startE; split <;> simp

set_option maxHeartbeats 6400000 in
theorem walk (x0 x1 x2 x3 x4 : Int) (w : World) (_w0 : (Lit.int .i64 x0).wf = true) (_w1 : (Lit.int .i64 x1).wf = true) (w2 : (Lit.int .i64 x2).wf = true) (_w3 : (Lit.int .i64 x3).wf = true) (_w4 : (Lit.int .i64 x4).wf = true) :
    Calls Try.prog 8 #[.int .i64 x0, .int .i64 x1, .int .i64 x2, .int .i64 x3, .int .i64 x4] w fun e w' => e = .returned (.bool true) ∧ Below w.heap.size w w' := by
  have HS : Hid (∀ u, Calls Try.prog 21 #[.int .i64 x0, .int .i64 x1, .int .i64 x2, .int .i64 x3, .int .i64 x4] u (StartR u (startV x0 x1 x2 x3 x4) (startE x0 x1 x2 x3 x4) (caseOk (startC x0 x1 x2 x3 x4)))) := fun u => sStart_any _ _ _ _ _ u
  have HI : Hid (∀ u, Calls Try.prog 22 #[.int .i64 x0, .int .i64 x1, .int .i64 x2, .int .i64 x3, .int .i64 x4] u (StartR u (startV x0 x1 x2 x3 x4) (startE x0 x1 x2 x3 x4) (caseOk (startC x0 x1 x2 x3 x4)))) := fun u => iStart_any _ _ _ _ _ u w2
  have hel := startE_len x0 x1 x2 x3 x4
  obtain ⟨c, hc⟩ : ∃ c, startV x0 x1 x2 x3 x4 = c := ⟨_, rfl⟩
  obtain ⟨es, he⟩ : ∃ es, startE x0 x1 x2 x3 x4 = es := ⟨_, rfl⟩
  obtain ⟨ok, hk⟩ : ∃ ok, caseOk (startC x0 x1 x2 x3 x4) = ok := ⟨_, rfl⟩
  rw [hc, he, hk] at HS HI
  rw [he] at hel
  have HEL : Hid (es.length ≤ 1) := hel
  have HQ : Hid (∀ u, Calls Try.prog 23 #[cv c, cv c] u fun e w' => e = .returned (.bool true) ∧ Below u.heap.size u w') := fun u => eqCase_same c u
  clear hc he hk w2 hel
  obtain ⟨iss, acq, cur, am, st, rsn, cl, bk, fee, cop, sta, due⟩ := c
  unfold StartR cv at HS HI
  unfold cv at HQ
  simp only at HS HI HQ
  go_enter Try.func8, Try.ntmps8
  go_wp2_with fail
  refine (HS.out _).mono ?_
  rintro e u1 ⟨a1, k1, rfl, o1, b1⟩
  obtain ⟨V1, hV1⟩ : ∃ V, V = u1.alloc (.cells #[.int .i64 iss, .int .i64 acq, .int .i64 cur, .int .i64 am, .int .i64 st, .int .i64 rsn, .int .i64 cl, .int .i64 bk, .int .i64 fee, .bool cop, .int .i64 sta, .int .i64 due] 27) := ⟨_, rfl⟩
  have HB1 : Hid (CB u1.heap.size 0 ⟨iss, acq, cur, am, st, rsn, cl, bk, fee, cop, sta, due⟩ V1) := by rw [Hid, hV1]; exact CB.new u1 ⟨iss, acq, cur, am, st, rsn, cl, bk, fee, cop, sta, due⟩ _
  have bV1 : Below u1.heap.size u1 V1 := by rw [hV1]; exact (Below.refl _ _).alloc (Nat.le_refl _) _
  have HO1 : Hid (V1.ownsRow w.heap.size 46 4 (.slice a1 es.length k1) es.length (ecells es)) := keepL o1 bV1
  have HG1 : Hid (∀ g, (Value.slice a1 es.length k1).ownBlock = some g → g < V1.heap.size) := fun g hg => (HO1.out.lt g hg).2
  have HW1 : Hid (Below w.heap.size w V1) := next b1 bV1
  have HL1 : Hid (u1.heap.size < V1.heap.size) := HB1.out.lt
  have HV1 : Hid _ := hV1
  clear o1 b1 bV1 hV1
  go_upto_region 2 with fail
  rw [← HV1.out]
  clear HV1
  go_wp2_with fail
  refine (HI.out _).mono ?_
  rintro e u2 ⟨a2, k2, rfl, o2, b2⟩
  obtain ⟨V2, hV2⟩ : ∃ V, V = u2.alloc (.cells #[.int .i64 iss, .int .i64 acq, .int .i64 cur, .int .i64 am, .int .i64 st, .int .i64 rsn, .int .i64 cl, .int .i64 bk, .int .i64 fee, .bool cop, .int .i64 sta, .int .i64 due] 27) := ⟨_, rfl⟩
  have HB2 : Hid (CB u2.heap.size 0 ⟨iss, acq, cur, am, st, rsn, cl, bk, fee, cop, sta, due⟩ V2) := by rw [Hid, hV2]; exact CB.new u2 ⟨iss, acq, cur, am, st, rsn, cl, bk, fee, cop, sta, due⟩ _
  have bV2 : Below u2.heap.size u2 V2 := by rw [hV2]; exact (Below.refl _ _).alloc (Nat.le_refl _) _
  have HO2 : Hid (V2.ownsRow V1.heap.size 46 4 (.slice a2 es.length k2) es.length (ecells es)) := keepL o2 bV2
  have HG2 : Hid (∀ g, (Value.slice a2 es.length k2).ownBlock = some g → V1.heap.size ≤ g) := fun g hg => (HO2.out.lt g hg).1
  have b12 := next b2 bV2
  replace HO1 : Hid (V2.ownsRow w.heap.size 46 4 (.slice a1 es.length k1) es.length (ecells es)) := keepL HO1.out b12
  replace HB1 : Hid (CB u1.heap.size 0 ⟨iss, acq, cur, am, st, rsn, cl, bk, fee, cop, sta, due⟩ V2) := HB1.out.below b12
  have HW2 : Hid (Below w.heap.size w V2) := next HW1.out b12
  have HV2 : Hid _ := hV2
  clear o2 b2 bV2 hV2 b12
  go_upto_region 3 with fail
  rw [← HV2.out]
  clear HV2
  obtain ⟨f0, f1, f2, f3, f4, f5, f6, f7, f8, f9, f10, f11⟩ := HB1.out
  obtain ⟨g0, g1, g2, g3, g4, g5, g6, g7, g8, g9, g10, g11⟩ := HB2.out
  simp only [Nat.zero_add] at f0 f1 f2 f3 f4 f5 f6 f7 f8 f9 f10 f11 g0 g1 g2 g3 g4 g5 g6 g7 g8 g9 g10 g11
  go_wp2_with fail
  refine (HQ.out _).mono ?_
  rintro e u3 ⟨rfl, b3⟩
  replace HO1 : Hid (u3.ownsRow w.heap.size 46 4 (.slice a1 es.length k1) es.length (ecells es)) := keepL HO1.out b3
  replace HO2 : Hid (u3.ownsRow V1.heap.size 46 4 (.slice a2 es.length k2) es.length (ecells es)) := keepL HO2.out b3
  replace HB1 : Hid (CB u1.heap.size 0 ⟨iss, acq, cur, am, st, rsn, cl, bk, fee, cop, sta, due⟩ u3) := HB1.out.below b3
  replace HW2 : Hid (Below w.heap.size w u3) := next HW2.out b3
  clear b3 f0 f1 f2 f3 f4 f5 f6 f7 f8 f9 f10 f11 g0 g1 g2 g3 g4 g5 g6 g7 g8 g9 g10 g11 HB2
  go_wp2_with fail
  refine (eqEntryS_same a2 a1 k2 k1 es _ (ents_any HO2.out) (ents_any HO1.out) (by have := HEL.out; omega)).mono ?_
  rintro e u4 ⟨rfl, b4⟩
  replace HO1 : Hid (u4.ownsRow w.heap.size 46 4 (.slice a1 es.length k1) es.length (ecells es)) := keepL HO1.out b4
  replace HO2 : Hid (u4.ownsRow V1.heap.size 46 4 (.slice a2 es.length k2) es.length (ecells es)) := keepL HO2.out b4
  replace HB1 : Hid (CB u1.heap.size 0 ⟨iss, acq, cur, am, st, rsn, cl, bk, fee, cop, sta, due⟩ u4) := HB1.out.below b4
  replace HW2 : Hid (Below w.heap.size w u4) := next HW2.out b4
  clear b4
  go_wp2_with fail
  refine (markE_any a2 k2 V1.heap.size 1 es _ HO2.out (by have := HEL.out; omega) (by omega)).mono ?_
  rintro e u5 ⟨rfl, o5, g5⟩
  replace HO1 : Hid (u5.ownsRow w.heap.size 46 4 (.slice a1 es.length k1) es.length (ecells es)) := keepE HO1.out g5 (fun g hg e => by have h1 := HG1.out g hg; have h2 := HG2.out g e.symm; omega)
  replace HO2 : Hid (u5.ownsRow V1.heap.size 46 4 (.slice a2 es.length k2) es.length (ecells (mkE 1 es.length))) := o5
  replace HB1 : Hid (CB u1.heap.size 0 ⟨iss, acq, cur, am, st, rsn, cl, bk, fee, cop, sta, due⟩ u5) := HB1.out.grown g5 (fun e => by have h2 := HG2.out _ e.symm; have h3 := HL1.out; omega)
  replace HW2 : Hid (Below w.heap.size w u5) := below_mark HW2.out g5 (fun x hx => by have := HG2.out x hx; have := HW1.out.size; omega)
  obtain ⟨m, hm⟩ : ∃ m : Int, ((1 + 4 * es.length : Nat) : Int) = m := ⟨_, rfl⟩
  have HM : Hid _ := hm
  have hm0 : 0 ≤ m := by omega
  rw [hm]
  clear o5 g5 hm
  go_wp2_with fail
  refine (heldE_any a2 k2 es.length 1 _ (ents_mark HO2.out) (by have := HEL.out; omega) (by omega)).mono ?_
  rintro e u6 ⟨rfl, b6⟩
  rw [HM.out]
  replace HO1 : Hid (u6.ownsRow w.heap.size 46 4 (.slice a1 es.length k1) es.length (ecells es)) := keepL HO1.out b6
  replace HO2 : Hid (u6.ownsRow V1.heap.size 46 4 (.slice a2 es.length k2) es.length (ecells (mkE 1 es.length))) := keepL HO2.out b6
  replace HB1 : Hid (CB u1.heap.size 0 ⟨iss, acq, cur, am, st, rsn, cl, bk, fee, cop, sta, due⟩ u6) := HB1.out.below b6
  replace HW2 : Hid (Below w.heap.size w u6) := next HW2.out b6
  have n1 : (m != m) = false := by simp
  clear b6
  go_wp2_with fail
  refine (HI.out _).mono ?_
  rintro e u7 ⟨a7, k7, rfl, o7, b7⟩
  obtain ⟨V3, hV3⟩ : ∃ V, V = u7.alloc (.cells #[.int .i64 iss, .int .i64 acq, .int .i64 cur, .int .i64 am, .int .i64 st, .int .i64 rsn, .int .i64 cl, .int .i64 bk, .int .i64 fee, .bool cop, .int .i64 sta, .int .i64 due] 27) := ⟨_, rfl⟩
  have HB7 : Hid (CB u7.heap.size 0 ⟨iss, acq, cur, am, st, rsn, cl, bk, fee, cop, sta, due⟩ V3) := by rw [Hid, hV3]; exact CB.new u7 ⟨iss, acq, cur, am, st, rsn, cl, bk, fee, cop, sta, due⟩ _
  have bV3 : Below u7.heap.size u7 V3 := by rw [hV3]; exact (Below.refl _ _).alloc (Nat.le_refl _) _
  have b13 := next b7 bV3
  have HO7 : Hid (V3.ownsRow u6.heap.size 46 4 (.slice a7 es.length k7) es.length (ecells es)) := keepL o7 bV3
  replace HO1 : Hid (V3.ownsRow w.heap.size 46 4 (.slice a1 es.length k1) es.length (ecells es)) := keepL HO1.out b13
  replace HO2 : Hid (V3.ownsRow V1.heap.size 46 4 (.slice a2 es.length k2) es.length (ecells (mkE 1 es.length))) := keepL HO2.out b13
  replace HB1 : Hid (CB u1.heap.size 0 ⟨iss, acq, cur, am, st, rsn, cl, bk, fee, cop, sta, due⟩ V3) := HB1.out.below b13
  replace HW2 : Hid (Below w.heap.size w V3) := next HW2.out b13
  have HV3 : Hid _ := hV3
  clear o7 b7 bV3 b13 hV3
  go_upto_region 14 with fail
  rw [← HV3.out]
  clear HV3
  obtain ⟨f0, f1, f2, f3, f4, f5, f6, f7, f8, f9, f10, f11⟩ := HB1.out
  obtain ⟨g0, g1, g2, g3, g4, g5, g6, g7, g8, g9, g10, g11⟩ := HB7.out
  simp only [Nat.zero_add] at f0 f1 f2 f3 f4 f5 f6 f7 f8 f9 f10 f11 g0 g1 g2 g3 g4 g5 g6 g7 g8 g9 g10 g11
  go_wp2_with fail
  refine (HQ.out _).mono ?_
  rintro e u8 ⟨rfl, b8⟩
  replace HO1 : Hid (u8.ownsRow w.heap.size 46 4 (.slice a1 es.length k1) es.length (ecells es)) := keepL HO1.out b8
  replace HO2 : Hid (u8.ownsRow V1.heap.size 46 4 (.slice a2 es.length k2) es.length (ecells (mkE 1 es.length))) := keepL HO2.out b8
  replace HO7 : Hid (u8.ownsRow u6.heap.size 46 4 (.slice a7 es.length k7) es.length (ecells es)) := keepL HO7.out b8
  replace HW2 : Hid (Below w.heap.size w u8) := next HW2.out b8
  clear b8 f0 f1 f2 f3 f4 f5 f6 f7 f8 f9 f10 f11 g0 g1 g2 g3 g4 g5 g6 g7 g8 g9 g10 g11 HB1 HB7
  go_wp2_with fail
  refine (eqEntryS_same a7 a1 k7 k1 es _ (ents_any HO7.out) (ents_any HO1.out) (by have := HEL.out; omega)).mono ?_
  rintro e u9 ⟨rfl, b9⟩
  replace HO2 : Hid (u9.ownsRow V1.heap.size 46 4 (.slice a2 es.length k2) es.length (ecells (mkE 1 es.length))) := keepL HO2.out b9
  replace HW2 : Hid (Below w.heap.size w u9) := next HW2.out b9
  clear b9 HO1 HO7
  go_wp2_with fail
  refine (heldE_any a2 k2 es.length 1 _ (ents_mark HO2.out) (by have := HEL.out; omega) (by omega)).mono ?_
  rintro e u10 ⟨rfl, b10⟩
  rw [HM.out]
  replace HW2 : Hid (Below w.heap.size w u10) := next HW2.out b10
  clear b10
  go_wp2
  go_ret
  exact ⟨rfl, HW2.out⟩

set_option maxRecDepth 100000 in
theorem lifted (os : Os) (started : os.Started) (H : Type) (enc : TypeId × Value → H) :
    ReturnsInHanded {} Try.checked os 8 .any (Rows.fnExactCaseStartSpec.pre6 enc Try.prog Try.f8 Rows.fnExactCaseStartRow.domain false) (Rows.fnExactCaseStartSpec.post enc Try.prog Try.f8 false true false false) := by
  refine returnsInHanded_of_change (C := Try.checked) own started (by kernel_rfl) Try.func8
    (ChangeSpec.witness6 (enc := enc) (C := Try.checked) false ⟨#[], #[.int .i64 0, .int .i64 0, .int .i64 0, .int .i64 0, .int .i64 0], []⟩ 8 (by kernel_rfl) (by kernel_rfl) (by kernel_rfl) (by kernel_rfl)) ?_
  intro W base args ds gs before hval0 hW hcnd _
  have hval : ∀ (j : Nat) t v, Try.f8.params[j]? = some t → args[j]? = some v → Value.okWide Try.prog W .any base t v := hval0
  have hW' := hW
  obtain ⟨p, q, hA0, hV, rfl, hfz, hnd⟩ := hW
  have hA : DataW.TrodAll enc Try.prog W 0 (fun _ => true) true Try.f8.params.toList args.toList ds p := hA0
  rw [Try.params8] at hA hval
  obtain ⟨v0, vs0, d0, ds0, p0, q0, hargs, rfl, rfl, h0, r0⟩ := trodAll_cons hA
  obtain ⟨v1, vs1, d1, ds1, p1, q1, rfl, rfl, rfl, h1, r1⟩ := trodAll_cons r0
  obtain ⟨v2, vs2, d2, ds2, p2, q2, rfl, rfl, rfl, h2, r2⟩ := trodAll_cons r1
  obtain ⟨v3, vs3, d3, ds3, p3, q3, rfl, rfl, rfl, h3, r3⟩ := trodAll_cons r2
  obtain ⟨v4, vs4, d4, ds4, p4, q4, rfl, rfl, rfl, h4, r4⟩ := trodAll_cons r3
  obtain ⟨rfl, rfl, rfl⟩ := trodAll_nil r4
  obtain rfl : args = #[v0, v1, v2, v3, v4] := by cases args; simp_all
  obtain ⟨rfl, rfl⟩ := trodVars_none hV
  obtain ⟨a0, rfl, rfl, rfl, w0⟩ := open_int Try.underlying3 (hval 0 3 v0 rfl rfl) h0
  obtain ⟨a1, rfl, rfl, rfl, w1⟩ := open_int Try.underlying3 (hval 1 3 v1 rfl rfl) h1
  obtain ⟨a2, rfl, rfl, rfl, w2⟩ := open_int Try.underlying3 (hval 2 3 v2 rfl rfl) h2
  obtain ⟨a3, rfl, rfl, rfl, w3⟩ := open_int Try.underlying3 (hval 3 3 v3 rfl rfl) h3
  obtain ⟨a4, rfl, rfl, rfl, w4⟩ := open_int Try.underlying3 (hval 4 3 v4 rfl rfl) h4
  clear hA0 hval0
  refine (walk a0 a1 a2 a3 a4 W w0 w1 w2 w3 w4).mono fun e W' ⟨he, bel⟩ => ?_
  subst he
  exact ⟨_, rfl, _, _, _, [], _, [], hW', trodAll_mk1 (shut_bool Try.underlying4 _), (trodAll_cons_mk (shut_int Try.underlying3 w0) (trodAll_cons_mk (shut_int Try.underlying3 w1) (trodAll_cons_mk (shut_int Try.underlying3 w2) (trodAll_cons_mk (shut_int Try.underlying3 w3) (trodAll_cons_mk (shut_int Try.underlying3 w4) trodAll_mk0))))), rfl, bel.frame _, fun h => by cases h⟩

theorem proved : Rows.FnExactCaseStartSaid :=
  OpenClaim.holds_of_wide 8 Try.f8 rfl rfl rfl rfl rfl rfl rfl ⟨rfl, rfl, rfl, rfl, rfl⟩ rfl rfl rfl rfl rfl (by kernel_rfl) Try.func8 (by kernel_rfl)
    (of_decide_eq_true (by kernel_rfl)) (by unfold Func.isWrapper; first | (rw [if_pos (by decide +kernel)]; kernel_rfl) | (rw [if_neg (by decide +kernel)]; exact ⟨rfl, rfl⟩))
    (fun os started H enc _ => lifted os started H enc)
end Go.Proofs.Ytcglkfhphinfaaa.fnExactCaseStart
