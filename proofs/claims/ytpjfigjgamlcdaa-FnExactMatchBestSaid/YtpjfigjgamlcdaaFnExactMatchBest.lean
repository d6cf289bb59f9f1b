/- Proved: at every list of authorizations (of at most 1048576 authorizations and bytes of their Refs together; a greater one passes by the law's own first test) and every four ints the program's MatchBest answers as the specification's, and leaves its argument as it was. No other conditions. -/
import Derived.Test.YtpjfigjgamlcdaaBase
import Derived.Test.YtpjfigjgamlcdaaAuLaw
import Derived.Test.YtpjfigjgamlcdaaSBest
namespace Go.Proofs.Ytpjfigjgamlcdaa.fnExactMatchBest
open Go.ChangeShapes Go.WideShapes Go.ChangeAt Go.RowKit
set_option maxRecDepth 100000

theorem all_le {az : List Au} (h : sumR az ≤ 1048576) : ∀ a ∈ az, a.ref.length ≤ 1099511627776 := fun a ha => by have := sumR_mem ha; omega

set_option maxHeartbeats 3200000 in
theorem walk (b0 : Option Addr) (cap0 : Nat) (az : List Au) (a1 a2 a3 a4 : Int) (w : World) (w0 : AuthsAt w b0 az ∧ AuthsBd az) (_w1 : (Lit.int .i64 a1).wf = true) (_w2 : (Lit.int .i64 a2).wf = true) (w3 : (Lit.int .i64 a3).wf = true) (w4 : (Lit.int .i64 a4).wf = true) :
    Calls Try.prog 7 #[.slice b0 az.length cap0, .int .i64 a1, .int .i64 a2, .int .i64 a3, .int .i64 a4] w fun e w' => e = .returned (.bool true) ∧ Below w.heap.size w w' := by
  obtain ⟨hz, hd⟩ := w0
  clear _w1 _w2
  by_cases hneg : leftAL az 1048576 < 0
  · go_enter Try.func7, Try.ntmps7
    go_wp2_with fail
    refine (szAuthS_any _ _ _ _ hz hd).mono ?_
    rintro e u1 ⟨rfl, b1⟩
    clear hz hd
    generalize leftAL az 1048576 = r at hneg
    go_wp2
    go_ret
    exact ⟨rfl, b1⟩
  have hsum := (leftAL_sum (show 0 ≤ leftAL az 1048576 by omega)).1
  have hn : az.length ≤ 1048576 := by omega
  have HAL := all_le (az := az) (by omega)
  have HCU : ∀ a ∈ az, wf64 a.cur := fun a ha => (hd.2 a ha).2.2.1
  have HSZ : Hid (∀ u, AuthsAt u b0 az → Calls Try.prog 27 #[.slice b0 az.length cap0, .int .i64 1048576] u fun e w' => e = .returned (.int .i64 (leftAL az 1048576)) ∧ Below u.heap.size u w') := fun u hu => szAuthS_any _ _ _ _ hu hd
  have HI : Hid (∀ (u : World) (ao : Option Addr) (c : Nat), AuthsAt u ao az → Calls Try.prog 13 #[.slice ao az.length c, .int .i64 a1, .int .i64 a2, .int .i64 a3, .int .i64 a4] u fun e w' => ∃ x, e = .returned (.int .i64 x) ∧ BestAt az a1 a2 a3 a4 x ∧ Below u.heap.size u w') := fun u ao c hu => iBest_any ao c az a1 a2 a3 a4 u hu hn HAL HCU w3 w4
  have HS : Hid (∀ (u : World) (ao : Option Addr) (c : Nat), AuthsAt u ao az → Calls Try.prog 14 #[.slice ao az.length c, .int .i64 a1, .int .i64 a2, .int .i64 a3, .int .i64 a4] u fun e w' => ∃ x, e = .returned (.int .i64 x) ∧ BestAt az a1 a2 a3 a4 x ∧ Below u.heap.size u w') := fun u ao c hu => sBest_any ao c az a1 a2 a3 a4 u hu hn HAL w3 w4
  clear hsum HAL HCU hd w3 w4
  generalize leftAL az 1048576 = r at hneg HSZ
  have HZ : Hid (AuthsAt w b0 az) := hz
  clear hz
  go_enter Try.func7, Try.ntmps7
  go_wp2_with fail
  refine (HSZ.out _ HZ.out).mono ?_
  rintro e u1 ⟨rfl, q1⟩
  go_wp2_with fail
  refine (toAuthS_any _ _ _ _ (HZ.out.below q1) hn).mono ?_
  rintro e u2 ⟨rfl, o2, b2⟩
  have q2 := next q1 b2
  have HA2 : Hid (AuthsAt u2 (some ⟨u1.heap.size, 0, none⟩) az) := auths_of_own o2
  clear o2 b2
  go_wp2_with fail
  refine (HS.out _ _ _ HA2.out).mono ?_
  rintro e u3 ⟨x, rfl, hx, b3⟩
  have q3 := next q2 b3
  have HX : Hid (BestAt az a1 a2 a3 a4 x) := hx
  clear hx b3 q2 q1 HA2
  go_wp2_with fail
  refine (toAuthS_any _ _ _ _ (HZ.out.below q3) hn).mono ?_
  rintro e u4 ⟨rfl, o4, b4⟩
  have q4 := next q3 b4
  have HO4 : Hid (u4.ownsRow u3.heap.size 30 6 (.slice (some ⟨u3.heap.size, 0, none⟩) az.length az.length) az.length (acells az)) := o4
  clear o4 b4 q3
  go_wp2_with fail
  refine (HI.out _ _ _ (auths_of_own HO4.out)).mono ?_
  rintro e u5 ⟨y, rfl, hy, b5⟩
  obtain rfl : x = y := bestAt_one HX.out hy
  have q5 := next q4 b5
  replace HO4 : Hid (u5.ownsRow u3.heap.size 30 6 (.slice (some ⟨u3.heap.size, 0, none⟩) az.length az.length) az.length (acells az)) := keepA HO4.out b5
  have nx : (x != x) = false := by simp
  clear hy b5 q4 HX
  go_wp2_with fail
  refine (toAuthS_any _ _ _ _ (HZ.out.below q5) hn).mono ?_
  rintro e u6 ⟨rfl, o6, b6⟩
  have q6 := next q5 b6
  replace HO4 : Hid (u6.ownsRow u3.heap.size 30 6 (.slice (some ⟨u3.heap.size, 0, none⟩) az.length az.length) az.length (acells az)) := keepA HO4.out b6
  have HA6 : Hid (AuthsAt u6 (some ⟨u5.heap.size, 0, none⟩) az) := auths_of_own o6
  clear o6 b6 q5
  go_wp2_with fail
  refine (eqAuthS_same _ _ _ _ _ _ (auths_of_own HO4.out) HA6.out (by omega)).mono ?_
  rintro e u7 ⟨rfl, b7⟩
  have q7 := next q6 b7
  clear b7 q6
  go_wp2
  go_ret
  exact ⟨rfl, q7⟩

set_option maxRecDepth 100000 in
theorem lifted (os : Os) (started : os.Started) (H : Type) (enc : TypeId × Value → H) :
    ReturnsInHanded {} Try.checked os 7 .any (Rows.fnExactMatchBestSpec.pre6 enc Try.prog Try.f7 Rows.fnExactMatchBestRow.domain false) (Rows.fnExactMatchBestSpec.post enc Try.prog Try.f7 false true false false) := by
  refine returnsInHanded_of_change (C := Try.checked) own started (by kernel_rfl) Try.func7
    (ChangeSpec.witness6 (enc := enc) (C := Try.checked) false ⟨#[], #[.slice none 0 0, .int .i64 0, .int .i64 0, .int .i64 0, .int .i64 0], []⟩ 8 (by kernel_rfl) (by kernel_rfl) (by kernel_rfl) (by kernel_rfl)) ?_
  intro W base args ds gs before hval0 hW hcnd _
  have hval : ∀ (j : Nat) t v, Try.f7.params[j]? = some t → args[j]? = some v → Value.okWide Try.prog W .any base t v := hval0
  have hW' := hW
  obtain ⟨p, q, hA0, hV, rfl, hfz, hnd⟩ := hW
  have hA : DataW.TrodAll enc Try.prog W 0 (fun _ => true) true Try.f7.params.toList args.toList ds p := hA0
  rw [Try.params7] at hA hval
  obtain ⟨v0, vs0, d0, ds0, p0, q0, hargs, rfl, rfl, h0, r0⟩ := trodAll_cons hA
  obtain ⟨v1, vs1, d1, ds1, p1, q1, rfl, rfl, rfl, h1, r1⟩ := trodAll_cons r0
  obtain ⟨v2, vs2, d2, ds2, p2, q2, rfl, rfl, rfl, h2, r2⟩ := trodAll_cons r1
  obtain ⟨v3, vs3, d3, ds3, p3, q3, rfl, rfl, rfl, h3, r3⟩ := trodAll_cons r2
  obtain ⟨v4, vs4, d4, ds4, p4, q4, rfl, rfl, rfl, h4, r4⟩ := trodAll_cons r3
  obtain ⟨rfl, rfl, rfl⟩ := trodAll_nil r4
  obtain rfl : args = #[v0, v1, v2, v3, v4] := by cases args; simp_all
  obtain ⟨rfl, rfl⟩ := trodVars_none hV
  have k0 := h0
  have lt0 : ∀ x ∈ p0, x.block < W.heap.size := by obtain ⟨m, hm⟩ := k0; exact DataW.trod_lt m _ _ _ hm
  obtain ⟨b0, cap0, az0, rfl, w0⟩ := is_auths Try.underlying43 Try.underlying37 (by kernel_rfl) rfl rfl rfl rfl rfl rfl (by kernel_rfl) (by kernel_rfl) (by kernel_rfl) (by kernel_rfl) (by kernel_rfl) (by kernel_rfl) Try.underlying9 Try.underlying3 Try.underlying3 Try.underlying3 Try.underlying3 Try.underlying4 (hval 0 43 v0 rfl rfl) h0
  obtain ⟨a1, rfl, rfl, rfl, w1⟩ := open_int Try.underlying3 (hval 1 3 v1 rfl rfl) h1
  obtain ⟨a2, rfl, rfl, rfl, w2⟩ := open_int Try.underlying3 (hval 2 3 v2 rfl rfl) h2
  obtain ⟨a3, rfl, rfl, rfl, w3⟩ := open_int Try.underlying3 (hval 3 3 v3 rfl rfl) h3
  obtain ⟨a4, rfl, rfl, rfl, w4⟩ := open_int Try.underlying3 (hval 4 3 v4 rfl rfl) h4
  clear hA0 hval0
  refine (walk b0 cap0 az0 a1 a2 a3 a4 W w0 w1 w2 w3 w4).mono fun e W' ⟨he, bel⟩ => ?_
  subst he
  exact ⟨_, rfl, _, _, _, [], _, [], hW', trodAll_mk1 (shut_bool Try.underlying4 _), (trodAll_cons_mk (Below.trod laidOut (by kernel_rfl) (of_decide_eq_true (by kernel_rfl)) k0 bel lt0) (trodAll_cons_mk (shut_int Try.underlying3 w1) (trodAll_cons_mk (shut_int Try.underlying3 w2) (trodAll_cons_mk (shut_int Try.underlying3 w3) (trodAll_cons_mk (shut_int Try.underlying3 w4) trodAll_mk0))))), rfl, bel.frame _, fun h => by cases h⟩

theorem proved : Rows.FnExactMatchBestSaid :=
  OpenClaim.holds_of_wide 7 Try.f7 rfl rfl rfl rfl rfl rfl rfl ⟨rfl, rfl, rfl, rfl, rfl⟩ rfl rfl rfl rfl rfl (by kernel_rfl) Try.func7 (by kernel_rfl)
    (of_decide_eq_true (by kernel_rfl)) (by unfold Func.isWrapper; first | (rw [if_pos (by decide +kernel)]; kernel_rfl) | (rw [if_neg (by decide +kernel)]; exact ⟨rfl, rfl⟩))
    (fun os started H enc _ => lifted os started H enc)
end Go.Proofs.Ytpjfigjgamlcdaa.fnExactMatchBest
