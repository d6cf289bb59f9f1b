/- Proved: at every list of authorizations (of at most 1048576 authorizations and bytes of their Refs together; a greater one passes by the law's own first test) and every int the program's AuthPrune answers as the specification's; it leaves its argument as it was and keeps nothing of it; its answer owns its memory, behind another call too. No other conditions. -/
import Derived.Test.YtpjfigjgamlcdaaBase
import Derived.Test.YtpjfigjgamlcdaaAuMark
import Derived.Test.YtpjfigjgamlcdaaAuPrune
namespace Go.Proofs.Ytpjfigjgamlcdaa.fnExactAuthPrune
open Go.ChangeShapes Go.WideShapes Go.ChangeAt Go.RowKit
set_option maxRecDepth 100000

theorem all_le {az : List Au} (h : sumR az ≤ 1048576) : ∀ a ∈ az, a.ref.length ≤ 1099511627776 := fun a ha => by have := sumR_mem ha; omega

set_option maxHeartbeats 6400000 in
theorem walk (b0 : Option Addr) (cap0 : Nat) (az : List Au) (a1 : Int) (w : World) (w0 : AuthsAt w b0 az ∧ AuthsBd az) (_w1 : (Lit.int .i64 a1).wf = true) :
    Calls Try.prog 10 #[.slice b0 az.length cap0, .int .i64 a1] w fun e w' => e = .returned (.bool true) ∧ Below w.heap.size w w' := by
  obtain ⟨hz, hd⟩ := w0
  clear _w1
  by_cases hneg : leftAL az 1048576 < 0
  · go_enter Try.func10, Try.ntmps10
    go_wp2_with fail
    refine (szAuthS_any _ _ _ _ hz hd).mono ?_
    rintro e u1 ⟨rfl, b1⟩
    clear hz hd
    generalize leftAL az 1048576 = r at hneg
    go_wp2
    go_ret
    exact ⟨rfl, b1⟩
  have hsum := (leftAL_sum (show 0 ≤ leftAL az 1048576 by omega)).1
  have hn : az.length ≤ 1048576 := by omega
  have HAL := all_le (az := az) (by omega)
  have HSZ : Hid (∀ u, AuthsAt u b0 az → Calls Try.prog 27 #[.slice b0 az.length cap0, .int .i64 1048576] u fun e w' => e = .returned (.int .i64 (leftAL az 1048576)) ∧ Below u.heap.size u w') := fun u hu => szAuthS_any _ _ _ _ hu hd
  obtain ⟨L, hLE⟩ : ∃ L, pruneL az a1 = L := ⟨_, rfl⟩
  have hLL : L.length ≤ 1048576 := by rw [← hLE]; have := pruneL_len az a1; omega

  have HI : Hid (∀ (u : World) (ao : Option Addr) (c : Nat), AuthsAt u ao az → Calls Try.prog 20 #[.slice ao az.length c, .int .i64 a1] u (AuR1 u L)) := fun u ao c hu => by rw [← hLE]; exact iPrune_any ao c az a1 u hu (by omega) HAL
  have HS : Hid (∀ (u : World) (ao : Option Addr) (c : Nat), AuthsAt u ao az → Calls Try.prog 21 #[.slice ao az.length c, .int .i64 a1] u (AuR1 u L)) := fun u ao c hu => by rw [← hLE]; exact sPrune_any ao c az a1 u hu (by omega)
  clear hsum hLE  HAL hd
  generalize leftAL az 1048576 = r at hneg HSZ
  have HZ : Hid (AuthsAt w b0 az) := hz
  have z0 := hz
  clear hz
  go_enter Try.func10, Try.ntmps10
  go_wp2_with fail
  refine (HSZ.out _ HZ.out).mono ?_
  rintro e u1 ⟨rfl, q1⟩
  have z1 := HZ.out.below q1
  go_wp2_with fail
  refine (toAuthS_any _ _ _ _ z1 hn).mono ?_
  rintro e u2 ⟨rfl, o2, b2⟩
  have q2 := next q1 b2
  have HA2 : Hid (AuthsAt u2 (some ⟨u1.heap.size, 0, none⟩) az) := auths_of_own o2
  clear z1 o2 b2 z0
  go_wp2_with fail
  refine (HS.out _ _ _ HA2.out).mono ?_
  rintro e u3 ⟨a3, c3, rfl, o3, b3⟩
  have q3 := next q2 b3
  have h3 : ∀ x, (Value.slice a3 L.length c3).ownBlock = some x → x < u3.heap.size := fun x hx => (o3.lt x hx).2
  have HX3 : Hid (∀ x, (Value.slice a3 L.length c3).ownBlock = some x → x < u3.heap.size) := h3
  have HO3 : Hid (u3.ownsRow u2.heap.size 30 6 (.slice a3 L.length c3) L.length (acells L)) := o3
  clear o3 h3 b3 q2 q1 HA2
  go_wp2_with fail
  refine (toAuthS_any _ _ _ _ (HZ.out.below q3) hn).mono ?_
  rintro e u4 ⟨rfl, o4, b4⟩
  have q4 := next q3 b4
  have h4 := (o4.lt _ rfl).2
  have HG4 : Hid (w.heap.size ≤ u3.heap.size) := q3.size
  replace HO3 : Hid (u4.ownsRow u2.heap.size 30 6 (.slice a3 L.length c3) L.length (acells L)) := keepA HO3.out b4
  have HO4 : Hid (u4.ownsRow u3.heap.size 30 6 (.slice (some ⟨u3.heap.size, 0, none⟩) az.length az.length) az.length (acells az)) := o4
  have HL4 : Hid (u3.heap.size < u4.heap.size) := h4
  clear b4 q3 o4 h4
  go_wp2_with fail
  refine (HI.out _ _ _ (auths_of_own HO4.out)).mono ?_
  rintro e u5 ⟨a5, c5, rfl, o5, b5⟩
  have q5 := next q4 b5
  have HX5 : Hid (∀ x, (Value.slice a5 L.length c5).ownBlock = some x → u4.heap.size ≤ x) := fun x hx => (o5.lt x hx).1
  replace HO3 : Hid (u5.ownsRow u2.heap.size 30 6 (.slice a3 L.length c3) L.length (acells L)) := keepA HO3.out b5
  replace HO4 : Hid (u5.ownsRow u3.heap.size 30 6 (.slice (some ⟨u3.heap.size, 0, none⟩) az.length az.length) az.length (acells az)) := keepA HO4.out b5
  have HO5 : Hid (u5.ownsRow u4.heap.size 30 6 (.slice a5 L.length c5) L.length (acells L)) := o5
  clear b5 q4 o5

  go_wp2_with fail
  refine (eqAuthS_same _ _ _ _ _ _ (auths_any HO5.out) (auths_any HO3.out) (by omega)).mono ?_
  rintro e u6 ⟨rfl, b6⟩
  have q6 := next q5 b6
  replace HO3 : Hid (u6.ownsRow u2.heap.size 30 6 (.slice a3 L.length c3) L.length (acells L)) := keepA HO3.out b6
  replace HO4 : Hid (u6.ownsRow u3.heap.size 30 6 (.slice (some ⟨u3.heap.size, 0, none⟩) az.length az.length) az.length (acells az)) := keepA HO4.out b6
  replace HO5 : Hid (u6.ownsRow u4.heap.size 30 6 (.slice a5 L.length c5) L.length (acells L)) := keepA HO5.out b6
  clear b6 q5
  go_wp2_with fail
  refine (toAuthS_any _ _ _ _ (HZ.out.below q6) hn).mono ?_
  rintro e u7 ⟨rfl, o7, b7⟩
  have q7 := next q6 b7
  replace HO3 : Hid (u7.ownsRow u2.heap.size 30 6 (.slice a3 L.length c3) L.length (acells L)) := keepA HO3.out b7
  replace HO4 : Hid (u7.ownsRow u3.heap.size 30 6 (.slice (some ⟨u3.heap.size, 0, none⟩) az.length az.length) az.length (acells az)) := keepA HO4.out b7
  replace HO5 : Hid (u7.ownsRow u4.heap.size 30 6 (.slice a5 L.length c5) L.length (acells L)) := keepA HO5.out b7
  have HA7 : Hid (AuthsAt u7 (some ⟨u6.heap.size, 0, none⟩) az) := auths_of_own o7
  clear b7 q6 o7
  go_wp2_with fail
  refine (eqAuthS_same _ _ _ _ _ _ (auths_of_own HO4.out) HA7.out (by omega)).mono ?_
  rintro e u8 ⟨rfl, b8⟩
  have q8 := next q7 b8
  replace HO3 : Hid (u8.ownsRow u2.heap.size 30 6 (.slice a3 L.length c3) L.length (acells L)) := keepA HO3.out b8
  replace HO4 : Hid (u8.ownsRow u3.heap.size 30 6 (.slice (some ⟨u3.heap.size, 0, none⟩) az.length az.length) az.length (acells az)) := keepA HO4.out b8
  replace HO5 : Hid (u8.ownsRow u4.heap.size 30 6 (.slice a5 L.length c5) L.length (acells L)) := keepA HO5.out b8
  clear b8 q7 HA7
  go_wp2_with fail
  refine (markAuthS_any _ _ _ 1 _ _ HO4.out (by omega) (by omega) (by omega)).mono ?_
  rintro e u9 ⟨rfl, o9, gr9⟩
  have gr9' : u8.grownBy u9 (some u3.heap.size) := gr9
  have q9 : Below w.heap.size w u9 := q8.grown gr9' q8.size (fun k hk => by have := HG4.out; simp at hk; omega)
  replace HO3 : Hid (u9.ownsRow u2.heap.size 30 6 (.slice a3 L.length c3) L.length (acells L)) := keepAg HO3.out gr9' (fun x hx e => by injection e with e; have := HX3.out x hx; omega)
  replace HO5 : Hid (u9.ownsRow u4.heap.size 30 6 (.slice a5 L.length c5) L.length (acells L)) := keepAg HO5.out gr9' (fun x hx e => by injection e with e; have := HX5.out x hx; have := HL4.out; omega)
  clear gr9 gr9' o9 q8 HO4
  go_wp2_with fail
  refine (eqAuthS_same _ _ _ _ _ _ (auths_any HO5.out) (auths_any HO3.out) (by omega)).mono ?_
  rintro e u10 ⟨rfl, b10⟩
  have q10 := next q9 b10
  replace HO3 : Hid (u10.ownsRow u2.heap.size 30 6 (.slice a3 L.length c3) L.length (acells L)) := keepA HO3.out b10
  replace HO5 : Hid (u10.ownsRow u4.heap.size 30 6 (.slice a5 L.length c5) L.length (acells L)) := keepA HO5.out b10
  clear b10 q9
  go_wp2_with fail
  refine (markAuthS_any _ _ _ 1 _ _ HO5.out (by omega) (by omega) (by omega)).mono ?_
  rintro e u11 ⟨rfl, o11, gr11⟩
  obtain ⟨mm, hmm⟩ : ∃ m, 1 + 6 * L.length = m := ⟨_, rfl⟩
  rw [hmm]
  have HMM : Hid _ := hmm
  have hm0 : 0 ≤ (mm : Int) := by omega
  have nm : ((mm : Int) != (mm : Int)) = false := by simp
  clear hmm
  have q11 : Below w.heap.size w u11 := q10.grown gr11 q10.size (fun k hk => by have := HX5.out k hk; have := HL4.out; have := HG4.out; omega)
  replace HO3 : Hid (u11.ownsRow u2.heap.size 30 6 (.slice a3 L.length c3) L.length (acells L)) := keepAg HO3.out gr11 (fun x hx e => by have h2 := HX5.out _ e.symm; have := HX3.out x hx; have := HL4.out; omega)
  have F11 : Hid (AuthsAt u11 a5 (mkA 1 L.length)) := auths_mark o11
  clear gr11 o11 q10 HO5
  go_wp2_with fail
  refine (heldAuthS_any _ _ _ 1 _ F11.out (by omega) (by omega) (by omega)).mono ?_
  rintro e u12 ⟨rfl, b12⟩
  have q12 := next q11 b12
  replace HO3 : Hid (u12.ownsRow u2.heap.size 30 6 (.slice a3 L.length c3) L.length (acells L)) := keepA HO3.out b12
  replace F11 : Hid (AuthsAt u12 a5 (mkA 1 L.length)) := F11.out.below b12
  clear b12 q11
  rw [HMM.out]
  go_wp2_with fail
  refine (toAuthS_any _ _ _ _ (HZ.out.below q12) hn).mono ?_
  rintro e u13 ⟨rfl, o13, b13⟩
  have q13 := next q12 b13
  replace HO3 : Hid (u13.ownsRow u2.heap.size 30 6 (.slice a3 L.length c3) L.length (acells L)) := keepA HO3.out b13
  replace F11 : Hid (AuthsAt u13 a5 (mkA 1 L.length)) := F11.out.below b13
  have HA13 : Hid (AuthsAt u13 (some ⟨u12.heap.size, 0, none⟩) az) := auths_of_own o13
  clear b13 q12 o13
  go_wp2_with fail
  refine (HI.out _ _ _ HA13.out).mono ?_
  rintro e u14 ⟨a14, c14, rfl, o14, b14⟩
  have q14 := next q13 b14
  replace HO3 : Hid (u14.ownsRow u2.heap.size 30 6 (.slice a3 L.length c3) L.length (acells L)) := keepA HO3.out b14
  replace F11 : Hid (AuthsAt u14 a5 (mkA 1 L.length)) := F11.out.below b14
  have HA14 : Hid (AuthsAt u14 a14 L) := auths_any o14
  clear b14 q13 HA13 o14
  go_wp2_with fail
  refine (eqAuthS_same _ _ _ _ _ _ HA14.out (auths_any HO3.out) (by omega)).mono ?_
  rintro e u15 ⟨rfl, b15⟩
  have q15 := next q14 b15
  replace F11 : Hid (AuthsAt u15 a5 (mkA 1 L.length)) := F11.out.below b15
  clear b15 q14 HA14 HO3
  go_wp2_with fail
  refine (heldAuthS_any _ _ _ 1 _ F11.out (by omega) (by omega) (by omega)).mono ?_
  rintro e u16 ⟨rfl, b16⟩
  rw [HMM.out]
  have q16 := next q15 b16
  clear b16 q15 F11
  go_wp2
  go_ret
  exact ⟨rfl, q16⟩

set_option maxRecDepth 100000 in
theorem lifted (os : Os) (started : os.Started) (H : Type) (enc : TypeId × Value → H) :
    ReturnsInHanded {} Try.checked os 10 .any (Rows.fnExactAuthPruneSpec.pre6 enc Try.prog Try.f10 Rows.fnExactAuthPruneRow.domain false) (Rows.fnExactAuthPruneSpec.post enc Try.prog Try.f10 false true false false) := by
  refine returnsInHanded_of_change (C := Try.checked) own started (by kernel_rfl) Try.func10
    (ChangeSpec.witness6 (enc := enc) (C := Try.checked) false ⟨#[], #[.slice none 0 0, .int .i64 0], []⟩ 8 (by kernel_rfl) (by kernel_rfl) (by kernel_rfl) (by kernel_rfl)) ?_
  intro W base args ds gs before hval0 hW hcnd _
  have hval : ∀ (j : Nat) t v, Try.f10.params[j]? = some t → args[j]? = some v → Value.okWide Try.prog W .any base t v := hval0
  have hW' := hW
  obtain ⟨p, q, hA0, hV, rfl, hfz, hnd⟩ := hW
  have hA : DataW.TrodAll enc Try.prog W 0 (fun _ => true) true Try.f10.params.toList args.toList ds p := hA0
  rw [Try.params10] at hA hval
  obtain ⟨v0, vs0, d0, ds0, p0, q0, hargs, rfl, rfl, h0, r0⟩ := trodAll_cons hA
  obtain ⟨v1, vs1, d1, ds1, p1, q1, rfl, rfl, rfl, h1, r1⟩ := trodAll_cons r0
  obtain ⟨rfl, rfl, rfl⟩ := trodAll_nil r1
  obtain rfl : args = #[v0, v1] := by cases args; simp_all
  obtain ⟨rfl, rfl⟩ := trodVars_none hV
  have k0 := h0
  have lt0 : ∀ x ∈ p0, x.block < W.heap.size := by obtain ⟨m, hm⟩ := k0; exact DataW.trod_lt m _ _ _ hm
  obtain ⟨b0, cap0, az0, rfl, w0⟩ := is_auths Try.underlying43 Try.underlying37 (by kernel_rfl) rfl rfl rfl rfl rfl rfl (by kernel_rfl) (by kernel_rfl) (by kernel_rfl) (by kernel_rfl) (by kernel_rfl) (by kernel_rfl) Try.underlying9 Try.underlying3 Try.underlying3 Try.underlying3 Try.underlying3 Try.underlying4 (hval 0 43 v0 rfl rfl) h0
  obtain ⟨a1, rfl, rfl, rfl, w1⟩ := open_int Try.underlying3 (hval 1 3 v1 rfl rfl) h1
  clear hA0 hval0
  refine (walk b0 cap0 az0 a1 W w0 w1).mono fun e W' ⟨he, bel⟩ => ?_
  subst he
  exact ⟨_, rfl, _, _, _, [], _, [], hW', trodAll_mk1 (shut_bool Try.underlying4 _), (trodAll_cons_mk (Below.trod laidOut (by kernel_rfl) (of_decide_eq_true (by kernel_rfl)) k0 bel lt0) (trodAll_cons_mk (shut_int Try.underlying3 w1) trodAll_mk0)), rfl, bel.frame _, fun h => by cases h⟩

theorem proved : Rows.FnExactAuthPruneSaid :=
  OpenClaim.holds_of_wide 10 Try.f10 rfl rfl rfl rfl rfl rfl rfl ⟨rfl, rfl, rfl, rfl, rfl⟩ rfl rfl rfl rfl rfl (by kernel_rfl) Try.func10 (by kernel_rfl)
    (of_decide_eq_true (by kernel_rfl)) (by unfold Func.isWrapper; first | (rw [if_pos (by decide +kernel)]; kernel_rfl) | (rw [if_neg (by decide +kernel)]; exact ⟨rfl, rfl⟩))
    (fun os started H enc _ => lifted os started H enc)
end Go.Proofs.Ytpjfigjgamlcdaa.fnExactAuthPrune
