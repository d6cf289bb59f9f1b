/- Proved: at every list of authorizations and every authorization (of at most 1048576 authorizations and bytes of their Refs together; a greater one passes by the law's own first tests) the program's AuthAdd answers as the specification's, both results; it leaves its arguments as they were and keeps nothing of them; its answer owns its memory, behind another call too. No other conditions. -/
import Derived.Test.YtpjfigjgamlcdaaBase
import Derived.Test.YtpjfigjgamlcdaaAuMark
import Derived.Test.YtpjfigjgamlcdaaAuAdd
import Derived.Test.YtpjfigjgamlcdaaSAuAdd
import Derived.Deep.RegionWith
import Derived.Deep.DeepCutAuto
namespace Go.Proofs.Ytpjfigjgamlcdaa.fnExactAuthAdd
open Go.ChangeShapes Go.WideShapes Go.ChangeAt Go.RowKit
set_option maxRecDepth 100000

theorem all_le {az : List Au} (h : sumR az ≤ 1048576) : ∀ a ∈ az, a.ref.length ≤ 1099511627776 := fun a ha => by have := sumR_mem ha; omega

set_option maxHeartbeats 6400000 in
theorem walk (b0 : Option Addr) (cap0 : Nat) (az : List Au) (aa : Au) (w : World) (w0 : AuthsAt w b0 az ∧ AuthsBd az) (w1 : auBd aa) :
    Calls Try.prog 9 #[.slice b0 az.length cap0, auv aa] w fun e w' => e = .returned (.bool true) ∧ Below w.heap.size w w' := by
  obtain ⟨hz, hd⟩ := w0
  have hm : aa.ref.length ≤ 9223372036854775807 := by have := w1.1; unfold maxLen at this; omega
  obtain ⟨W, hW⟩ : ∃ W, W = w.alloc (.cells #[.string ⟨aa.ref.toArray⟩, .int .i64 aa.iss, .int .i64 aa.cur, .int .i64 aa.am, .int .i64 aa.day, .bool aa.used] 37) := ⟨_, rfl⟩
  have B : AuB w.heap.size aa W := by rw [hW]; exact AuB.new w aa _
  have bW : Below w.heap.size w W := by rw [hW]; exact (Below.refl _ _).alloc (Nat.le_refl _) _
  have HBB : Hid (AuB w.heap.size aa W) := B
  have HBW : Hid (Below w.heap.size w W) := bW
  have HZW : Hid (AuthsAt W b0 az) := hz.below bW
  have HSZ : Hid (∀ u, AuthsAt u b0 az → Calls Try.prog 27 #[.slice b0 az.length cap0, .int .i64 1048576] u fun e w' => e = .returned (.int .i64 (leftAL az 1048576)) ∧ Below u.heap.size u w') := fun u hu => szAuthS_any _ _ _ _ hu hd
  have HT : Hid (∀ u, Calls Try.prog 24 #[auv aa] u fun e w' => e = .returned (auv aa) ∧ Below u.heap.size u w') := fun u => toAuth_any aa u
  clear bW B
  by_cases hneg : leftAL az 1048576 < 0
  · clear hd w1 hm HT HBB hz
    obtain ⟨r, i, c, m, d, u⟩ := aa
    unfold auv
    simp only at hW ⊢
    have HW : Hid _ := hW
    generalize leftAL az 1048576 = rr at hneg HSZ
    clear hW
    go_enter Try.func9, Try.ntmps9
    go_upto_region 2 with fail
    rw [← HW.out]
    go_wp2_with fail
    refine (HSZ.out _ HZW.out).mono ?_
    rintro e u1 ⟨rfl, b1⟩
    have HB1 : Hid (Below w.heap.size w u1) := next HBW.out b1
    clear b1
    go_wp2
    go_ret
    exact ⟨rfl, HB1.out⟩
  have hs0 := leftAL_sum (show 0 ≤ leftAL az 1048576 by omega)
  obtain ⟨rr, hrr⟩ : ∃ rr, leftAL az 1048576 = rr := ⟨_, rfl⟩
  rw [hrr] at hneg hs0 HSZ
  clear hrr
  have HZA : Hid (∀ u, Calls Try.prog 22 #[auv aa, .int .i64 rr] u fun e w' => e = .returned (.int .i64 (leftA aa.ref rr)) ∧ Below u.heap.size u w') := fun u => szAuth_any aa rr u ⟨hs0.2, by omega⟩ hm
  by_cases hneg2 : leftA aa.ref rr < 0
  · clear hd w1 hm HT hz hs0
    obtain ⟨r, i, c, m, d, u⟩ := aa
    unfold auv at HZA ⊢
    simp only at hW HZA hneg2 ⊢
    have HW : Hid _ := hW
    generalize leftA r rr = r2 at hneg2 HZA
    clear hW
    go_enter Try.func9, Try.ntmps9
    go_upto_region 2 with fail
    rw [← HW.out]
    go_wp2_with fail
    refine (HSZ.out _ HZW.out).mono ?_
    rintro e u1 ⟨rfl, b1⟩
    have HB1 : Hid (Below w.heap.size w u1) := next HBW.out b1
    obtain ⟨f0, f1, f2, f3, f4, f5⟩ := HBB.out.below b1
    simp only at f0 f1 f2 f3 f4 f5
    clear b1
    go_wp2_with fail
    refine (HZA.out _).mono ?_
    rintro e u2 ⟨rfl, b2⟩
    have HB2 : Hid (Below w.heap.size w u2) := next HB1.out b2
    clear b2 f0 f1 f2 f3 f4 f5
    go_wp2
    go_ret
    exact ⟨rfl, HB2.out⟩
  have hlen : aa.ref.length ≤ 1048576 := by
    unfold leftA at hneg2
    split at hneg2 <;> omega
  have hn : az.length ≤ 1048576 := by omega
  have HAL := all_le (az := az) (by omega)
  obtain ⟨L, hLE⟩ : ∃ L, addA az aa = L := ⟨_, rfl⟩
  have hLL : L.length ≤ 1048577 := by rw [← hLE]; have := addA_len az aa; omega
  obtain ⟨Q, hQE⟩ : ∃ Q, addOk az aa = Q := ⟨_, rfl⟩
  have HI : Hid (∀ (u : World) (ao : Option Addr) (c : Nat), AuthsAt u ao az → Calls Try.prog 17 #[.slice ao az.length c, auv aa] u (AuR2 u L Q)) := fun u ao c hu => by rw [← hLE, ← hQE]; exact iAdd10_any ao c az aa u hu hn HAL (by omega) w1.2.2.1
  have HS : Hid (∀ (u : World) (ao : Option Addr) (c : Nat), AuthsAt u ao az → Calls Try.prog 18 #[.slice ao az.length c, auv aa] u (AuR2 u L Q)) := fun u ao c hu => by rw [← hLE, ← hQE]; exact sAdd10_any ao c az aa u hu hn (by omega)
  have HZ : Hid (AuthsAt w b0 az) := hz
  clear hs0 hLE hQE HAL hd w1 hm hlen hz
  obtain ⟨xr, xi, xc, xm, xd, xu⟩ := aa
  unfold auv at HT HZA HI HS ⊢
  simp only at hW HT HZA HI HS hneg2 ⊢
  have HW : Hid _ := hW
  generalize leftA xr rr = r2 at hneg2 HZA
  clear hW
  go_enter Try.func9, Try.ntmps9
  go_upto_region 2 with fail
  rw [← HW.out]
  go_wp2_with fail
  refine (HSZ.out _ HZW.out).mono ?_
  rintro e u0 ⟨rfl, b00⟩
  have HB0 : Hid (Below W.heap.size W u0) := b00
  have HBX0 : Hid (AuB w.heap.size ⟨xr, xi, xc, xm, xd, xu⟩ u0) := HBB.out.below b00
  obtain ⟨f0, f1, f2, f3, f4, f5⟩ := HBX0.out
  simp only at f0 f1 f2 f3 f4 f5
  clear b00
  go_wp2_with fail
  refine (HZA.out _).mono ?_
  rintro e u1 ⟨rfl, b1⟩
  have q1 : Below W.heap.size W u1 := next HB0.out b1
  have HQ1 : Hid (Below W.heap.size W u1) := q1
  have HBX1 : Hid (AuB w.heap.size ⟨xr, xi, xc, xm, xd, xu⟩ u1) := HBX0.out.below b1
  have HZ1 : Hid (AuthsAt u1 b0 az) := HZW.out.below q1
  clear b1 f0 f1 f2 f3 f4 f5 HBX0 HB0 q1
  go_upto_region 8 with fail
  go_cut [6, 7] (fun v6 v7 wc => ∃ a3 c3, v6 = .slice a3 L.length c3 ∧ v7 = .bool Q ∧ wc.ownsRow u1.heap.size 30 6 (.slice a3 L.length c3) L.length (acells L) ∧ Below u1.heap.size u1 wc)
  case first =>
    obtain ⟨f0, f1, f2, f3, f4, f5⟩ := HBX1.out
    simp only at f0 f1 f2 f3 f4 f5
    go_region_with (first
      | (go_at_call 28; refine (toAuthS_any _ _ _ _ (HZ1.out.below ((Below.refl _ _).drew)) hn).mono ?_; rintro e v2 ⟨rfl, o2, b2⟩; have q12 : Below u1.heap.size u1 v2 := ((Below.refl _ _).drew).trans b2; obtain ⟨j0, j1, j2, j3, j4, j5⟩ := HBX1.out.below q12; simp only at j0 j1 j2 j3 j4 j5)
      | (go_at_call 24; refine (HT.out _).mono ?_; rintro e v3 ⟨rfl, b3⟩)
      | (go_at_call 18; refine (HS.out _ _ _ ((auths_of_own o2).below b3)).mono ?_; rintro e v4 ⟨a4, c4, rfl, o4, b4⟩))
    all_goals
      go_wp2_with fail
      go_meet
      exact ⟨_, _, rfl, rfl, lowerA o4 (Nat.le_trans q12.size b3.size), next (next q12 b3) b4⟩
  case rest =>
  obtain ⟨a3, c3, rfl, rfl, o3, b13⟩ := hcut
  obtain ⟨u3, hu3⟩ : ∃ x, x = wc := ⟨_, rfl⟩
  subst hu3
  have q3 : Below W.heap.size W u3 := next HQ1.out b13
  have HX3 : Hid (∀ x, (Value.slice a3 L.length c3).ownBlock = some x → x < u3.heap.size) := fun x hx => (o3.lt x hx).2
  have HO3 : Hid (u3.ownsRow u1.heap.size 30 6 (.slice a3 L.length c3) L.length (acells L)) := o3
  have HBX3 : Hid (AuB w.heap.size ⟨xr, xi, xc, xm, xd, xu⟩ u3) := HBX1.out.below b13
  clear o3 b13 HBX1
  go_wp2_with fail
  refine (toAuthS_any _ _ _ _ (HZW.out.below q3) hn).mono ?_
  rintro e u4 ⟨rfl, o4, b4⟩
  have q4 := next q3 b4
  have HB34 : Hid (Below u3.heap.size u3 u4) := b4
  have h4 := (o4.lt _ rfl).2
  have HG4 : Hid (W.heap.size ≤ u3.heap.size) := q3.size
  replace HO3 : Hid (u4.ownsRow u1.heap.size 30 6 (.slice a3 L.length c3) L.length (acells L)) := keepA HO3.out b4
  have HO4 : Hid (u4.ownsRow u3.heap.size 30 6 (.slice (some ⟨u3.heap.size, 0, none⟩) az.length az.length) az.length (acells az)) := o4
  have HL4 : Hid (u3.heap.size < u4.heap.size) := h4
  clear b4 q3 o4 h4
  have HBX4 : Hid (AuB w.heap.size ⟨xr, xi, xc, xm, xd, xu⟩ u4) := HBX3.out.below HB34.out
  obtain ⟨f0, f1, f2, f3, f4, f5⟩ := HBX4.out
  simp only at f0 f1 f2 f3 f4 f5
  go_wp2_with fail
  refine (HT.out _).mono ?_
  rintro e u45 ⟨rfl, b45⟩
  have q45 := next q4 b45
  replace HO3 : Hid (u45.ownsRow u1.heap.size 30 6 (.slice a3 L.length c3) L.length (acells L)) := keepA HO3.out b45
  replace HO4 : Hid (u45.ownsRow u3.heap.size 30 6 (.slice (some ⟨u3.heap.size, 0, none⟩) az.length az.length) az.length (acells az)) := keepA HO4.out b45
  have HL45 : Hid (u3.heap.size < u45.heap.size) := Nat.lt_of_lt_of_le HL4.out b45.size
  clear b45 q4 f0 f1 f2 f3 f4 f5 HBX4
  go_wp2_with fail
  refine (HI.out _ _ _ (auths_of_own HO4.out)).mono ?_
  rintro e u5 ⟨a5, c5, rfl, o5, b5⟩
  have q5 := next q45 b5
  have HX5 : Hid (∀ x, (Value.slice a5 L.length c5).ownBlock = some x → u45.heap.size ≤ x) := fun x hx => (o5.lt x hx).1
  replace HO3 : Hid (u5.ownsRow u1.heap.size 30 6 (.slice a3 L.length c3) L.length (acells L)) := keepA HO3.out b5
  replace HO4 : Hid (u5.ownsRow u3.heap.size 30 6 (.slice (some ⟨u3.heap.size, 0, none⟩) az.length az.length) az.length (acells az)) := keepA HO4.out b5
  have HO5 : Hid (u5.ownsRow u45.heap.size 30 6 (.slice a5 L.length c5) L.length (acells L)) := o5
  clear b5 q45 o5
  have nq : (Q != Q) = false := by simp
  go_wp2_with fail
  refine (eqAuthS_same _ _ _ _ _ _ (auths_any HO5.out) (auths_any HO3.out) (by omega)).mono ?_
  rintro e u6 ⟨rfl, b6⟩
  have q6 := next q5 b6
  replace HO3 : Hid (u6.ownsRow u1.heap.size 30 6 (.slice a3 L.length c3) L.length (acells L)) := keepA HO3.out b6
  replace HO4 : Hid (u6.ownsRow u3.heap.size 30 6 (.slice (some ⟨u3.heap.size, 0, none⟩) az.length az.length) az.length (acells az)) := keepA HO4.out b6
  replace HO5 : Hid (u6.ownsRow u45.heap.size 30 6 (.slice a5 L.length c5) L.length (acells L)) := keepA HO5.out b6
  clear b6 q5
  go_wp2_with fail
  refine (toAuthS_any _ _ _ _ (HZW.out.below q6) hn).mono ?_
  rintro e u7 ⟨rfl, o7, b7⟩
  have q7 := next q6 b7
  replace HO3 : Hid (u7.ownsRow u1.heap.size 30 6 (.slice a3 L.length c3) L.length (acells L)) := keepA HO3.out b7
  replace HO4 : Hid (u7.ownsRow u3.heap.size 30 6 (.slice (some ⟨u3.heap.size, 0, none⟩) az.length az.length) az.length (acells az)) := keepA HO4.out b7
  replace HO5 : Hid (u7.ownsRow u45.heap.size 30 6 (.slice a5 L.length c5) L.length (acells L)) := keepA HO5.out b7
  have HA7 : Hid (AuthsAt u7 (some ⟨u6.heap.size, 0, none⟩) az) := auths_of_own o7
  clear b7 q6 o7
  go_wp2_with fail
  refine (eqAuthS_same _ _ _ _ _ _ (auths_of_own HO4.out) HA7.out (by omega)).mono ?_
  rintro e u8 ⟨rfl, b8⟩
  have q8 := next q7 b8
  replace HO3 : Hid (u8.ownsRow u1.heap.size 30 6 (.slice a3 L.length c3) L.length (acells L)) := keepA HO3.out b8
  replace HO4 : Hid (u8.ownsRow u3.heap.size 30 6 (.slice (some ⟨u3.heap.size, 0, none⟩) az.length az.length) az.length (acells az)) := keepA HO4.out b8
  replace HO5 : Hid (u8.ownsRow u45.heap.size 30 6 (.slice a5 L.length c5) L.length (acells L)) := keepA HO5.out b8
  clear b8 q7 HA7
  go_wp2_with fail
  refine (markAuthS_any _ _ _ 1 _ _ HO4.out (by omega) (by omega) (by omega)).mono ?_
  rintro e u9 ⟨rfl, o9, gr9⟩
  have gr9' : u8.grownBy u9 (some u3.heap.size) := gr9
  have q9 : Below W.heap.size W u9 := q8.grown gr9' q8.size (fun k hk => by have := HG4.out; simp at hk; omega)
  replace HO3 : Hid (u9.ownsRow u1.heap.size 30 6 (.slice a3 L.length c3) L.length (acells L)) := keepAg HO3.out gr9' (fun x hx e => by injection e with e; have := HX3.out x hx; omega)
  replace HO5 : Hid (u9.ownsRow u45.heap.size 30 6 (.slice a5 L.length c5) L.length (acells L)) := keepAg HO5.out gr9' (fun x hx e => by injection e with e; have := HX5.out x hx; have := HL45.out; omega)
  clear gr9 gr9' o9 q8 HO4
  go_wp2_with fail
  refine (eqAuthS_same _ _ _ _ _ _ (auths_any HO5.out) (auths_any HO3.out) (by omega)).mono ?_
  rintro e u10 ⟨rfl, b10⟩
  have q10 := next q9 b10
  replace HO3 : Hid (u10.ownsRow u1.heap.size 30 6 (.slice a3 L.length c3) L.length (acells L)) := keepA HO3.out b10
  replace HO5 : Hid (u10.ownsRow u45.heap.size 30 6 (.slice a5 L.length c5) L.length (acells L)) := keepA HO5.out b10
  clear b10 q9
  go_wp2_with fail
  refine (markAuthS_any _ _ _ 1 _ _ HO5.out (by omega) (by omega) (by omega)).mono ?_
  rintro e u11 ⟨rfl, o11, gr11⟩
  obtain ⟨mm, hmm⟩ : ∃ m, 1 + 6 * L.length = m := ⟨_, rfl⟩
  rw [hmm]
  have HMM : Hid _ := hmm
  have hm0 : 0 ≤ (mm : Int) := by omega
  have nm : ((mm : Int) != (mm : Int)) = false := by simp
  clear hmm
  have q11 : Below W.heap.size W u11 := q10.grown gr11 q10.size (fun k hk => by have := HX5.out k hk; have := HL45.out; have := HG4.out; omega)
  replace HO3 : Hid (u11.ownsRow u1.heap.size 30 6 (.slice a3 L.length c3) L.length (acells L)) := keepAg HO3.out gr11 (fun x hx e => by have h2 := HX5.out _ e.symm; have := HX3.out x hx; have := HL45.out; omega)
  have F11 : Hid (AuthsAt u11 a5 (mkA 1 L.length)) := auths_mark o11
  clear gr11 o11 q10 HO5
  go_wp2_with fail
  refine (heldAuthS_any _ _ _ 1 _ F11.out (by omega) (by omega) (by omega)).mono ?_
  rintro e u12 ⟨rfl, b12⟩
  have q12 := next q11 b12
  replace HO3 : Hid (u12.ownsRow u1.heap.size 30 6 (.slice a3 L.length c3) L.length (acells L)) := keepA HO3.out b12
  replace F11 : Hid (AuthsAt u12 a5 (mkA 1 L.length)) := F11.out.below b12
  clear b12 q11
  rw [HMM.out]
  have HQ12 : Hid (Below W.heap.size W u12) := q12
  have HZ12 : Hid (AuthsAt u12 b0 az) := HZW.out.below q12
  have HBX12 : Hid (AuB w.heap.size ⟨xr, xi, xc, xm, xd, xu⟩ u12) := HBB.out.below q12
  clear q12
  go_upto_region 27 with fail
  go_cut [14, 15] (fun v6 v7 wc => ∃ a14 c14, v6 = .slice a14 L.length c14 ∧ v7 = .bool Q ∧ wc.ownsRow u12.heap.size 30 6 (.slice a14 L.length c14) L.length (acells L) ∧ Below u12.heap.size u12 wc)
  case first =>
    obtain ⟨f0, f1, f2, f3, f4, f5⟩ := HBX12.out
    simp only at f0 f1 f2 f3 f4 f5
    go_region_with (first
      | (go_at_call 28; refine (toAuthS_any _ _ _ _ (HZ12.out.below ((Below.refl _ _).drew)) hn).mono ?_; rintro e v2 ⟨rfl, o2, b2⟩; have q12 : Below u12.heap.size u12 v2 := ((Below.refl _ _).drew).trans b2; obtain ⟨j0, j1, j2, j3, j4, j5⟩ := HBX12.out.below q12; simp only at j0 j1 j2 j3 j4 j5)
      | (go_at_call 24; refine (HT.out _).mono ?_; rintro e v3 ⟨rfl, b3⟩)
      | (go_at_call 17; refine (HI.out _ _ _ ((auths_of_own o2).below b3)).mono ?_; rintro e v4 ⟨a4, c4, rfl, o4, b4⟩))
    all_goals
      go_wp2_with fail
      go_meet
      exact ⟨_, _, rfl, rfl, lowerA o4 (Nat.le_trans q12.size b3.size), next (next q12 b3) b4⟩
  case rest =>
  obtain ⟨a14, c14, rfl, rfl, o14, b14⟩ := hcut
  obtain ⟨u14, hu14⟩ : ∃ x, x = wc := ⟨_, rfl⟩
  subst hu14
  have q14 := next HQ12.out b14
  replace HO3 : Hid (u14.ownsRow u1.heap.size 30 6 (.slice a3 L.length c3) L.length (acells L)) := keepA HO3.out b14
  replace F11 : Hid (AuthsAt u14 a5 (mkA 1 L.length)) := F11.out.below b14
  have HA14 : Hid (AuthsAt u14 a14 L) := auths_any o14
  clear b14 o14
  go_wp2_with fail
  refine (eqAuthS_same _ _ _ _ _ _ HA14.out (auths_any HO3.out) (by omega)).mono ?_
  rintro e u15 ⟨rfl, b15⟩
  have q15 := next q14 b15
  replace F11 : Hid (AuthsAt u15 a5 (mkA 1 L.length)) := F11.out.below b15
  clear b15 q14 HA14 HO3
  go_wp2_with fail
  refine (heldAuthS_any _ _ _ 1 _ F11.out (by omega) (by omega) (by omega)).mono ?_
  rintro e u16 ⟨rfl, b16⟩
  rw [HMM.out]
  have q16 := next q15 b16
  clear b16 q15 F11
  go_wp2
  go_ret
  exact ⟨rfl, next HBW.out q16⟩

set_option maxRecDepth 100000 in
theorem lifted (os : Os) (started : os.Started) (H : Type) (enc : TypeId × Value → H) :
    ReturnsInHanded {} Try.checked os 9 .any (Rows.fnExactAuthAddSpec.pre6 enc Try.prog Try.f9 Rows.fnExactAuthAddRow.domain false) (Rows.fnExactAuthAddSpec.post enc Try.prog Try.f9 false true false false) := by
  refine returnsInHanded_of_change (C := Try.checked) own started (by kernel_rfl) Try.func9
    (ChangeSpec.witness6 (enc := enc) (C := Try.checked) false ⟨#[], #[.slice none 0 0, .agg #[.string ByteArray.empty, .int .i64 0, .int .i64 0, .int .i64 0, .int .i64 0, .bool false]], []⟩ 8 (by kernel_rfl) (by kernel_rfl) (by kernel_rfl) (by kernel_rfl)) ?_
  intro W base args ds gs before hval0 hW hcnd _
  have hval : ∀ (j : Nat) t v, Try.f9.params[j]? = some t → args[j]? = some v → Value.okWide Try.prog W .any base t v := hval0
  have hW' := hW
  obtain ⟨p, q, hA0, hV, rfl, hfz, hnd⟩ := hW
  have hA : DataW.TrodAll enc Try.prog W 0 (fun _ => true) true Try.f9.params.toList args.toList ds p := hA0
  rw [Try.params9] at hA hval
  obtain ⟨v0, vs0, d0, ds0, p0, q0, hargs, rfl, rfl, h0, r0⟩ := trodAll_cons hA
  obtain ⟨v1, vs1, d1, ds1, p1, q1, rfl, rfl, rfl, h1, r1⟩ := trodAll_cons r0
  obtain ⟨rfl, rfl, rfl⟩ := trodAll_nil r1
  obtain rfl : args = #[v0, v1] := by cases args; simp_all
  obtain ⟨rfl, rfl⟩ := trodVars_none hV
  have k0 := h0
  have lt0 : ∀ x ∈ p0, x.block < W.heap.size := by obtain ⟨m, hm⟩ := k0; exact DataW.trod_lt m _ _ _ hm
  obtain ⟨b0, cap0, az0, rfl, w0⟩ := is_auths Try.underlying43 Try.underlying37 (by kernel_rfl) rfl rfl rfl rfl rfl rfl (by kernel_rfl) (by kernel_rfl) (by kernel_rfl) (by kernel_rfl) (by kernel_rfl) (by kernel_rfl) Try.underlying9 Try.underlying3 Try.underlying3 Try.underlying3 Try.underlying3 Try.underlying4 (hval 0 43 v0 rfl rfl) h0
  have k1 := h1
  have lt1 : ∀ x ∈ p1, x.block < W.heap.size := by obtain ⟨m, hm⟩ := k1; exact DataW.trod_lt m _ _ _ hm
  obtain ⟨c1, rfl, w1⟩ := is_auth Try.underlying37 (by kernel_rfl) rfl rfl rfl rfl rfl rfl (by kernel_rfl) (by kernel_rfl) (by kernel_rfl) (by kernel_rfl) (by kernel_rfl) (by kernel_rfl) Try.underlying9 Try.underlying3 Try.underlying3 Try.underlying3 Try.underlying3 Try.underlying4 (hval 1 37 v1 rfl rfl) h1
  clear hA0 hval0
  refine (walk b0 cap0 az0 c1 W w0 w1).mono fun e W' ⟨he, bel⟩ => ?_
  subst he
  exact ⟨_, rfl, _, _, _, [], _, [], hW', trodAll_mk1 (shut_bool Try.underlying4 _), (trodAll_cons_mk (Below.trod laidOut (by kernel_rfl) (of_decide_eq_true (by kernel_rfl)) k0 bel lt0) (trodAll_cons_mk (Below.trod laidOut (by kernel_rfl) (of_decide_eq_true (by kernel_rfl)) k1 bel lt1) trodAll_mk0)), rfl, bel.frame _, fun h => by cases h⟩

theorem proved : Rows.FnExactAuthAddSaid :=
  OpenClaim.holds_of_wide 9 Try.f9 rfl rfl rfl rfl rfl rfl rfl ⟨rfl, rfl, rfl, rfl, rfl⟩ rfl rfl rfl rfl rfl (by kernel_rfl) Try.func9 (by kernel_rfl)
    (of_decide_eq_true (by kernel_rfl)) (by unfold Func.isWrapper; first | (rw [if_pos (by decide +kernel)]; kernel_rfl) | (rw [if_neg (by decide +kernel)]; exact ⟨rfl, rfl⟩))
    (fun os started H enc _ => lifted os started H enc)
end Go.Proofs.Ytpjfigjgamlcdaa.fnExactAuthAdd
