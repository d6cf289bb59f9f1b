/- Proved: at every list of tags (of at most 1048576 tags and bytes of data together; a greater one passes by the law's own first test) and every number and text of at most 1048576 bytes the program's TagSet answers as the specification's, both results; it leaves its argument as it was and keeps nothing of it; its answer owns its memory, behind another call too. No other conditions. -/
import Derived.Test.YtijlbceejpjfiaaBase
import Derived.Test.YtijlbceejpjfiaaFTagSet
import Derived.Test.YtijlbceejpjfiaaMarkG
namespace Go.Proofs.Ytijlbceejpjfiaa.fnExactTagSet
open Go.ChangeShapes Go.WideShapes Go.ChangeAt Go.RowKit
open Go.ChangeMaps (open_string shut_string)

theorem all_le {fs : List Fld} (h : sumF fs ≤ 1048576) : ∀ f ∈ fs, f.2.length ≤ 1099511627776 := fun f hf => by have := sumF_mem hf; omega
theorem flds_mark {w : World} {base n : Nat} {t : TypeId} {ao : Option Addr} {cap : Nat} (h : w.ownsRow base t 2 (.slice ao n cap) n (fcells (mkF 1 n))) : FldsAt w ao (mkF 1 n) := by
  obtain ⟨ao', cap', hv, hf, _⟩ := flds_of_own' h
  obtain ⟨rfl, _⟩ : ao = ao' ∧ n = (mkF 1 n).length ∧ cap = cap' := by simpa using hv
  exact hf

set_option maxRecDepth 100000 in
set_option maxHeartbeats 6400000 in
theorem walk (b0 : Option Addr) (cap0 : Nat) (fs : List Fld) (a1 : Int) (a2 : ByteArray) (w : World) (w0 : FldsAt w b0 fs ∧ FldsBd fs) (_w1 : (Lit.int .i64 a1).wf = true) (_w2 : a2.size ≤ maxLen) :
    Calls Try.prog 5 #[.slice b0 fs.length cap0, .int .i64 a1, .string a2] w fun e w' => e = .returned (.bool true) ∧ Below w.heap.size w w' := by
  obtain ⟨hz, hd⟩ := w0
  obtain ⟨d, rfl⟩ : ∃ l : List UInt8, a2 = ⟨l.toArray⟩ := ⟨_, ba_list a2⟩
  clear _w1 _w2
  by_cases hbig : (1048576 : Int) < (d.length : Int)
  · go_enter Try.func5, Try.ntmps5
    go_wp2
    go_ret
    exact ⟨rfl, Below.refl _ _⟩
  by_cases hneg : leftM fs 1048576 < 0
  · go_enter Try.func5, Try.ntmps5
    go_wp2_with fail
    refine (szTagS_any _ _ _ _ hz hd).mono ?_
    rintro e u1 ⟨rfl, b1⟩
    clear hz hd
    generalize leftM fs 1048576 = r at hneg
    go_wp2
    go_ret
    exact ⟨rfl, b1⟩
  have hsum := leftM_sum (show 0 ≤ leftM fs 1048576 by omega)
  have hn : fs.length ≤ 1048576 := by omega
  have HS := all_le (fs := fs) (by omega)
  have hl : d.length ≤ 1099511627776 := by omega
  have hLL := tsetL_len fs a1 d
  clear hsum
  go_enter Try.func5, Try.ntmps5
  go_wp2_with fail
  refine (szTagS_any _ _ _ _ hz hd).mono ?_
  rintro e u1 ⟨rfl, b1⟩
  have z1 := hz.below b1
  clear hd
  obtain ⟨r, hr⟩ : ∃ r, leftM fs 1048576 = r := ⟨_, rfl⟩
  rw [hr] at hneg ⊢
  clear hr
  go_wp2_with fail
  refine (toTagS_any _ _ _ _ z1 hn).mono ?_
  rintro e u2 ⟨rfl, o2, b2⟩
  have q2 := next b1 b2
  go_wp2_with fail
  refine (sTagSet_any _ _ _ _ _ _ (flds_of_own o2) (by omega) HS hl).mono ?_
  rintro e u3 ⟨g3, c3, rfl, o3, b3⟩
  have q3 := next q2 b3
  have z3 := hz.below q3
  have h3 := (o3.lt g3 rfl).2
  have hw3 := q3.size
  clear z1 b1 b2 b3 q2 o2
  obtain ⟨L, hLE⟩ : ∃ L, tsetL fs a1 d = L := ⟨_, rfl⟩
  rw [hLE] at o3 hLL ⊢
  have HLE : Hid _ := hLE
  clear hLE
  obtain ⟨ok, hOE⟩ : ∃ ok, tsetOk fs a1 d = ok := ⟨_, rfl⟩
  rw [hOE]
  have HOE : Hid _ := hOE
  clear hOE
  have HO3 : Hid (u3.ownsRow u2.heap.size 41 2 (.slice (some ⟨g3, 0, none⟩) L.length c3) L.length (fcells L)) := o3
  clear o3
  go_wp2_with fail
  refine (toTagS_any _ _ _ _ z3 hn).mono ?_
  rintro e u4 ⟨rfl, o4, b4⟩
  have q4 := next q3 b4
  have h4 := (o4.lt _ rfl).2
  replace HO3 : Hid (u4.ownsRow u2.heap.size 41 2 (.slice (some ⟨g3, 0, none⟩) L.length c3) L.length (fcells L)) := keepRow HO3.out b4
  have HO4 : Hid (u4.ownsRow u3.heap.size 41 2 (.slice (some ⟨u3.heap.size, 0, none⟩) fs.length fs.length) fs.length (fcells fs)) := o4
  clear b4 z3 q3 o4
  go_wp2_with fail
  refine (iTagSet_any _ _ _ _ _ _ (flds_of_own HO4.out) (by omega) HS hl).mono ?_
  rintro e u5 ⟨g5, c5, rfl, o5, b5⟩
  rw [HLE.out] at o5 ⊢
  rw [HOE.out]
  have q5 := next q4 b5
  have h5 := (o5.lt g5 rfl)
  replace HO3 : Hid (u5.ownsRow u2.heap.size 41 2 (.slice (some ⟨g3, 0, none⟩) L.length c3) L.length (fcells L)) := keepRow HO3.out b5
  replace HO4 : Hid (u5.ownsRow u3.heap.size 41 2 (.slice (some ⟨u3.heap.size, 0, none⟩) fs.length fs.length) fs.length (fcells fs)) := keepRow HO4.out b5
  have HO5 : Hid (u5.ownsRow u4.heap.size 41 2 (.slice (some ⟨g5, 0, none⟩) L.length c5) L.length (fcells L)) := o5
  clear b5 q4 o5
  go_wp2_with fail
  refine (eqTagS_any _ _ _ _ _ _ _ (flds_any HO5.out) (flds_any HO3.out) (by omega) (by omega)).mono ?_
  rintro e u6 ⟨rfl, b6⟩
  rw [decide_eq_true (rfl : L = L)]
  have q6 := next q5 b6
  have z6 := hz.below q6
  replace HO3 : Hid (u6.ownsRow u2.heap.size 41 2 (.slice (some ⟨g3, 0, none⟩) L.length c3) L.length (fcells L)) := keepRow HO3.out b6
  replace HO4 : Hid (u6.ownsRow u3.heap.size 41 2 (.slice (some ⟨u3.heap.size, 0, none⟩) fs.length fs.length) fs.length (fcells fs)) := keepRow HO4.out b6
  replace HO5 : Hid (u6.ownsRow u4.heap.size 41 2 (.slice (some ⟨g5, 0, none⟩) L.length c5) L.length (fcells L)) := keepRow HO5.out b6
  clear b6 q5
  go_wp2_with fail
  refine (toTagS_any _ _ _ _ z6 hn).mono ?_
  rintro e u7 ⟨rfl, o7, b7⟩
  have q7 := next q6 b7
  replace HO3 : Hid (u7.ownsRow u2.heap.size 41 2 (.slice (some ⟨g3, 0, none⟩) L.length c3) L.length (fcells L)) := keepRow HO3.out b7
  replace HO4 : Hid (u7.ownsRow u3.heap.size 41 2 (.slice (some ⟨u3.heap.size, 0, none⟩) fs.length fs.length) fs.length (fcells fs)) := keepRow HO4.out b7
  replace HO5 : Hid (u7.ownsRow u4.heap.size 41 2 (.slice (some ⟨g5, 0, none⟩) L.length c5) L.length (fcells L)) := keepRow HO5.out b7
  have f7 := flds_of_own o7
  clear b7 q6 z6 o7
  go_wp2_with fail
  refine (eqTagS_any _ _ _ _ _ _ _ (flds_of_own HO4.out) f7 (by omega) (by omega)).mono ?_
  rintro e u8 ⟨rfl, b8⟩
  rw [decide_eq_true (rfl : fs = fs)]
  have q8 := next q7 b8
  replace HO3 : Hid (u8.ownsRow u2.heap.size 41 2 (.slice (some ⟨g3, 0, none⟩) L.length c3) L.length (fcells L)) := keepRow HO3.out b8
  replace HO4 : Hid (u8.ownsRow u3.heap.size 41 2 (.slice (some ⟨u3.heap.size, 0, none⟩) fs.length fs.length) fs.length (fcells fs)) := keepRow HO4.out b8
  replace HO5 : Hid (u8.ownsRow u4.heap.size 41 2 (.slice (some ⟨g5, 0, none⟩) L.length c5) L.length (fcells L)) := keepRow HO5.out b8
  clear b8 q7 f7
  go_wp2_with fail
  refine (markTagS_any _ _ _ 1 _ _ HO4.out (by omega) (by omega)).mono ?_
  rintro e u9 ⟨rfl, o9, gr9⟩
  have gr9' : u8.grownBy u9 (some u3.heap.size) := gr9
  have q9 : Below w.heap.size w u9 := q8.grown gr9' q8.size (fun k hk => by simp at hk; omega)
  replace HO3 : Hid (u9.ownsRow u2.heap.size 41 2 (.slice (some ⟨g3, 0, none⟩) L.length c3) L.length (fcells L)) := HO3.out.kept gr9' (.inr (by simp [Value.ownBlock]; omega))
  replace HO5 : Hid (u9.ownsRow u4.heap.size 41 2 (.slice (some ⟨g5, 0, none⟩) L.length c5) L.length (fcells L)) := HO5.out.kept gr9' (.inr (by simp [Value.ownBlock]; omega))
  clear gr9 gr9' o9 q8 HO4
  go_wp2_with fail
  refine (eqTagS_any _ _ _ _ _ _ _ (flds_any HO5.out) (flds_any HO3.out) (by omega) (by omega)).mono ?_
  rintro e u10 ⟨rfl, b10⟩
  rw [decide_eq_true (rfl : L = L)]
  have q10 := next q9 b10
  replace HO3 : Hid (u10.ownsRow u2.heap.size 41 2 (.slice (some ⟨g3, 0, none⟩) L.length c3) L.length (fcells L)) := keepRow HO3.out b10
  replace HO5 : Hid (u10.ownsRow u4.heap.size 41 2 (.slice (some ⟨g5, 0, none⟩) L.length c5) L.length (fcells L)) := keepRow HO5.out b10
  clear b10 q9
  go_wp2_with fail
  refine (markTagS_any _ _ _ 1 _ _ HO5.out (by omega) (by omega)).mono ?_
  rintro e u11 ⟨rfl, o11, gr11⟩
  obtain ⟨mm, hmm⟩ : ∃ m, 1 + 2 * L.length = m := ⟨_, rfl⟩
  rw [hmm]
  have HMM : Hid _ := hmm
  clear hmm
  have gr11' : u10.grownBy u11 (some g5) := gr11
  have q11 : Below w.heap.size w u11 := q10.grown gr11' q10.size (fun k hk => by simp at hk; omega)
  replace HO3 : Hid (u11.ownsRow u2.heap.size 41 2 (.slice (some ⟨g3, 0, none⟩) L.length c3) L.length (fcells L)) := HO3.out.kept gr11' (.inr (by simp [Value.ownBlock]; omega))
  have F11 : Hid (FldsAt u11 (some ⟨g5, 0, none⟩) (mkF 1 L.length)) := flds_mark o11
  clear gr11 gr11' o11 q10 HO5
  go_wp2_with fail
  refine (heldTagS_any _ _ _ 1 _ F11.out (by omega) (by omega) (by omega)).mono ?_
  rintro e u12 ⟨rfl, b12⟩
  have q12 := next q11 b12
  have z12 := hz.below q12
  replace HO3 : Hid (u12.ownsRow u2.heap.size 41 2 (.slice (some ⟨g3, 0, none⟩) L.length c3) L.length (fcells L)) := keepRow HO3.out b12
  replace F11 : Hid (FldsAt u12 (some ⟨g5, 0, none⟩) (mkF 1 L.length)) := F11.out.below b12
  clear b12 q11
  rw [HMM.out]
  go_wp2_with fail
  refine (toTagS_any _ _ _ _ z12 hn).mono ?_
  rintro e u13 ⟨rfl, o13, b13⟩
  have q13 := next q12 b13
  replace HO3 : Hid (u13.ownsRow u2.heap.size 41 2 (.slice (some ⟨g3, 0, none⟩) L.length c3) L.length (fcells L)) := keepRow HO3.out b13
  replace F11 : Hid (FldsAt u13 (some ⟨g5, 0, none⟩) (mkF 1 L.length)) := F11.out.below b13
  have f13 := flds_of_own o13
  clear b13 q12 z12 o13
  go_wp2_with fail
  refine (iTagSet_any _ _ _ _ _ _ f13 (by omega) HS hl).mono ?_
  rintro e u14 ⟨g14, c14, rfl, o14, b14⟩
  rw [HLE.out] at o14 ⊢
  rw [HOE.out]
  have q14 := next q13 b14
  replace HO3 : Hid (u14.ownsRow u2.heap.size 41 2 (.slice (some ⟨g3, 0, none⟩) L.length c3) L.length (fcells L)) := keepRow HO3.out b14
  replace F11 : Hid (FldsAt u14 (some ⟨g5, 0, none⟩) (mkF 1 L.length)) := F11.out.below b14
  have f14 := flds_any o14
  clear b14 q13 f13 o14
  go_wp2_with fail
  refine (eqTagS_any _ _ _ _ _ _ _ f14 (flds_any HO3.out) (by omega) (by omega)).mono ?_
  rintro e u15 ⟨rfl, b15⟩
  rw [decide_eq_true (rfl : L = L)]
  have q15 := next q14 b15
  replace F11 : Hid (FldsAt u15 (some ⟨g5, 0, none⟩) (mkF 1 L.length)) := F11.out.below b15
  clear b15 q14 f14 HO3
  go_wp2_with fail
  refine (heldTagS_any _ _ _ 1 _ F11.out (by omega) (by omega) (by omega)).mono ?_
  rintro e u16 ⟨rfl, b16⟩
  rw [HMM.out]
  have q16 := next q15 b16
  clear b16 q15 F11
  go_wp2
  go_ret
  exact ⟨rfl, q16⟩

set_option maxRecDepth 100000 in
theorem lifted (os : Os) (started : os.Started) (H : Type) (enc : TypeId × Value → H) :
    ReturnsInHanded {} Try.checked os 5 .any (Rows.fnExactTagSetSpec.pre6 enc Try.prog Try.f5 Rows.fnExactTagSetRow.domain false) (Rows.fnExactTagSetSpec.post enc Try.prog Try.f5 false true false false) := by
  refine returnsInHanded_of_change (C := Try.checked) own started (by kernel_rfl) Try.func5
    (ChangeSpec.witness6 (enc := enc) (C := Try.checked) false ⟨#[], #[.slice none 0 0, .int .i64 0, .string ByteArray.empty], []⟩ 8 (by kernel_rfl) (by kernel_rfl) (by kernel_rfl) (by kernel_rfl)) ?_
  intro W base args ds gs before hval0 hW hcnd _
  have hval : ∀ (j : Nat) t v, Try.f5.params[j]? = some t → args[j]? = some v → Value.okWide Try.prog W .any base t v := hval0
  have hW' := hW
  obtain ⟨p, q, hA0, hV, rfl, hfz, hnd⟩ := hW
  have hA : DataW.TrodAll enc Try.prog W 0 (fun _ => true) true Try.f5.params.toList args.toList ds p := hA0
  rw [Try.params5] at hA hval
  obtain ⟨v0, vs0, d0, ds0, p0, q0, hargs, rfl, rfl, h0, r0⟩ := trodAll_cons hA
  obtain ⟨v1, vs1, d1, ds1, p1, q1, rfl, rfl, rfl, h1, r1⟩ := trodAll_cons r0
  obtain ⟨v2, vs2, d2, ds2, p2, q2, rfl, rfl, rfl, h2, r2⟩ := trodAll_cons r1
  obtain ⟨rfl, rfl, rfl⟩ := trodAll_nil r2
  obtain rfl : args = #[v0, v1, v2] := by cases args; simp_all
  obtain ⟨rfl, rfl⟩ := trodVars_none hV
  have k0 := h0
  have lt0 : ∀ x ∈ p0, x.block < W.heap.size := by obtain ⟨m, hm⟩ := k0; exact DataW.trod_lt m _ _ _ hm
  obtain ⟨b0, cap0, fs0, rfl, w0⟩ := is_flds Try.underlying22 Try.underlying39 (by kernel_rfl) rfl rfl (by kernel_rfl) (by kernel_rfl) Try.underlying3 Try.underlying9 (hval 0 22 v0 rfl rfl) h0
  obtain ⟨a1, rfl, rfl, rfl, w1⟩ := open_int Try.underlying3 (hval 1 3 v1 rfl rfl) h1
  obtain ⟨a2, rfl, rfl, rfl, w2⟩ := open_string Try.underlying9 (hval 2 9 v2 rfl rfl) h2
  clear hA0 hval0
  refine (walk b0 cap0 fs0 a1 a2 W w0 w1 w2).mono fun e W' ⟨he, bel⟩ => ?_
  subst he
  exact ⟨_, rfl, _, _, _, [], _, [], hW', trodAll_mk1 (shut_bool Try.underlying4 _), (trodAll_cons_mk (Below.trod laidOut (by kernel_rfl) (of_decide_eq_true (by kernel_rfl)) k0 bel lt0) (trodAll_cons_mk (shut_int Try.underlying3 w1) (trodAll_cons_mk (shut_string Try.underlying9 w2) trodAll_mk0))), rfl, bel.frame _, fun h => by cases h⟩

theorem proved : Rows.FnExactTagSetSaid :=
  OpenClaim.holds_of_wide 5 Try.f5 rfl rfl rfl rfl rfl rfl rfl ⟨rfl, rfl, rfl, rfl, rfl⟩ rfl rfl rfl rfl rfl (by kernel_rfl) Try.func5 (by kernel_rfl)
    (of_decide_eq_true (by kernel_rfl)) (by unfold Func.isWrapper; first | (rw [if_pos (by decide +kernel)]; kernel_rfl) | (rw [if_neg (by decide +kernel)]; exact ⟨rfl, rfl⟩))
    (fun os started H enc _ => lifted os started H enc)
end Go.Proofs.Ytijlbceejpjfiaa.fnExactTagSet
