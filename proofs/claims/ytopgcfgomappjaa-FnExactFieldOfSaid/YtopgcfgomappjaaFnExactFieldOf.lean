/- Proved: at every message (of at most 1048576 fields and bytes of data together; a greater one passes by the law's own first test) and every number the program's FieldOf answers as the specification's, both results, and leaves its argument as it was. No other conditions. -/
import Derived.Test.YtopgcfgomappjaaBase
import Derived.Test.YtopgcfgomappjaaFFieldOf
import Derived.Test.YtopgcfgomappjaaFlds
namespace Go.Proofs.Ytopgcfgomappjaa.fnExactFieldOf
open Go.ChangeShapes Go.WideShapes Go.ChangeAt Go.RowKit
open Go.ChangeMaps (open_string shut_string)

set_option maxHeartbeats 1600000 in
theorem walk (a0 : Int) (b0 : Option Addr) (cap0 : Nat) (fs : List Fld) (a1 : Int) (w : World) (w0 : FldsAt w b0 fs ∧ FldsBd fs) (_w1 : (Lit.int .i64 a1).wf = true) :
    Calls Try.prog 5 #[.agg #[.int .i64 a0, .slice b0 fs.length cap0], .int .i64 a1] w fun e w' => e = .returned (.bool true) ∧ Below w.heap.size w w' := by
  obtain ⟨hz, hd⟩ := w0
  clear _w1
  have bel1 : Below w.heap.size w (w.alloc (.cells #[.int .i64 a0, .slice b0 fs.length cap0] 31)) := (Below.refl _ _).alloc (Nat.le_refl _) _
  have hz1 := hz.below bel1
  by_cases hneg : leftM fs 1048576 < 0
  · go_enter Try.func5, Try.ntmps5
    go_wp2_with fail
    refine (szMessage_any _ _ _ _ _ hz1 hd).mono ?_
    rintro e u1 ⟨rfl, b1⟩
    have bel := (box2 b1).2.2.1
    clear b1 hz1 bel1 hz hd
    generalize leftM fs 1048576 = r at hneg
    go_wp2
    go_ret
    exact ⟨rfl, bel⟩
  · have hsum := leftM_sum (show 0 ≤ leftM fs 1048576 by omega)
    have hn : fs.length ≤ 1048576 := by omega
    have hs : sumF fs ≤ 1048576 := by omega
    clear hsum
    go_enter Try.func5, Try.ntmps5
    go_wp2_with fail
    refine (szMessage_any _ _ _ _ _ hz1 hd).mono ?_
    rintro e u1 ⟨rfl, b1⟩
    obtain ⟨c0, c1, q1, hlt⟩ := box2 b1
    have z1 := hz.below q1
    clear b1 hz1 bel1 hd
    obtain ⟨r, hr⟩ : ∃ r, leftM fs 1048576 = r := ⟨_, rfl⟩
    rw [hr] at hneg ⊢
    clear hr
    go_wp2_with fail
    refine (toMessage_any _ _ _ _ _ z1 hn).mono ?_
    rintro e u2 ⟨g, rfl, o2, b2⟩
    obtain ⟨d0, d1⟩ := keep2 c0 c1 b2
    have z2 := z1.below b2
    go_wp2_with fail
    refine (sFieldOf_any _ _ _ _ _ _ (flds_of_own o2) hn).mono ?_
    rintro e u3 ⟨rfl, b3⟩
    obtain ⟨e0, e1⟩ := keep2 d0 d1 b3
    have z3 := z2.below b3
    have q3 := next (next q1 b2) b3
    clear d0 d1 c0 c1 z2 z1 b3 b2 q1 o2
    go_wp2_with fail
    refine (toMessage_any _ _ _ _ _ z3 hn).mono ?_
    rintro e u4 ⟨g2, rfl, o4, b4⟩
    have bx : Below u4.heap.size u4 (u4.alloc (.cells #[.int .i64 a0, .slice (some ⟨g2, 0, none⟩) fs.length fs.length] 36)) := (Below.refl _ _).alloc (Nat.le_refl _) _
    go_wp2_with fail
    refine (iFieldOf_any _ _ _ _ _ _ ((flds_of_own o4).below bx) hn hs).mono ?_
    rintro e u5 ⟨rfl, b5⟩
    obtain ⟨x0, x1, q5, hlt5⟩ := box2 b5
    obtain ⟨y0, y1⟩ := keep2 e0 e1 (next b4 q5)
    have z5 := z3.below (next b4 q5)
    have f5 := (flds_of_own o4).below q5
    have q6 := next q3 (next b4 q5)
    generalize (fOf fs a1).getD [] = ol
    generalize (fOf fs a1).isSome = ok
    clear b4 b5 q5 o4 e0 e1 z3 q3 bx
    have hme := msgEq_self a0 fs
    go_wp2
    go_region_with (first
      | (go_at_call 13; refine (toMessage_any _ _ _ _ _ (z5.below ((Below.refl _ _).drew)) hn).mono ?_; rintro e u6 ⟨g3, rfl, o6, b6⟩; have b7 : Below u5.heap.size u5 u6 := ((Below.refl _ _).drew).trans b6; obtain ⟨j0, j1⟩ := keep2 x0 x1 b7)
      | (go_at_call 15; refine (eqMessage_any _ _ _ _ _ _ _ _ _ (f5.below b7) (flds_of_own o6) (by omega) (by omega)).mono ?_; rintro e u8 ⟨rfl, b8⟩; rw [hme]))
    all_goals
      go_wp2
      go_ret
      exact ⟨rfl, next (next q6 b7) b8⟩

set_option maxRecDepth 100000 in
theorem lifted (os : Os) (started : os.Started) (H : Type) (enc : TypeId × Value → H) :
    ReturnsInHanded {} Try.checked os 5 .any (Rows.fnExactFieldOfSpec.pre6 enc Try.prog Try.f5 Rows.fnExactFieldOfRow.domain false) (Rows.fnExactFieldOfSpec.post enc Try.prog Try.f5 false true false false) := by
  refine returnsInHanded_of_change (C := Try.checked) own started (by kernel_rfl) Try.func5
    (ChangeSpec.witness6 (enc := enc) (C := Try.checked) false ⟨#[], #[.agg #[.int .i64 0, .slice none 0 0], .int .i64 0], []⟩ 8 (by kernel_rfl) (by kernel_rfl) (by kernel_rfl) (by kernel_rfl)) ?_
  intro W base args ds gs before hval0 hW hcnd _
  have hval : ∀ (j : Nat) t v, Try.f5.params[j]? = some t → args[j]? = some v → Value.okWide Try.prog W .any base t v := hval0
  have hW' := hW
  obtain ⟨p, q, hA0, hV, rfl, hfz, hnd⟩ := hW
  have hA : DataW.TrodAll enc Try.prog W 0 (fun _ => true) true Try.f5.params.toList args.toList ds p := hA0
  rw [Try.params5] at hA hval
  obtain ⟨v0, vs0, d0, ds0, p0, q0, hargs, rfl, rfl, h0, r0⟩ := trodAll_cons hA
  obtain ⟨v1, vs1, d1, ds1, p1, q1, rfl, rfl, rfl, h1, r1⟩ := trodAll_cons r0
  obtain ⟨rfl, rfl, rfl⟩ := trodAll_nil r1
  obtain rfl : args = #[v0, v1] := by cases args; simp_all
  obtain ⟨rfl, rfl⟩ := trodVars_none hV
  have k0 := h0
  have lt0 : ∀ x ∈ p0, x.block < W.heap.size := by obtain ⟨m, hm⟩ := k0; exact DataW.trod_lt m _ _ _ hm
  obtain ⟨a0, b0, cap0, fs0, rfl, w0⟩ := is_message Try.underlying31 (by kernel_rfl) rfl rfl (by kernel_rfl) (by kernel_rfl) Try.underlying3 Try.underlying29 Try.underlying23 (by kernel_rfl) rfl rfl (by kernel_rfl) (by kernel_rfl) Try.underlying3 Try.underlying9 (hval 0 31 v0 rfl rfl) h0
  obtain ⟨a1, rfl, rfl, rfl, w1⟩ := open_int Try.underlying3 (hval 1 3 v1 rfl rfl) h1
  clear hA0 hval0
  refine (walk a0 b0 cap0 fs0 a1 W w0 w1).mono fun e W' ⟨he, bel⟩ => ?_
  subst he
  exact ⟨_, rfl, _, _, _, [], _, [], hW', trodAll_mk1 (shut_bool Try.underlying4 _), (trodAll_cons_mk (Below.trod laidOut (by kernel_rfl) (of_decide_eq_true (by kernel_rfl)) k0 bel lt0) (trodAll_cons_mk (shut_int Try.underlying3 w1) trodAll_mk0)), rfl, bel.frame _, fun h => by cases h⟩

theorem proved : Rows.FnExactFieldOfSaid :=
  OpenClaim.holds_of_wide 5 Try.f5 rfl rfl rfl rfl rfl rfl rfl ⟨rfl, rfl, rfl, rfl, rfl⟩ rfl rfl rfl rfl rfl (by kernel_rfl) Try.func5 (by kernel_rfl)
    (of_decide_eq_true (by kernel_rfl)) (by unfold Func.isWrapper; first | (rw [if_pos (by decide +kernel)]; kernel_rfl) | (rw [if_neg (by decide +kernel)]; exact ⟨rfl, rfl⟩))
    (fun os started H enc _ => lifted os started H enc)
end Go.Proofs.Ytopgcfgomappjaa.fnExactFieldOf
