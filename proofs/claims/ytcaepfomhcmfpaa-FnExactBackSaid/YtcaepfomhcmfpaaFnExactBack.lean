/- Proved: at every entry the program's Back answers as the specification's, field by field. No conditions. -/
import Derived.Test.YtcaepfomhcmfpaaBase
import Derived.Test.YtcaepfomhcmfpaaLnLaw2
import Derived.Test.YtcaepfomhcmfpaaSLed
import Derived.Test.YtcaepfomhcmfpaaFLed
namespace Go.Proofs.Ytcaepfomhcmfpaa.fnExactBack
open Go.ChangeShapes Go.WideShapes Go.ChangeAt Go.RowKit
set_option maxRecDepth 100000

structure Box4 (s : Nat) (a b c m : Int) (u : World) : Prop where
  e0 : u.cell? ⟨s, 0, none⟩ = some (.int .i64 a)
  e1 : u.cell? ⟨s, 1, none⟩ = some (.int .i64 b)
  e2 : u.cell? ⟨s, 2, none⟩ = some (.int .i64 c)
  e3 : u.cell? ⟨s, 3, none⟩ = some (.int .i64 m)
theorem Box4.below {s : Nat} {a b c m : Int} {u u' : World} (h : Box4 s a b c m u) (hb : Below u.heap.size u u') : Box4 s a b c m u' := by
  have h1 : s < u.heap.size := World.block_lt_of_cell? u _ h.e0
  exact ⟨(hb.cell (p := ⟨s, 0, none⟩) h1).trans h.e0, (hb.cell (p := ⟨s, 1, none⟩) h1).trans h.e1, (hb.cell (p := ⟨s, 2, none⟩) h1).trans h.e2, (hb.cell (p := ⟨s, 3, none⟩) h1).trans h.e3⟩
theorem box4 (w : World) (a b c m : Int) (t : TypeId) : Box4 w.heap.size a b c m (w.alloc (.cells #[.int .i64 a, .int .i64 b, .int .i64 c, .int .i64 m] t)) := ⟨by simp, by simp, by simp, by simp⟩

set_option maxHeartbeats 1600000 in
theorem walk (a b c m : Int) (w : World) (_w0 : enBd (a, b, c, m)) :
    Calls Try.prog 9 #[.agg #[.int .i64 a, .int .i64 b, .int .i64 c, .int .i64 m]] w fun e w' => e = .returned (.bool true) ∧ Below w.heap.size w w' := by
  clear _w0
  have bel1 : Below w.heap.size w (w.alloc (.cells #[.int .i64 a, .int .i64 b, .int .i64 c, .int .i64 m] 46)) := (Below.refl _ _).alloc (Nat.le_refl _) _
  have B1 := box4 w a b c m 46
  go_enter Try.func9, Try.ntmps9
  go_wp2_with fail
  refine (toEntry_any _ _ _ _ _).mono ?_
  rintro e u1 ⟨rfl, b1⟩
  have B2 := B1.below b1
  have q1 := next bel1 b1
  clear b1 B1 bel1
  go_wp2_with fail
  refine (sBack_any _ _ _ _ _).mono ?_
  rintro e u2 ⟨rfl, b2⟩
  have B3 := B2.below b2
  have q2 := next q1 b2
  have bx : Below u2.heap.size u2 (u2.alloc (.cells #[.int .i64 b, .int .i64 a, .int .i64 c, .int .i64 m] 28)) := (Below.refl _ _).alloc (Nat.le_refl _) _
  have X3 := box4 u2 b a c m 28
  have B4 := B3.below bx
  have q3 := next q2 bx
  obtain ⟨k0, k1, k2, k3⟩ := B4
  clear b2 B2 B3 q1 q2 bx
  go_wp2_with fail
  refine (toEntry_any _ _ _ _ _).mono ?_
  rintro e u3 ⟨rfl, b3⟩
  have q4 := next q3 b3
  have X4 := X3.below b3
  clear b3 q3 k0 k1 k2 k3 X3
  go_wp2_with fail
  refine (iBack_any _ _ _ _ _).mono ?_
  rintro e u4 ⟨rfl, b4⟩
  have q5 := next q4 b4
  have X5 := X4.below b4
  have bx : Below u4.heap.size u4 (u4.alloc (.cells #[.int .i64 b, .int .i64 a, .int .i64 c, .int .i64 m] 28)) := (Below.refl _ _).alloc (Nat.le_refl _) _
  obtain ⟨k0, k1, k2, k3⟩ := X5.below bx
  have q6 := next q5 bx
  clear b4 q4 q5 X4 X5 bx
  go_wp2_with fail
  refine (eqEntry_same _ _ _ _ _).mono ?_
  rintro e u5 ⟨rfl, b5⟩
  have q7 := next q6 b5
  clear b5 q6
  go_wp2
  go_ret
  exact ⟨rfl, q7⟩

set_option maxRecDepth 100000 in
theorem lifted (os : Os) (started : os.Started) (H : Type) (enc : TypeId × Value → H) :
    ReturnsInHanded {} Try.checked os 9 .any (Rows.fnExactBackSpec.pre6 enc Try.prog Try.f9 Rows.fnExactBackRow.domain false) (Rows.fnExactBackSpec.post enc Try.prog Try.f9 false true false false) := by
  refine returnsInHanded_of_change (C := Try.checked) own started (by kernel_rfl) Try.func9
    (ChangeSpec.witness6 (enc := enc) (C := Try.checked) false ⟨#[], #[.agg #[.int .i64 0, .int .i64 0, .int .i64 0, .int .i64 0]], []⟩ 8 (by kernel_rfl) (by kernel_rfl) (by kernel_rfl) (by kernel_rfl)) ?_
  intro W base args ds gs before hval0 hW hcnd _
  have hval : ∀ (j : Nat) t v, Try.f9.params[j]? = some t → args[j]? = some v → Value.okWide Try.prog W .any base t v := hval0
  have hW' := hW
  obtain ⟨p, q, hA0, hV, rfl, hfz, hnd⟩ := hW
  have hA : DataW.TrodAll enc Try.prog W 0 (fun _ => true) true Try.f9.params.toList args.toList ds p := hA0
  rw [Try.params9] at hA hval
  obtain ⟨v0, vs0, d0, ds0, p0, q0, hargs, rfl, rfl, h0, r0⟩ := trodAll_cons hA
  obtain ⟨rfl, rfl, rfl⟩ := trodAll_nil r0
  obtain rfl : args = #[v0] := by cases args; simp_all
  obtain ⟨rfl, rfl⟩ := trodVars_none hV
  have k0 := h0
  have lt0 : ∀ x ∈ p0, x.block < W.heap.size := by obtain ⟨m, hm⟩ := k0; exact DataW.trod_lt m _ _ _ hm
  obtain ⟨a0, b0, c0, m0, rfl, w0⟩ := is_entry Try.underlying46 (by kernel_rfl) rfl rfl rfl rfl (by kernel_rfl) (by kernel_rfl) (by kernel_rfl) (by kernel_rfl) Try.underlying3 Try.underlying3 Try.underlying3 Try.underlying3 (hval 0 46 v0 rfl rfl) h0
  clear hA0 hval0
  refine (walk a0 b0 c0 m0 W w0).mono fun e W' ⟨he, bel⟩ => ?_
  subst he
  exact ⟨_, rfl, _, _, _, [], _, [], hW', trodAll_mk1 (shut_bool Try.underlying4 _), (trodAll_cons_mk (Below.trod laidOut (by kernel_rfl) (of_decide_eq_true (by kernel_rfl)) k0 bel lt0) trodAll_mk0), rfl, bel.frame _, fun h => by cases h⟩

theorem proved : Rows.FnExactBackSaid :=
  OpenClaim.holds_of_wide 9 Try.f9 rfl rfl rfl rfl rfl rfl rfl ⟨rfl, rfl, rfl, rfl, rfl⟩ rfl rfl rfl rfl rfl (by kernel_rfl) Try.func9 (by kernel_rfl)
    (of_decide_eq_true (by kernel_rfl)) (by unfold Func.isWrapper; first | (rw [if_pos (by decide +kernel)]; kernel_rfl) | (rw [if_neg (by decide +kernel)]; exact ⟨rfl, rfl⟩))
    (fun os started H enc _ => lifted os started H enc)
end Go.Proofs.Ytcaepfomhcmfpaa.fnExactBack
