/- Proved: at every field (its data up to 1048576 bytes; longer data passes by the law's own first test) the program's FieldOk answers as the specification's. No other conditions. -/
import Derived.Test.YtopgcfgomappjaaBase
import Derived.Test.YtopgcfgomappjaaSFieldOk
import Derived.Test.YtopgcfgomappjaaFldLaw
import Derived.Test.YtopgcfgomappjaaFlds
import Derived.Test.YtopgcfgomappjaaBox
namespace Go.Proofs.Ytopgcfgomappjaa.fnExactFieldOk
open Go.ChangeShapes Go.WideShapes Go.ChangeAt Go.RowKit
open Go.ChangeMaps (open_string shut_string)

set_option maxHeartbeats 800000 in
theorem walk (a0 : Int) (b0 : ByteArray) (w : World) (w0 : b0.size ≤ maxLen) :
    Calls Try.prog 3 #[.agg #[.int .i64 a0, .string b0]] w fun e w' => e = .returned (.bool true) ∧ Below w.heap.size w w' := by
  obtain ⟨l, rfl⟩ : ∃ l : List UInt8, b0 = ⟨l.toArray⟩ := ⟨_, ba_list b0⟩
  have hm : l.length ≤ 9223372036854775807 := by rw [ba_size] at w0; unfold maxLen at w0; omega
  clear w0
  by_cases hbig : (1048576 : Int) - (l.length : Int) < 0
  · have HZ : Hid (leftF l 1048576 = -1) := if_pos (by omega)
    go_enter Try.func3, Try.ntmps3
    go_wp2_with fail
    refine (szField_any _ _ _ _ (by omega) hm).mono ?_
    rintro e u1 ⟨rfl, b1⟩
    rw [HZ.out]
    go_wp2
    go_ret
    exact ⟨rfl, ((Below.refl _ _).alloc (Nat.le_refl _) _).trans (b1.mono (by simp))⟩
  · have HZ : Hid (leftF l 1048576 = 1048576 - (l.length : Int)) := if_neg hbig
    have hl : l.length ≤ 1099511627776 := by omega
    go_enter Try.func3, Try.ntmps3
    go_wp2_with fail
    refine (szField_any _ _ _ _ (by omega) hm).mono ?_
    rintro e u1 ⟨rfl, b1⟩
    rw [HZ.out]
    obtain ⟨c0, c1, q1, _⟩ := box2 b1
    go_wp2_with fail
    refine (toField_any _ _ _).mono ?_
    rintro e u2 ⟨rfl, b2⟩
    obtain ⟨d0, d1⟩ := keep2 c0 c1 b2
    go_wp2_with fail
    refine (sFieldOk_any _ _ _ hl).mono ?_
    rintro e u3 ⟨rfl, b3⟩
    obtain ⟨e0, e1⟩ := keep2 d0 d1 b3
    go_wp2_with fail
    refine (toField_any _ _ _).mono ?_
    rintro e u4 ⟨rfl, b4⟩
    go_wp2_with fail
    refine (iFieldOk_any _ _ _ hl).mono ?_
    rintro e u5 ⟨rfl, b5⟩
    go_wp2
    go_ret
    exact ⟨rfl, next (next (next (next q1 b2) b3) b4) b5⟩

set_option maxRecDepth 100000 in
theorem lifted (os : Os) (started : os.Started) (H : Type) (enc : TypeId × Value → H) :
    ReturnsInHanded {} Try.checked os 3 .any (Rows.fnExactFieldOkSpec.pre6 enc Try.prog Try.f3 Rows.fnExactFieldOkRow.domain false) (Rows.fnExactFieldOkSpec.post enc Try.prog Try.f3 false true false false) := by
  refine returnsInHanded_of_change (C := Try.checked) own started (by kernel_rfl) Try.func3
    (ChangeSpec.witness6 (enc := enc) (C := Try.checked) false ⟨#[], #[.agg #[.int .i64 0, .string ByteArray.empty]], []⟩ 8 (by kernel_rfl) (by kernel_rfl) (by kernel_rfl) (by kernel_rfl)) ?_
  intro W base args ds gs before hval0 hW hcnd _
  have hval : ∀ (j : Nat) t v, Try.f3.params[j]? = some t → args[j]? = some v → Value.okWide Try.prog W .any base t v := hval0
  have hW' := hW
  obtain ⟨p, q, hA0, hV, rfl, hfz, hnd⟩ := hW
  have hA : DataW.TrodAll enc Try.prog W 0 (fun _ => true) true Try.f3.params.toList args.toList ds p := hA0
  rw [Try.params3] at hA hval
  obtain ⟨v0, vs0, d0, ds0, p0, q0, hargs, rfl, rfl, h0, r0⟩ := trodAll_cons hA
  obtain ⟨rfl, rfl, rfl⟩ := trodAll_nil r0
  obtain rfl : args = #[v0] := by cases args; simp_all
  obtain ⟨rfl, rfl⟩ := trodVars_none hV
  have k0 := h0
  have lt0 : ∀ x ∈ p0, x.block < W.heap.size := by obtain ⟨m, hm⟩ := k0; exact DataW.trod_lt m _ _ _ hm
  obtain ⟨a0, b0, rfl, w0⟩ := is_field Try.underlying23 (by kernel_rfl) rfl rfl (by kernel_rfl) (by kernel_rfl) Try.underlying3 Try.underlying9 (hval 0 23 v0 rfl rfl) h0
  clear hA0 hval0
  refine (walk a0 b0 W w0).mono fun e W' ⟨he, bel⟩ => ?_
  subst he
  exact ⟨_, rfl, _, _, _, [], _, [], hW', trodAll_mk1 (shut_bool Try.underlying4 _), (trodAll_cons_mk (Below.trod laidOut (by kernel_rfl) (of_decide_eq_true (by kernel_rfl)) k0 bel lt0) trodAll_mk0), rfl, bel.frame _, fun h => by cases h⟩

theorem proved : Rows.FnExactFieldOkSaid :=
  OpenClaim.holds_of_wide 3 Try.f3 rfl rfl rfl rfl rfl rfl rfl ⟨rfl, rfl, rfl, rfl, rfl⟩ rfl rfl rfl rfl rfl (by kernel_rfl) Try.func3 (by kernel_rfl)
    (of_decide_eq_true (by kernel_rfl)) (by unfold Func.isWrapper; first | (rw [if_pos (by decide +kernel)]; kernel_rfl) | (rw [if_neg (by decide +kernel)]; exact ⟨rfl, rfl⟩))
    (fun os started H enc _ => lifted os started H enc)
end Go.Proofs.Ytopgcfgomappjaa.fnExactFieldOk
