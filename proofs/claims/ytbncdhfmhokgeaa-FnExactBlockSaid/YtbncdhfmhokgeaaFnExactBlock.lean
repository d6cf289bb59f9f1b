/- Proved: at every list of texts (of at most 1048576 texts and bytes together; a greater one passes by the law's own first test) the program's Block answers as the specification's, both results, and leaves its argument as it was. No other conditions. -/
import Derived.Test.YtbncdhfmhokgeaaBase
import Derived.Test.YtbncdhfmhokgeaaFBlock
import Derived.Test.YtbncdhfmhokgeaaSBlock
import Derived.Test.YtbncdhfmhokgeaaStrLaw
namespace Go.Proofs.Ytbncdhfmhokgeaa.fnExactBlock
open Go.ChangeShapes Go.WideShapes Go.ChangeAt Go.RowKit

theorem all_le {rs : Recs} (h : sumT rs ≤ 1048576) : ∀ r ∈ rs, r.length ≤ 1099511627776 := fun r hr => by have := sumT_mem hr; omega

set_option maxRecDepth 100000 in
set_option maxHeartbeats 1600000 in
theorem walk (b0 : Option Addr) (cap0 : Nat) (rs : Recs) (w : World) (w0 : TxtsAt w b0 rs ∧ TxtsBd rs) :
    Calls Try.prog 4 #[.slice b0 rs.length cap0] w fun e w' => e = .returned (.bool true) ∧ Below w.heap.size w w' := by
  obtain ⟨hz, hd⟩ := w0
  by_cases hneg : leftT rs 1048576 < 0
  · go_enter Try.func4, Try.ntmps4
    go_wp2_with fail
    refine (szStringS_any _ _ _ _ hz hd).mono ?_
    rintro e u1 ⟨rfl, b1⟩
    clear hz hd
    generalize leftT rs 1048576 = r at hneg
    go_wp2
    go_ret
    exact ⟨rfl, b1⟩
  · have hsum := leftT_sum (show 0 ≤ leftT rs 1048576 by omega)
    have hn : rs.length ≤ 1048576 := by omega
    have HS := all_le (rs := rs) (by omega)
    clear hsum
    go_enter Try.func4, Try.ntmps4
    go_wp2_with fail
    refine (szStringS_any _ _ _ _ hz hd).mono ?_
    rintro e u1 ⟨rfl, b1⟩
    have z1 := hz.below b1
    clear hd
    obtain ⟨r, hr⟩ : ∃ r, leftT rs 1048576 = r := ⟨_, rfl⟩
    rw [hr] at hneg ⊢
    clear hr
    go_wp2_with fail
    refine (toStringS_any _ _ _ _ z1 hn).mono ?_
    rintro e u2 ⟨rfl, o2, b2⟩
    have q2 := next b1 b2
    go_wp2_with fail
    refine (sBlock_any _ _ _ _ (txts_any o2) (by omega) HS).mono ?_
    rintro e u3 ⟨rfl, b3⟩
    have q3 := next q2 b3
    have z3 := hz.below q3
    clear z1 b1 b2 b3 q2 o2
    go_wp2_with fail
    refine (toStringS_any _ _ _ _ z3 hn).mono ?_
    rintro e u4 ⟨rfl, o4, b4⟩
    have q4 := next q3 b4
    have f4 := txts_any o4
    clear b4 z3 q3 o4
    go_wp2_with fail
    refine (iBlock_any _ _ _ _ f4 (by omega) HS).mono ?_
    rintro e u5 ⟨rfl, b5⟩
    have q5 := next q4 b5
    have f5 := f4.below b5
    have z5 := hz.below q5
    generalize blockL rs = ol
    generalize blockOk rs = ok
    have hll : (ol == ol) = true := by simp
    clear b5 f4 q4
    go_wp2_with fail
    refine (toStringS_any _ _ _ _ z5 hn).mono ?_
    rintro e u6 ⟨rfl, o6, b6⟩
    have q6 := next q5 b6
    have f6 := f5.below b6
    go_wp2_with fail
    refine (eqStringS_any _ _ _ _ _ _ _ f6 (txts_any o6) (by omega) (by omega)).mono ?_
    rintro e u7 ⟨rfl, b7⟩
    have q7 := next q6 b7
    clear b7 b6 o6 f6 q6 q5 f5 z5
    rw [decide_eq_true (rfl : rs = rs)]
    go_wp2
    go_ret
    exact ⟨rfl, q7⟩

set_option maxRecDepth 100000 in
theorem lifted (os : Os) (started : os.Started) (H : Type) (enc : TypeId × Value → H) :
    ReturnsInHanded {} Try.checked os 4 .any (Rows.fnExactBlockSpec.pre6 enc Try.prog Try.f4 Rows.fnExactBlockRow.domain false) (Rows.fnExactBlockSpec.post enc Try.prog Try.f4 false true false false) := by
  refine returnsInHanded_of_change (C := Try.checked) own started (by kernel_rfl) Try.func4
    (ChangeSpec.witness6 (enc := enc) (C := Try.checked) false ⟨#[], #[.slice none 0 0], []⟩ 8 (by kernel_rfl) (by kernel_rfl) (by kernel_rfl) (by kernel_rfl)) ?_
  intro W base args ds gs before hval0 hW hcnd _
  have hval : ∀ (j : Nat) t v, Try.f4.params[j]? = some t → args[j]? = some v → Value.okWide Try.prog W .any base t v := hval0
  have hW' := hW
  obtain ⟨p, q, hA0, hV, rfl, hfz, hnd⟩ := hW
  have hA : DataW.TrodAll enc Try.prog W 0 (fun _ => true) true Try.f4.params.toList args.toList ds p := hA0
  rw [Try.params4] at hA hval
  obtain ⟨v0, vs0, d0, ds0, p0, q0, hargs, rfl, rfl, h0, r0⟩ := trodAll_cons hA
  obtain ⟨rfl, rfl, rfl⟩ := trodAll_nil r0
  obtain rfl : args = #[v0] := by cases args; simp_all
  obtain ⟨rfl, rfl⟩ := trodVars_none hV
  have k0 := h0
  have lt0 : ∀ x ∈ p0, x.block < W.heap.size := by obtain ⟨m, hm⟩ := k0; exact DataW.trod_lt m _ _ _ hm
  obtain ⟨b0, cap0, rs0, rfl, w0⟩ := is_txts Try.underlying24 Try.underlying9 (by kernel_rfl) (hval 0 24 v0 rfl rfl) h0
  clear hA0 hval0
  refine (walk b0 cap0 rs0 W w0).mono fun e W' ⟨he, bel⟩ => ?_
  subst he
  exact ⟨_, rfl, _, _, _, [], _, [], hW', trodAll_mk1 (shut_bool Try.underlying4 _), (trodAll_cons_mk (Below.trod laidOut (by kernel_rfl) (of_decide_eq_true (by kernel_rfl)) k0 bel lt0) trodAll_mk0), rfl, bel.frame _, fun h => by cases h⟩

theorem proved : Rows.FnExactBlockSaid :=
  OpenClaim.holds_of_wide 4 Try.f4 rfl rfl rfl rfl rfl rfl rfl ⟨rfl, rfl, rfl, rfl, rfl⟩ rfl rfl rfl rfl rfl (by kernel_rfl) Try.func4 (by kernel_rfl)
    (of_decide_eq_true (by kernel_rfl)) (by unfold Func.isWrapper; first | (rw [if_pos (by decide +kernel)]; kernel_rfl) | (rw [if_neg (by decide +kernel)]; exact ⟨rfl, rfl⟩))
    (fun os started H enc _ => lifted os started H enc)
end Go.Proofs.Ytbncdhfmhokgeaa.fnExactBlock
