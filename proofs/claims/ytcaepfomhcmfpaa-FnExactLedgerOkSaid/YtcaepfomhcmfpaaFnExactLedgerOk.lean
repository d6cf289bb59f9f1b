/- Proved: at every ledger (of at most 1048576 lines; a longer one passes by the law's own first test) the program's LedgerOk answers as the specification's, and leaves its argument as it was. No other conditions. -/
import Derived.Test.YtcaepfomhcmfpaaBase
import Derived.Test.YtcaepfomhcmfpaaLnLaw2
import Derived.Test.YtcaepfomhcmfpaaSLed2
import Derived.Test.YtcaepfomhcmfpaaFLed3
namespace Go.Proofs.Ytcaepfomhcmfpaa.fnExactLedgerOk
open Go.ChangeShapes Go.WideShapes Go.ChangeAt Go.RowKit
set_option maxRecDepth 100000

theorem box1 {w u : World} {x : Value} {t : TypeId} (b : Below (w.alloc (.cells #[x] t)).heap.size (w.alloc (.cells #[x] t)) u) :
    u.cell? ⟨w.heap.size, 0, none⟩ = some x ∧ Below w.heap.size w u ∧ w.heap.size < u.heap.size :=
  ⟨(b.cell (p := ⟨w.heap.size, 0, none⟩) (by simp)).trans (by simp), ((Below.refl _ _).alloc (Nat.le_refl _) _).trans (b.mono (by simp)), by have := b.size; simp at this; omega⟩
theorem keep1 {w u : World} {b : Nat} {x : Value} (h0 : w.cell? ⟨b, 0, none⟩ = some x) (k : Below w.heap.size w u) : u.cell? ⟨b, 0, none⟩ = some x :=
  have hb : b < w.heap.size := World.block_lt_of_cell? w _ h0
  (k.cell (p := ⟨b, 0, none⟩) hb).trans h0

set_option maxHeartbeats 1600000 in
theorem walk (b0 : Option Addr) (cap0 : Nat) (ls : List Ln) (w : World) (w0 : LinesAt w b0 ls ∧ LinesBd ls) :
    Calls Try.prog 4 #[.agg #[.slice b0 ls.length cap0]] w fun e w' => e = .returned (.bool true) ∧ Below w.heap.size w w' := by
  obtain ⟨hz, hd⟩ := w0
  have bel1 : Below w.heap.size w (w.alloc (.cells #[.slice b0 ls.length cap0] 42)) := (Below.refl _ _).alloc (Nat.le_refl _) _
  have hm : ls.length ≤ 9223372036854775807 := by have := hd.1; unfold maxLen at this; omega
  have HD : Hid (LinesBd ls) := hd
  clear hd
  by_cases hbig : (1048576 : Int) - (ls.length : Int) < 0
  · have HL : Hid (leftL ls.length 1048576 = -1) := if_pos hbig
    go_enter Try.func4, Try.ntmps4
    go_wp2_with fail
    refine (szLedger_any _ _ _ _ _ (by omega) (by omega) hm).mono ?_
    rintro e u1 ⟨rfl, b1⟩
    rw [HL.out]
    have q1 := next bel1 b1
    clear b1 bel1 hz
    go_wp2
    go_ret
    exact ⟨rfl, q1⟩
  · have HL : Hid (leftL ls.length 1048576 = 1048576 - (ls.length : Int)) := if_neg hbig
    have hn : ls.length ≤ 1048576 := by omega
    go_enter Try.func4, Try.ntmps4
    go_wp2_with fail
    refine (szLedger_any _ _ _ _ _ (by omega) (by omega) hm).mono ?_
    rintro e u1 ⟨rfl, b1⟩
    rw [HL.out]
    obtain ⟨c1, q1, _⟩ := box1 b1
    have z1 := hz.below q1
    clear b1 bel1
    go_wp2_with fail
    refine (toLedger_any _ _ _ _ z1 hn).mono ?_
    rintro e u2 ⟨g2, rfl, o2, b2⟩
    have c2 := keep1 c1 b2
    have q2 := next q1 b2
    have f2 := lines_any o2
    clear b2 o2 c1 z1
    go_wp2_with fail
    refine (sLedgerOk_any _ _ _ _ f2 (by omega)).mono ?_
    rintro e u3 ⟨rfl, b3⟩
    have c3 := keep1 c2 b3
    have q3 := next q2 b3
    have z3 := hz.below q3
    clear b3 c2 f2 q2 q1
    go_wp2_with fail
    refine (toLedger_any _ _ _ _ z3 hn).mono ?_
    rintro e u4 ⟨g4, rfl, o4, b4⟩
    have c4 := keep1 c3 b4
    have q4 := next q3 b4
    have f4 := lines_any o4
    clear b4 o4 c3 z3 q3
    have bx : Below u4.heap.size u4 (u4.alloc (.cells #[.slice (some ⟨g4, 0, none⟩) ls.length ls.length] 26)) := (Below.refl _ _).alloc (Nat.le_refl _) _
    go_wp2_with fail
    refine (iLedgerOk_any _ _ _ _ (f4.below bx) (by omega) HD.out.2).mono ?_
    rintro e u5 ⟨rfl, b5⟩
    obtain ⟨x5, q5', _⟩ := box1 b5
    have c5 := keep1 c4 q5'
    have q5 := next q4 q5'
    have f5 := f4.below q5'
    have z5 := hz.below q5
    generalize ledgerOk ls = V
    clear b5 q5' c4 q4 f4 bx
    have HC5 : Hid _ := c5
    have HX5 : Hid _ := x5
    have hnq : (V != V) = false := by simp
    go_wp2
    go_region_with (first
      | (go_at_call 24; refine (toLedger_any _ _ _ _ (z5.below ((Below.refl _ _).drew)) hn).mono ?_; rintro e u6 ⟨g6, rfl, o6, b6⟩; have b7 : Below u5.heap.size u5 u6 := ((Below.refl _ _).drew).trans b6; have j0 := keep1 HX5.out b7)
      | (go_at_call 25; refine (eqLedger_same _ _ _ _ _ _ (f5.below b7) (lines_any o6) (by omega)).mono ?_; rintro e u8 ⟨rfl, b8⟩))
    all_goals
      go_wp2
      go_ret
      exact ⟨rfl, next (next q5 b7) b8⟩

set_option maxRecDepth 100000 in
theorem lifted (os : Os) (started : os.Started) (H : Type) (enc : TypeId × Value → H) :
    ReturnsInHanded {} Try.checked os 4 .any (Rows.fnExactLedgerOkSpec.pre6 enc Try.prog Try.f4 Rows.fnExactLedgerOkRow.domain false) (Rows.fnExactLedgerOkSpec.post enc Try.prog Try.f4 false true false false) := by
  refine returnsInHanded_of_change (C := Try.checked) own started (by kernel_rfl) Try.func4
    (ChangeSpec.witness6 (enc := enc) (C := Try.checked) false ⟨#[], #[.agg #[.slice none 0 0]], []⟩ 8 (by kernel_rfl) (by kernel_rfl) (by kernel_rfl) (by kernel_rfl)) ?_
  intro W base args ds gs before hval0 hW hcnd _
  have hval : ∀ (j : Nat) t v, Try.f4.params[j]? = some t → args[j]? = some v → Value.okWide Try.prog W .any base t v := hval0
  have hW' := hW
  obtain ⟨p, q, hA0, hV, rfl, hfz, hnd⟩ := hW
  have hA : DataW.TrodAll enc Try.prog W 0 (fun _ => true) true Try.f4.params.toList args.toList ds p := hA0
  rw [Try.params4] at hA hval
  obtain ⟨v0, vs0, d0, ds0, p0, q0, hargs, rfl, rfl, h0, r0⟩ := trodAll_cons hA
  obtain ⟨rfl, rfl, rfl⟩ := trodAll_nil r0
  obtain rfl : args = #[v0] := by cases args; simp_all
  obtain ⟨rfl, rfl⟩ := trodVars_none hV
  have k0 := h0
  have lt0 : ∀ x ∈ p0, x.block < W.heap.size := by obtain ⟨m, hm⟩ := k0; exact DataW.trod_lt m _ _ _ hm
  obtain ⟨b0, cap0, ls0, rfl, w0⟩ := is_ledger Try.underlying42 (by kernel_rfl) rfl (by kernel_rfl) Try.underlying40 Try.underlying101 (by kernel_rfl) rfl rfl rfl (by kernel_rfl) (by kernel_rfl) (by kernel_rfl) Try.underlying3 Try.underlying3 Try.underlying3 (hval 0 42 v0 rfl rfl) h0
  clear hA0 hval0
  refine (walk b0 cap0 ls0 W w0).mono fun e W' ⟨he, bel⟩ => ?_
  subst he
  exact ⟨_, rfl, _, _, _, [], _, [], hW', trodAll_mk1 (shut_bool Try.underlying4 _), (trodAll_cons_mk (Below.trod laidOut (by kernel_rfl) (of_decide_eq_true (by kernel_rfl)) k0 bel lt0) trodAll_mk0), rfl, bel.frame _, fun h => by cases h⟩

theorem proved : Rows.FnExactLedgerOkSaid :=
  OpenClaim.holds_of_wide 4 Try.f4 rfl rfl rfl rfl rfl rfl rfl ⟨rfl, rfl, rfl, rfl, rfl⟩ rfl rfl rfl rfl rfl (by kernel_rfl) Try.func4 (by kernel_rfl)
    (of_decide_eq_true (by kernel_rfl)) (by unfold Func.isWrapper; first | (rw [if_pos (by decide +kernel)]; kernel_rfl) | (rw [if_neg (by decide +kernel)]; exact ⟨rfl, rfl⟩))
    (fun os started H enc _ => lifted os started H enc)
end Go.Proofs.Ytcaepfomhcmfpaa.fnExactLedgerOk
