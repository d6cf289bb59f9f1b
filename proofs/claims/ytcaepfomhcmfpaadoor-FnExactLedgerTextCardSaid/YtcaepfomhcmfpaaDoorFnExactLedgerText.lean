/- Proved: at every ledger (of at most 1048576 lines; a longer one passes by the law's own first test) the program's LedgerText answers as the specification's, byte for byte, and leaves its argument as it was. What it takes: the listed tables of Go's library hold what the library's text lays (the card ties that to the program). -/
import Derived.Test.YtcaepfomhcmfpaaDoorCards
import Derived.Test.YtcaepfomhcmfpaaDoorTie
import Derived.Test.YtcaepfomhcmfpaaDoorBase
import Derived.Test.YtcaepfomhcmfpaaDoorLnLaw2
import Derived.Test.YtcaepfomhcmfpaaDoorLTxt3
import Derived.LaidMore
import Derived.Deep.DeepHandedRow
import Derived.JoinedCond
import Derived.Lay
import Derived.SevenTiedAt
import Derived.Stop.Joined
import Derived.Stop.LaidErr
import Derived.Lib.LaidTab
namespace Go.Proofs.YtcaepfomhcmfpaaDoor.fnExactLedgerText
open Go.ChangeShapes Go.WideShapes Go.ChangeAt Go.RowKit
set_option maxRecDepth 100000

theorem tabEq : (Rows.laid_internal_strconv_uint64pow10 : DataW Unit) = Lib.tabData .u64 Lib.pow10Tab := by kernel_rfl
theorem pow10 {w : World} (h : laidMet Tryd.prog Rows.fnExactLedgerTextRow.laid w) : Pow10 w := by
  have h1 : laidMet Tryd.prog (("internal/strconv.uint64pow10", Rows.laid_internal_strconv_uint64pow10) :: []) w := h.tail.tail
  rw [tabEq] at h1
  exact Lib.tabIs_of_head (g := 1) (t := 90) (by kernel_rfl) (by kernel_rfl) Tryd.underlying90 Tryd.underlying79 (by kernel_rfl) (by kernel_rfl) h1

theorem box1 {w u : World} {x : Value} {t : TypeId} (b : Below (w.alloc (.cells #[x] t)).heap.size (w.alloc (.cells #[x] t)) u) :
    u.cell? ⟨w.heap.size, 0, none⟩ = some x ∧ Below w.heap.size w u ∧ w.heap.size < u.heap.size :=
  ⟨(b.cell (p := ⟨w.heap.size, 0, none⟩) (by simp)).trans (by simp), ((Below.refl _ _).alloc (Nat.le_refl _) _).trans (b.mono (by simp)), by have := b.size; simp at this; omega⟩
theorem keep1 {w u : World} {b : Nat} {x : Value} (h0 : w.cell? ⟨b, 0, none⟩ = some x) (k : Below w.heap.size w u) : u.cell? ⟨b, 0, none⟩ = some x :=
  have hb : b < w.heap.size := World.block_lt_of_cell? w _ h0
  (k.cell (p := ⟨b, 0, none⟩) hb).trans h0

set_option maxHeartbeats 1600000 in
theorem walk (b0 : Option Addr) (cap0 : Nat) (ls : List Ln) (w : World) (w0 : LinesAt w b0 ls ∧ LinesBd ls) (hL : laidMet Tryd.prog Rows.fnExactLedgerTextRow.laid w) (_hsh : w.ShapedOpen Tryd.prog) :
    Calls Tryd.prog 3 #[.agg #[.slice b0 ls.length cap0]] w fun e w' => e = .returned (.bool true) ∧ Below w.heap.size w w' := by
  obtain ⟨hz, hd⟩ := w0
  have HP : Hid (Pow10 w) := pow10 hL
  clear hL
  have bel1 : Below w.heap.size w (w.alloc (.cells #[.slice b0 ls.length cap0] 24)) := (Below.refl _ _).alloc (Nat.le_refl _) _
  have hm : ls.length ≤ 9223372036854775807 := by have := hd.1; unfold maxLen at this; omega
  have HD : Hid (LinesBd ls) := hd
  clear hd
  by_cases hbig : (1048576 : Int) - (ls.length : Int) < 0
  · have HL : Hid (leftL ls.length 1048576 = -1) := if_pos hbig
    go_enter Tryd.func3, Tryd.ntmps3
    go_wp2_with fail
    refine (szLedger_any _ _ _ _ _ (by omega) (by omega) hm).mono ?_
    rintro e u1 ⟨rfl, b1⟩
    rw [HL.out]
    have q1 := next bel1 b1
    clear b1 bel1 hz
    go_wp2
    go_ret
    exact ⟨rfl, q1⟩
  · have HL : Hid (leftL ls.length 1048576 = 1048576 - (ls.length : Int)) := if_neg hbig
    have hn : ls.length ≤ 1048576 := by omega
    go_enter Tryd.func3, Tryd.ntmps3
    go_wp2_with fail
    refine (szLedger_any _ _ _ _ _ (by omega) (by omega) hm).mono ?_
    rintro e u1 ⟨rfl, b1⟩
    rw [HL.out]
    obtain ⟨c1, q1, _⟩ := box1 b1
    have z1 := hz.below q1
    clear b1 bel1
    go_wp2_with fail
    refine (toLedger_any _ _ _ _ z1 hn).mono ?_
    rintro e u2 ⟨g2, rfl, o2, b2⟩
    have c2 := keep1 c1 b2
    have q2 := next q1 b2
    have f2 := lines_any o2
    clear b2 o2 c1 z1
    go_wp2_with fail
    refine (sLedgerText_any _ _ _ _ f2 (by omega)).mono ?_
    rintro e u3 ⟨rfl, b3⟩
    have c3 := keep1 c2 b3
    have q3 := next q2 b3
    have z3 := hz.below q3
    clear b3 c2 f2 q2 q1
    go_wp2_with fail
    refine (toLedger_any _ _ _ _ z3 hn).mono ?_
    rintro e u4 ⟨g4, rfl, o4, b4⟩
    have c4 := keep1 c3 b4
    have q4 := next q3 b4
    have f4 := lines_any o4
    clear b4 o4 c3 z3 q3
    have bx : Below u4.heap.size u4 (u4.alloc (.cells #[.slice (some ⟨g4, 0, none⟩) ls.length ls.length] 29)) := (Below.refl _ _).alloc (Nat.le_refl _) _
    go_wp2_with fail
    refine (iLedgerText_any _ _ _ _ (f4.below bx) (by omega) HD.out.2 (HP.out.below (next q4 bx))).mono ?_
    rintro e u5 ⟨rfl, b5⟩
    obtain ⟨x5, q5', _⟩ := box1 b5
    have c5 := keep1 c4 q5'
    have q5 := next q4 q5'
    have f5 := f4.below q5'
    have z5 := hz.below q5
    generalize ledT ls = V
    clear b5 q5' c4 q4 f4 bx
    have HC5 : Hid _ := c5
    have HX5 : Hid _ := x5
    go_wp2
    go_region_with (first
      | (go_at_call 6; refine (toLedger_any _ _ _ _ (z5.below ((Below.refl _ _).drew)) hn).mono ?_; rintro e u6 ⟨g6, rfl, o6, b6⟩; have b7 : Below u5.heap.size u5 u6 := ((Below.refl _ _).drew).trans b6; have j0 := keep1 HX5.out b7)
      | (go_at_call 8; refine (eqLedger_same _ _ _ _ _ _ (f5.below b7) (lines_any o6) (by omega)).mono ?_; rintro e u8 ⟨rfl, b8⟩))
    all_goals
      go_wp2
      go_ret
      exact ⟨rfl, next (next q5 b7) b8⟩

set_option maxRecDepth 100000 in
theorem lifted (os : Os) (started : os.Started) (H : Type) (enc : TypeId × Value → H) (F : Stop.Interp) :
    ReturnsInHanded {} Tryd.checked os 3 .any ((OpenSpec.ofChange Rows.fnExactLedgerTextSpec).preRow enc Tryd.prog Tryd.f3 Rows.fnExactLedgerTextRow.domain false Rows.fnExactLedgerTextRow.laid)
      (((OpenSpec.ofChange Rows.fnExactLedgerTextSpec).at F).post enc Tryd.prog Tryd.f3 false true false false) := by
  refine returnsInHanded_of_row (C := Tryd.checked) (s := OpenSpec.ofChange Rows.fnExactLedgerTextSpec) own started (by kernel_rfl) Tryd.func3
    (ChangeSpec.witness_shaped (enc := enc) (C := Tryd.checked) (os := os) (X := fun w _ => laidMetH Tryd.prog Rows.fnExactLedgerTextRow.laid w) false (World.laidAll Tryd.prog os Rows.fnExactLedgerTextRow.laid) #[.agg #[.slice none 0 0]] 8 (World.laidAll_os _ _ _)
      (World.shaped_of_ZipB (by kernel_rfl) (by kernel_rfl)) (by kernel_rfl) (by kernel_rfl) (by kernel_rfl)
      (by rw [MakeChecks.laidMetH_plain _ _ _ (by kernel_rfl)]; exact laidMet_laidAll _ (by kernel_rfl) (by kernel_rfl))) ?_
  intro W base args ds gs before hval0 hW _ _ _ hL hsh _
  have hval : ∀ (j : Nat) t v, Tryd.f3.params[j]? = some t → args[j]? = some v → Value.okWide Tryd.prog W .any base t v := hval0
  have hW' := hW
  obtain ⟨p, q, hA0, hV, rfl, _, _⟩ := hW
  have hA : DataW.TrodAll enc Tryd.prog W 0 (fun _ => true) true Tryd.f3.params.toList args.toList ds p := hA0
  rw [Tryd.params3] at hA hval
  obtain ⟨v0, vs0, d0, ds0, p0, q0, hargs, rfl, rfl, h0, r0⟩ := trodAll_cons hA
  obtain ⟨rfl, rfl, rfl⟩ := trodAll_nil r0
  obtain rfl : args = #[v0] := by cases args; simp_all
  obtain ⟨rfl, rfl⟩ := trodVars_none hV
  have k0 := h0
  have lt0 : ∀ x ∈ p0, x.block < W.heap.size := by obtain ⟨m, hm⟩ := k0; exact DataW.trod_lt m _ _ _ hm
  obtain ⟨b0, cap0, ls0, rfl, w0⟩ := is_ledger Tryd.underlying24 (by kernel_rfl) rfl (by kernel_rfl) Tryd.underlying22 Tryd.underlying49 (by kernel_rfl) rfl rfl rfl (by kernel_rfl) (by kernel_rfl) (by kernel_rfl) Tryd.underlying3 Tryd.underlying3 Tryd.underlying3 (hval 0 24 v0 rfl rfl) h0
  clear hA0 hval0
  rw [MakeChecks.laidMetH_plain _ _ _ (by kernel_rfl)] at hL
  refine (walk b0 cap0 ls0 W w0 hL hsh).mono fun e W' ⟨he, bel⟩ => ?_
  subst he
  exact ⟨_, rfl, _, _, _, [], _, [], hW', trodAll_mk1 (shut_bool Tryd.underlying4 _), (trodAll_cons_mk (Below.trod laidOut (by kernel_rfl) (of_decide_eq_true (by kernel_rfl)) k0 bel lt0) trodAll_mk0), rfl, bel.frame _, fun h => by cases h⟩

theorem said : Rows.FnExactLedgerTextSaid :=
  OpenClaim.holds_of_cond 3 Tryd.f3 rfl rfl rfl rfl rfl rfl rfl ⟨rfl, rfl, rfl, rfl, rfl⟩ rfl rfl rfl rfl rfl (by kernel_rfl) Tryd.func3 (by kernel_rfl)
    (of_decide_eq_true (by kernel_rfl)) (by unfold Func.isWrapper; first | (rw [if_pos (by decide +kernel)]; kernel_rfl) | (rw [if_neg (by decide +kernel)]; exact ⟨rfl, rfl⟩))
    (fun os started H enc _ F => by rw [OpenClaim.pre_eq_preRow]; exact lifted os started H enc F)

theorem proved : Rows.FnExactLedgerTextCardSaid :=
  Claim7.holds_tied_plain_at .later [] _ _ _ _ said (fun _ h => by cases h) (by kernel_rfl) (fun _ h => by cases h) fnExactLedgerText_row_tie rfl ⟨rfl, rfl⟩ (by kernel_rfl) rfl
    (fun f fn hf hfn => by
      obtain rfl : f = 3 := Option.some.inj ((show Tryd.prog.funcNamed "loop.example/g00126/laws.FnExactLedgerText" = some 3 by kernel_rfl).symm.trans hf) |>.symm
      obtain rfl : fn = Tryd.f3 := (Option.some.inj (Tryd.func3.symm.trans hfn)).symm
      refine ⟨by kernel_rfl, fun j t ht => ?_⟩
      rw [Tryd.params3] at ht
      have hm : t ∈ [24] := by have := Array.mem_of_getElem? ht; simp at this ⊢; first | exact this | exact this.symm
      have hall : ([24].all fun u => !Tryd.prog.wantsStandIn u) = true := by kernel_rfl
      have h1 := List.all_eq_true.1 hall t hm
      have h2 : Tryd.prog.wantsStandIn t = false := by simpa using h1
      exact h2)
    (by kernel_rfl)
end Go.Proofs.YtcaepfomhcmfpaaDoor.fnExactLedgerText
