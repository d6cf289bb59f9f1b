/- Proved: at every message (of at most 1048576 fields and bytes of data together; a greater one passes by the law's own first test) the program's MessageText answers as the specification's, and leaves its argument as it was. What it takes: the listed tables of Go's library hold what the library's text lays (the card ties that to the program). -/
import Derived.Test.YtopgcfgomappjaaDoorMEnv
import Derived.Test.YtopgcfgomappjaaDoorSText
import Derived.Test.YtopgcfgomappjaaDoorShelf3
namespace Go.Proofs.YtopgcfgomappjaaDoor.fnExactMessageText
open Go.ChangeShapes Go.WideShapes Go.ChangeAt Go.RowKit
open Go.ChangeMaps (open_string shut_string)

set_option maxRecDepth 100000 in
set_option maxHeartbeats 1600000 in
theorem walk (a0 : Int) (b0 : Option Addr) (cap0 : Nat) (fs : List Fld) (w : World) (w0 : FldsAt w b0 fs ∧ FldsBd fs) (hL : laidMet Tryd.prog Rows.fnExactMessageTextRow.laid w) (hsh : w.ShapedOpen Tryd.prog) :
    Calls Tryd.prog 5 #[.agg #[.int .i64 a0, .slice b0 fs.length cap0]] w fun e w' => e = .returned (.bool true) ∧ Below w.heap.size w w' := by
  obtain ⟨hz, hd⟩ := w0
  have HT : Hid (Pow10 w) := pow10_head hL.tail.tail
  have HX : Hid (MaxL w) := Tryd.laysM155.s1_3 w hsh
  clear hL hsh
  have bel1 : Below w.heap.size w (w.alloc (.cells #[.int .i64 a0, .slice b0 fs.length cap0] 24)) := (Below.refl _ _).alloc (Nat.le_refl _) _
  have hz1 := hz.below bel1
  by_cases hneg : leftM fs 1048576 < 0
  · go_enter Tryd.func5, Tryd.ntmps5
    go_wp2_with fail
    refine (szMessage_any _ _ _ _ _ hz1 hd).mono ?_
    rintro e u1 ⟨rfl, b1⟩
    have bel := (box2 b1).2.2.1
    clear b1 hz1 bel1 hz hd
    generalize leftM fs 1048576 = r at hneg
    go_wp2
    go_ret
    exact ⟨rfl, bel⟩
  · have hsum := leftM_sum (show 0 ≤ leftM fs 1048576 by omega)
    have hn : fs.length ≤ 1048576 := by omega
    have hs : sumF fs ≤ 1048576 := by omega
    clear hsum
    go_enter Tryd.func5, Tryd.ntmps5
    go_wp2_with fail
    refine (szMessage_any _ _ _ _ _ hz1 hd).mono ?_
    rintro e u1 ⟨rfl, b1⟩
    obtain ⟨c0, c1, q1, hlt⟩ := box2 b1
    have z1 := hz.below q1
    clear b1 hz1 bel1 hd
    obtain ⟨r, hr⟩ : ∃ r, leftM fs 1048576 = r := ⟨_, rfl⟩
    rw [hr] at hneg ⊢
    clear hr
    go_wp2_with fail
    refine (toMessage_any _ _ _ _ _ z1 hn).mono ?_
    rintro e u2 ⟨g, rfl, o2, b2⟩
    obtain ⟨d0, d1⟩ := keep2 c0 c1 b2
    have z2 := z1.below b2
    go_wp2_with fail
    refine (sText_any _ _ _ _ _ (flds_of_own o2) hn hs).mono ?_
    rintro e u3 ⟨rfl, b3⟩
    obtain ⟨e0, e1⟩ := keep2 d0 d1 b3
    have z3 := z2.below b3
    have q3 := next (next q1 b2) b3
    clear d0 d1 c0 c1 z2 z1 b3 b2 q1 o2
    go_wp2_with fail
    refine (toMessage_any _ _ _ _ _ z3 hn).mono ?_
    rintro e u4 ⟨g2, rfl, o4, b4⟩
    have bx : Below u4.heap.size u4 (u4.alloc (.cells #[.int .i64 a0, .slice (some ⟨g2, 0, none⟩) fs.length fs.length] 30)) := (Below.refl _ _).alloc (Nat.le_refl _) _
    go_wp2_with fail
    refine (iText_any _ _ _ _ _ ((flds_of_own o4).below bx) hn hs (HT.out.below (next q3 (next b4 bx))) (HX.out.below (next q3 (next b4 bx)))).mono ?_
    rintro e u5 ⟨rfl, b5⟩
    obtain ⟨x0, x1, q5, hlt5⟩ := box2 b5
    obtain ⟨y0, y1⟩ := keep2 e0 e1 (next b4 q5)
    have z5 := z3.below (next b4 q5)
    have f5 := (flds_of_own o4).below q5
    have q6 := next q3 (next b4 q5)
    generalize textL a0 fs = ol
    clear b4 b5 q5 o4 e0 e1 z3 q3 bx
    have hme := msgEq_self a0 fs
    go_wp2
    go_region_with (first
      | (go_at_call 8; refine (toMessage_any _ _ _ _ _ (z5.below ((Below.refl _ _).drew)) hn).mono ?_; rintro e u6 ⟨g3, rfl, o6, b6⟩; have b7 : Below u5.heap.size u5 u6 := ((Below.refl _ _).drew).trans b6; obtain ⟨j0, j1⟩ := keep2 x0 x1 b7)
      | (go_at_call 10; refine (eqMessage_any _ _ _ _ _ _ _ _ _ (f5.below b7) (flds_of_own o6) (by omega) (by omega)).mono ?_; rintro e u8 ⟨rfl, b8⟩; rw [hme]))
    all_goals
      go_wp2
      go_ret
      exact ⟨rfl, next (next q6 b7) b8⟩

set_option maxRecDepth 100000 in
theorem lifted (os : Os) (started : os.Started) (H : Type) (enc : TypeId × Value → H) (F : Stop.Interp) :
    ReturnsInHanded {} Tryd.checked os 5 .any ((OpenSpec.ofChange Rows.fnExactMessageTextSpec).preRow enc Tryd.prog Tryd.f5 Rows.fnExactMessageTextRow.domain false Rows.fnExactMessageTextRow.laid)
      (((OpenSpec.ofChange Rows.fnExactMessageTextSpec).at F).post enc Tryd.prog Tryd.f5 false true false false) := by
  refine returnsInHanded_of_row (C := Tryd.checked) (s := OpenSpec.ofChange Rows.fnExactMessageTextSpec) own started (by kernel_rfl) Tryd.func5
    (ChangeSpec.witness_shaped (enc := enc) (C := Tryd.checked) (os := os) (X := fun w _ => laidMetH Tryd.prog Rows.fnExactMessageTextRow.laid w) false (World.laidAll Tryd.prog os Rows.fnExactMessageTextRow.laid) #[.agg #[.int .i64 0, .slice none 0 0]] 8 (World.laidAll_os _ _ _)
      (World.shaped_of_ZipB (by kernel_rfl) (by kernel_rfl)) (by kernel_rfl) (by kernel_rfl) (by kernel_rfl)
      (by rw [MakeChecks.laidMetH_plain _ _ _ (by kernel_rfl)]; exact laidMet_laidAll _ (by kernel_rfl) (by kernel_rfl))) ?_
  intro W base args ds gs before hval0 hW _ _ _ hL hsh _
  have hval : ∀ (j : Nat) t v, Tryd.f5.params[j]? = some t → args[j]? = some v → Value.okWide Tryd.prog W .any base t v := hval0
  have hW' := hW
  obtain ⟨p, q, hA0, hV, rfl, _, _⟩ := hW
  have hA : DataW.TrodAll enc Tryd.prog W 0 (fun _ => true) true Tryd.f5.params.toList args.toList ds p := hA0
  rw [Tryd.params5] at hA hval
  obtain ⟨v0, vs0, d0, ds0, p0, q0, hargs, rfl, rfl, h0, r0⟩ := trodAll_cons hA
  obtain ⟨rfl, rfl, rfl⟩ := trodAll_nil r0
  obtain rfl : args = #[v0] := by cases args; simp_all
  obtain ⟨rfl, rfl⟩ := trodVars_none hV
  have k0 := h0
  have lt0 : ∀ x ∈ p0, x.block < W.heap.size := by obtain ⟨m, hm⟩ := k0; exact DataW.trod_lt m _ _ _ hm
  obtain ⟨a0, b0, cap0, fs0, rfl, w0⟩ := is_message Tryd.underlying24 (by kernel_rfl) rfl rfl (by kernel_rfl) (by kernel_rfl) Tryd.underlying3 Tryd.underlying22 Tryd.underlying69 (by kernel_rfl) rfl rfl (by kernel_rfl) (by kernel_rfl) Tryd.underlying3 Tryd.underlying9 (hval 0 24 v0 rfl rfl) h0
  clear hA0 hval0
  rw [MakeChecks.laidMetH_plain _ _ _ (by kernel_rfl)] at hL
  refine (walk a0 b0 cap0 fs0 W w0 hL hsh).mono fun e W' ⟨he, bel⟩ => ?_
  subst he
  exact ⟨_, rfl, _, _, _, [], _, [], hW', trodAll_mk1 (shut_bool Tryd.underlying4 _), (trodAll_cons_mk (Below.trod laidOut (by kernel_rfl) (of_decide_eq_true (by kernel_rfl)) k0 bel lt0) trodAll_mk0), rfl, bel.frame _, fun h => by cases h⟩

theorem said : Rows.FnExactMessageTextSaid :=
  OpenClaim.holds_of_cond 5 Tryd.f5 rfl rfl rfl rfl rfl rfl rfl ⟨rfl, rfl, rfl, rfl, rfl⟩ rfl rfl rfl rfl rfl (by kernel_rfl) Tryd.func5 (by kernel_rfl)
    (of_decide_eq_true (by kernel_rfl)) (by unfold Func.isWrapper; first | (rw [if_pos (by decide +kernel)]; kernel_rfl) | (rw [if_neg (by decide +kernel)]; exact ⟨rfl, rfl⟩))
    (fun os started H enc _ F => by rw [OpenClaim.pre_eq_preRow]; exact lifted os started H enc F)

theorem proved : Rows.FnExactMessageTextCardSaid :=
  Claim7.holds_tied_plain_at .later [] _ _ _ _ said (fun _ h => by cases h) (by kernel_rfl) (fun _ h => by cases h) fnExactMessageText_row_tie rfl ⟨rfl, rfl⟩ (by kernel_rfl) rfl
    (fun f fn hf hfn => by
      obtain rfl : f = 5 := Option.some.inj ((show Tryd.prog.funcNamed "loop.example/g00126/laws.FnExactMessageText" = some 5 by kernel_rfl).symm.trans hf) |>.symm
      obtain rfl : fn = Tryd.f5 := (Option.some.inj (Tryd.func5.symm.trans hfn)).symm
      refine ⟨by kernel_rfl, fun j t ht => ?_⟩
      rw [Tryd.params5] at ht
      have hm : t ∈ [24] := by have := Array.mem_of_getElem? ht; simp at this ⊢; first | exact this | exact this.symm
      have hall : ([24].all fun u => !Tryd.prog.wantsStandIn u) = true := by kernel_rfl
      have h1 := List.all_eq_true.1 hall t hm
      have h2 : Tryd.prog.wantsStandIn t = false := by simpa using h1
      exact h2)
    (by kernel_rfl)
end Go.Proofs.YtopgcfgomappjaaDoor.fnExactMessageText
