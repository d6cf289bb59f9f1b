/- Proved: at every message (of at most 1048576 fields and bytes of data together; a greater one passes by the law's own first test) the program's SwitchLine answers as the specification's, the line and the code, and leaves its argument as it was. What it takes: the library's table of powers of ten and the table of the acts' words hold what their texts lay (the card ties that to the program). -/
import Derived.Test.YtpenkpiffdbdmaaGreatDoorJS5a
import Derived.Test.YtpenkpiffdbdmaaGreatDoorKSSwS4
namespace Go.Proofs.YtpenkpiffdbdmaaGreatDoor.fnExactSwitchLine
open Go.ChangeShapes Go.WideShapes Go.ChangeAt Go.RowKit

theorem varTab {w : World} (h : laidMet Tryz.prog Rows.fnExactSwitchLineRow.laid w) : WordTab w := wd_head h.tail.tail.tail.tail

set_option maxRecDepth 100000 in
set_option maxHeartbeats 1600000 in
theorem walk (a0 : Int) (b0 : Option Addr) (cap0 : Nat) (fs : List Fld) (w : World) (w0 : (FldsAt w b0 fs ∧ FldsBd fs) ∧ wfI a0) (hL : laidMet Tryz.prog Rows.fnExactSwitchLineRow.laid w) (_hsh : w.ShapedOpen Tryz.prog) :
    Calls Tryz.prog 3 #[.agg #[.int .i64 a0, .slice b0 fs.length cap0]] w fun e w' => e = .returned (.bool true) ∧ Below w.heap.size w w' := by
  obtain ⟨⟨hz, hd⟩, hwf⟩ := w0
  have HT : Hid (Tg.Pow10 w) := pow10_headT hL.tail.tail
  have HW : Hid (WordTab w) := varTab hL
  have HK : Hid (wfI a0) := hwf
  clear hwf
  clear hL
  have bel1 : Below w.heap.size w (w.alloc (.cells #[.int .i64 a0, .slice b0 fs.length cap0] 24)) := (Below.refl _ _).alloc (Nat.le_refl _) _
  have hz1 := hz.below bel1
  by_cases hneg : leftM fs 1048576 < 0
  · go_enter Tryz.func3, Tryz.ntmps3
    go_wp2_with fail
    refine (szMessage_any _ _ _ _ _ hz1 hd).mono ?_
    rintro e u1 ⟨rfl, b1⟩
    have bel := (box2 b1).2.2.1
    clear b1 hz1 bel1 hz hd
    generalize leftM fs 1048576 = r at hneg
    go_wp2
    go_ret
    exact ⟨rfl, bel⟩
  · have hsum := leftM_sum (show 0 ≤ leftM fs 1048576 by omega)
    have hn : fs.length ≤ 1048576 := by omega
    have hs : sumF fs ≤ 1048576 := by omega
    clear hsum
    go_enter Tryz.func3, Tryz.ntmps3
    go_wp2_with fail
    refine (szMessage_any _ _ _ _ _ hz1 hd).mono ?_
    rintro e u1 ⟨rfl, b1⟩
    obtain ⟨c0, c1, q1, hlt⟩ := box2 b1
    have z1 := hz.below q1
    clear b1 hz1 bel1 hd
    obtain ⟨r, hr⟩ : ∃ r, leftM fs 1048576 = r := ⟨_, rfl⟩
    rw [hr] at hneg ⊢
    clear hr
    go_wp2_with fail
    refine (toMessage_any _ _ _ _ _ z1 hn).mono ?_
    rintro e u2 ⟨g, rfl, o2, b2⟩
    obtain ⟨d0, d1⟩ := keep2 c0 c1 b2
    have z2 := z1.below b2
    go_wp2_with fail
    refine (sSwitchLine_any _ _ _ _ _ (flds_of_own o2) hn hs).mono ?_
    rintro e u3 ⟨rfl, b3⟩
    rw [sw_same]
    obtain ⟨e0, e1⟩ := keep2 d0 d1 b3
    have z3 := z2.below b3
    have q3 := next (next q1 b2) b3
    clear d0 d1 c0 c1 z2 z1 b3 b2 q1 o2
    go_wp2_with fail
    refine (toMessage_any _ _ _ _ _ z3 hn).mono ?_
    rintro e u4 ⟨g2, rfl, o4, b4⟩
    have bx : Below u4.heap.size u4 (u4.alloc (.cells #[.int .i64 a0, .slice (some ⟨g2, 0, none⟩) fs.length fs.length] 30)) := (Below.refl _ _).alloc (Nat.le_refl _) _
    go_wp2_with fail
    refine (iSwitchLine_any _ _ _ _ _ HK.out ((flds_of_own o4).below bx) hn hs (HT.out.below (next q3 (next b4 bx))) (HT.out.below (next q3 (next b4 bx))) fun k hk => (HW.out.below (next q3 (next b4 bx))).cell k hk).mono ?_
    rintro e u5 ⟨rfl, b5⟩
    obtain ⟨x0, x1, q5, hlt5⟩ := box2 b5
    obtain ⟨y0, y1⟩ := keep2 e0 e1 (next b4 q5)
    have z5 := z3.below (next b4 q5)
    have f5 := (flds_of_own o4).below q5
    have q6 := next q3 (next b4 q5)
    obtain ⟨ol, hol⟩ : ∃ x, (swAns a0 fs).1 = x := ⟨_, rfl⟩
    obtain ⟨ok, hok⟩ : ∃ x, (swAns a0 fs).2 = x := ⟨_, rfl⟩
    rw [hol, hok]
    clear hol hok
    clear b4 b5 q5 o4 e0 e1 z3 q3 bx
    have hme := msgEq_self a0 fs
    go_wp2
    go_region_with (first
      | (go_at_call 6; refine (toMessage_any _ _ _ _ _ (z5.below ((Below.refl _ _).drew)) hn).mono ?_; rintro e u6 ⟨g3, rfl, o6, b6⟩; have b7 : Below u5.heap.size u5 u6 := ((Below.refl _ _).drew).trans b6; obtain ⟨j0, j1⟩ := keep2 x0 x1 b7)
      | (go_at_call 8; refine (eqMessage_any _ _ _ _ _ _ _ _ _ (f5.below b7) (flds_of_own o6) (by omega) (by omega)).mono ?_; rintro e u8 ⟨rfl, b8⟩; rw [hme]))
    all_goals
      go_wp2
      go_ret
      exact ⟨rfl, next (next q6 b7) b8⟩

set_option maxRecDepth 100000 in
theorem lifted (os : Os) (started : os.Started) (H : Type) (enc : TypeId × Value → H) (F : Stop.Interp) :
    ReturnsInHanded {} Tryz.checked os 3 .any ((OpenSpec.ofChange Rows.fnExactSwitchLineSpec).preRow enc Tryz.prog Tryz.f3 Rows.fnExactSwitchLineRow.domain false Rows.fnExactSwitchLineRow.laid)
      (((OpenSpec.ofChange Rows.fnExactSwitchLineSpec).at F).post enc Tryz.prog Tryz.f3 false true false false) := by
  refine returnsInHanded_of_row (C := Tryz.checked) (s := OpenSpec.ofChange Rows.fnExactSwitchLineSpec) own started (by kernel_rfl) Tryz.func3
    (ChangeSpec.witness_shaped (enc := enc) (C := Tryz.checked) (os := os) (X := fun w _ => laidMetH Tryz.prog Rows.fnExactSwitchLineRow.laid w) false (World.laidAll Tryz.prog os Rows.fnExactSwitchLineRow.laid) #[.agg #[.int .i64 0, .slice none 0 0]] 8 (World.laidAll_os _ _ _)
      (World.shaped_of_ZipB (by kernel_rfl) (by kernel_rfl)) (by kernel_rfl) (by kernel_rfl) (by kernel_rfl)
      (by rw [MakeChecks.laidMetH_plain _ _ _ (by kernel_rfl)]; exact laidMet_laidAll _ (by kernel_rfl) (by kernel_rfl))) ?_
  intro W base args ds gs before hval0 hW _ _ _ hL hsh _
  have hval : ∀ (j : Nat) t v, Tryz.f3.params[j]? = some t → args[j]? = some v → Value.okWide Tryz.prog W .any base t v := hval0
  have hW' := hW
  obtain ⟨p, q, hA0, hV0, rfl, _, _⟩ := hW
  have hV : DataW.TrodVars enc Tryz.prog W (fun _ => true) ["loop.example/g00126/impl.actWords"] gs q := hV0
  have hA : DataW.TrodAll enc Tryz.prog W 0 (fun _ => true) true Tryz.f3.params.toList args.toList ds p := hA0
  rw [Tryz.params3] at hA hval
  obtain ⟨v0, vs0, d0, ds0, p0, q0, hargs, rfl, rfl, h0, r0⟩ := trodAll_cons hA
  obtain ⟨rfl, rfl, rfl⟩ := trodAll_nil r0
  obtain rfl : args = #[v0] := by cases args; simp_all
  obtain ⟨gv, tv, cs, fv, dv, pv, rfl, hgv, htv, hvar, hdv, rfl⟩ := trodVars_one hV
  have k0 := h0
  have lt0 : ∀ x ∈ p0, x.block < W.heap.size := by obtain ⟨m, hm⟩ := k0; exact DataW.trod_lt m _ _ _ hm
  obtain ⟨a0, b0, cap0, fs0, rfl, w0⟩ := is_messageW Tryz.underlying24 (by kernel_rfl) rfl rfl (by kernel_rfl) (by kernel_rfl) Tryz.underlying3 Tryz.underlying22 Tryz.underlying58 (by kernel_rfl) rfl rfl (by kernel_rfl) (by kernel_rfl) Tryz.underlying3 Tryz.underlying9 (hval 0 24 v0 rfl rfl) h0
  clear hA0 hval0
  rw [MakeChecks.laidMetH_plain _ _ _ (by kernel_rfl)] at hL
  have HM := varTab hL
  refine (walk a0 b0 cap0 fs0 W w0 hL hsh).mono fun e W' ⟨he, bel⟩ => ?_
  subst he
  exact ⟨_, rfl, _, _, _, [], _, _, hW', trodAll_mk1 (shut_bool Tryz.underlying4 _), (trodAll_cons_mk (Below.trod laidOut (by kernel_rfl) (of_decide_eq_true (by kernel_rfl)) k0 bel lt0) trodAll_mk0), one_vars hgv htv hvar hdv HM bel, bel.frame _, fun h => by cases h⟩

theorem said : Rows.FnExactSwitchLineSaid :=
  OpenClaim.holds_of_cond 3 Tryz.f3 rfl rfl rfl rfl rfl rfl rfl ⟨rfl, rfl, rfl, rfl, rfl⟩ rfl rfl rfl rfl rfl (by kernel_rfl) Tryz.func3 (by kernel_rfl)
    (of_decide_eq_true (by kernel_rfl)) (by unfold Func.isWrapper; first | (rw [if_pos (by decide +kernel)]; kernel_rfl) | (rw [if_neg (by decide +kernel)]; exact ⟨rfl, rfl⟩))
    (fun os started H enc _ F => by rw [OpenClaim.pre_eq_preRow]; exact lifted os started H enc F)

theorem proved : Rows.FnExactSwitchLineCardSaid :=
  Claim7.holds_tied_plain_at .later [] _ _ _ _ said (fun _ h => by cases h) (by kernel_rfl) (fun _ h => by cases h) fnExactSwitchLine_row_tie rfl ⟨rfl, rfl⟩ (by kernel_rfl) rfl
    (fun f fn hf hfn => by
      obtain rfl : f = 3 := Option.some.inj ((show Tryz.prog.funcNamed "loop.example/g00126/laws.FnExactSwitchLine" = some 3 by kernel_rfl).symm.trans hf) |>.symm
      obtain rfl : fn = Tryz.f3 := (Option.some.inj (Tryz.func3.symm.trans hfn)).symm
      refine ⟨by kernel_rfl, fun j t ht => ?_⟩
      rw [Tryz.params3] at ht
      have hm : t ∈ [24] := by have := Array.mem_of_getElem? ht; simp at this ⊢; first | exact this | exact this.symm | omega | (rcases this with h | h | h | h <;> simp [h]) | (rcases this with h | h | h <;> simp [h]) | (rcases this with h | h <;> simp [h])
      have hall : ([24].all fun u => !Tryz.prog.wantsStandIn u) = true := by kernel_rfl
      have h1 := List.all_eq_true.1 hall t hm
      have h2 : Tryz.prog.wantsStandIn t = false := by simpa using h1
      exact h2)
    (by kernel_rfl)
end Go.Proofs.YtpenkpiffdbdmaaGreatDoor.fnExactSwitchLine
