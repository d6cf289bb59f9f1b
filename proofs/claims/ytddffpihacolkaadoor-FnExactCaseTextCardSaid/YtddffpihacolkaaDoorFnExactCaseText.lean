/- Proved: at every case the program's CaseText answers as the specification's, byte for byte, and leaves the tables of the months' days and of the states' texts as they were. What it takes: those two tables and the library's table of powers of ten as the row lists them. Conditions: none. -/
import Derived.Test.YtddffpihacolkaaDoorDVars
import Derived.Test.YtddffpihacolkaaDoorCtTxtI
import Derived.Test.YtddffpihacolkaaDoorCtTxtS
import Derived.Test.YtddffpihacolkaaDoorCLaw
import Derived.OpenShut
import Derived.Deep.DeepCutAuto
namespace Go.Proofs.YtddffpihacolkaaDoor.fnExactCaseText
open Go.ChangeShapes Go.WideShapes Go.ChangeAt Go.RowKit
set_option maxRecDepth 100000

theorem tabEq : (Rows.laid_internal_strconv_uint64pow10 : DataW Unit) = Lib.tabData .u64 Lib.pow10Tab := by kernel_rfl
theorem monthTab {w : World} (h : laidMet Tryd.prog Rows.fnExactCaseTextRow.laid w) : MonthTab w := month_head h.tail.tail.tail
theorem varTab {w : World} (h : laidMet Tryd.prog Rows.fnExactCaseTextRow.laid w) : StateTab w := state_head h.tail.tail.tail.tail
theorem pow10 {w : World} (h : laidMet Tryd.prog Rows.fnExactCaseTextRow.laid w) : Mo.Pow10 w := by
  have h1 : laidMet Tryd.prog (("internal/strconv.uint64pow10", Rows.laid_internal_strconv_uint64pow10) :: [("loop.example/g00126/impl.monthDays", Rows.laid_loop_example_g00126_impl_monthDays), ("loop.example/g00126/impl.stateTexts", Rows.laid_loop_example_g00126_impl_stateTexts)]) w := h.tail.tail
  rw [tabEq] at h1
  exact Lib.tabIs_of_head (g := 3) (t := 79) (by kernel_rfl) (by kernel_rfl) Tryd.underlying79 Tryd.underlying68 (by kernel_rfl) (by kernel_rfl) h1
theorem vars_join {H : Type} {enc : TypeId × Value → H} {P : Program} {w : World} {sp : Nat → Bool} {n0 n1 : String} {d0 d1 : DataW H} {p0 p1 : List MemPlace} (h0 : DataW.TrodVars enc P w sp [n0] [d0] p0) (h1 : DataW.TrodVars enc P w sp [n1] [d1] p1) : DataW.TrodVars enc P w sp [n0, n1] [d0, d1] (p0 ++ p1) := by
  obtain ⟨g, t, cs, f, p, q, a1, a2, a3, a4, hs, e⟩ := h0
  obtain ⟨_, rfl⟩ := trodVars_none hs
  exact ⟨g, t, cs, f, p, p1, a1, a2, a3, a4, h1, by rw [e]; simp⟩

set_option maxHeartbeats 1600000 in
theorem walk (c : Cs) (w : World) (w0 : csBd c) (hL : laidMet Tryd.prog Rows.fnExactCaseTextRow.laid w) (_hsh : w.ShapedOpen Tryd.prog) :
    Calls Tryd.prog 3 #[cv c] w fun e w' => e = .returned (.bool true) ∧ Below w.heap.size w w' := by
  have HMT : Hid (MonthTab w) := monthTab hL
  have HST : Hid (StateTab w) := varTab hL
  have HP10 : Hid (Mo.Pow10 w) := pow10 hL
  have hcur : (Lit.int .i64 c.cur).wf = true := w0.2.2.1
  obtain ⟨N, hN⟩ : ∃ N, caseT c = N := ⟨_, rfl⟩
  have HI : Hid (∀ u, Below w.heap.size w u → Calls Tryd.prog 6 #[cv c] u fun e w' => e = .returned (.string ⟨N.toArray⟩) ∧ Below u.heap.size u w') := fun u hu => by rw [← hN]; exact iCaseText_any c u hcur (MonthTab.below HMT.out hu) (StateTab.below HST.out hu) (Mo.Pow10.below HP10.out hu)
  have HS : Hid (∀ u, Calls Tryd.prog 4 #[cv c] u fun e w' => e = .returned (.string ⟨N.toArray⟩) ∧ Below u.heap.size u w') := fun u => by rw [← hN]; exact sCaseText_any c u
  clear hN hL hcur w0
  obtain ⟨W, hW⟩ : ∃ W, W = w.alloc (.cells #[.int .i64 c.iss, .int .i64 c.acq, .int .i64 c.cur, .int .i64 c.am, .int .i64 c.st, .int .i64 c.rsn, .int .i64 c.cl, .int .i64 c.bk, .int .i64 c.fee, .bool c.cop, .int .i64 c.sta, .int .i64 c.due] 23) := ⟨_, rfl⟩
  have B : CB w.heap.size 0 c W := by rw [hW]; exact CB.new w c _
  have bW : Below w.heap.size w W := by rw [hW]; exact (Below.refl _ _).alloc (Nat.le_refl _) _
  have HT : Hid (∀ u, Calls Tryd.prog 5 #[cv c] u fun e w' => e = .returned (cv c) ∧ Below u.heap.size u w') := fun u => toCase_any c u
  obtain ⟨iss, acq, cur, am, st, rsn, cl, bk, fee, cop, sta, due⟩ := c
  unfold cv at HI HS HT ⊢
  simp only at hW HI HS HT ⊢
  have HBC : Hid (CB w.heap.size 0 ⟨iss, acq, cur, am, st, rsn, cl, bk, fee, cop, sta, due⟩ W) := B
  have HW : Hid _ := hW
  have HBW : Hid (Below w.heap.size w W) := bW
  obtain ⟨f0, f1, f2, f3, f4, f5, f6, f7, f8, f9, f10, f11⟩ := B
  simp only [Nat.zero_add] at f0 f1 f2 f3 f4 f5 f6 f7 f8 f9 f10 f11
  clear hW bW
  go_enter Tryd.func3, Tryd.ntmps3
  go_upto_region 1 with fail
  rw [← HW.out]
  go_wp2_with fail
  refine (HT.out _).mono ?_
  rintro e u1 ⟨rfl, b1⟩
  go_wp2_with fail
  refine (HS.out _).mono ?_
  rintro e u2 ⟨rfl, b2⟩
  have B2 := (HBC.out.below b1).below b2
  have HB2 : Hid (Below w.heap.size w u2) := next (next HBW.out b1) b2
  clear b1 b2 f0 f1 f2 f3 f4 f5 f6 f7 f8 f9 f10 f11
  obtain ⟨f0, f1, f2, f3, f4, f5, f6, f7, f8, f9, f10, f11⟩ := B2
  simp only [Nat.zero_add] at f0 f1 f2 f3 f4 f5 f6 f7 f8 f9 f10 f11
  go_wp2_with fail
  refine (HT.out _).mono ?_
  rintro e u3 ⟨rfl, b3⟩
  have HB3 : Hid (Below w.heap.size w u3) := next HB2.out b3
  clear b3 f0 f1 f2 f3 f4 f5 f6 f7 f8 f9 f10 f11
  go_wp2_with fail
  refine (HI.out _ HB3.out).mono ?_
  rintro e u4 ⟨rfl, b4⟩
  have HB4 : Hid (Below w.heap.size w u4) := next HB3.out b4
  clear b4
  go_wp2
  go_ret
  exact ⟨rfl, HB4.out⟩

set_option maxRecDepth 100000 in
theorem lifted (os : Os) (started : os.Started) (H : Type) (enc : TypeId × Value → H) (F : Stop.Interp) :
    ReturnsInHanded {} Tryd.checked os 3 .any ((OpenSpec.ofChange Rows.fnExactCaseTextSpec).preRow enc Tryd.prog Tryd.f3 Rows.fnExactCaseTextRow.domain false Rows.fnExactCaseTextRow.laid)
      (((OpenSpec.ofChange Rows.fnExactCaseTextSpec).at F).post enc Tryd.prog Tryd.f3 false true false false) := by
  refine returnsInHanded_of_row (C := Tryd.checked) (s := OpenSpec.ofChange Rows.fnExactCaseTextSpec) own started (by kernel_rfl) Tryd.func3
    (ChangeSpec.witness_shaped (enc := enc) (C := Tryd.checked) (os := os) (X := fun w _ => laidMetH Tryd.prog Rows.fnExactCaseTextRow.laid w) false (World.laidAll Tryd.prog os Rows.fnExactCaseTextRow.laid) #[.agg #[.int .i64 0, .int .i64 0, .int .i64 0, .int .i64 0, .int .i64 0, .int .i64 0, .int .i64 0, .int .i64 0, .int .i64 0, .bool false, .int .i64 0, .int .i64 0]] 8 (World.laidAll_os _ _ _)
      (World.shaped_of_ZipB (by kernel_rfl) (by kernel_rfl)) (by kernel_rfl) (by kernel_rfl) (by kernel_rfl)
      (by rw [MakeChecks.laidMetH_plain _ _ _ (by kernel_rfl)]; exact laidMet_laidAll _ (by kernel_rfl) (by kernel_rfl))) ?_
  intro W base args ds gs before hval0 hW _ _ _ hL hsh _
  have hval : ∀ (j : Nat) t v, Tryd.f3.params[j]? = some t → args[j]? = some v → Value.okWide Tryd.prog W .any base t v := hval0
  have hW' := hW
  obtain ⟨p, q, hA0, hV0, rfl, _, _⟩ := hW
  have hV : DataW.TrodVars enc Tryd.prog W (fun _ => true) ["loop.example/g00126/impl.monthDays", "loop.example/g00126/impl.stateTexts"] gs q := hV0
  have hA : DataW.TrodAll enc Tryd.prog W 0 (fun _ => true) true Tryd.f3.params.toList args.toList ds p := hA0
  rw [Tryd.params3] at hA hval
  obtain ⟨v0, vs0, d0, ds0, p0, q0, hargs, rfl, rfl, h0, r0⟩ := trodAll_cons hA
  obtain ⟨rfl, rfl, rfl⟩ := trodAll_nil r0
  obtain rfl : args = #[v0] := by cases args; simp_all
  obtain ⟨gv, tv, cs, fv, dv, pv, gu, tu, cu, fu, du, pu, rfl, hgv, htv, hvar, hdv, hgu, htu, hvau, hdu, rfl⟩ := trodVars_two hV
  have k0 := h0
  have lt0 : ∀ x ∈ p0, x.block < W.heap.size := by obtain ⟨m, hm⟩ := k0; exact DataW.trod_lt m _ _ _ hm
  obtain ⟨c0, rfl, w0⟩ := is_case Tryd.underlying23 (by kernel_rfl) rfl rfl rfl rfl rfl rfl rfl rfl rfl rfl rfl rfl (by kernel_rfl) (by kernel_rfl) (by kernel_rfl) (by kernel_rfl) (by kernel_rfl) (by kernel_rfl) (by kernel_rfl) (by kernel_rfl) (by kernel_rfl) (by kernel_rfl) (by kernel_rfl) (by kernel_rfl) Tryd.underlying3 Tryd.underlying3 Tryd.underlying3 Tryd.underlying3 Tryd.underlying3 Tryd.underlying3 Tryd.underlying3 Tryd.underlying3 Tryd.underlying3 Tryd.underlying4 Tryd.underlying3 Tryd.underlying3 (hval 0 23 v0 rfl rfl) h0
  clear hA0 hval0
  rw [MakeChecks.laidMetH_plain _ _ _ (by kernel_rfl)] at hL
  have HM := monthTab hL
  have HN := varTab hL
  refine (walk c0 W w0 hL hsh).mono fun e W' ⟨he, bel⟩ => ?_
  subst he
  exact ⟨_, rfl, _, _, _, [], _, _, hW', trodAll_mk1 (shut_bool Tryd.underlying4 _), (trodAll_cons_mk (Below.trod laidOut (by kernel_rfl) (of_decide_eq_true (by kernel_rfl)) k0 bel lt0) trodAll_mk0), vars_join (month_vars hgv htv hvar hdv HM bel) (state_vars hgu htu hvau hdu HN bel), bel.frame _, fun h => by cases h⟩

theorem said : Rows.FnExactCaseTextSaid :=
  OpenClaim.holds_of_cond 3 Tryd.f3 rfl rfl rfl rfl rfl rfl rfl ⟨rfl, rfl, rfl, rfl, rfl⟩ rfl rfl rfl rfl rfl (by kernel_rfl) Tryd.func3 (by kernel_rfl)
    (of_decide_eq_true (by kernel_rfl)) (by unfold Func.isWrapper; first | (rw [if_pos (by decide +kernel)]; kernel_rfl) | (rw [if_neg (by decide +kernel)]; exact ⟨rfl, rfl⟩))
    (fun os started H enc _ F => by rw [OpenClaim.pre_eq_preRow]; exact lifted os started H enc F)

theorem proved : Rows.FnExactCaseTextCardSaid :=
  Claim7.holds_tied_plain_at .later [] _ _ _ _ said (fun _ h => by cases h) (by kernel_rfl) (fun _ h => by cases h) fnExactCaseText_row_tie rfl ⟨rfl, rfl⟩ (by kernel_rfl) rfl
    (fun f fn hf hfn => by
      obtain rfl : f = 3 := Option.some.inj ((show Tryd.prog.funcNamed "loop.example/g00126/laws.FnExactCaseText" = some 3 by kernel_rfl).symm.trans hf) |>.symm
      obtain rfl : fn = Tryd.f3 := (Option.some.inj (Tryd.func3.symm.trans hfn)).symm
      refine ⟨by kernel_rfl, fun j t ht => ?_⟩
      rw [Tryd.params3] at ht
      have hm : t ∈ [23] := by have := Array.mem_of_getElem? ht; simp at this ⊢; first | exact this | exact this.symm | omega | (rcases this with h | h | h | h <;> simp [h])
      have hall : ([23].all fun u => !Tryd.prog.wantsStandIn u) = true := by kernel_rfl
      have h1 := List.all_eq_true.1 hall t hm
      have h2 : Tryd.prog.wantsStandIn t = false := by simpa using h1
      exact h2)
    (by kernel_rfl)

end Go.Proofs.YtddffpihacolkaaDoor.fnExactCaseText
