/- Proved: at every authorization (whose Ref has at most 1048576 bytes; a longer one passes by the law's own first test) the program's AuthText answers as the specification's, byte for byte, and leaves the table of the months' days as it was. What it takes: that table and the listed tables of Go's library hold what their texts lay into them (the card ties that to the program). -/
import Derived.Test.YtpjfigjgamlcdaaDoorDVars
import Derived.Test.YtpjfigjgamlcdaaDoorAuTxt
import Derived.Test.YtpjfigjgamlcdaaDoorAuLaw
import Derived.Test.YtpjfigjgamlcdaaDoorAuBox
import Derived.Deep.DeepCutAuto
namespace Go.Proofs.YtpjfigjgamlcdaaDoor.fnExactAuthText
open Go.ChangeShapes Go.WideShapes Go.ChangeAt Go.RowKit
set_option maxRecDepth 100000

theorem tabEq : (Rows.laid_internal_strconv_uint64pow10 : DataW Unit) = Lib.tabData .u64 Lib.pow10Tab := by kernel_rfl
theorem monthTab {w : World} (h : laidMet Tryd.prog Rows.fnExactAuthTextRow.laid w) : MonthTab w := month_head h.tail.tail.tail
theorem pow10 {w : World} (h : laidMet Tryd.prog Rows.fnExactAuthTextRow.laid w) : Mo.Pow10 w := by
  have h1 : laidMet Tryd.prog (("internal/strconv.uint64pow10", Rows.laid_internal_strconv_uint64pow10) :: [("loop.example/g00126/impl.monthDays", Rows.laid_loop_example_g00126_impl_monthDays)]) w := h.tail.tail
  rw [tabEq] at h1
  exact Lib.tabIs_of_head (g := 2) (t := 149) (by kernel_rfl) (by kernel_rfl) Tryd.underlying149 Tryd.underlying137 (by kernel_rfl) (by kernel_rfl) h1

set_option maxHeartbeats 1600000 in
theorem walk (c : Au) (w : World) (w0 : auBd c) (hL : laidMet Tryd.prog Rows.fnExactAuthTextRow.laid w) (_hsh : w.ShapedOpen Tryd.prog) :
    Calls Tryd.prog 9 #[auv c] w fun e w' => e = .returned (.bool true) ∧ Below w.heap.size w w' := by
  have HMT : Hid (MonthTab w) := monthTab hL
  have HP10 : Hid (Mo.Pow10 w) := pow10 hL
  clear hL
  have hm : c.ref.length ≤ 9223372036854775807 := by have := w0.1; unfold maxLen at this; omega
  obtain ⟨W, hW⟩ : ∃ W, W = w.alloc (.cells #[.string ⟨c.ref.toArray⟩, .int .i64 c.iss, .int .i64 c.cur, .int .i64 c.am, .int .i64 c.day, .bool c.used] 58) := ⟨_, rfl⟩
  have B : AuB w.heap.size c W := by rw [hW]; exact AuB.new w c _
  have bW : Below w.heap.size w W := by rw [hW]; exact (Below.refl _ _).alloc (Nat.le_refl _) _
  have HT : Hid (∀ u, Calls Tryd.prog 37 #[auv c] u fun e w' => e = .returned (auv c) ∧ Below u.heap.size u w') := fun u => toAuth_any c u
  have HZ : Hid (∀ u, Calls Tryd.prog 35 #[auv c, .int .i64 1048576] u fun e w' => e = .returned (.int .i64 (leftA c.ref 1048576)) ∧ Below u.heap.size u w') := fun u => szAuth_any c 1048576 u (by omega) hm
  have HBC : Hid (AuB w.heap.size c W) := B
  have HBW : Hid (Below w.heap.size w W) := bW
  clear bW
  by_cases hneg : leftA c.ref 1048576 < 0
  · clear w0 hm
    obtain ⟨r, i, cc, m, d, u⟩ := c
    unfold auv at HT HZ ⊢
    simp only at hW HT HZ hneg ⊢
    have HW : Hid _ := hW
    obtain ⟨f0, f1, f2, f3, f4, f5⟩ := B
    generalize leftA r 1048576 = q at hneg HZ
    clear hW
    go_enter Tryd.func9, Tryd.ntmps9
    go_upto_region 2 with fail
    rw [← HW.out]
    go_wp2_with fail
    refine (HZ.out _).mono ?_
    rintro e u1 ⟨rfl, b1⟩
    have HB1 : Hid (Below w.heap.size w u1) := next HBW.out b1
    clear b1 f0 f1 f2 f3 f4 f5
    go_wp2
    go_ret
    exact ⟨rfl, HB1.out⟩
  have hlen : c.ref.length ≤ 1048576 := by
    unfold leftA at hneg
    split at hneg <;> omega
  obtain ⟨N, hN⟩ : ∃ N, authT c = N := ⟨_, rfl⟩
  have HI : Hid (∀ u, Below w.heap.size w u → Calls Tryd.prog 38 #[auv c] u fun e w' => e = .returned (.string ⟨N.toArray⟩) ∧ Below u.heap.size u w') := fun u hu => by rw [← hN]; exact iAuthText_any c u (by omega) w0.2.2.1 (MonthTab.below HMT.out hu) (Mo.Pow10.below HP10.out hu)
  have HS : Hid (∀ u, Calls Tryd.prog 36 #[auv c] u fun e w' => e = .returned (.string ⟨N.toArray⟩) ∧ Below u.heap.size u w') := fun u => by rw [← hN]; exact sAuthText_any c u (by omega)
  clear hN
  clear w0 hm hlen
  obtain ⟨r, i, cc, m, d, u⟩ := c
  unfold auv at HI HS HT HZ ⊢
  simp only at hW HI HS HT HZ hneg ⊢
  have HW : Hid _ := hW
  obtain ⟨f0, f1, f2, f3, f4, f5⟩ := B
  generalize leftA r 1048576 = q at hneg HZ
  clear hW
  go_enter Tryd.func9, Tryd.ntmps9
  go_upto_region 2 with fail
  rw [← HW.out]
  go_wp2_with fail
  refine (HZ.out _).mono ?_
  rintro e u0 ⟨rfl, b0⟩
  have B0 := HBC.out.below b0
  have HB0 : Hid (Below w.heap.size w u0) := next HBW.out b0
  have HBC0 : Hid (AuB w.heap.size ⟨r, i, cc, m, d, u⟩ u0) := B0
  clear b0 f0 f1 f2 f3 f4 f5
  obtain ⟨f0, f1, f2, f3, f4, f5⟩ := B0
  simp only at f0 f1 f2 f3 f4 f5
  go_wp2_with fail
  refine (HT.out _).mono ?_
  rintro e u1 ⟨rfl, b1⟩
  go_wp2_with fail
  refine (HS.out _).mono ?_
  rintro e u2 ⟨rfl, b2⟩
  have B2 := (HBC0.out.below b1).below b2
  have HB2 : Hid (Below w.heap.size w u2) := next (next HB0.out b1) b2
  clear b1 b2 f0 f1 f2 f3 f4 f5
  obtain ⟨f0, f1, f2, f3, f4, f5⟩ := B2
  simp only at f0 f1 f2 f3 f4 f5
  go_wp2_with fail
  refine (HT.out _).mono ?_
  rintro e u3 ⟨rfl, b3⟩
  go_wp2_with fail
  refine (HI.out _ (next HB2.out b3)).mono ?_
  rintro e u4 ⟨rfl, b4⟩
  have HB4 : Hid (Below w.heap.size w u4) := next (next HB2.out b3) b4
  clear b3 b4
  have nn : (N == N) = true := by simp
  go_wp2
  go_ret
  exact ⟨rfl, HB4.out⟩

set_option maxRecDepth 100000 in
theorem lifted (os : Os) (started : os.Started) (H : Type) (enc : TypeId × Value → H) (F : Stop.Interp) :
    ReturnsInHanded {} Tryd.checked os 9 .any ((OpenSpec.ofChange Rows.fnExactAuthTextSpec).preRow enc Tryd.prog Tryd.f9 Rows.fnExactAuthTextRow.domain false Rows.fnExactAuthTextRow.laid)
      (((OpenSpec.ofChange Rows.fnExactAuthTextSpec).at F).post enc Tryd.prog Tryd.f9 false true false false) := by
  refine returnsInHanded_of_row (C := Tryd.checked) (s := OpenSpec.ofChange Rows.fnExactAuthTextSpec) own started (by kernel_rfl) Tryd.func9
    (ChangeSpec.witness_shaped (enc := enc) (C := Tryd.checked) (os := os) (X := fun w _ => laidMetH Tryd.prog Rows.fnExactAuthTextRow.laid w) false (World.laidAll Tryd.prog os Rows.fnExactAuthTextRow.laid) #[.agg #[.string ByteArray.empty, .int .i64 0, .int .i64 0, .int .i64 0, .int .i64 0, .bool false]] 8 (World.laidAll_os _ _ _)
      (World.shaped_of_ZipB (by kernel_rfl) (by kernel_rfl)) (by kernel_rfl) (by kernel_rfl) (by kernel_rfl)
      (by rw [MakeChecks.laidMetH_plain _ _ _ (by kernel_rfl)]; exact laidMet_laidAll _ (by kernel_rfl) (by kernel_rfl))) ?_
  intro W base args ds gs before hval0 hW _ _ _ hL hsh _
  have hval : ∀ (j : Nat) t v, Tryd.f9.params[j]? = some t → args[j]? = some v → Value.okWide Tryd.prog W .any base t v := hval0
  have hW' := hW
  obtain ⟨p, q, hA0, hV0, rfl, _, _⟩ := hW
  have hV : DataW.TrodVars enc Tryd.prog W (fun _ => true) ["loop.example/g00126/impl.monthDays"] gs q := hV0
  have hA : DataW.TrodAll enc Tryd.prog W 0 (fun _ => true) true Tryd.f9.params.toList args.toList ds p := hA0
  rw [Tryd.params9] at hA hval
  obtain ⟨v0, vs0, d0, ds0, p0, q0, hargs, rfl, rfl, h0, r0⟩ := trodAll_cons hA
  obtain ⟨rfl, rfl, rfl⟩ := trodAll_nil r0
  obtain rfl : args = #[v0] := by cases args; simp_all
  obtain ⟨gv, tv, cs, fv, dv, pv, rfl, hgv, htv, hvar, hdv, rfl⟩ := trodVars_one hV
  have k0 := h0
  have lt0 : ∀ x ∈ p0, x.block < W.heap.size := by obtain ⟨m, hm⟩ := k0; exact DataW.trod_lt m _ _ _ hm
  obtain ⟨c0, rfl, w0⟩ := is_auth Tryd.underlying58 (by kernel_rfl) rfl rfl rfl rfl rfl rfl (by kernel_rfl) (by kernel_rfl) (by kernel_rfl) (by kernel_rfl) (by kernel_rfl) (by kernel_rfl) Tryd.underlying9 Tryd.underlying3 Tryd.underlying3 Tryd.underlying3 Tryd.underlying3 Tryd.underlying4 (hval 0 58 v0 rfl rfl) h0
  clear hA0 hval0
  rw [MakeChecks.laidMetH_plain _ _ _ (by kernel_rfl)] at hL
  have HM := monthTab hL
  refine (walk c0 W w0 hL hsh).mono fun e W' ⟨he, bel⟩ => ?_
  subst he
  exact ⟨_, rfl, _, _, _, [], _, _, hW', trodAll_mk1 (shut_bool Tryd.underlying4 _), (trodAll_cons_mk (Below.trod laidOut (by kernel_rfl) (of_decide_eq_true (by kernel_rfl)) k0 bel lt0) trodAll_mk0), month_vars hgv htv hvar hdv HM bel, bel.frame _, fun h => by cases h⟩

theorem said : Rows.FnExactAuthTextSaid :=
  OpenClaim.holds_of_cond 9 Tryd.f9 rfl rfl rfl rfl rfl rfl rfl ⟨rfl, rfl, rfl, rfl, rfl⟩ rfl rfl rfl rfl rfl (by kernel_rfl) Tryd.func9 (by kernel_rfl)
    (of_decide_eq_true (by kernel_rfl)) (by unfold Func.isWrapper; first | (rw [if_pos (by decide +kernel)]; kernel_rfl) | (rw [if_neg (by decide +kernel)]; exact ⟨rfl, rfl⟩))
    (fun os started H enc _ F => by rw [OpenClaim.pre_eq_preRow]; exact lifted os started H enc F)

theorem proved : Rows.FnExactAuthTextCardSaid :=
  Claim7.holds_tied_plain_at .later [] _ _ _ _ said (fun _ h => by cases h) (by kernel_rfl) (fun _ h => by cases h) fnExactAuthText_row_tie rfl ⟨rfl, rfl⟩ (by kernel_rfl) rfl
    (fun f fn hf hfn => by
      obtain rfl : f = 9 := Option.some.inj ((show Tryd.prog.funcNamed "loop.example/g00126/laws.FnExactAuthText" = some 9 by kernel_rfl).symm.trans hf) |>.symm
      obtain rfl : fn = Tryd.f9 := (Option.some.inj (Tryd.func9.symm.trans hfn)).symm
      refine ⟨by kernel_rfl, fun j t ht => ?_⟩
      rw [Tryd.params9] at ht
      have hm : t ∈ [58] := by have := Array.mem_of_getElem? ht; simp at this ⊢; first | exact this | exact this.symm | omega | (rcases this with h | h | h | h <;> simp [h])
      have hall : ([58].all fun u => !Tryd.prog.wantsStandIn u) = true := by kernel_rfl
      have h1 := List.all_eq_true.1 hall t hm
      have h2 : Tryd.prog.wantsStandIn t = false := by simpa using h1
      exact h2)
    (by kernel_rfl)
end Go.Proofs.YtpjfigjgamlcdaaDoor.fnExactAuthText
