/- Proved: at every list of tags (of at most 1048576 tags and bytes of data together; a greater one passes by the law's own first test) the program's PutTags answers as the specification's, both results, and leaves its argument as it was. What it takes: the listed tables of Go's library hold what the library's text lays (the card ties that to the program). -/
import Derived.Test.YtijlbceejpjfiaaDoorMEnv
import Derived.Test.YtijlbceejpjfiaaDoorFPutT
namespace Go.Proofs.YtijlbceejpjfiaaDoor.fnExactPutTags
open Go.ChangeShapes Go.WideShapes Go.ChangeAt Go.RowKit

theorem all_le {fs : List Fld} (h : sumF fs ≤ 1048576) : ∀ f ∈ fs, f.2.length ≤ 1099511627776 := fun f hf => by have := sumF_mem hf; omega

set_option maxRecDepth 100000 in
set_option maxHeartbeats 1600000 in
theorem walk (b0 : Option Addr) (cap0 : Nat) (fs : List Fld) (w : World) (w0 : FldsAt w b0 fs ∧ FldsBd fs) (hL : laidMet Tryd.prog Rows.fnExactPutTagsRow.laid w) (_hsh : w.ShapedOpen Tryd.prog) :
    Calls Tryd.prog 4 #[.slice b0 fs.length cap0] w fun e w' => e = .returned (.bool true) ∧ Below w.heap.size w w' := by
  obtain ⟨hz, hd⟩ := w0
  have HT : Hid (Pow10 w) := pow10_head hL.tail.tail
  clear hL
  by_cases hneg : leftM fs 1048576 < 0
  · go_enter Tryd.func4, Tryd.ntmps4
    go_wp2_with fail
    refine (szTagS_any _ _ _ _ hz hd).mono ?_
    rintro e u1 ⟨rfl, b1⟩
    clear hz hd
    generalize leftM fs 1048576 = r at hneg
    go_wp2
    go_ret
    exact ⟨rfl, b1⟩
  · have hsum := leftM_sum (show 0 ≤ leftM fs 1048576 by omega)
    have hn : fs.length ≤ 1048576 := by omega
    have HS := all_le (fs := fs) (by omega)
    clear hsum
    go_enter Tryd.func4, Tryd.ntmps4
    go_wp2_with fail
    refine (szTagS_any _ _ _ _ hz hd).mono ?_
    rintro e u1 ⟨rfl, b1⟩
    have z1 := hz.below b1
    clear hd
    obtain ⟨r, hr⟩ : ∃ r, leftM fs 1048576 = r := ⟨_, rfl⟩
    rw [hr] at hneg ⊢
    clear hr
    go_wp2_with fail
    refine (toTagS_any _ _ _ _ z1 hn).mono ?_
    rintro e u2 ⟨rfl, o2, b2⟩
    have q2 := next b1 b2
    go_wp2_with fail
    refine (sPutTags_any _ _ _ _ (flds_of_own o2) (by omega) HS).mono ?_
    rintro e u3 ⟨rfl, b3⟩
    have q3 := next q2 b3
    have z3 := hz.below q3
    clear z1 b1 b2 b3 q2 o2
    go_wp2_with fail
    refine (toTagS_any _ _ _ _ z3 hn).mono ?_
    rintro e u4 ⟨rfl, o4, b4⟩
    have q4 := next q3 b4
    have f4 := flds_of_own o4
    clear b4 z3 q3 o4
    go_wp2_with fail
    refine (iPutTags_any _ _ _ _ f4 (by omega) HS (HT.out.below q4)).mono ?_
    rintro e u5 ⟨rfl, b5⟩
    have q5 := next q4 b5
    have f5 := f4.below b5
    have z5 := hz.below q5
    generalize putL fs = ol
    generalize putOk fs = ok
    clear b5 f4 q4
    go_wp2_with fail
    refine (toTagS_any _ _ _ _ z5 hn).mono ?_
    rintro e u6 ⟨rfl, o6, b6⟩
    have q6 := next q5 b6
    have f6 := f5.below b6
    go_wp2_with fail
    refine (eqTagS_any _ _ _ _ _ _ _ f6 (flds_of_own o6) (by omega) (by omega)).mono ?_
    rintro e u7 ⟨rfl, b7⟩
    have q7 := next q6 b7
    clear b7 b6 o6 f6 q6 q5 f5 z5
    rw [decide_eq_true (rfl : fs = fs)]
    go_wp2
    go_ret
    exact ⟨rfl, q7⟩

set_option maxRecDepth 100000 in
theorem lifted (os : Os) (started : os.Started) (H : Type) (enc : TypeId × Value → H) (F : Stop.Interp) :
    ReturnsInHanded {} Tryd.checked os 4 .any ((OpenSpec.ofChange Rows.fnExactPutTagsSpec).preRow enc Tryd.prog Tryd.f4 Rows.fnExactPutTagsRow.domain false Rows.fnExactPutTagsRow.laid)
      (((OpenSpec.ofChange Rows.fnExactPutTagsSpec).at F).post enc Tryd.prog Tryd.f4 false true false false) := by
  refine returnsInHanded_of_row (C := Tryd.checked) (s := OpenSpec.ofChange Rows.fnExactPutTagsSpec) own started (by kernel_rfl) Tryd.func4
    (ChangeSpec.witness_shaped (enc := enc) (C := Tryd.checked) (os := os) (X := fun w _ => laidMetH Tryd.prog Rows.fnExactPutTagsRow.laid w) false (World.laidAll Tryd.prog os Rows.fnExactPutTagsRow.laid) #[.slice none 0 0] 8 (World.laidAll_os _ _ _)
      (World.shaped_of_ZipB (by kernel_rfl) (by kernel_rfl)) (by kernel_rfl) (by kernel_rfl) (by kernel_rfl)
      (by rw [MakeChecks.laidMetH_plain _ _ _ (by kernel_rfl)]; exact laidMet_laidAll _ (by kernel_rfl) (by kernel_rfl))) ?_
  intro W base args ds gs before hval0 hW _ _ _ hL hsh _
  have hval : ∀ (j : Nat) t v, Tryd.f4.params[j]? = some t → args[j]? = some v → Value.okWide Tryd.prog W .any base t v := hval0
  have hW' := hW
  obtain ⟨p, q, hA0, hV, rfl, _, _⟩ := hW
  have hA : DataW.TrodAll enc Tryd.prog W 0 (fun _ => true) true Tryd.f4.params.toList args.toList ds p := hA0
  rw [Tryd.params4] at hA hval
  obtain ⟨v0, vs0, d0, ds0, p0, q0, hargs, rfl, rfl, h0, r0⟩ := trodAll_cons hA
  obtain ⟨rfl, rfl, rfl⟩ := trodAll_nil r0
  obtain rfl : args = #[v0] := by cases args; simp_all
  obtain ⟨rfl, rfl⟩ := trodVars_none hV
  have k0 := h0
  have lt0 : ∀ x ∈ p0, x.block < W.heap.size := by obtain ⟨m, hm⟩ := k0; exact DataW.trod_lt m _ _ _ hm
  obtain ⟨b0, cap0, fs0, rfl, w0⟩ := is_flds Tryd.underlying38 Tryd.underlying66 (by kernel_rfl) rfl rfl (by kernel_rfl) (by kernel_rfl) Tryd.underlying3 Tryd.underlying9 (hval 0 38 v0 rfl rfl) h0
  clear hA0 hval0
  rw [MakeChecks.laidMetH_plain _ _ _ (by kernel_rfl)] at hL
  refine (walk b0 cap0 fs0 W w0 hL hsh).mono fun e W' ⟨he, bel⟩ => ?_
  subst he
  exact ⟨_, rfl, _, _, _, [], _, [], hW', trodAll_mk1 (shut_bool Tryd.underlying4 _), (trodAll_cons_mk (Below.trod laidOut (by kernel_rfl) (of_decide_eq_true (by kernel_rfl)) k0 bel lt0) trodAll_mk0), rfl, bel.frame _, fun h => by cases h⟩

theorem said : Rows.FnExactPutTagsSaid :=
  OpenClaim.holds_of_cond 4 Tryd.f4 rfl rfl rfl rfl rfl rfl rfl ⟨rfl, rfl, rfl, rfl, rfl⟩ rfl rfl rfl rfl rfl (by kernel_rfl) Tryd.func4 (by kernel_rfl)
    (of_decide_eq_true (by kernel_rfl)) (by unfold Func.isWrapper; first | (rw [if_pos (by decide +kernel)]; kernel_rfl) | (rw [if_neg (by decide +kernel)]; exact ⟨rfl, rfl⟩))
    (fun os started H enc _ F => by rw [OpenClaim.pre_eq_preRow]; exact lifted os started H enc F)

theorem proved : Rows.FnExactPutTagsCardSaid :=
  Claim7.holds_tied_plain_at .later [] _ _ _ _ said (fun _ h => by cases h) (by kernel_rfl) (fun _ h => by cases h) fnExactPutTags_row_tie rfl ⟨rfl, rfl⟩ (by kernel_rfl) rfl
    (fun f fn hf hfn => by
      obtain rfl : f = 4 := Option.some.inj ((show Tryd.prog.funcNamed "loop.example/g00126/laws.FnExactPutTags" = some 4 by kernel_rfl).symm.trans hf) |>.symm
      obtain rfl : fn = Tryd.f4 := (Option.some.inj (Tryd.func4.symm.trans hfn)).symm
      refine ⟨by kernel_rfl, fun j t ht => ?_⟩
      rw [Tryd.params4] at ht
      have hm : t ∈ [38] := by have := Array.mem_of_getElem? ht; simp at this ⊢; first | exact this | exact this.symm
      have hall : ([38].all fun u => !Tryd.prog.wantsStandIn u) = true := by kernel_rfl
      have h1 := List.all_eq_true.1 hall t hm
      have h2 : Tryd.prog.wantsStandIn t = false := by simpa using h1
      exact h2)
    (by kernel_rfl)
end Go.Proofs.YtijlbceejpjfiaaDoor.fnExactPutTags
