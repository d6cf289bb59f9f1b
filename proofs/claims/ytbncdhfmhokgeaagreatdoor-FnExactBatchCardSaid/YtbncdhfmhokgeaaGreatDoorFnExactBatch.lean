/- Proved: at every list of messages (of at most 1048576 messages, fields and bytes of data together; a greater one passes by the law's own first test) the program's Batch answers as the specification's, both results, and leaves its argument as it was. What it takes: the listed tables of Go's library hold what the library's text lays (the card ties them to the program). No other conditions. -/
import Derived.Test.YtbncdhfmhokgeaaGreatDoorJFnExactBatch1a
import Derived.Test.YtbncdhfmhokgeaaGreatDoorKFnExactBatchSBat
import Derived.Test.YtbncdhfmhokgeaaGreatDoorKFnExactBatchMsgsLaw
namespace Go.Proofs.YtbncdhfmhokgeaaGreatDoor.fnExactBatch
open Go.ChangeShapes Go.WideShapes Go.ChangeAt Go.RowKit
open Go.ChangeMaps (open_string shut_string)

theorem good_of {xs ys : List MV} {base : Nat} (hp : plainM ys = plainM xs) (hb : ∀ y ∈ ys, Behind base y) (hs : ∀ m ∈ plainM xs, (m.2.length : Int) + sumF m.2 ≤ 1048576) : GoodMs ys ∧ SmallM ys := by
  refine ⟨fun y hy => ?_, fun y hy => ?_⟩
  · obtain ⟨g, h1, h2, h3⟩ := hb y hy
    exact ⟨g, 0, h1, h3⟩
  · have := hs _ (hp ▸ plainM_mem hy)
    simp only at this
    omega

set_option maxRecDepth 100000 in
set_option maxHeartbeats 1600000 in
theorem walk (b0 : Option Addr) (cap0 : Nat) (xs : List MV) (w : World) (w0 : MsgsAt w b0 xs ∧ MsgsBd xs) (hL : laidMet Tryz.prog Rows.fnExactBatchRow.laid w) (_hsh : w.ShapedOpen Tryz.prog) :
    Calls Tryz.prog 5 #[.slice b0 xs.length cap0] w fun e w' => e = .returned (.bool true) ∧ Below w.heap.size w w' := by
  obtain ⟨hz, hd⟩ := w0
  have HT : Hid (Pow10 w) := pow10_head hL.tail.tail
  have HZ : Hid (MsgsAt w b0 xs) := hz
  have HCS : Hid (Calls Tryz.prog 26 #[.slice b0 xs.length cap0, .int .i64 1048576] w fun e w' => e = .returned (.int .i64 (leftMM (plainM xs) 1048576)) ∧ Below w.heap.size w w') := szMessageS_any _ _ _ _ hz hd
  clear hL hz hd
  by_cases hneg : leftMM (plainM xs) 1048576 < 0
  · go_enter Tryz.func5, Tryz.ntmps5
    go_wp2_with fail
    refine HCS.out.mono ?_
    rintro e u1 ⟨rfl, b1⟩
    clear HCS
    generalize leftMM (plainM xs) 1048576 = r at hneg
    go_wp2
    go_ret
    exact ⟨rfl, b1⟩
  · have hsum := leftMM_mem (show 0 ≤ leftMM (plainM xs) 1048576 by omega)
    have hn : xs.length ≤ 1048576 := by have := hsum.1; rw [plainM_len] at this; omega
    have HSM : Hid (∀ m ∈ plainM xs, (m.2.length : Int) + sumF m.2 ≤ 1048576) := hsum.2
    have HD : Hid (∀ x ∈ xs, x.fs.length ≤ 1048576) := fun x hx => by have := hsum.2 _ (plainM_mem hx); simp only at this; omega
    clear hsum
    go_enter Tryz.func5, Tryz.ntmps5
    go_wp2_with fail
    refine HCS.out.mono ?_
    rintro e u1 ⟨rfl, b1⟩
    clear HCS
    obtain ⟨r, hr⟩ : ∃ r, leftMM (plainM xs) 1048576 = r := ⟨_, rfl⟩
    rw [hr] at hneg ⊢
    clear hr
    go_wp2_with fail
    refine (toMessageS_any _ _ _ _ (HZ.out.below b1) hn HD.out).mono ?_
    rintro e u2 ⟨ys, rfl, hp2, hm2, hb2, b2⟩
    have q2 := next b1 b2
    obtain ⟨hg2, hs2⟩ := good_of hp2 hb2 HSM.out
    have hl2 : ys.length = xs.length := by have := congrArg List.length hp2; rwa [plainM_len, plainM_len] at this
    have HC2 : Hid (Calls Tryz.prog 19 #[.slice (some ⟨u1.heap.size, 0, none⟩) xs.length xs.length] u2 fun e w' => e = .returned (.tuple #[.string ⟨(batchL (plainM xs)).toArray⟩, .bool (batchOk (plainM xs))]) ∧ Below u2.heap.size u2 w') := by
      have h5 := sBatch_any (some ⟨u1.heap.size, 0, none⟩) xs.length ys u2 hm2 hs2 hg2 (by omega)
      rw [hp2, hl2] at h5; exact h5
    clear b1 b2 hp2 hm2 hb2 hg2 hs2 hl2
    go_wp2_with fail
    refine HC2.out.mono ?_
    rintro e u3 ⟨rfl, b3⟩
    have q3 := next q2 b3
    clear HC2 b3 q2
    go_wp2_with fail
    refine (toMessageS_any _ _ _ _ (HZ.out.below q3) hn HD.out).mono ?_
    rintro e u4 ⟨zs, rfl, hp4, hm4, hb4, b4⟩
    have q4 := next q3 b4
    obtain ⟨hg4, hs4⟩ := good_of hp4 hb4 HSM.out
    have hl4 : zs.length = xs.length := by have := congrArg List.length hp4; rwa [plainM_len, plainM_len] at this
    have HC4 : Hid (Calls Tryz.prog 18 #[.slice (some ⟨u3.heap.size, 0, none⟩) xs.length xs.length] u4 fun e w' => e = .returned (.tuple #[.string ⟨(batchL (plainM xs)).toArray⟩, .bool (batchOk (plainM xs))]) ∧ Below u4.heap.size u4 w') := by
      have h5 := iBatch_any (some ⟨u3.heap.size, 0, none⟩) xs.length zs u4 hm4 hs4 hg4 (by omega) (HT.out.below q4)
      rw [hp4, hl4] at h5; exact h5
    have HM4 : Hid (MsgsAt u4 (some ⟨u3.heap.size, 0, none⟩) zs) := hm4
    have HP4 : Hid _ := hp4
    have HL4 : Hid _ := hl4
    clear hb4 hg4 hs4 hm4 hp4 hl4 q3 b4
    go_wp2_with fail
    refine HC4.out.mono ?_
    rintro e u5 ⟨rfl, b5⟩
    have q5 := next q4 b5
    have HM5 : Hid (MsgsAt u5 (some ⟨u3.heap.size, 0, none⟩) zs) := HM4.out.below b5
    obtain ⟨L, hL⟩ : ∃ L, batchL (plainM xs) = L := ⟨_, rfl⟩
    obtain ⟨K, hK⟩ : ∃ K, batchOk (plainM xs) = K := ⟨_, rfl⟩
    rw [hL, hK]
    clear HC4 b5 q4 HM4 hL hK
    go_wp2_with fail
    refine (toMessageS_any _ _ _ _ (HZ.out.below q5) hn HD.out).mono ?_
    rintro e u6 ⟨vs, rfl, hp6, hm6, hb6, b6⟩
    have q6 := next q5 b6
    have hl6 : vs.length = xs.length := by have := congrArg List.length hp6; rwa [plainM_len, plainM_len] at this
    have HC6 : Hid (Calls Tryz.prog 28 #[.slice (some ⟨u3.heap.size, 0, none⟩) xs.length xs.length, .slice (some ⟨u5.heap.size, 0, none⟩) xs.length xs.length] u6 fun e w' => e = .returned (.bool true) ∧ Below u6.heap.size u6 w') := by
      have h5 := eqMessageS_same (some ⟨u3.heap.size, 0, none⟩) (some ⟨u5.heap.size, 0, none⟩) xs.length xs.length zs vs u6 (HM5.out.below b6) hm6 (HP4.out.trans hp6.symm) (by have := HL4.out; omega) (fun z hz => by
        have h1 := HSM.out _ (HP4.out ▸ plainM_mem hz)
        simp only at h1
        omega)
      rw [HL4.out, hl6] at h5; exact h5
    clear hp6 hm6 hb6 b6 hl6 q5
    go_wp2_with fail
    refine HC6.out.mono ?_
    rintro e u7 ⟨rfl, b7⟩
    have q7 := next q6 b7
    clear HC6 b7 q6
    go_wp2
    go_ret
    exact ⟨rfl, q7⟩

set_option maxRecDepth 100000 in
theorem lifted (os : Os) (started : os.Started) (H : Type) (enc : TypeId × Value → H) (F : Stop.Interp) :
    ReturnsInHanded {} Tryz.checked os 5 .any ((OpenSpec.ofChange Rows.fnExactBatchSpec).preRow enc Tryz.prog Tryz.f5 Rows.fnExactBatchRow.domain false Rows.fnExactBatchRow.laid)
      (((OpenSpec.ofChange Rows.fnExactBatchSpec).at F).post enc Tryz.prog Tryz.f5 false true false false) := by
  refine returnsInHanded_of_row (C := Tryz.checked) (s := OpenSpec.ofChange Rows.fnExactBatchSpec) own started (by kernel_rfl) Tryz.func5
    (ChangeSpec.witness_shaped (enc := enc) (C := Tryz.checked) (os := os) (X := fun w _ => laidMetH Tryz.prog Rows.fnExactBatchRow.laid w) false (World.laidAll Tryz.prog os Rows.fnExactBatchRow.laid) #[.slice none 0 0] 8 (World.laidAll_os _ _ _)
      (World.shaped_of_ZipB (by kernel_rfl) (by kernel_rfl)) (by kernel_rfl) (by kernel_rfl) (by kernel_rfl)
      (by rw [MakeChecks.laidMetH_plain _ _ _ (by kernel_rfl)]; exact laidMet_laidAll _ (by kernel_rfl) (by kernel_rfl))) ?_
  intro W base args ds gs before hval0 hW _ _ _ hL hsh _
  have hval : ∀ (j : Nat) t v, Tryz.f5.params[j]? = some t → args[j]? = some v → Value.okWide Tryz.prog W .any base t v := hval0
  have hW' := hW
  obtain ⟨p, q, hA0, hV, rfl, _, _⟩ := hW
  have hA : DataW.TrodAll enc Tryz.prog W 0 (fun _ => true) true Tryz.f5.params.toList args.toList ds p := hA0
  rw [Tryz.params5] at hA hval
  obtain ⟨v0, vs0, d0, ds0, p0, q0, hargs, rfl, rfl, h0, r0⟩ := trodAll_cons hA
  obtain ⟨rfl, rfl, rfl⟩ := trodAll_nil r0
  obtain rfl : args = #[v0] := by cases args; simp_all
  obtain ⟨rfl, rfl⟩ := trodVars_none hV
  have k0 := h0
  have lt0 : ∀ x ∈ p0, x.block < W.heap.size := by obtain ⟨m, hm⟩ := k0; exact DataW.trod_lt m _ _ _ hm
  obtain ⟨b0, cap0, xs0, rfl, w0⟩ := is_msgs Tryz.underlying44 Tryz.underlying97 (by kernel_rfl) rfl rfl (by kernel_rfl) (by kernel_rfl) Tryz.underlying3 Tryz.underlying95 Tryz.underlying182 (by kernel_rfl) rfl rfl (by kernel_rfl) (by kernel_rfl) Tryz.underlying3 Tryz.underlying9 (hval 0 44 v0 rfl rfl) h0
  clear hA0 hval0
  rw [MakeChecks.laidMetH_plain _ _ _ (by kernel_rfl)] at hL
  refine (walk b0 cap0 xs0 W w0 hL hsh).mono fun e W' ⟨he, bel⟩ => ?_
  subst he
  exact ⟨_, rfl, _, _, _, [], _, [], hW', trodAll_mk1 (shut_bool Tryz.underlying4 _), (trodAll_cons_mk (Below.trod laidOut (by kernel_rfl) (of_decide_eq_true (by kernel_rfl)) k0 bel lt0) trodAll_mk0), rfl, bel.frame _, fun h => by cases h⟩

theorem said : Rows.FnExactBatchSaid :=
  OpenClaim.holds_of_cond 5 Tryz.f5 rfl rfl rfl rfl rfl rfl rfl ⟨rfl, rfl, rfl, rfl, rfl⟩ rfl rfl rfl rfl rfl (by kernel_rfl) Tryz.func5 (by kernel_rfl)
    (of_decide_eq_true (by kernel_rfl)) (by unfold Func.isWrapper; first | (rw [if_pos (by decide +kernel)]; kernel_rfl) | (rw [if_neg (by decide +kernel)]; exact ⟨rfl, rfl⟩))
    (fun os started H enc _ F => by rw [OpenClaim.pre_eq_preRow]; exact lifted os started H enc F)

theorem proved : Rows.FnExactBatchCardSaid :=
  Claim7.holds_tied_plain_at .later [] _ _ _ _ said (fun _ h => by cases h) (by kernel_rfl) (fun _ h => by cases h) fnExactBatch_row_tie rfl ⟨rfl, rfl⟩ (by kernel_rfl) rfl
    (fun f fn hf hfn => by
      obtain rfl : f = 5 := Option.some.inj ((show Tryz.prog.funcNamed "loop.example/g00126/laws.FnExactBatch" = some 5 by kernel_rfl).symm.trans hf) |>.symm
      obtain rfl : fn = Tryz.f5 := (Option.some.inj (Tryz.func5.symm.trans hfn)).symm
      refine ⟨by kernel_rfl, fun j t ht => ?_⟩
      rw [Tryz.params5] at ht
      have hm : t ∈ [44] := by have := Array.mem_of_getElem? ht; simp at this ⊢; first | exact this | exact this.symm
      have hall : ([44].all fun u => !Tryz.prog.wantsStandIn u) = true := by kernel_rfl
      have h1 := List.all_eq_true.1 hall t hm
      have h2 : Tryz.prog.wantsStandIn t = false := by simpa using h1
      exact h2)
    (by kernel_rfl)
end Go.Proofs.YtbncdhfmhokgeaaGreatDoor.fnExactBatch
