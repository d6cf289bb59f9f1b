/- Proved: for whatever bytes the draws are made of (up to 1048576; more pass by the law's own first test): PadNum answers as the specification's, a number comes back from its padded digits, which are plain and just so many, and NumOf and Plain answer as the specification's. What it takes: the listed tables of Go's library hold what the library's text lays (the card ties that to the program). -/
import Derived.Test.YtjjmjnbnoeaifaaDoorPEnv
import Derived.Test.YtjjmjnbnoeaifaaDoorDrawV
namespace Go.Proofs.YtjjmjnbnoeaifaaDoor.fnPad
open Go.ChangeShapes Go.WideShapes Go.ChangeAt Go.RowKit

set_option maxHeartbeats 2000000 in
theorem walk (a0 : Option Addr) (len0 cap0 : Nat) (z0 : List Int) (w : World) (w0 : IsRow .u8 w a0 len0 cap0 z0) (hL : laidMet Tryd.prog Rows.fnPadRow.laid w) (_hsh : w.ShapedOpen Tryd.prog) :
    Calls Tryd.prog 4 #[.slice a0 len0 cap0] w fun e w' => e = .returned (.bool true) ∧ Below w.heap.size w w' := by
  have HT : Hid (Pow10 w) := pow10 hL
  clear hL _hsh
  by_cases hbig : (1048576 : Int) < (len0 : Int)
  · have hdec : decide ((1048576 : Int) < (len0 : Int)) = true := decide_eq_true hbig
    clear w0
    go_enter Tryd.func4, Tryd.ntmps4
    go_wp2_with fail
    refine (big_any _ _ _ _).mono ?_
    rintro e w1 ⟨rfl, hw1⟩
    subst hw1
    rw [hdec]
    go_wp2
    go_ret
    exact ⟨rfl, Below.refl _ _⟩
  · have hdec : decide ((1048576 : Int) < (len0 : Int)) = false := decide_eq_false hbig
    have hn : len0 ≤ 1048576 := by omega
    have HW : Hid (IsRow .u8 w a0 len0 cap0 z0) := w0
    clear w0 hbig
    go_enter Tryd.func4, Tryd.ntmps4
    go_wp2_with fail
    refine (big_any _ _ _ _).mono ?_
    rintro e w1 ⟨rfl, hw1⟩
    subst hw1
    rw [hdec]
    clear hdec
    go_wp2_with fail
    refine (drawPN_any _ _ _ _ _ HW.out hn).mono ?_
    rintro e w2 ⟨x, n, rfl, b2⟩
    go_wp2_with fail
    refine (iPadNum_any _ _ _ (Pow10.below HT.out b2)).mono ?_
    rintro e w3 ⟨rfl, b3⟩
    have B3 := next b2 b3
    clear b2 b3
    go_wp2_with fail
    refine (drawNO_any _ _ _ _ _ (row_below HW.out B3) hn).mono ?_
    rintro e w4 ⟨t, rfl, ht, b4⟩
    have B4 := next B3 b4
    clear B3 b4
    go_wp2_with fail
    refine (sPadNum_any _ _ _).mono ?_
    rintro e w5 ⟨rfl, b5⟩
    have B5 := next B4 b5
    clear B4 b5
    have htl : t.length ≤ 1099511627776 := by omega
    rcases padT_cases x n with hp | ⟨a, m, rfl, rfl, h1, h2, h3, hp⟩
    · rw [hp]
      clear hp
      go_wp2_with fail
      refine (iNumOf_any t _ htl).mono ?_
      rintro e w6 ⟨rfl, hw⟩
      subst hw
      go_wp2_with fail
      refine (sNumOf_any t _ htl).mono ?_
      rintro e w6 ⟨rfl, hw⟩
      subst hw
      go_wp2_with fail
      refine (iPlain_any t _ htl).mono ?_
      rintro e w6 ⟨rfl, hw⟩
      subst hw
      go_wp2_with fail
      refine (sPlain_any t _ htl).mono ?_
      rintro e w6 ⟨rfl, hw⟩
      subst hw
      go_wp2
      go_ret
      exact ⟨rfl, B5⟩
    · rw [hp]
      have hlen := padN_len h1 h3
      have HNum : Hid _ := padN_num h1 h2 h3
      have HPl : Hid _ := dig_plain (padN_dig a m)
      clear hp h3
      generalize padN a m = p at hlen HNum HPl
      have hpne : (p == []) = false := by cases p with
        | nil => simp at hlen; omega
        | cons c r => rfl
      have hpne' : ¬ p = [] := by simpa using hpne
      have hpl : p.length ≤ 1099511627776 := by omega
      have hlei : (p.length : Int) = (m : Int) := by omega
      go_wp2_with fail
      refine (iNumOf_any p _ hpl).mono ?_
      rintro e w6 ⟨rfl, hw⟩
      subst hw
      rw [HNum.out]
      go_wp2_with fail
      refine (iPlain_any p _ hpl).mono ?_
      rintro e w6 ⟨rfl, hw⟩
      subst hw
      rw [HPl.out]
      go_wp2_with fail
      refine (iNumOf_any t _ htl).mono ?_
      rintro e w6 ⟨rfl, hw⟩
      subst hw
      go_wp2_with fail
      refine (sNumOf_any t _ htl).mono ?_
      rintro e w6 ⟨rfl, hw⟩
      subst hw
      go_wp2_with fail
      refine (iPlain_any t _ htl).mono ?_
      rintro e w6 ⟨rfl, hw⟩
      subst hw
      go_wp2_with fail
      refine (sPlain_any t _ htl).mono ?_
      rintro e w6 ⟨rfl, hw⟩
      subst hw
      go_wp2
      go_ret
      exact ⟨rfl, B5⟩

set_option maxRecDepth 100000 in
theorem lifted (os : Os) (started : os.Started) (H : Type) (enc : TypeId × Value → H) (F : Stop.Interp) :
    ReturnsInHanded {} Tryd.checked os 4 .any ((OpenSpec.ofChange Rows.fnPadSpec).preRow enc Tryd.prog Tryd.f4 Rows.fnPadRow.domain false Rows.fnPadRow.laid)
      (((OpenSpec.ofChange Rows.fnPadSpec).at F).post enc Tryd.prog Tryd.f4 false true false false) := by
  refine returnsInHanded_of_row (C := Tryd.checked) (s := OpenSpec.ofChange Rows.fnPadSpec) own started (by kernel_rfl) Tryd.func4
    (ChangeSpec.witness_shaped (enc := enc) (C := Tryd.checked) (os := os) (X := fun w _ => laidMetH Tryd.prog Rows.fnPadRow.laid w) false (World.laidAll Tryd.prog os Rows.fnPadRow.laid) #[.slice none 0 0] 8 (World.laidAll_os _ _ _)
      (World.shaped_of_ZipB (by kernel_rfl) (by kernel_rfl)) (by kernel_rfl) (by kernel_rfl) (by kernel_rfl)
      (by rw [MakeChecks.laidMetH_plain _ _ _ (by kernel_rfl)]; exact laidMet_laidAll _ (by kernel_rfl) (by kernel_rfl))) ?_
  intro W base args ds gs before hval0 hW _ _ _ hL hsh _
  have hval : ∀ (j : Nat) t v, Tryd.f4.params[j]? = some t → args[j]? = some v → Value.okWide Tryd.prog W .any base t v := hval0
  have hW' := hW
  obtain ⟨p, q, hA0, hV, rfl, _, _⟩ := hW
  have hA : DataW.TrodAll enc Tryd.prog W 0 (fun _ => true) true Tryd.f4.params.toList args.toList ds p := hA0
  rw [Tryd.params4] at hA hval
  obtain ⟨v0, vs0, d0, ds0, p0, q0, hargs, rfl, rfl, h0, r0⟩ := trodAll_cons hA
  obtain ⟨rfl, rfl, rfl⟩ := trodAll_nil r0
  obtain rfl : args = #[v0] := by cases args; simp_all
  obtain ⟨rfl, rfl⟩ := trodVars_none hV
  obtain ⟨a0, len0, cap0, rfl⟩ := okWide_slice Tryd.underlying22 (hval 0 22 v0 rfl rfl)
  have k0 := h0
  have lt0 : ∀ x ∈ p0, x.block < W.heap.size := by obtain ⟨m, hm⟩ := k0; exact DataW.trod_lt m _ _ _ hm
  obtain ⟨z0, w0⟩ : ∃ zs, IsRow .u8 W a0 len0 cap0 zs := is_row Tryd.underlying22 Tryd.underlying5 (by kernel_rfl) h0
  clear hA0 hval0
  rw [MakeChecks.laidMetH_plain _ _ _ (by kernel_rfl)] at hL
  refine (walk a0 len0 cap0 z0 W w0 hL hsh).mono fun e W' ⟨he, bel⟩ => ?_
  subst he
  exact ⟨_, rfl, _, _, _, [], _, [], hW', trodAll_mk1 (shut_bool Tryd.underlying4 _), (trodAll_cons_mk (Below.trod laidOut (by kernel_rfl) (of_decide_eq_true (by kernel_rfl)) k0 bel lt0) trodAll_mk0), rfl, bel.frame _, fun h => by cases h⟩

theorem said : Rows.FnPadSaid :=
  OpenClaim.holds_of_cond 4 Tryd.f4 rfl rfl rfl rfl rfl rfl rfl ⟨rfl, rfl, rfl, rfl, rfl⟩ rfl rfl rfl rfl rfl (by kernel_rfl) Tryd.func4 (by kernel_rfl)
    (of_decide_eq_true (by kernel_rfl)) (by unfold Func.isWrapper; first | (rw [if_pos (by decide +kernel)]; kernel_rfl) | (rw [if_neg (by decide +kernel)]; exact ⟨rfl, rfl⟩))
    (fun os started H enc _ F => by rw [OpenClaim.pre_eq_preRow]; exact lifted os started H enc F)

theorem proved : Rows.FnPadCardSaid :=
  Claim7.holds_tied_plain_at .later [] _ _ _ _ said (fun _ h => by cases h) (by kernel_rfl) (fun _ h => by cases h) fnPad_row_tie rfl ⟨rfl, rfl⟩ (by kernel_rfl) rfl
    (fun f fn hf hfn => by
      obtain rfl : f = 4 := Option.some.inj ((show Tryd.prog.funcNamed "loop.example/g00126/laws.FnPad" = some 4 by kernel_rfl).symm.trans hf) |>.symm
      obtain rfl : fn = Tryd.f4 := (Option.some.inj (Tryd.func4.symm.trans hfn)).symm
      refine ⟨by kernel_rfl, fun j t ht => ?_⟩
      rw [Tryd.params4] at ht
      have hm : t ∈ [22] := by have := Array.mem_of_getElem? ht; simp at this ⊢; first | exact this | exact this.symm
      have hall : ([22].all fun u => !Tryd.prog.wantsStandIn u) = true := by kernel_rfl
      have h1 := List.all_eq_true.1 hall t hm
      have h2 : Tryd.prog.wantsStandIn t = false := by simpa using h1
      exact h2)
    (by kernel_rfl)
end Go.Proofs.YtjjmjnbnoeaifaaDoor.fnPad
