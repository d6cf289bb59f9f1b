/- Proved: whatever bytes are drawn from, the program's MoneyText answers as the specification's, an amount comes back from its text by ReadMoney, and what ReadMoney takes is what the specification's takes, and is the text of what it answers. What it takes: the listed tables and errors of Go's library hold what the library's text lays (the card ties that to the program). -/
import Derived.Test.YtkhohbkdfgnmnaaDoorCards
import Derived.Test.YtkhohbkdfgnmnaaDoorTie
import Derived.Test.YtkhohbkdfgnmnaaDoorBase
import Derived.Test.YtkhohbkdfgnmnaaDoorReadEnv
import Derived.Test.YtkhohbkdfgnmnaaDoorDrawText
import Derived.LaidMore
import Derived.Deep.DeepHandedRow
import Derived.JoinedCond
import Derived.Lay
import Derived.SevenTiedAt
import Derived.Stop.Joined
namespace Go.Proofs.YtkhohbkdfgnmnaaDoor.fnMoneyText
open Go.ChangeShapes Go.WideShapes Go.ChangeAt Go.RowKit

theorem sameLaid : Rows.fnMoneyTextRow.laid = Rows.fnExactReadMoneyRow.laid := rfl

set_option maxHeartbeats 1000000 in
theorem walk (a0 : Option Addr) (len0 cap0 : Nat) (z0 : List Int) (w : World) (w0 : IsRow .u8 w a0 len0 cap0 z0) (hL : laidMet Tryd.prog Rows.fnMoneyTextRow.laid w) (hsh : w.ShapedOpen Tryd.prog) :
    Calls Tryd.prog 3 #[.slice a0 len0 cap0] w fun e w' => e = .returned (.bool true) ∧ Below w.heap.size w w' := by
  have HT : Hid (ReadEnv w) := readEnv (sameLaid ▸ hL) hsh
  clear hL hsh
  by_cases hbig : (1048576 : Int) < (len0 : Int)
  · go_enter Tryd.func3, Tryd.ntmps3
    go_wp2_with (go_at_call 6; refine (big_any _ _ _ _).mono ?_; rintro e w1 ⟨rfl, hw1⟩; subst hw1)
    go_ret
    exact ⟨rfl, Below.refl _ _⟩
  · have hn : len0 ≤ 1048576 := by omega
    go_enter Tryd.func3, Tryd.ntmps3
    go_wp2_with fail
    refine (big_any _ _ _ _).mono ?_
    rintro e w1 ⟨rfl, hw1⟩
    subst hw1
    go_wp2_with fail
    refine (drawMoneyText_any _ _ _ _ _ w0 hn).mono ?_
    rintro e w1 ⟨x, cur, rfl, fx, fc, b1⟩
    go_wp2_with fail
    refine (iMoneyText_any _ _ _ (fits_wf fc) (HT.out.below b1).1).mono ?_
    rintro e w2 ⟨rfl, b2⟩
    have B2 := next b1 b2
    clear b1 b2
    go_wp2_with fail
    refine (sMoneyText_any _ _ _).mono ?_
    rintro e w3 ⟨rfl, b3⟩
    have B3 := next B2 b3
    clear B2 b3
    have hl := moneyT_len x cur
    have HB : Hid (moneyT x cur ≠ [] → implRead (moneyT x cur) cur = some x) := read_back
    generalize moneyT x cur = s at hl HB
    by_cases hs : s = []
    · subst hs
      clear HB
      go_wp2_with fail
      refine (drawReadMoney_any _ _ _ _ _ (row_below w0 B3) hn).mono ?_
      rintro e w4 ⟨u, k, rfl, hu, fk, b4⟩
      have B4 := next B3 b4
      clear b4
      go_wp2_with fail
      refine (iRead_any _ _ _ hu (fits_wf fk) (HT.out.below B4)).mono ?_
      rintro e w5 ⟨rfl, b5⟩
      have B5 := next B4 b5
      clear b5
      go_wp2_with fail
      refine (sRead_any _ _ _ hu).mono ?_
      rintro e w6 ⟨rfl, b6⟩
      have B6 := next B5 b6
      clear b6
      rw [← read_same]
      cases hr : implRead u k with
      | none =>
        go_wp2
        go_ret
        exact ⟨rfl, B6⟩
      | some y =>
        have HR : Hid _ := read_text hr
        go_wp2_with fail
        refine (iMoneyText_any _ _ _ (fits_wf fk) (HT.out.below B6).1).mono ?_
        rintro e w7 ⟨rfl, b7⟩
        rw [show moneyT y k = u from HR.out]
        go_wp2
        go_ret
        exact ⟨rfl, next B6 b7⟩
    · have hsb : (s == []) = false := by simpa using hs
      go_wp2_with fail
      refine (iRead_any _ _ _ (by omega) (fits_wf fc) (HT.out.below B3)).mono ?_
      rintro e w4 ⟨rfl, b4⟩
      have B4 := next B3 b4
      clear b4 B3
      rw [HB.out hs]
      clear HB
      go_wp2_with fail
      refine (drawReadMoney_any _ _ _ _ _ (row_below w0 B4) hn).mono ?_
      rintro e w4 ⟨u, k, rfl, hu, fk, b4⟩
      have B4' := next B4 b4
      clear b4 B4
      go_wp2_with fail
      refine (iRead_any _ _ _ hu (fits_wf fk) (HT.out.below B4')).mono ?_
      rintro e w5 ⟨rfl, b5⟩
      have B5 := next B4' b5
      clear b5
      go_wp2_with fail
      refine (sRead_any _ _ _ hu).mono ?_
      rintro e w6 ⟨rfl, b6⟩
      have B6 := next B5 b6
      clear b6
      rw [← read_same]
      cases hr : implRead u k with
      | none =>
        go_wp2
        go_ret
        exact ⟨rfl, B6⟩
      | some y =>
        have HR : Hid _ := read_text hr
        go_wp2_with fail
        refine (iMoneyText_any _ _ _ (fits_wf fk) (HT.out.below B6).1).mono ?_
        rintro e w7 ⟨rfl, b7⟩
        rw [show moneyT y k = u from HR.out]
        go_wp2
        go_ret
        exact ⟨rfl, next B6 b7⟩

set_option maxRecDepth 100000 in
theorem lifted (os : Os) (started : os.Started) (H : Type) (enc : TypeId × Value → H) (F : Stop.Interp) :
    ReturnsInHanded {} Tryd.checked os 3 .any ((OpenSpec.ofChange Rows.fnMoneyTextSpec).preRow enc Tryd.prog Tryd.f3 Rows.fnMoneyTextRow.domain false Rows.fnMoneyTextRow.laid)
      (((OpenSpec.ofChange Rows.fnMoneyTextSpec).at F).post enc Tryd.prog Tryd.f3 false true false false) := by
  refine returnsInHanded_of_row (C := Tryd.checked) (s := OpenSpec.ofChange Rows.fnMoneyTextSpec) own started (by kernel_rfl) Tryd.func3
    (ChangeSpec.witness_shaped (enc := enc) (C := Tryd.checked) (os := os) (X := fun w _ => laidMetH Tryd.prog Rows.fnMoneyTextRow.laid w) false (World.laidAll Tryd.prog os Rows.fnMoneyTextRow.laid) #[.slice none 0 0] 8 (World.laidAll_os _ _ _)
      (World.shaped_of_ZipB (by kernel_rfl) (by kernel_rfl)) (by kernel_rfl) (by kernel_rfl) (by kernel_rfl)
      (by rw [MakeChecks.laidMetH_plain _ _ _ (by kernel_rfl)]; exact laidMet_laidAll _ (by kernel_rfl) (by kernel_rfl))) ?_
  intro W base args ds gs before hval0 hW _ _ _ hL hsh _
  have hval : ∀ (j : Nat) t v, Tryd.f3.params[j]? = some t → args[j]? = some v → Value.okWide Tryd.prog W .any base t v := hval0
  have hW' := hW
  obtain ⟨p, q, hA0, hV, rfl, _, _⟩ := hW
  have hA : DataW.TrodAll enc Tryd.prog W 0 (fun _ => true) true Tryd.f3.params.toList args.toList ds p := hA0
  rw [Tryd.params3] at hA hval
  obtain ⟨v0, vs0, d0, ds0, p0, q0, hargs, rfl, rfl, h0, r0⟩ := trodAll_cons hA
  obtain ⟨rfl, rfl, rfl⟩ := trodAll_nil r0
  obtain rfl : args = #[v0] := by cases args; simp_all
  obtain ⟨rfl, rfl⟩ := trodVars_none hV
  obtain ⟨a0, len0, cap0, rfl⟩ := okWide_slice Tryd.underlying22 (hval 0 22 v0 rfl rfl)
  have k0 := h0
  have lt0 : ∀ x ∈ p0, x.block < W.heap.size := by obtain ⟨m, hm⟩ := k0; exact DataW.trod_lt m _ _ _ hm
  obtain ⟨z0, w0⟩ : ∃ zs, IsRow .u8 W a0 len0 cap0 zs := is_row Tryd.underlying22 Tryd.underlying5 (by kernel_rfl) h0
  clear hA0 hval0
  rw [MakeChecks.laidMetH_plain _ _ _ (by kernel_rfl)] at hL
  refine (walk a0 len0 cap0 z0 W w0 hL hsh).mono fun e W' ⟨he, bel⟩ => ?_
  subst he
  exact ⟨_, rfl, _, _, _, [], _, [], hW', trodAll_mk1 (shut_bool Tryd.underlying4 _), (trodAll_cons_mk (Below.trod laidOut (by kernel_rfl) (of_decide_eq_true (by kernel_rfl)) k0 bel lt0) trodAll_mk0), rfl, bel.frame _, fun h => by cases h⟩

theorem said : Rows.FnMoneyTextSaid :=
  OpenClaim.holds_of_cond 3 Tryd.f3 rfl rfl rfl rfl rfl rfl rfl ⟨rfl, rfl, rfl, rfl, rfl⟩ rfl rfl rfl rfl rfl (by kernel_rfl) Tryd.func3 (by kernel_rfl)
    (of_decide_eq_true (by kernel_rfl)) (by unfold Func.isWrapper; first | (rw [if_pos (by decide +kernel)]; kernel_rfl) | (rw [if_neg (by decide +kernel)]; exact ⟨rfl, rfl⟩))
    (fun os started H enc _ F => by rw [OpenClaim.pre_eq_preRow]; exact lifted os started H enc F)

theorem proved : Rows.FnMoneyTextCardSaid :=
  Claim7.holds_tied_plain_at .later [] _ _ _ _ said (fun _ h => by cases h) (by kernel_rfl) (fun _ h => by cases h) fnMoneyText_row_tie rfl ⟨rfl, rfl⟩ (by kernel_rfl) rfl
    (fun f fn hf hfn => by
      obtain rfl : f = 3 := Option.some.inj ((show Tryd.prog.funcNamed "loop.example/g00126/laws.FnMoneyText" = some 3 by kernel_rfl).symm.trans hf) |>.symm
      obtain rfl : fn = Tryd.f3 := (Option.some.inj (Tryd.func3.symm.trans hfn)).symm
      refine ⟨by kernel_rfl, fun j t ht => ?_⟩
      rw [Tryd.params3] at ht
      have hm : t ∈ [22] := by have := Array.mem_of_getElem? ht; simp at this ⊢; first | exact this | exact this.symm
      have hall : ([22].all fun u => !Tryd.prog.wantsStandIn u) = true := by kernel_rfl
      have h1 := List.all_eq_true.1 hall t hm
      have h2 : Tryd.prog.wantsStandIn t = false := by simpa using h1
      exact h2)
    (by kernel_rfl)
end Go.Proofs.YtkhohbkdfgnmnaaDoor.fnMoneyText
