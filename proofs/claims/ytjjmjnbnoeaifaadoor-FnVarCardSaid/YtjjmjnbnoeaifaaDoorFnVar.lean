/- Proved: for whatever bytes the draws are made of (up to 1048576; more pass by the law's own first test): PutVar takes just what the specification's takes, a text comes back from how long it is and itself behind another byte and with two behind it, and GetVar answers as the specification's. What it takes: the listed tables of Go's library hold what the library's text lays (the card ties that to the program). -/
import Derived.Test.YtjjmjnbnoeaifaaDoorPEnv
import Derived.Test.YtjjmjnbnoeaifaaDoorDrawV
namespace Go.Proofs.YtjjmjnbnoeaifaaDoor.fnVar
open Go.ChangeShapes Go.WideShapes Go.ChangeAt Go.RowKit

theorem wrap_eq (s : List UInt8) : (⟨#[120]⟩ : ByteArray) ++ ⟨s.toArray⟩ ++ ⟨#[121, 122]⟩ = ⟨(120 :: s ++ [121, 122]).toArray⟩ := by
  rw [show (⟨#[120]⟩ : ByteArray) ++ ⟨s.toArray⟩ = ⟨(120 :: s).toArray⟩ from ba_append [120] s]
  exact ba_append (120 :: s) [121, 122]
theorem var_back {s t : List UInt8} {wd : Int} (h : putV s wd = some t) : varL (120 :: t ++ [121, 122]) 1 wd = s ∧ varI (120 :: t ++ [121, 122]) 1 wd = 1 + (t.length : Int) ∧ (t.length : Int) = (s.length : Int) + wd ∧ (wd = 2 ∨ wd = 3) ∧ s.length ≤ 999 := by
  unfold putV at h
  split at h
  · rename_i hc
    have ht : padT s.length wd ++ s = t := Option.some.inj h
    have hwd := wOk_is hc.1
    obtain ⟨d, rfl⟩ := Int.eq_ofNat_of_zero_le (show 0 ≤ wd by omega)
    have hlim : lim (d : Int) < ((10 ^ d : Nat) : Int) ∧ lim (d : Int) ≤ 999 := by
      rcases (show d = 2 ∨ d = 3 by omega) with rfl | rfl
      · exact ⟨by decide, by decide⟩
      · exact ⟨by decide, by decide⟩
    have hs10 : s.length < 10 ^ d := by omega
    have hd1 : 1 ≤ d := by omega
    have hd18 : d ≤ 18 := by omega
    rw [padT_yes hd1 hd18 hs10] at ht
    have hpl := padN_len hd1 hs10
    have hpn := padN_num hd1 hd18 hs10
    obtain ⟨p, hp⟩ : ∃ p, padN s.length d = p := ⟨_, rfl⟩
    rw [hp] at ht hpl hpn
    subst ht
    have e1 : (((120 :: (p ++ s) ++ [121, 122]).drop 1).take d) = p := by
      rw [← hpl]; simp
    have hv : vNum (120 :: (p ++ s) ++ [121, 122]) 1 (d : Int) = (s.length : Int) := by
      unfold vNum
      rw [show (1 : Int).toNat = 1 from rfl, Int.toNat_natCast, e1, hpn]
    have hok : varOk (120 :: (p ++ s) ++ [121, 122]) 1 (d : Int) = true := varOk_yes hc.1 (by rw [hv]; simp; omega)
    have hy := var_yes hok
    rw [hv] at hy
    refine ⟨?_, ?_, by simp; omega, by omega, by omega⟩
    · rw [hy.1, show ((1 : Int) + (d : Int)).toNat = d + 1 from by omega, Int.toNat_natCast, ← hpl]
      simp
    · rw [hy.2]; simp; omega
  · cases h

set_option maxHeartbeats 2000000 in
theorem walk (a0 : Option Addr) (len0 cap0 : Nat) (z0 : List Int) (w : World) (w0 : IsRow .u8 w a0 len0 cap0 z0) (hL : laidMet Tryd.prog Rows.fnVarRow.laid w) (_hsh : w.ShapedOpen Tryd.prog) :
    Calls Tryd.prog 3 #[.slice a0 len0 cap0] w fun e w' => e = .returned (.bool true) ∧ Below w.heap.size w w' := by
  have HT : Hid (Pow10 w) := pow10 hL
  clear hL _hsh
  by_cases hbig : (1048576 : Int) < (len0 : Int)
  · have hdec : decide ((1048576 : Int) < (len0 : Int)) = true := decide_eq_true hbig
    clear w0
    go_enter Tryd.func3, Tryd.ntmps3
    go_wp2_with fail
    refine (big_any _ _ _ _).mono ?_
    rintro e w1 ⟨rfl, hw1⟩
    subst hw1
    rw [hdec]
    go_wp2
    go_ret
    exact ⟨rfl, Below.refl _ _⟩
  · have hdec : decide ((1048576 : Int) < (len0 : Int)) = false := decide_eq_false hbig
    have hn : len0 ≤ 1048576 := by omega
    have HW : Hid (IsRow .u8 w a0 len0 cap0 z0) := w0
    clear w0 hbig
    go_enter Tryd.func3, Tryd.ntmps3
    go_wp2_with fail
    refine (big_any _ _ _ _).mono ?_
    rintro e w1 ⟨rfl, hw1⟩
    subst hw1
    rw [hdec]
    clear hdec
    go_wp2_with fail
    refine (drawPV_any _ _ _ _ _ HW.out hn).mono ?_
    rintro e w2 ⟨s, wd, rfl, hs, b2⟩
    go_wp2_with fail
    refine (iPutVar_any s wd _ (by omega) (Pow10.below HT.out b2)).mono ?_
    rintro e w3 ⟨rfl, b3⟩
    go_wp2_with fail
    refine (sPutVar_any s wd _ (by omega)).mono ?_
    rintro e w4 ⟨rfl, b4⟩
    have B4 := next (next b2 b3) b4
    clear b2 b3 b4
    go_wp2_with fail
    refine (drawGV_any _ _ _ _ _ (row_below HW.out B4) hn).mono ?_
    rintro e w5 ⟨l, i, k, rfl, hl, b5⟩
    have B5 := next B4 b5
    clear B4 b5
    go_wp2_with fail
    refine (iGetVar_any l i k _ (by omega)).mono ?_
    rintro e w6 ⟨rfl, b6⟩
    go_wp2_with fail
    refine (sGetVar_any l i k _ (by omega)).mono ?_
    rintro e w7 ⟨rfl, b7⟩
    have B7 := next (next B5 b6) b7
    clear B5 b6 b7
    cases hp : putV s wd with
    | none =>
      simp only [Option.getD_none, Option.isSome_none]
      clear hp
      go_wp2
      go_ret
      exact ⟨rfl, B7⟩
    | some t =>
      simp only [Option.getD_some, Option.isSome_some]
      obtain ⟨e1, e2, e3, e4, e5⟩ := var_back hp
      have HX : Hid _ := wrap_eq t
      have H1 : Hid _ := e1
      have H2 : Hid _ := e2
      have htl : (120 :: t ++ [121, 122]).length ≤ 1099511627776 := by simp; omega
      have ht2 : t.length ≤ 1002 := by omega
      have hwb : 0 ≤ wd ∧ wd ≤ 3 := by omega
      have H3 : Hid (((t.length : Int) == (s.length : Int) + wd) = true) := by rw [Hid, e3]; simp
      clear hp e1 e2 e3 e4
      go_wp2_with fail
      rw [HX.out]
      refine (iGetVar_any _ _ _ _ htl).mono ?_
      rintro e w8 ⟨rfl, b8⟩
      rw [H1.out, H2.out]
      have B8 := next B7 b8
      have h3 := H3.out
      clear B7 b8 htl HX H1 H2
      go_wp2
      go_ret
      exact ⟨rfl, B8⟩

set_option maxRecDepth 100000 in
theorem lifted (os : Os) (started : os.Started) (H : Type) (enc : TypeId × Value → H) (F : Stop.Interp) :
    ReturnsInHanded {} Tryd.checked os 3 .any ((OpenSpec.ofChange Rows.fnVarSpec).preRow enc Tryd.prog Tryd.f3 Rows.fnVarRow.domain false Rows.fnVarRow.laid)
      (((OpenSpec.ofChange Rows.fnVarSpec).at F).post enc Tryd.prog Tryd.f3 false true false false) := by
  refine returnsInHanded_of_row (C := Tryd.checked) (s := OpenSpec.ofChange Rows.fnVarSpec) own started (by kernel_rfl) Tryd.func3
    (ChangeSpec.witness_shaped (enc := enc) (C := Tryd.checked) (os := os) (X := fun w _ => laidMetH Tryd.prog Rows.fnVarRow.laid w) false (World.laidAll Tryd.prog os Rows.fnVarRow.laid) #[.slice none 0 0] 8 (World.laidAll_os _ _ _)
      (World.shaped_of_ZipB (by kernel_rfl) (by kernel_rfl)) (by kernel_rfl) (by kernel_rfl) (by kernel_rfl)
      (by rw [MakeChecks.laidMetH_plain _ _ _ (by kernel_rfl)]; exact laidMet_laidAll _ (by kernel_rfl) (by kernel_rfl))) ?_
  intro W base args ds gs before hval0 hW _ _ _ hL hsh _
  have hval : ∀ (j : Nat) t v, Tryd.f3.params[j]? = some t → args[j]? = some v → Value.okWide Tryd.prog W .any base t v := hval0
  have hW' := hW
  obtain ⟨p, q, hA0, hV, rfl, _, _⟩ := hW
  have hA : DataW.TrodAll enc Tryd.prog W 0 (fun _ => true) true Tryd.f3.params.toList args.toList ds p := hA0
  rw [Tryd.params3] at hA hval
  obtain ⟨v0, vs0, d0, ds0, p0, q0, hargs, rfl, rfl, h0, r0⟩ := trodAll_cons hA
  obtain ⟨rfl, rfl, rfl⟩ := trodAll_nil r0
  obtain rfl : args = #[v0] := by cases args; simp_all
  obtain ⟨rfl, rfl⟩ := trodVars_none hV
  obtain ⟨a0, len0, cap0, rfl⟩ := okWide_slice Tryd.underlying22 (hval 0 22 v0 rfl rfl)
  have k0 := h0
  have lt0 : ∀ x ∈ p0, x.block < W.heap.size := by obtain ⟨m, hm⟩ := k0; exact DataW.trod_lt m _ _ _ hm
  obtain ⟨z0, w0⟩ : ∃ zs, IsRow .u8 W a0 len0 cap0 zs := is_row Tryd.underlying22 Tryd.underlying5 (by kernel_rfl) h0
  clear hA0 hval0
  rw [MakeChecks.laidMetH_plain _ _ _ (by kernel_rfl)] at hL
  refine (walk a0 len0 cap0 z0 W w0 hL hsh).mono fun e W' ⟨he, bel⟩ => ?_
  subst he
  exact ⟨_, rfl, _, _, _, [], _, [], hW', trodAll_mk1 (shut_bool Tryd.underlying4 _), (trodAll_cons_mk (Below.trod laidOut (by kernel_rfl) (of_decide_eq_true (by kernel_rfl)) k0 bel lt0) trodAll_mk0), rfl, bel.frame _, fun h => by cases h⟩

theorem said : Rows.FnVarSaid :=
  OpenClaim.holds_of_cond 3 Tryd.f3 rfl rfl rfl rfl rfl rfl rfl ⟨rfl, rfl, rfl, rfl, rfl⟩ rfl rfl rfl rfl rfl (by kernel_rfl) Tryd.func3 (by kernel_rfl)
    (of_decide_eq_true (by kernel_rfl)) (by unfold Func.isWrapper; first | (rw [if_pos (by decide +kernel)]; kernel_rfl) | (rw [if_neg (by decide +kernel)]; exact ⟨rfl, rfl⟩))
    (fun os started H enc _ F => by rw [OpenClaim.pre_eq_preRow]; exact lifted os started H enc F)

theorem proved : Rows.FnVarCardSaid :=
  Claim7.holds_tied_plain_at .later [] _ _ _ _ said (fun _ h => by cases h) (by kernel_rfl) (fun _ h => by cases h) fnVar_row_tie rfl ⟨rfl, rfl⟩ (by kernel_rfl) rfl
    (fun f fn hf hfn => by
      obtain rfl : f = 3 := Option.some.inj ((show Tryd.prog.funcNamed "loop.example/g00126/laws.FnVar" = some 3 by kernel_rfl).symm.trans hf) |>.symm
      obtain rfl : fn = Tryd.f3 := (Option.some.inj (Tryd.func3.symm.trans hfn)).symm
      refine ⟨by kernel_rfl, fun j t ht => ?_⟩
      rw [Tryd.params3] at ht
      have hm : t ∈ [22] := by have := Array.mem_of_getElem? ht; simp at this ⊢; first | exact this | exact this.symm
      have hall : ([22].all fun u => !Tryd.prog.wantsStandIn u) = true := by kernel_rfl
      have h1 := List.all_eq_true.1 hall t hm
      have h2 : Tryd.prog.wantsStandIn t = false := by simpa using h1
      exact h2)
    (by kernel_rfl)
end Go.Proofs.YtjjmjnbnoeaifaaDoor.fnVar
