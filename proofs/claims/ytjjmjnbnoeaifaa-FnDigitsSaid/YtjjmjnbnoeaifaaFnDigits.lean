/- Proved: for whatever bytes the draws are made of (up to 1048576; more pass by the law's own first test): PutDigits answers as the specification's, digits come back from their bytes behind other bytes and with a byte behind them, two a byte, and GetDigits answers as the specification's. No other conditions. -/
import Derived.Test.YtjjmjnbnoeaifaaBase
import Derived.Test.YtjjmjnbnoeaifaaDrawD
import Derived.Test.YtjjmjnbnoeaifaaSGet
namespace Go.Proofs.Ytjjmjnbnoeaifaa.fnDigits
open Go.ChangeShapes Go.WideShapes Go.ChangeAt Go.RowKit

theorem get_back {d s : List UInt8} (h : putD d = some s) : getL ([97, 98] ++ s ++ [99]) 2 d.length = d ∧ getI ([97, 98] ++ s ++ [99]) 2 d.length = 2 + (s.length : Int) ∧ s.length = (d.length + 1) / 2 ∧ d.length ≤ 100 := by
  obtain ⟨hw, hl, rfl⟩ := putD_some h
  have hlen := pkL_len (padE d) ((d.length + 1) / 2)
  have hbk := back d hw
  obtain ⟨s, hs⟩ : ∃ s, pkL (padE d) ((d.length + 1) / 2) = s := ⟨_, rfl⟩
  rw [hs] at h hlen hbk ⊢
  have hp : (([97, 98] ++ s ++ [99]).drop 2).take ((d.length + 1) / 2) = s := by
    rw [← hlen]
    simp
  have hok : getOk ([97, 98] ++ s ++ [99]) ((2 : Nat) : Int) ((d.length : Nat) : Int) = true := by
    rw [getOk_in (by simp; omega), hp]
    exact (again s d.length hlen hl).1 (by rw [hbk]; exact h)
  have hg := get_yes hok
  rw [Int.toNat_natCast, Int.toNat_natCast, hp, hbk] at hg
  refine ⟨hg.1, ?_, hlen, hl⟩
  have : getI ([97, 98] ++ s ++ [99]) 2 (d.length : Int) = 2 + ((d.length : Int) + 1) / 2 := hg.2
  rw [this, hlen]
  omega
theorem wrap_eq (s : List UInt8) : (⟨#[97, 98]⟩ : ByteArray) ++ ⟨s.toArray⟩ ++ ⟨#[99]⟩ = ⟨([97, 98] ++ s ++ [99]).toArray⟩ := by
  rw [show (⟨#[97, 98]⟩ : ByteArray) ++ ⟨s.toArray⟩ = ⟨([97, 98] ++ s).toArray⟩ from ba_append [97, 98] s]
  exact ba_append ([97, 98] ++ s) [99]

set_option maxHeartbeats 3000000 in
theorem walk (a0 : Option Addr) (len0 cap0 : Nat) (z0 : List Int) (w : World) (w0 : IsRow .u8 w a0 len0 cap0 z0) :
    Calls Try.prog 3 #[.slice a0 len0 cap0] w fun e w' => e = .returned (.bool true) ∧ Below w.heap.size w w' := by
  by_cases hbig : (1048576 : Int) < (len0 : Int)
  · have hdec : decide ((1048576 : Int) < (len0 : Int)) = true := decide_eq_true hbig
    clear w0
    go_enter Try.func3, Try.ntmps3
    go_wp2_with fail
    refine (big_any _ _ _ _).mono ?_
    rintro e w1 ⟨rfl, hw1⟩
    subst hw1
    rw [hdec]
    go_wp2
    go_ret
    exact ⟨rfl, Below.refl _ _⟩
  · have hdec : decide ((1048576 : Int) < (len0 : Int)) = false := decide_eq_false hbig
    have hn : len0 ≤ 1048576 := by omega
    have HW : Hid (IsRow .u8 w a0 len0 cap0 z0) := w0
    clear w0 hbig
    go_enter Try.func3, Try.ntmps3
    go_wp2_with fail
    refine (big_any _ _ _ _).mono ?_
    rintro e w1 ⟨rfl, hw1⟩
    subst hw1
    rw [hdec]
    clear hdec
    go_wp2_with fail
    refine (drawPD_any _ _ _ _ _ HW.out hn).mono ?_
    rintro e w2 ⟨d, rfl, hd, b2⟩
    go_wp2_with fail
    refine (iPutDigits_any d _ (by omega)).mono ?_
    rintro e w3 ⟨rfl, b3⟩
    go_wp2_with fail
    refine (sPutDigits_any d _ (by omega)).mono ?_
    rintro e w4 ⟨rfl, b4⟩
    have B4 := next (next b2 b3) b4
    clear b2 b3 b4
    cases hp : putD d with
    | none =>
      simp only [Option.getD_none, Option.isSome_none]
      clear hp
      go_wp2_with fail
      refine (drawGD_any _ _ _ _ _ (row_below HW.out B4) hn).mono ?_
      rintro e w5 ⟨l, i, n, rfl, hl, b5⟩
      go_wp2_with fail
      refine (iGetDigits_any l _ _ _ (by omega)).mono ?_
      rintro e w6 ⟨rfl, b6⟩
      go_wp2_with fail
      refine (sGetDigits_any l _ _ _ (by omega)).mono ?_
      rintro e w7 ⟨rfl, b7⟩
      have B7 := next (next (next B4 b5) b6) b7
      clear B4 b5 b6 b7
      go_wp2
      go_ret
      exact ⟨rfl, B7⟩
    | some s =>
      simp only [Option.getD_some, Option.isSome_some]
      obtain ⟨e1, e2, e3, e4⟩ := get_back hp
      have HX : Hid _ := wrap_eq s
      have hsl : ([97, 98] ++ s ++ [99]).length ≤ 1099511627776 := by simp; omega
      have hs50 : s.length ≤ 50 := by omega
      have H1 : Hid _ := e1
      have H2 : Hid _ := e2
      have h3 : ((d.length : Int) + 1) / 2 = (s.length : Int) := by omega
      clear hp e1 e2 e3
      go_wp2_with fail
      rw [HX.out]
      refine (iGetDigits_any _ _ _ _ hsl).mono ?_
      rintro e w5 ⟨rfl, b5⟩
      rw [H1.out, H2.out]
      have B5 := next B4 b5
      clear B4 b5 hsl
      go_wp2_with fail
      refine (drawGD_any _ _ _ _ _ (row_below HW.out B5) hn).mono ?_
      rintro e w6 ⟨l, i, n, rfl, hl, b6⟩
      go_wp2_with fail
      refine (iGetDigits_any l _ _ _ (by omega)).mono ?_
      rintro e w7 ⟨rfl, b7⟩
      go_wp2_with fail
      refine (sGetDigits_any l _ _ _ (by omega)).mono ?_
      rintro e w8 ⟨rfl, b8⟩
      have B8 := next (next (next B5 b6) b7) b8
      clear B5 b6 b7 b8
      go_wp2
      go_ret
      exact ⟨rfl, B8⟩

set_option maxRecDepth 100000 in
theorem lifted (os : Os) (started : os.Started) (H : Type) (enc : TypeId × Value → H) :
    ReturnsInHanded {} Try.checked os 3 .any (Rows.fnDigitsSpec.pre6 enc Try.prog Try.f3 Rows.fnDigitsRow.domain false) (Rows.fnDigitsSpec.post enc Try.prog Try.f3 false true false false) := by
  refine returnsInHanded_of_change (C := Try.checked) own started (by kernel_rfl) Try.func3
    (ChangeSpec.witness6 (enc := enc) (C := Try.checked) false ⟨#[], #[.slice none 0 0], []⟩ 8 (by kernel_rfl) (by kernel_rfl) (by kernel_rfl) (by kernel_rfl)) ?_
  intro W base args ds gs before hval0 hW hcnd _
  have hval : ∀ (j : Nat) t v, Try.f3.params[j]? = some t → args[j]? = some v → Value.okWide Try.prog W .any base t v := hval0
  have hW' := hW
  obtain ⟨p, q, hA0, hV, rfl, hfz, hnd⟩ := hW
  have hA : DataW.TrodAll enc Try.prog W 0 (fun _ => true) true Try.f3.params.toList args.toList ds p := hA0
  rw [Try.params3] at hA hval
  obtain ⟨v0, vs0, d0, ds0, p0, q0, hargs, rfl, rfl, h0, r0⟩ := trodAll_cons hA
  obtain ⟨rfl, rfl, rfl⟩ := trodAll_nil r0
  obtain rfl : args = #[v0] := by cases args; simp_all
  obtain ⟨rfl, rfl⟩ := trodVars_none hV
  obtain ⟨a0, len0, cap0, rfl⟩ := okWide_slice Try.underlying22 (hval 0 22 v0 rfl rfl)
  have k0 := h0
  have lt0 : ∀ x ∈ p0, x.block < W.heap.size := by obtain ⟨m, hm⟩ := k0; exact DataW.trod_lt m _ _ _ hm
  obtain ⟨z0, w0⟩ : ∃ zs, IsRow .u8 W a0 len0 cap0 zs := is_row Try.underlying22 Try.underlying5 (by kernel_rfl) h0
  clear hA0 hval0
  refine (walk a0 len0 cap0 z0 W w0).mono fun e W' ⟨he, bel⟩ => ?_
  subst he
  exact ⟨_, rfl, _, _, _, [], _, [], hW', trodAll_mk1 (shut_bool Try.underlying4 _), (trodAll_cons_mk (Below.trod laidOut (by kernel_rfl) (of_decide_eq_true (by kernel_rfl)) k0 bel lt0) trodAll_mk0), rfl, bel.frame _, fun h => by cases h⟩

theorem proved : Rows.FnDigitsSaid :=
  OpenClaim.holds_of_wide 3 Try.f3 rfl rfl rfl rfl rfl rfl rfl ⟨rfl, rfl, rfl, rfl, rfl⟩ rfl rfl rfl rfl rfl (by kernel_rfl) Try.func3 (by kernel_rfl)
    (of_decide_eq_true (by kernel_rfl)) (by unfold Func.isWrapper; first | (rw [if_pos (by decide +kernel)]; kernel_rfl) | (rw [if_neg (by decide +kernel)]; exact ⟨rfl, rfl⟩))
    (fun os started H enc _ => lifted os started H enc)
end Go.Proofs.Ytjjmjnbnoeaifaa.fnDigits
