/- Proved: for whatever bytes the draws are made of (up to 1048576; more pass by the law's own first test): PutSet and GetSet answer as the specification's, a set comes back from its bits behind another byte and with one behind them, in sixteen bytes just when a number is above 64, in eight else. No other conditions. -/
import Derived.Test.YtjjmjnbnoeaifaaBase
import Derived.Test.YtjjmjnbnoeaifaaDrawGS
import Derived.Test.YtjjmjnbnoeaifaaSGSet
import Derived.Test.YtjjmjnbnoeaifaaSetBack
import Derived.Test.YtjjmjnbnoeaifaaIntsEq
namespace Go.Proofs.Ytjjmjnbnoeaifaa.fnSet
open Go.ChangeShapes Go.WideShapes Go.ChangeAt Go.RowKit

theorem wrap_eq (s : List UInt8) : (⟨#[113]⟩ : ByteArray) ++ ⟨s.toArray⟩ ++ ⟨#[114]⟩ = ⟨([113] ++ s ++ [114]).toArray⟩ := by
  rw [show (⟨#[113]⟩ : ByteArray) ++ ⟨s.toArray⟩ = ⟨([113] ++ s).toArray⟩ from ba_append [113] s]
  exact ba_append ([113] ++ s) [114]

set_option maxHeartbeats 3000000 in
theorem walk (a0 : Option Addr) (len0 cap0 : Nat) (z0 : List Int) (w : World) (w0 : IsRow .u8 w a0 len0 cap0 z0) :
    Calls Try.prog 4 #[.slice a0 len0 cap0] w fun e w' => e = .returned (.bool true) ∧ Below w.heap.size w w' := by
  by_cases hbig : (1048576 : Int) < (len0 : Int)
  · have hdec : decide ((1048576 : Int) < (len0 : Int)) = true := decide_eq_true hbig
    clear w0
    go_enter Try.func4, Try.ntmps4
    go_wp2_with fail
    refine (big_any _ _ _ _).mono ?_
    rintro e w1 ⟨rfl, hw1⟩
    subst hw1
    rw [hdec]
    go_wp2
    go_ret
    exact ⟨rfl, Below.refl _ _⟩
  · have hdec : decide ((1048576 : Int) < (len0 : Int)) = false := decide_eq_false hbig
    have hn : len0 ≤ 1048576 := by omega
    have HW : Hid (IsRow .u8 w a0 len0 cap0 z0) := w0
    clear w0 hbig
    go_enter Try.func4, Try.ntmps4
    go_wp2_with fail
    refine (big_any _ _ _ _).mono ?_
    rintro e w1 ⟨rfl, hw1⟩
    subst hw1
    rw [hdec]
    clear hdec
    go_wp2_with fail
    refine (drawPS_any _ _ _ _ _ HW.out hn).mono ?_
    rintro e w2 ⟨ao, c, xs, rfl, hxl, hx, b2⟩
    have HX : Hid (IntsAt w2 ao xs) := hx
    have HB2 : Hid (Below w1.heap.size w1 w2) := b2
    clear hx b2
    go_wp2_with fail
    refine (iPutSet_any _ _ xs _ HX.out (by omega)).mono ?_
    rintro e w3 ⟨rfl, b3⟩
    go_wp2_with fail
    refine (sPutSet_any _ _ xs _ (HX.out.below b3) (by omega)).mono ?_
    rintro e w4 ⟨rfl, b4⟩
    have B4 := next b3 b4
    clear b3 b4
    go_wp2_with fail
    refine (drawGS_any _ _ _ _ _ (row_below HW.out (next HB2.out B4)) hn).mono ?_
    rintro e w5 ⟨l, i, rfl, hl, b5⟩
    have B5 := next B4 b5
    clear B4 b5
    go_wp2_with fail
    refine (iGetSet_any l i _ (by omega)).mono ?_
    rintro e w6 ⟨ao6, c6, rfl, o6, b6⟩
    have z6 := ints_own o6
    clear o6
    go_wp2_with fail
    refine (sGetSet_any l i _ (by omega)).mono ?_
    rintro e w7 ⟨ao7, c7, rfl, o7, b7⟩
    have z7 := ints_own o7
    have z6' := z6.below b7
    have B7 := next (next B5 b6) b7
    have hlen := getSL_len l i
    clear o7 B5 b6 b7 z6
    cases hp : putS xs with
    | none =>
      simp only [Option.getD_none, Option.isSome_none]
      clear hp
      go_wp2_with fail
      refine (sameInts_any _ _ _ _ (getSL l i) (getSL l i) _ z6' z7 (by omega) (by omega)).mono ?_
      rintro e w8 ⟨rfl, b8⟩
      have B8 := next B7 b8
      clear b8 B7 z6' z7
      go_wp2
      go_ret
      exact ⟨rfl, next HB2.out B8⟩
    | some s =>
      simp only [Option.getD_some, Option.isSome_some]
      obtain ⟨e1, e2, e3, e4⟩ := set_back hp
      have HQ : Hid _ := wrap_eq s
      have H1 : Hid _ := e1
      have H2 : Hid _ := e2
      have H3 : Hid _ := e3
      have hss : s.length ≤ 16 := by rw [e3]; unfold sizeS; split <;> omega
      have hsl : ([113] ++ s ++ [114]).length ≤ 1048576 := by simp; omega
      clear e1 e2 e3
      go_wp2_with fail
      refine (sameInts_any _ _ _ _ (getSL l i) (getSL l i) _ z6' z7 (by omega) (by omega)).mono ?_
      rintro e w8 ⟨rfl, b8⟩
      have B8' := next B7 b8
      clear b8 B7 z6' z7
      go_wp2_with fail
      rw [HQ.out]
      refine (iGetSet_any _ 1 _ hsl).mono ?_
      rintro e w9 ⟨ao9, c9, rfl, o9, b9⟩
      have z9 := ints_own o9
      rw [H1.out] at z9 ⊢
      rw [H2.out]
      have B8 := next B8' b9
      clear o9 b9 B8' hsl hp hlen
      by_cases h0 : xs = []
      · subst h0
        have h3 : s.length = 8 := H3.out
        have h3i : (s.length : Int) = 8 := by omega
        go_wp2_with fail
        refine (sameInts_any ao9 ao c9 c [] [] _ (.inl rfl) (.inl rfl) (by simp) (by simp)).mono ?_
        rintro e w9 ⟨rfl, b9⟩
        have B9 := next B8 b9
        clear b9 z9
        go_wp2
        go_ret
        exact ⟨rfl, next HB2.out B9⟩
      · have hpos : 0 < xs.length := List.length_pos_iff.2 h0
        have hlast := wide_last e4 h0
        rcases HX.out with hnil | ⟨b, off, hao, hb, hcx⟩
        · exact absurd hnil h0
        · have eL : w9.cell? ⟨b, off + (xs.length - 1), none⟩ = some (.int .i64 (xs.getD (xs.length - 1) 0)) := (B8.cell (p := ⟨b, off + (xs.length - 1), none⟩) hb).trans (hcx _ (by omega))
          subst hao
          obtain ⟨y, hy⟩ : ∃ y, xs.getD (xs.length - 1) 0 = y := ⟨_, rfl⟩
          obtain ⟨t, ht⟩ : ∃ t, xs.length - 1 = t := ⟨_, rfl⟩
          rw [hy] at eL hlast
          rw [ht] at eL
          have hti : (xs.length : Int) - 1 = (t : Int) := by omega
          have hti2 : (t : Int) < (xs.length : Int) := by omega
          have h0i : (0 : Int) < (xs.length : Int) := by omega
          rcases sizeS_or xs with ⟨hz, hwd⟩ | ⟨hz, hwd⟩
          · have h64 : 64 < y := by rw [hwd] at hlast; exact of_decide_eq_true hlast.symm
            have h3 : s.length = 16 := by rw [H3.out, hz]
            have h3i : (s.length : Int) = 16 := by omega
            clear hlast hy ht hcx hz hwd e4 h0
            go_wp2_with fail
            refine (sameInts_any _ _ _ _ xs xs _ z9 (HX.out.below B8) (by omega) (by omega)).mono ?_
            rintro e w9 ⟨rfl, b9⟩
            have B9 := next B8 b9
            clear b9 z9
            go_wp2
            go_ret
            exact ⟨rfl, next HB2.out B9⟩
          · have h64 : y ≤ 64 := by rw [hwd] at hlast; have := of_decide_eq_false hlast.symm; omega
            have h3 : s.length = 8 := by rw [H3.out, hz]
            have h3i : (s.length : Int) = 8 := by omega
            clear hlast hy ht hcx hz hwd e4 h0
            go_wp2_with fail
            refine (sameInts_any _ _ _ _ xs xs _ z9 (HX.out.below B8) (by omega) (by omega)).mono ?_
            rintro e w9 ⟨rfl, b9⟩
            have B9 := next B8 b9
            clear b9 z9
            go_wp2
            go_ret
            exact ⟨one_bool (by rw [decide_eq_false (show ¬ 64 < y by omega)]; rfl), next HB2.out B9⟩

set_option maxRecDepth 100000 in
theorem lifted (os : Os) (started : os.Started) (H : Type) (enc : TypeId × Value → H) :
    ReturnsInHanded {} Try.checked os 4 .any (Rows.fnSetSpec.pre6 enc Try.prog Try.f4 Rows.fnSetRow.domain false) (Rows.fnSetSpec.post enc Try.prog Try.f4 false true false false) := by
  refine returnsInHanded_of_change (C := Try.checked) own started (by kernel_rfl) Try.func4
    (ChangeSpec.witness6 (enc := enc) (C := Try.checked) false ⟨#[], #[.slice none 0 0], []⟩ 8 (by kernel_rfl) (by kernel_rfl) (by kernel_rfl) (by kernel_rfl)) ?_
  intro W base args ds gs before hval0 hW hcnd _
  have hval : ∀ (j : Nat) t v, Try.f4.params[j]? = some t → args[j]? = some v → Value.okWide Try.prog W .any base t v := hval0
  have hW' := hW
  obtain ⟨p, q, hA0, hV, rfl, hfz, hnd⟩ := hW
  have hA : DataW.TrodAll enc Try.prog W 0 (fun _ => true) true Try.f4.params.toList args.toList ds p := hA0
  rw [Try.params4] at hA hval
  obtain ⟨v0, vs0, d0, ds0, p0, q0, hargs, rfl, rfl, h0, r0⟩ := trodAll_cons hA
  obtain ⟨rfl, rfl, rfl⟩ := trodAll_nil r0
  obtain rfl : args = #[v0] := by cases args; simp_all
  obtain ⟨rfl, rfl⟩ := trodVars_none hV
  obtain ⟨a0, len0, cap0, rfl⟩ := okWide_slice Try.underlying22 (hval 0 22 v0 rfl rfl)
  have k0 := h0
  have lt0 : ∀ x ∈ p0, x.block < W.heap.size := by obtain ⟨m, hm⟩ := k0; exact DataW.trod_lt m _ _ _ hm
  obtain ⟨z0, w0⟩ : ∃ zs, IsRow .u8 W a0 len0 cap0 zs := is_row Try.underlying22 Try.underlying5 (by kernel_rfl) h0
  clear hA0 hval0
  refine (walk a0 len0 cap0 z0 W w0).mono fun e W' ⟨he, bel⟩ => ?_
  subst he
  exact ⟨_, rfl, _, _, _, [], _, [], hW', trodAll_mk1 (shut_bool Try.underlying4 _), (trodAll_cons_mk (Below.trod laidOut (by kernel_rfl) (of_decide_eq_true (by kernel_rfl)) k0 bel lt0) trodAll_mk0), rfl, bel.frame _, fun h => by cases h⟩

theorem proved : Rows.FnSetSaid :=
  OpenClaim.holds_of_wide 4 Try.f4 rfl rfl rfl rfl rfl rfl rfl ⟨rfl, rfl, rfl, rfl, rfl⟩ rfl rfl rfl rfl rfl (by kernel_rfl) Try.func4 (by kernel_rfl)
    (of_decide_eq_true (by kernel_rfl)) (by unfold Func.isWrapper; first | (rw [if_pos (by decide +kernel)]; kernel_rfl) | (rw [if_neg (by decide +kernel)]; exact ⟨rfl, rfl⟩))
    (fun os started H enc _ => lifted os started H enc)
end Go.Proofs.Ytjjmjnbnoeaifaa.fnSet
