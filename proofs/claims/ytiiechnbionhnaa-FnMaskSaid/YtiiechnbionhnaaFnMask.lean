/- Proved: for whatever bytes the draws are made of (up to 1048576; more pass by the law's own first test): Mask, CardField, CardOk and Range answer as the specification's; of what is no card number nothing is told; of a card number's mask just ten places are digits, and these are its own, it is as long as the number, its field is one, and its first six digits tell its range. No other conditions. -/
import Derived.Test.YtiiechnbionhnaaBase
import Derived.Test.YtiiechnbionhnaaFCard4
import Derived.Test.YtiiechnbionhnaaDrawCd2
import Derived.Test.YtiiechnbionhnaaFFits
namespace Go.Proofs.Ytiiechnbionhnaa.fnMask
open Go.ChangeShapes Go.WideShapes Go.ChangeAt Go.RowKit
set_option maxRecDepth 100000

theorem mask_len {l : List UInt8} (hc : cardOk l = true) : (maskL l).length = l.length := by
  have h := (card_in hc).1
  rw [← star_mask hc]
  exact star_len (by omega)
theorem mask_at {l : List UInt8} (hc : cardOk l = true) {i : Nat} (hi : i < l.length) : (maskL l).getD i 0 = if i < 6 ∨ l.length - 4 ≤ i then l.getD i 0 else 42 := by
  have h := (card_in hc).1
  rw [maskL, hc, if_pos rfl]
  simp only [List.getD_eq_getElem?_getD, List.getElem?_append, List.length_take, List.length_replicate, List.getElem?_take, List.getElem?_replicate, List.getElem?_drop]
  have hm : min 6 l.length = 6 := by omega
  rw [hm]
  by_cases h6 : i < 6
  · rw [if_pos h6, if_pos h6, if_pos (Or.inl h6)]
  · rw [if_neg h6]
    by_cases h4 : l.length - 4 ≤ i
    · rw [if_neg (by omega), if_pos (Or.inr h4), show l.length - 4 + (i - 6 - (l.length - 10)) = i from by omega]
    · rw [if_pos (show i - 6 < l.length - 10 by omega), if_neg (show ¬ (i < 6 ∨ l.length - 4 ≤ i) by omega)]
      first | rfl | (rw [if_pos (by omega)]; rfl)
theorem mask_head {l : List UInt8} (hc : cardOk l = true) : (maskL l).take 6 = l.take 6 := by
  have h := (card_in hc).1
  rw [maskL, hc, if_pos rfl, List.take_append_of_le_length (by simp; omega), List.take_take]
  rfl

/-- how many digits are seen among the first k -/
def seenV (n k : Nat) : Nat := min k 6 + (k - (n - 4))

theorem field_ok {l : List UInt8} (hc : cardOk l = true) : fieldOk 2 l = true := by
  have h := card_in hc
  have hl : l.length ≤ 19 := h.1.2
  have h1 : 1 ≤ l.length := by omega
  simp only [fieldOk, fieldKS, fK, fS]
  simp [h.2]
  omega

set_option maxHeartbeats 3000000 in
theorem walk (a0 : Option Addr) (len0 cap0 : Nat) (z0 : List Int) (w : World) (w0 : IsRow .u8 w a0 len0 cap0 z0) :
    Calls Try.prog 10 #[.slice a0 len0 cap0] w fun e w' => e = .returned (.bool true) ∧ Below w.heap.size w w' := by
  by_cases hbig : (1048576 : Int) < (len0 : Int)
  · have hdec : decide ((1048576 : Int) < (len0 : Int)) = true := decide_eq_true hbig
    clear w0
    go_enter Try.func10, Try.ntmps10
    go_wp2_with fail
    refine (big_any _ _ _ _).mono ?_
    rintro e w1 ⟨rfl, hw1⟩
    subst hw1
    rw [hdec]
    go_wp2
    go_ret
    exact ⟨rfl, Below.refl _ _⟩
  · have hdec : decide ((1048576 : Int) < (len0 : Int)) = false := decide_eq_false hbig
    have hn : len0 ≤ 1048576 := by omega
    have HW : Hid (IsRow .u8 w a0 len0 cap0 z0) := w0
    clear w0 hbig
    go_enter Try.func10, Try.ntmps10
    go_wp2_with fail
    refine (big_any _ _ _ _).mono ?_
    rintro e w1 ⟨rfl, hw1⟩
    subst hw1
    rw [hdec]
    clear hdec
    go_wp2_with fail
    refine (drawMk_any _ _ _ _ _ HW.out hn).mono ?_
    rintro e w2 ⟨l, rfl, hl, b2⟩
    have hlb : l.length ≤ 1099511627776 := by omega
    obtain ⟨m, hm⟩ : ∃ m, maskL l = m := ⟨_, rfl⟩
    obtain ⟨cn, hcn⟩ : ∃ n, cfNum l = n := ⟨_, rfl⟩
    obtain ⟨cd, hcd⟩ : ∃ d, cfData l = d := ⟨_, rfl⟩
    obtain ⟨r, hr⟩ : ∃ r, rangeV l = r := ⟨_, rfl⟩
    go_wp2_with fail
    refine (iMask_any l _ hlb).mono ?_
    rw [hm]
    rintro e w3 ⟨rfl, b3⟩
    go_wp2_with fail
    refine (iCardField_any l _ hlb).mono ?_
    rw [hcn, hcd]
    rintro e w4 ⟨rfl, b4⟩
    have B4 := next (next b2 b3) b4
    have HB4 : Hid (Below w1.heap.size w1 w4) := B4
    clear b2 b3 b4 B4 HW
    go_wp2_with fail
    refine (sMask_any l _ hlb).mono ?_
    rw [hm]
    rintro e w5 ⟨rfl, b5⟩
    cases hc : cardOk l
    · have hmE : m = [] := by rw [← hm, maskL, hc]; rfl
      have hnE : cn = 0 := by rw [← hcn, cfNum, hc]; rfl
      have hrE : r = -1 := by rw [← hr, rangeV, hc]; rfl
      subst hmE hnE hrE
      go_wp2_with fail
      refine (iCardOk_any l _ hlb).mono ?_
      rw [hc]
      rintro e w6 ⟨rfl, b6⟩
      go_wp2_with fail
      refine (iCardOk_any l _ hlb).mono ?_
      rw [hc]
      rintro e w7 ⟨rfl, b7⟩
      go_wp2_with fail
      refine (sCardOk_any l _ hlb).mono ?_
      rw [hc]
      rintro e w8 ⟨rfl, hw⟩
      subst hw
      go_wp2_with fail
      refine (iRange_any l _ hlb).mono ?_
      rw [hr]
      rintro e w9 ⟨rfl, b9⟩
      go_wp2_with fail
      refine (sRange_any l _ hlb).mono ?_
      rw [hr]
      rintro e w10 ⟨rfl, hw⟩
      subst hw
      obtain ⟨⟨d0, d1⟩, _, hb⟩ := boxF (next (next (next b5 b6) b7) b9)
      have HB : Hid (Below w1.heap.size w1 w10) := next HB4.out hb
      clear b5 b6 b7 b9 hb HB4 hm hcn hcd
      go_wp2_with fail
      refine (iRange_any l _ hlb).mono ?_
      rw [hr]
      rintro e w11 ⟨rfl, b11⟩
      go_wp2
      go_ret
      exact ⟨rfl, next HB.out b11⟩
    · have hnE : cn = 2 := by rw [← hcn, cfNum, hc]; rfl
      have hdE : cd = l := by rw [← hcd, cfData, hc]; rfl
      subst hnE hdE
      go_wp2_with fail
      refine (iCardOk_any cd _ hlb).mono ?_
      rw [hc]
      rintro e w6 ⟨rfl, b6⟩
      go_wp2_with fail
      refine (iCardOk_any cd _ hlb).mono ?_
      rw [hc]
      rintro e w7 ⟨rfl, b7⟩
      go_wp2_with fail
      refine (sCardOk_any cd _ hlb).mono ?_
      rw [hc]
      rintro e w8 ⟨rfl, hw⟩
      subst hw
      go_wp2_with fail
      refine (iRange_any cd _ hlb).mono ?_
      rw [hr]
      rintro e w9 ⟨rfl, b9⟩
      go_wp2_with fail
      refine (sRange_any cd _ hlb).mono ?_
      rw [hr]
      rintro e w10 ⟨rfl, hw⟩
      subst hw
      obtain ⟨⟨d0, d1⟩, _, hb⟩ := boxF (next (next (next b5 b6) b7) b9)
      have HB : Hid (Below w1.heap.size w1 w10) := next HB4.out hb
      have HC : Hid (cardOk cd = true) := hc
      have hml : m.length = cd.length := by rw [← hm]; exact mask_len hc
      have HM : Hid (maskL cd = m) := hm
      have HI : Hid ((12 ≤ cd.length ∧ cd.length ≤ 19) ∧ within 48 57 cd = true) := card_in hc
      have HF : Hid (fieldOk 2 cd = true) := field_ok hc
      have HR : Hid (numOf (m.take 6) = r) := by rw [Hid, ← hr, rangeV, hc, if_pos rfl, ← hm, mask_head hc]
      obtain ⟨n, hnl⟩ : ∃ n, cd.length = n := ⟨_, rfl⟩
      have hn1 : 12 ≤ n := by have := (card_in hc).1; omega
      have hn2 : n ≤ 19 := by have := (card_in hc).1; omega
      have HNL : Hid (cd.length = n) := hnl
      have hmn : m.length = n := by omega
      have HML : Hid (m.length = n) := hmn
      have hlnI : (cd.length : Int) = (n : Int) := by omega
      have hmnI : (m.length : Int) = (n : Int) := by omega
      clear b5 b6 b7 b9 hb HB4 hm hcn hcd hc hml hnl hmn
      go_wp2
      go_loopw [2, 7, 8] (fun v c i wr => ∃ k : Nat, k ≤ n ∧ v = .bool false ∧ i = .int .i64 k ∧ c = .int .i64 (seenV n k) ∧ Below w10.heap.size w10 wr) (fun _ _ i _ => n - (intOf i).toNat)
      case atStart => exact ⟨0, Nat.zero_le _, rfl, rfl, by simp [seenV], Below.refl _ _⟩
      case round =>
        obtain ⟨k, hk, rfl, rfl, rfl, hbr⟩ := hrel
        have HBR : Hid (Below w10.heap.size w10 wr) := hbr
        clear hbr
        by_cases hlt : k < n
        · have hki : (k : Int) < (n : Int) := by omega
          have hkm : k < m.length := by rw [HML.out]; exact hlt
          have hkl : k < cd.length := by rw [HNL.out]; exact hlt
          have hat := mask_at HC.out hkl
          rw [HM.out, HNL.out] at hat
          have hin := within_at HI.out.2 hkl
          obtain ⟨c, hcc⟩ : ∃ c, (⟨m.toArray⟩ : ByteArray)[k]'(by rw [ba_size]; exact hkm) = c := ⟨_, rfl⟩
          obtain ⟨d, hdd⟩ : ∃ d, (⟨cd.toArray⟩ : ByteArray)[k]'(by rw [ba_size]; exact hkl) = d := ⟨_, rfl⟩
          rw [(byte_at m k hkm).trans hcc, (byte_at cd k hkl).trans hdd] at hat
          rw [(byte_at cd k hkl).trans hdd] at hin
          have hk1 : (k : Int) < (m.length : Int) := by omega
          have hk2 : (k : Int) < (cd.length : Int) := by omega
          obtain ⟨sv, hsv⟩ : ∃ x, seenV n k = x := ⟨_, rfl⟩
          have hsb : sv ≤ 40 := by rw [← hsv, seenV]; omega
          rw [hsv]
          by_cases hs : k < 6 ∨ n - 4 ≤ k
          · rw [if_pos hs] at hat
            subst hat
            have h42 : ((c.toNat : Int) == 42) = false := by simp; omega
            have HS : Hid (((seenV n (k + 1) : Nat) : Int) = (sv : Int) + 1) := by rw [Hid, ← hsv]; unfold seenV; omega
            have HWS : IntKind.i64.wrap ((sv : Int) + 1) = (sv : Int) + 1 := by rw [IntKind.wrap_i64]; omega
            clear hs hsv hin
            go_wp2
            go_quiet (fail)
            go_wp2
            go_roundw
            case rel => exact ⟨k + 1, by omega, rfl, by go_num, by rw [HS.out], below_drewN HBR.out _⟩
            case measure => simp [intOf]; omega
          · rw [if_neg hs] at hat
            subst hat
            have HS : Hid (((seenV n (k + 1) : Nat) : Int) = (sv : Int)) := by rw [Hid, ← hsv]; unfold seenV; omega
            clear hs hsv hin
            go_wp2
            go_roundw
            case rel => exact ⟨k + 1, by omega, rfl, by go_num, by rw [HS.out], HBR.out⟩
            case measure => simp [intOf]; omega
        · have hke : k = n := by omega
          subst hke
          have hs10 : seenV k k = 10 := by unfold seenV; omega
          rw [hs10]
          have hk3 : ¬ (k : Int) < (k : Int) := by omega
          have hlt0 : w4.heap.size < w10.heap.size := World.block_lt_of_cell? w10 _ d0
          have e0 := (HBR.out.cell (p := ⟨w4.heap.size, 0, none⟩) hlt0).trans d0
          have e1 := (HBR.out.cell (p := ⟨w4.heap.size, 1, none⟩) hlt0).trans d1
          have hB := HB.out.trans (HBR.out.mono HB.out.size)
          have HX : Hid (Below w1.heap.size w1 wr) := hB
          have hex := ext6 m
          have h6 : (6 : Int) ≤ (m.length : Int) := by omega
          clear hlt hs10 d0 d1 hB hlt0
          go_wp2_with fail
          refine (iFieldOk_any 2 cd _ hlb).mono ?_
          rw [HF.out]
          rintro e w11 ⟨rfl, b11⟩
          go_wp2_with fail
          refine (iNumOf_any (m.take 6) _ (by simp; omega)).mono ?_
          rw [HR.out]
          rintro e w12 ⟨rfl, hw⟩
          subst hw
          go_wp2_with fail
          refine (iRange_any cd _ hlb).mono ?_
          rw [hr]
          rintro e w13 ⟨rfl, b13⟩
          go_wp2
          go_ret
          exact ⟨rfl, next (next HX.out b11) b13⟩

set_option maxRecDepth 100000 in
theorem lifted (os : Os) (started : os.Started) (H : Type) (enc : TypeId × Value → H) :
    ReturnsInHanded {} Try.checked os 10 .any (Rows.fnMaskSpec.pre6 enc Try.prog Try.f10 Rows.fnMaskRow.domain false) (Rows.fnMaskSpec.post enc Try.prog Try.f10 false true false false) := by
  refine returnsInHanded_of_change (C := Try.checked) own started (by kernel_rfl) Try.func10
    (ChangeSpec.witness6 (enc := enc) (C := Try.checked) false ⟨#[], #[.slice none 0 0], []⟩ 8 (by kernel_rfl) (by kernel_rfl) (by kernel_rfl) (by kernel_rfl)) ?_
  intro W base args ds gs before hval0 hW hcnd _
  have hval : ∀ (j : Nat) t v, Try.f10.params[j]? = some t → args[j]? = some v → Value.okWide Try.prog W .any base t v := hval0
  have hW' := hW
  obtain ⟨p, q, hA0, hV, rfl, hfz, hnd⟩ := hW
  have hA : DataW.TrodAll enc Try.prog W 0 (fun _ => true) true Try.f10.params.toList args.toList ds p := hA0
  rw [Try.params10] at hA hval
  obtain ⟨v0, vs0, d0, ds0, p0, q0, hargs, rfl, rfl, h0, r0⟩ := trodAll_cons hA
  obtain ⟨rfl, rfl, rfl⟩ := trodAll_nil r0
  obtain rfl : args = #[v0] := by cases args; simp_all
  obtain ⟨rfl, rfl⟩ := trodVars_none hV
  obtain ⟨a0, len0, cap0, rfl⟩ := okWide_slice Try.underlying32 (hval 0 32 v0 rfl rfl)
  have k0 := h0
  have lt0 : ∀ x ∈ p0, x.block < W.heap.size := by obtain ⟨m, hm⟩ := k0; exact DataW.trod_lt m _ _ _ hm
  obtain ⟨z0, w0⟩ : ∃ zs, IsRow .u8 W a0 len0 cap0 zs := is_row Try.underlying32 Try.underlying5 (by kernel_rfl) h0
  clear hA0 hval0
  refine (walk a0 len0 cap0 z0 W w0).mono fun e W' ⟨he, bel⟩ => ?_
  subst he
  exact ⟨_, rfl, _, _, _, [], _, [], hW', trodAll_mk1 (shut_bool Try.underlying4 _), (trodAll_cons_mk (Below.trod laidOut (by kernel_rfl) (of_decide_eq_true (by kernel_rfl)) k0 bel lt0) trodAll_mk0), rfl, bel.frame _, fun h => by cases h⟩

theorem proved : Rows.FnMaskSaid :=
  OpenClaim.holds_of_wide 10 Try.f10 rfl rfl rfl rfl rfl rfl rfl ⟨rfl, rfl, rfl, rfl, rfl⟩ rfl rfl rfl rfl rfl (by kernel_rfl) Try.func10 (by kernel_rfl)
    (of_decide_eq_true (by kernel_rfl)) (by unfold Func.isWrapper; first | (rw [if_pos (by decide +kernel)]; kernel_rfl) | (rw [if_neg (by decide +kernel)]; exact ⟨rfl, rfl⟩))
    (fun os started H enc _ => lifted os started H enc)
end Go.Proofs.Ytiiechnbionhnaa.fnMask
