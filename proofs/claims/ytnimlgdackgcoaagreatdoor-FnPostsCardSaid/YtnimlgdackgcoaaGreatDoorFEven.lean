/- The contract of the program's evenLines: a map of sums, filled and gone through. -/
import Derived.Test.YtnimlgdackgcoaaGreatDoorFLed2
import Derived.Maps.RangeWalk
import Derived.WalkKit
namespace Go.Proofs.YtnimlgdackgcoaaGreatDoor
open Go.RowKit Go.Maps
set_option maxRecDepth 100000

def evB (ls : List Ln) : Bool := ls.all fun x => decide (sumC x.2.1 ls = 0)
/-- a map that holds the sums of lines by their currencies -/
def SumMap (D : DataW Unit) (ls : List Ln) : Prop :=
  (∀ c, Maps.has D (.int .i64 c) = ls.any fun x => decide (x.2.1 = c)) ∧ ∀ c, D.atKey (.int .i64 c) (.lit (.int .i64 0)) = .lit (.int .i64 (sumC c ls))
theorem sumMap_nil : SumMap (.map []) [] := ⟨fun _ => rfl, fun _ => rfl⟩
theorem sumC_snoc (c : Int) (ls : List Ln) (x : Ln) : sumC c (ls ++ [x]) = sumC c ls + if x.2.1 = c then x.2.2 else 0 := by simp [sumC]
theorem sumMap_snoc {D : DataW Unit} {ls : List Ln} (h : SumMap D ls) (hm : IsMap D) (x y z : Int) : SumMap (D.put (.int .i64 y) (.lit (.int .i64 (sumC y ls + z)))) (ls ++ [(x, y, z)]) := by
  constructor
  · intro c
    rw [List.any_append]
    by_cases hc : c = y
    · subst hc
      rw [Maps.has_put_same (k := .int .i64 c) hm trivial]; simp
    · rw [Maps.has_put_other (lit_ne hc), h.1 c]
      simp [Ne.symm hc]
  · intro c
    rw [sumC_snoc]
    by_cases hc : c = y
    · subst hc
      rw [Maps.atKey_put_same (k := .int .i64 c) hm trivial]; simp
    · rw [Maps.atKey_put_other (lit_ne hc), h.2 c]
      simp [Ne.symm hc]
theorem sumC_abs {ls : List Ln} (h : ∀ x ∈ ls, -1000000000000 ≤ x.2.2 ∧ x.2.2 ≤ 1000000000000) (c : Int) (k : Nat) : -1000000000000 * (k : Int) ≤ sumC c (ls.take k) ∧ sumC c (ls.take k) ≤ 1000000000000 * (k : Int) := by
  induction k with
  | zero => simp [sumC]
  | succ k ih =>
    by_cases hk : k < ls.length
    · rw [sumC_step c ls k hk]
      have := h _ (lnAt_mem hk)
      split <;> omega
    · rw [List.take_of_length_le (by omega)]
      rw [List.take_of_length_le (by omega)] at ih
      omega

set_option maxHeartbeats 3200000 in
theorem even_any (ao : Option Addr) (cap : Nat) (ls : List Ln) (w : World) (hz : LinesAt w ao ls) (hn : ls.length ≤ 400) (hbd : ∀ x ∈ ls, -1000000000000 ≤ x.2.2 ∧ x.2.2 ≤ 1000000000000) (hwf : ∀ x ∈ ls, wf64 x.2.1) :
    Calls Tryz.prog 47 #[.slice ao ls.length cap] w fun e w' => e = .returned (.bool (evB ls)) ∧ Below w.heap.size w w' := by
  have hmm := @run_makeMap Tryz.prog
  have HZ : Hid (LinesAt w ao ls) := hz
  have HBD : Hid (∀ x ∈ ls, -1000000000000 ≤ x.2.2 ∧ x.2.2 ≤ 1000000000000) := hbd
  have HWF : Hid (∀ x ∈ ls, wf64 x.2.1) := hwf
  clear hz hbd hwf
  have hown0 := World.ownsMap_made w Tryz.prog 3 (plainElem (H := Unit) Tryz.prog 3)
  have hb0 := (Below.refl w.heap.size w).alloc (Nat.le_refl _) (.map #[] 0)
  go_enter Tryz.func47, Tryz.ntmps47
  go_wp2
  go_loopw [11] (fun i wr => ∃ (k : Nat) (D : DataW Unit), k ≤ ls.length ∧ i = .int .i64 k ∧ wr.ownsMap Tryz.prog 3 (plainElem (H := Unit) Tryz.prog 3) w.heap.size k D ∧ SumMap D (ls.take k) ∧ Below w.heap.size w wr) (fun i _ => ls.length - (intOf i).toNat)
  case atStart => exact ⟨0, .map [], Nat.zero_le _, rfl, hown0, sumMap_nil, hb0⟩
  case round =>
    obtain ⟨k, D, hk, rfl, hown, hsum, hbr⟩ := hrel
    have hbs := hbr.size
    have HSUM : Hid (SumMap D (ls.take k)) := hsum
    have HOWN : Hid (wr.ownsMap Tryz.prog 3 (plainElem (H := Unit) Tryz.prog 3) w.heap.size k D) := hown
    clear hown0 hb0 hsum hown
    by_cases hlt : k < ls.length
    · have hki : (k : Int) < (ls.length : Int) := by omega
      obtain ⟨b, off, rfl, hb2, c1, c2, c3⟩ := (HZ.out.below hbr).at hlt
      have hbk := HBD.out _ (lnAt_mem hlt)
      have hwk := HWF.out _ (lnAt_mem hlt)
      have HTK : Hid _ := take_lnAt ls k hlt
      obtain ⟨⟨x, y, z⟩, hx⟩ : ∃ x, lnAt ls k = x := ⟨_, rfl⟩
      rw [hx] at c1 c2 c3 hbk hwk HTK
      simp only at c1 c2 c3 hbk hwk
      have hab := sumC_abs HBD.out y k
      have HWK : Hid (wf64 y) := hwk
      have hy : ∀ c : Int, D.atKey (.int .i64 y) (.lit (.int .i64 0)) = .lit (.int .i64 c) → c = sumC y (ls.take k) ∧ IntKind.i64.wrap (c + z) = c + z ∧ (Lit.int .i64 (c + z)).wf = true := fun c h => by
        have e := h.symm.trans (HSUM.out.2 y)
        have hc : c = sumC y (ls.take k) := by injection e with e1; injection e1
        have hk4 : (k : Int) ≤ 400 := by omega
        refine ⟨hc, ?_, ?_⟩
        · rw [hc]; simp [IntKind.wrap, IntKind.bits, IntKind.signed]; omega
        · exact WalkArith.wf_i64 (by rw [hc]; omega)
      have HY : Hid _ := hy
      have HKM : Hid (k < maxLen) := by unfold maxLen; rw [Hid]; omega
      have HBX : Hid (∀ o, Below w.heap.size w (wr.alloc o)) := fun o => hbr.alloc hbs o
      clear hx hwk hab hy hbk
      go_wp2_with (first
        | (at_lookup; refine wpList_lookup_own_int _ rfl _ _ 97 rfl 3 3 .i64 lawInt Tryz.underlying97 Tryz.underlying3 (zero3 _) w.heap.size k D rfl (HOWN.out.alloc _) _ _ rfl (keyOf_int_mk Tryz.underlying3 HWK.out) ?_; intro c hat hwc; have HC : Hid (c = sumC y (ls.take k)) := (HY.out c hat).1; have hwr := (HY.out c hat).2.1; have HWC : Hid ((Lit.int .i64 (c + z)).wf = true) := (HY.out c hat).2.2; clear hat hwc)
        | (at_mapUpdate; refine wpList_mapUpdate_own _ rfl _ _ _ 97 rfl 3 3 lawInt Tryz.underlying97 _ w.heap.size k D rfl (HOWN.out.alloc _) HKM.out _ _ _ rfl rfl (keyOf_int_mk Tryz.underlying3 HWK.out) _ [] (plainElem_int Tryz.underlying3 HWC.out) ?_; intro w1 hown1 hgrow1)
        | go_in)
      have HO1 : Hid (w1.ownsMap Tryz.prog 3 (plainElem (H := Unit) Tryz.prog 3) w.heap.size (k + 1) (D.put (.int .i64 y) (.lit (.int .i64 (c + z))))) := hown1
      have q1 : Below w.heap.size w w1 := (HBX.out _).grown hgrow1 (HBX.out _).size (fun j hj => by cases hj; exact Nat.le_refl _)
      clear hown1 hgrow1
      go_wp2
      go_roundw
      case rel => exact ⟨k + 1, _, by omega, by go_num, HO1.out, by rw [HTK.out, HC.out]; exact sumMap_snoc HSUM.out HOWN.out.isMap x y z, q1⟩
      case measure => simp [intOf]; omega
    · have hke : k = ls.length := by omega
      subst hke
      have hki : ¬ (ls.length : Int) < (ls.length : Int) := by omega
      rw [List.take_length] at HSUM
      obtain ⟨W, hW⟩ : ∃ W, W = wr := ⟨_, rfl⟩
      subst hW
      go_wp2_with (first
        | (at_range; refine wpList_range_own _ rfl _ 97 rfl 3 3 lawInt Tryz.underlying97 _ w.heap.size ls.length _ rfl HOWN.out ?_; intro w0 hrg0 hg0 hs0)
        | go_in)
      try go_frame
      have qb0 : Below w.heap.size w w0 := hbr.grown hg0 hbs (fun j hj => by cases hj)
      go_loopw [7] (fun _ wr => ∃ (left : Lit → Bool) (cnt : Nat), wr.ranges Tryz.prog 3 (plainElem (H := Unit) Tryz.prog 3) w.heap.size W.heap.size ls.length D left cnt ∧ (∀ c, left (.int .i64 c) = true → Maps.has D (.int .i64 c) = true) ∧ (∀ c, Maps.has D (.int .i64 c) = true → left (.int .i64 c) = false → sumC c ls = 0) ∧ Below w.heap.size w wr)
        (fun _ wr => wr.rangeLeft w.heap.size W.heap.size)
      case atStart => exact ⟨_, _, hrg0, fun _ h => h, (fun c h1 h2 => by rw [h1] at h2; cases h2), qb0⟩
      case round =>
        obtain ⟨left, cnt, hrg, hle, hzero, hbw⟩ := hrel
        clear hrg0 hg0 hs0 qb0
        have HLE : Hid (∀ c, left (.int .i64 c) = true → Maps.has D (.int .i64 c) = true) := hle
        have HZR : Hid (∀ c, Maps.has D (.int .i64 c) = true → left (.int .i64 c) = false → sumC c ls = 0) := hzero
        have HRG : Hid (wr.ranges Tryz.prog 3 (plainElem (H := Unit) Tryz.prog 3) w.heap.size W.heap.size ls.length D left cnt) := hrg
        clear hle hzero hrg
        go_wp2_with (first
          | (at_next; refine wpList_next_ranges_ii _ rfl _ rfl 3 3 .i64 .i64 lawInt Tryz.underlying3 Tryz.underlying3 w.heap.size W.heap.size ls.length _ _ _ rfl HRG.out ?_ ?_)
          | go_in)
        · intro _ hl0
          have HV : Hid (evB ls = true) := by
            rw [Hid, evB, List.all_eq_true]
            intro x hx
            have hh : Maps.has D (.int .i64 x.2.1) = true := by
              rw [HSUM.out.1, List.any_eq_true]; exact ⟨x, hx, by simp⟩
            simpa using HZR.out _ hh (hl0 _)
          clear hl0
          go_wp2
          go_ret
          exact ⟨one_bool HV.out.symm, hbw⟩
        · intro x c w1 cnt1 hwx hwc hlx hat hrg1 hlt hg1 hs1 hen
          have hcs : c = sumC x ls := by
            have e := (hat (.lit (.int .i64 0))).symm.trans (HSUM.out.2 x)
            injection e with e1; injection e1
          have q1 : Below w.heap.size w w1 := hbw.grown hg1 hbw.size (fun j hj => by cases hj; exact hbs)
          have HRG1 : Hid (w1.ranges Tryz.prog 3 (plainElem (H := Unit) Tryz.prog 3) w.heap.size W.heap.size ls.length D (fun z => left z && !z.sameKey (.int .i64 x)) cnt1) := hrg1
          have HLT : Hid _ := hlt
          have HHX : Hid _ := HLE.out _ hlx
          clear hat hrg1 hlt hg1 hwx hwc
          by_cases hc0 : c = 0
          · have hc0' : (c != 0) = false := by simpa using hc0
            have HS0 : Hid (sumC x ls = 0) := by rw [Hid, ← hcs, hc0]
            clear hcs hc0
            go_wp2
            go_roundw
            case rel =>
              refine ⟨_, cnt1, HRG1.out, (fun c' h => HLE.out c' (Bool.and_eq_true _ _ ▸ h).1), fun c' h1 h2 => ?_, q1⟩
              by_cases hx : c' = x
              · rw [hx]; exact HS0.out
              · refine HZR.out c' h1 ?_
                have := Maps.sameKey_ne (lit_ne hx)
                simp [this] at h2
                exact h2
            case measure => rw [HRG1.out.left_eq, HRG.out.left_eq]; exact HLT.out
          · have hc0' : (c != 0) = true := by simpa using hc0
            have HV : Hid (evB ls = false) := by
              rw [Hid, evB]
              have hh := HHX.out
              rw [HSUM.out.1, List.any_eq_true] at hh
              obtain ⟨y, hy, he⟩ := hh
              simp at he
              rw [List.all_eq_false]
              exact ⟨y, hy, by rw [he, ← hcs]; simpa using hc0⟩
            clear hcs hc0
            go_wp2
            go_ret
            exact ⟨one_bool HV.out.symm, q1⟩

end Go.Proofs.YtnimlgdackgcoaaGreatDoor
