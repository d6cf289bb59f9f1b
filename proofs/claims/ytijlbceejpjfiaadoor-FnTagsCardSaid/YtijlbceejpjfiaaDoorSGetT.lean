/- The contract of the specification's GetTags. -/
import Derived.Test.YtijlbceejpjfiaaDoorFGetT
import Derived.Test.YtijlbceejpjfiaaDoorTagApp
import Derived.Deep.RegionHeld3
namespace Go.Proofs.YtijlbceejpjfiaaDoor
open Go.RowKit

theorem wrapI {x : Int} (h0 : 0 ≤ x) (h1 : x ≤ 1000000000) : IntKind.i64.wrap x = x := by
  simp [IntKind.wrap, IntKind.bits, IntKind.signed]; omega
theorem seen_len {l : List UInt8} {a : Nat} (h7 : a + 7 ≤ l.length) (hw : within 48 57 ((l.drop a).take 7) = true) : numOf ((l.drop (a + 4)).take 3) = (lenS l a : Int) ∧ lenS l a < 1000 := by
  have hs : (l.drop (a + 4)).take 3 = (((l.drop a).take 7).drop 4) := by rw [List.drop_take, List.drop_drop]
  have hw2 : within 48 57 ((l.drop (a + 4)).take 3) = true := by
    rw [hs]
    exact within_of fun c hc => within_mem hw c (List.mem_of_mem_drop hc)
  have hl3 : ((l.drop (a + 4)).take 3).length = 3 := by rw [List.length_take, List.length_drop]; omega
  have hb := val_bound _ hw2 3 (by omega)
  rw [List.take_of_length_le (by omega)] at hb
  have hn := numOf_yes (l := (l.drop (a + 4)).take 3) (by omega) hw2
  have hn2 : (numOf ((l.drop (a + 4)).take 3)).toNat = val 0 ((l.drop (a + 4)).take 3) := by rw [hn, Int.toNat_natCast]
  unfold lenS
  rw [hn2, hn]
  exact ⟨rfl, by omega⟩
theorem seen_no1 {l : List UInt8} {a : Nat} (h : ¬ a + 7 ≤ l.length) : seenS l a = false := by unfold seenS; rw [decide_eq_false h, Bool.false_and]
theorem seen_no2 {l : List UInt8} {a : Nat} (h : within 48 57 ((l.drop a).take 7) = false) : seenS l a = false := by unfold seenS; rw [h, Bool.false_and, Bool.and_false]
theorem seen_no3 {l : List UInt8} {a : Nat} (h : ¬ numOf ((l.drop (a + 4)).take 3) ≤ (l.length : Int) - a - 7) : seenS l a = false := by unfold seenS; rw [decide_eq_false h, Bool.and_false, Bool.and_false]
theorem seen_yes {l : List UInt8} {a : Nat} (h1 : a + 7 ≤ l.length) (h2 : within 48 57 ((l.drop a).take 7) = true) (h3 : numOf ((l.drop (a + 4)).take 3) ≤ (l.length : Int) - a - 7) : seenS l a = true := by
  unfold seenS; rw [decide_eq_true h1, h2, decide_eq_true h3]; rfl
theorem rdS_none {l : List UInt8} {f a : Nat} {acc : List Fld} (hrd : rdS l (l.length + 1) 0 [] = rdS l f a acc) (h : a < l.length) (he : seenS l a = false) : gotT l = none := by
  rw [got_S, hrd, rdS_no h he]; rfl
theorem gets_empty (w w' : World) (l : List UInt8) (h : gotT l = none) (g : Nat) (ho : w'.ownsRow w.heap.size 48 2 (.slice (some ⟨g, 0, none⟩) 0 0) 0 []) (hb : Below w.heap.size w w') : Gets w (gotT l) (.returned (.tuple #[.slice (some ⟨g, 0, none⟩) 0 0, .bool false])) w' := by
  rw [h]; exact ⟨_, _, rfl, ho, hb⟩
theorem lit_low {w w' : World} (hb : Below w.heap.size w w') : (w'.alloc (.cells #[] 48)).ownsRow w.heap.size 48 2 (.slice (some ⟨w'.heap.size, 0, none⟩) 0 0) 0 [] := lowerRow (lit_own w') hb.size

set_option maxRecDepth 100000 in
set_option maxHeartbeats 3200000 in
theorem sGetTags_any (l : List UInt8) (w : World) (hl : l.length ≤ 1048576) :
    Calls Tryd.prog 12 #[.string ⟨l.toArray⟩] w (Gets w (gotT l)) := by
  obtain ⟨i0, hi, hz0, hz1, hz2⟩ := info_parts infoF
  have HO0 : Hid ((w.alloc (.cells #[] 48)).ownsRow w.heap.size 48 2 (.slice (some ⟨w.heap.size, 0, none⟩) 0 0) 0 []) := lit_own w
  go_enter Tryd.func12, Tryd.ntmps12
  go_wp2
  go_loopw [4, 5] (fun v i wr => ∃ (f a : Nat) (acc : List Fld), a ≤ l.length ∧ i = .int .i64 a ∧ rdS l (l.length + 1) 0 [] = rdS l f a acc ∧ l.length < a + f ∧ acc.length * 7 ≤ a ∧ (∀ g ∈ acc, g.2.length ≤ 1048576) ∧ wr.ownsRow w.heap.size 48 2 v acc.length (fcells acc) ∧ Below w.heap.size w wr) (fun _ i _ => l.length - (intOf i).toNat)
  case atStart => exact ⟨l.length + 1, 0, [], Nat.zero_le _, rfl, rfl, by omega, by simp, (fun g hg => by cases hg), HO0.out, by go_grown⟩
  case round =>
    obtain ⟨f, a, acc, ha, rfl, hrd, hf, hal, hmem, ho, hbr⟩ := hrel
    obtain ⟨va, vc, hv, -, -⟩ := flds_of_own' ho
    subst hv
    have HO : Hid (wr.ownsRow w.heap.size 48 2 (.slice va acc.length vc) acc.length (fcells acc)) := ho
    have HM : Hid (∀ g ∈ acc, g.2.length ≤ 1048576) := hmem
    have HLL : Hid ((wr.alloc (.cells #[] 48)).ownsRow w.heap.size 48 2 (.slice (some ⟨wr.heap.size, 0, none⟩) 0 0) 0 []) := lit_low hbr
    have hba : Below w.heap.size w (wr.alloc (.cells #[] 48)) := hbr.alloc hbr.size _
    clear ho hmem HO0
    by_cases hlt : a < l.length
    · have hai : (a : Int) < (l.length : Int) := by omega
      by_cases h7 : a + 7 ≤ l.length
      · have h7d : decide ((l.length : Int) - (a : Int) < 7) = false := decide_eq_false (by omega)
        have hpc := piece_eq l a 7
        obtain ⟨P, hP⟩ : ∃ P, (l.drop a).take 7 = P := ⟨_, rfl⟩
        have hPl : P.length ≤ 7 := by rw [← hP, List.length_take]; omega
        cases hw : within 48 57 P
        · have HN : Hid (gotT l = none) := rdS_none hrd hlt (seen_no2 (by rw [hP]; exact hw))
          rw [hP] at hpc
          have HW : Hid _ := hw
          clear hrd hP hw
          go_wp2_with fail
          refine (sDigits_any P _ (by omega)).mono ?_
          rintro e w1 ⟨rfl, hw1⟩
          subst hw1
          rw [HW.out]
          go_wp2
          go_ret2
          exact gets_empty _ _ _ HN.out _ HLL.out hba
        · obtain ⟨hn3, hn9⟩ := seen_len h7 (by rw [hP]; exact hw)
          have hpc3 : (⟨l.toArray⟩ : ByteArray).extract (a + 4) (a + 7) = ⟨((l.drop (a + 4)).take 3).toArray⟩ := piece_eq l (a + 4) 3
          have hpc4 := piece_eq l a 4
          obtain ⟨P3, hP3⟩ : ∃ P, (l.drop (a + 4)).take 3 = P := ⟨_, rfl⟩
          have hP3l : P3.length ≤ 3 := by rw [← hP3, List.length_take]; omega
          have hno := seen_no3 (l := l) (a := a)
          have hyes := seen_yes h7 (by rw [hP]; exact hw)
          have hts : tagS l a = (numOf ((l.drop a).take 4), (l.drop (a + 7)).take (lenS l a)) := rfl
          have hpc5 := piece_eq l (a + 7) (lenS l a)
          rw [hP] at hpc
          rw [hP3] at hpc3 hno hyes hn3
          obtain ⟨K, hK⟩ : ∃ K, lenS l a = K := ⟨_, rfl⟩
          rw [hK] at hn3 hn9 hts hpc5
          by_cases hbig : (l.length : Int) - (a : Int) - 7 < (K : Int)
          · have HN : Hid (gotT l = none) := rdS_none hrd hlt (hno (by rw [hn3]; omega))
            have HW : Hid _ := hw
            have HN3 : Hid _ := hn3
            clear hrd hP hw hno hyes hts hpc4 hpc5 hK hP3 hn3
            go_wp2_with fail
            refine (sDigits_any P _ (by omega)).mono ?_
            rintro e w1 ⟨rfl, hw1⟩
            subst hw1
            rw [HW.out]
            go_wp2_with fail
            refine (sNumOf_any P3 _ (by omega)).mono ?_
            rintro e w1 ⟨rfl, hw1⟩
            subst hw1
            rw [HN3.out]
            go_wp2
            go_ret2
            exact gets_empty _ _ _ HN.out _ HLL.out hba
          · have hse := hyes (by rw [hn3]; omega)
            obtain ⟨g, rfl⟩ : ∃ g, f = g + 1 := ⟨f - 1, by omega⟩
            have hst : rdS l (l.length + 1) 0 [] = rdS l g (a + 7 + K) (acc ++ [tagS l a]) := by rw [hrd, rdS_go hlt hse, hK]
            obtain ⟨P4, hP4⟩ : ∃ P, (l.drop a).take 4 = P := ⟨_, rfl⟩
            obtain ⟨D, hD⟩ : ∃ D, (l.drop (a + 7)).take K = D := ⟨_, rfl⟩
            have hP4l : P4.length ≤ 4 := by rw [← hP4, List.length_take]; omega
            have hDl : D.length ≤ 1048576 := by rw [← hD, List.length_take, List.length_drop]; omega
            rw [hP4] at hpc4 hts
            rw [hD] at hpc5 hts
            obtain ⟨N, hN⟩ : ∃ N, numOf P4 = N := ⟨_, rfl⟩
            rw [hN] at hts
            rw [hts] at hst
            have HW : Hid _ := hw
            have HN3 : Hid _ := hn3
            have HN4 : Hid _ := hN
            have HST : Hid _ := hst
            have hkl : a + 7 + K ≤ l.length := by omega
            have hbs := hbr.size
            clear hrd hP hw hno hyes hts hK hP3 hn3 hP4 hD hN hst hse HLL hba
            go_wp2_with fail
            refine (sDigits_any P _ (by omega)).mono ?_
            rintro e w1 ⟨rfl, hw1⟩
            subst hw1
            rw [HW.out]
            go_wp2_with fail
            refine (sNumOf_any P3 _ (by omega)).mono ?_
            rintro e w1 ⟨rfl, hw1⟩
            subst hw1
            rw [HN3.out]
            go_wp2
            have m1 : (0 : Int) ≤ (a : Int) := by omega
            have m2 : (a : Int) ≤ (a : Int) + 4 := by omega
            have m3 : (a : Int) + 4 ≤ (l.length : Int) := by omega
            have m4 : (0 : Int) ≤ (a : Int) + 7 := by omega
            have m5 : (a : Int) + 7 ≤ (a : Int) + 7 + (K : Int) := by omega
            have m6 : (a : Int) + 7 + (K : Int) ≤ (l.length : Int) := by omega
            have r1 : IntKind.i64.wrap ((a : Int) + 4) = (a : Int) + 4 := wrapI (by omega) (by omega)
            have r2 : IntKind.i64.wrap ((a : Int) + 7) = (a : Int) + 7 := wrapI (by omega) (by omega)
            have r3 : IntKind.i64.wrap ((a : Int) + 7 + (K : Int)) = (a : Int) + 7 + (K : Int) := wrapI (by omega) (by omega)
            have t1 : ((a : Int) + 4).toNat = a + 4 := by omega
            have t2 : ((a : Int) + 7).toNat = a + 7 := by omega
            have t3 : ((a : Int) + 7 + (K : Int)).toNat = a + 7 + K := by omega
            go_region_held3 (fun _ => True) (trivial) ((first | (go_at_call 34; refine (sNumOf_any P4 _ (by omega)).mono ?_; rintro e wz ⟨rfl, hwz⟩; subst hwz; rw [HN4.out]) | (refine step_append_flds rfl (.tmp 44) (.tmp 60) rfl w.heap.size (.slice va acc.length vc) acc.length (fcells acc) (by rfl) (keepRow HO.out (by go_grown)) (some ⟨w1.heap.size, 0, none⟩) 1 [(N, D)] (by rfl) (one_at (by simp [go_sem]) (by simp [go_sem])) (by simp <;> omega) (by simp <;> omega) ?_; intro v5 w5 o5 g5 _)))
            all_goals
              have hb5 : Below w.heap.size w w5 := Below.grown (hbr.trans (Below.mono (by go_grown) hbs)) g5 (by simp <;> omega) (fun j hj => (HO.out.lt j hj).1)
              have HR : Hid (w5.ownsRow w.heap.size 48 2 v5 (acc ++ [(N, D)]).length (fcells (acc ++ [(N, D)]))) := by rw [Hid, fcells_append, List.length_append]; exact o5
              clear o5 g5 HO
              go_wp2
              go_roundw
              case rel =>
                refine ⟨g, a + 7 + K, acc ++ [(N, D)], by omega, by go_num, HST.out, by omega, by simp; omega, fun x hx => ?_, HR.out, hb5⟩
                rcases List.mem_append.1 hx with h | h
                · exact HM.out x h
                · obtain rfl : x = (N, D) := by simpa using h
                  exact hDl
              case measure => simp [intOf]; omega
      · have h7d : decide ((l.length : Int) - (a : Int) < 7) = true := decide_eq_true (by omega)
        have HN : Hid (gotT l = none) := rdS_none hrd hlt (seen_no1 h7)
        clear hrd
        go_wp2
        go_ret2
        exact gets_empty _ _ _ HN.out _ HLL.out hba
    · have hal2 : a = l.length := by omega
      subst hal2
      have hgt : gotT l = onlyT l (some acc) := by rw [got_S, hrd, rdS_end (by omega) (by omega)]
      have hfl : FldsAt wr va acc := flds_any HO.out
      clear hrd HLL hba
      cases hpo : putOk acc
      · have HN : Hid (gotT l = none) := by rw [Hid, hgt]; exact only_no (fun h => by rw [hpo] at h; exact absurd h.1 (by decide))
        go_wp2_with fail
        refine (sPutTags_any _ _ _ _ hfl (by omega) (fun g hg => by have := HM.out g hg; omega)).mono ?_
        rintro e w1 ⟨rfl, b1⟩
        rw [hpo]
        have bb := next hbr b1
        have HL1 : Hid ((w1.alloc (.cells #[] 48)).ownsRow w.heap.size 48 2 (.slice (some ⟨w1.heap.size, 0, none⟩) 0 0) 0 []) := lit_low bb
        generalize putL acc = pl
        clear hpo hgt b1
        go_wp2
        go_ret2
        exact gets_empty _ _ _ HN.out _ HL1.out (bb.alloc bb.size _)
      · by_cases heq : putTs acc = l
        · have HY : Hid (gotT l = some acc) := by rw [Hid, hgt]; exact only_of hpo heq
          have HP : Hid (putL acc = l) := by rw [Hid, putL_yes hpo, heq]
          go_wp2_with fail
          refine (sPutTags_any _ _ _ _ hfl (by omega) (fun g hg => by have := HM.out g hg; omega)).mono ?_
          rintro e w1 ⟨rfl, b1⟩
          rw [hpo, HP.out]
          have bb := next hbr b1
          have HO1 : Hid (w1.ownsRow w.heap.size 48 2 (.slice va acc.length vc) acc.length (fcells acc)) := keepRow HO.out b1
          have hll : (l == l) = true := by simp
          clear hpo hgt b1 heq
          go_wp2
          go_ret2
          rw [HY.out]
          exact ⟨_, _, rfl, HO1.out, bb⟩
        · have HN : Hid (gotT l = none) := by rw [Hid, hgt]; exact only_no (fun h => heq h.2)
          have hne : (putL acc == l) = false := by rw [putL_yes hpo]; simpa using heq
          go_wp2_with fail
          refine (sPutTags_any _ _ _ _ hfl (by omega) (fun g hg => by have := HM.out g hg; omega)).mono ?_
          rintro e w1 ⟨rfl, b1⟩
          rw [hpo]
          have bb := next hbr b1
          have HL1 : Hid ((w1.alloc (.cells #[] 48)).ownsRow w.heap.size 48 2 (.slice (some ⟨w1.heap.size, 0, none⟩) 0 0) 0 []) := lit_low bb
          generalize putL acc = pl at hne
          clear hpo hgt b1 heq
          go_wp2
          go_ret2
          exact gets_empty _ _ _ HN.out _ HL1.out (bb.alloc bb.size _)

end Go.Proofs.YtijlbceejpjfiaaDoor
