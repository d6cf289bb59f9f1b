/- The contract of the specification's PutSet. -/
import Derived.Test.YtbncdhfmhokgeaaGreatDoorJFnBatch1a
import Derived.Test.YtbncdhfmhokgeaaGreatDoorJFnBatch0a
namespace Go.Proofs.YtbncdhfmhokgeaaGreatDoor
open Go.RowKit

theorem own03 (w : World) : (w.alloc (.cells #[] 3)).ownsRow w.heap.size 3 1 (.slice (some ⟨w.heap.size, 0, none⟩) 0 0) 0 [] := World.ownsRow_lit w #[] 0 (Nat.le_refl _) (by unfold maxLen; omega) rfl
theorem own05 (w : World) : (w.alloc (.cells #[] 5)).ownsRow w.heap.size 5 1 (.slice (some ⟨w.heap.size, 0, none⟩) 0 0) 0 [] := World.ownsRow_lit w #[] 0 (Nat.le_refl _) (by unfold maxLen; omega) rfl
/-- bits as numbers -/
def cellsI (f : Nat → Bool) (m : Nat) : List Value := (List.range m).map fun n => Value.int .i64 ((f n).toNat : Int)
theorem cellsI_none (m : Nat) : List.replicate m (Value.int .i64 0) = cellsI (bitS []) m := by
  apply List.ext_getElem?
  intro i
  by_cases hi : i < m
  · simp [hi, cellsI, bitS, wide]
  · simp [hi, cellsI]
theorem cellsI_set (f : Nat → Bool) (m x : Nat) : (cellsI f m).set x (.int .i64 1) = cellsI (addB f x) m := by
  have h := map_range_set (fun n => Value.int .i64 ((f n).toNat : Int)) (fun n => Value.int .i64 ((addB f x n).toNat : Int)) m x (fun i hi => by
    unfold addB
    rw [decide_eq_false hi, Bool.or_false])
  have e : Value.int .i64 ((addB f x x).toNat : Int) = .int .i64 1 := by unfold addB; simp
  rw [e] at h
  exact h
theorem rep_succ (k : Nat) : List.replicate (k + 1) (Value.int .i64 0) = List.replicate k (.int .i64 0) ++ [.int .i64 0] := List.replicate_succ'
theorem bitS_succ (zs : List Int) (k x : Nat) (h : k < zs.length) (hm : zs.getD k 0 = (x : Int)) : bitS (zs.take (k + 1)) = if 64 < (x : Int) then addB (addB (bitS (zs.take k)) x) 1 else addB (bitS (zs.take k)) x := by
  have e : zs[k] = (x : Int) := by rw [← hm]; simp [List.getD_eq_getElem?_getD, h]
  have ht : zs.take (k + 1) = zs.take k ++ [(x : Int)] := by rw [List.take_add_one, List.getElem?_eq_getElem h, e]; rfl
  have hw : wide (zs.take (k + 1)) = (wide (zs.take k) || decide (64 < (x : Int))) := by rw [ht]; simp [wide]
  have hc : ∀ n : Nat, (zs.take (k + 1)).contains (n : Int) = ((zs.take k).contains (n : Int) || decide (n = x)) := by
    intro n
    rw [ht]
    by_cases hn : n = x
    · subst hn; simp
    · have : ¬ (n : Int) = (x : Int) := by omega
      simp [hn, this]
  funext n
  unfold bitS
  rw [hw, hc n]
  by_cases hx : 64 < (x : Int)
  · rw [if_pos hx]
    unfold addB
    simp only [hx, decide_true, Bool.or_true, Bool.and_true]
    cases decide (n = 1) <;> cases wide (zs.take k) <;> cases (zs.take k).contains (n : Int) <;> cases decide (n = x) <;> rfl
  · rw [if_neg hx]
    unfold addB
    simp only [hx, decide_false, Bool.or_false]
    rw [Bool.or_assoc]
theorem sizeS_succ (zs : List Int) (k x : Nat) (h : k < zs.length) (hm : zs.getD k 0 = (x : Int)) : sizeS (zs.take (k + 1)) = if 64 < (x : Int) then 16 else sizeS (zs.take k) := by
  have e : zs[k] = (x : Int) := by rw [← hm]; simp [List.getD_eq_getElem?_getD, h]
  have ht : zs.take (k + 1) = zs.take k ++ [(x : Int)] := by rw [List.take_add_one, List.getElem?_eq_getElem h, e]; rfl
  have hw : wide (zs.take (k + 1)) = (wide (zs.take k) || decide (64 < (x : Int))) := by rw [ht]; simp [wide]
  unfold sizeS
  rw [hw]
  by_cases hx : 64 < (x : Int)
  · simp [hx]
  · simp [hx]
theorem prevS_ge {zs : List Int} {k : Nat} (h : ∀ j, j < k → 2 ≤ zs.getD j 0) : 1 ≤ prevS zs k := by
  unfold prevS
  split
  · omega
  · have := h (k - 1) (by omega); omega

set_option maxRecDepth 100000 in
set_option maxHeartbeats 2000000 in
set_option maxRecDepth 20000 in
theorem sPutSet_any (ao : Option Addr) (cap : Nat) (zs : List Int) (w : World) (hx : IntsAt w ao zs) (hl : zs.length ≤ 1048576) :
    Calls Tryz.prog 41 #[.slice ao zs.length cap] w fun e w' => e = .returned (.tuple #[.string ⟨((putS zs).getD []).toArray⟩, .bool (putS zs).isSome]) ∧ Below w.heap.size w w' := by
  obtain ⟨i3, hi3, hz30, hz31, hz32⟩ := info_parts info3
  obtain ⟨i5, hi5, hz50, hz51, hz52⟩ := info_parts info5
  have own := own03 w
  have bel0 : Below w.heap.size w (w.alloc (.cells #[] 3)) := (Below.refl _ _).alloc (Nat.le_refl _) _
  have HX : Hid (IntsAt w ao zs) := hx
  clear hx
  go_enter Tryz.func41, Tryz.ntmps41
  go_wp2
  go_loopw [4, 5] (fun v i wr => ∃ k : Nat, k ≤ 129 ∧ i = .int .i64 k ∧ wr.ownsRow w.heap.size 3 1 v k (List.replicate k (.int .i64 0)) ∧ Below w.heap.size w wr) (fun _ i _ => 129 - (intOf i).toNat)
  case atStart => exact ⟨0, Nat.zero_le _, rfl, own, bel0⟩
  case round =>
    obtain ⟨k, hk, rfl, ho, hbr⟩ := hrel
    clear own bel0
    by_cases hlt : k < 129
    · have hki : (k : Int) ≤ 128 := by omega
      go_wp2_with (at_builtin; refine wpList_append_own _ rfl (.tmp 17) (.tmp 18) 55 rfl w.heap.size 3 i3 (.int .i64 0) 1 8 Tryz.underlying55 hi3 hz30 hz31 hz32 rfl (by decide) _ _ _ rfl (ho.alloc _) ⟨wr.heap.size, 0, none⟩ 1 1 [.int .i64 0] rfl rfl (cell_one_new _ _ _) (ints_oneCell .i64 [0]) (by unfold maxLen; omega) (by omega) (by have := hbr.size; simp; omega) ?_; intro v' w1 ho1 hg1 hn1)
      have hb1 : Below w.heap.size w w1 := (hbr.alloc hbr.size _).grown hg1 (by have := hbr.size; simp; omega) (fun j hj => (ho.lt j hj).1)
      clear hg1 hn1 ho
      go_wp2
      go_roundw
      case rel => exact ⟨k + 1, by omega, by go_num, by rw [rep_succ]; exact ho1, hb1⟩
      case measure => simp [intOf]; omega
    · have hke : k = 129 := by omega
      subst hke
      rw [cellsI_none] at ho
      rcases ho.2 with ⟨hv, h0⟩ | ⟨g, cap2, cur, hv, hrest⟩
      · omega
      · subst hv
        have hgb : w.heap.size ≤ g := hrest.1
        clear hrest
        have HB0 : Hid _ := hbr
        have HO0 : Hid _ := ho
        clear hbr ho
        rw [show ((129 : Nat) : Int) = 129 from rfl]
        go_wp2
        go_loopw [6, 7] (fun s i wr => ∃ k : Nat, k ≤ zs.length ∧ i = .int .i64 k ∧ s = .int .i64 (sizeS (zs.take k)) ∧ (∀ j, j < k → 2 ≤ zs.getD j 0) ∧ ascS 1 zs = ascS (prevS zs k) (zs.drop k) ∧ wr.ownsRow w.heap.size 3 1 (.slice (some ⟨g, 0, none⟩) 129 cap2) 129 (cellsI (bitS (zs.take k)) 129) ∧ Below w.heap.size w wr) (fun _ i _ => zs.length - (intOf i).toNat)
        case atStart => exact ⟨0, Nat.zero_le _, rfl, rfl, fun j hj => by omega, rfl, HO0.out, HB0.out⟩
        case round =>
          clear HB0 HO0
          obtain ⟨k, hk, rfl, rfl, hpre, hasc, ho, hbr⟩ := hrel
          by_cases hlt : k < zs.length
          · rcases HX.out with h0 | ⟨b, off, rfl, hb, hcx⟩
            · rw [h0] at hlt; simp at hlt
            · have e1 : wr.cell? ⟨b, off + k, none⟩ = some (.int .i64 (zs.getD k 0)) := (hbr.cell (p := ⟨b, off + k, none⟩) hb).trans (hcx k hlt)
              have hki : (k : Int) < (zs.length : Int) := by omega
              have hst := hasc.trans (ascS_step zs k _ hlt)
              have hpg := prevS_ge hpre
              obtain ⟨z, hz⟩ : ∃ z, zs.getD k 0 = z := ⟨_, rfl⟩
              rw [hz] at e1 hst
              have HZ : Hid (zs.getD k 0 = z) := hz
              clear hz
              cases hin : inB z 2 128
              · have hout : ¬ (2 ≤ z ∧ z ≤ 128) := of_decide_eq_false hin
                have HN : Hid (putS zs = none) := putS_no (by rw [hst, decide_eq_false (by omega)]; rfl)
                clear hpre hasc hst ho hcx
                go_wp2
                go_quiet (exact Calls.quiet_of_same (in_any _ _ _ _))
                go_wp2
                go_ret2
                exact ⟨str_ok (by rw [HN.out]; rfl) (by rw [HN.out]; rfl), below_drewN hbr _⟩
              · have hinb : 2 ≤ z ∧ z ≤ 128 := of_decide_eq_true hin
                by_cases hk0 : k = 0
                · subst hk0
                  have hlp : prevS zs 0 < z := by unfold prevS; rw [if_pos rfl]; omega
                  rw [Nat.add_zero] at e1
                  obtain ⟨x, hxn⟩ := Int.eq_ofNat_of_zero_le (show 0 ≤ z by omega)
                  subst hxn
                  have hbs := bitS_succ zs 0 x hlt HZ.out
                  have hss := sizeS_succ zs 0 x hlt HZ.out
                  have HPRE : Hid (∀ j, j < 0 + 1 → 2 ≤ zs.getD j 0) := by
                    intro i hi
                    by_cases hik : i = 0
                    · subst hik; rw [HZ.out]; omega
                    · exact hpre i (by omega)
                  have HASC : Hid (ascS 1 zs = ascS (prevS zs (0 + 1)) (zs.drop (0 + 1))) := by
                    rw [Hid, hst, decide_eq_true ⟨hlp, by omega⟩, show prevS zs (0 + 1) = (x : Int) from by rw [← HZ.out]; rfl]; rfl
                  have c2 : wr.cell? ⟨g, x, none⟩ = some (.int .i64 ((bitS (zs.take 0) x).toNat : Int)) := by rw [ho.cellAt x (by omega)]; simp [cellsI, show x < 129 from by omega]
                  have c3 : wr.frozen? ⟨g, x, none⟩ = false := ho.frozenAt x
                  have hx129 : (x : Int) < 129 := by omega
                  have hbg : ¬ b = g := by omega
                  have hgb2 : ¬ g = b := by omega
                  by_cases h64 : 64 < (x : Int)
                  · rw [if_pos h64] at hbs hss
                    have c4 : wr.cell? ⟨g, 1, none⟩ = some (.int .i64 ((bitS (zs.take 0) 1).toNat : Int)) := by rw [ho.cellAt 1 (by omega)]; simp [cellsI]
                    have c5 : wr.frozen? ⟨g, 1, none⟩ = false := ho.frozenAt 1
                    have HO : Hid (∀ d, (((wr.drewN d).setCell ⟨g, x, none⟩ (.int .i64 1)).setCell ⟨g, 1, none⟩ (.int .i64 1)).ownsRow w.heap.size 3 1 (.slice (some ⟨g, 0, none⟩) 129 cap2) 129 (cellsI (bitS (zs.take (0 + 1))) 129) ∧ Below w.heap.size w (((wr.drewN d).setCell ⟨g, x, none⟩ (.int .i64 1)).setCell ⟨g, 1, none⟩ (.int .i64 1))) := by
                      intro d
                      have hod : (wr.drewN d).ownsRow w.heap.size 3 1 (.slice (some ⟨g, 0, none⟩) 129 cap2) 129 (cellsI (bitS (zs.take 0)) 129) := ho
                      have h := ((hod.stored x (.int .i64 1)).1.stored 1 (.int .i64 1)).1
                      rw [cellsI_set, cellsI_set, ← hbs] at h
                      exact ⟨h, ((below_drewN hbr d).setCell hgb _).setCell hgb _⟩
                    have HS : Hid _ := hss
                    have hx1 : ¬ x = 1 := by omega
                    have hx2 : ¬ 1 = x := by omega
                    generalize (bitS (zs.take 0) x).toNat = f1 at c2
                    generalize (bitS (zs.take 0) 1).toNat = f2 at c4
                    clear hpre hasc hst ho hbs hss hcx
                    go_wp2
                    go_quiet (exact Calls.quiet_of_same (in_any _ _ _ _))
                    go_wp2
                    go_roundw
                    case rel => exact ⟨0 + 1, by omega, by go_num, by rw [HS.out]; rfl, HPRE.out, HASC.out, (HO.out _).1, (HO.out _).2⟩
                    case measure => simp [intOf]; omega
                  · rw [if_neg h64] at hbs hss
                    have h64' : (x : Int) ≤ 64 := by omega
                    have HO : Hid (∀ d, ((wr.drewN d).setCell ⟨g, x, none⟩ (.int .i64 1)).ownsRow w.heap.size 3 1 (.slice (some ⟨g, 0, none⟩) 129 cap2) 129 (cellsI (bitS (zs.take (0 + 1))) 129) ∧ Below w.heap.size w ((wr.drewN d).setCell ⟨g, x, none⟩ (.int .i64 1))) := by
                      intro d
                      have hod : (wr.drewN d).ownsRow w.heap.size 3 1 (.slice (some ⟨g, 0, none⟩) 129 cap2) 129 (cellsI (bitS (zs.take 0)) 129) := ho
                      have h := (hod.stored x (.int .i64 1)).1
                      rw [cellsI_set, ← hbs] at h
                      exact ⟨h, (below_drewN hbr d).setCell hgb _⟩
                    have HS : Hid _ := hss
                    generalize (bitS (zs.take 0) x).toNat = f1 at c2
                    clear hpre hasc hst ho hbs hss hcx
                    go_wp2
                    go_quiet (exact Calls.quiet_of_same (in_any _ _ _ _))
                    go_wp2
                    go_roundw
                    case rel => exact ⟨0 + 1, by omega, by go_num, by first | (rw [HS.out]; done) | (rw [HS.out]; rfl), HPRE.out, HASC.out, (HO.out _).1, (HO.out _).2⟩
                    case measure => simp [intOf]; omega
                · obtain ⟨j, rfl⟩ : ∃ j, k = j + 1 := ⟨k - 1, by omega⟩
                  have e2 : wr.cell? ⟨b, off + j, none⟩ = some (.int .i64 (zs.getD j 0)) := (hbr.cell (p := ⟨b, off + j, none⟩) hb).trans (hcx j (by omega))
                  have hpv : prevS zs (j + 1) = zs.getD j 0 := rfl
                  obtain ⟨y, hy⟩ : ∃ y, zs.getD j 0 = y := ⟨_, rfl⟩
                  rw [hy] at e2 hpv
                  by_cases hle : z ≤ y
                  · have HN : Hid (putS zs = none) := putS_no (by rw [hst, decide_eq_false (by omega)]; rfl)
                    clear hpre hasc hst ho hcx hy hpv hpg hk hlt
                    go_wp2
                    go_quiet (exact Calls.quiet_of_same (in_any _ _ _ _))
                    go_wp2
                    go_ret2
                    exact ⟨str_ok (by rw [HN.out]; rfl) (by rw [HN.out]; rfl), below_drewN hbr _⟩
                  · have hlp : prevS zs (j + 1) < z := by omega
                    have hyz : y < z := by omega
                    clear hy hpv
                    obtain ⟨x, hxn⟩ := Int.eq_ofNat_of_zero_le (show 0 ≤ z by omega)
                    subst hxn
                    have hbs := bitS_succ zs (j + 1) x hlt HZ.out
                    have hss := sizeS_succ zs (j + 1) x hlt HZ.out
                    have HPRE : Hid (∀ i, i < j + 1 + 1 → 2 ≤ zs.getD i 0) := by
                      intro i hi
                      by_cases hik : i = j + 1
                      · subst hik; rw [HZ.out]; omega
                      · exact hpre i (by omega)
                    have HASC : Hid (ascS 1 zs = ascS (prevS zs (j + 1 + 1)) (zs.drop (j + 1 + 1))) := by
                      rw [Hid, hst, decide_eq_true ⟨hlp, by omega⟩, show prevS zs (j + 1 + 1) = (x : Int) from by rw [← HZ.out]; rfl]; rfl
                    have c2 : wr.cell? ⟨g, x, none⟩ = some (.int .i64 ((bitS (zs.take (j + 1)) x).toNat : Int)) := by rw [ho.cellAt x (by omega)]; simp [cellsI, show x < 129 from by omega]
                    have c3 : wr.frozen? ⟨g, x, none⟩ = false := ho.frozenAt x
                    have hx129 : (x : Int) < 129 := by omega
                    have hbg : ¬ b = g := by omega
                    have hgb2 : ¬ g = b := by omega
                    by_cases h64 : 64 < (x : Int)
                    · rw [if_pos h64] at hbs hss
                      have c4 : wr.cell? ⟨g, 1, none⟩ = some (.int .i64 ((bitS (zs.take (j + 1)) 1).toNat : Int)) := by rw [ho.cellAt 1 (by omega)]; simp [cellsI]
                      have c5 : wr.frozen? ⟨g, 1, none⟩ = false := ho.frozenAt 1
                      have HO : Hid (∀ d, (((wr.drewN d).setCell ⟨g, x, none⟩ (.int .i64 1)).setCell ⟨g, 1, none⟩ (.int .i64 1)).ownsRow w.heap.size 3 1 (.slice (some ⟨g, 0, none⟩) 129 cap2) 129 (cellsI (bitS (zs.take (j + 1 + 1))) 129) ∧ Below w.heap.size w (((wr.drewN d).setCell ⟨g, x, none⟩ (.int .i64 1)).setCell ⟨g, 1, none⟩ (.int .i64 1))) := by
                        intro d
                        have hod : (wr.drewN d).ownsRow w.heap.size 3 1 (.slice (some ⟨g, 0, none⟩) 129 cap2) 129 (cellsI (bitS (zs.take (j + 1))) 129) := ho
                        have h := ((hod.stored x (.int .i64 1)).1.stored 1 (.int .i64 1)).1
                        rw [cellsI_set, cellsI_set, ← hbs] at h
                        exact ⟨h, ((below_drewN hbr d).setCell hgb _).setCell hgb _⟩
                      have HS : Hid _ := hss
                      have hx1 : ¬ x = 1 := by omega
                      have hx2 : ¬ 1 = x := by omega
                      generalize (bitS (zs.take (j + 1)) x).toNat = f1 at c2
                      generalize (bitS (zs.take (j + 1)) 1).toNat = f2 at c4
                      clear hpre hasc hst ho hbs hss hcx
                      go_wp2
                      go_quiet (exact Calls.quiet_of_same (in_any _ _ _ _))
                      go_wp2
                      go_roundw
                      case rel => exact ⟨j + 1 + 1, by omega, by go_num, by rw [HS.out]; rfl, HPRE.out, HASC.out, (HO.out _).1, (HO.out _).2⟩
                      case measure => simp [intOf]; omega
                    · rw [if_neg h64] at hbs hss
                      have h64' : (x : Int) ≤ 64 := by omega
                      have HO : Hid (∀ d, ((wr.drewN d).setCell ⟨g, x, none⟩ (.int .i64 1)).ownsRow w.heap.size 3 1 (.slice (some ⟨g, 0, none⟩) 129 cap2) 129 (cellsI (bitS (zs.take (j + 1 + 1))) 129) ∧ Below w.heap.size w ((wr.drewN d).setCell ⟨g, x, none⟩ (.int .i64 1))) := by
                        intro d
                        have hod : (wr.drewN d).ownsRow w.heap.size 3 1 (.slice (some ⟨g, 0, none⟩) 129 cap2) 129 (cellsI (bitS (zs.take (j + 1))) 129) := ho
                        have h := (hod.stored x (.int .i64 1)).1
                        rw [cellsI_set, ← hbs] at h
                        exact ⟨h, (below_drewN hbr d).setCell hgb _⟩
                      have HS : Hid _ := hss
                      generalize (bitS (zs.take (j + 1)) x).toNat = f1 at c2
                      clear hpre hasc hst ho hbs hss hcx
                      go_wp2
                      go_quiet (exact Calls.quiet_of_same (in_any _ _ _ _))
                      go_wp2
                      go_roundw
                      case rel => exact ⟨j + 1 + 1, by omega, by go_num, by first | (rw [HS.out]; done) | (rw [HS.out]; rfl), HPRE.out, HASC.out, (HO.out _).1, (HO.out _).2⟩
                      case measure => simp [intOf]; omega
          · have hke : k = zs.length := by omega
            subst hke
            rw [List.take_of_length_le (Nat.le_refl _)] at ho ⊢
            have HY : Hid (putS zs = some (setB (bitS zs) (sizeS zs))) := putS_yes (by rw [hasc, List.drop_of_length_le (Nat.le_refl _)]; rfl)
            have hgs : g < wr.heap.size := (ho.lt g rfl).2
            have HC : Hid (∀ n, n < 129 → wr.cell? ⟨g, n, none⟩ = some (.int .i64 ((bitS zs n).toNat : Int))) := by
              intro n hn
              rw [ho.cellAt n (by omega)]
              simp [cellsI, hn]
            have hsz : sizeS zs ≤ 16 := by unfold sizeS; split <;> omega
            generalize bitS zs = f at HC HY
            obtain ⟨m, hm⟩ : ∃ m, sizeS zs = m := ⟨_, rfl⟩
            rw [hm] at HY hsz ⊢
            obtain ⟨W, rfl⟩ : ∃ W, W = wr := ⟨wr, rfl⟩
            have own5 := own05 W
            have bel5 : Below W.heap.size W (W.alloc (.cells #[] 5)) := (Below.refl _ _).alloc (Nat.le_refl _) _
            have HB : Hid _ := hbr
            have hki : ¬ (zs.length : Int) < (zs.length : Int) := by omega
            clear ho hpre hasc hm hbr
            go_wp2
            go_loopw [8, 9, 10, 11] (fun v i _ _ wr => ∃ k : Nat, k ≤ m ∧ i = .int .i64 k ∧ wr.ownsRow W.heap.size 5 1 v k ((setB f k).map cell) ∧ Below W.heap.size W wr) (fun _ i _ _ _ => m - (intOf i).toNat)
            case atStart => exact ⟨0, Nat.zero_le _, rfl, own5, bel5⟩
            case round =>
              obtain ⟨k, hk, rfl, ho, hbq⟩ := hrel
              clear own5 bel5
              by_cases hlt : k < m
              · have hki : (k : Int) < (m : Int) := by omega
                have HOQ : Hid (wr.ownsRow W.heap.size 5 1 _ k ((setB f k).map cell)) := ho
                clear ho
                go_wp2
                go_loop [10, 11] (fun x b => ∃ c : Nat, c ≤ 8 ∧ b = .int .i64 (c + 1 : Nat) ∧ x = .int .i64 (partB f k c)) (fun _ b => 9 - (intOf b).toNat)
                case atStart => exact ⟨0, Nat.zero_le _, rfl, rfl⟩
                case round =>
                  obtain ⟨c, hc, rfl, rfl⟩ := hrel
                  have hpl := partB_lt f k c
                  have hpp : 2 ^ c ≤ 2 ^ 8 := Nat.pow_le_pow_right (by omega) hc
                  by_cases hc8 : c < 8
                  · have e1 : wr.cell? ⟨g, 8 * k + (c + 1), none⟩ = some (.int .i64 ((f (8 * k + c + 1)).toNat : Int)) := (hbq.cell (p := ⟨g, 8 * k + (c + 1), none⟩) hgs).trans (HC.out _ (by omega))
                    have hy1 : (f (8 * k + c + 1)).toNat ≤ 1 := Bool.toNat_le _
                    have hst : partB f k (c + 1) = 2 * partB f k c + (f (8 * k + c + 1)).toNat := rfl
                    obtain ⟨y, hy⟩ : ∃ y, (f (8 * k + c + 1)).toNat = y := ⟨_, rfl⟩
                    obtain ⟨x, hx⟩ : ∃ x, partB f k c = x := ⟨_, rfl⟩
                    obtain ⟨t, ht⟩ : ∃ t, c + 1 = t := ⟨_, rfl⟩
                    rw [hy] at e1 hy1 hst
                    rw [hx] at hst hpl ⊢
                    rw [ht] at e1 ⊢
                    have HST : Hid ((partB f k (c + 1) : Int) = 2 * (x : Int) + (y : Int)) := by rw [Hid, hst]; omega
                    have hxb : x ≤ 256 := by omega
                    have hti : (t : Int) ≤ 8 := by omega
                    have hki2 : (k : Int) ≤ 15 := by omega
                    have hix : 8 * (k : Int) + (t : Int) < 129 := by omega
                    clear hst hx hy hpl hpp
                    go_wp2
                    go_round
                    case rel => exact ⟨c + 1, by omega, by rw [show ((c + 1 + 1 : Nat) : Int) = (t : Int) + 1 from by omega], by rw [HST.out]⟩
                    case measure => simp [intOf]; omega
                  · have hce : c = 8 := by omega
                    subst hce
                    have HP : Hid ((setB f (k + 1)).map cell = (setB f k).map cell ++ [.int .u8 (partB f k 8)]) := by rw [Hid, setB_succ]; simp [cell, byteOf_nat]
                    have hx255 := partB_255 f k
                    obtain ⟨x, hx⟩ : ∃ x, partB f k 8 = x := ⟨_, rfl⟩
                    rw [hx] at HP hx255 ⊢
                    have ho := HOQ.out
                    have hbz := hbq.size
                    clear hx hpl hpp HOQ
                    go_wp2_with (at_builtin; refine wpList_append_own _ rfl (.tmp 81) (.tmp 84) 22 rfl W.heap.size 5 i5 (.int .u8 0) 1 1 Tryz.underlying22 hi5 hz50 hz51 hz52 rfl (by decide) _ _ _ rfl (ho.alloc _) ⟨wr.heap.size, 0, none⟩ 1 1 [.int .u8 (x : Int)] rfl rfl (cell_one_new _ _ _) (ints_oneCell .u8 [(x : Int)]) (by unfold maxLen; omega) (by omega) (by simp; omega) ?_; intro v' w1 ho1 hg1 hn1)
                    have hb1 : Below W.heap.size W w1 := (hbq.alloc hbz _).grown hg1 (by simp; omega) (fun j hj => (ho.lt j hj).1)
                    clear hg1 hn1 ho
                    go_wp2
                    go_roundw
                    case rel => exact ⟨k + 1, by omega, by go_num, by rw [HP.out]; exact ho1, hb1⟩
                    case measure => simp [intOf]; omega
              · have hke : k = m := by omega
                subst hke
                have ht := text_own ho
                clear ho
                go_wp2
                go_ret2
                exact ⟨str_ok (by rw [HY.out]; rfl) (by rw [HY.out]; rfl), HB.out.trans (hbq.mono HB.out.size)⟩

end Go.Proofs.YtbncdhfmhokgeaaGreatDoor
