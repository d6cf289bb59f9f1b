/- The contract of the specification's Split; marks that are laid into an answer and found again. -/
import Derived.Test.YtkhohbkdfgnmnaaSplit
import Derived.Maps.AppendAt
namespace Go.Proofs.Ytkhohbkdfgnmnaa
open Go.RowKit

def partsTo (x n : Int) (k : Nat) : List Value := (List.range k).map fun i => Value.int .i64 (partOf x n i)
theorem partsTo_succ (x n : Int) (k : Nat) : partsTo x n (k + 1) = partsTo x n k ++ [.int .i64 (partOf x n k)] := by simp [partsTo, List.range_succ]
theorem partsTo_all (x : Int) (m : Nat) : partsTo x m m = (partsL x m).map (Value.int .i64) := by rw [parts_map, Int.toNat_natCast]; rfl
theorem own_shape {w : World} {base m : Nat} {v : Value} {xs : List Value} (h : w.ownsRow base 3 1 v m xs) : ∃ ao cap, v = .slice ao m cap := by
  rcases h.2 with ⟨rfl, rfl⟩ | ⟨g, cap, cur, rfl, hrest⟩
  · exact ⟨none, 0, rfl⟩
  · exact ⟨_, cap, rfl⟩
theorem fin_split {x : Int} {m : Nat} {w wr : World} {v : Value} {e : Ending} (he : e = .returned (.tuple #[v, .bool true])) (ho : wr.ownsRow w.heap.size 3 1 v m (partsTo x m m)) (hb : Below w.heap.size w wr) :
    ∃ ao cap, e = .returned (.tuple #[.slice ao m cap, .bool true]) ∧ wr.ownsRow w.heap.size 3 1 (.slice ao m cap) m ((partsL x m).map (Value.int .i64)) ∧ Below w.heap.size w wr := by
  obtain ⟨ao, cap, rfl⟩ := own_shape ho
  rw [partsTo_all] at ho
  exact ⟨ao, cap, he, ho, hb⟩

set_option maxHeartbeats 1000000 in
theorem sSplit_up (x : Int) (m : Nat) (w : World) (h1 : mOk x = true) (h2 : 1 ≤ m) (h3 : m ≤ 100) (h4 : 0 ≤ x.tmod m) (dd : x / (m : Int) = x.tdiv m) (dm : x % (m : Int) = x.tmod m) :
    Calls Try.prog 27 #[.int .i64 x, .int .i64 m] w fun e w' => ∃ ao cap, e = .returned (.tuple #[.slice ao m cap, .bool true]) ∧
      w'.ownsRow w.heap.size 3 1 (.slice ao m cap) m ((partsL x m).map (Value.int .i64)) ∧ Below w.heap.size w w' := by
  have i1 : inB m 1 100 = true := by simp [inB]; omega
  have d1 := mOk_bd h1
  have hb := Plain.ediv_bd x m 1000000000000 (by omega) d1.1 d1.2 (by omega)
  have hm := Int.emod_lt_of_pos x (b := (m : Int)) (by omega)
  have hm0 := Int.emod_nonneg x (b := (m : Int)) (by omega)
  have t1 : -1000000000001 ≤ x.tdiv m ∧ x.tdiv m ≤ 1000000000001 := by omega
  have t2 : -100 ≤ x.tmod m ∧ x.tmod m ≤ 100 := by omega
  have hne : ((m : Int) == 0) = false := by simp; omega
  have DD : Hid (x.tdiv m = x / (m : Int)) := dd.symm
  have DM : Hid (x.tmod m = x % (m : Int)) := dm.symm
  clear dd dm
  obtain ⟨i0, hi, hz0, hz1, hz2⟩ := info_parts info3
  have own0 : (w.alloc (.cells #[] 3)).ownsRow w.heap.size 3 1 (.slice (some ⟨w.heap.size, 0, none⟩) 0 0) 0 [] := World.ownsRow_lit w #[] 0 (Nat.le_refl _) (by unfold maxLen; omega) rfl
  have bel0 : Below w.heap.size w (w.alloc (.cells #[] 3)) := (Below.refl _ _).alloc (Nat.le_refl _) _
  go_enter Try.func27, Try.ntmps27
  go_wp2_with (first | (go_at_call 32; refine (sMoneyOk_any _ _).mono ?_; rintro e w1 ⟨rfl, hw1⟩; subst hw1) | (go_at_call 47; refine (in_any _ _ _ _).mono ?_; rintro e w1 ⟨rfl, hw1⟩; subst hw1))
  go_quiet (fail)
  go_wp2
  rw [DD.out, DM.out]
  go_loopw [6, 9] (fun v i wr => ∃ k : Nat, k ≤ m ∧ i = .int .i64 k ∧ wr.ownsRow w.heap.size 3 1 v k (partsTo x m k) ∧ Below w.heap.size w wr) (fun _ i _ => m - (intOf i).toNat)
  case atStart => exact ⟨0, Nat.zero_le _, rfl, own0, below_drewN bel0 _⟩
  case round =>
    obtain ⟨k, hk, rfl, ho, hbr⟩ := hrel
    clear own0 bel0
    by_cases hlt : k < m
    · have hki : (k : Int) < (m : Int) := by omega
      by_cases hg : (k : Int) < x % m
      · have HP : Hid (partsTo x m (k + 1) = partsTo x m k ++ [.int .i64 (x / m + 1)]) := by rw [Hid, partsTo_succ, part_lt hg]
        go_wp2_with (at_builtin; refine wpList_append_own _ rfl (.tmp 41) (.tmp 44) 28 rfl w.heap.size 3 i0 (.int .i64 0) 1 8 Try.underlying28 hi hz0 hz1 hz2 rfl (by decide) _ _ _ rfl (ho.alloc _) ⟨wr.heap.size, 0, none⟩ 1 1 [.int .i64 (x / m + 1)] rfl rfl (cell_one_new _ _ _) (ints_oneCell .i64 [x / m + 1]) (by unfold maxLen; omega) (by omega) (by have := hbr.size; simp; omega) ?_; intro v' w1 ho1 hg1 hn1)
        have hb1 : Below w.heap.size w w1 := (hbr.alloc hbr.size _).grown hg1 (by have := hbr.size; simp; omega) (fun j hj => (ho.lt j hj).1)
        clear hg1 hn1 ho
        go_wp2
        go_roundw
        case rel => exact ⟨k + 1, by omega, by go_num, by rw [HP.out]; exact ho1, hb1⟩
        case measure => simp [intOf]; omega
      · have HP : Hid (partsTo x m (k + 1) = partsTo x m k ++ [.int .i64 (x / m)]) := by rw [Hid, partsTo_succ, part_ge hg]
        go_wp2_with (at_builtin; refine wpList_append_own _ rfl (.tmp 46) (.tmp 48) 28 rfl w.heap.size 3 i0 (.int .i64 0) 1 8 Try.underlying28 hi hz0 hz1 hz2 rfl (by decide) _ _ _ rfl (ho.alloc _) ⟨wr.heap.size, 0, none⟩ 1 1 [.int .i64 (x / m)] rfl rfl (cell_one_new _ _ _) (ints_oneCell .i64 [x / m]) (by unfold maxLen; omega) (by omega) (by have := hbr.size; simp; omega) ?_; intro v' w1 ho1 hg1 hn1)
        have hb1 : Below w.heap.size w w1 := (hbr.alloc hbr.size _).grown hg1 (by have := hbr.size; simp; omega) (fun j hj => (ho.lt j hj).1)
        clear hg1 hn1 ho
        go_wp2
        go_roundw
        case rel => exact ⟨k + 1, by omega, by go_num, by rw [HP.out]; exact ho1, hb1⟩
        case measure => simp [intOf]; omega
    · have hkm : k = m := by omega
      subst hkm
      have HO : Hid _ := ho
      clear ho
      go_wp2
      go_ret2
      exact fin_split rfl HO.out hbr

set_option maxHeartbeats 1000000 in
theorem sSplit_low (x : Int) (m : Nat) (w : World) (h1 : mOk x = true) (h2 : 1 ≤ m) (h3 : m ≤ 100) (h4 : x.tmod m < 0) (dd : x / (m : Int) = x.tdiv m - 1) (dm : x % (m : Int) = x.tmod m + m) :
    Calls Try.prog 27 #[.int .i64 x, .int .i64 m] w fun e w' => ∃ ao cap, e = .returned (.tuple #[.slice ao m cap, .bool true]) ∧
      w'.ownsRow w.heap.size 3 1 (.slice ao m cap) m ((partsL x m).map (Value.int .i64)) ∧ Below w.heap.size w w' := by
  have i1 : inB m 1 100 = true := by simp [inB]; omega
  have d1 := mOk_bd h1
  have hb := Plain.ediv_bd x m 1000000000000 (by omega) d1.1 d1.2 (by omega)
  have hm := Int.emod_lt_of_pos x (b := (m : Int)) (by omega)
  have hm0 := Int.emod_nonneg x (b := (m : Int)) (by omega)
  have t1 : -1000000000001 ≤ x.tdiv m ∧ x.tdiv m ≤ 1000000000001 := by omega
  have t2 : -100 ≤ x.tmod m ∧ x.tmod m ≤ 100 := by omega
  have hne : ((m : Int) == 0) = false := by simp; omega
  have DD : Hid (x.tdiv m - 1 = x / (m : Int)) := dd.symm
  have DM : Hid (x.tmod m + m = x % (m : Int)) := dm.symm
  clear dd dm
  obtain ⟨i0, hi, hz0, hz1, hz2⟩ := info_parts info3
  have own0 : (w.alloc (.cells #[] 3)).ownsRow w.heap.size 3 1 (.slice (some ⟨w.heap.size, 0, none⟩) 0 0) 0 [] := World.ownsRow_lit w #[] 0 (Nat.le_refl _) (by unfold maxLen; omega) rfl
  have bel0 : Below w.heap.size w (w.alloc (.cells #[] 3)) := (Below.refl _ _).alloc (Nat.le_refl _) _
  go_enter Try.func27, Try.ntmps27
  go_wp2_with (first | (go_at_call 32; refine (sMoneyOk_any _ _).mono ?_; rintro e w1 ⟨rfl, hw1⟩; subst hw1) | (go_at_call 47; refine (in_any _ _ _ _).mono ?_; rintro e w1 ⟨rfl, hw1⟩; subst hw1))
  go_quiet (fail)
  go_wp2
  rw [DD.out, DM.out]
  go_loopw [6, 9] (fun v i wr => ∃ k : Nat, k ≤ m ∧ i = .int .i64 k ∧ wr.ownsRow w.heap.size 3 1 v k (partsTo x m k) ∧ Below w.heap.size w wr) (fun _ i _ => m - (intOf i).toNat)
  case atStart => exact ⟨0, Nat.zero_le _, rfl, own0, below_drewN bel0 _⟩
  case round =>
    obtain ⟨k, hk, rfl, ho, hbr⟩ := hrel
    clear own0 bel0
    by_cases hlt : k < m
    · have hki : (k : Int) < (m : Int) := by omega
      by_cases hg : (k : Int) < x % m
      · have HP : Hid (partsTo x m (k + 1) = partsTo x m k ++ [.int .i64 (x / m + 1)]) := by rw [Hid, partsTo_succ, part_lt hg]
        go_wp2_with (at_builtin; refine wpList_append_own _ rfl (.tmp 41) (.tmp 44) 28 rfl w.heap.size 3 i0 (.int .i64 0) 1 8 Try.underlying28 hi hz0 hz1 hz2 rfl (by decide) _ _ _ rfl (ho.alloc _) ⟨wr.heap.size, 0, none⟩ 1 1 [.int .i64 (x / m + 1)] rfl rfl (cell_one_new _ _ _) (ints_oneCell .i64 [x / m + 1]) (by unfold maxLen; omega) (by omega) (by have := hbr.size; simp; omega) ?_; intro v' w1 ho1 hg1 hn1)
        have hb1 : Below w.heap.size w w1 := (hbr.alloc hbr.size _).grown hg1 (by have := hbr.size; simp; omega) (fun j hj => (ho.lt j hj).1)
        clear hg1 hn1 ho
        go_wp2
        go_roundw
        case rel => exact ⟨k + 1, by omega, by go_num, by rw [HP.out]; exact ho1, hb1⟩
        case measure => simp [intOf]; omega
      · have HP : Hid (partsTo x m (k + 1) = partsTo x m k ++ [.int .i64 (x / m)]) := by rw [Hid, partsTo_succ, part_ge hg]
        go_wp2_with (at_builtin; refine wpList_append_own _ rfl (.tmp 46) (.tmp 48) 28 rfl w.heap.size 3 i0 (.int .i64 0) 1 8 Try.underlying28 hi hz0 hz1 hz2 rfl (by decide) _ _ _ rfl (ho.alloc _) ⟨wr.heap.size, 0, none⟩ 1 1 [.int .i64 (x / m)] rfl rfl (cell_one_new _ _ _) (ints_oneCell .i64 [x / m]) (by unfold maxLen; omega) (by omega) (by have := hbr.size; simp; omega) ?_; intro v' w1 ho1 hg1 hn1)
        have hb1 : Below w.heap.size w w1 := (hbr.alloc hbr.size _).grown hg1 (by have := hbr.size; simp; omega) (fun j hj => (ho.lt j hj).1)
        clear hg1 hn1 ho
        go_wp2
        go_roundw
        case rel => exact ⟨k + 1, by omega, by go_num, by rw [HP.out]; exact ho1, hb1⟩
        case measure => simp [intOf]; omega
    · have hkm : k = m := by omega
      subst hkm
      have HO : Hid _ := ho
      clear ho
      go_wp2
      go_ret2
      exact fin_split rfl HO.out hbr

set_option maxHeartbeats 1000000 in
theorem sSplit_any (x n : Int) (w : World) :
    Calls Try.prog 27 #[.int .i64 x, .int .i64 n] w fun e w' => ∃ ao cap, e = .returned (.tuple #[.slice ao (splitL x n).length cap, .bool (splitOk x n)]) ∧
      w'.ownsRow w.heap.size 3 1 (.slice ao (splitL x n).length cap) (splitL x n).length ((splitL x n).map (Value.int .i64)) ∧ Below w.heap.size w w' := by
  have bad : splitOk x n = false → ∀ e w', e = Ending.returned (.tuple #[.slice (some ⟨w.heap.size, 0, none⟩) 0 0, .bool false]) → w' = w.alloc (.cells #[] 3) → ∃ ao cap, e = .returned (.tuple #[.slice ao (splitL x n).length cap, .bool (splitOk x n)]) ∧
      w'.ownsRow w.heap.size 3 1 (.slice ao (splitL x n).length cap) (splitL x n).length ((splitL x n).map (Value.int .i64)) ∧ Below w.heap.size w w' := by
    intro h e w' he hw
    subst he; subst hw
    rw [split_no h, h]
    exact ⟨_, 0, rfl, World.ownsRow_lit w #[] 0 (Nat.le_refl _) (by unfold maxLen; omega) rfl, (Below.refl _ _).alloc (Nat.le_refl _) _⟩
  have BAD : Hid _ := bad
  clear bad
  cases h1 : mOk x
  · have hs : Hid (splitOk x n = false) := by simp [Hid, splitOk, h1]
    go_enter Try.func27, Try.ntmps27
    go_wp2_with (first | (go_at_call 32; refine (sMoneyOk_any _ _).mono ?_; rintro e w1 ⟨rfl, hw1⟩; subst hw1) | (go_at_call 47; refine (in_any _ _ _ _).mono ?_; rintro e w1 ⟨rfl, hw1⟩; subst hw1))
    go_ret2
    exact BAD.out hs.out _ _ rfl rfl
  · by_cases h2 : 1 ≤ n ∧ n ≤ 100
    · obtain ⟨m, rfl⟩ := Int.eq_ofNat_of_zero_le (show 0 ≤ n by omega)
      have hs : splitOk x m = true := by simp [splitOk, inB, h1]; omega
      have hl : (splitL x m).length = m := by rw [split_yes hs, parts_len, Int.toNat_natCast]
      rw [hl, hs, split_yes hs]
      rcases Plain.down_of_t x m (by omega) with ⟨h4, dd, dm⟩ | ⟨h4, dd, dm⟩
      · exact sSplit_up x m w h1 (by omega) (by omega) h4 dd dm
      · exact sSplit_low x m w h1 (by omega) (by omega) h4 dd dm
    · have hs : Hid (splitOk x n = false) := by simp [Hid, splitOk, inB]; omega
      have i1 : inB n 1 100 = false := by simp [inB]; omega
      go_enter Try.func27, Try.ntmps27
      go_wp2_with (first | (go_at_call 32; refine (sMoneyOk_any _ _).mono ?_; rintro e w1 ⟨rfl, hw1⟩; subst hw1) | (go_at_call 47; refine (in_any _ _ _ _).mono ?_; rintro e w1 ⟨rfl, hw1⟩; subst hw1))
      go_ret2
      exact BAD.out hs.out _ _ rfl rfl

end Go.Proofs.Ytkhohbkdfgnmnaa
