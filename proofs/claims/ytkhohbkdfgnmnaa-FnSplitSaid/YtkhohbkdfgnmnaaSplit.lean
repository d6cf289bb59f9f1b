/- The contracts of Split, and of the marks that are laid into an answer. -/
import Derived.Test.YtkhohbkdfgnmnaaTot
namespace Go.Proofs.Ytkhohbkdfgnmnaa
open Go.RowKit

/-- the first j places hold f, the others what they held -/
def fillTo (f : Nat → Int) (xs : List Value) (j : Nat) : List Value := ((List.range j).map fun i => Value.int .i64 (f i)) ++ xs.drop j
theorem fillTo_zero (f : Nat → Int) (xs : List Value) : fillTo f xs 0 = xs := by simp [fillTo]
theorem fillTo_all (f : Nat → Int) (xs : List Value) : fillTo f xs xs.length = (List.range xs.length).map fun i => Value.int .i64 (f i) := by simp [fillTo]
theorem fillTo_at (f : Nat → Int) (xs : List Value) (j : Nat) : (fillTo f xs j)[j]? = xs[j]? := by simp [fillTo, List.getElem?_append]
theorem fillTo_succ (f : Nat → Int) (xs : List Value) (j : Nat) (h : j < xs.length) : fillTo f xs (j + 1) = (fillTo f xs j).set j (.int .i64 (f j)) := by
  unfold fillTo
  rw [List.range_succ, List.map_append, List.set_append_right _ _ (by simp)]
  simp
  rw [List.drop_eq_getElem_cons h, List.set_cons_zero]

/-- an owned slice of ints, as a value and as numbers -/
theorem own_ints {w : World} {base : Nat} {v : Value} {zs : List Int} (h : w.ownsRow base 3 1 v zs.length (zs.map (Value.int .i64))) :
    ∃ ao cap, v = .slice ao zs.length cap ∧ IntsAt w ao zs := by
  rcases h.2 with ⟨rfl, h0⟩ | ⟨g, cap, cur, rfl, hrest⟩
  · have : zs = [] := List.eq_nil_of_length_eq_zero h0
    subst this
    exact ⟨none, 0, rfl, .inl rfl⟩
  · exact ⟨_, cap, rfl, ints_of_own h⟩

theorem ownsRow_base {w : World} {base base' : Nat} {v : Value} {n : Nat} {xs : List Value} (h : w.ownsRow base 3 1 v n xs) (hb : base' ≤ base) : w.ownsRow base' 3 1 v n xs := by
  obtain ⟨h1, h2⟩ := h
  refine ⟨h1, ?_⟩
  rcases h2 with h2 | ⟨g, cap, cur, a, b, c⟩
  · exact .inl h2
  · exact .inr ⟨g, cap, cur, a, Nat.le_trans hb b, c⟩

def partOf (x n : Int) (i : Nat) : Int := if (i : Int) < x % n then x / n + 1 else x / n
def partsL (x n : Int) : List Int := (List.range n.toNat).map (partOf x n)
def splitOk (x n : Int) : Bool := mOk x && inB n 1 100
def splitL (x n : Int) : List Int := if splitOk x n then partsL x n else []
theorem split_no {x n : Int} (h : splitOk x n = false) : splitL x n = [] := by simp [splitL, h]
theorem split_yes {x n : Int} (h : splitOk x n = true) : splitL x n = partsL x n := by simp [splitL, h]
theorem parts_len (x n : Int) : (partsL x n).length = n.toNat := by simp [partsL]
theorem splitL_len (x n : Int) : (splitL x n).length ≤ 100 := by
  unfold splitL
  split
  · rename_i h
    simp [splitOk, inB] at h
    rw [parts_len]; omega
  · simp
theorem part_lt {x n : Int} {i : Nat} (h : (i : Int) < x % n) : partOf x n i = x / n + 1 := by simp [partOf, h]
theorem part_ge {x n : Int} {i : Nat} (h : ¬ (i : Int) < x % n) : partOf x n i = x / n := by simp [partOf, h]
theorem parts_map (x n : Int) : (partsL x n).map (Value.int .i64) = (List.range n.toNat).map fun i => Value.int .i64 (partOf x n i) := by simp [partsL]

theorem slice_two {ao : Option Addr} {n m cap : Nat} {b c : Bool} (h : n = m) (g : b = c) : Ending.returned (.tuple #[.slice ao n cap, .bool b]) = .returned (.tuple #[.slice ao m cap, .bool c]) := by rw [h, g]

set_option maxHeartbeats 1000000 in
theorem iSplit_any (x n : Int) (w : World) :
    Calls Try.prog 26 #[.int .i64 x, .int .i64 n] w fun e w' => ∃ ao cap, e = .returned (.tuple #[.slice ao (splitL x n).length cap, .bool (splitOk x n)]) ∧
      w'.ownsRow w.heap.size 3 1 (.slice ao (splitL x n).length cap) (splitL x n).length ((splitL x n).map (Value.int .i64)) ∧ Below w.heap.size w w' := by
  have bad : splitOk x n = false → ∀ e w', e = Ending.returned (.tuple #[.slice none 0 0, .bool false]) → w' = w → ∃ ao cap, e = .returned (.tuple #[.slice ao (splitL x n).length cap, .bool (splitOk x n)]) ∧
      w'.ownsRow w.heap.size 3 1 (.slice ao (splitL x n).length cap) (splitL x n).length ((splitL x n).map (Value.int .i64)) ∧ Below w.heap.size w w' := by
    intro h e w' he hw
    subst he; subst hw
    rw [split_no h, h]
    exact ⟨none, 0, rfl, World.ownsRow_nil _ _ _ _, Below.refl _ _⟩
  have BAD : Hid _ := bad
  clear bad
  cases h1 : mOk x
  · have hs : Hid (splitOk x n = false) := by simp [Hid, splitOk, h1]
    go_enter Try.func26, Try.ntmps26
    go_wp2_with (go_at_call 21; refine (iMoneyOk_any _ _).mono ?_; rintro e w' ⟨rfl, rfl⟩)
    go_ret2
    exact BAD.out hs.out _ _ rfl rfl
  · by_cases h2 : n < 1
    · have hs : Hid (splitOk x n = false) := by simp [Hid, splitOk, inB]; omega
      go_enter Try.func26, Try.ntmps26
      go_wp2_with (go_at_call 21; refine (iMoneyOk_any _ _).mono ?_; rintro e w' ⟨rfl, rfl⟩)
      go_ret2
      exact BAD.out hs.out _ _ rfl rfl
    · by_cases h3 : 100 < n
      · have hs : Hid (splitOk x n = false) := by simp [Hid, splitOk, inB]; omega
        go_enter Try.func26, Try.ntmps26
        go_wp2_with (go_at_call 21; refine (iMoneyOk_any _ _).mono ?_; rintro e w' ⟨rfl, rfl⟩)
        go_ret2
        exact BAD.out hs.out _ _ rfl rfl
      · have hs : Hid (splitOk x n = true) := by simp [Hid, splitOk, inB, h1]; omega
        clear BAD
        have d1 := mOk_bd h1
        obtain ⟨m, rfl⟩ := Int.eq_ofNat_of_zero_le (show 0 ≤ n by omega)
        have hb := Plain.ediv_bd x m 1000000000000 (by omega) d1.1 d1.2 (by omega)
        have hm := Int.emod_lt_of_pos x (b := (m : Int)) (by omega)
        have hm0 := Int.emod_nonneg x (b := (m : Int)) (by omega)
        obtain ⟨i0, hi, hz0, hz1, hz2⟩ := info_parts info3
        have hmk : (madeCells (Value.int .i64 0).cells (m * 1)).toList = List.replicate m (.int .i64 0) := by rw [Nat.mul_one]; exact toList_madeCells_one _ _
        go_enter Try.func26, Try.ntmps26
        go_wp2_with (first | (go_at_call 21; refine (iMoneyOk_any _ _).mono ?_; rintro e w' ⟨rfl, rfl⟩) | (go_at_call 49; refine (down_any _ _ _ (by omega) (by omega) (by omega) (by omega)).mono ?_; rintro e w1 ⟨rfl, b1⟩) | (refine wpList_make_full _ rfl (.tmp 27) (.tmp 27) 28 rfl _ 3 i0 (.int .i64 0) 1 Try.underlying28 hi hz0 hz1 .i64 .i64 _ _ m rfl rfl rfl rfl (by rw [hz2]; omega) (by unfold maxLen; omega) (Nat.le_refl _) ?_; intro w2 hown hg))
        rw [hmk] at hown
        have hb2 : Below w'.heap.size w' w2 := b1.grown hg b1.size (fun k hk => by cases hk)
        clear hmk hg
        go_loopw [31] (fun i wr => ∃ k : Nat, k ≤ m ∧ i = .int .i64 k ∧ wr.ownsRow w1.heap.size 3 1 (.slice (some ⟨w1.heap.size, 0, none⟩) m m) m (fillTo (partOf x m) (List.replicate m (.int .i64 0)) k) ∧ Below w'.heap.size w' wr) (fun i _ => m - (intOf i).toNat)
        case atStart => exact ⟨0, Nat.zero_le _, rfl, by rw [fillTo_zero]; exact hown, hb2⟩
        case round =>
          obtain ⟨k, hk, rfl, ho, hbr⟩ := hrel
          clear hown
          by_cases hlt : k < m
          · have hki : (k : Int) < (m : Int) := by omega
            have c2 : wr.cell? ⟨w1.heap.size, k, none⟩ = some (.int .i64 0) := by rw [ho.cellAt k (by omega), fillTo_at]; simp [hlt]
            have c3 : wr.frozen? ⟨w1.heap.size, k, none⟩ = false := ho.frozenAt k
            have hsz := b1.size
            by_cases hg : (k : Int) < x % m
            · have R := ((ho.stored k (.int .i64 (x / m))).1.stored k (.int .i64 (x / m + 1))).1
              rw [List.set_set, ← part_lt hg, ← fillTo_succ _ _ k (by simp [hlt]), part_lt hg] at R
              have HR : Hid _ := R
              clear R ho
              go_wp2
              go_roundw
              case rel => exact ⟨k + 1, by omega, by go_num, HR.out, (hbr.setCell b1.size _).setCell b1.size _⟩
              case measure => simp [intOf]; omega
            · have R := (ho.stored k (.int .i64 (x / m))).1
              rw [← part_ge hg, ← fillTo_succ _ _ k (by simp [hlt]), part_ge hg] at R
              have HR : Hid _ := R
              clear R ho
              go_wp2
              go_roundw
              case rel => exact ⟨k + 1, by omega, by go_num, HR.out, hbr.setCell b1.size _⟩
              case measure => simp [intOf]; omega
          · have hkm : k = m := by omega
            subst hkm
            have hfin : fillTo (partOf x k) (List.replicate k (.int .i64 0)) k = (partsL x k).map (Value.int .i64) := by
              have := fillTo_all (partOf x k) (List.replicate k (.int .i64 0))
              rw [List.length_replicate] at this
              rw [this, parts_map, Int.toNat_natCast]
            rw [hfin] at ho
            have HO : Hid _ := ho
            clear ho hfin
            go_wp2
            go_ret2
            have hl : (splitL x k).length = k := by rw [split_yes hs.out, parts_len, Int.toNat_natCast]
            refine ⟨_, _, slice_two hl.symm hs.out.symm, ?_, hbr⟩
            rw [hl, split_yes hs.out]
            exact ownsRow_base HO.out b1.size

end Go.Proofs.Ytkhohbkdfgnmnaa
