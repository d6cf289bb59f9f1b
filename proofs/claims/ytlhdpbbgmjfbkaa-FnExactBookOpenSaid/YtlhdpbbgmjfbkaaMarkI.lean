/- The marks that the exact laws lay into an answer's own memory, and find again: slices of ints. -/
import Derived.Test.YtlhdpbbgmjfbkaaIntsOwn
namespace Go.Proofs.Ytlhdpbbgmjfbkaa
open Go.RowKit

/-- the first j places hold f, the others what they held -/
def fillTo (f : Nat → Int) (xs : List Value) (j : Nat) : List Value := ((List.range j).map fun i => Value.int .i64 (f i)) ++ xs.drop j
theorem fillTo_zero (f : Nat → Int) (xs : List Value) : fillTo f xs 0 = xs := by simp [fillTo]
theorem fillTo_all (f : Nat → Int) (xs : List Value) : fillTo f xs xs.length = (List.range xs.length).map fun i => Value.int .i64 (f i) := by simp [fillTo]
theorem fillTo_at (f : Nat → Int) (xs : List Value) (j : Nat) : (fillTo f xs j)[j]? = xs[j]? := by simp [fillTo, List.getElem?_append]
theorem fillTo_succ (f : Nat → Int) (xs : List Value) (j : Nat) (h : j < xs.length) : fillTo f xs (j + 1) = (fillTo f xs j).set j (.int .i64 (f j)) := by
  unfold fillTo
  rw [List.range_succ, List.map_append, List.set_append_right _ _ (by simp)]
  simp
  rw [List.drop_eq_getElem_cons h, List.set_cons_zero]

/-- the numbers from k on -/
def cnt (k : Int) (n : Nat) : List Int := (List.range n).map fun i : Nat => k + (i : Int)
theorem cnt_len (k : Int) (n : Nat) : (cnt k n).length = n := by simp [cnt]
theorem cnt_at (k : Int) (n i : Nat) (h : i < n) : (cnt k n).getD i 0 = k + (i : Int) := by simp [cnt, List.getD_eq_getElem?_getD, h]

theorem fill_cnt (k : Int) (xs : List Value) (n : Nat) (h : xs.length = n) : fillTo (fun i : Nat => k + (i : Int)) xs n = (cnt k n).map (Value.int .i64) := by
  subst h; rw [fillTo_all]; simp [cnt]

theorem own_below {w w' : World} {base n : Nat} {v : Value} {xs : List Value} (h : w.ownsRow base 3 1 v n xs) (hb : Below w.heap.size w w') : w'.ownsRow base 3 1 v n xs := by
  obtain ⟨h1, h2⟩ := h
  refine ⟨h1, ?_⟩
  rcases h2 with h2 | ⟨g, cap, cur, a, b, c, d⟩
  · exact .inl h2
  · have hlt : g < w.heap.size := by
      by_cases e : g < w.heap.size
      · exact e
      · rw [Array.getElem?_eq_none (by omega)] at c; cases c
    exact .inr ⟨g, cap, cur, a, b, (hb.block g hlt).trans c, d⟩
set_option maxHeartbeats 800000 in
theorem markIntS_any (ao : Option Addr) (cap n base : Nat) (k : Int) (xs : List Value) (w : World) (ho : w.ownsRow base 3 1 (.slice ao n cap) n xs) (hn : n ≤ 1099511627776) (k1 : 0 ≤ k) (k2 : k ≤ 1099511627776) :
    Calls Try.prog 14 #[.slice ao n cap, .int .i64 k] w fun e w' => e = .returned (.int .i64 (k + n)) ∧
      w'.ownsRow base 3 1 (.slice ao n cap) n ((cnt k n).map (Value.int .i64)) ∧ w.grownBy w' (Value.slice ao n cap).ownBlock := by
  have hxl : xs.length = n := by simpa using ho.1
  rcases ho.2 with ⟨hv, h0⟩ | ⟨g, cap', cur, hv, hrest⟩
  · obtain ⟨rfl, rfl, rfl⟩ : ao = none ∧ n = 0 ∧ cap = 0 := by simpa using hv
    clear hv h0
    go_enter Try.func14, Try.ntmps14
    go_wp2
    refine wp_loop_rounds 1 ?_
    rw [rounds_succ]
    go_wp2
    go_ret
    exact ⟨one_int (by simp), World.ownsRow_nil _ _ _ _, World.grownBy.refl _ _⟩
  · obtain ⟨rfl, rfl⟩ : ao = some ⟨g, 0, none⟩ ∧ cap = cap' := by simpa using hv
    clear hv hrest
    go_enter Try.func14, Try.ntmps14
    go_wp2
    go_loopw [1, 5] (fun c i wr => ∃ j : Nat, j ≤ n ∧ i = .int .i64 j ∧ c = .int .i64 (k + j) ∧ wr.ownsRow base 3 1 (.slice (some ⟨g, 0, none⟩) n cap) n (fillTo (fun i : Nat => k + (i : Int)) xs j) ∧ w.grownBy wr (some g)) (fun _ i _ => n - (intOf i).toNat)
    case atStart => exact ⟨0, Nat.zero_le _, rfl, by simp, by rw [fillTo_zero]; exact ho, World.grownBy.refl _ _⟩
    case round =>
      obtain ⟨j, hj, rfl, rfl, hor, hgr⟩ := hrel
      clear ho
      by_cases hlt : j < n
      · have hji : (j : Int) < (n : Int) := by omega
        have c2 : ∃ v, wr.cell? ⟨g, j, none⟩ = some v := by rw [hor.cellAt j (by omega), fillTo_at]; exact ⟨_, List.getElem?_eq_getElem (by omega)⟩
        obtain ⟨old, c2⟩ := c2
        have c3 : wr.frozen? ⟨g, j, none⟩ = false := hor.frozenAt j
        have R := hor.stored j (.int .i64 (k + j))
        rw [show (fillTo (fun i : Nat => k + (i : Int)) xs j).set j (.int .i64 (k + (j : Int))) = fillTo (fun i : Nat => k + (i : Int)) xs (j + 1) from (fillTo_succ _ _ j (by omega)).symm] at R
        have HR : Hid _ := R.1
        have HG : Hid (w.grownBy (wr.setCell ⟨g, j, none⟩ (.int .i64 (k + j))) (some g)) := hgr.trans R.2
        clear R hor hgr
        go_wp2
        go_roundw
        case rel => exact ⟨j + 1, by omega, by go_num, by congr 1; omega, HR.out, HG.out⟩
        case measure => simp [intOf]; omega
      · have hjn : j = n := by omega
        subst hjn
        rw [fill_cnt k xs j hxl] at hor
        have HO : Hid _ := hor
        clear hor
        go_wp2
        go_ret
        exact ⟨rfl, HO.out, hgr⟩

set_option maxHeartbeats 800000 in
theorem heldIntS_any (ao : Option Addr) (cap n : Nat) (k : Int) (w : World) (hz : IntsAt w ao (cnt k n)) (hn : n ≤ 1099511627776) (k1 : 0 ≤ k) (k2 : k ≤ 1099511627776) :
    Calls Try.prog 15 #[.slice ao n cap, .int .i64 k] w fun e w' => e = .returned (.int .i64 (k + n)) ∧ w' = w := by
  rcases hz with h0 | ⟨b, off, rfl, hb, hcell⟩
  · have hn0 : n = 0 := by have := cnt_len k n; rw [h0] at this; simpa using this.symm
    subst hn0
    clear h0
    go_enter Try.func15, Try.ntmps15
    go_wp2
    refine wp_loop_rounds 1 ?_
    rw [rounds_succ]
    go_wp2
    go_ret
    exact ⟨one_int (by simp), rfl⟩
  · rw [cnt_len] at hcell
    go_enter Try.func15, Try.ntmps15
    go_wp2
    go_loop [1, 5] (fun c i => ∃ j : Nat, j ≤ n ∧ i = .int .i64 j ∧ c = .int .i64 (k + j)) (fun _ i => n - (intOf i).toNat)
    case atStart => exact ⟨0, Nat.zero_le _, rfl, by simp⟩
    case round =>
      obtain ⟨j, hj, rfl, rfl⟩ := hrel
      by_cases hlt : j < n
      · have hji : (j : Int) < (n : Int) := by omega
        have c2 := hcell j hlt
        rw [cnt_at k n j hlt] at c2
        clear hcell
        go_wp2
        go_round
        case rel => exact ⟨j + 1, by omega, by go_num, by congr 1; omega⟩
        case measure => simp [intOf]; omega
      · have hjn : j = n := by omega
        subst hjn
        clear hcell
        go_wp2
        go_ret
        exact ⟨rfl, rfl⟩

end Go.Proofs.Ytlhdpbbgmjfbkaa
