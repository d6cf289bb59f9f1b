/- The marks that the exact laws lay into an answer's own memory, and find again: slices of fields, messages. -/
import Derived.Test.YtlhdpbbgmjfbkaaDoorMsgEq
import Derived.Test.YtlhdpbbgmjfbkaaDoorMarkT
import Derived.Test.YtlhdpbbgmjfbkaaDoorOver
namespace Go.Proofs.YtlhdpbbgmjfbkaaDoor
open Go.RowKit

def mkF (k n : Nat) : List Fld := (List.range n).map fun i => (((k + 2 * i : Nat) : Int), mtx (k + 2 * i + 1))
theorem mkF_len (k n : Nat) : (mkF k n).length = n := by simp [mkF]
theorem mkF_at (k n i : Nat) (h : i < n) : at0 (mkF k n) i = (((k + 2 * i : Nat) : Int), mtx (k + 2 * i + 1)) := by simp [at0, mkF, List.getD_eq_getElem?_getD, h]
def fillF (fs : List Fld) (k j : Nat) : List Fld := mkF k j ++ fs.drop j
theorem fillF_len (fs : List Fld) (k j : Nat) (h : j ≤ fs.length) : (fillF fs k j).length = fs.length := by simp [fillF, mkF_len]; omega
theorem fillF_zero (fs : List Fld) (k : Nat) : fillF fs k 0 = fs := by simp [fillF, mkF]
theorem fillF_all (fs : List Fld) (k : Nat) : fillF fs k fs.length = mkF k fs.length := by simp [fillF]
theorem fillF_succ (fs : List Fld) (k j : Nat) (h : j < fs.length) : (fillF fs k j).set j (((k + 2 * j : Nat) : Int), mtx (k + 2 * j + 1)) = fillF fs k (j + 1) := by
  unfold fillF
  rw [List.set_append, if_neg (by rw [mkF_len]; omega), mkF_len, Nat.sub_self, List.drop_eq_getElem_cons h, List.set_cons_zero]
  simp [mkF, List.range_succ]
theorem grown_of {w w' : World} (h : Below w.heap.size w w') (r : Option Nat) : w.grownBy w' r := ⟨h.os, h.tape, h.output, h.size, fun k hk _ => h.block k hk⟩

set_option maxHeartbeats 800000 in
theorem markFieldS_any (ao : Option Addr) (cap base k : Nat) (fs : List Fld) (w : World) (ho : w.ownsRow base 43 2 (.slice ao fs.length cap) fs.length (fcells fs)) (hn : fs.length ≤ 1099511627) (k2 : k ≤ 1099511627) :
    Calls Tryd.prog 24 #[.slice ao fs.length cap, .int .i64 k] w fun e w' => e = .returned (.int .i64 (k + 2 * fs.length : Nat)) ∧
      w'.ownsRow base 43 2 (.slice ao fs.length cap) fs.length (fcells (mkF k fs.length)) ∧ w.grownBy w' (Value.slice ao fs.length cap).ownBlock := by
  rcases ho.2 with ⟨hv, h0⟩ | ⟨g, cap', cur, hv, hrest⟩
  · obtain rfl : fs = [] := List.eq_nil_of_length_eq_zero h0
    obtain ⟨rfl, rfl⟩ : ao = none ∧ cap = 0 := by simpa using hv
    clear hv h0
    go_enter Tryd.func24, Tryd.ntmps24
    go_wp2
    refine wp_loop_rounds 1 ?_
    rw [rounds_succ]
    go_wp2
    go_ret
    exact ⟨one_int (by simp), World.ownsRow_nil _ _ _ _, World.grownBy.refl _ _⟩
  · obtain ⟨rfl, rfl⟩ : ao = some ⟨g, 0, none⟩ ∧ cap = cap' := by simpa using hv
    clear hv hrest
    go_enter Tryd.func24, Tryd.ntmps24
    go_wp2
    go_loopw [1, 5] (fun c i wr => ∃ j : Nat, j ≤ fs.length ∧ i = .int .i64 j ∧ c = .int .i64 (k + 2 * j : Nat) ∧ wr.ownsRow base 43 2 (.slice (some ⟨g, 0, none⟩) fs.length cap) fs.length (fcells (fillF fs k j)) ∧ w.grownBy wr (some g)) (fun _ i _ => fs.length - (intOf i).toNat)
    case atStart => exact ⟨0, Nat.zero_le _, rfl, rfl, by rw [fillF_zero]; exact ho, World.grownBy.refl _ _⟩
    case round =>
      obtain ⟨j, hj, rfl, rfl, hor, hgr⟩ := hrel
      clear ho
      by_cases hlt : j < fs.length
      · have hji : (j : Int) < (fs.length : Int) := by omega
        have hat := fcells_at (fillF fs k j) j (by rw [fillF_len fs k j hj]; exact hlt)
        have c1 : wr.cell? ⟨g, j * 2, none⟩ = some (.int .i64 (at0 (fillF fs k j) j).1) := by rw [hor.cellAt (j * 2) (by omega)]; exact hat.1
        have c3 : wr.frozen? ⟨g, j * 2, none⟩ = false := hor.frozenAt _
        have R := hor.stored (j * 2) (.int .i64 (k + 2 * j : Nat))
        have HR : Hid _ := R.1
        have HG : Hid (w.grownBy (wr.setCell ⟨g, j * 2, none⟩ (.int .i64 (k + 2 * j : Nat))) (some g)) := hgr.trans R.2
        have HA : Hid ((fcells (fillF fs k j))[j * 2 + 1]? = some (.string ⟨(at0 (fillF fs k j) j).2.toArray⟩)) := hat.2
        have HS : Hid _ := fcells_set (fillF fs k j) (((k + 2 * j : Nat) : Int), mtx (k + 2 * j + 1)) j (by rw [fillF_len fs k j hj]; exact hlt)
        have HF : Hid _ := fillF_succ fs k j hlt
        obtain ⟨m, hm⟩ : ∃ m : Nat, k + 2 * j = m := ⟨_, rfl⟩
        obtain ⟨old, hold⟩ : ∃ x, (at0 (fillF fs k j) j).1 = x := ⟨_, rfl⟩
        rw [hm] at HR HG HS HF ⊢
        rw [hold] at c1
        have hmb : m ≤ 3298534883 := by omega
        have HM : Hid (k + 2 * (j + 1) = m + 1 + 1) := by rw [Hid]; omega
        clear R hor hgr hat hm hold
        go_wp2_with fail
        rw [show ((m : Int) + 1) = ((m + 1 : Nat) : Int) by omega]
        refine (markText_any (m + 1) _ (by omega) (by omega)).mono ?_
        rintro e w2 ⟨rfl, b2⟩
        have o2 := keepRow HR.out b2
        have c4 : w2.cell? ⟨g, j * 2 + 1, none⟩ = some (.string ⟨(at0 (fillF fs k j) j).2.toArray⟩) := by
          rw [o2.cellAt (j * 2 + 1) (by omega), List.getElem?_set_ne (by omega)]; exact HA.out
        have c5 : w2.frozen? ⟨g, j * 2 + 1, none⟩ = false := o2.frozenAt _
        have R2 := o2.stored (j * 2 + 1) (.string ⟨(mtx (m + 1)).toArray⟩)
        rw [HS.out, HF.out] at R2
        have HR2 : Hid _ := R2.1
        have HG2 : Hid (w.grownBy (w2.setCell ⟨g, j * 2 + 1, none⟩ (.string ⟨(mtx (m + 1)).toArray⟩)) (some g)) := (HG.out.trans (grown_of b2 _)).trans R2.2
        obtain ⟨os, hos⟩ : ∃ x, (at0 (fillF fs k j) j).2 = x := ⟨_, rfl⟩
        rw [hos] at c4
        generalize mtx (m + 1) = tx at HR2 HG2
        clear R2 o2 hos b2 HR HG HS HF HA
        go_wp2
        go_roundw
        case rel => exact ⟨j + 1, by omega, by go_num, by rw [HM.out]; go_num, HR2.out, HG2.out⟩
        case measure => simp [intOf]; omega
      · have hjn : j = fs.length := by omega
        subst hjn
        rw [fillF_all] at hor
        have HO : Hid _ := hor
        clear hor
        go_wp2
        go_ret
        exact ⟨rfl, HO.out, hgr⟩

theorem markText_is (n : Nat) (x : Int) (hx : x = (n : Int)) (w : World) (h0 : 0 < n) (hn : n ≤ 1099511627776) :
    Calls Tryd.prog 46 #[.int .i64 x] w fun e w' => e = .returned (.string ⟨(mtx n).toArray⟩) ∧ Below w.heap.size w w' := by
  rw [hx]; exact markText_any n w h0 hn

set_option maxHeartbeats 800000 in
theorem heldFieldS_any (ao : Option Addr) (cap n k : Nat) (w : World) (hz : FldsAt w ao (mkF k n)) (hn : n ≤ 1099511627) (k1 : 0 < k) (k2 : k ≤ 1099511627) :
    Calls Tryd.prog 25 #[.slice ao n cap, .int .i64 k] w fun e w' => e = .returned (.int .i64 (k + 2 * n : Nat)) ∧ Below w.heap.size w w' := by
  rcases hz with h0 | ⟨b, off, rfl, hb, hcell⟩
  · have hn0 : n = 0 := by have := mkF_len k n; rw [h0] at this; simpa using this.symm
    subst hn0
    clear h0
    go_enter Tryd.func25, Tryd.ntmps25
    go_wp2
    refine wp_loop_rounds 1 ?_
    rw [rounds_succ]
    go_wp2
    go_ret
    exact ⟨one_int (by simp), Below.refl _ _⟩
  · rw [mkF_len] at hcell
    have HC : Hid (∀ i, i < n → w.cell? ⟨b, off + i * 2, none⟩ = some (.int .i64 (k + 2 * i : Nat)) ∧ w.cell? ⟨b, off + i * 2 + 1, none⟩ = some (.string ⟨(mtx (k + 2 * i + 1)).toArray⟩)) := by
      intro i hi
      have := hcell i hi
      rw [mkF_at k n i hi] at this
      exact this
    clear hcell
    go_enter Tryd.func25, Tryd.ntmps25
    go_wp2
    go_loopw [1, 5] (fun c i wr => ∃ j : Nat, j ≤ n ∧ i = .int .i64 j ∧ c = .int .i64 (k + 2 * j : Nat) ∧ Below w.heap.size w wr) (fun _ i _ => n - (intOf i).toNat)
    case atStart => exact ⟨0, Nat.zero_le _, rfl, rfl, Below.refl _ _⟩
    case round =>
      obtain ⟨j, hj, rfl, rfl, hbr⟩ := hrel
      by_cases hlt : j < n
      · have hji : (j : Int) < (n : Int) := by omega
        have c1 : wr.cell? ⟨b, off + j * 2, none⟩ = some (.int .i64 (k + 2 * j : Nat)) := (hbr.cell (p := ⟨b, off + j * 2, none⟩) hb).trans (HC.out j hlt).1
        have c2 : wr.cell? ⟨b, off + j * 2 + 1, none⟩ = some (.string ⟨(mtx (k + 2 * j + 1)).toArray⟩) := (hbr.cell (p := ⟨b, off + j * 2 + 1, none⟩) hb).trans (HC.out j hlt).2
        obtain ⟨m, hm⟩ : ∃ m : Nat, k + 2 * j = m := ⟨_, rfl⟩
        rw [hm] at c1 c2 ⊢
        have hmb : m ≤ 3298534883 := by omega
        have HM : Hid (k + 2 * (j + 1) = m + 1 + 1) := by rw [Hid]; omega
        clear hm
        have hne := over_ne wr
        have g2 := over_cell c2
        have hmx : (m : Int) + 1 = ((m + 1 : Nat) : Int) := by omega
        have HX : Hid _ := hmx
        clear hmx
        go_wp2
        refine wp_region_over (by kernel_rfl) (by kernel_rfl) ?_
        repeat (go_big_quiet_step (exact over_of (markText_is (m + 1) _ HX.out _ (by omega) (by omega))))
        refine wpQuiet_nil ?_
        rintro _ ⟨⟨w2, b2⟩, hw2⟩
        subst hw2
        generalize mtx (m + 1) = tx
        go_wp2
        go_roundw
        case rel => exact ⟨j + 1, by omega, by go_num, by rw [HM.out]; go_num, hbr.trans (b2.mono hbr.size)⟩
        case measure => simp [intOf]; omega
      · have hjn : j = n := by omega
        subst hjn
        go_wp2
        go_ret
        exact ⟨rfl, hbr⟩

set_option maxHeartbeats 800000 in
theorem markMessage_any (kd : Int) (ao : Option Addr) (cap base k : Nat) (fs : List Fld) (w : World) (ho : w.ownsRow base 43 2 (.slice ao fs.length cap) fs.length (fcells fs)) (hn : fs.length ≤ 1099511627) (k2 : k ≤ 1099511627) :
    Calls Tryd.prog 8 #[.agg #[.int .i64 kd, .slice ao fs.length cap], .int .i64 k] w fun e w' => e = .returned (.int .i64 (k + 2 * fs.length : Nat)) ∧
      w'.ownsRow base 43 2 (.slice ao fs.length cap) fs.length (fcells (mkF k fs.length)) ∧ w.grownBy w' (Value.slice ao fs.length cap).ownBlock := by
  have bel : Below w.heap.size w (w.alloc (.cells #[.int .i64 kd, .slice ao fs.length cap] 26)) := by go_grown
  have ho1 := keepRow ho bel
  go_enter Tryd.func8, Tryd.ntmps8
  go_wp2_with fail
  refine (markFieldS_any _ _ _ _ _ _ ho1 hn k2).mono ?_
  rintro e w1 ⟨rfl, o1, g1⟩
  have HG : Hid _ := (grown_of bel (Value.slice ao fs.length cap).ownBlock).trans g1
  have HO : Hid _ := o1
  clear bel ho ho1 o1 g1
  go_wp2
  go_ret
  exact ⟨rfl, HO.out, HG.out⟩

set_option maxHeartbeats 800000 in
theorem heldMessage_any (kd : Int) (ao : Option Addr) (cap n k : Nat) (w : World) (hz : FldsAt w ao (mkF k n)) (hn : n ≤ 1099511627) (k1 : 0 < k) (k2 : k ≤ 1099511627) :
    Calls Tryd.prog 9 #[.agg #[.int .i64 kd, .slice ao n cap], .int .i64 k] w fun e w' => e = .returned (.int .i64 (k + 2 * n : Nat)) ∧ Below w.heap.size w w' := by
  have bel : Below w.heap.size w (w.alloc (.cells #[.int .i64 kd, .slice ao n cap] 26)) := by go_grown
  have hz1 := hz.below bel
  go_enter Tryd.func9, Tryd.ntmps9
  go_wp2_with fail
  refine (heldFieldS_any _ _ _ _ _ hz1 hn k1 k2).mono ?_
  rintro e w1 ⟨rfl, b1⟩
  have bb := bel.trans (b1.mono bel.size)
  clear bel hz hz1 b1
  go_wp2
  go_ret
  exact ⟨rfl, bb⟩

end Go.Proofs.YtlhdpbbgmjfbkaaDoor
