/- The contracts of LedgerText, the program's and the specification's. -/
import Derived.Test.YtnimlgdackgcoaaGreatDoorFLed3
import Derived.Test.YtnimlgdackgcoaaGreatDoorMTxt
import Derived.Test.YtnimlgdackgcoaaGreatDoorOver
import Derived.Lib.Join
import Derived.Deep.Strs
import Derived.Lib.AppendZeros
namespace Go.Proofs.YtnimlgdackgcoaaGreatDoor
open Go.RowKit
set_option maxRecDepth 100000

def lineT (x : Ln) : List UInt8 := Lib.decDigits x.1.toNat ++ [32] ++ Lib.decDigits x.2.1.toNat ++ [32] ++ moneyT x.2.2 x.2.1
def textL (ls : List Ln) : List UInt8 := Lib.join (ls.map lineT) [59]
/-- what LedgerText answers -/
def ledT (ls : List Ln) : List UInt8 := if ledgerOk ls = true then (if ls = [] then [45] else textL ls) else []
theorem ledT_no {ls : List Ln} (h : ledgerOk ls = false) : ledT ls = [] := if_neg (by rw [h]; decide)
theorem ledT_none {ls : List Ln} (h : ledgerOk ls = true) (h0 : ls = []) : ledT ls = [45] := by rw [ledT, if_pos h, if_pos h0]
theorem ledT_yes {ls : List Ln} (h : ledgerOk ls = true) (h0 : ls ≠ []) : ledT ls = textL ls := by rw [ledT, if_pos h, if_neg h0]
theorem join_snoc (xs : List (List UInt8)) (x sep : List UInt8) (h : xs ≠ []) : Lib.join (xs ++ [x]) sep = Lib.join xs sep ++ sep ++ x := by
  cases xs with
  | nil => exact absurd rfl h
  | cons y r =>
    rw [List.cons_append, Lib.join_cons, Lib.join_cons]
    simp [Lib.joinTail]
theorem textL_first (ls : List Ln) (h : 0 < ls.length) : textL (ls.take 1) = lineT (lnAt ls 0) := by
  have := take_lnAt ls 0 h
  rw [Nat.zero_add] at this
  rw [this, textL]
  simp [Lib.join_one]
theorem textL_next (ls : List Ln) (k : Nat) (h : k + 1 < ls.length) : textL (ls.take (k + 1 + 1)) = textL (ls.take (k + 1)) ++ [59] ++ lineT (lnAt ls (k + 1)) := by
  rw [take_lnAt ls (k + 1) h, textL, textL, List.map_append]
  refine join_snoc _ _ _ ?_
  intro e
  have := congrArg List.length e
  simp at this
  rw [this] at h
  simp at h
theorem mtxt_le (x : Int) (d : Nat) (h1 : -1000000000000 ≤ x) (h2 : x ≤ 1000000000000) (hd : d ≤ 3) : (mtxt x d).length ≤ 30 := by
  have hs : (Lib.decDigits x.natAbs).length ≤ 21 := dec_len _ (by omega)
  have hp := pad_len d (Lib.decDigits x.natAbs)
  have hq : (pointed d (Lib.decDigits x.natAbs)).length ≤ 23 := by
    by_cases h0 : d = 0
    · rw [pointed, if_pos h0]; omega
    · rw [pointed_pos h0]
      simp only [List.length_append, List.length_cons, List.length_take, List.length_drop]
      omega
  unfold mtxt
  split
  · simp only [List.length_append, List.length_cons, List.length_nil]; omega
  · rw [List.nil_append]; omega
theorem moneyT_le {x cur : Int} : (moneyT x cur).length ≤ 30 := by
  unfold moneyT
  split
  · rename_i h
    simp only [textOk, Bool.and_eq_true, decide_eq_true_eq] at h
    have hb := mOk_bd h.1
    have := digs_bd cur
    exact mtxt_le _ _ hb.1 hb.2 (by omega)
  · simp
theorem lineT_le {x : Ln} (h : lnOk x = true) : (lineT x).length ≤ 100 := by
  obtain ⟨h1, h2, h3, _⟩ := lnOk_is h
  have hc := cur_mem h2
  simp [curL] at hc
  have e1 := dec_len x.1.toNat (by omega)
  have e2 := dec_len x.2.1.toNat (by omega)
  have e3 := moneyT_le (x := x.2.2) (cur := x.2.1)
  simp only [lineT, List.length_append, List.length_cons, List.length_nil]
  omega
theorem textL_le {ls : List Ln} (h : ∀ x ∈ ls, lnOk x = true) : (textL ls).length ≤ 101 * ls.length := by
  cases ls with
  | nil => simp [textL, Lib.join_nil]
  | cons y r =>
    rw [textL, List.map_cons, Lib.join_cons]
    have h0 := lineT_le (h y (List.mem_cons_self ..))
    have key : ∀ l : List Ln, (∀ x ∈ l, lnOk x = true) → (Lib.joinTail [59] (l.map lineT)).length ≤ 101 * l.length := by
      intro l
      induction l with
      | nil => intro _; simp [Lib.joinTail]
      | cons z t ih =>
        intro hl
        have h1 := lineT_le (hl z (List.mem_cons_self ..))
        have h2 := ih fun x hx => hl x (List.mem_cons_of_mem _ hx)
        simp only [Lib.joinTail, List.map_cons, List.flatten_cons, List.length_append, List.length_cons, List.length_nil] at h2 ⊢
        omega
    have := key r fun x hx => h x (List.mem_cons_of_mem _ hx)
    simp only [List.length_append, List.length_cons]
    omega
theorem itoa_nn {n : Int} {w : World} (h0 : 0 ≤ n) (h1 : n ≤ 1000000000000) (ht : Pow10 w) :
    Calls Tryz.prog 53 #[.int .i64 n] w fun e w' => e = .returned (.string ⟨(Lib.decDigits n.toNat).toArray⟩) ∧ Below w.heap.size w w' := by
  refine (Tryz.strconv_Itoa n (by omega) (by omega) w ht).mono ?_
  rintro e w' ⟨rfl, k, os, rfl⟩
  exact ⟨by rw [Lib.itoa, if_neg (by omega)], below_grow w k os⟩
theorem dec_nn {n : Int} (w : World) (h0 : 0 ≤ n) (h1 : n ≤ 1000000000000) :
    Calls Tryz.prog 38 #[.int .i64 n] w fun e w' => e = .returned (.string ⟨(Lib.decDigits n.toNat).toArray⟩) ∧ Below w.heap.size w w' := by
  obtain ⟨m, rfl⟩ := Int.eq_ofNat_of_zero_le h0
  refine (dec_up m w (by omega)).mono ?_
  rintro e w' ⟨rfl, rfl⟩
  exact ⟨rfl, Below.refl _ _⟩

set_option maxHeartbeats 1600000 in
theorem lineText_any (a c m : Int) (w : World) (h : lnOk (a, c, m) = true) (ht : Pow10 w) :
    Calls Tryz.prog 36 #[.agg #[.int .i64 a, .int .i64 c, .int .i64 m]] w fun e w' => e = .returned (.string ⟨(lineT (a, c, m)).toArray⟩) ∧ Below w.heap.size w w' := by
  obtain ⟨h1, h2, h3, _⟩ := lnOk_is h
  have hc := cur_mem h2
  simp [curL] at hc
  simp only at h1 h2 h3 hc
  obtain ⟨W, hW⟩ : ∃ W, W = w.alloc (.cells #[.int .i64 a, .int .i64 c, .int .i64 m] 49) := ⟨_, rfl⟩
  have bW : Below w.heap.size w W := by rw [hW]; go_grown
  have HT : Hid (Pow10 W) := ht.below bW
  have hne := over_ne W
  have g0 := over_cell (W := W) (a := ⟨w.heap.size, 0, none⟩) (v := .int .i64 a) (by rw [hW]; simp)
  have g1 := over_cell (W := W) (a := ⟨w.heap.size, 1, none⟩) (v := .int .i64 c) (by rw [hW]; simp)
  have g2 := over_cell (W := W) (a := ⟨w.heap.size, 2, none⟩) (v := .int .i64 m) (by rw [hW]; simp)
  have l1 := dec_len a.toNat (by omega)
  have l2 := dec_len c.toNat (by omega)
  have l3 := moneyT_le (x := m) (cur := c)
  obtain ⟨A, hA⟩ : ∃ x, Lib.decDigits a.toNat = x := ⟨_, rfl⟩
  obtain ⟨C, hC⟩ : ∃ x, Lib.decDigits c.toNat = x := ⟨_, rfl⟩
  obtain ⟨M, hM⟩ : ∃ x, moneyT m c = x := ⟨_, rfl⟩
  rw [hA] at l1
  rw [hC] at l2
  rw [hM] at l3
  have HLT : Hid (lineT (a, c, m) = A ++ [32] ++ C ++ [32] ++ M) := by rw [Hid, lineT]; simp only [hA, hC, hM]
  have HIA : Hid (∀ z : Over W, Calls Tryz.prog 53 #[.int .i64 a] z.x fun e w' => e = .returned (.string ⟨A.toArray⟩) ∧ Below z.x.heap.size z.x w') := fun z => by rw [← hA]; exact itoa_nn (by omega) (by omega) (HT.out.below z.h)
  have HIC : Hid (∀ z : Over W, Calls Tryz.prog 53 #[.int .i64 c] z.x fun e w' => e = .returned (.string ⟨C.toArray⟩) ∧ Below z.x.heap.size z.x w') := fun z => by rw [← hC]; exact itoa_nn (by omega) (by omega) (HT.out.below z.h)
  have HIM : Hid (∀ z : Over W, Calls Tryz.prog 54 #[.int .i64 m, .int .i64 c] z.x fun e w' => e = .returned (.string ⟨M.toArray⟩) ∧ Below z.x.heap.size z.x w') := fun z => by rw [← hM]; exact iMoneyText_any m c z.x (WalkArith.wf_i64 (by omega)) (HT.out.below z.h)
  clear hA hC hM h h1 h2 h3 hc ht
  go_enter Tryz.func36, Tryz.ntmps36
  go_upto_region 1 with fail
  rw [← hW]
  clear hW
  refine wp_region_over (by kernel_rfl) (by kernel_rfl) ?_
  repeat (go_big_quiet_step (first | with_reducible exact over_of (HIA.out _) | with_reducible exact over_of (HIC.out _) | with_reducible exact over_of (HIM.out _)))
  refine wpQuiet_nil ?_
  rintro w6 ⟨⟨wz, b6⟩, hw6⟩
  subst hw6
  have q6 := next bW b6
  clear b6 g0 g1 g2 hne HIA HIC HIM bW
  go_wp2
  go_ret
  exact ⟨one_str (by rw [HLT.out, show (⟨#[32]⟩ : ByteArray) = ⟨[32].toArray⟩ from rfl, ba_append, ba_append, ba_append, ba_append]), q6⟩

end Go.Proofs.YtnimlgdackgcoaaGreatDoor
