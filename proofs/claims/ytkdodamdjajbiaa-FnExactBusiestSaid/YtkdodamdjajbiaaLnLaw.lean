/- The laws' own functions over lines and ledgers: how much one takes, its copy, whether two are the same, marks in one's own. -/
import Derived.Test.YtkdodamdjajbiaaLns
import Derived.Deep.RegionWith
import Derived.Handy
namespace Go.Proofs.Ytkdodamdjajbiaa
open Go.RowKit
set_option maxRecDepth 100000

theorem keepL {w w' : World} {base n size : Nat} {t : TypeId} {v : Value} {xs : List Value} (h : w.ownsRow base t size v n xs) (hb : Below w.heap.size w w') : w'.ownsRow base t size v n xs := by
  obtain ⟨h1, h2⟩ := h
  refine ⟨h1, ?_⟩
  rcases h2 with h | ⟨g, cap, cur, hv, hg, hh, a1, a2, a3, a4⟩
  · exact .inl h
  · have hlt : g < w.heap.size := (Array.getElem?_eq_some_iff.1 hh).1
    exact .inr ⟨g, cap, cur, hv, hg, (hb.block g hlt).trans hh, a1, a2, a3, a4⟩
theorem keepSetL {w : World} {base n size : Nat} {t : TypeId} {v : Value} {xs : List Value} (h : w.ownsRow base t size v n xs) (p : Addr) (u : Value) (hp : ∀ g, v.ownBlock = some g → g ≠ p.block) : (w.setCell p u).ownsRow base t size v n xs := by
  obtain ⟨h1, h2⟩ := h
  refine ⟨h1, ?_⟩
  rcases h2 with h | ⟨g, cap, cur, hv, hg, hh, a1, a2, a3, a4⟩
  · exact .inl h
  · exact .inr ⟨g, cap, cur, hv, hg, (Below.heap_setCell w p u g (hp g (by rw [hv]; rfl))).trans hh, a1, a2, a3, a4⟩
theorem lowerL {w : World} {base base' n size : Nat} {t : TypeId} {v : Value} {xs : List Value} (h : w.ownsRow base t size v n xs) (hb : base' ≤ base) : w.ownsRow base' t size v n xs := by
  obtain ⟨h1, h2⟩ := h
  refine ⟨h1, ?_⟩
  rcases h2 with h | ⟨g, cap, cur, hv, hg, r⟩
  · exact .inl h
  · exact .inr ⟨g, cap, cur, hv, Nat.le_trans hb hg, r⟩

def leftL (n : Nat) (left : Int) : Int := if left - (n : Int) < 0 then -1 else left - (n : Int)
set_option maxHeartbeats 400000 in
theorem szLineS_any (ao : Option Addr) (cap n : Nat) (left : Int) (w : World) (h0 : 0 ≤ left) (h1 : left ≤ 1048576) (hn : n ≤ 9223372036854775807) :
    Calls Try.prog 55 #[.slice ao n cap, .int .i64 left] w fun e w' => e = .returned (.int .i64 (leftL n left)) ∧ Below w.heap.size w w' := by
  by_cases hneg : left - (n : Int) < 0
  · have HE : Hid (leftL n left = -1) := if_pos hneg
    go_enter Try.func55, Try.ntmps55
    go_wp2
    go_ret
    exact ⟨one_int HE.out.symm, Below.refl _ _⟩
  · have HE : Hid (leftL n left = left - (n : Int)) := if_neg hneg
    go_enter Try.func55, Try.ntmps55
    go_wp2
    go_ret
    exact ⟨one_int HE.out.symm, Below.refl _ _⟩
set_option maxHeartbeats 400000 in
theorem szLedger_any (ao : Option Addr) (cap n : Nat) (left : Int) (w : World) (h0 : 0 ≤ left) (h1 : left ≤ 1048576) (hn : n ≤ 9223372036854775807) :
    Calls Try.prog 28 #[.agg #[.slice ao n cap], .int .i64 left] w fun e w' => e = .returned (.int .i64 (leftL n left)) ∧ Below w.heap.size w w' := by
  have bel : Below w.heap.size w (w.alloc (.cells #[.slice ao n cap] 27)) := by go_grown
  by_cases hneg : left - (n : Int) < 0
  · have HE : Hid (leftL n left = -1) := if_pos hneg
    go_enter Try.func28, Try.ntmps28
    go_wp2_with fail
    refine (szLineS_any _ _ _ _ _ h0 h1 hn).mono ?_
    rintro e w1 ⟨rfl, b1⟩
    have q1 := bel.trans (b1.mono bel.size)
    rw [HE.out]
    clear b1 bel
    go_wp2
    go_ret
    exact ⟨one_int HE.out.symm, q1⟩
  · have HE : Hid (leftL n left = left - (n : Int)) := if_neg hneg
    go_enter Try.func28, Try.ntmps28
    go_wp2_with fail
    refine (szLineS_any _ _ _ _ _ h0 h1 hn).mono ?_
    rintro e w1 ⟨rfl, b1⟩
    have q1 := bel.trans (b1.mono bel.size)
    rw [HE.out]
    clear b1 bel
    go_wp2
    go_ret
    exact ⟨one_int HE.out.symm, q1⟩

set_option maxHeartbeats 800000 in
theorem toLine_any (a b c : Int) (w : World) :
    Calls Try.prog 71 #[.agg #[.int .i64 a, .int .i64 b, .int .i64 c]] w fun e w' => e = .returned (.agg #[.int .i64 a, .int .i64 b, .int .i64 c]) ∧ Below w.heap.size w w' := by
  go_enter Try.func71, Try.ntmps71
  go_wp2
  go_returns
  refine ⟨rfl, ?_⟩
  go_grown

/-- what a copy holds behind k rounds -/
def halfL (ls : List Ln) (k : Nat) : List Ln := ls.take k ++ List.replicate (ls.length - k) (0, 0, 0)
theorem halfL_all (ls : List Ln) : halfL ls ls.length = ls := by simp [halfL]
theorem halfL_len (ls : List Ln) (k : Nat) (h : k ≤ ls.length) : (halfL ls k).length = ls.length := by simp [halfL]; omega
theorem halfL_succ (ls : List Ln) (k : Nat) (h : k < ls.length) : (halfL ls k).set k (lnAt ls k) = halfL ls (k + 1) := by
  unfold halfL
  rw [List.set_append, if_neg (by simp; omega), List.length_take, Nat.min_eq_left (Nat.le_of_lt h), Nat.sub_self, show ls.length - k = ls.length - (k + 1) + 1 by omega, List.replicate_succ, List.set_cons_zero, take_lnAt ls k h, List.append_assoc]
  rfl
theorem halfL_at (ls : List Ln) (k : Nat) (h : k < ls.length) : lnAt (halfL ls k) k = (0, 0, 0) := by
  simp [lnAt, halfL, List.getD_eq_getElem?_getD, List.getElem?_append, Nat.min_eq_left (Nat.le_of_lt h), List.getElem?_replicate]
  split <;> rfl
theorem infoL : (Try.prog.info? 100).map (fun i => (i.zero, i.size, i.bytes)) = some (some (.agg #[.int .i64 0, .int .i64 0, .int .i64 0]), 3, 24) := by kernel_rfl
theorem cells_repL (m : Nat) : (madeCells (Value.agg #[.int .i64 0, .int .i64 0, .int .i64 0]).cells (m * 3)).toList = lcells (List.replicate m (0, 0, 0)) := by
  apply List.ext_getElem?
  intro j
  by_cases hj : j < m * 3
  · have hq : j / 3 < (List.replicate m ((0 : Int), (0 : Int), (0 : Int))).length := by simp; omega
    have ha : lnAt (List.replicate m ((0 : Int), (0 : Int), (0 : Int))) (j / 3) = (0, 0, 0) := by
      simp [lnAt, List.getD_eq_getElem?_getD, List.getElem?_replicate]; split <;> rfl
    have h := lcells_at _ _ hq
    rw [ha] at h
    have hl : (madeCells (Value.agg #[.int .i64 0, .int .i64 0, .int .i64 0]).cells (m * 3)).toList[j]? = some ((#[Value.int .i64 0, .int .i64 0, .int .i64 0] : Array Value)[j % 3]!) := by
      simp [madeCells, hj, Value.cells]
    rcases (show j % 3 = 0 ∨ j % 3 = 1 ∨ j % 3 = 2 by omega) with e | e | e
    · rw [hl, e, show j = j / 3 * 3 by omega, h.1]; rfl
    · rw [hl, e, show j = j / 3 * 3 + 1 by omega, h.2.1]; rfl
    · rw [hl, e, show j = j / 3 * 3 + 2 by omega, h.2.2]; rfl
  · rw [List.getElem?_eq_none (by rw [Array.length_toList, size_madeCells]; omega), List.getElem?_eq_none (by rw [lcells_len]; simp; omega)]

set_option maxHeartbeats 1600000 in
theorem toLineS_any (ao : Option Addr) (cap : Nat) (ls : List Ln) (w : World) (hz : LinesAt w ao ls) (hn : ls.length ≤ 1048576) :
    Calls Try.prog 58 #[.slice ao ls.length cap] w fun e w' => e = .returned (.slice (some ⟨w.heap.size, 0, none⟩) ls.length ls.length) ∧
      w'.ownsRow w.heap.size 100 3 (.slice (some ⟨w.heap.size, 0, none⟩) ls.length ls.length) ls.length (lcells ls) ∧ Below w.heap.size w w' := by
  obtain ⟨i0, hi, hz0, hz1, hz2⟩ := info_parts infoL
  have hm0 := cells_repL ls.length
  have HZ : Hid (LinesAt w ao ls) := hz
  clear hz
  go_enter Try.func58, Try.ntmps58
  go_wp2_with (refine wpList_make_full _ rfl (.tmp 6) (.tmp 6) 35 rfl w.heap.size 100 i0 _ 3 Try.underlying35 hi hz0 hz1 .i64 .i64 _ _ ls.length rfl rfl rfl rfl (by rw [hz2]; omega) (by unfold maxLen; omega) (Nat.le_refl _) ?_; intro w1 hown hg)
  rw [hm0, show List.replicate ls.length ((0 : Int), (0 : Int), (0 : Int)) = halfL ls 0 from by simp [halfL]] at hown
  have hb1 : Below w.heap.size w w1 := (Below.refl _ _).grown hg (Nat.le_refl _) (fun k hk => by cases hk)
  clear hm0 hg
  go_loopw [4] (fun i wr => ∃ k : Nat, k ≤ ls.length ∧ i = .int .i64 k ∧ wr.ownsRow w.heap.size 100 3 (.slice (some ⟨w.heap.size, 0, none⟩) ls.length ls.length) ls.length (lcells (halfL ls k)) ∧ Below w.heap.size w wr) (fun i _ => ls.length - (intOf i).toNat)
  case atStart => exact ⟨0, Nat.zero_le _, rfl, hown, hb1⟩
  case round =>
    obtain ⟨k, hk, rfl, ho, hbr⟩ := hrel
    clear hown hb1
    by_cases hlt : k < ls.length
    · obtain ⟨b, off, rfl, hb, c1, c2, c3⟩ := (HZ.out.below hbr).at hlt
      have hki : (k : Int) < (ls.length : Int) := by omega
      have HS : Hid _ := halfL_succ ls k hlt
      have HT : Hid _ := lcells_set (halfL ls k) (lnAt ls k) k (by rw [halfL_len ls k hk]; exact hlt)
      obtain ⟨⟨x, y, z⟩, hf⟩ : ∃ f, lnAt ls k = f := ⟨_, rfl⟩
      rw [hf] at c1 c2 c3 HS HT
      simp only at c1 c2 c3 HT
      have HO : Hid (wr.ownsRow w.heap.size 100 3 (.slice (some ⟨w.heap.size, 0, none⟩) ls.length ls.length) ls.length (lcells (halfL ls k))) := ho
      have HA : Hid _ := halfL_at ls k hlt
      clear hf ho
      go_wp2_with fail
      refine (toLine_any _ _ _ _).mono ?_
      rintro e w2 ⟨rfl, b2⟩
      have ho := keepL HO.out b2
      have hat := lcells_at (halfL ls k) k (by rw [halfL_len ls k hk]; exact hlt)
      rw [HA.out] at hat
      have d1 : w2.cell? ⟨w.heap.size, k * 3, none⟩ = some (.int .i64 0) := by rw [ho.cellAt (k * 3) (by omega)]; exact hat.1
      have d2 : w2.cell? ⟨w.heap.size, k * 3 + 1, none⟩ = some (.int .i64 0) := by rw [ho.cellAt (k * 3 + 1) (by omega)]; exact hat.2.1
      have d3 : w2.cell? ⟨w.heap.size, k * 3 + 2, none⟩ = some (.int .i64 0) := by rw [ho.cellAt (k * 3 + 2) (by omega)]; exact hat.2.2
      have e1 : w2.frozen? ⟨w.heap.size, k * 3, none⟩ = false := ho.frozenAt _
      have e2 : w2.frozen? ⟨w.heap.size, k * 3 + 1, none⟩ = false := ho.frozenAt _
      have e3 : w2.frozen? ⟨w.heap.size, k * 3 + 2, none⟩ = false := ho.frozenAt _
      have HR : Hid ((((w2.setCell ⟨w.heap.size, k * 3, none⟩ (.int .i64 x)).setCell ⟨w.heap.size, k * 3 + 1, none⟩ (.int .i64 y)).setCell ⟨w.heap.size, k * 3 + 2, none⟩ (.int .i64 z)).ownsRow w.heap.size 100 3 (.slice (some ⟨w.heap.size, 0, none⟩) ls.length ls.length) ls.length (lcells (halfL ls (k + 1)))) := by
        have R := (((ho.stored (k * 3) (.int .i64 x)).1.stored (k * 3 + 1) (.int .i64 y)).1.stored (k * 3 + 2) (.int .i64 z)).1
        rw [HT.out, HS.out] at R
        exact R
      clear ho hat
      go_wp2
      go_roundw
      case rel => exact ⟨k + 1, by omega, by go_num, HR.out, (((hbr.trans (b2.mono hbr.size)).setCell (Nat.le_refl _) _).setCell (Nat.le_refl _) _).setCell (Nat.le_refl _) _⟩
      case measure => simp [intOf]; omega
    · have : k = ls.length := by omega
      subst this
      rw [halfL_all] at ho
      go_wp2
      go_ret
      exact ⟨rfl, ho, hbr⟩

theorem lines_any {w : World} {base n : Nat} {t : TypeId} {ao : Option Addr} {cap : Nat} {ls : List Ln} (h : w.ownsRow base t 3 (.slice ao ls.length cap) n (lcells ls)) : LinesAt w ao ls := by
  obtain ⟨ao', cap', hv, hf, _⟩ := lines_of_own h
  obtain ⟨rfl, _⟩ : ao = ao' ∧ cap = cap' := by simpa using hv
  exact hf

set_option maxHeartbeats 800000 in
theorem eqLine_same (a b c : Int) (w : World) :
    Calls Try.prog 72 #[.agg #[.int .i64 a, .int .i64 b, .int .i64 c], .agg #[.int .i64 a, .int .i64 b, .int .i64 c]] w fun e w' => e = .returned (.bool true) ∧ Below w.heap.size w w' := by
  go_enter Try.func72, Try.ntmps72
  go_wp2
  go_ret
  exact ⟨rfl, by go_grown⟩

set_option maxHeartbeats 800000 in
theorem eqLineS_same (ao bo : Option Addr) (c1 c2 : Nat) (ls : List Ln) (w : World) (hx : LinesAt w ao ls) (hy : LinesAt w bo ls) (h1 : ls.length ≤ 1099511627776) :
    Calls Try.prog 62 #[.slice ao ls.length c1, .slice bo ls.length c2] w fun e w' => e = .returned (.bool true) ∧ Below w.heap.size w w' := by
  have HX : Hid (LinesAt w ao ls) := hx
  have HY : Hid (LinesAt w bo ls) := hy
  clear hx hy
  go_enter Try.func62, Try.ntmps62
  go_wp2
  go_loopw [5] (fun i wr => ∃ k : Nat, k ≤ ls.length ∧ i = .int .i64 k ∧ Below w.heap.size w wr) (fun i _ => ls.length - (intOf i).toNat)
  case atStart => exact ⟨0, Nat.zero_le _, rfl, Below.refl _ _⟩
  case round =>
    obtain ⟨k, hk, rfl, hbr⟩ := hrel
    by_cases hlt : k < ls.length
    · obtain ⟨b, off, rfl, hb, e1, e2, e3⟩ := (HX.out.below hbr).at hlt
      obtain ⟨b', off', rfl, hb', e4, e5, e6⟩ := (HY.out.below hbr).at hlt
      have hki : (k : Int) < (ls.length : Int) := by omega
      obtain ⟨⟨x, y, z⟩, hxk⟩ : ∃ x, lnAt ls k = x := ⟨_, rfl⟩
      rw [hxk] at e1 e2 e3 e4 e5 e6
      simp only at e1 e2 e3 e4 e5 e6
      clear hxk
      go_wp2
      go_region_with (go_at_call 72; refine (eqLine_same _ _ _ _).mono ?_; rintro e w2 ⟨rfl, b2⟩)
      all_goals
        go_wp2
        go_roundw
        case rel => exact ⟨k + 1, by omega, by go_num, (hbr.drew).trans (b2.mono hbr.size)⟩
        case measure => simp [intOf]; omega
    · go_wp2
      go_ret
      exact ⟨rfl, hbr⟩

end Go.Proofs.Ytkdodamdjajbiaa
