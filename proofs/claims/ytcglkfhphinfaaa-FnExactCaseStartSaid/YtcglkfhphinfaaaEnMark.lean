/- Marks in one's own entries, found again. -/
import Derived.Test.YtcglkfhphinfaaaEnLaw
namespace Go.Proofs.Ytcglkfhphinfaaa
open Go.RowKit
set_option maxRecDepth 100000

/-- the marks of n entries, from k on -/
def mkE (k n : Nat) : List En := (List.range n).map fun i => (((k + 4 * i : Nat) : Int), ((k + 4 * i + 1 : Nat) : Int), ((k + 4 * i + 2 : Nat) : Int), ((k + 4 * i + 3 : Nat) : Int))
theorem mkE_len (k n : Nat) : (mkE k n).length = n := by simp [mkE]
theorem mkE_at (k n i : Nat) (h : i < n) : enAt (mkE k n) i = (((k + 4 * i : Nat) : Int), ((k + 4 * i + 1 : Nat) : Int), ((k + 4 * i + 2 : Nat) : Int), ((k + 4 * i + 3 : Nat) : Int)) := by simp [enAt, mkE, List.getD_eq_getElem?_getD, h]
def fillE (es : List En) (k j : Nat) : List En := mkE k j ++ es.drop j
theorem fillE_len (es : List En) (k j : Nat) (h : j ≤ es.length) : (fillE es k j).length = es.length := by simp [fillE, mkE_len]; omega
theorem fillE_zero (es : List En) (k : Nat) : fillE es k 0 = es := by simp [fillE, mkE]
theorem fillE_all (es : List En) (k : Nat) : fillE es k es.length = mkE k es.length := by simp [fillE]
theorem fillE_succ (es : List En) (k j : Nat) (h : j < es.length) : (fillE es k j).set j (((k + 4 * j : Nat) : Int), ((k + 4 * j + 1 : Nat) : Int), ((k + 4 * j + 2 : Nat) : Int), ((k + 4 * j + 3 : Nat) : Int)) = fillE es k (j + 1) := by
  unfold fillE
  rw [List.set_append, if_neg (by rw [mkE_len]; omega), mkE_len, Nat.sub_self, List.drop_eq_getElem_cons h, List.set_cons_zero]
  simp [mkE, List.range_succ]

set_option maxHeartbeats 1600000 in
theorem markE_any (ao : Option Addr) (cap base k : Nat) (es : List En) (w : World) (ho : w.ownsRow base 46 4 (.slice ao es.length cap) es.length (ecells es)) (hn : es.length ≤ 1099511627) (k2 : k ≤ 1099511627) :
    Calls Try.prog 25 #[.slice ao es.length cap, .int .i64 k] w fun e w' => e = .returned (.int .i64 (k + 4 * es.length : Nat)) ∧
      w'.ownsRow base 46 4 (.slice ao es.length cap) es.length (ecells (mkE k es.length)) ∧ w.grownBy w' (Value.slice ao es.length cap).ownBlock := by
  rcases ho.2 with ⟨hv, h0⟩ | ⟨g, cap', cur, hv, hrest⟩
  · obtain rfl : es = [] := List.eq_nil_of_length_eq_zero h0
    obtain ⟨rfl, rfl⟩ : ao = none ∧ cap = 0 := by simpa using hv
    clear hv h0
    go_enter Try.func25, Try.ntmps25
    go_wp2
    refine wp_loop_rounds 1 ?_
    rw [rounds_succ]
    go_wp2
    go_ret
    exact ⟨one_int (by simp), World.ownsRow_nil _ _ _ _, World.grownBy.refl _ _⟩
  · obtain ⟨rfl, rfl⟩ : ao = some ⟨g, 0, none⟩ ∧ cap = cap' := by simpa using hv
    clear hv hrest
    go_enter Try.func25, Try.ntmps25
    go_wp2
    go_loopw [1, 5] (fun c i wr => ∃ j : Nat, j ≤ es.length ∧ i = .int .i64 j ∧ c = .int .i64 (k + 4 * j : Nat) ∧ wr.ownsRow base 46 4 (.slice (some ⟨g, 0, none⟩) es.length cap) es.length (ecells (fillE es k j)) ∧ w.grownBy wr (some g)) (fun _ i _ => es.length - (intOf i).toNat)
    case atStart => exact ⟨0, Nat.zero_le _, rfl, rfl, by rw [fillE_zero]; exact ho, World.grownBy.refl _ _⟩
    case round =>
      obtain ⟨j, hj, rfl, rfl, hor, hgr⟩ := hrel
      clear ho
      by_cases hlt : j < es.length
      · have hji : (j : Int) < (es.length : Int) := by omega
        have hat := ecells_at (fillE es k j) j (by rw [fillE_len es k j hj]; exact hlt)
        have c1 : wr.cell? ⟨g, j * 4, none⟩ = some (.int .i64 (enAt (fillE es k j) j).1) := by rw [hor.cellAt (j * 4) (by omega)]; exact hat.1
        have c2 : wr.cell? ⟨g, j * 4 + 1, none⟩ = some (.int .i64 (enAt (fillE es k j) j).2.1) := by rw [hor.cellAt (j * 4 + 1) (by omega)]; exact hat.2.1
        have c3 : wr.cell? ⟨g, j * 4 + 2, none⟩ = some (.int .i64 (enAt (fillE es k j) j).2.2.1) := by rw [hor.cellAt (j * 4 + 2) (by omega)]; exact hat.2.2.1
        have c4 : wr.cell? ⟨g, j * 4 + 3, none⟩ = some (.int .i64 (enAt (fillE es k j) j).2.2.2) := by rw [hor.cellAt (j * 4 + 3) (by omega)]; exact hat.2.2.2
        have d1 : wr.frozen? ⟨g, j * 4, none⟩ = false := hor.frozenAt _
        have d2 : wr.frozen? ⟨g, j * 4 + 1, none⟩ = false := hor.frozenAt _
        have d3 : wr.frozen? ⟨g, j * 4 + 2, none⟩ = false := hor.frozenAt _
        have d4 : wr.frozen? ⟨g, j * 4 + 3, none⟩ = false := hor.frozenAt _
        have R1 := hor.stored (j * 4) (.int .i64 (k + 4 * j : Nat))
        have R2 := R1.1.stored (j * 4 + 1) (.int .i64 (k + 4 * j + 1 : Nat))
        have R3 := R2.1.stored (j * 4 + 2) (.int .i64 (k + 4 * j + 2 : Nat))
        have R4 := R3.1.stored (j * 4 + 3) (.int .i64 (k + 4 * j + 3 : Nat))
        have HS := ecells_set (fillE es k j) (((k + 4 * j : Nat) : Int), ((k + 4 * j + 1 : Nat) : Int), ((k + 4 * j + 2 : Nat) : Int), ((k + 4 * j + 3 : Nat) : Int)) j (by rw [fillE_len es k j hj]; exact hlt)
        simp only at HS
        have R := R4.1
        rw [HS, fillE_succ es k j hlt] at R
        have G := (((hgr.trans R1.2).trans R2.2).trans R3.2).trans R4.2
        obtain ⟨m, hm⟩ : ∃ m : Nat, k + 4 * j = m := ⟨_, rfl⟩
        obtain ⟨o1, h1⟩ : ∃ x, (enAt (fillE es k j) j).1 = x := ⟨_, rfl⟩
        obtain ⟨o2, h2⟩ : ∃ x, (enAt (fillE es k j) j).2.1 = x := ⟨_, rfl⟩
        obtain ⟨o3, h3⟩ : ∃ x, (enAt (fillE es k j) j).2.2.1 = x := ⟨_, rfl⟩
        obtain ⟨o4, h4⟩ : ∃ x, (enAt (fillE es k j) j).2.2.2 = x := ⟨_, rfl⟩
        rw [hm] at R G ⊢
        rw [h1] at c1
        rw [h2] at c2
        rw [h3] at c3
        rw [h4] at c4
        have e1 : ((m + 1 : Nat) : Int) = (m : Int) + 1 := by omega
        have e2 : ((m + 2 : Nat) : Int) = (m : Int) + 1 + 1 := by omega
        have e3 : ((m + 3 : Nat) : Int) = (m : Int) + 1 + 1 + 1 := by omega
        rw [e1, e2, e3] at R G
        have HR : Hid _ := R
        have HG : Hid _ := G
        have hmb : m ≤ 6000000000 := by omega
        have HM : Hid (k + 4 * (j + 1) = m + 1 + 1 + 1 + 1) := by rw [Hid]; omega
        clear R1 R2 R3 R4 R G hor hgr hat hm h1 h2 h3 h4 HS e1 e2 e3
        go_wp2
        go_roundw
        case rel => exact ⟨j + 1, by omega, by go_num, by rw [HM.out]; go_num, HR.out, HG.out⟩
        case measure => simp [intOf]; omega
      · have hjn : j = es.length := by omega
        subst hjn
        rw [fillE_all] at hor
        have HO : Hid _ := hor
        clear hor
        go_wp2
        go_ret
        exact ⟨rfl, HO.out, hgr⟩

set_option maxHeartbeats 800000 in
theorem heldE_any (ao : Option Addr) (cap n k : Nat) (w : World) (hz : EntsAt w ao (mkE k n)) (hn : n ≤ 1099511627) (k2 : k ≤ 1099511627) :
    Calls Try.prog 26 #[.slice ao n cap, .int .i64 k] w fun e w' => e = .returned (.int .i64 (k + 4 * n : Nat)) ∧ Below w.heap.size w w' := by
  have HZ : Hid (EntsAt w ao (mkE k n)) := hz
  clear hz
  go_enter Try.func26, Try.ntmps26
  go_wp2
  go_loopw [1, 5] (fun c i wr => ∃ j : Nat, j ≤ n ∧ i = .int .i64 j ∧ c = .int .i64 (k + 4 * j : Nat) ∧ wr = w) (fun _ i _ => n - (intOf i).toNat)
  case atStart => exact ⟨0, Nat.zero_le _, rfl, rfl, rfl⟩
  case round =>
    obtain ⟨j, hj, rfl, rfl, hwr⟩ := hrel
    subst hwr
    by_cases hlt : j < n
    · have hji : (j : Int) < (n : Int) := by omega
      obtain ⟨b, off, rfl, hb, c1, c2, c3, c4⟩ := HZ.out.at (k := j) (by rw [mkE_len]; exact hlt)
      rw [mkE_at k n j hlt] at c1 c2 c3 c4
      simp only at c1 c2 c3 c4
      obtain ⟨m, hm⟩ : ∃ m : Nat, k + 4 * j = m := ⟨_, rfl⟩
      rw [hm] at c1 c2 c3 c4 ⊢
      rw [show ((m + 1 : Nat) : Int) = (m : Int) + 1 by omega] at c2
      rw [show ((m + 2 : Nat) : Int) = (m : Int) + 1 + 1 by omega] at c3
      rw [show ((m + 3 : Nat) : Int) = (m : Int) + 1 + 1 + 1 by omega] at c4
      have hmb : m ≤ 6000000000 := by omega
      have HM : Hid (k + 4 * (j + 1) = m + 1 + 1 + 1 + 1) := by rw [Hid]; omega
      have n1 : ((m : Int) != (m : Int)) = false := by simp
      have n2 : ((m : Int) + 1 != (m : Int) + 1) = false := by simp
      have n3 : ((m : Int) + 1 + 1 != (m : Int) + 1 + 1) = false := by simp
      have n4 : ((m : Int) + 1 + 1 + 1 != (m : Int) + 1 + 1 + 1) = false := by simp
      clear hm
      go_wp2
      go_roundw
      case rel => exact ⟨j + 1, by omega, by go_num, by rw [HM.out]; go_num, trivial⟩
      case measure => simp [intOf]; omega
    · have hjn : j = n := by omega
      subst hjn
      go_wp2
      go_ret
      exact ⟨rfl, Below.refl _ _⟩
theorem keepE {w w' : World} {base n size : Nat} {t : TypeId} {v : Value} {xs : List Value} {row : Option Nat} (h : w.ownsRow base t size v n xs) (hg : w.grownBy w' row) (hne : ∀ g, v.ownBlock = some g → some g ≠ row) : w'.ownsRow base t size v n xs := by
  obtain ⟨h1, h2⟩ := h
  refine ⟨h1, ?_⟩
  rcases h2 with h | ⟨g, cap, cur, hv, hg', hh, a1, a2, a3, a4⟩
  · exact .inl h
  · have hlt : g < w.heap.size := (Array.getElem?_eq_some_iff.1 hh).1
    exact .inr ⟨g, cap, cur, hv, hg', (hg.block g hlt (hne g (by rw [hv]; rfl))).trans hh, a1, a2, a3, a4⟩
/-- what stood ahead of a row stands behind marks in it -/
theorem below_mark {w u u' : World} {row : Option Nat} (b : Below w.heap.size w u) (g : u.grownBy u' row) (hr : ∀ x, row = some x → w.heap.size ≤ x) : Below w.heap.size w u' := b.grown g b.size hr
theorem ents_mark {w : World} {base n : Nat} {t : TypeId} {ao : Option Addr} {cap : Nat} (h : w.ownsRow base t 4 (.slice ao n cap) n (ecells (mkE 1 n))) : EntsAt w ao (mkE 1 n) := by
  obtain ⟨ao', cap', hv, hf, _⟩ := ents_of_own h
  obtain ⟨rfl, _⟩ : ao = ao' ∧ n = (mkE 1 n).length ∧ cap = cap' := by simpa using hv
  exact hf

end Go.Proofs.Ytcglkfhphinfaaa
