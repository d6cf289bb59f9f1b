/- Slices of texts: those that came in, those in a row of one's own. -/
import Derived.Test.YtkdodamdjajbiaaAid
import Derived.Test.YtkdodamdjajbiaaBase
import Derived.Test.YtkdodamdjajbiaaFileP
import Derived.Test.YtkdodamdjajbiaaFBytes
import Derived.Deep.Strs
import Derived.Lib.AppendZeros
import Derived.Maps.AppendAt
namespace Go.Proofs.Ytkdodamdjajbiaa
open Go.ChangeShapes Go.WideShapes Go.ChangeAt Go.RowKit Go.Deep

/-- The slice of texts at 'ao' reads as 'rs' in w. -/
def TxtsAt (w : World) (ao : Option Addr) (rs : Recs) : Prop :=
  rs = [] ∨ ∃ b off, ao = some ⟨b, off, none⟩ ∧ b < w.heap.size ∧ ∀ i, i < rs.length → w.cell? ⟨b, off + i, none⟩ = some (.string ⟨(nth rs i).toArray⟩)
def TxtsBd (rs : Recs) : Prop := rs.length ≤ maxLen ∧ ∀ r ∈ rs, r.length ≤ maxLen
theorem TxtsAt.below {w w' : World} {ao : Option Addr} {rs : Recs} (h : TxtsAt w ao rs) (hb : Below w.heap.size w w') : TxtsAt w' ao rs := by
  rcases h with h | ⟨b, off, h1, h2, h3⟩
  · exact .inl h
  · exact .inr ⟨b, off, h1, Nat.lt_of_lt_of_le h2 hb.size, fun i hi => (hb.cell (p := ⟨b, off + i, none⟩) h2).trans (h3 i hi)⟩

theorem is_txts {P : Program} {H : Type} {enc : TypeId × Value → H} {W : World} {r : Reach} {base : Nat} {t e : TypeId} {v : Value} {d : DataW H} {p : List MemPlace}
    (ht : P.underlying t = some (.slice e)) (he : P.underlying e = some .string) (ce : P.cellsOf e = 1)
    (hv : Value.okWide P W r base t v) (h : DataW.Trod enc P W 0 (fun _ => true) true t v d p) :
    ∃ a cap rs, v = .slice a (List.length rs) cap ∧ TxtsAt W a rs ∧ TxtsBd rs := by
  obtain ⟨va, vl, vc, rfl⟩ := okWide_slice ht hv
  obtain ⟨fuel, h1⟩ := h
  rcases open_strs ht he ce h1 with ⟨e1, _⟩ | ⟨a, len, cap, m, Sx, e1, _, hlc, hm, hmm, _, hx⟩
  · have e2 : Value.slice va vl vc = .slice none 0 0 := by simpa [Value.cells] using e1
    exact ⟨none, 0, [], e2, .inl rfl, Nat.zero_le _, fun f hf => by cases hf⟩
  · simp at hmm
    subst hmm
    have e2 : Value.slice va vl vc = .slice (some a) len m := by simpa [Value.cells] using e1
    refine ⟨some a, m, (List.range len).map fun i => (Sx i).data.toList, by rw [e2]; simp, ?_, by rw [List.length_map, List.length_range]; exact Nat.le_trans hlc hm, fun f hf => by
      obtain ⟨i, hi, rfl⟩ := List.mem_map.1 hf
      have := (hx i (by have := List.mem_range.1 hi; omega)).2
      rw [Array.length_toList]; exact this⟩
    by_cases hz : len = 0
    · subst hz; exact .inl rfl
    · obtain ⟨bk, off, spot⟩ := a
      have hc0 := (hx 0 (by omega)).1
      have hspot : spot = none := by simpa [Addr.add] using World.cell?_spot hc0
      subst hspot
      refine .inr ⟨bk, off, rfl, World.block_lt_of_cell? W _ hc0, fun i hi => ?_⟩
      have hi' : i < len := by simpa using hi
      have hat : nth ((List.range len).map fun i => (Sx i).data.toList) i = (Sx i).data.toList := by simp [nth, List.getD_eq_getElem?_getD, hi']
      have g0 := (hx i (by omega)).1
      rw [add_plain] at g0
      rw [hat, g0]

def scell (r : List UInt8) : Value := .string ⟨r.toArray⟩
def scells (rs : Recs) : List Value := rs.map scell
theorem scells_len (rs : Recs) : (scells rs).length = rs.length := by simp [scells]
theorem scells_append (a b : Recs) : scells (a ++ b) = scells a ++ scells b := by simp [scells]
theorem scells_at (rs : Recs) (k : Nat) (h : k < rs.length) : (scells rs)[k]? = some (.string ⟨(nth rs k).toArray⟩) := by
  simp [scells, scell, nth, List.getD_eq_getElem?_getD, h]
theorem scells_set (rs : Recs) (k : Nat) (r : List UInt8) : (scells rs).set k (.string ⟨r.toArray⟩) = scells (rs.set k r) := by
  show (rs.map scell).set k (scell r) = (rs.set k r).map scell
  rw [List.map_set]
theorem scells_one (rs : Recs) : ∀ u ∈ scells rs, u.oneCell' = true := by
  intro u hu
  simp only [scells, List.mem_map] at hu
  obtain ⟨r, _, rfl⟩ := hu
  rfl
theorem infoS : (Try.prog.info? 9).map (fun i => (i.zero, i.size, i.bytes)) = some (some (.string ⟨#[]⟩), 1, 16) := by kernel_rfl
theorem cells_repS (m : Nat) : (madeCells (Value.string ⟨#[]⟩).cells (m * 1)).toList = scells (List.replicate m []) := by
  rw [Nat.mul_one]
  refine (toList_madeCells_one _ _).trans ?_
  simp [scells, scell]

theorem keepRowS {w w' : World} {base n size : Nat} {t : TypeId} {v : Value} {xs : List Value} (h : w.ownsRow base t size v n xs) (hb : Below w.heap.size w w') : w'.ownsRow base t size v n xs := by
  obtain ⟨h1, h2⟩ := h
  refine ⟨h1, ?_⟩
  rcases h2 with h | ⟨g, cap, cur, hv, hg, hh, a1, a2, a3, a4⟩
  · exact .inl h
  · have hlt : g < w.heap.size := (Array.getElem?_eq_some_iff.1 hh).1
    exact .inr ⟨g, cap, cur, hv, hg, (hb.block g hlt).trans hh, a1, a2, a3, a4⟩
theorem txts_of_own {w : World} {base n : Nat} {t : TypeId} {v : Value} {rs : Recs} (h : w.ownsRow base t 1 v n (scells rs)) : ∃ ao cap, v = .slice ao rs.length cap ∧ TxtsAt w ao rs ∧ n = rs.length := by
  have hn : n = rs.length := by have := h.1; rw [scells_len] at this; omega
  subst hn
  rcases h.2 with ⟨rfl, hn⟩ | ⟨g, cap, cur, rfl, _⟩
  · have : rs = [] := List.eq_nil_of_length_eq_zero hn
    subst this
    exact ⟨none, 0, rfl, .inl rfl, rfl⟩
  · refine ⟨_, cap, rfl, ?_, rfl⟩
    by_cases h0 : rs = []
    · exact .inl h0
    · have hlt := (h.lt g rfl).2
      refine .inr ⟨g, 0, rfl, hlt, fun i hi => ?_⟩
      rw [Nat.zero_add, h.cellAt i (by omega)]
      exact scells_at rs i hi
theorem txts_any {w : World} {base n : Nat} {t : TypeId} {ao : Option Addr} {cap : Nat} {rs : Recs} (h : w.ownsRow base t 1 (.slice ao rs.length cap) n (scells rs)) : TxtsAt w ao rs := by
  obtain ⟨ao', cap', hv, hf, _⟩ := txts_of_own h
  obtain ⟨rfl, _⟩ : ao = ao' ∧ cap = cap' := by simpa using hv
  exact hf
theorem txts_cell {w : World} {b off : Nat} {rs : Recs} (h : TxtsAt w (some ⟨b, off, none⟩) rs) {k : Nat} (hk : k < rs.length) : w.cell? ⟨b, off + k, none⟩ = some (.string ⟨(nth rs k).toArray⟩) ∧ b < w.heap.size := by
  rcases h with rfl | ⟨b', off', hq, hb, hc⟩
  · simp at hk
  · obtain ⟨rfl, rfl⟩ : b = b' ∧ off = off' := by simpa using hq
    exact ⟨hc k hk, hb⟩
theorem one_txt {w : World} {g : Nat} {r : List UInt8} (h : w.cell? ⟨g, 0, none⟩ = some (.string ⟨r.toArray⟩)) : ∀ (j : Nat) (u : Value), [Value.string ⟨r.toArray⟩][j]? = some u → w.cell? ((⟨g, 0, none⟩ : Addr).add j) = some u := by
  intro j u hj
  match j with
  | 0 => simp at hj; subst hj; simpa [Addr.add] using h
  | j + 1 => simp at hj
theorem one_oneS (r : List UInt8) : ∀ u ∈ [Value.string ⟨r.toArray⟩], u.oneCell' = true := by
  intro u hu
  simp at hu
  subst hu; rfl

/-- what a copy holds behind k rounds -/
def halfS (rs : Recs) (k : Nat) : Recs := rs.take k ++ List.replicate (rs.length - k) []
theorem halfS_all (rs : Recs) : halfS rs rs.length = rs := by simp [halfS]
theorem halfS_len (rs : Recs) (k : Nat) (h : k ≤ rs.length) : (halfS rs k).length = rs.length := by simp [halfS]; omega
theorem halfS_succ (rs : Recs) (k : Nat) (h : k < rs.length) : (halfS rs k).set k (nth rs k) = halfS rs (k + 1) := by
  unfold halfS
  rw [List.set_append, if_neg (by simp; omega), List.length_take, Nat.min_eq_left (Nat.le_of_lt h), Nat.sub_self, show rs.length - k = rs.length - (k + 1) + 1 by omega, List.replicate_succ, List.set_cons_zero, take_nth rs k h, List.append_assoc]
  rfl
theorem halfS_at (rs : Recs) (k : Nat) (h : k < rs.length) : nth (halfS rs k) k = [] := by
  simp [nth, halfS, List.getD_eq_getElem?_getD, List.getElem?_append, Nat.min_eq_left (Nat.le_of_lt h), List.getElem?_replicate]
  split <;> rfl

/-- what is left behind all texts -/
def leftTs : Recs → Int → Int
  | [], left => left
  | f :: r, left => if left - (f.length : Int) < 0 then -1 else leftTs r (left - (f.length : Int))
def leftT (rs : Recs) (left : Int) : Int := if left - (rs.length : Int) < 0 then -1 else leftTs rs (left - (rs.length : Int))
theorem leftTs_step (rs : Recs) (k : Nat) (left : Int) (h : k < rs.length) : leftTs (rs.drop k) left = if left - ((nth rs k).length : Int) < 0 then -1 else leftTs (rs.drop (k + 1)) (left - ((nth rs k).length : Int)) := by
  rw [List.drop_eq_getElem_cons h, nth_is h]; rfl
def sumT (rs : Recs) : Nat := (rs.map List.length).sum
theorem leftTs_sum (rs : Recs) : ∀ left, 0 ≤ leftTs rs left → 0 ≤ left → (sumT rs : Int) ≤ left := by
  induction rs with
  | nil => intro left _ h; simpa [sumT] using h
  | cons f r ih =>
    intro left h hl
    simp only [leftTs] at h
    split at h
    · omega
    · have := ih _ h (by omega)
      simp only [sumT, List.map_cons, List.sum_cons] at this ⊢
      omega
theorem leftT_sum {rs : Recs} {left : Int} (h : 0 ≤ leftT rs left) : (rs.length : Int) + sumT rs ≤ left := by
  unfold leftT at h
  split at h
  · omega
  · have := leftTs_sum rs _ h (by omega)
    omega
theorem sumT_mem {rs : Recs} {f : List UInt8} (h : f ∈ rs) : f.length ≤ sumT rs := by
  induction rs with
  | nil => cases h
  | cons g r ih =>
    simp only [sumT, List.map_cons, List.sum_cons] at ih ⊢
    rcases List.mem_cons.1 h with rfl | hr
    · omega
    · have := ih hr; omega

end Go.Proofs.Ytkdodamdjajbiaa
