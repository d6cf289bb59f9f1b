/- A map that counts numbers, plainly. -/
import Derived.Test.YtkdodamdjajbiaaBsI
import Derived.Test.YtkdodamdjajbiaaCur
import Derived.Maps.RangeWalk
import Derived.WalkKit
namespace Go.Proofs.Ytkdodamdjajbiaa
open Go.RowKit Go.Maps
set_option maxRecDepth 100000

/-- a map that holds how often a number stands in a list -/
def MapL (D : DataW Unit) (l : List Int) : Prop :=
  (∀ a, Maps.has D (.int .i64 a) = decide (a ∈ l)) ∧ ∀ a, D.atKey (.int .i64 a) (.lit (.int .i64 0)) = .lit (.int .i64 (l.count a : Int))
theorem mapL_nil : MapL (.map []) [] := ⟨fun _ => rfl, fun _ => rfl⟩
theorem mapL_snoc {D : DataW Unit} {l : List Int} (h : MapL D l) (hm : IsMap D) (y : Int) : MapL (D.put (.int .i64 y) (.lit (.int .i64 ((l.count y : Int) + 1)))) (l ++ [y]) := by
  constructor
  · intro c
    by_cases hc : c = y
    · subst hc
      rw [Maps.has_put_same (k := .int .i64 c) hm trivial]; simp
    · rw [Maps.has_put_other (lit_ne hc), h.1 c]
      simp [hc]
  · intro c
    rw [List.count_append]
    by_cases hc : c = y
    · subst hc
      rw [Maps.atKey_put_same (k := .int .i64 c) hm trivial]; simp
    · rw [Maps.atKey_put_other (lit_ne hc), h.2 c]
      simp [Ne.symm hc]
theorem map_below {w w' : World} {P : Program} {k : TypeId} {R : Value → Option (DataW Unit × List MemPlace)} {b n : Nat} {D : DataW Unit} (h : w.ownsMap P k R b n D) (hb : Below w.heap.size w w') : w'.ownsMap P k R b n D := by
  have hl := h.lt
  obtain ⟨es, clock, hh, Ft, hs, hD⟩ := h
  exact ⟨es, clock, (hb.5 b hl).trans hh, Ft, hs, hD⟩
theorem map_up {w : World} {P : Program} {k : TypeId} {R : Value → Option (DataW Unit × List MemPlace)} {b n : Nat} {D : DataW Unit} (h : w.ownsMap P k R b n D) : Maps.size D ≤ n := h.size_le
theorem keys_mem {w : World} {k : TypeId} {R : Value → Option (DataW Unit × List MemPlace)} {b n : Nat} {D : DataW Unit} (hown : w.ownsMap Try.prog k R b n D) (hk : Try.prog.underlying k = some (.int .i64)) (x : Int) : x ∈ intKeys D ↔ Maps.has D (.int .i64 x) = true := by
  obtain ⟨es, rfl, hko⟩ := hown.keysOf
  rw [Maps.has_eq, List.any_eq_true]
  show x ∈ (es.map fun p => Go.intOf p.1) ↔ _
  rw [List.mem_map]
  constructor
  · rintro ⟨p, hp', rfl⟩
    obtain ⟨v, hv⟩ := hko p hp'
    obtain ⟨a, _, ha, _⟩ := Maps.keyOf_i64 hk hv
    exact ⟨p, hp', by rw [ha]; simp [Lit.sameKey, Go.intOf]⟩
  · rintro ⟨p, hp', hs⟩
    obtain ⟨v, hv⟩ := hko p hp'
    obtain ⟨a, _, ha, _⟩ := Maps.keyOf_i64 hk hv
    rw [ha] at hs
    exact ⟨p, hp', by rw [ha]; simpa [Lit.sameKey, Go.intOf] using hs⟩
theorem party_ok {c : Cs} {x : Int} (h : x ∈ partyL c) : acctOk x = true := by
  have h1 := party_count c x
  have h2 := List.count_pos_iff.2 h
  cases ho : acctOk x
  · rw [if_neg (by rw [ho]; simp)] at h1; omega
  · rfl
theorem flat_ok {cs : List Cs} {x : Int} (h : x ∈ flatP cs) : acctOk x = true := by
  obtain ⟨c, _, hc⟩ := List.mem_flatMap.1 h
  exact party_ok hc
theorem ok_wf {x : Int} (h : acctOk x = true) : wf64 x := by
  have : 1 ≤ x ∧ x ≤ 9999 := by simpa [acctOk] using h
  exact WalkArith.wf_i64 (by omega)
theorem wf_zero : wf64 0 := WalkArith.wf_i64 (by omega)
/-- the busiest account -/
noncomputable def bestV (cs : List Cs) : Int := Classical.epsilon fun r => ∃ b, Bst (cntA cs) (fun x => 1 ≤ x ∧ x < 10000) b r
theorem bestV_is {cs : List Cs} {b r : Int} (h : Bst (cntA cs) (fun x => 1 ≤ x ∧ x < 10000) b r) : r = bestV cs := by
  obtain ⟨b', h'⟩ : ∃ b', Bst (cntA cs) (fun x => 1 ≤ x ∧ x < 10000) b' (bestV cs) := Classical.epsilon_spec (p := fun r => ∃ b, Bst (cntA cs) (fun x => 1 ≤ x ∧ x < 10000) b r) ⟨r, b, h⟩
  exact bst_same h h' (fun a ha => ⟨ha, rfl⟩) (fun a ha => .inr ha)
theorem bestV_flat {cs : List Cs} {b r : Int} (hr : ∃ b' r', Bst (cntA cs) (fun x => 1 ≤ x ∧ x < 10000) b' r') (h : Bst (fun a => ((flatP cs).count a : Int)) (fun a => a ∈ flatP cs) b r) : r = bestV cs := by
  obtain ⟨b', r', h'⟩ := hr
  rw [← bestV_is h']
  refine (bst_same h' h (fun a ha => ?_) (fun a ha => ?_)).symm
  · have ho := flat_ok ha
    have hb : 1 ≤ a ∧ a ≤ 9999 := by simpa [acctOk] using ho
    refine ⟨by omega, ?_⟩
    rw [flat_count, if_pos ho]
  · have ho : acctOk a = true := by simp [acctOk]; omega
    have hc := flat_count cs a
    rw [if_pos ho] at hc
    by_cases hm : a ∈ flatP cs
    · exact .inr hm
    · left
      rw [List.count_eq_zero_of_not_mem hm] at hc
      omega
/-- there is a busiest one, or none -/
theorem bst_ex (f : Int → Int) (n : Nat) : ∃ b r, Bst f (fun x => 1 ≤ x ∧ x < (n : Int) + 1) b r := by
  induction n with
  | zero => exact ⟨0, 0, bst_none _ (fun a h => by omega)⟩
  | succ n ih =>
    obtain ⟨b, r, h⟩ := ih
    by_cases hb : b < f ((n : Int) + 1)
    · exact ⟨_, _, bst_in h (x := (n : Int) + 1) (fun a ha => by omega) (fun a => by omega) hb⟩
    · exact ⟨_, _, bst_out h (x := (n : Int) + 1) (fun a ha => by omega) (fun a => by omega) hb⟩
theorem bst_some (cs : List Cs) : ∃ b r, Bst (cntA cs) (fun x => 1 ≤ x ∧ x < 10000) b r := bst_ex (cntA cs) 9999
theorem bst_iff {f : Int → Int} {S T : Int → Prop} {b r : Int} (h : Bst f S b r) (e : ∀ a, S a ↔ T a) : Bst f T b r := by
  obtain rfl : S = T := funext fun a => propext (e a)
  exact h
/-- a sorted list of the same numbers -/
theorem sort_up (ss : List Int) : (ss.mergeSort (fun x y => decide (x ≤ y))).Pairwise (· ≤ ·) := by
  have h := List.pairwise_mergeSort (le := fun x y : Int => decide (x ≤ y)) (fun a b c h1 h2 => by simp at *; omega) (fun a b => by simp; omega) ss
  exact h.imp (by simp)
theorem sorted_take {L : List Int} (h : L.Pairwise (· ≤ ·)) {i : Nat} (hi : i < L.length) : ∀ a, a ∈ L.take i → a ≤ L.getD i 0 := by
  intro a ha
  obtain ⟨j, hj, rfl⟩ := List.mem_iff_getElem.1 ha
  have hj' : j < i := by simp at hj; omega
  have := List.pairwise_iff_getElem.1 h j i (by omega) hi hj'
  simpa [List.getD_eq_getElem?_getD, hi] using this
theorem take_memI {L : List Int} {i : Nat} (hi : i < L.length) (a : Int) : a ∈ L.take (i + 1) ↔ a ∈ L.take i ∨ a = L.getD i 0 := by
  rw [take_int L i hi]; simp

end Go.Proofs.Ytkdodamdjajbiaa
