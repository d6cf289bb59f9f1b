/- A set comes back from its bytes, over plain lists. No Go in sight. -/
import Derived.Test.YtjjmjnbnoeaifaaGSetP
namespace Go.Proofs.Ytjjmjnbnoeaifaa
open Go.RowKit

theorem filter_asc (N : Nat) (zs : List Int) : ∀ p : Nat, ascS (p : Int) zs = true → (∀ x ∈ zs, x ≤ (N : Int)) → p ≤ N → ((List.range' (p + 1) (N - p)).filter fun n => zs.contains ((n : Nat) : Int)).map (fun n : Nat => (n : Int)) = zs := by
  induction zs with
  | nil =>
    intro p _ _ _
    have : (List.range' (p + 1) (N - p)).filter (fun n => ([] : List Int).contains ((n : Nat) : Int)) = [] := List.filter_eq_nil_iff.2 (fun n _ => by simp)
    rw [this]; rfl
  | cons x r ih =>
    intro p h hN hp
    have h' := h
    rw [ascS, Bool.and_eq_true, decide_eq_true_eq] at h'
    have hxN := hN x (by simp)
    obtain ⟨q, rfl⟩ := Int.eq_ofNat_of_zero_le (show 0 ≤ x by omega)
    have hpq : p < q := by omega
    have hqN : q ≤ N := by omega
    have e1 : List.range' (p + 1) (N - p) = List.range' (p + 1) (q - p - 1) ++ (q :: List.range' (q + 1) (N - q)) := by
      have a := List.range'_append (s := p + 1) (m := q - p - 1) (n := N - q + 1) (step := 1)
      rw [show p + 1 + 1 * (q - p - 1) = q from by omega, show q - p - 1 + (N - q + 1) = N - p from by omega] at a
      rw [← a, List.range'_succ]
    have hr := ascS_mem h'.2
    rw [e1, List.filter_append, List.filter_cons]
    have f1 : (List.range' (p + 1) (q - p - 1)).filter (fun n => ((q : Int) :: r).contains ((n : Nat) : Int)) = [] := by
      refine List.filter_eq_nil_iff.2 fun n hn => ?_
      rw [List.mem_range'_1] at hn
      simp only [List.contains_cons, Bool.or_eq_true, not_or, List.contains_iff_mem]
      constructor
      · simp; omega
      · intro hm
        have := (hr _ hm).1
        omega
    have f2 : (List.range' (q + 1) (N - q)).filter (fun n => ((q : Int) :: r).contains ((n : Nat) : Int)) = (List.range' (q + 1) (N - q)).filter (fun n => r.contains ((n : Nat) : Int)) := by
      refine List.filter_congr fun n hn => ?_
      rw [List.mem_range'_1] at hn
      rw [List.contains_cons]
      have : ((n : Int) == (q : Int)) = false := by simp; omega
      rw [this, Bool.false_or]
    have f3 : ((q : Int) :: r).contains ((q : Nat) : Int) = true := by simp
    rw [f1, f2, if_pos f3, List.nil_append, List.map_cons, ih q h'.2 (fun y hy => hN y (by simp [hy])) hqN]

theorem bitS_two {zs : List Int} {n : Nat} (h : 2 ≤ n) : bitS zs n = zs.contains (n : Int) := by
  unfold bitS; rw [decide_eq_false (by omega)]; simp
theorem bitS_one {zs : List Int} (h : ascS 1 zs = true) : bitS zs 1 = wide zs := by
  unfold bitS
  have : zs.contains ((1 : Nat) : Int) = false := by
    cases e : zs.contains ((1 : Nat) : Int)
    · rfl
    · have := (ascS_mem h _ (List.contains_iff_mem.1 e)).1
      omega
  rw [this]; simp
theorem nums_set {zs : List Int} (h : ascS 1 zs = true) : numsL (setB (bitS zs) (sizeS zs)) (8 * sizeS zs) = zs := by
  have hN : ∀ x ∈ zs, x ≤ ((8 * sizeS zs : Nat) : Int) := by
    intro x hx
    have hb := ascS_mem h x hx
    rcases sizeS_or zs with ⟨h1, _⟩ | ⟨h1, h2⟩
    · rw [h1]; omega
    · have : ¬ 64 < x := by
        intro h64
        have : wide zs = true := List.any_eq_true.2 ⟨_, hx, by simpa using h64⟩
        rw [h2] at this; cases this
      rw [h1]; omega
  have hs8 : 8 ≤ sizeS zs := by rcases sizeS_or zs with ⟨h1, _⟩ | ⟨h1, _⟩ <;> omega
  have hf := filter_asc (8 * sizeS zs) zs 1 h hN (by omega)
  obtain ⟨m, hm⟩ : ∃ m, sizeS zs = m := ⟨_, rfl⟩
  rw [hm] at hf hs8 ⊢
  unfold numsL
  have e1 : List.range (8 * m + 1) = [0, 1] ++ List.range' (1 + 1) (8 * m - 1) := by
    rw [List.range_eq_range', show 8 * m + 1 = 2 + (8 * m - 1) from by omega, ← List.range'_append (s := 0) (m := 2) (n := 8 * m - 1) (step := 1)]
    rfl
  rw [e1, List.filter_append]
  have f1 : ([0, 1] : List Nat).filter (fun n => decide (2 ≤ n) && bitL (setB (bitS zs) m) n) = [] := by simp
  have f2 : (List.range' (1 + 1) (8 * m - 1)).filter (fun n => decide (2 ≤ n) && bitL (setB (bitS zs) m) n) = (List.range' (1 + 1) (8 * m - 1)).filter (fun n => zs.contains ((n : Nat) : Int)) := by
    refine List.filter_congr fun n hn => ?_
    rw [List.mem_range'_1] at hn
    rw [decide_eq_true (by omega), Bool.true_and, bitL_set _ _ _ (by omega) (by omega), bitS_two (by omega)]
  rw [f1, f2, List.nil_append]
  exact hf

theorem set_back {zs : List Int} {s : List UInt8} (h : putS zs = some s) : getSL ([113] ++ s ++ [114]) 1 = zs ∧ getSI ([113] ++ s ++ [114]) 1 = 1 + (s.length : Int) ∧ s.length = sizeS zs ∧ ascS 1 zs = true := by
  have ha : ascS 1 zs = true := by
    cases e : ascS 1 zs
    · rw [putS_no e] at h; cases h
    · rfl
  rw [putS_yes ha] at h
  have hs : setB (bitS zs) (sizeS zs) = s := Option.some.inj h
  have hlen : s.length = sizeS zs := by rw [← hs, setB_len]
  have hs8 : 8 ≤ sizeS zs := by rcases sizeS_or zs with ⟨h1, _⟩ | ⟨h1, _⟩ <;> omega
  have hnum := nums_set ha
  rw [hs] at hnum
  have hg0 : ([113] ++ s ++ [114]).getD 1 0 = s.getD 0 0 := by
    rw [List.append_assoc, List.singleton_append]
    simp only [List.getD_eq_getElem?_getD, List.getElem?_cons_succ]
    rw [List.getElem?_append_left (by omega)]
  have hb1 : bitL s 1 = wide zs := by rw [← hs, bitL_set _ _ _ (by omega) (by omega), bitS_one ha]
  have hf := bitL_first s 0
  rw [List.drop_zero, hb1] at hf
  have hz : szB (([113] ++ s ++ [114]).getD 1 0) = sizeS zs := by
    rw [hg0]
    unfold szB sizeS
    rw [hf]
    by_cases hc : 128 ≤ (s.getD 0 0).toNat
    · rw [if_pos hc, if_pos (decide_eq_true hc)]
    · rw [if_neg hc, if_neg (by rw [decide_eq_false hc]; decide)]
  have hp : (([113] ++ s ++ [114]).drop 1).take (sizeS zs) = s := by
    rw [← hlen]; simp
  have hg := (getS_in (l := [113] ++ s ++ [114]) (k := 1) (m := sizeS zs) (b := s) hz (by simp; omega) hp hs8).1 (by rw [hnum, putS_yes ha, hs])
  rw [hnum] at hg
  refine ⟨hg.1, ?_, hlen, ha⟩
  rw [hlen]
  exact hg.2

end Go.Proofs.Ytjjmjnbnoeaifaa
