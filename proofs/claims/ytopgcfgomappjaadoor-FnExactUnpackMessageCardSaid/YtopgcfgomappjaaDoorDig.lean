/- Digits, two a byte: how they are put and how they come back, over plain lists. No Go in sight. -/
import Derived.Test.YtopgcfgomappjaaDoorBy
namespace Go.Proofs.YtopgcfgomappjaaDoor
open Go.RowKit

theorem map_range_set {α : Type} (f g : Nat → α) (m j : Nat) (h : ∀ i, i ≠ j → f i = g i) : ((List.range m).map f).set j (g j) = (List.range m).map g := by
  apply List.ext_getElem?
  intro i
  rw [List.getElem?_set]
  by_cases e : j = i
  · subst e
    by_cases hm : j < m
    · simp [hm]
    · simp [hm]
  · simp only [e, if_false, List.getElem?_map]
    by_cases hm : i < m
    · simp [hm, h i (fun x => e x.symm)]
    · simp [hm]
theorem map_range_at {α : Type} (f : Nat → α) (m j : Nat) (h : j < m) : ((List.range m).map f)[j]? = some (f j) := by simp [h]
theorem getD_map_range (f : Nat → UInt8) (m j : Nat) (h : j < m) : ((List.range m).map f).getD j 0 = f j := by simp [List.getD_eq_getElem?_getD, h]

/-- the worth of the digit at place h, 0 behind the end -/
def dg (e : List UInt8) (h : Nat) : Nat := (e.getD h 0).toNat - 48
/-- byte j of the digits e -/
def pkB (e : List UInt8) (j : Nat) : UInt8 := UInt8.ofNat (dg e (2 * j) * 16 + dg e (2 * j + 1))
def pkL (e : List UInt8) (m : Nat) : List UInt8 := (List.range m).map (pkB e)
theorem pkL_succ (e : List UInt8) (m : Nat) : pkL e (m + 1) = pkL e m ++ [pkB e m] := by simp [pkL, List.range_succ]
theorem pkL_len (e : List UInt8) (m : Nat) : (pkL e m).length = m := by simp [pkL]
/-- a nought ahead where their number is odd -/
def padE (l : List UInt8) : List UInt8 := if l.length % 2 = 1 then 48 :: l else l
theorem padE_odd {l : List UInt8} (h : l.length % 2 = 1) : padE l = 48 :: l := if_pos h
theorem padE_even {l : List UInt8} (h : l.length % 2 = 0) : padE l = l := if_neg (by omega)
theorem padE_len (l : List UInt8) : (padE l).length = 2 * ((l.length + 1) / 2) := by
  by_cases h : l.length % 2 = 1
  · rw [padE_odd h, List.length_cons]; omega
  · rw [padE_even (by omega)]; omega
theorem padE_at (l : List UInt8) (k : Nat) : (padE l).getD (k + l.length % 2) 0 = l.getD k 0 := by
  by_cases h : l.length % 2 = 1
  · rw [padE_odd h, h]; simp [List.getD_eq_getElem?_getD]
  · rw [padE_even (by omega), show l.length % 2 = 0 from by omega]; rfl
theorem padE_dig {l : List UInt8} (h : within 48 57 l = true) : within 48 57 (padE l) = true := by
  by_cases e : l.length % 2 = 1
  · rw [padE_odd e]; refine within_of fun c hc => ?_
    rcases List.mem_cons.1 hc with rfl | hc
    · decide
    · exact within_mem h c hc
  · rw [padE_even (by omega)]; exact h
theorem dg_le {e : List UInt8} (h : within 48 57 e = true) (k : Nat) : dg e k ≤ 9 := by
  unfold dg
  by_cases hk : k < e.length
  · have := within_at h hk; omega
  · rw [List.getD_eq_getElem?_getD, List.getElem?_eq_none (by omega)]; decide

def putD (l : List UInt8) : Option (List UInt8) := if within 48 57 l = true ∧ l.length ≤ 100 then some (pkL (padE l) ((l.length + 1) / 2)) else none
theorem putD_no1 {l : List UInt8} (h : within 48 57 l = false) : putD l = none := if_neg (by rw [h]; simp)
theorem putD_no2 {l : List UInt8} (h : 100 < l.length) : putD l = none := if_neg (by omega)
theorem putD_yes {l : List UInt8} (h1 : within 48 57 l = true) (h2 : l.length ≤ 100) : putD l = some (pkL (padE l) ((l.length + 1) / 2)) := if_pos ⟨h1, h2⟩
theorem putD_len (l : List UInt8) : ((putD l).getD []).length ≤ 50 := by
  unfold putD
  split
  · rename_i h
    simp only [Option.getD_some, pkL_len]; omega
  · simp

/-- byte j when the digits ahead of place h are put -/
def cellK (e : List UInt8) (h j : Nat) : Nat := (if 2 * j < h then dg e (2 * j) else 0) * 16 + (if 2 * j + 1 < h then dg e (2 * j + 1) else 0)
theorem cellK_first {l : List UInt8} (j : Nat) : cellK (padE l) (l.length % 2) j = 0 := by
  unfold cellK
  by_cases h : l.length % 2 = 1
  · rw [padE_odd h, h]
    by_cases hj : j = 0
    · subst hj; rfl
    · rw [if_neg (by omega), if_neg (by omega)]
  · rw [show l.length % 2 = 0 from by omega, if_neg (by omega), if_neg (by omega)]
theorem cellK_other (e : List UInt8) (h j : Nat) (hj : j ≠ h / 2) : cellK e h j = cellK e (h + 1) j := by
  unfold cellK
  have a : (2 * j < h) ↔ (2 * j < h + 1) := by omega
  have b : (2 * j + 1 < h) ↔ (2 * j + 1 < h + 1) := by omega
  simp only [a, b]
theorem cellK_even (e : List UInt8) (h : Nat) (hh : h % 2 = 0) : cellK e h (h / 2) = 0 ∧ cellK e (h + 1) (h / 2) = dg e h * 16 := by
  unfold cellK
  rw [show 2 * (h / 2) = h from by omega, if_neg (by omega), if_neg (by omega), if_pos (by omega), if_neg (by omega)]
  omega
theorem cellK_odd (e : List UInt8) (h : Nat) (hh : h % 2 = 1) : cellK e h (h / 2) = dg e (h - 1) * 16 ∧ cellK e (h + 1) (h / 2) = dg e (h - 1) * 16 + dg e h := by
  unfold cellK
  rw [show 2 * (h / 2) = h - 1 from by omega, if_pos (by omega), if_neg (by omega), if_pos (by omega), if_pos (by omega), show h - 1 + 1 = h from by omega]
  omega
theorem cellK_all (e : List UInt8) (m j : Nat) (hj : j < m) : cellK e (2 * m) j = dg e (2 * j) * 16 + dg e (2 * j + 1) := by
  unfold cellK
  rw [if_pos (by omega), if_pos (by omega)]

/-- half h of the bytes b: the upper one of a byte is the even one -/
def nib (b : List UInt8) (h : Nat) : Nat := if h % 2 = 0 then (b.getD (h / 2) 0).toNat / 16 else (b.getD (h / 2) 0).toNat % 16
theorem nib_lt (b : List UInt8) (h : Nat) : nib b h < 16 := by
  unfold nib
  have := (b.getD (h / 2) 0).toNat_lt
  split <;> omega
def unB (b : List UInt8) (h : Nat) : UInt8 := UInt8.ofNat (48 + nib b h)
theorem unB_nat (b : List UInt8) (h : Nat) : (unB b h).toNat = 48 + nib b h := by
  have := nib_lt b h
  unfold unB; rw [UInt8.toNat_ofNat']; omega
def unL (b : List UInt8) (n : Nat) : List UInt8 := (List.range n).map fun k => unB b (k + n % 2)
theorem unL_len (b : List UInt8) (n : Nat) : (unL b n).length = n := by simp [unL]
/-- all halves, both of each of the first k bytes -/
def flat (b : List UInt8) (k : Nat) : List UInt8 := (List.range (2 * k)).map (unB b)
theorem flat_succ (b : List UInt8) (k : Nat) : flat b (k + 1) = flat b k ++ [unB b (2 * k), unB b (2 * k + 1)] := by
  unfold flat
  rw [show 2 * (k + 1) = 2 * k + 1 + 1 from by omega, List.range_succ, List.range_succ]
  simp
theorem flat_len (b : List UInt8) (k : Nat) : (flat b k).length = 2 * k := by simp [flat]
theorem flat_drop (b : List UInt8) (n : Nat) : (flat b ((n + 1) / 2)).drop (n % 2) = unL b n := by
  apply List.ext_getElem?
  intro i
  unfold flat unL
  rw [List.getElem?_drop]
  by_cases h : i < n
  · rw [map_range_at _ _ _ (by omega), map_range_at _ _ _ h, Nat.add_comm]
  · rw [List.getElem?_eq_none (by simp; omega), List.getElem?_eq_none (by simp; omega)]

/-- whether the bytes b are what n digits are put as -/
def goodB (b : List UInt8) (n : Nat) : Bool := (List.range (2 * ((n + 1) / 2))).all (fun h => decide (nib b h ≤ 9)) && (decide (n % 2 = 0) || decide (nib b 0 = 0))
def low9 (b : List UInt8) (k : Nat) : Bool := (List.range k).all fun j => decide ((b.getD j 0).toNat / 16 ≤ 9) && decide ((b.getD j 0).toNat % 16 ≤ 9)
theorem low9_succ (b : List UInt8) (k : Nat) : low9 b (k + 1) = (low9 b k && (decide ((b.getD k 0).toNat / 16 ≤ 9) && decide ((b.getD k 0).toNat % 16 ≤ 9))) := by
  unfold low9
  rw [List.range_succ, List.all_append]
  simp
theorem low9_all (b : List UInt8) (m : Nat) : (List.range (2 * m)).all (fun h => decide (nib b h ≤ 9)) = low9 b m := by
  induction m with
  | zero => rfl
  | succ m ih =>
    rw [low9_succ, ← ih, show 2 * (m + 1) = 2 * m + 1 + 1 from by omega, List.range_succ, List.range_succ, List.all_append, List.all_append]
    simp only [List.all_cons, List.all_nil, Bool.and_true, Bool.and_assoc]
    rw [show nib b (2 * m) = (b.getD m 0).toNat / 16 from by unfold nib; rw [if_pos (by omega), show 2 * m / 2 = m from by omega], show nib b (2 * m + 1) = (b.getD m 0).toNat % 16 from by unfold nib; rw [if_neg (by omega), show (2 * m + 1) / 2 = m from by omega]]
theorem goodB_iff {b : List UInt8} {n : Nat} : goodB b n = true ↔ (∀ h, h < 2 * ((n + 1) / 2) → nib b h ≤ 9) ∧ (n % 2 = 1 → nib b 0 = 0) := by
  unfold goodB
  rw [Bool.and_eq_true, List.all_eq_true, Bool.or_eq_true]
  simp only [List.mem_range, decide_eq_true_eq]
  constructor
  · rintro ⟨h1, h2⟩; exact ⟨h1, fun h => by omega⟩
  · rintro ⟨h1, h2⟩; exact ⟨h1, by by_cases e : n % 2 = 0 <;> simp [e] <;> exact h2 (by omega)⟩
theorem byte_halves (b : List UInt8) (j : Nat) : UInt8.ofNat (nib b (2 * j) * 16 + nib b (2 * j + 1)) = b.getD j 0 := by
  have h := (b.getD j 0).toNat_lt
  have e : nib b (2 * j) * 16 + nib b (2 * j + 1) = (b.getD j 0).toNat := by
    unfold nib
    rw [if_pos (by omega), if_neg (by omega), show 2 * j / 2 = j from by omega, show (2 * j + 1) / 2 = j from by omega]
    omega
  rw [e, UInt8.ofNat_toNat]
theorem eq_range (b : List UInt8) (m : Nat) (h : b.length = m) : b = (List.range m).map (fun j => b.getD j 0) := by
  apply List.ext_getElem?
  intro i
  by_cases hi : i < m
  · rw [map_range_at _ _ _ hi, List.getD_eq_getElem?_getD, List.getElem?_eq_getElem (by omega)]; rfl
  · rw [List.getElem?_eq_none (by omega), List.getElem?_eq_none (by simp; omega)]
theorem unL_at (b : List UInt8) (n h : Nat) (h1 : n % 2 ≤ h) (h2 : h < 2 * ((n + 1) / 2)) : dg (padE (unL b n)) h = nib b h := by
  have e := padE_at (unL b n) (h - n % 2)
  rw [unL_len, show h - n % 2 + n % 2 = h from by omega] at e
  unfold dg
  rw [e, unL, getD_map_range _ _ _ (by omega), unB_nat, show h - n % 2 + n % 2 = h from by omega]
  omega
theorem unL_first (b : List UInt8) (n : Nat) (h1 : n % 2 = 1) : dg (padE (unL b n)) 0 = 0 := by
  unfold dg
  rw [padE_odd (by rw [unL_len]; exact h1)]; rfl
/-- what was got and is put again is what stood there, just when it was good -/
theorem again (b : List UInt8) (n : Nat) (hb : b.length = (n + 1) / 2) (hn : n ≤ 100) : putD (unL b n) = some b ↔ goodB b n = true := by
  rw [goodB_iff]
  constructor
  · intro h
    have hw : within 48 57 (unL b n) = true := by
      cases e : within 48 57 (unL b n)
      · rw [putD_no1 e] at h; cases h
      · rfl
    rw [putD_yes hw (by rw [unL_len]; exact hn), unL_len] at h
    have h' : pkL (padE (unL b n)) ((n + 1) / 2) = b := Option.some.inj h
    have hx : n % 2 = 1 → nib b 0 = 0 := by
      intro ho
      have h0 : b.getD 0 0 = pkB (padE (unL b n)) 0 := by
        have : (pkL (padE (unL b n)) ((n + 1) / 2)).getD 0 0 = b.getD 0 0 := by rw [h']
        rw [← this, pkL, getD_map_range _ _ _ (by omega)]
      have e1 : nib b 0 = (b.getD 0 0).toNat / 16 := rfl
      rw [e1, h0, pkB, unL_first b n ho, unL_at b n 1 (by omega) (by omega)]
      have := nib_lt b 1
      rw [UInt8.toNat_ofNat']; omega
    refine ⟨fun k hk => ?_, hx⟩
    by_cases hk0 : n % 2 ≤ k
    · have e := dg_le (padE_dig hw) k
      rwa [unL_at b n k hk0 hk] at e
    · have hkz : k = 0 := by omega
      subst hkz
      rw [hx (by omega)]; omega
  · rintro ⟨h1, h2⟩
    have hw : within 48 57 (unL b n) = true := by
      refine within_of fun c hc => ?_
      obtain ⟨k, hk, rfl⟩ := List.mem_map.1 hc
      rw [List.mem_range] at hk
      rw [unB_nat]
      have := h1 (k + n % 2) (by omega)
      omega
    rw [putD_yes hw (by rw [unL_len]; exact hn), unL_len]
    congr 1
    rw [eq_range b _ hb]
    conv => rhs; rw [eq_range b _ hb]
    refine List.map_congr_left fun j hj => ?_
    rw [List.mem_range] at hj
    rw [← eq_range b _ hb, pkB, unL_at b n (2 * j + 1) (by omega) (by omega)]
    by_cases hx : n % 2 ≤ 2 * j
    · rw [unL_at b n (2 * j) hx (by omega), byte_halves]
    · have hj0 : j = 0 := by omega
      subst hj0
      have := byte_halves b 0
      rw [h2 (by omega)] at this
      rw [unL_first b n (by omega), this]
/-- digits that are put come back -/
theorem back (l : List UInt8) (h : within 48 57 l = true) : unL (pkL (padE l) ((l.length + 1) / 2)) l.length = l := by
  have hn : ∀ k, k < l.length → nib (pkL (padE l) ((l.length + 1) / 2)) (k + l.length % 2) = (l.getD k 0).toNat - 48 := by
    intro k hk
    have a1 := dg_le (padE_dig h) (2 * ((k + l.length % 2) / 2))
    have a2 := dg_le (padE_dig h) (2 * ((k + l.length % 2) / 2) + 1)
    have e2 : dg (padE l) (k + l.length % 2) = (l.getD k 0).toNat - 48 := by unfold dg; rw [padE_at]
    unfold nib
    rw [pkL, getD_map_range _ _ _ (by omega), pkB, UInt8.toNat_ofNat', ← e2]
    split
    · rename_i ev
      rw [show 2 * ((k + l.length % 2) / 2) = k + l.length % 2 from by omega] at a1 a2 ⊢
      omega
    · rename_i ev
      rw [show 2 * ((k + l.length % 2) / 2) + 1 = k + l.length % 2 from by omega] at a2 ⊢
      omega
  rw [eq_range l _ rfl]
  conv => lhs; rw [← eq_range l _ rfl]
  unfold unL
  refine List.map_congr_left fun k hk => ?_
  rw [List.mem_range] at hk
  have hb := within_at h hk
  have := hn k hk
  unfold unB
  rw [this, show 48 + ((l.getD k 0).toNat - 48) = (l.getD k 0).toNat from by omega, UInt8.ofNat_toNat]

/-- GetDigits -/
def getOk (l : List UInt8) (i n : Int) : Bool := decide (0 ≤ n ∧ n ≤ 100 ∧ 0 ≤ i ∧ i ≤ l.length ∧ (n + 1) / 2 ≤ l.length - i) && goodB ((l.drop i.toNat).take ((n.toNat + 1) / 2)) n.toNat
def getL (l : List UInt8) (i n : Int) : List UInt8 := if getOk l i n = true then unL ((l.drop i.toNat).take ((n.toNat + 1) / 2)) n.toNat else []
def getI (l : List UInt8) (i n : Int) : Int := if getOk l i n = true then i + (n + 1) / 2 else -1
theorem get_no {l : List UInt8} {i n : Int} (h : getOk l i n = false) : getL l i n = [] ∧ getI l i n = -1 := ⟨if_neg (by rw [h]; decide), if_neg (by rw [h]; decide)⟩
theorem get_yes {l : List UInt8} {i n : Int} (h : getOk l i n = true) : getL l i n = unL ((l.drop i.toNat).take ((n.toNat + 1) / 2)) n.toNat ∧ getI l i n = i + (n + 1) / 2 := ⟨if_pos h, if_pos h⟩
theorem getOk_out {l : List UInt8} {i n : Int} (h : ¬ (0 ≤ n ∧ n ≤ 100 ∧ 0 ≤ i ∧ i ≤ l.length ∧ (n + 1) / 2 ≤ l.length - i)) : getOk l i n = false := by
  unfold getOk; rw [decide_eq_false h]; rfl
theorem getOk_in {l : List UInt8} {i n : Nat} (h : n ≤ 100 ∧ i ≤ l.length ∧ (n + 1) / 2 ≤ l.length - i) : getOk l i n = goodB ((l.drop i).take ((n + 1) / 2)) n := by
  unfold getOk; rw [decide_eq_true (by omega)]; simp
theorem piece_len {l : List UInt8} {i m : Nat} (h : m ≤ l.length - i) : ((l.drop i).take m).length = m := by simp; omega
theorem piece_at {l : List UInt8} {i m j : Nat} (hj : j < m) : ((l.drop i).take m).getD j 0 = l.getD (i + j) 0 := by
  simp [List.getD_eq_getElem?_getD, hj]

end Go.Proofs.YtopgcfgomappjaaDoor
