/- Blocked files, plainly: how records are laid, cut into blocks, and found again. No Go in sight. -/
import Derived.Test.YtggaadbcifbdeaaBy
namespace Go.Proofs.Ytggaadbcifbdeaa

set_option maxRecDepth 20000
abbrev Recs := List (List UInt8)
/-- a number as four bytes -/
def be4 (n : Nat) : List UInt8 := [UInt8.ofNat (n / 16777216), UInt8.ofNat (n / 65536), UInt8.ofNat (n / 256), UInt8.ofNat n]
theorem be4_len (n : Nat) : (be4 n).length = 4 := rfl
def lay1 (r : List UInt8) : List UInt8 := be4 r.length ++ r
theorem lay1_len (r : List UInt8) : (lay1 r).length = r.length + 4 := by simp [lay1, be4_len]; omega
def layR (rs : Recs) : List UInt8 := rs.flatMap lay1
theorem layR_append (a b : Recs) : layR (a ++ b) = layR a ++ layR b := by simp [layR]
theorem layR_one (r : List UInt8) : layR [r] = lay1 r := by simp [layR]
theorem layR_cons (r : List UInt8) (rs : Recs) : layR (r :: rs) = lay1 r ++ layR rs := by simp [layR]
def laid (rs : Recs) : List UInt8 := layR rs ++ be4 0
def recOk (r : List UInt8) : Bool := decide (0 < r.length) && decide (r.length ≤ 3000)
theorem recOk_is {r : List UInt8} (h : recOk r = true) : 0 < r.length ∧ r.length ≤ 3000 := by simpa [recOk] using h
def recsOk (rs : Recs) : Bool := rs.all recOk
def nth (rs : Recs) (k : Nat) : List UInt8 := rs.getD k []
theorem nth_is {rs : Recs} {k : Nat} (h : k < rs.length) : nth rs k = rs[k] := by simp [nth, List.getD_eq_getElem?_getD, h]
theorem nth_mem {rs : Recs} {k : Nat} (h : k < rs.length) : nth rs k ∈ rs := by rw [nth_is h]; exact List.getElem_mem h
theorem take_nth (rs : Recs) (k : Nat) (h : k < rs.length) : rs.take (k + 1) = rs.take k ++ [nth rs k] := by
  rw [List.take_succ_eq_append_getElem h, nth_is h]
theorem recsOk_step (rs : Recs) (k : Nat) (h : k < rs.length) : recsOk (rs.drop k) = (recOk (nth rs k) && recsOk (rs.drop (k + 1))) := by
  rw [List.drop_eq_getElem_cons h, nth_is h]; rfl
theorem recsOk_end (rs : Recs) : recsOk (rs.drop rs.length) = true := by rw [List.drop_of_length_le (Nat.le_refl _)]; rfl
theorem recsOk_mem {rs : Recs} (h : recsOk rs = true) : ∀ r ∈ rs, 0 < r.length ∧ r.length ≤ 3000 := fun r hr => recOk_is (List.all_eq_true.1 h r hr)
theorem layR_step (rs : Recs) (k : Nat) (h : k < rs.length) : layR (rs.take (k + 1)) = layR (rs.take k) ++ (be4 (nth rs k).length ++ nth rs k) := by
  rw [take_nth rs k h, layR_append, layR_one]; rfl
theorem layR_bd {rs : Recs} (h : ∀ r ∈ rs, r.length ≤ 3000) : (layR rs).length ≤ 3004 * rs.length := by
  induction rs with
  | nil => simp [layR]
  | cons r q ih =>
    have h1 := h r (List.mem_cons_self ..)
    have h2 := ih (fun g hg => h g (List.mem_cons_of_mem _ hg))
    rw [layR_cons, List.length_append, lay1_len, List.length_cons]; omega
theorem laid_len (rs : Recs) : (laid rs).length = (layR rs).length + 4 := by simp [laid, be4_len]

def nBlk (n : Nat) : Nat := (n + 1011) / 1012
/-- a stream of m pieces as a file -/
def fileM (t : List UInt8) (m : Nat) : List UInt8 := (List.range m).flatMap fun i => (t.drop (i * 1012)).take 1012 ++ [64, 64]
def filled (l : List UInt8) : List UInt8 := l ++ List.replicate (nBlk l.length * 1012 - l.length) 64
def fileOf (l : List UInt8) : List UInt8 := fileM (filled l) (nBlk l.length)
def blockOk (rs : Recs) : Bool := (decide (rs.length ≤ 200) && recsOk rs) && decide (nBlk (laid rs).length * 1014 ≤ 60000)
def blockL (rs : Recs) : List UInt8 := if blockOk rs = true then fileOf (laid rs) else []
theorem blockL_yes {rs : Recs} (h : blockOk rs = true) : blockL rs = fileOf (laid rs) := if_pos h
theorem blockL_no {rs : Recs} (h : blockOk rs = false) : blockL rs = [] := if_neg (by rw [h]; decide)
theorem blockOk_parts {rs : Recs} (h : blockOk rs = true) : rs.length ≤ 200 ∧ recsOk rs = true ∧ nBlk (laid rs).length * 1014 ≤ 60000 := by
  simp [blockOk] at h; exact ⟨h.1.1, h.1.2, h.2⟩
theorem blockOk_of {rs : Recs} (h1 : rs.length ≤ 200) (h2 : recsOk rs = true) (h3 : nBlk (laid rs).length * 1014 ≤ 60000) : blockOk rs = true := by simp [blockOk, h1, h2, h3]
theorem blockOk_no1 {rs : Recs} (h : 200 < rs.length) : blockOk rs = false := by simp [blockOk]; intro h1; omega
theorem blockOk_no2 {rs : Recs} (h : recsOk rs = false) : blockOk rs = false := by simp [blockOk, h]
theorem blockOk_no3 {rs : Recs} (h : 60000 < nBlk (laid rs).length * 1014) : blockOk rs = false := by simp [blockOk]; intros; omega
theorem nBlk_le (n : Nat) : n ≤ nBlk n * 1012 := by unfold nBlk; omega
theorem nBlk_lt (n : Nat) : nBlk n * 1012 < n + 1012 := by unfold nBlk; omega
theorem filled_len (l : List UInt8) : (filled l).length = nBlk l.length * 1012 := by
  have := nBlk_le l.length
  simp [filled]; omega

theorem fileM_succ (t : List UInt8) (m : Nat) : fileM t (m + 1) = fileM t m ++ ((t.drop (m * 1012)).take 1012 ++ [64, 64]) := by
  simp [fileM, List.range_succ]
theorem fileM_len (t : List UInt8) (m : Nat) (h : m * 1012 ≤ t.length) : (fileM t m).length = m * 1014 := by
  induction m with
  | zero => rfl
  | succ m ih =>
    rw [fileM_succ, List.length_append, ih (by omega), List.length_append, List.length_take, List.length_drop, show [(64 : UInt8), 64].length = 2 from rfl]
    omega
theorem fileOf_len (l : List UInt8) : (fileOf l).length = nBlk l.length * 1014 := fileM_len _ _ (by rw [filled_len]; omega)

/-- block i of a file -/
def blk (s : List UInt8) (i : Nat) : List UInt8 := (s.drop (i * 1014)).take 1014
def pieceOf (s : List UInt8) (i : Nat) : List UInt8 := (s.drop (i * 1014)).take 1012
def streamM (s : List UInt8) (m : Nat) : List UInt8 := (List.range m).flatMap (pieceOf s)
def streamOf (s : List UInt8) : List UInt8 := streamM s (s.length / 1014)
theorem streamM_succ (s : List UInt8) (m : Nat) : streamM s (m + 1) = streamM s m ++ pieceOf s m := by simp [streamM, List.range_succ]
theorem pieceOf_len (s : List UInt8) (m : Nat) (h : m * 1014 + 1012 ≤ s.length) : (pieceOf s m).length = 1012 := by
  rw [pieceOf, List.length_take, List.length_drop]; omega
theorem streamM_len (s : List UInt8) (m : Nat) (h : m * 1014 ≤ s.length) : (streamM s m).length = m * 1012 := by
  induction m with
  | zero => rfl
  | succ m ih =>
    rw [streamM_succ, List.length_append, ih (by omega), pieceOf_len s m (by omega)]
    omega
def endOk (s : List UInt8) (i : Nat) : Bool := (s.getD (i * 1014 + 1012) 0 == 64) && (s.getD (i * 1014 + 1013) 0 == 64)
def padM (s : List UInt8) (m : Nat) : Bool := (List.range m).all (endOk s)
def padAll (s : List UInt8) : Bool := padM s (s.length / 1014)
theorem padM_succ (s : List UInt8) (m : Nat) : padM s (m + 1) = (padM s m && endOk s m) := by simp [padM, List.range_succ]
theorem padM_at {s : List UInt8} {m : Nat} (h : padM s m = true) {i : Nat} (hi : i < m) : endOk s i = true := List.all_eq_true.1 h i (List.mem_range.2 hi)
theorem padM_no {s : List UInt8} {m i : Nat} (hi : i < m) (h : endOk s i = false) : padM s m = false := by
  cases hp : padM s m
  · rfl
  · rw [padM_at hp hi] at h; cases h

theorem drop_take_getD (s : List UInt8) (a : Nat) (h : a + 2 ≤ s.length) : (s.drop a).take 2 = [s.getD a 0, s.getD (a + 1) 0] := by
  rw [List.drop_eq_getElem_cons (by omega), List.take_succ_cons, List.drop_eq_getElem_cons (by omega), List.take_succ_cons, List.take_zero]
  simp [List.getD_eq_getElem?_getD, show a < s.length by omega, show a + 1 < s.length by omega]
/-- a file whose blocks end right is its stream's file -/
theorem file_stream (s : List UInt8) : ∀ m, m * 1014 ≤ s.length → padM s m = true → fileM (streamM s m) m = s.take (m * 1014) := by
  intro m
  induction m with
  | zero => intro _ _; rfl
  | succ m ih =>
    intro hl hp
    rw [padM_succ, Bool.and_eq_true] at hp
    have hsl := streamM_len s m (by omega)
    have e1 : fileM (streamM s (m + 1)) m = fileM (streamM s m) m := by
      rw [streamM_succ]
      unfold fileM
      have ext : ∀ (l : List Nat) (f g : Nat → List UInt8), (∀ i ∈ l, f i = g i) → l.flatMap f = l.flatMap g := by
        intro l f g
        induction l with
        | nil => intro _; rfl
        | cons x r ih => intro h; rw [List.flatMap_cons, List.flatMap_cons, h x (List.mem_cons_self ..), ih fun i hi => h i (List.mem_cons_of_mem _ hi)]
      refine ext _ _ _ fun i hi => ?_
      have hi := List.mem_range.1 hi
      rw [List.drop_append_of_le_length (by omega), List.take_append_of_le_length (by rw [List.length_drop]; omega)]
    have e2 : ((streamM s (m + 1)).drop (m * 1012)).take 1012 = pieceOf s m := by
      rw [streamM_succ, ← hsl, List.drop_left]
      exact List.take_of_length_le (by rw [pieceOf_len s m (by omega)]; omega)
    have e3 : [(64 : UInt8), 64] = (s.drop (m * 1014 + 1012)).take 2 := by
      have := hp.2
      simp only [endOk, Bool.and_eq_true, beq_iff_eq] at this
      rw [drop_take_getD s _ (by omega), this.1, this.2]
    rw [fileM_succ, e1, e2, ih (by omega) hp.1, e3, pieceOf, show (m + 1) * 1014 = m * 1014 + (1012 + 2) by omega, List.take_add, List.take_add, List.drop_drop]
theorem file_of_stream {s : List UInt8} (hm : s.length % 1014 = 0) (hp : padAll s = true) : fileM (streamOf s) (s.length / 1014) = s := by
  rw [streamOf, file_stream s _ (by omega) hp, List.take_of_length_le (by omega)]
/-- and the other way round -/
theorem piece_fileM (t : List UInt8) : ∀ m, m * 1012 ≤ t.length → ∀ i, i < m → ∀ u, pieceOf (fileM t m ++ u) i = (t.drop (i * 1012)).take 1012 ∧ endOk (fileM t m ++ u) i = true := by
  intro m
  induction m with
  | zero => intro _ i hi; omega
  | succ m ih =>
    intro hl i hi u
    rw [fileM_succ, List.append_assoc]
    by_cases h : i < m
    · exact ih (by omega) i h _
    · obtain rfl : i = m := by omega
      have hf := fileM_len t i (by omega)
      have hpl : ((t.drop (i * 1012)).take 1012).length = 1012 := by rw [List.length_take, List.length_drop]; omega
      constructor
      · rw [pieceOf, ← hf, List.drop_left, List.append_assoc, List.take_append_of_le_length (by omega), List.take_of_length_le (by omega)]
      · have g : ∀ j, j < 2 → (fileM t i ++ ((t.drop (i * 1012)).take 1012 ++ [64, 64] ++ u)).getD (i * 1014 + (1012 + j)) 0 = 64 := by
          intro j hj
          rw [List.getD_eq_getElem?_getD, List.getElem?_append_right (by omega), hf, Nat.add_sub_cancel_left, List.append_assoc, List.getElem?_append_right (by omega), hpl, Nat.add_sub_cancel_left]
          match j, hj with
          | 0, _ => rfl
          | 1, _ => rfl
        have g0 := g 0 (by omega)
        have g1 := g 1 (by omega)
        simp only [Nat.add_zero] at g0
        simp only [endOk, g0, show i * 1014 + 1013 = i * 1014 + (1012 + 1) by omega, g1]; rfl
theorem stream_fileM (t : List UInt8) (m : Nat) (h : m * 1012 = t.length) : streamM (fileM t m) m = t ∧ padM (fileM t m) m = true := by
  constructor
  · have : ∀ k, k ≤ m → streamM (fileM t m) k = t.take (k * 1012) := by
      intro k
      induction k with
      | zero => intro _; rfl
      | succ k ih =>
        intro hk
        have hp := (piece_fileM t m (by omega) k (by omega) []).1
        rw [List.append_nil] at hp
        rw [streamM_succ, ih (by omega), hp, show (k + 1) * 1012 = k * 1012 + 1012 by omega, List.take_add]
    rw [this m (Nat.le_refl _), List.take_of_length_le (by omega)]
  · apply List.all_eq_true.2
    intro i hi
    have := (piece_fileM t m (by omega) i (List.mem_range.1 hi) []).2
    rwa [List.append_nil] at this
theorem stream_file (t : List UInt8) (m : Nat) (h : m * 1012 = t.length) : streamOf (fileM t m) = t ∧ padAll (fileM t m) = true := by
  have hl := fileM_len t m (by omega)
  have hd : (fileM t m).length / 1014 = m := by omega
  unfold streamOf padAll
  rw [hd]
  exact stream_fileM t m h
theorem fileM_inj {a b : List UInt8} {m n : Nat} (ha : m * 1012 = a.length) (hb : n * 1012 = b.length) (h : fileM a m = fileM b n) : m = n ∧ a = b := by
  have h1 := fileM_len a m (by omega)
  have h2 := fileM_len b n (by omega)
  rw [h] at h1
  have hmn : m = n := by omega
  subst hmn
  refine ⟨rfl, ?_⟩
  rw [← (stream_fileM a m ha).1, h, (stream_fileM b m hb).1]

/-- the number that four bytes spell -/
def num4 (l : List UInt8) (a : Nat) : Nat := (l.getD a 0).toNat * 16777216 + (l.getD (a + 1) 0).toNat * 65536 + (l.getD (a + 2) 0).toNat * 256 + (l.getD (a + 3) 0).toNat
def walkR (l : List UInt8) : Nat → Nat → Recs → Option (Recs × Nat)
  | 0, _, _ => none
  | f + 1, a, acc =>
    if l.length < a + 4 then none
    else if num4 l a = 0 then some (acc, a + 4)
    else if 3000 < num4 l a ∨ l.length < a + 4 + num4 l a ∨ 200 ≤ acc.length then none
    else walkR l f (a + 4 + num4 l a) (acc ++ [(l.drop (a + 4)).take (num4 l a)])
theorem walkR_short {l : List UInt8} {f a : Nat} {acc : Recs} (h : l.length < a + 4) : walkR l f a acc = none := by
  cases f with
  | zero => rfl
  | succ f => exact if_pos h
theorem walkR_end {l : List UInt8} {f a : Nat} {acc : Recs} (h : ¬ l.length < a + 4) (h0 : num4 l a = 0) : walkR l (f + 1) a acc = some (acc, a + 4) := by
  rw [walkR, if_neg h, if_pos h0]
theorem walkR_bad {l : List UInt8} {f a : Nat} {acc : Recs} (h : ¬ l.length < a + 4) (h0 : num4 l a ≠ 0) (h1 : 3000 < num4 l a ∨ l.length < a + 4 + num4 l a ∨ 200 ≤ acc.length) : walkR l f a acc = none := by
  cases f with
  | zero => rfl
  | succ f => rw [walkR, if_neg h, if_neg h0, if_pos h1]
theorem walkR_go {l : List UInt8} {f a : Nat} {acc : Recs} (h : ¬ l.length < a + 4) (h0 : num4 l a ≠ 0) (h1 : ¬ (3000 < num4 l a ∨ l.length < a + 4 + num4 l a ∨ 200 ≤ acc.length)) :
    walkR l (f + 1) a acc = walkR l f (a + 4 + num4 l a) (acc ++ [(l.drop (a + 4)).take (num4 l a)]) := by
  rw [walkR, if_neg h, if_neg h0, if_neg h1]

theorem be4_num (l : List UInt8) (a : Nat) (h : a + 4 ≤ l.length) : (l.drop a).take 4 = be4 (num4 l a) := by
  have e : ∀ k, k < 4 → ∃ c, l[a + k]? = some c ∧ l.getD (a + k) 0 = c := fun k hk => ⟨l[a + k], by rw [List.getElem?_eq_getElem (by omega)], by simp [List.getD_eq_getElem?_getD, show a + k < l.length by omega]⟩
  obtain ⟨c0, p0, q0⟩ := e 0 (by omega)
  obtain ⟨c1, p1, q1⟩ := e 1 (by omega)
  obtain ⟨c2, p2, q2⟩ := e 2 (by omega)
  obtain ⟨c3, p3, q3⟩ := e 3 (by omega)
  simp only [Nat.add_zero] at p0 q0
  have hl : (l.drop a).take 4 = [c0, c1, c2, c3] := by
    apply List.ext_getElem?
    intro j
    rw [List.getElem?_take]
    by_cases hj : j < 4
    · rw [if_pos hj, List.getElem?_drop]
      match j, hj with
      | 0, _ => simpa using p0
      | 1, _ => simpa using p1
      | 2, _ => simpa using p2
      | 3, _ => simpa using p3
    · rw [if_neg hj, List.getElem?_eq_none (by simp; omega)]
  rw [hl, be4, num4, q0, q1, q2, q3]
  have b0 := c0.toNat_lt
  have b1 := c1.toNat_lt
  have b2 := c2.toNat_lt
  have b3 := c3.toNat_lt
  have f : ∀ (c : UInt8) (n : Nat), n % 256 = c.toNat → UInt8.ofNat n = c := fun c n h => by
    apply UInt8.toNat_inj.1
    rw [UInt8.toNat_ofNat']; exact h
  rw [f c0 _ (by omega), f c1 _ (by omega), f c2 _ (by omega), f c3 _ (by omega)]
theorem num4_be4 (n : Nat) (h : n < 4294967296) (p q : List UInt8) : num4 (p ++ (be4 n ++ q)) p.length = n := by
  have e : ∀ k, k < 4 → (p ++ (be4 n ++ q)).getD (p.length + k) 0 = (be4 n).getD k 0 := fun k hk => by
    rw [List.getD_eq_getElem?_getD, List.getElem?_append_right (by omega), Nat.add_sub_cancel_left, List.getElem?_append_left (by rw [be4_len]; omega), List.getD_eq_getElem?_getD]
  have e0 := e 0 (by omega)
  have e1 := e 1 (by omega)
  have e2 := e 2 (by omega)
  have e3 := e 3 (by omega)
  rw [Nat.add_zero] at e0
  rw [num4, e0, e1, e2, e3]
  simp only [be4, List.getD_cons_zero, List.getD_cons_succ, UInt8.toNat_ofNat']
  omega

/-- what the walk found stands there -/
theorem walkR_is (l : List UInt8) : ∀ f a acc out e, walkR l f a acc = some (out, e) → l.take a = layR acc → a ≤ l.length → recsOk acc = true → acc.length ≤ 200 →
    l.take e = laid out ∧ e ≤ l.length ∧ recsOk out = true ∧ out.length ≤ 200 := by
  intro f
  induction f with
  | zero => intro a acc out e h; cases h
  | succ f ih =>
    intro a acc out e h ht ha hok hn
    by_cases h1 : l.length < a + 4
    · rw [walkR_short h1] at h; cases h
    have hb := be4_num l a (by omega)
    by_cases h0 : num4 l a = 0
    · rw [walkR_end h1 h0] at h
      cases h
      refine ⟨?_, by omega, hok, hn⟩
      rw [List.take_add, hb, h0, ht]; rfl
    · by_cases h2 : 3000 < num4 l a ∨ l.length < a + 4 + num4 l a ∨ 200 ≤ acc.length
      · rw [walkR_bad h1 h0 h2] at h; cases h
      · rw [walkR_go h1 h0 h2] at h
        have hlen : ((l.drop (a + 4)).take (num4 l a)).length = num4 l a := by simp; omega
        refine ih _ _ _ _ h ?_ (by omega) ?_ (by simp; omega)
        · rw [List.take_add, List.take_add, hb, ht, layR_append, layR_one, lay1, hlen, List.append_assoc]
        · simp only [recsOk, List.all_append, Bool.and_eq_true]
          refine ⟨hok, ?_⟩
          simp [recOk, hlen]; omega
/-- and what was laid is found -/
theorem walkR_laid (u : List UInt8) : ∀ (rs acc : Recs) f, recsOk rs = true → acc.length + rs.length ≤ 200 → rs.length < f →
    walkR (layR acc ++ (layR rs ++ be4 0 ++ u)) f (layR acc).length acc = some (acc ++ rs, (layR acc).length + (layR rs).length + 4) := by
  intro rs
  induction rs with
  | nil =>
    intro acc f _ _ hf
    obtain ⟨g, rfl⟩ : ∃ g, f = g + 1 := ⟨f - 1, by simp at hf; omega⟩
    have hn := num4_be4 0 (by omega) (layR acc) u
    rw [show layR [] ++ be4 0 ++ u = be4 0 ++ u from rfl, walkR_end (by simp [be4_len]) hn]
    simp [layR]
  | cons r q ih =>
    intro acc f hok hn hf
    obtain ⟨g, rfl⟩ : ∃ g, f = g + 1 := ⟨f - 1, by simp at hf; omega⟩
    have hok' : recOk r = true ∧ recsOk q = true := by simpa [recsOk] using hok
    have hr := recOk_is hok'.1
    have es : layR (r :: q) ++ be4 0 ++ u = be4 r.length ++ (r ++ (layR q ++ be4 0 ++ u)) := by rw [layR_cons, lay1]; simp [List.append_assoc]
    have hnum := num4_be4 r.length (by omega) (layR acc) (r ++ (layR q ++ be4 0 ++ u))
    have hn' : acc.length + (q.length + 1) ≤ 200 := by simpa using hn
    rw [es, walkR_go (by simp [be4_len]) (by rw [hnum]; omega) (by rw [hnum]; simp [be4_len]; omega), hnum]
    have e1 : ((layR acc ++ (be4 r.length ++ (r ++ (layR q ++ be4 0 ++ u)))).drop ((layR acc).length + 4)).take r.length = r := by
      rw [← List.append_assoc, show (layR acc).length + 4 = (layR acc ++ be4 r.length).length by simp [be4_len], List.drop_left, List.take_left]
    have e2 : layR acc ++ (be4 r.length ++ (r ++ (layR q ++ be4 0 ++ u))) = layR (acc ++ [r]) ++ (layR q ++ be4 0 ++ u) := by
      rw [layR_append, layR_one, lay1]; simp [List.append_assoc]
    have e3 : (layR acc).length + 4 + r.length = (layR (acc ++ [r])).length := by rw [layR_append, layR_one, List.length_append, lay1_len]; omega
    rw [e1, e2, e3, ih (acc ++ [r]) g hok'.2 (by simp; omega) (by simp at hf; omega)]
    have e4 : (layR (r :: q)).length = r.length + 4 + (layR q).length := by rw [layR_cons, List.length_append, lay1_len]
    rw [List.append_assoc, ← e3, e4]
    have e5 : (layR acc).length + 4 + r.length + (layR q).length + 4 = (layR acc).length + (r.length + 4 + (layR q).length) + 4 := by omega
    rw [e5]; rfl

/-- the records of a file, and the code -/
def unb (s : List UInt8) : Recs × Nat :=
  if s.length = 0 ∨ 60000 < s.length ∨ s.length % 1014 ≠ 0 then ([], 1)
  else if padAll s = false then ([], 2)
  else match walkR (streamOf s) ((streamOf s).length + 1) 0 [] with
    | none => ([], 3)
    | some p => if blockOk p.1 = true ∧ blockL p.1 = s then (p.1, 0) else ([], 4)
theorem unb_1 {s : List UInt8} (h : s.length = 0 ∨ 60000 < s.length ∨ s.length % 1014 ≠ 0) : unb s = ([], 1) := if_pos h
theorem unb_2 {s : List UInt8} (h : ¬ (s.length = 0 ∨ 60000 < s.length ∨ s.length % 1014 ≠ 0)) (h2 : padAll s = false) : unb s = ([], 2) := by rw [unb, if_neg h, if_pos h2]
theorem unb_3 {s : List UInt8} (h : ¬ (s.length = 0 ∨ 60000 < s.length ∨ s.length % 1014 ≠ 0)) (h2 : padAll s = true) (h3 : walkR (streamOf s) ((streamOf s).length + 1) 0 [] = none) : unb s = ([], 3) := by
  rw [unb, if_neg h, if_neg (by rw [h2]; decide), h3]
theorem unb_4 {s : List UInt8} {out : Recs} {e : Nat} (h : ¬ (s.length = 0 ∨ 60000 < s.length ∨ s.length % 1014 ≠ 0)) (h2 : padAll s = true) (h3 : walkR (streamOf s) ((streamOf s).length + 1) 0 [] = some (out, e)) (h4 : ¬ (blockOk out = true ∧ blockL out = s)) : unb s = ([], 4) := by
  rw [unb, if_neg h, if_neg (by rw [h2]; decide), h3]; exact if_neg h4
theorem unb_0 {s : List UInt8} {out : Recs} {e : Nat} (h : ¬ (s.length = 0 ∨ 60000 < s.length ∨ s.length % 1014 ≠ 0)) (h2 : padAll s = true) (h3 : walkR (streamOf s) ((streamOf s).length + 1) 0 [] = some (out, e)) (h4 : blockOk out = true ∧ blockL out = s) : unb s = (out, 0) := by
  rw [unb, if_neg h, if_neg (by rw [h2]; decide), h3]; exact if_pos h4
theorem unb_code (s : List UInt8) : (unb s).2 ≤ 4 := by
  unfold unb
  split
  · decide
  · split
    · decide
    · split
      · decide
      · split <;> simp
theorem unb_not {s : List UInt8} (h : (unb s).2 ≠ 0) : (unb s).1 = [] := by
  unfold unb at h ⊢
  split at h
  · rename_i h1; rw [if_pos h1]
  · rename_i h1; rw [if_neg h1]
    split at h
    · rename_i h2; rw [if_pos h2]
    · rename_i h2; rw [if_neg h2]
      split at h
      · rfl
      · rename_i p h3
        split at h
        · exact absurd rfl h
        · rename_i h4; exact congrArg Prod.fst (if_neg h4)
theorem unb_is {s : List UInt8} (h : (unb s).2 = 0) : blockOk (unb s).1 = true ∧ blockL (unb s).1 = s := by
  unfold unb at h ⊢
  split at h
  · cases h
  · rename_i h1; rw [if_neg h1]
    split at h
    · cases h
    · rename_i h2; rw [if_neg h2]
      split at h
      · cases h
      · rename_i p h3
        split at h
        · rename_i h4
          have e : (if blockOk p.1 = true ∧ blockL p.1 = s then (p.1, 0) else (([] : Recs), 4)) = (p.1, 0) := if_pos h4
          show blockOk (if blockOk p.1 = true ∧ blockL p.1 = s then (p.1, 0) else (([] : Recs), 4)).1 = true ∧ blockL (if blockOk p.1 = true ∧ blockL p.1 = s then (p.1, 0) else (([] : Recs), 4)).1 = s
          rw [e]; exact h4
        · cases h
theorem blockL_shape {rs : Recs} (h : blockOk rs = true) : ¬ ((blockL rs).length = 0 ∨ 60000 < (blockL rs).length ∨ (blockL rs).length % 1014 ≠ 0) := by
  obtain ⟨h1, h2, h3⟩ := blockOk_parts h
  have hl := laid_len rs
  have hb := nBlk_le (laid rs).length
  rw [blockL_yes h, fileOf_len]
  omega
theorem unb_block {rs : Recs} (h : blockOk rs = true) : unb (blockL rs) = (rs, 0) := by
  have hs := blockL_shape h
  obtain ⟨h1, h2, h3⟩ := blockOk_parts h
  have hy := blockL_yes h
  obtain ⟨e1, e2⟩ := stream_file (filled (laid rs)) (nBlk (laid rs).length) (filled_len _).symm
  have hw := walkR_laid (List.replicate (nBlk (laid rs).length * 1012 - (laid rs).length) 64) rs [] ((filled (laid rs)).length + 1) h2 (by simpa using h1) (by
    have : rs.length ≤ (layR rs).length := by
      clear hs hy e1 e2 h h1 h2 h3
      induction rs with
      | nil => simp
      | cons r q ih => rw [layR_cons, List.length_append, lay1_len, List.length_cons]; omega
    have := laid_len rs
    have := filled_len (laid rs)
    have := nBlk_le (laid rs).length
    omega)
  have hf : layR [] ++ (layR rs ++ be4 0 ++ List.replicate (nBlk (laid rs).length * 1012 - (laid rs).length) 64) = filled (laid rs) := rfl
  rw [hf] at hw
  refine unb_0 (e := (layR []).length + (layR rs).length + 4) hs (by rw [hy]; exact e2) ?_ ⟨h, rfl⟩
  rw [hy, fileOf, e1]
  exact hw
/-- what the program looks at instead: little enough behind the end, and only filling -/
theorem rest_iff {s : List UInt8} {out : Recs} {e : Nat} (h : ¬ (s.length = 0 ∨ 60000 < s.length ∨ s.length % 1014 ≠ 0)) (h2 : padAll s = true) (h3 : walkR (streamOf s) ((streamOf s).length + 1) 0 [] = some (out, e)) :
    (blockOk out = true ∧ blockL out = s) ↔ ((streamOf s).length - e < 1012 ∧ within 64 64 ((streamOf s).drop e) = true) := by
  obtain ⟨w1, w2, w3, w4⟩ := walkR_is _ _ _ _ _ _ h3 rfl (Nat.zero_le _) rfl (Nat.zero_le _)
  have hsl : (streamOf s).length = s.length / 1014 * 1012 := streamM_len s _ (by omega)
  have hfs := file_of_stream (by omega) h2
  have hel : (laid out).length = e := by rw [← w1, List.length_take]; omega
  have hb1 := nBlk_le (laid out).length
  have hb2 := nBlk_lt (laid out).length
  constructor
  · rintro ⟨g1, g2⟩
    rw [blockL_yes g1] at g2
    have g3 : fileM (filled (laid out)) (nBlk (laid out).length) = fileM (streamOf s) (s.length / 1014) := by rw [hfs]; exact g2
    obtain ⟨hm, ht⟩ := fileM_inj (filled_len _).symm hsl.symm g3
    refine ⟨by omega, ?_⟩
    rw [← ht, filled, ← hel, List.drop_left]
    apply within_of
    intro c hc
    obtain rfl := (List.mem_replicate.1 hc).2
    decide
  · rintro ⟨g1, g2⟩
    have hm : nBlk (laid out).length = s.length / 1014 := by omega
    have hok : blockOk out = true := blockOk_of w4 w3 (by omega)
    refine ⟨hok, ?_⟩
    rw [blockL_yes hok, fileOf, hm]
    have ht : filled (laid out) = streamOf s := by
      rw [filled, hm, ← w1]
      conv => rhs; rw [← List.take_append_drop e (streamOf s)]
      congr 1
      apply List.ext_getElem
      · rw [List.length_replicate, List.length_take, List.length_drop]; omega
      · intro i p q
        rw [List.getElem_replicate]
        have := within_mem g2 _ (List.getElem_mem q)
        apply UInt8.toNat_inj.1
        show 64 = _
        omega
    rw [ht]; exact hfs

end Go.Proofs.Ytggaadbcifbdeaa
