/- Tags, plainly: how a list of them is written, how it is read again. No Go in sight. -/
import Derived.Test.YtijlbceejpjfiaaDoorTagO
import Derived.Test.YtijlbceejpjfiaaDoorPadP
import Derived.Test.YtijlbceejpjfiaaDoorFVar
namespace Go.Proofs.YtijlbceejpjfiaaDoor

/-- a tag's text, and a list's -/
def putT (f : Fld) : List UInt8 := padT f.1 4 ++ padT f.2.length 3 ++ f.2
def putTs (fs : List Fld) : List UInt8 := fs.flatMap putT
theorem putTs_append (a b : List Fld) : putTs (a ++ b) = putTs a ++ putTs b := by simp [putTs]
theorem putTs_cons (f : Fld) (b : List Fld) : putTs (f :: b) = putT f ++ putTs b := by simp [putTs]
theorem putTs_take (fs : List Fld) (k : Nat) (h : k < fs.length) : putTs (fs.take (k + 1)) = putTs (fs.take k) ++ putT (at0 fs k) := by
  have e : at0 fs k = fs[k] := by simp [at0, List.getD_eq_getElem?_getD, h]
  rw [List.take_succ_eq_append_getElem h, putTs_append, e]; simp [putTs]
def putOk (fs : List Fld) : Bool := tagsOk fs && decide ((putTs fs).length ≤ 999)
def putL (fs : List Fld) : List UInt8 := if putOk fs = true then putTs fs else []
theorem putOk_no {fs : List Fld} (h : tagsOk fs = false) : putOk fs = false := by unfold putOk; rw [h, Bool.false_and]
theorem putOk_big {fs : List Fld} (h : ¬ (putTs fs).length ≤ 999) : putOk fs = false := by unfold putOk; rw [decide_eq_false h, Bool.and_false]
theorem putOk_yes {fs : List Fld} (h : tagsOk fs = true) (g : (putTs fs).length ≤ 999) : putOk fs = true := by unfold putOk; rw [h, decide_eq_true g]; rfl
theorem putOk_parts {fs : List Fld} (h : putOk fs = true) : tagsOk fs = true ∧ (putTs fs).length ≤ 999 := by simpa [putOk] using h
theorem putL_no {fs : List Fld} (h : putOk fs = false) : putL fs = [] := if_neg (by rw [h]; decide)
theorem putL_yes {fs : List Fld} (h : putOk fs = true) : putL fs = putTs fs := if_pos h
theorem padT_le (x n : Int) : (padT x n).length ≤ 18 := by
  rcases padT_cases x n with h | ⟨a, m, _, _, h1, h2, h3, h⟩
  · rw [h]; simp
  · rw [h, padN_len h1 h3]; omega
theorem putT_le (f : Fld) : (putT f).length ≤ 36 + f.2.length := by
  have h1 := padT_le f.1 4
  have h2 := padT_le f.2.length 3
  unfold putT; simp only [List.length_append]; omega
theorem putTs_le {fs : List Fld} (h : ∀ f ∈ fs, f.2.length ≤ 200) : (putTs fs).length ≤ 236 * fs.length := by
  induction fs with
  | nil => simp [putTs]
  | cons f r ih =>
    have h1 := putT_le f
    have h2 := h f (by simp)
    have h3 := ih (fun g hg => h g (by simp [hg]))
    rw [putTs_cons, List.length_append, List.length_cons]; omega
theorem putTs_mono (fs : List Fld) (k : Nat) : (putTs (fs.take k)).length ≤ (putTs fs).length := by
  have : putTs fs = putTs (fs.take k) ++ putTs (fs.drop k) := by rw [← putTs_append, List.take_append_drop]
  rw [this, List.length_append]; omega

/-- the tag that stands at place a, and the place behind it: as the program reads it -/
def tagI (l : List UInt8) (a : Nat) : Fld := if hasB l.length a 4 = true then (numOf ((l.drop a).take 4), varL l (a + 4) 3) else (0, [])
def endI (l : List UInt8) (a : Nat) : Int := if hasB l.length a 4 = true then varI l (a + 4) 3 else -1
def rdI (l : List UInt8) : Nat → Nat → List Fld → Option (List Fld)
  | 0, _, _ => none
  | f + 1, a, acc => if a < l.length then (if endI l a < 0 then none else rdI l f (endI l a).toNat (acc ++ [tagI l a])) else some acc
/-- as the specification reads it -/
def seenS (l : List UInt8) (a : Nat) : Bool := decide (a + 7 ≤ l.length) && (within 48 57 ((l.drop a).take 7) && decide (numOf ((l.drop (a + 4)).take 3) ≤ (l.length : Int) - a - 7))
def lenS (l : List UInt8) (a : Nat) : Nat := (numOf ((l.drop (a + 4)).take 3)).toNat
def tagS (l : List UInt8) (a : Nat) : Fld := (numOf ((l.drop a).take 4), (l.drop (a + 7)).take (lenS l a))
def rdS (l : List UInt8) : Nat → Nat → List Fld → Option (List Fld)
  | 0, _, _ => none
  | f + 1, a, acc => if a < l.length then (if seenS l a = false then none else rdS l f (a + 7 + lenS l a) (acc ++ [tagS l a])) else some acc
theorem rdI_end {l : List UInt8} {f a : Nat} {acc : List Fld} (h : ¬ a < l.length) (hf : 0 < f) : rdI l f a acc = some acc := by
  obtain ⟨f, rfl⟩ : ∃ g, f = g + 1 := ⟨f - 1, by omega⟩
  show (if a < l.length then _ else _) = _
  rw [if_neg h]
theorem rdI_no {l : List UInt8} {f a : Nat} {acc : List Fld} (h : a < l.length) (he : endI l a < 0) : rdI l f a acc = none := by
  cases f with
  | zero => rfl
  | succ f => show (if a < l.length then _ else _) = _; rw [if_pos h, if_pos he]
theorem rdI_go {l : List UInt8} {f a : Nat} {acc : List Fld} (h : a < l.length) (he : ¬ endI l a < 0) : rdI l (f + 1) a acc = rdI l f (endI l a).toNat (acc ++ [tagI l a]) := by
  show (if a < l.length then _ else _) = _; rw [if_pos h, if_neg he]
theorem rdS_end {l : List UInt8} {f a : Nat} {acc : List Fld} (h : ¬ a < l.length) (hf : 0 < f) : rdS l f a acc = some acc := by
  obtain ⟨f, rfl⟩ : ∃ g, f = g + 1 := ⟨f - 1, by omega⟩
  show (if a < l.length then _ else _) = _
  rw [if_neg h]
theorem rdS_no {l : List UInt8} {f a : Nat} {acc : List Fld} (h : a < l.length) (he : seenS l a = false) : rdS l f a acc = none := by
  cases f with
  | zero => rfl
  | succ f => show (if a < l.length then _ else _) = _; rw [if_pos h, if_pos he]
theorem rdS_go {l : List UInt8} {f a : Nat} {acc : List Fld} (h : a < l.length) (he : seenS l a = true) : rdS l (f + 1) a acc = rdS l f (a + 7 + lenS l a) (acc ++ [tagS l a]) := by
  show (if a < l.length then _ else _) = _; rw [if_pos h, if_neg (by rw [he]; decide)]

/-- only what would be put just so again is taken -/
def onlyT (l : List UInt8) (o : Option (List Fld)) : Option (List Fld) := o.filter fun fs => putOk fs && decide (putTs fs = l)
def gotT (l : List UInt8) : Option (List Fld) := onlyT l (rdI l (l.length + 1) 0 [])

theorem pad_it {m wd : Nat} (h1 : 1 ≤ wd) (h2 : wd ≤ 18) (h3 : m < 10 ^ wd) : (padT m wd).length = wd ∧ numOf (padT m wd) = (m : Int) ∧ within 48 57 (padT m wd) = true := by
  rw [padT_yes h1 h2 h3]
  exact ⟨padN_len h1 h3, padN_num h1 h2 h3, padN_dig _ _⟩

theorem put_parts {f : Fld} (h : tagOne f.1 f.2 = true) : ∃ p q : List UInt8, putT f = p ++ q ++ f.2 ∧ p.length = 4 ∧ q.length = 3 ∧ numOf p = f.1 ∧ numOf q = (f.2.length : Int) ∧ within 48 57 p = true ∧ within 48 57 q = true := by
  obtain ⟨h1, h2, _⟩ := tagOne_parts h
  obtain ⟨n, d⟩ := f
  obtain ⟨m, rfl⟩ := Int.eq_ofNat_of_zero_le (show 0 ≤ n by simp only at h1; omega)
  simp only at h1 h2
  obtain ⟨a1, a2, a3⟩ := pad_it (m := m) (wd := 4) (by omega) (by omega) (by omega)
  obtain ⟨b1, b2, b3⟩ := pad_it (m := d.length) (wd := 3) (by omega) (by omega) (by omega)
  exact ⟨padT (m : Int) 4, padT (d.length : Int) 3, rfl, a1, b1, a2, b2, a3, b3⟩

theorem at_I (pre post : List UInt8) {f : Fld} (h : tagOne f.1 f.2 = true) : tagI (pre ++ putT f ++ post) pre.length = f ∧ endI (pre ++ putT f ++ post) pre.length = ((pre ++ putT f).length : Int) := by
  obtain ⟨p, q, e, hp, hq, np, nq, wp, wq⟩ := put_parts h
  rw [e]
  have hb : hasB (pre ++ (p ++ q ++ f.2) ++ post).length (pre.length : Nat) 4 = true := hasB_pos (by omega) (by simp; omega) (by simp; omega)
  have e1 : ((pre ++ (p ++ q ++ f.2) ++ post).drop pre.length).take 4 = p := by rw [← hp]; simp
  have e2 : ((pre ++ (p ++ q ++ f.2) ++ post).drop (pre.length + 4)).take 3 = q := by
    rw [← hp, ← hq, show pre ++ (p ++ q ++ f.2) ++ post = (pre ++ p) ++ (q ++ (f.2 ++ post)) by simp, ← List.length_append, List.drop_left, List.take_left]
  have e3 : ((pre ++ (p ++ q ++ f.2) ++ post).drop (pre.length + 4 + 3)).take f.2.length = f.2 := by
    rw [← hp, ← hq, show pre ++ (p ++ q ++ f.2) ++ post = (pre ++ p ++ q) ++ (f.2 ++ post) by simp, ← List.length_append, ← List.length_append, List.drop_left, List.take_left]
  have hv : vNum (pre ++ (p ++ q ++ f.2) ++ post) ((pre.length : Nat) + 4 : Int) 3 = (f.2.length : Int) := by
    unfold vNum
    rw [show ((pre.length : Nat) + 4 : Int).toNat = pre.length + 4 by omega, show (3 : Int).toNat = 3 from rfl, e2, nq]
  have hok : varOk (pre ++ (p ++ q ++ f.2) ++ post) ((pre.length : Nat) + 4 : Int) 3 = true := varOk_yes rfl (by rw [hv]; simp; omega)
  have hy := var_yes hok
  rw [hv] at hy
  refine ⟨?_, ?_⟩
  · unfold tagI
    rw [if_pos hb, e1, np, hy.1, show ((pre.length : Nat) + 4 + 3 : Int).toNat = pre.length + 4 + 3 by omega, Int.toNat_natCast, e3]
  · unfold endI
    rw [if_pos hb, hy.2]; simp; omega

theorem at_S (pre post : List UInt8) {f : Fld} (h : tagOne f.1 f.2 = true) : tagS (pre ++ putT f ++ post) pre.length = f ∧ pre.length + 7 + lenS (pre ++ putT f ++ post) pre.length = (pre ++ putT f).length ∧ seenS (pre ++ putT f ++ post) pre.length = true := by
  obtain ⟨p, q, e, hp, hq, np, nq, wp, wq⟩ := put_parts h
  rw [e]
  have e1 : ((pre ++ (p ++ q ++ f.2) ++ post).drop pre.length).take 4 = p := by rw [← hp]; simp
  have e2 : ((pre ++ (p ++ q ++ f.2) ++ post).drop (pre.length + 4)).take 3 = q := by
    rw [← hp, ← hq, show pre ++ (p ++ q ++ f.2) ++ post = (pre ++ p) ++ (q ++ (f.2 ++ post)) by simp, ← List.length_append, List.drop_left, List.take_left]
  have e3 : ((pre ++ (p ++ q ++ f.2) ++ post).drop (pre.length + 7)).take f.2.length = f.2 := by
    rw [show pre.length + 7 = (pre ++ p ++ q).length by simp; omega, show pre ++ (p ++ q ++ f.2) ++ post = (pre ++ p ++ q) ++ (f.2 ++ post) by simp, List.drop_left, List.take_left]
  have e4 : ((pre ++ (p ++ q ++ f.2) ++ post).drop pre.length).take 7 = p ++ q := by
    rw [show 7 = (p ++ q).length by simp; omega, show pre ++ (p ++ q ++ f.2) ++ post = pre ++ ((p ++ q) ++ (f.2 ++ post)) by simp, List.drop_left, List.take_left]
  have hl : lenS (pre ++ (p ++ q ++ f.2) ++ post) pre.length = f.2.length := by unfold lenS; rw [e2, nq, Int.toNat_natCast]
  refine ⟨?_, ?_, ?_⟩
  · unfold tagS; rw [hl, e1, np, e3]
  · rw [hl]; simp; omega
  · unfold seenS
    have hw : within 48 57 (p ++ q) = true := within_of fun c hc => by
      rcases List.mem_append.1 hc with hc | hc
      · exact within_mem wp c hc
      · exact within_mem wq c hc
    rw [e4, e2, nq, hw, decide_eq_true (by simp; omega), decide_eq_true (by simp; omega)]; rfl

theorem putT_pos {f : Fld} (h : tagOne f.1 f.2 = true) : 7 ≤ (putT f).length := by
  obtain ⟨p, q, e, hp, hq, _⟩ := put_parts h
  rw [e]; simp; omega

theorem rdI_back (fs : List Fld) : ∀ (pre : List UInt8) (acc : List Fld) (n : Nat), (∀ f ∈ fs, tagOne f.1 f.2 = true) → (putTs fs).length < n → rdI (pre ++ putTs fs) n pre.length acc = some (acc ++ fs) := by
  induction fs with
  | nil => intro pre acc n _ hn; rw [rdI_end (by simp [putTs]) (by omega)]; simp
  | cons f r ih =>
    intro pre acc n hok hn
    have hf := hok f (by simp)
    have h7 := putT_pos hf
    obtain ⟨a1, a2⟩ := at_I pre (putTs r) hf
    have e : pre ++ putTs (f :: r) = pre ++ putT f ++ putTs r := by rw [putTs_cons]; simp
    rw [putTs_cons, List.length_append] at hn
    obtain ⟨n, rfl⟩ : ∃ m, n = m + 1 := ⟨n - 1, by omega⟩
    rw [e, rdI_go (by simp; omega) (by rw [a2]; omega), a1, a2, Int.toNat_natCast, ih (pre ++ putT f) (acc ++ [f]) n (fun g hg => hok g (by simp [hg])) (by omega)]
    simp
theorem rdS_back (fs : List Fld) : ∀ (pre : List UInt8) (acc : List Fld) (n : Nat), (∀ f ∈ fs, tagOne f.1 f.2 = true) → (putTs fs).length < n → rdS (pre ++ putTs fs) n pre.length acc = some (acc ++ fs) := by
  induction fs with
  | nil => intro pre acc n _ hn; rw [rdS_end (by simp [putTs]) (by omega)]; simp
  | cons f r ih =>
    intro pre acc n hok hn
    have hf := hok f (by simp)
    have h7 := putT_pos hf
    obtain ⟨a1, a2, a3⟩ := at_S pre (putTs r) hf
    have e : pre ++ putTs (f :: r) = pre ++ putT f ++ putTs r := by rw [putTs_cons]; simp
    rw [putTs_cons, List.length_append] at hn
    obtain ⟨n, rfl⟩ : ∃ m, n = m + 1 := ⟨n - 1, by omega⟩
    rw [e, rdS_go (by simp; omega) a3, a1, a2, ih (pre ++ putT f) (acc ++ [f]) n (fun g hg => hok g (by simp [hg])) (by omega)]
    simp

theorem only_is {l : List UInt8} {o : Option (List Fld)} {fs : List Fld} (h : onlyT l o = some fs) : o = some fs ∧ putOk fs = true ∧ putTs fs = l := by
  unfold onlyT at h
  rw [Option.filter_eq_some_iff] at h
  simpa using h
theorem only_of {l : List UInt8} {fs : List Fld} (h1 : putOk fs = true) (h2 : putTs fs = l) : onlyT l (some fs) = some fs := by
  unfold onlyT
  rw [Option.filter_eq_some_iff]
  simp [h1, h2]
theorem only_no {l : List UInt8} {fs : List Fld} (h : ¬ (putOk fs = true ∧ putTs fs = l)) : onlyT l (some fs) = none := by
  cases e : onlyT l (some fs)
  · rfl
  · rename_i gs
    obtain ⟨e1, e2, e3⟩ := only_is e
    obtain rfl : fs = gs := Option.some.inj e1
    exact absurd ⟨e2, e3⟩ h
theorem put_all {fs : List Fld} (h : putOk fs = true) : ∀ f ∈ fs, tagOne f.1 f.2 = true := fun f hf => (okT_mem (tagsOk_parts (putOk_parts h).1).2 f hf).1
/-- tags come back from their text -/
theorem got_put {fs : List Fld} (h : putOk fs = true) : gotT (putTs fs) = some fs := by
  have := rdI_back fs [] [] ((putTs fs).length + 1) (put_all h) (by omega)
  unfold gotT
  rw [show rdI (putTs fs) ((putTs fs).length + 1) 0 [] = some fs from this]
  exact only_of h rfl
theorem got_is {l : List UInt8} {fs : List Fld} (h : gotT l = some fs) : putOk fs = true ∧ putTs fs = l := (only_is h).2
/-- both ways of reading take the same -/
theorem got_S (l : List UInt8) : gotT l = onlyT l (rdS l (l.length + 1) 0 []) := by
  cases e : gotT l
  · cases e2 : onlyT l (rdS l (l.length + 1) 0 [])
    · rfl
    · rename_i fs
      obtain ⟨_, h1, h2⟩ := only_is e2
      have := got_put h1
      rw [h2, e] at this
      cases this
  · rename_i fs
    obtain ⟨h1, h2⟩ := got_is e
    have := rdS_back fs [] [] ((putTs fs).length + 1) (put_all h1) (by omega)
    rw [← h2, show rdS (putTs fs) ((putTs fs).length + 1) 0 [] = some fs from this, only_of h1 rfl]
theorem got_big {l : List UInt8} (h : 999 < l.length) : gotT l = none := by
  cases e : gotT l
  · rfl
  · rename_i fs
    obtain ⟨h1, h2⟩ := got_is e
    have := (putOk_parts h1).2
    rw [h2] at this; omega

end Go.Proofs.YtijlbceejpjfiaaDoor
