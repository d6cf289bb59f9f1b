/- Plain lists of bytes: a date's text, and how a date comes back from it. No Go in sight. -/
import Derived.Test.YtddffpihacolkaaDoorCal
import Derived.Test.YtddffpihacolkaaDoorYDec
import Derived.Lib.Strings
import Derived.Lib.Replace
import Derived.Lib.ParseIntB
import Derived.Lib.ParseIntBTie
import Derived.Lib.IndexBytes
import Derived.Lib.SplitLaws
namespace Go.Proofs.YtddffpihacolkaaDoor.Dt

theorem ba_extract (l : List UInt8) (a b : Nat) : (⟨l.toArray⟩ : ByteArray).extract a b = ⟨((l.drop a).take (b - a)).toArray⟩ := by
  have h := Lib.extract_data ⟨l.toArray⟩ a b
  rw [ba_list (ByteArray.extract ⟨l.toArray⟩ a b), h]
theorem ba_size (l : List UInt8) : (⟨l.toArray⟩ : ByteArray).size = l.length := by simp [ByteArray.size]

def isDig (c : UInt8) : Prop := 48 ≤ c.toNat ∧ c.toNat ≤ 57
/-- the number that digits spell, from a on -/
def val (a : Nat) (l : List UInt8) : Nat := l.foldl (fun a c => a * 10 + (c.toNat - 48)) a
theorem val_cons (a : Nat) (c : UInt8) (l : List UInt8) : val a (c :: l) = val (a * 10 + (c.toNat - 48)) l := by simp only [val, List.foldl_cons]
theorem val_append (a : Nat) (l r : List UInt8) : val a (l ++ r) = val (val a l) r := by simp [val]
theorem val_le (l : List UInt8) : ∀ a, a ≤ val a l := by
  induction l with
  | nil => intro a; exact Nat.le_refl _
  | cons c l ih => intro a; rw [val_cons]; have := ih (a * 10 + (c.toNat - 48)); omega
theorem val_zeros (k : Nat) (l : List UInt8) : val 0 (List.replicate k 48 ++ l) = val 0 l := by
  induction k with
  | zero => rfl
  | succ k ih => rw [List.replicate_succ, List.cons_append, val_cons]; exact ih

theorem ofNat_dig (d : Nat) (h : d < 10) : (UInt8.ofNat (48 + d)).toNat = 48 + d := by
  rw [UInt8.toNat_ofNat']; omega
theorem dec_props (n : Nat) : (∀ c ∈ Lib.decDigits n, isDig c) ∧ val 0 (Lib.decDigits n) = n := by
  induction n using Nat.strongRecOn with
  | _ n ih =>
    rw [Lib.decDigits]
    by_cases h : n < 10
    · rw [dif_pos h]
      refine ⟨fun c hc => ?_, ?_⟩
      · obtain rfl : c = UInt8.ofNat (48 + n) := by simpa using hc
        unfold isDig; rw [ofNat_dig n h]; omega
      · simp only [val, List.foldl_cons, List.foldl_nil]
        rw [ofNat_dig n h]; omega
    · rw [dif_neg h]
      obtain ⟨i1, i2⟩ := ih (n / 10) (by omega)
      refine ⟨fun c hc => ?_, ?_⟩
      · rcases List.mem_append.1 hc with hc | hc
        · exact i1 c hc
        · obtain rfl : c = UInt8.ofNat (48 + n % 10) := by simpa using hc
          unfold isDig; rw [ofNat_dig _ (by omega)]; omega
      · rw [val_append, i2]
        simp only [val, List.foldl_cons, List.foldl_nil]
        rw [ofNat_dig _ (by omega)]; omega
theorem dec_len_pow (k n : Nat) (hk : 1 ≤ k) (h : n < 10 ^ k) : (Lib.decDigits n).length ≤ k := by
  induction k generalizing n with
  | zero => omega
  | succ k ih =>
    rw [Lib.decDigits]
    by_cases h1 : n < 10
    · rw [dif_pos h1]; simp
    · rw [dif_neg h1]
      have hk1 : 1 ≤ k := by
        rcases Nat.eq_zero_or_pos k with rfl | hp
        · simp at h; omega
        · exact hp
      have := ih (n / 10) hk1 (by rw [Nat.pow_succ] at h; omega)
      simp; omega

theorem parseM_digits (M : Nat) (hM : M ≤ 1844674407370955161) (l : List UInt8) : ∀ a, (∀ c ∈ l, isDig c) → val a l ≤ M → Lib.parseUintM M a l = .ok (val a l) := by
  induction l with
  | nil => intro a _ _; rfl
  | cons c l ih =>
    intro a hd hv
    have hc : isDig c := hd c (by simp)
    have h1 := val_le l (a * 10 + (c.toNat - 48))
    rw [val_cons] at hv ⊢
    unfold Lib.parseUintM
    unfold isDig at hc
    rw [if_pos hc, if_neg (by omega), if_neg (by omega)]
    exact ih _ (fun x hx => hd x (by simp [hx])) hv
theorem parseM_mono (M M' : Nat) (hM : M ≤ M') (l : List UInt8) : ∀ a u, Lib.parseUintM M a l = .ok u → Lib.parseUintM M' a l = .ok u := by
  induction l with
  | nil => intro a u h; exact h
  | cons c l ih =>
    intro a u h
    unfold Lib.parseUintM at h ⊢
    split at h
    · rename_i h1
      rw [if_pos h1]
      split at h
      · cases h
      · rename_i h2
        rw [if_neg h2]
        split at h
        · cases h
        · rename_i h3
          rw [if_neg (by omega)]
          exact ih _ _ h
    · cases h
theorem parseU_digits (p : List UInt8) (hne : p ≠ []) (hd : ∀ c ∈ p, isDig c) (hv : val 0 p ≤ 1000000000000) : Lib.parseUintB 64 p = .ok (val 0 p) := by
  unfold Lib.parseUintB
  rw [if_neg hne]
  exact parseM_mono 1844674407370955161 _ (by decide) p 0 _ (parseM_digits _ (Nat.le_refl _) p 0 hd (by omega))
theorem parse_plus (p : List UInt8) (hne : p ≠ []) (hd : ∀ c ∈ p, isDig c) (hv : val 0 p ≤ 1000000000000) : Lib.parseIntB 64 p = .ok (val 0 p : Int) := by
  have hp := parseU_digits p hne hd hv
  cases p with
  | nil => exact absurd rfl hne
  | cons c r =>
    have hc : isDig c := hd c (by simp)
    unfold isDig at hc
    unfold Lib.parseIntB
    simp only
    rw [if_neg (by omega), hp]
    simp only
    rw [if_neg (by have : (2 : Nat) ^ (64 - 1) = 9223372036854775808 := by decide
                   omega), if_neg (by omega), if_neg (by omega)]

/-- a number below 100, two digits -/
def two (n : Nat) : List UInt8 := [UInt8.ofNat (48 + n / 10), UInt8.ofNat (48 + n % 10)]
/-- a date's text -/
def xtxt (x : Nat) : List UInt8 := Lib.decDigits (x / 10000) ++ (45 :: two (x / 100 % 100)) ++ (45 :: two (x % 100))
def dtxt (d : Int) : List UInt8 := if dOk d = true then xtxt (dateV d).toNat else []
theorem dtxt_no {d : Int} (h : dOk d = false) : dtxt d = [] := by unfold dtxt; rw [if_neg (by rw [h]; decide)]
theorem dtxt_yes {d : Int} (h : dOk d = true) : dtxt d = xtxt (dateV d).toNat := if_pos h

theorem dec_step (n : Nat) (h : 10 ≤ n) : Lib.decDigits n = Lib.decDigits (n / 10) ++ [UInt8.ofNat (48 + n % 10)] := by
  rw [Lib.decDigits, dif_neg (by omega)]
theorem dec_one (n : Nat) (h : n < 10) : Lib.decDigits n = [UInt8.ofNat (48 + n)] := by rw [Lib.decDigits, dif_pos h]
theorem dec_four (y : Nat) (h1 : 1000 ≤ y) (h2 : y < 10000) : (Lib.decDigits y).length = 4 := by
  rw [dec_step y (by omega), dec_step (y / 10) (by omega), dec_step (y / 10 / 10) (by omega), dec_one (y / 10 / 10 / 10) (by omega)]
  rfl
theorem dec_eight (x : Nat) (h1 : 10000000 ≤ x) : Lib.decDigits x = Lib.decDigits (x / 10000) ++ two (x / 100 % 100) ++ two (x % 100) := by
  rw [dec_step x (by omega), dec_step (x / 10) (by omega), dec_step (x / 10 / 10) (by omega), dec_step (x / 10 / 10 / 10) (by omega)]
  rw [show x / 10 / 10 / 10 / 10 = x / 10000 from by omega]
  unfold two
  rw [show x / 100 % 100 / 10 = x / 10 / 10 / 10 % 10 from by omega, show x / 100 % 100 % 10 = x / 10 / 10 % 10 from by omega, show x % 100 / 10 = x / 10 % 10 from by omega, show x % 100 % 10 = x % 10 from by omega]
  simp
theorem two_dig (n : Nat) (h : n < 100) : ∀ c ∈ two n, isDig c := by
  intro c hc
  unfold two at hc
  rcases List.mem_cons.1 hc with rfl | hc
  · unfold isDig; rw [ofNat_dig _ (by omega)]; omega
  · obtain rfl : c = UInt8.ofNat (48 + n % 10) := by simpa using hc
    unfold isDig; rw [ofNat_dig _ (by omega)]; omega
theorem dig_ne_dash {c : UInt8} (h : isDig c) : c ≠ 45 := fun e => by subst e; exact absurd h (by unfold isDig; decide)

/-! ### all dashes struck -/
theorem index_dash (a b : List UInt8) (h : ∀ c ∈ a, c ≠ 45) : Lib.index (a ++ 45 :: b) [45] = a.length := by
  induction a with
  | nil => simp [Lib.index, List.isPrefixOf]
  | cons x a ih =>
    have hx : x ≠ 45 := h x (by simp)
    have := ih (fun c hc => h c (by simp [hc]))
    have hp : ((45 : UInt8) == x) = false := by simp; exact fun e => hx e.symm
    simp only [List.cons_append, Lib.index, List.isPrefixOf, hp, Bool.false_and, this]
    rw [if_neg (by simp), if_neg (by simp)]
    simp
theorem strike (a b c : List UInt8) (ha : ∀ x ∈ a, x ≠ 45) (hb : ∀ x ∈ b, x ≠ 45) (hc : ∀ x ∈ c, x ≠ 45) : Lib.replaceAll (a ++ (45 :: b) ++ (45 :: c)) [45] [] = a ++ b ++ c := by
  have e : a ++ (45 :: b) ++ (45 :: c) = a ++ 45 :: (b ++ 45 :: c) := by simp
  have hn : Lib.replaceNum (a ++ 45 :: (b ++ 45 :: c)) [45] (-1) = 2 := by
    unfold Lib.replaceNum
    rw [if_pos (.inl (by omega)), Lib.count_one]
    have c1 : a.count 45 = 0 := List.count_eq_zero.2 (fun hm => ha 45 hm rfl)
    have c2 : b.count 45 = 0 := List.count_eq_zero.2 (fun hm => hb 45 hm rfl)
    have c3 : c.count 45 = 0 := List.count_eq_zero.2 (fun hm => hc 45 hm rfl)
    simp [List.count_append, c1, c2, c3]
  unfold Lib.replaceAll Lib.replace
  rw [e, if_neg (by decide), hn, Lib.replaceK_hit _ _ _ _ _ (index_dash a _ ha)]
  have d1 : (a ++ 45 :: (b ++ 45 :: c)).drop (a.length + [(45 : UInt8)].length) = b ++ 45 :: c := by simp
  rw [d1, Lib.replaceK_hit _ _ _ _ _ (index_dash b _ hb)]
  simp [Lib.replaceK]
theorem replaceK_len (old : List UInt8) (k : Nat) : ∀ s : List UInt8, (Lib.replaceK old [] k s).length ≤ s.length := by
  induction k with
  | zero => intro s; exact Nat.le_refl _
  | succ k ih =>
    intro s
    rw [Lib.replaceK]
    split
    · exact Nat.le_refl _
    · have := ih (s.drop ((Lib.index s old).toNat + old.length))
      simp only [List.length_append, List.length_take, List.length_nil, List.length_drop] at this ⊢
      omega
theorem replaceAll_len (s : List UInt8) : (Lib.replaceAll s [45] []).length ≤ s.length := by
  unfold Lib.replaceAll Lib.replace
  rw [if_neg (by decide)]
  exact replaceK_len _ _ _

/-! ### the specification's way: its digits one by one -/
def scanD (x : Nat) (l : List UInt8) : Nat := l.foldl (fun x c => if 48 ≤ c.toNat ∧ c.toNat ≤ 57 then 10 * x + (c.toNat - 48) else x) x
theorem scanD_digits (l : List UInt8) : ∀ x, (∀ c ∈ l, isDig c) → scanD x l = val x l := by
  induction l with
  | nil => intro x _; rfl
  | cons c l ih =>
    intro x h
    have hc : isDig c := h c (by simp)
    unfold isDig at hc
    have := ih (x * 10 + (c.toNat - 48)) (fun y hy => h y (by simp [hy]))
    rw [val_cons, ← this]
    simp only [scanD, List.foldl_cons]
    rw [if_pos hc, Nat.mul_comm]
theorem scanD_append (x : Nat) (l r : List UInt8) : scanD x (l ++ r) = scanD (scanD x l) r := by simp [scanD]
theorem scanD_dash (x : Nat) (r : List UInt8) : scanD x (45 :: r) = scanD x r := by
  simp only [scanD, List.foldl_cons]
  rw [if_neg (by decide)]

/-- what a date's text is -/
theorem xtxt_props (x : Nat) (h1 : 10000000 ≤ x) (h2 : x < 100000000) : (xtxt x).length = 10 ∧ scanD 0 (xtxt x) = x ∧ Lib.atoiAll (Lib.replaceAll (xtxt x) [45] []) = .ok (x : Int) := by
  have e8 := dec_eight x h1
  have hy := dec_props (x / 10000)
  have hx := dec_props x
  have t1 := two_dig (x / 100 % 100) (by omega)
  have t2 := two_dig (x % 100) (by omega)
  refine ⟨?_, ?_, ?_⟩
  · unfold xtxt
    simp only [List.length_append, List.length_cons, dec_four (x / 10000) (by omega) (by omega), two, List.length_nil]
  · unfold xtxt
    rw [scanD_append, scanD_append, scanD_dash, scanD_dash, scanD_digits _ _ hy.1, scanD_digits _ _ t1, scanD_digits _ _ t2, ← val_append, ← val_append, ← List.append_assoc, ← e8, hx.2]
  · unfold xtxt
    rw [strike _ _ _ (fun c hc => dig_ne_dash (hy.1 c hc)) (fun c hc => dig_ne_dash (t1 c hc)) (fun c hc => dig_ne_dash (t2 c hc)), ← e8, ← Lib.parseIntB_64]
    have hne : Lib.decDigits x ≠ [] := by rw [dec_step x (by omega)]; simp
    rw [parse_plus _ hne hx.1 (by rw [hx.2]; omega), hx.2]
theorem dtxt_props {d : Int} (h : dOk d = true) : (dtxt d).length = 10 ∧ (scanD 0 (dtxt d) : Int) = dateV d ∧ Lib.atoiAll (Lib.replaceAll (dtxt d) [45] []) = .ok (dateV d) := by
  have hb := date_bd h
  obtain ⟨p1, p2, p3⟩ := xtxt_props (dateV d).toNat (by omega) (by omega)
  rw [dtxt_yes h]
  refine ⟨p1, by rw [p2]; omega, ?_⟩
  rw [p3]; congr 1; omega

/-! ### reading -/
def ofDate (l : List UInt8) (v : Int) : Option Int :=
  match dayV v with
  | some d => if dtxt d = l then some d else none
  | none => none
def specR (l : List UInt8) : Option Int := if l.length = 10 then ofDate l (scanD 0 l) else none
def implR (l : List UInt8) : Option Int :=
  match Lib.atoiAll (Lib.replaceAll l [45] []) with
  | .ok v => ofDate l v
  | _ => none
theorem ofDate_some {l : List UInt8} {v d : Int} (h : ofDate l v = some d) : dOk d = true ∧ dtxt d = l := by
  unfold ofDate at h
  cases hd : dayV v with
  | none => rw [hd] at h; cases h
  | some e =>
    rw [hd] at h
    simp only at h
    split at h
    · rename_i he
      obtain rfl : e = d := by simpa using h
      exact ⟨(isDate_dayV hd).2, he⟩
    · cases h
theorem ofDate_text {l : List UInt8} {d : Int} (hd : dOk d = true) (h : dtxt d = l) : ofDate l (dateV d) = some d := by
  unfold ofDate; rw [dayV_dateV hd]; simp [h]
theorem specR_text {l : List UInt8} {d : Int} (hd : dOk d = true) (h : dtxt d = l) : specR l = some d := by
  obtain ⟨p1, p2, _⟩ := dtxt_props hd
  rw [h] at p1 p2
  unfold specR; rw [if_pos p1, p2]; exact ofDate_text hd h
theorem implR_text {l : List UInt8} {d : Int} (hd : dOk d = true) (h : dtxt d = l) : implR l = some d := by
  obtain ⟨_, _, p3⟩ := dtxt_props hd
  rw [h] at p3
  unfold implR; rw [p3]; exact ofDate_text hd h
theorem specR_some {l : List UInt8} {d : Int} (h : specR l = some d) : dOk d = true ∧ dtxt d = l := by
  unfold specR at h
  split at h
  · exact ofDate_some h
  · cases h
theorem implR_some {l : List UInt8} {d : Int} (h : implR l = some d) : dOk d = true ∧ dtxt d = l := by
  unfold implR at h
  split at h
  · exact ofDate_some h
  · cases h
theorem readR_same (l : List UInt8) : implR l = specR l := by
  cases hs : specR l with
  | some d => obtain ⟨a, b⟩ := specR_some hs; exact implR_text a b
  | none =>
    cases hi : implR l with
    | none => rfl
    | some d => obtain ⟨a, b⟩ := implR_some hi; rw [specR_text a b] at hs; cases hs

end Go.Proofs.YtddffpihacolkaaDoor.Dt
