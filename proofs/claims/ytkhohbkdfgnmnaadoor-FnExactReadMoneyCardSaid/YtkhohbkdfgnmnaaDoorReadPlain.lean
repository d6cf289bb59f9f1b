/- Plain lists of bytes: an amount comes back from its text, by the program's way and by the specification's. -/
import Derived.Test.YtkhohbkdfgnmnaaDoorMTxt
import Derived.Lib.Replace
import Derived.Lib.ParseIntB
import Derived.Lib.IndexBytes
import Derived.Lib.SplitLaws
namespace Go.Proofs.YtkhohbkdfgnmnaaDoor

def isDig (c : UInt8) : Prop := 48 ≤ c.toNat ∧ c.toNat ≤ 57
/-- the number that digits spell, from a on -/
def val (a : Nat) (l : List UInt8) : Nat := l.foldl (fun a c => a * 10 + (c.toNat - 48)) a
theorem val_cons (a : Nat) (c : UInt8) (l : List UInt8) : val a (c :: l) = val (a * 10 + (c.toNat - 48)) l := by simp only [val, List.foldl_cons]
theorem val_append (a : Nat) (l r : List UInt8) : val a (l ++ r) = val (val a l) r := by simp [val]
theorem val_le (l : List UInt8) : ∀ a, a ≤ val a l := by
  induction l with
  | nil => intro a; exact Nat.le_refl _
  | cons c l ih => intro a; rw [val_cons]; have := ih (a * 10 + (c.toNat - 48)); omega
theorem val_zeros (k : Nat) (l : List UInt8) : val 0 (List.replicate k 48 ++ l) = val 0 l := by
  induction k with
  | zero => rfl
  | succ k ih => rw [List.replicate_succ, List.cons_append, val_cons]; exact ih

theorem ofNat_dig (d : Nat) (h : d < 10) : (UInt8.ofNat (48 + d)).toNat = 48 + d := by
  rw [UInt8.toNat_ofNat']; omega
theorem dec_props (n : Nat) : (∀ c ∈ Lib.decDigits n, isDig c) ∧ val 0 (Lib.decDigits n) = n := by
  induction n using Nat.strongRecOn with
  | _ n ih =>
    rw [Lib.decDigits]
    by_cases h : n < 10
    · rw [dif_pos h]
      refine ⟨fun c hc => ?_, ?_⟩
      · obtain rfl : c = UInt8.ofNat (48 + n) := by simpa using hc
        unfold isDig; rw [ofNat_dig n h]; omega
      · simp only [val, List.foldl_cons, List.foldl_nil]
        rw [ofNat_dig n h]; omega
    · rw [dif_neg h]
      obtain ⟨i1, i2⟩ := ih (n / 10) (by omega)
      refine ⟨fun c hc => ?_, ?_⟩
      · rcases List.mem_append.1 hc with hc | hc
        · exact i1 c hc
        · obtain rfl : c = UInt8.ofNat (48 + n % 10) := by simpa using hc
          unfold isDig; rw [ofNat_dig _ (by omega)]; omega
      · rw [val_append, i2]
        simp only [val, List.foldl_cons, List.foldl_nil]
        rw [ofNat_dig _ (by omega)]; omega
theorem dec_len_pow (k n : Nat) (hk : 1 ≤ k) (h : n < 10 ^ k) : (Lib.decDigits n).length ≤ k := by
  induction k generalizing n with
  | zero => omega
  | succ k ih =>
    rw [Lib.decDigits]
    by_cases h1 : n < 10
    · rw [dif_pos h1]; simp
    · rw [dif_neg h1]
      have hk1 : 1 ≤ k := by
        rcases Nat.eq_zero_or_pos k with rfl | hp
        · simp at h; omega
        · exact hp
      have := ih (n / 10) hk1 (by rw [Nat.pow_succ] at h; omega)
      simp; omega

theorem pad_props (d n : Nat) : (∀ c ∈ pad d (Lib.decDigits n), isDig c) ∧ val 0 (pad d (Lib.decDigits n)) = n := by
  obtain ⟨h1, h2⟩ := dec_props n
  refine ⟨fun c hc => ?_, by rw [pad, val_zeros, h2]⟩
  rcases List.mem_append.1 hc with hc | hc
  · rw [(List.mem_replicate.1 hc).2]; unfold isDig; decide
  · exact h1 c hc

/-- what stands behind the sign, the point struck -/
theorem pointed_parts (d n : Nat) : ∃ a b, a ++ b = pad d (Lib.decDigits n) ∧ ((pointed d (Lib.decDigits n) = a ++ 46 :: b) ∨ (b = [] ∧ pointed d (Lib.decDigits n) = a)) := by
  by_cases h : d = 0
  · subst h
    refine ⟨Lib.decDigits n, [], ?_, .inr ⟨rfl, ?_⟩⟩
    · rw [List.append_nil, pad_id (by have := dec_pos n; omega)]
    · rw [pointed, if_pos rfl]
  · exact ⟨_, _, List.take_append_drop _ _, .inl (pointed_pos h)⟩

/-! ### the program's way: the first point struck, then ParseInt -/
theorem dig_ne_point {c : UInt8} (h : isDig c) : c ≠ 46 := fun e => by subst e; exact absurd h (by unfold isDig; decide)
theorem index_point (a b : List UInt8) (h : ∀ c ∈ a, c ≠ 46) : Lib.index (a ++ 46 :: b) [46] = a.length := by
  induction a with
  | nil => simp [Lib.index, List.isPrefixOf]
  | cons x a ih =>
    have hx : x ≠ 46 := h x (by simp)
    have := ih (fun c hc => h c (by simp [hc]))
    have hp : ((46 : UInt8) == x) = false := by simp; exact fun e => hx e.symm
    simp only [List.cons_append, Lib.index, List.isPrefixOf, hp, Bool.false_and, this]
    rw [if_neg (by simp), if_neg (by simp)]
    simp
theorem replace_point (a b : List UInt8) (h : ∀ c ∈ a, c ≠ 46) : Lib.replace (a ++ 46 :: b) [46] [] 1 = a ++ b := by
  have hi := index_point a b h
  have hc : 0 < Lib.count (a ++ 46 :: b) [46] := by rw [Lib.count_one]; simp; omega
  have hn : Lib.replaceNum (a ++ 46 :: b) [46] 1 = 1 := by unfold Lib.replaceNum; rw [if_neg (by omega)]; rfl
  unfold Lib.replace
  rw [if_neg (by decide), hn, Lib.replaceK_hit _ _ _ _ _ hi]
  simp [Lib.replaceK]
theorem replace_none (s : List UInt8) (h : ∀ c ∈ s, c ≠ 46) : Lib.replace s [46] [] 1 = s := by
  have hc : Lib.count s [46] = 0 := by rw [Lib.count_one]; exact List.count_eq_zero.2 (fun hm => h 46 hm rfl)
  unfold Lib.replace
  rw [if_neg (by decide)]
  unfold Lib.replaceNum
  rw [hc, if_pos (by omega)]
  rfl

theorem parseM_digits (M : Nat) (hM : M ≤ 1844674407370955161) (l : List UInt8) : ∀ a, (∀ c ∈ l, isDig c) → val a l ≤ M → Lib.parseUintM M a l = .ok (val a l) := by
  induction l with
  | nil => intro a _ _; rfl
  | cons c l ih =>
    intro a hd hv
    have hc : isDig c := hd c (by simp)
    have h1 := val_le l (a * 10 + (c.toNat - 48))
    rw [val_cons] at hv ⊢
    unfold Lib.parseUintM
    unfold isDig at hc
    rw [if_pos hc, if_neg (by omega), if_neg (by omega)]
    exact ih _ (fun x hx => hd x (by simp [hx])) hv
theorem parseM_mono (M M' : Nat) (hM : M ≤ M') (l : List UInt8) : ∀ a u, Lib.parseUintM M a l = .ok u → Lib.parseUintM M' a l = .ok u := by
  induction l with
  | nil => intro a u h; exact h
  | cons c l ih =>
    intro a u h
    unfold Lib.parseUintM at h ⊢
    split at h
    · rename_i h1
      rw [if_pos h1]
      split at h
      · cases h
      · rename_i h2
        rw [if_neg h2]
        split at h
        · cases h
        · rename_i h3
          rw [if_neg (by omega)]
          exact ih _ _ h
    · cases h
theorem parseU_digits (p : List UInt8) (hne : p ≠ []) (hd : ∀ c ∈ p, isDig c) (hv : val 0 p ≤ 1000000000000) : Lib.parseUintB 64 p = .ok (val 0 p) := by
  unfold Lib.parseUintB
  rw [if_neg hne]
  exact parseM_mono 1844674407370955161 _ (by decide) p 0 _ (parseM_digits _ (Nat.le_refl _) p 0 hd (by omega))
theorem parse_plus (p : List UInt8) (hne : p ≠ []) (hd : ∀ c ∈ p, isDig c) (hv : val 0 p ≤ 1000000000000) : Lib.parseIntB 64 p = .ok (val 0 p : Int) := by
  have hp := parseU_digits p hne hd hv
  cases p with
  | nil => exact absurd rfl hne
  | cons c r =>
    have hc : isDig c := hd c (by simp)
    unfold isDig at hc
    unfold Lib.parseIntB
    simp only
    rw [if_neg (by omega), hp]
    simp only
    rw [if_neg (by have : (2 : Nat) ^ (64 - 1) = 9223372036854775808 := by decide
                   omega), if_neg (by omega), if_neg (by omega)]
theorem parse_minus (p : List UInt8) (hne : p ≠ []) (hd : ∀ c ∈ p, isDig c) (hv : val 0 p ≤ 1000000000000) : Lib.parseIntB 64 (45 :: p) = .ok (-(val 0 p : Int)) := by
  have hp := parseU_digits p hne hd hv
  unfold Lib.parseIntB
  have h45 : (45 : UInt8).toNat = 45 := by decide
  simp only [h45]
  rw [if_pos (by simp), hp]
  simp only
  rw [if_neg (by simp), if_neg (by have : (2 : Nat) ^ (64 - 1) = 9223372036854775808 := by decide
                                   omega), if_pos trivial]

theorem point_sign : ∀ c ∈ ([45] : List UInt8), c ≠ 46 := by decide
/-- an amount comes back from its text by the program's way -/
theorem parse_mtxt (y : Int) (d : Nat) (h1 : -1000000000000 ≤ y) (h2 : y ≤ 1000000000000) : Lib.parseIntB 64 (Lib.replace (mtxt y d) [46] [] 1) = .ok y := by
  obtain ⟨pd, pv⟩ := pad_props d y.natAbs
  obtain ⟨a, b, hab, hp⟩ := pointed_parts d y.natAbs
  rw [← hab] at pd pv
  have hne : a ++ b ≠ [] := by
    rw [hab]; intro e
    have := pad_len d (Lib.decDigits y.natAbs)
    rw [e] at this; simp at this; omega
  have hda : ∀ c ∈ a, c ≠ 46 := fun c hc => dig_ne_point (pd c (by simp [hc]))
  have hdab : ∀ c ∈ a ++ b, c ≠ 46 := fun c hc => dig_ne_point (pd c hc)
  have hr : ∀ sg : List UInt8, (∀ c ∈ sg, c ≠ 46) → Lib.replace (sg ++ pointed d (Lib.decDigits y.natAbs)) [46] [] 1 = sg ++ (a ++ b) := by
    intro sg hsg
    rcases hp with hp | ⟨hb, hp⟩
    · rw [hp, ← List.append_assoc, replace_point (sg ++ a) b (fun c hc => by rcases List.mem_append.1 hc with h | h; exact hsg c h; exact hda c h), List.append_assoc]
    · subst hb
      rw [List.append_nil] at hdab ⊢
      rw [hp, replace_none _ (fun c hc => by rcases List.mem_append.1 hc with h | h; exact hsg c h; exact hdab c h)]
  unfold mtxt
  by_cases hy : y < 0
  · rw [if_pos hy, hr [45] point_sign]
    rw [List.singleton_append, parse_minus (a ++ b) hne pd (by omega), pv]
    congr 1; omega
  · rw [if_neg hy, hr [] (by simp)]
    rw [List.nil_append, parse_plus (a ++ b) hne pd (by omega), pv]
    congr 1; omega

/-! ### the specification's way: the digits alone, then the sign -/
def scanStep (x : Nat) (c : UInt8) : Nat := if 48 ≤ c.toNat ∧ c.toNat ≤ 57 then x * 10 + (c.toNat - 48) else x
/-- none where what was read passes the greatest amount -/
def scan (x : Nat) : List UInt8 → Option Nat
  | [] => some x
  | c :: r => if scanStep x c ≤ 1000000000000 then scan (scanStep x c) r else none
theorem scan_skip (x : Nat) (c : UInt8) (r : List UInt8) (hx : x ≤ 1000000000000) (hc : ¬ (48 ≤ c.toNat ∧ c.toNat ≤ 57)) : scan x (c :: r) = scan x r := by
  have : scanStep x c = x := by simp only [scanStep]; rw [if_neg hc]
  rw [scan, this, if_pos hx]
theorem scan_digits (l : List UInt8) : ∀ (x : Nat) (r : List UInt8), (∀ c ∈ l, isDig c) → val x l ≤ 1000000000000 → scan x (l ++ r) = scan (val x l) r := by
  induction l with
  | nil => intro x r _ _; rfl
  | cons c l ih =>
    intro x r hd hv
    have hc : isDig c := hd c (by simp)
    have hs : scanStep x c = x * 10 + (c.toNat - 48) := by simp only [scanStep]; rw [if_pos (show 48 ≤ c.toNat ∧ c.toNat ≤ 57 from hc)]
    have h1 := val_le l (x * 10 + (c.toNat - 48))
    rw [val_cons] at hv
    rw [List.cons_append, scan, hs, if_pos (by omega), ih _ _ (fun y hy => hd y (by simp [hy])) hv, val_cons]
theorem scan_mtxt (y : Int) (d : Nat) (h1 : -1000000000000 ≤ y) (h2 : y ≤ 1000000000000) : scan 0 (mtxt y d) = some y.natAbs := by
  obtain ⟨pd, pv⟩ := pad_props d y.natAbs
  obtain ⟨a, b, hab, hp⟩ := pointed_parts d y.natAbs
  rw [← hab] at pd pv
  have hb := val_le b (val 0 a)
  rw [val_append] at pv
  have ha : val 0 a ≤ 1000000000000 := by omega
  have hs : scan 0 (pointed d (Lib.decDigits y.natAbs)) = some y.natAbs := by
    rcases hp with hp | ⟨hb0, hp⟩
    · rw [hp, scan_digits a 0 _ (fun c hc => pd c (by simp [hc])) ha, scan_skip _ _ _ ha (by decide)]
      have := scan_digits b (val 0 a) [] (fun c hc => pd c (by simp [hc])) (by omega)
      rw [List.append_nil] at this
      rw [this, pv]; rfl
    · subst hb0
      have := scan_digits a 0 [] (fun c hc => pd c (by simp [hc])) ha
      rw [List.append_nil] at this
      rw [hp, this]
      simp only [val, List.foldl_nil] at pv
      simp only [scan, val, pv]
  unfold mtxt
  by_cases hy : y < 0
  · rw [if_pos hy, List.singleton_append, scan_skip _ _ _ (by omega) (by decide), hs]
  · rw [if_neg hy, List.nil_append, hs]
theorem mtxt_head (y : Int) (d : Nat) : ((mtxt y d).head? = some 45) ↔ y < 0 := by
  unfold mtxt
  by_cases hy : y < 0
  · simp [hy]
  · rw [if_neg hy, List.nil_append]
    simp only [hy, iff_false]
    obtain ⟨pd, _⟩ := pad_props d y.natAbs
    obtain ⟨a, b, hab, hp⟩ := pointed_parts d y.natAbs
    rw [← hab] at pd
    intro e
    rcases hp with hp | ⟨_, hp⟩
    · rw [hp] at e
      cases a with
      | nil => simp at e
      | cons c a =>
        obtain rfl : c = 45 := by simpa using e
        exact absurd (pd 45 (by simp)) (by unfold isDig; decide)
    · rw [hp] at e
      cases a with
      | nil => simp at e
      | cons c a =>
        obtain rfl : c = 45 := by simpa using e
        exact absurd (pd 45 (by simp)) (by unfold isDig; decide)
theorem mtxt_len (y : Int) (d : Nat) (h1 : -1000000000000 ≤ y) (h2 : y ≤ 1000000000000) (hd : d ≤ 3) : (mtxt y d).length ≤ 20 ∧ mtxt y d ≠ [] := by
  have hl := dec_len_pow 13 y.natAbs (by omega) (by omega)
  have hpl := pad_len d (Lib.decDigits y.natAbs)
  obtain ⟨a, b, hab, hp⟩ := pointed_parts d y.natAbs
  have hlen : a.length + b.length = max (d + 1) (Lib.decDigits y.natAbs).length := by rw [← hpl, ← hab]; simp
  have hq : (pointed d (Lib.decDigits y.natAbs)).length ≤ a.length + b.length + 1 ∧ 1 ≤ (pointed d (Lib.decDigits y.natAbs)).length := by
    rcases hp with hp | ⟨hb, hp⟩
    · rw [hp]; simp; omega
    · rw [hp]; subst hb; simp at hlen ⊢; omega
  have hm : (mtxt y d).length ≤ (pointed d (Lib.decDigits y.natAbs)).length + 1 ∧ 1 ≤ (mtxt y d).length := by
    unfold mtxt; split <;> simp <;> omega
  refine ⟨by omega, fun e => ?_⟩
  rw [e] at hm; simp at hm

/-- the two answers -/
def implRead (l : List UInt8) (cur : Int) : Option Int :=
  match Lib.parseIntB 64 (Lib.replace l [46] [] 1) with
  | .ok v => if moneyT v cur = l then some v else none
  | _ => none
def signed (l : List UInt8) (x : Nat) : Int := if l.head? = some 45 then -(x : Int) else x
def specRead (l : List UInt8) (cur : Int) : Option Int :=
  if 20 < l.length then none
  else match scan 0 l with
  | none => none
  | some x => if l = [] ∨ moneyT (signed l x) cur ≠ l then none else some (signed l x)
theorem moneyT_ne {v cur : Int} (h : moneyT v cur ≠ []) : (-1000000000000 ≤ v ∧ v ≤ 1000000000000) ∧ ∃ d : Nat, d ≤ 3 ∧ moneyT v cur = mtxt v d := by
  by_cases ht : textOk v cur = true
  · have hv : moneyT v cur = mtxt v (digs cur).toNat := by rw [moneyT, if_pos ht]
    simp [textOk] at ht
    have := digs_bd cur
    exact ⟨mOk_bd ht.1, (digs cur).toNat, by omega, hv⟩
  · exact absurd (by rw [moneyT, if_neg ht]) h
theorem read_same (l : List UInt8) (cur : Int) : implRead l cur = specRead l cur := by
  have hspec : ∀ v, l ≠ [] → moneyT v cur = l → specRead l cur = some v ∧ implRead l cur = some v := by
    intro v hne hl
    obtain ⟨hb, d, hd, hm⟩ := moneyT_ne (v := v) (cur := cur) (by rw [hl]; exact hne)
    have hml : mtxt v d = l := by rw [← hm, hl]
    have hlen := mtxt_len v d hb.1 hb.2 hd
    have hsc := scan_mtxt v d hb.1 hb.2
    have hsg : signed l v.natAbs = v := by
      unfold signed
      have := mtxt_head v d
      rw [hml] at this
      by_cases hv : v < 0
      · rw [if_pos (this.2 hv)]; omega
      · rw [if_neg (fun e => hv (this.1 e))]; omega
    rw [hml] at hlen hsc
    constructor
    · unfold specRead
      rw [if_neg (by omega), hsc]
      simp only
      rw [hsg, if_neg (by rintro (h | h); exact hne h; exact h hl)]
    · unfold implRead
      have := parse_mtxt v d hb.1 hb.2
      rw [hml] at this
      rw [this]
      simp only
      rw [if_pos hl]
  cases hi : implRead l cur with
  | some v =>
    have hl : moneyT v cur = l := by
      unfold implRead at hi
      split at hi
      · split at hi
        · rename_i h; cases hi; exact h
        · cases hi
      · cases hi
    have hne : l ≠ [] := by
      intro e; subst e
      have : implRead [] cur = none := by
        unfold implRead
        rw [replace_none [] (by simp)]
        rfl
      rw [this] at hi; cases hi
    exact (hspec v hne hl).1.symm
  | none =>
    cases hs : specRead l cur with
    | none => rfl
    | some x =>
      unfold specRead at hs
      split at hs
      · cases hs
      · split at hs
        · cases hs
        · rename_i y hy
          split at hs
          · cases hs
          · rename_i hc
            cases hs
            have hne : l ≠ [] := fun e => hc (.inl e)
            have hl : moneyT (signed l y) cur = l := by
              by_cases e : moneyT (signed l y) cur = l
              · exact e
              · exact absurd (.inr e) hc
            rw [(hspec _ hne hl).2] at hi; cases hi

end Go.Proofs.YtkhohbkdfgnmnaaDoor
