import Derived.Test.YtjnekdihmchlpaaGreatDoorProg
import Derived.WalkKit
import Derived.WalkLawsBesides
import Derived.Deep.QuietTactic
import Derived.BigQuiet
import Derived.WalkSmall
import Derived.OwnWalk
import Derived.Lib.Strings
import Derived.Lib.ItoaNum
import Derived.Lib.ItoaLen
import Derived.WalkSpells
import Derived.Outline
import Derived.Shelf.Strings.Builder1
import Derived.Shelf.Strings.Builder2
import Derived.Shelf.Strings.BuilderF
import Derived.Shelf.Utf8.RuneCount
import Derived.Shelf.Strconv.Itoa0
import Derived.Shelf.Strconv.Itoa1
import Derived.Shelf.LaysM
import Derived.Shelf.Strconv.Itoa2
import Derived.Shelf.Strconv.Itoa3
import Derived.Shelf.Strconv.Itoa4
import Derived.Shelf.Strconv.ParseIntEmpty
import Derived.Shelf.Strconv.Clone
import Derived.Shelf.Strconv.SyntaxError
import Derived.Shelf.LaysC
import Derived.Shelf.Strconv.ToError
import Derived.Shelf.Strconv.Lower
import Derived.Shelf.Strconv.ParseUint10
import Derived.Shelf.Strconv.ParseUint10Empty
import Derived.Shelf.Strconv.ParseUint10Any
import Derived.Shelf.Strconv.ParseInt10
import Derived.Shelf.Strconv.RangeError
import Derived.Shelf.Strconv.ToErrorRange
import Derived.Shelf.Strconv.ParseUintEmpty
import Derived.Shelf.Strconv.ParseUint10b64
import Derived.Shelf.Strconv.ParseUint10b32
import Derived.Shelf.Strconv.ParseUint10b16
import Derived.Shelf.Strconv.ParseUint10b8
import Derived.Shelf.Strconv.ParseUint10At
import Derived.Shelf.Strconv.ParseInt10At64
import Derived.Shelf.Strconv.ParseInt10At32
import Derived.Shelf.Strconv.ParseInt10At16
import Derived.Shelf.Strconv.ParseInt10At8
import Derived.Shelf.Strconv.ParseInt10All
import Derived.Shelf.Strconv.ParseIntPublic10
import Derived.Shelf.Strconv.ErrVarParseInt
import Derived.Shelf.Strings.Search1
import Derived.Shelf.Strings.Search2
import Derived.Shelf.Strings.Search3
import Derived.Shelf.Strings.Count
import Derived.Shelf.Strings.Shaped
import Derived.Shelf.Strings.Prefix
import Derived.Shelf.Strings.Split
import Derived.Shelf.Strings.Replace
import Derived.Shelf.Strings.SplitShaped
import Derived.Shelf.Unicode.Decode
import Derived.Shelf.Strings.RuneCount
import Derived.Shelf.Bits.Mul64
import Derived.Shelf.Strings.Repeat
import Derived.Shelf.Unicode.DecodeSlow
import Derived.Shelf.Unicode.DecodeAny
import Derived.Laws.IdiomStrings
import Derived.Laws.BytesArg
import Derived.Maps.AppendAt
import Derived.Deep.RegionHeld3
import Derived.Deep.AppendLies
import Derived.Handy
import Derived.Lib.AppendIntMem
/- Small steps that many walks end with. -/
namespace Go.Proofs.YtjnekdihmchlpaaGreatDoor
open Go.RowKit
theorem next {w w1 w2 : World} (h : Below w.heap.size w w1) (k : Below w1.heap.size w1 w2) : Below w.heap.size w w2 := h.trans (k.mono h.size)
theorem two_eq {k : IntKind} {a b : Int} {x y : Bool} (h : a = b) (g : x = y) : Ending.returned (.tuple #[.int k a, .bool x]) = .returned (.tuple #[.int k b, .bool y]) := by rw [h, g]
theorem two_ints {k : IntKind} {a b x y : Int} (h : a = b) (g : x = y) : Ending.returned (.tuple #[.int k a, .int k x]) = .returned (.tuple #[.int k b, .int k y]) := by rw [h, g]
theorem one_int {k : IntKind} {a b : Int} (h : a = b) : Ending.returned (.int k a) = .returned (.int k b) := by rw [h]
theorem one_bool {a b : Bool} (h : a = b) : Ending.returned (.bool a) = .returned (.bool b) := by rw [h]
theorem one_str {a b : ByteArray} (h : a = b) : Ending.returned (.string a) = .returned (.string b) := by rw [h]
end Go.Proofs.YtjnekdihmchlpaaGreatDoor
/- The contracts of the small functions of chapter 1 (money): what each returns for every argument. -/
namespace Go.Proofs.YtjnekdihmchlpaaGreatDoor
open Go.RowKit
def mOk (x : Int) : Bool := decide (-1000000000000 ≤ x ∧ x ≤ 1000000000000)
theorem mOk_pos {x : Int} (h1 : -1000000000000 ≤ x) (h2 : x ≤ 1000000000000) : mOk x = true := by simp [mOk, h1, h2]
theorem mOk_neg {x : Int} (h : x < -1000000000000 ∨ 1000000000000 < x) : mOk x = false := by simp [mOk]; omega
theorem mOk_bd {x : Int} (h : mOk x = true) : -1000000000000 ≤ x ∧ x ≤ 1000000000000 := by simpa [mOk] using h
theorem mOk_out {x : Int} (h : mOk x = false) : x < -1000000000000 ∨ 1000000000000 < x := by simp [mOk] at h; omega
def inB (x a b : Int) : Bool := decide (a ≤ x ∧ x ≤ b)
set_option maxHeartbeats 400000 in
theorem in_any (x a b : Int) (w : World) :
    Calls Tryz.prog 26 #[.int .i64 x, .int .i64 a, .int .i64 b] w fun e w' => e = .returned (.bool (inB x a b)) ∧ w' = w := by
  by_cases h1 : a ≤ x
  · by_cases h2 : x ≤ b
    · go_enter Tryz.func26, Tryz.ntmps26
      go_wp2
      go_ret
      exact ⟨by simp [inB, h1, h2], rfl⟩
    · go_enter Tryz.func26, Tryz.ntmps26
      go_wp2
      go_ret
      exact ⟨by simp [inB, h1, h2], rfl⟩
  · go_enter Tryz.func26, Tryz.ntmps26
    go_wp2
    go_ret
    exact ⟨by simp [inB]; omega, rfl⟩
set_option maxHeartbeats 400000 in
theorem sMoneyOk_any (x : Int) (w : World) :
    Calls Tryz.prog 66 #[.int .i64 x] w fun e w' => e = .returned (.bool (mOk x)) ∧ w' = w := by
  go_enter Tryz.func66, Tryz.ntmps66
  go_wp2_with (go_at_call 26; refine (in_any _ _ _ _).mono ?_; rintro e w' ⟨rfl, rfl⟩)
  go_ret
  exact ⟨rfl, rfl⟩
set_option maxHeartbeats 400000 in
theorem ok_any (x : Int) (w : World) :
    Calls Tryz.prog 104 #[.int .i64 x] w fun e w' => e = .returned (.bool (mOk x)) ∧ w' = w := by
  by_cases h1 : -1000000000000 ≤ x
  · by_cases h2 : x ≤ 1000000000000
    · go_enter Tryz.func104, Tryz.ntmps104
      go_wp2
      go_ret
      exact ⟨by simp [mOk, h1, h2], rfl⟩
    · go_enter Tryz.func104, Tryz.ntmps104
      go_wp2
      go_ret
      exact ⟨by simp [mOk, h1, h2], rfl⟩
  · go_enter Tryz.func104, Tryz.ntmps104
    go_wp2
    go_ret
    exact ⟨by simp [mOk]; omega, rfl⟩
set_option maxHeartbeats 400000 in
theorem iMoneyOk_any (x : Int) (w : World) :
    Calls Tryz.prog 57 #[.int .i64 x] w fun e w' => e = .returned (.bool (mOk x)) ∧ w' = w := by
  go_enter Tryz.func57, Tryz.ntmps57
  go_wp2_with (go_at_call 104; refine (ok_any _ _).mono ?_; rintro e w' ⟨rfl, rfl⟩)
  go_ret
  exact ⟨rfl, rfl⟩
end Go.Proofs.YtjnekdihmchlpaaGreatDoor
/- Plain lists of bytes: what they are as texts, whether each lies within bounds, the number that digits spell. No Go in sight. -/
namespace Go.Proofs.YtjnekdihmchlpaaGreatDoor
open Go.RowKit
theorem ba_append (l r : List UInt8) : (⟨l.toArray⟩ ++ ⟨r.toArray⟩ : ByteArray) = ⟨(l ++ r).toArray⟩ := by
  apply ByteArray.ext
  simp
theorem ba_list (b : ByteArray) : b = ⟨b.data.toList.toArray⟩ := by cases b; simp
theorem ba_extract (l : List UInt8) (a b : Nat) : (⟨l.toArray⟩ : ByteArray).extract a b = ⟨((l.drop a).take (b - a)).toArray⟩ := by
  have h := Lib.extract_data ⟨l.toArray⟩ a b
  rw [ba_list (ByteArray.extract ⟨l.toArray⟩ a b), h]
theorem ba_size (l : List UInt8) : (⟨l.toArray⟩ : ByteArray).size = l.length := by simp [ByteArray.size]
theorem ba_inj {l r : List UInt8} : ((⟨l.toArray⟩ : ByteArray) = ⟨r.toArray⟩) ↔ l = r :=
  ⟨fun h => by have := congrArg (fun b : ByteArray => b.data.toList) h; simpa using this, fun h => by rw [h]⟩
theorem byte_at (l : List UInt8) (k : Nat) (h : k < l.length) : l.getD k 0 = (⟨l.toArray⟩ : ByteArray)[k]'(by rw [ba_size]; exact h) := by
  rw [List.getD_eq_getElem?_getD, List.getElem?_eq_getElem h]
  rfl
theorem wrap_byte (c : UInt8) : wrap64 ((c.toNat : Nat) : Int) = (c.toNat : Int) := by
  have := c.toNat_lt
  unfold wrap64; omega
/-- whether each byte is a .. b -/
def within (a b : Nat) (l : List UInt8) : Bool := l.all fun c => decide (a ≤ c.toNat) && decide (c.toNat ≤ b)
theorem within_step (a b : Nat) (l : List UInt8) (k : Nat) (h : k < l.length) : within a b (l.drop k) = ((decide (a ≤ (l.getD k 0).toNat) && decide ((l.getD k 0).toNat ≤ b)) && within a b (l.drop (k + 1))) := by
  have e : l.getD k 0 = l[k] := by simp [List.getD_eq_getElem?_getD, h]
  rw [List.drop_eq_getElem_cons h, e]
  simp only [within, List.all_cons]
theorem within_end (a b : Nat) (l : List UInt8) : within a b (l.drop l.length) = true := by rw [List.drop_of_length_le (Nat.le_refl _)]; rfl
theorem within_mem {a b : Nat} {l : List UInt8} (h : within a b l = true) : ∀ c ∈ l, a ≤ c.toNat ∧ c.toNat ≤ b := by
  intro c hc
  have := List.all_eq_true.1 h c hc
  simpa using this
theorem within_of {a b : Nat} {l : List UInt8} (h : ∀ c ∈ l, a ≤ c.toNat ∧ c.toNat ≤ b) : within a b l = true :=
  List.all_eq_true.2 fun c hc => by simpa using h c hc
theorem within_at {a b : Nat} {l : List UInt8} (h : within a b l = true) {k : Nat} (hk : k < l.length) : a ≤ (l.getD k 0).toNat ∧ (l.getD k 0).toNat ≤ b :=
  within_mem h _ (by simp [List.getD_eq_getElem?_getD, hk])
/-- the number that digits spell, from a on -/
def val (a : Nat) (l : List UInt8) : Nat := l.foldl (fun a c => a * 10 + (c.toNat - 48)) a
theorem val_cons (a : Nat) (c : UInt8) (l : List UInt8) : val a (c :: l) = val (a * 10 + (c.toNat - 48)) l := by simp only [val, List.foldl_cons]
theorem val_append (a : Nat) (l r : List UInt8) : val a (l ++ r) = val (val a l) r := by simp [val]
theorem val_zeros (k : Nat) (l : List UInt8) : val 0 (List.replicate k 48 ++ l) = val 0 l := by
  induction k with
  | zero => rfl
  | succ k ih => rw [List.replicate_succ, List.cons_append, val_cons]; exact ih
theorem take_succ_at (l : List UInt8) (k : Nat) (h : k < l.length) : l.take (k + 1) = l.take k ++ [l.getD k 0] := by
  rw [List.take_add_one, List.getElem?_eq_getElem h, List.getD_eq_getElem?_getD, List.getElem?_eq_getElem h]; rfl
theorem val_take (l : List UInt8) (k : Nat) (h : k < l.length) : val 0 (l.take (k + 1)) = val 0 (l.take k) * 10 + ((l.getD k 0).toNat - 48) := by
  rw [take_succ_at l k h, val_append]; rfl
theorem val_bound (l : List UInt8) (h : within 48 57 l = true) : ∀ k, k ≤ l.length → val 0 (l.take k) < 10 ^ k := by
  intro k
  induction k with
  | zero => intro _; simp [val]
  | succ k ih =>
    intro hk
    have := ih (by omega)
    have hb := within_at h (k := k) (by omega)
    rw [val_take l k (by omega), Nat.pow_succ]
    omega
/-- a text's number -/
def numOf (l : List UInt8) : Int := if l.length ≤ 18 ∧ within 48 57 l = true then (val 0 l : Int) else -1
theorem numOf_no1 {l : List UInt8} (h : 18 < l.length) : numOf l = -1 := if_neg (by omega)
theorem numOf_no2 {l : List UInt8} (h : within 48 57 l = false) : numOf l = -1 := if_neg (by rw [h]; simp)
theorem numOf_yes {l : List UInt8} (h1 : l.length ≤ 18) (h2 : within 48 57 l = true) : numOf l = (val 0 l : Int) := if_pos ⟨h1, h2⟩
theorem numOf_bd (l : List UInt8) : -1 ≤ numOf l ∧ numOf l < 1000000000000000000 := by
  unfold numOf
  split
  · rename_i h
    have := val_bound l h.2 l.length (Nat.le_refl _)
    rw [List.take_of_length_le (Nat.le_refl _)] at this
    have : 10 ^ l.length ≤ 10 ^ 18 := Nat.pow_le_pow_right (by omega) h.1
    omega
  · omega
end Go.Proofs.YtjnekdihmchlpaaGreatDoor
/- The contract of the program's powers of ten. -/
namespace Go.Proofs.YtjnekdihmchlpaaGreatDoor
open Go.RowKit
set_option maxHeartbeats 400000 in
theorem tenTo_any (n : Nat) (w : World) (hn : n ≤ 18) :
    Calls Tryz.prog 59 #[.int .i64 n] w fun e w' => e = .returned (.int .i64 (10 ^ n : Nat)) ∧ w' = w := by
  go_enter Tryz.func59, Tryz.ntmps59
  go_wp2
  go_loop [3, 5] (fun p i => ∃ k : Nat, k ≤ n ∧ i = .int .i64 k ∧ p = .int .i64 (10 ^ k : Nat)) (fun _ i => n - (intOf i).toNat)
  case atStart => exact ⟨0, Nat.zero_le _, rfl, rfl⟩
  case round =>
    obtain ⟨k, hk, rfl, rfl⟩ := hrel
    by_cases hlt : k < n
    · have hki : (k : Int) < (n : Int) := by omega
      have hp : 10 ^ k ≤ 10 ^ 17 := Nat.pow_le_pow_right (by omega) (by omega)
      have hs : 10 ^ (k + 1) = 10 ^ k * 10 := Nat.pow_succ 10 k
      obtain ⟨x, hx⟩ : ∃ x : Nat, 10 ^ k = x := ⟨_, rfl⟩
      rw [hx] at hp hs ⊢
      have HS : Hid (((10 ^ (k + 1) : Nat) : Int) = (x : Int) * 10) := by rw [Hid, hs]; omega
      have hxb : x ≤ 100000000000000000 := by omega
      clear hs hx hp
      go_wp2
      go_round
      case rel => exact ⟨k + 1, by omega, by go_num, by rw [HS.out]⟩
      case measure => simp [intOf]; omega
    · have hke : k = n := by omega
      subst hke
      obtain ⟨x, hx⟩ : ∃ x : Nat, 10 ^ k = x := ⟨_, rfl⟩
      rw [hx]
      have HX : Hid _ := hx
      clear hx
      go_wp2
      go_ret
      exact ⟨one_int (by rw [← HX.out]; simp), rfl⟩
end Go.Proofs.YtjnekdihmchlpaaGreatDoor
/- Numbers with noughts ahead, over plain lists. No Go in sight. -/
namespace Go.Proofs.YtjnekdihmchlpaaGreatDoor
theorem ofNat_dig (d : Nat) (h : d < 10) : (UInt8.ofNat (48 + d)).toNat = 48 + d := by
  rw [UInt8.toNat_ofNat']; omega
theorem dec_props (n : Nat) : (∀ c ∈ Lib.decDigits n, 48 ≤ c.toNat ∧ c.toNat ≤ 57) ∧ val 0 (Lib.decDigits n) = n := by
  induction n using Nat.strongRecOn with
  | _ n ih =>
    rw [Lib.decDigits]
    by_cases h : n < 10
    · rw [dif_pos h]
      refine ⟨fun c hc => ?_, ?_⟩
      · obtain rfl : c = UInt8.ofNat (48 + n) := by simpa using hc
        rw [ofNat_dig n h]; omega
      · simp only [val, List.foldl_cons, List.foldl_nil]
        rw [ofNat_dig n h]; omega
    · rw [dif_neg h]
      obtain ⟨i1, i2⟩ := ih (n / 10) (by omega)
      refine ⟨fun c hc => ?_, ?_⟩
      · rcases List.mem_append.1 hc with hc | hc
        · exact i1 c hc
        · obtain rfl : c = UInt8.ofNat (48 + n % 10) := by simpa using hc
          rw [ofNat_dig _ (by omega)]; omega
      · rw [val_append, i2]
        simp only [val, List.foldl_cons, List.foldl_nil]
        rw [ofNat_dig _ (by omega)]; omega
theorem dec_len_pow (k n : Nat) (hk : 1 ≤ k) (h : n < 10 ^ k) : (Lib.decDigits n).length ≤ k := by
  induction k generalizing n with
  | zero => omega
  | succ k ih =>
    rw [Lib.decDigits]
    by_cases h1 : n < 10
    · rw [dif_pos h1]; simp
    · rw [dif_neg h1]
      have hk1 : 1 ≤ k := by
        rcases Nat.eq_zero_or_pos k with rfl | hp
        · simp at h; omega
        · exact hp
      have := ih (n / 10) hk1 (by rw [Nat.pow_succ] at h; omega)
      simp; omega
def padOk (x n : Int) : Bool := decide (1 ≤ n ∧ n ≤ 18) && decide (0 ≤ x ∧ x < ((10 ^ n.toNat : Nat) : Int))
/-- x with noughts ahead to n digits -/
def padN (x n : Nat) : List UInt8 := List.replicate (n - (Lib.decDigits x).length) 48 ++ Lib.decDigits x
def padT (x n : Int) : List UInt8 := if padOk x n = true then padN x.toNat n.toNat else []
theorem padT_no {x n : Int} (h : padOk x n = false) : padT x n = [] := if_neg (by rw [h]; decide)
theorem padOk_no1 {x n : Int} (h : ¬ (1 ≤ n ∧ n ≤ 18)) : padOk x n = false := by unfold padOk; rw [decide_eq_false h]; rfl
theorem padOk_no2 {x n : Int} (h : ¬ (0 ≤ x ∧ x < ((10 ^ n.toNat : Nat) : Int))) : padOk x n = false := by unfold padOk; rw [decide_eq_false h, Bool.and_false]
theorem padT_yes {x n : Nat} (h1 : 1 ≤ n) (h2 : n ≤ 18) (h3 : x < 10 ^ n) : padT x n = padN x n := by
  unfold padT
  rw [if_pos]
  · rw [Int.toNat_natCast, Int.toNat_natCast]
  · unfold padOk
    rw [decide_eq_true (by omega), decide_eq_true (by rw [Int.toNat_natCast]; omega)]; rfl
theorem padT_cases (x n : Int) : padT x n = [] ∨ ∃ a m : Nat, x = a ∧ n = m ∧ 1 ≤ m ∧ m ≤ 18 ∧ a < 10 ^ m ∧ padT x n = padN a m := by
  cases h : padOk x n
  · exact .inl (padT_no h)
  · unfold padOk at h
    rw [Bool.and_eq_true, decide_eq_true_eq, decide_eq_true_eq] at h
    obtain ⟨a, rfl⟩ := Int.eq_ofNat_of_zero_le h.2.1
    obtain ⟨m, rfl⟩ := Int.eq_ofNat_of_zero_le (show 0 ≤ n by omega)
    rw [Int.toNat_natCast] at h
    exact .inr ⟨a, m, rfl, rfl, by omega, by omega, by omega, padT_yes (by omega) (by omega) (by omega)⟩
theorem padN_len {x n : Nat} (h1 : 1 ≤ n) (h3 : x < 10 ^ n) : (padN x n).length = n := by
  have := dec_len_pow n x h1 h3
  simp [padN]; omega
theorem padN_dig (x n : Nat) : within 48 57 (padN x n) = true := by
  refine within_of fun c hc => ?_
  rcases List.mem_append.1 hc with hc | hc
  · rw [List.mem_replicate] at hc
    rw [hc.2]; decide
  · exact (dec_props x).1 c hc
theorem padN_val (x n : Nat) : val 0 (padN x n) = x := by
  unfold padN; rw [val_zeros, (dec_props x).2]
theorem padN_num {x n : Nat} (h1 : 1 ≤ n) (h2 : n ≤ 18) (h3 : x < 10 ^ n) : numOf (padN x n) = (x : Int) := by
  rw [numOf_yes (by rw [padN_len h1 h3]; exact h2) (padN_dig x n), padN_val]
theorem dig_plain {l : List UInt8} (h : within 48 57 l = true) : within 32 126 l = true :=
  within_of fun c hc => by have := within_mem h c hc; omega
end Go.Proofs.YtjnekdihmchlpaaGreatDoor
/- The specification's decimal numeral. -/
namespace Go.Proofs.YtjnekdihmchlpaaGreatDoor
open Go.RowKit
/-- the digits of m, none for 0 -/
def low (m : Nat) : List UInt8 := if m = 0 then [] else Lib.decDigits m
theorem low_step (m : Nat) (h : m ≠ 0) : low m = low (m / 10) ++ [UInt8.ofNat (48 + m % 10)] := by
  unfold low
  rw [if_neg h, Lib.decDigits]
  by_cases h1 : m < 10
  · rw [dif_pos h1, if_pos (by omega), Nat.mod_eq_of_lt h1]; rfl
  · rw [dif_neg h1, if_neg (by omega)]
theorem dec_len (a : Nat) (ha : a ≤ 9223372036854775807) : (Lib.decDigits a).length ≤ 21 := by
  have := Lib.itoa_length_le (a : Int) (by omega) (by omega)
  simpa [Lib.itoa, show ¬ (a : Int) < 0 from by omega] using this
theorem dig_one (d : Nat) (h : d < 10) : (⟨#[48, 49, 50, 51, 52, 53, 54, 55, 56, 57]⟩ : ByteArray).extract d (d + 1) = ⟨[UInt8.ofNat (48 + d)].toArray⟩ := by
  rcases (show d = 0 ∨ d = 1 ∨ d = 2 ∨ d = 3 ∨ d = 4 ∨ d = 5 ∨ d = 6 ∨ d = 7 ∨ d = 8 ∨ d = 9 from by omega) with rfl | rfl | rfl | rfl | rfl | rfl | rfl | rfl | rfl | rfl <;> decide
theorem dig_piece (d : Nat) (l : List UInt8) (h : d < 10) : (⟨#[48, 49, 50, 51, 52, 53, 54, 55, 56, 57]⟩ : ByteArray).extract d (d + 1) ++ ⟨l.toArray⟩ = ⟨(UInt8.ofNat (48 + d) :: l).toArray⟩ := by
  rw [dig_one d h, ba_append]; rfl
set_option maxHeartbeats 800000 in
theorem dec_up (a : Nat) (w : World) (ha : a ≤ 9223372036854775807) :
    Calls Tryz.prog 28 #[.int .i64 a] w fun e w' => e = .returned (.string ⟨(Lib.decDigits a).toArray⟩) ∧ w' = w := by
  by_cases h0 : a = 0
  · subst h0
    go_enter Tryz.func28, Tryz.ntmps28
    go_wp2
    go_ret
    exact ⟨one_str (by rw [Lib.decDigits_one (by omega)]; rfl), rfl⟩
  · have hne : ((a : Int) == 0) = false := by simp; omega
    have hnn : ¬ (a : Int) < 0 := by omega
    go_enter Tryz.func28, Tryz.ntmps28
    go_wp2
    go_loop [3, 4, 5] (fun o m _ => ∃ (k : Nat) (l : List UInt8), k ≤ a ∧ m = .int .i64 k ∧ o = .string ⟨l.toArray⟩ ∧ Lib.decDigits a = low k ++ l) (fun _ m _ => (intOf m).toNat)
    case atStart => exact ⟨a, [], Nat.le_refl _, rfl, rfl, by simp [low, h0]⟩
    case round =>
      obtain ⟨k, l, hk, rfl, rfl, hd⟩ := hrel
      by_cases hk0 : k = 0
      · subst hk0
        have HD : Hid _ := hd
        clear hd
        go_wp2
        go_ret
        exact ⟨one_str (by have := HD.out; simp [low] at this; rw [this]), rfl⟩
      · have kne : ((k : Int) != 0) = true := by simp; omega
        have HD : Hid (Lib.decDigits a = low (k / 10) ++ (UInt8.ofNat (48 + k % 10) :: l)) := by rw [Hid, hd, low_step k hk0]; simp
        have hl : l.length ≤ 21 := by have h1 := dec_len a ha; rw [hd] at h1; simp at h1; omega
        clear hd
        go_wp2
        go_round
        case rel => exact ⟨k / 10, UInt8.ofNat (48 + k % 10) :: l, by omega, by go_num, by rw [dig_piece _ _ (by omega)], HD.out⟩
        case measure => simp [intOf]; omega
end Go.Proofs.YtjnekdihmchlpaaGreatDoor
/-
  DERIVED: THE SHELF's CONTRACTS AT THIS DUMP, IN PLAIN WORDS (tools/lay-plain.mjs out of 'TryzShelf.lean', which tools/lay-shelf.mjs wrote): THE SAME DECLARATIONS UNDER THE SAME NAMES: 'import', 'namespace', 'open', 'def', 'theorem' AND NOTHING ELSE: no command of the shelf's: FOR A HAND-IN. Each laying: the table of numbers ('.._ren') and one theorem, a field a fact of the dump's own or the kernel's comparison; each contract: ONE APPLICATION.
-/
namespace Go.Proofs
open Go.Shelf
def Tryz.laysM171_ren : Go.Shelf.Ren := ⟨fun | 171 => 22 | 243 => 56 | 246 => 103 | 283 => 139 | 284 => 140 | 285 => 141 | 286 => 142 | 129 => 167 | 317 => 166 | 318 => 168 | 319 => 169 | 320 => 170 | 337 => 176 | 338 => 177 | n => n, fun | 3 => 3 | 9 => 9 | 2 => 2 | 4 => 4 | 171 => 187 | 0 => 0 | 53 => 174 | 37 => 22 | 5 => 5 | 173 => 190 | 212 => 225 | 51 => 192 | 20 => 20 | 213 => 226 | 46 => 147 | 232 => 234 | 233 => 235 | n => n, fun | 17 => 7 | 18 => 8 | 19 => 9 | n => n⟩
theorem Tryz.laysM171 : Go.Proofs.LaysM.n171 Tryz.prog Tryz.laysM171_ren := {
  mixed := by kernel_rfl
  f129 := Tryz.func167.trans (congrArg some (by kernel_rfl))
  f171 := Tryz.func22.trans (congrArg some (by kernel_rfl))
  f243 := Tryz.func56.trans (congrArg some (by kernel_rfl))
  f246 := Tryz.func103.trans (congrArg some (by kernel_rfl))
  f283 := Tryz.func139.trans (congrArg some (by kernel_rfl))
  f284 := Tryz.func140.trans (congrArg some (by kernel_rfl))
  f285 := Tryz.func141.trans (congrArg some (by kernel_rfl))
  f286 := Tryz.func142.trans (congrArg some (by kernel_rfl))
  f317 := Tryz.func166.trans (congrArg some (by kernel_rfl))
  f318 := Tryz.func168.trans (congrArg some (by kernel_rfl))
  f319 := Tryz.func169.trans (congrArg some (by kernel_rfl))
  f320 := Tryz.func170.trans (congrArg some (by kernel_rfl))
  f337 := Tryz.func176.trans (congrArg some (by kernel_rfl))
  f338 := Tryz.func177.trans (congrArg some (by kernel_rfl))
  t0 := Tryz.underlying0
  a0 := Tryz.isAgg0
  z0 := Tryz.sizeOf0
  v0 := Tryz.zeroValue0
  t2 := Tryz.underlying2
  a2 := Tryz.isAgg2
  z2 := Tryz.sizeOf2
  v2 := Tryz.zeroValue2
  t3 := Tryz.underlying3
  a3 := Tryz.isAgg3
  z3 := Tryz.sizeOf3
  v3 := Tryz.zeroValue3
  t4 := Tryz.underlying4
  a4 := Tryz.isAgg4
  z4 := Tryz.sizeOf4
  v4 := Tryz.zeroValue4
  t5 := Tryz.underlying5
  a5 := Tryz.isAgg5
  z5 := Tryz.sizeOf5
  v5 := Tryz.zeroValue5
  t9 := Tryz.underlying9
  a9 := Tryz.isAgg9
  z9 := Tryz.sizeOf9
  v9 := Tryz.zeroValue9
  t20 := Tryz.underlying20
  a20 := Tryz.isAgg20
  z20 := Tryz.sizeOf20
  v20 := Tryz.zeroValue20
  t37 := Tryz.underlying22
  a37 := Tryz.isAgg22
  z37 := Tryz.sizeOf22
  v37 := Tryz.zeroValue22
  t46 := Tryz.underlying147
  a46 := Tryz.isAgg147
  z46 := Tryz.sizeOf147
  v46 := Tryz.zeroValue147
  t51 := Tryz.underlying192
  a51 := Tryz.isAgg192
  z51 := Tryz.sizeOf192
  v51 := Tryz.zeroValue192
  t53 := Tryz.underlying174
  a53 := Tryz.isAgg174
  z53 := Tryz.sizeOf174
  v53 := Tryz.zeroValue174
  t171 := Tryz.underlying187
  a171 := Tryz.isAgg187
  z171 := Tryz.sizeOf187
  v171 := Tryz.zeroValue187
  t173 := Tryz.underlying190
  a173 := Tryz.isAgg190
  z173 := Tryz.sizeOf190
  v173 := Tryz.zeroValue190
  t212 := Tryz.underlying225
  a212 := Tryz.isAgg225
  z212 := Tryz.sizeOf225
  v212 := Tryz.zeroValue225
  t213 := Tryz.underlying226
  a213 := Tryz.isAgg226
  z213 := Tryz.sizeOf226
  t232 := Tryz.underlying234
  a232 := Tryz.isAgg234
  z232 := Tryz.sizeOf234
  v232 := Tryz.zeroValue234
  t233 := Tryz.underlying235
  a233 := Tryz.isAgg235
  z233 := Tryz.sizeOf235
  v233 := Tryz.zeroValue235
  g17 := by kernel_rfl
  g18 := by kernel_rfl
  g19 := by kernel_rfl
  i0 := by kernel_rfl
  i2 := by kernel_rfl
  i3 := by kernel_rfl
  i4 := by kernel_rfl
  i5 := by kernel_rfl
  i9 := by kernel_rfl
  i20 := by kernel_rfl
  i37 := by kernel_rfl
  i46 := by kernel_rfl
  i51 := by kernel_rfl
  i53 := by kernel_rfl
  i171 := by kernel_rfl
  i173 := by kernel_rfl
  i212 := by kernel_rfl
  i232 := by kernel_rfl
  i233 := by kernel_rfl
  m17 := by kernel_rfl
  m18 := by kernel_rfl
  m19 := by kernel_rfl }
open Go.RowKit Go.Sort Go.Lib in
theorem Tryz.strconv_Itoa (n : Int) (h0 : -9223372036854775808 ≤ n) (h1 : n ≤ 9223372036854775807) (w : World) (htab : Lib.TabIs Tryz.prog w "internal/strconv.uint64pow10" .u64 Lib.pow10Tab) :
    Calls Tryz.prog 22 #[.int .i64 n] w fun e w' => e = .returned (.string ⟨(Lib.itoa n).toArray⟩) ∧ ∃ k os, w' = grow (w.drewN k) os := Any.strconv_Itoa Tryz.laysM171 n h0 h1 w htab
def Tryz.laysM173_ren : Go.Shelf.Ren := ⟨fun | 173 => 105 | 246 => 103 | 283 => 139 | 284 => 140 | 285 => 141 | 286 => 142 | 129 => 167 | 317 => 166 | 318 => 168 | 319 => 169 | 320 => 170 | 337 => 176 | 338 => 177 | n => n, fun | 2 => 2 | 3 => 3 | 9 => 9 | 4 => 4 | 171 => 187 | 0 => 0 | 53 => 174 | 37 => 22 | 5 => 5 | 173 => 190 | 212 => 225 | 51 => 192 | 20 => 20 | 213 => 226 | 46 => 147 | 232 => 234 | 233 => 235 | n => n, fun | 17 => 7 | 18 => 8 | 19 => 9 | n => n⟩
theorem Tryz.laysM173 : Go.Proofs.LaysM.n173 Tryz.prog Tryz.laysM173_ren := {
  mixed := by kernel_rfl
  f129 := Tryz.func167.trans (congrArg some (by kernel_rfl))
  f173 := Tryz.func105.trans (congrArg some (by kernel_rfl))
  f246 := Tryz.func103.trans (congrArg some (by kernel_rfl))
  f283 := Tryz.func139.trans (congrArg some (by kernel_rfl))
  f284 := Tryz.func140.trans (congrArg some (by kernel_rfl))
  f285 := Tryz.func141.trans (congrArg some (by kernel_rfl))
  f286 := Tryz.func142.trans (congrArg some (by kernel_rfl))
  f317 := Tryz.func166.trans (congrArg some (by kernel_rfl))
  f318 := Tryz.func168.trans (congrArg some (by kernel_rfl))
  f319 := Tryz.func169.trans (congrArg some (by kernel_rfl))
  f320 := Tryz.func170.trans (congrArg some (by kernel_rfl))
  f337 := Tryz.func176.trans (congrArg some (by kernel_rfl))
  f338 := Tryz.func177.trans (congrArg some (by kernel_rfl))
  t0 := Tryz.underlying0
  a0 := Tryz.isAgg0
  z0 := Tryz.sizeOf0
  v0 := Tryz.zeroValue0
  t2 := Tryz.underlying2
  a2 := Tryz.isAgg2
  z2 := Tryz.sizeOf2
  v2 := Tryz.zeroValue2
  t3 := Tryz.underlying3
  a3 := Tryz.isAgg3
  z3 := Tryz.sizeOf3
  v3 := Tryz.zeroValue3
  t4 := Tryz.underlying4
  a4 := Tryz.isAgg4
  z4 := Tryz.sizeOf4
  v4 := Tryz.zeroValue4
  t5 := Tryz.underlying5
  a5 := Tryz.isAgg5
  z5 := Tryz.sizeOf5
  v5 := Tryz.zeroValue5
  t9 := Tryz.underlying9
  a9 := Tryz.isAgg9
  z9 := Tryz.sizeOf9
  v9 := Tryz.zeroValue9
  t20 := Tryz.underlying20
  a20 := Tryz.isAgg20
  z20 := Tryz.sizeOf20
  v20 := Tryz.zeroValue20
  t37 := Tryz.underlying22
  a37 := Tryz.isAgg22
  z37 := Tryz.sizeOf22
  v37 := Tryz.zeroValue22
  t46 := Tryz.underlying147
  a46 := Tryz.isAgg147
  z46 := Tryz.sizeOf147
  v46 := Tryz.zeroValue147
  t51 := Tryz.underlying192
  a51 := Tryz.isAgg192
  z51 := Tryz.sizeOf192
  v51 := Tryz.zeroValue192
  t53 := Tryz.underlying174
  a53 := Tryz.isAgg174
  z53 := Tryz.sizeOf174
  v53 := Tryz.zeroValue174
  t171 := Tryz.underlying187
  a171 := Tryz.isAgg187
  z171 := Tryz.sizeOf187
  v171 := Tryz.zeroValue187
  t173 := Tryz.underlying190
  a173 := Tryz.isAgg190
  z173 := Tryz.sizeOf190
  v173 := Tryz.zeroValue190
  t212 := Tryz.underlying225
  a212 := Tryz.isAgg225
  z212 := Tryz.sizeOf225
  v212 := Tryz.zeroValue225
  t213 := Tryz.underlying226
  a213 := Tryz.isAgg226
  z213 := Tryz.sizeOf226
  t232 := Tryz.underlying234
  a232 := Tryz.isAgg234
  z232 := Tryz.sizeOf234
  v232 := Tryz.zeroValue234
  t233 := Tryz.underlying235
  a233 := Tryz.isAgg235
  z233 := Tryz.sizeOf235
  v233 := Tryz.zeroValue235
  g17 := by kernel_rfl
  g18 := by kernel_rfl
  g19 := by kernel_rfl
  i0 := by kernel_rfl
  i2 := by kernel_rfl
  i3 := by kernel_rfl
  i4 := by kernel_rfl
  i5 := by kernel_rfl
  i9 := by kernel_rfl
  i20 := by kernel_rfl
  i37 := by kernel_rfl
  i46 := by kernel_rfl
  i51 := by kernel_rfl
  i53 := by kernel_rfl
  i171 := by kernel_rfl
  i173 := by kernel_rfl
  i212 := by kernel_rfl
  i232 := by kernel_rfl
  i233 := by kernel_rfl
  m17 := by kernel_rfl
  m18 := by kernel_rfl
  m19 := by kernel_rfl }
open Go.RowKit Go.Sort Go.Lib in
theorem Tryz.strconv_FormatInt_10 (n : Int) (h0 : -9223372036854775808 ≤ n) (h1 : n ≤ 9223372036854775807) (w : World) (htab : Lib.TabIs Tryz.prog w "internal/strconv.uint64pow10" .u64 Lib.pow10Tab) :
    Calls Tryz.prog 105 #[.int .i64 n, .int .i64 10] w fun e w' => e = .returned (.string ⟨(Lib.itoa n).toArray⟩) ∧ ∃ k os, w' = grow (w.drewN k) os := Any.strconv_FormatInt_10 Tryz.laysM173 n h0 h1 w htab
def Tryz.laysM316_ren : Go.Shelf.Ren := ⟨fun | 316 => 76 | n => n, fun | 9 => 9 | 3 => 3 | 4 => 4 | 37 => 22 | 0 => 0 | 127 => 171 | 5 => 5 | n => n, fun | n => n⟩
theorem Tryz.laysM316 : Go.Proofs.LaysM.n316 Tryz.prog Tryz.laysM316_ren := {
  mixed := by kernel_rfl
  f316 := Tryz.func76.trans (congrArg some (by kernel_rfl))
  t0 := Tryz.underlying0
  a0 := Tryz.isAgg0
  z0 := Tryz.sizeOf0
  v0 := Tryz.zeroValue0
  t3 := Tryz.underlying3
  a3 := Tryz.isAgg3
  z3 := Tryz.sizeOf3
  v3 := Tryz.zeroValue3
  t4 := Tryz.underlying4
  a4 := Tryz.isAgg4
  z4 := Tryz.sizeOf4
  v4 := Tryz.zeroValue4
  t9 := Tryz.underlying9
  a9 := Tryz.isAgg9
  z9 := Tryz.sizeOf9
  v9 := Tryz.zeroValue9
  t37 := Tryz.underlying22
  a37 := Tryz.isAgg22
  z37 := Tryz.sizeOf22
  v37 := Tryz.zeroValue22
  t127 := Tryz.underlying171
  a127 := Tryz.isAgg171
  z127 := Tryz.sizeOf171
  v127 := Tryz.zeroValue171
  t5 := Tryz.underlying5
  a5 := Tryz.isAgg5
  z5 := Tryz.sizeOf5
  v5 := Tryz.zeroValue5
  i0 := by kernel_rfl
  i3 := by kernel_rfl
  i4 := by kernel_rfl
  i5 := by kernel_rfl
  i9 := by kernel_rfl
  i37 := by kernel_rfl
  i127 := by kernel_rfl }
open Go.RowKit in
theorem Tryz.stringslite_Clone (s : ByteArray) (w : World) (hlim : s.size ≤ 281474976710656) :
    Calls Tryz.prog 76 #[.string s] w fun e w' => e = .returned (.string s) ∧ Below w.heap.size w w' := Any.stringslite_Clone Tryz.laysM316 s w hlim
def Tryz.laysC174_ren : Go.Shelf.Ren := ⟨fun | 174 => 42 | 247 => 79 | 245 => 80 | 287 => 122 | 279 => 123 | 280 => 124 | 281 => 125 | 282 => 126 | 321 => 153 | 322 => 154 | 316 => 76 | 171 => 22 | 205 => 155 | 243 => 56 | 246 => 103 | 283 => 139 | 284 => 140 | 285 => 141 | 286 => 142 | 129 => 167 | 317 => 166 | 318 => 168 | 319 => 169 | 320 => 170 | 337 => 176 | 338 => 177 | n => n, fun | 9 => 9 | 3 => 3 | 2 => 2 | 75 => 75 | 85 => 76 | 4 => 4 | 167 => 173 | 5 => 5 | 53 => 174 | 175 => 175 | 46 => 147 | 168 => 177 | 37 => 22 | 0 => 0 | 210 => 215 | 21 => 21 | 127 => 171 | 145 => 231 | 143 => 229 | 171 => 187 | 173 => 190 | 212 => 225 | 51 => 192 | 20 => 20 | 213 => 226 | 232 => 234 | 233 => 235 | 80 => 130 | n => n, fun | 15 => 2 | 16 => 3 | 17 => 7 | 18 => 8 | 19 => 9 | n => n⟩
theorem Tryz.laysC174 : Go.Proofs.LaysC.n174 Tryz.prog Tryz.laysC174_ren := {
  mixed := by kernel_rfl
  f129 := Tryz.func167.trans (congrArg some (by kernel_rfl))
  f171 := Tryz.func22.trans (congrArg some (by kernel_rfl))
  f174 := Tryz.func42.trans (congrArg some (by kernel_rfl))
  f205 := Tryz.func155.trans (congrArg some (by kernel_rfl))
  f243 := Tryz.func56.trans (congrArg some (by kernel_rfl))
  f245 := Tryz.func80.trans (congrArg some (by kernel_rfl))
  f246 := Tryz.func103.trans (congrArg some (by kernel_rfl))
  f247 := Tryz.func79.trans (congrArg some (by kernel_rfl))
  f279 := Tryz.func123.trans (congrArg some (by kernel_rfl))
  f280 := Tryz.func124.trans (congrArg some (by kernel_rfl))
  f281 := Tryz.func125.trans (congrArg some (by kernel_rfl))
  f282 := Tryz.func126.trans (congrArg some (by kernel_rfl))
  f283 := Tryz.func139.trans (congrArg some (by kernel_rfl))
  f284 := Tryz.func140.trans (congrArg some (by kernel_rfl))
  f285 := Tryz.func141.trans (congrArg some (by kernel_rfl))
  f286 := Tryz.func142.trans (congrArg some (by kernel_rfl))
  f287 := Tryz.func122.trans (congrArg some (by kernel_rfl))
  f316 := Tryz.func76.trans (congrArg some (by kernel_rfl))
  f317 := Tryz.func166.trans (congrArg some (by kernel_rfl))
  f318 := Tryz.func168.trans (congrArg some (by kernel_rfl))
  f319 := Tryz.func169.trans (congrArg some (by kernel_rfl))
  f320 := Tryz.func170.trans (congrArg some (by kernel_rfl))
  f321 := Tryz.func153.trans (congrArg some (by kernel_rfl))
  f322 := Tryz.func154.trans (congrArg some (by kernel_rfl))
  f337 := Tryz.func176.trans (congrArg some (by kernel_rfl))
  f338 := Tryz.func177.trans (congrArg some (by kernel_rfl))
  t0 := Tryz.underlying0
  a0 := Tryz.isAgg0
  z0 := Tryz.sizeOf0
  v0 := Tryz.zeroValue0
  t2 := Tryz.underlying2
  a2 := Tryz.isAgg2
  z2 := Tryz.sizeOf2
  v2 := Tryz.zeroValue2
  t3 := Tryz.underlying3
  a3 := Tryz.isAgg3
  z3 := Tryz.sizeOf3
  v3 := Tryz.zeroValue3
  t4 := Tryz.underlying4
  a4 := Tryz.isAgg4
  z4 := Tryz.sizeOf4
  v4 := Tryz.zeroValue4
  t5 := Tryz.underlying5
  a5 := Tryz.isAgg5
  z5 := Tryz.sizeOf5
  v5 := Tryz.zeroValue5
  t9 := Tryz.underlying9
  a9 := Tryz.isAgg9
  z9 := Tryz.sizeOf9
  v9 := Tryz.zeroValue9
  t20 := Tryz.underlying20
  a20 := Tryz.isAgg20
  z20 := Tryz.sizeOf20
  v20 := Tryz.zeroValue20
  t21 := Tryz.underlying21
  a21 := Tryz.isAgg21
  z21 := Tryz.sizeOf21
  v21 := Tryz.zeroValue21
  t37 := Tryz.underlying22
  a37 := Tryz.isAgg22
  z37 := Tryz.sizeOf22
  v37 := Tryz.zeroValue22
  t46 := Tryz.underlying147
  a46 := Tryz.isAgg147
  z46 := Tryz.sizeOf147
  v46 := Tryz.zeroValue147
  t51 := Tryz.underlying192
  a51 := Tryz.isAgg192
  z51 := Tryz.sizeOf192
  v51 := Tryz.zeroValue192
  t53 := Tryz.underlying174
  a53 := Tryz.isAgg174
  z53 := Tryz.sizeOf174
  v53 := Tryz.zeroValue174
  t75 := Tryz.underlying75
  a75 := Tryz.isAgg75
  z75 := Tryz.sizeOf75
  v75 := Tryz.zeroValue75
  t85 := Tryz.underlying76
  a85 := Tryz.isAgg76
  z85 := Tryz.sizeOf76
  v85 := Tryz.zeroValue76
  t127 := Tryz.underlying171
  a127 := Tryz.isAgg171
  z127 := Tryz.sizeOf171
  v127 := Tryz.zeroValue171
  t143 := Tryz.underlying229
  a143 := Tryz.isAgg229
  z143 := Tryz.sizeOf229
  v143 := Tryz.zeroValue229
  t145 := Tryz.underlying231
  a145 := Tryz.isAgg231
  z145 := Tryz.sizeOf231
  v145 := Tryz.zeroValue231
  t167 := Tryz.underlying173
  a167 := Tryz.isAgg173
  z167 := Tryz.sizeOf173
  v167 := Tryz.zeroValue173
  t168 := Tryz.underlying177
  a168 := Tryz.isAgg177
  z168 := Tryz.sizeOf177
  v168 := Tryz.zeroValue177
  t171 := Tryz.underlying187
  a171 := Tryz.isAgg187
  z171 := Tryz.sizeOf187
  v171 := Tryz.zeroValue187
  t173 := Tryz.underlying190
  a173 := Tryz.isAgg190
  z173 := Tryz.sizeOf190
  v173 := Tryz.zeroValue190
  t175 := Tryz.underlying175
  a175 := Tryz.isAgg175
  z175 := Tryz.sizeOf175
  v175 := Tryz.zeroValue175
  t210 := Tryz.underlying215
  a210 := Tryz.isAgg215
  z210 := Tryz.sizeOf215
  v210 := Tryz.zeroValue215
  t212 := Tryz.underlying225
  a212 := Tryz.isAgg225
  z212 := Tryz.sizeOf225
  v212 := Tryz.zeroValue225
  t213 := Tryz.underlying226
  a213 := Tryz.isAgg226
  z213 := Tryz.sizeOf226
  t232 := Tryz.underlying234
  a232 := Tryz.isAgg234
  z232 := Tryz.sizeOf234
  v232 := Tryz.zeroValue234
  t233 := Tryz.underlying235
  a233 := Tryz.isAgg235
  z233 := Tryz.sizeOf235
  v233 := Tryz.zeroValue235
  g15 := by kernel_rfl
  g16 := by kernel_rfl
  g17 := by kernel_rfl
  g18 := by kernel_rfl
  g19 := by kernel_rfl
  t80 := Tryz.underlying130
  a80 := Tryz.isAgg130
  z80 := Tryz.sizeOf130
  v80 := Tryz.zeroValue130
  i0 := by kernel_rfl
  i2 := by kernel_rfl
  i3 := by kernel_rfl
  i4 := by kernel_rfl
  i5 := by kernel_rfl
  i9 := by kernel_rfl
  i20 := by kernel_rfl
  i21 := by kernel_rfl
  i37 := by kernel_rfl
  i46 := by kernel_rfl
  i51 := by kernel_rfl
  i53 := by kernel_rfl
  i75 := by kernel_rfl
  i80 := by kernel_rfl
  i85 := by kernel_rfl
  i127 := by kernel_rfl
  i143 := by kernel_rfl
  i145 := by kernel_rfl
  i167 := by kernel_rfl
  i168 := by kernel_rfl
  i171 := by kernel_rfl
  i173 := by kernel_rfl
  i175 := by kernel_rfl
  i210 := by kernel_rfl
  i212 := by kernel_rfl
  i232 := by kernel_rfl
  i233 := by kernel_rfl
  m15 := by kernel_rfl
  m16 := by kernel_rfl
  m17 := by kernel_rfl
  m18 := by kernel_rfl
  m19 := by kernel_rfl
  c0 := by kernel_rfl
  c2 := by kernel_rfl
  c3 := by kernel_rfl
  c4 := by kernel_rfl
  c5 := by kernel_rfl
  c9 := by kernel_rfl
  c20 := by kernel_rfl
  c21 := by kernel_rfl
  c37 := by kernel_rfl
  c46 := by kernel_rfl
  c51 := by kernel_rfl
  c53 := by kernel_rfl
  c75 := by kernel_rfl
  c80 := by kernel_rfl
  c85 := by kernel_rfl
  c127 := by kernel_rfl
  c143 := by kernel_rfl
  c145 := by kernel_rfl
  c167 := by kernel_rfl
  c168 := by kernel_rfl
  c171 := by kernel_rfl
  c173 := by kernel_rfl
  c175 := by kernel_rfl
  c210 := by kernel_rfl
  c212 := by kernel_rfl
  c213 := by kernel_rfl
  c232 := by kernel_rfl
  c233 := by kernel_rfl }
open Go.RowKit in
theorem Tryz.strconv_ParseInt_10_at64_ok (s : ByteArray) (hmax : s.size ≤ 9223372036854775806) (v : Int) (h : Lib.parseIntB 64 s.data.toList = .ok v) (w : World) :
    Calls Tryz.prog 42 #[.string s, .int .i64 10, .int .i64 64] w fun e w' => e = .returned (.tuple #[.int .i64 v, .nilIface]) ∧ (w' = w ∨ ∃ t, w' = Lib.bytesWorld w 5 t) := Any.strconv_ParseInt_10_at64_ok Tryz.laysC174 s hmax v h w
open Go.RowKit in
theorem Tryz.strconv_ParseInt_10_at64_syntax_var (s : ByteArray) (hlim : s.size ≤ 281474976710656) (h : Lib.parseIntB 64 s.data.toList = .«syntax») (tp : TypeId) (p : Value) (w : World) (hvar : w.var? Tryz.prog "strconv.ErrSyntax" = some #[.iface tp p]) :
    Calls Tryz.prog 42 #[.string s, .int .i64 10, .int .i64 64] w fun e w' => ∃ N, e = .returned (.tuple #[.int .i64 (0), .iface 177 (.pointer (some ⟨N, 0, none⟩))]) ∧ w.heap.size ≤ N ∧ w'.heap[N]? = some (.cells #[.string ⟨#[80, 97, 114, 115, 101, 73, 110, 116]⟩, .string s, .iface tp p] 215 (0, 0)) ∧ Below w.heap.size w w' := Any.strconv_ParseInt_10_at64_syntax_var Tryz.laysC174 s hlim h tp p w hvar
open Go.RowKit in
theorem Tryz.strconv_ParseInt_10_at64_range_var (s : ByteArray) (hlim : s.size ≤ 281474976710656) (h : Lib.parseIntB 64 s.data.toList = .range) (tp : TypeId) (p : Value) (w : World) (hvar : w.var? Tryz.prog "strconv.ErrRange" = some #[.iface tp p]) :
    Calls Tryz.prog 42 #[.string s, .int .i64 10, .int .i64 64] w fun e w' => ∃ N, e = .returned (.tuple #[.int .i64 (Lib.intSat 64 s.data.toList), .iface 177 (.pointer (some ⟨N, 0, none⟩))]) ∧ w.heap.size ≤ N ∧ w'.heap[N]? = some (.cells #[.string ⟨#[80, 97, 114, 115, 101, 73, 110, 116]⟩, .string s, .iface tp p] 215 (0, 0)) ∧ Below w.heap.size w w' := Any.strconv_ParseInt_10_at64_range_var Tryz.laysC174 s hlim h tp p w hvar
def Tryz.lays154_ren : Go.Shelf.Ren := ⟨fun | 154 => 43 | 138 => 81 | 165 => 82 | 143 => 83 | 166 => 84 | 197 => 85 | 169 => 86 | 195 => 127 | 218 => 128 | 240 => 129 | 241 => 130 | 219 => 131 | 260 => 132 | 276 => 156 | 277 => 157 | 217 => 158 | 225 => 159 | 224 => 160 | 267 => 161 | 266 => 173 | 314 => 174 | n => n, fun | 9 => 9 | 3 => 3 | 4 => 4 | 72 => 124 | 0 => 0 | 76 => 126 | 105 => 128 | 21 => 21 | 5 => 5 | 70 => 122 | 20 => 20 | 37 => 22 | 75 => 75 | 127 => 171 | 164 => 157 | 46 => 147 | 119 => 219 | 139 => 222 | 138 => 221 | 146 => 193 | 51 => 192 | 80 => 130 | n => n, fun | 1 => 4 | 3 => 5 | 4 => 6 | n => n⟩
theorem Tryz.lays154 : Go.Proofs.Lays.n154 Tryz.prog Tryz.lays154_ren := {
  mixed := by kernel_rfl
  f138 := Tryz.func81.trans (congrArg some (by kernel_rfl))
  f143 := Tryz.func83.trans (congrArg some (by kernel_rfl))
  f154 := Tryz.func43.trans (congrArg some (by kernel_rfl))
  f165 := Tryz.func82.trans (congrArg some (by kernel_rfl))
  f166 := Tryz.func84.trans (congrArg some (by kernel_rfl))
  f169 := Tryz.func86.trans (congrArg some (by kernel_rfl))
  f195 := Tryz.func127.trans (congrArg some (by kernel_rfl))
  f197 := Tryz.func85.trans (congrArg some (by kernel_rfl))
  f217 := Tryz.func158.trans (congrArg some (by kernel_rfl))
  f218 := Tryz.func128.trans (congrArg some (by kernel_rfl))
  f219 := Tryz.func131.trans (congrArg some (by kernel_rfl))
  f224 := Tryz.func160.trans (congrArg some (by kernel_rfl))
  f225 := Tryz.func159.trans (congrArg some (by kernel_rfl))
  f240 := Tryz.func129.trans (congrArg some (by kernel_rfl))
  f241 := Tryz.func130.trans (congrArg some (by kernel_rfl))
  f260 := Tryz.func132.trans (congrArg some (by kernel_rfl))
  f266 := Tryz.func173.trans (congrArg some (by kernel_rfl))
  f267 := Tryz.func161.trans (congrArg some (by kernel_rfl))
  f276 := Tryz.func156.trans (congrArg some (by kernel_rfl))
  f277 := Tryz.func157.trans (congrArg some (by kernel_rfl))
  f314 := Tryz.func174.trans (congrArg some (by kernel_rfl))
  t0 := Tryz.underlying0
  a0 := Tryz.isAgg0
  z0 := Tryz.sizeOf0
  v0 := Tryz.zeroValue0
  t3 := Tryz.underlying3
  a3 := Tryz.isAgg3
  z3 := Tryz.sizeOf3
  v3 := Tryz.zeroValue3
  t4 := Tryz.underlying4
  a4 := Tryz.isAgg4
  z4 := Tryz.sizeOf4
  v4 := Tryz.zeroValue4
  t5 := Tryz.underlying5
  a5 := Tryz.isAgg5
  z5 := Tryz.sizeOf5
  v5 := Tryz.zeroValue5
  t9 := Tryz.underlying9
  a9 := Tryz.isAgg9
  z9 := Tryz.sizeOf9
  v9 := Tryz.zeroValue9
  t20 := Tryz.underlying20
  a20 := Tryz.isAgg20
  z20 := Tryz.sizeOf20
  v20 := Tryz.zeroValue20
  t21 := Tryz.underlying21
  a21 := Tryz.isAgg21
  z21 := Tryz.sizeOf21
  v21 := Tryz.zeroValue21
  t37 := Tryz.underlying22
  a37 := Tryz.isAgg22
  z37 := Tryz.sizeOf22
  v37 := Tryz.zeroValue22
  t46 := Tryz.underlying147
  a46 := Tryz.isAgg147
  z46 := Tryz.sizeOf147
  v46 := Tryz.zeroValue147
  t51 := Tryz.underlying192
  a51 := Tryz.isAgg192
  z51 := Tryz.sizeOf192
  v51 := Tryz.zeroValue192
  t70 := Tryz.underlying122
  a70 := Tryz.isAgg122
  z70 := Tryz.sizeOf122
  v70 := Tryz.zeroValue122
  t72 := Tryz.underlying124
  a72 := Tryz.isAgg124
  z72 := Tryz.sizeOf124
  v72 := Tryz.zeroValue124
  t75 := Tryz.underlying75
  a75 := Tryz.isAgg75
  z75 := Tryz.sizeOf75
  v75 := Tryz.zeroValue75
  t76 := Tryz.underlying126
  a76 := Tryz.isAgg126
  z76 := Tryz.sizeOf126
  v76 := Tryz.zeroValue126
  t105 := Tryz.underlying128
  a105 := Tryz.isAgg128
  z105 := Tryz.sizeOf128
  v105 := Tryz.zeroValue128
  t119 := Tryz.underlying219
  a119 := Tryz.isAgg219
  z119 := Tryz.sizeOf219
  t127 := Tryz.underlying171
  a127 := Tryz.isAgg171
  z127 := Tryz.sizeOf171
  v127 := Tryz.zeroValue171
  t138 := Tryz.underlying221
  a138 := Tryz.isAgg221
  z138 := Tryz.sizeOf221
  v138 := Tryz.zeroValue221
  t139 := Tryz.underlying222
  a139 := Tryz.isAgg222
  z139 := Tryz.sizeOf222
  v139 := Tryz.zeroValue222
  t146 := Tryz.underlying193
  a146 := Tryz.isAgg193
  z146 := Tryz.sizeOf193
  v146 := Tryz.zeroValue193
  t164 := Tryz.underlying157
  a164 := Tryz.isAgg157
  z164 := Tryz.sizeOf157
  v164 := Tryz.zeroValue157
  g1 := by kernel_rfl
  g3 := by kernel_rfl
  g4 := by kernel_rfl }
theorem Tryz.Builder_Extra_154 : Builder.Extra Tryz.prog Tryz.lays154_ren := {
  sizeBuilder := by kernel_rfl
  liesBuilder := by kernel_rfl
  t5 := Tryz.underlying5
  a5 := Tryz.isAgg5
  z5 := Tryz.sizeOf5
  v5 := Tryz.zeroValue5
  infoByte := by kernel_rfl
  cellsByte := by kernel_rfl
  sizeByte := by kernel_rfl
  neB5 := by decide }
open Go.RowKit Go.Lib in
theorem Tryz.strings_Replace (s old new : ByteArray) (n : Int) (m : Int) (w : World) (hs : s.size < 4294967281) (hm : w.cell? ⟨4, 0, none⟩ = some (.int .i64 m)) (h1 : 1 ≤ old.size) (hlen : s.size + Lib.countB s old * new.size ≤ 140737488355328) :
    Calls Tryz.prog 43 #[.string s, .string old, .string new, .int .i64 n] w fun e w' =>
      e = .returned (.string ⟨(Lib.replace s.data.toList old.data.toList new.data.toList n).toArray⟩) ∧ Below w.heap.size w w' := Any.strings_Replace Tryz.lays154 Tryz.Builder_Extra_154 s old new n m w hs hm h1 hlen
def Tryz.lays105_ren : Go.Shelf.Ren := ⟨fun | 105 => 60 | 212 => 106 | 99 => 107 | 165 => 82 | 166 => 84 | 170 => 108 | 169 => 86 | 263 => 143 | 264 => 144 | 206 => 145 | 240 => 129 | 241 => 130 | 276 => 156 | 277 => 157 | n => n, fun | 9 => 9 | 3 => 3 | 4 => 4 | 20 => 20 | 0 => 0 | 46 => 147 | 109 => 148 | 5 => 5 | 72 => 124 | 76 => 126 | 51 => 192 | 146 => 193 | 53 => 174 | 148 => 195 | 70 => 122 | 37 => 22 | 75 => 75 | 127 => 171 | 164 => 157 | 80 => 130 | n => n, fun | n => n⟩
theorem Tryz.lays105 : Go.Proofs.Lays.n105 Tryz.prog Tryz.lays105_ren := {
  mixed := by kernel_rfl
  f99 := Tryz.func107.trans (congrArg some (by kernel_rfl))
  f105 := Tryz.func60.trans (congrArg some (by kernel_rfl))
  f165 := Tryz.func82.trans (congrArg some (by kernel_rfl))
  f166 := Tryz.func84.trans (congrArg some (by kernel_rfl))
  f169 := Tryz.func86.trans (congrArg some (by kernel_rfl))
  f170 := Tryz.func108.trans (congrArg some (by kernel_rfl))
  f206 := Tryz.func145.trans (congrArg some (by kernel_rfl))
  f212 := Tryz.func106.trans (congrArg some (by kernel_rfl))
  f240 := Tryz.func129.trans (congrArg some (by kernel_rfl))
  f241 := Tryz.func130.trans (congrArg some (by kernel_rfl))
  f263 := Tryz.func143.trans (congrArg some (by kernel_rfl))
  f264 := Tryz.func144.trans (congrArg some (by kernel_rfl))
  f276 := Tryz.func156.trans (congrArg some (by kernel_rfl))
  f277 := Tryz.func157.trans (congrArg some (by kernel_rfl))
  t0 := Tryz.underlying0
  a0 := Tryz.isAgg0
  z0 := Tryz.sizeOf0
  v0 := Tryz.zeroValue0
  t3 := Tryz.underlying3
  a3 := Tryz.isAgg3
  z3 := Tryz.sizeOf3
  v3 := Tryz.zeroValue3
  t4 := Tryz.underlying4
  a4 := Tryz.isAgg4
  z4 := Tryz.sizeOf4
  v4 := Tryz.zeroValue4
  t5 := Tryz.underlying5
  a5 := Tryz.isAgg5
  z5 := Tryz.sizeOf5
  v5 := Tryz.zeroValue5
  t9 := Tryz.underlying9
  a9 := Tryz.isAgg9
  z9 := Tryz.sizeOf9
  v9 := Tryz.zeroValue9
  t20 := Tryz.underlying20
  a20 := Tryz.isAgg20
  z20 := Tryz.sizeOf20
  v20 := Tryz.zeroValue20
  t37 := Tryz.underlying22
  a37 := Tryz.isAgg22
  z37 := Tryz.sizeOf22
  v37 := Tryz.zeroValue22
  t46 := Tryz.underlying147
  a46 := Tryz.isAgg147
  z46 := Tryz.sizeOf147
  v46 := Tryz.zeroValue147
  t51 := Tryz.underlying192
  a51 := Tryz.isAgg192
  z51 := Tryz.sizeOf192
  v51 := Tryz.zeroValue192
  t53 := Tryz.underlying174
  a53 := Tryz.isAgg174
  z53 := Tryz.sizeOf174
  v53 := Tryz.zeroValue174
  t70 := Tryz.underlying122
  a70 := Tryz.isAgg122
  z70 := Tryz.sizeOf122
  v70 := Tryz.zeroValue122
  t72 := Tryz.underlying124
  a72 := Tryz.isAgg124
  z72 := Tryz.sizeOf124
  v72 := Tryz.zeroValue124
  t75 := Tryz.underlying75
  a75 := Tryz.isAgg75
  z75 := Tryz.sizeOf75
  v75 := Tryz.zeroValue75
  t76 := Tryz.underlying126
  a76 := Tryz.isAgg126
  z76 := Tryz.sizeOf126
  v76 := Tryz.zeroValue126
  t109 := Tryz.underlying148
  a109 := Tryz.isAgg148
  z109 := Tryz.sizeOf148
  v109 := Tryz.zeroValue148
  t127 := Tryz.underlying171
  a127 := Tryz.isAgg171
  z127 := Tryz.sizeOf171
  v127 := Tryz.zeroValue171
  t146 := Tryz.underlying193
  a146 := Tryz.isAgg193
  z146 := Tryz.sizeOf193
  v146 := Tryz.zeroValue193
  t148 := Tryz.underlying195
  a148 := Tryz.isAgg195
  z148 := Tryz.sizeOf195
  v148 := Tryz.zeroValue195
  t164 := Tryz.underlying157
  a164 := Tryz.isAgg157
  z164 := Tryz.sizeOf157
  v164 := Tryz.zeroValue157 }
theorem Tryz.Builder_Extra_105 : Builder.Extra Tryz.prog Tryz.lays105_ren := {
  sizeBuilder := by kernel_rfl
  liesBuilder := by kernel_rfl
  t5 := Tryz.underlying5
  a5 := Tryz.isAgg5
  z5 := Tryz.sizeOf5
  v5 := Tryz.zeroValue5
  infoByte := by kernel_rfl
  cellsByte := by kernel_rfl
  sizeByte := by kernel_rfl
  neB5 := by decide }
open Go.RowKit Go.Lib in
theorem Tryz.strings_Repeat (s : ByteArray) (c : Nat) (w : World) (hc : c ≤ 9223372036854775807) (hlen : s.size * c ≤ 140737488355328) :
    Calls Tryz.prog 60 #[.string s, .int .i64 c] w fun e w' => e = .returned (.string ⟨(Lib.repeatL s.data.toList c).toArray⟩) ∧ Below w.heap.size w w' := Any.strings_Repeat Tryz.lays105 Tryz.Builder_Extra_105 s c w hc hlen
end Go.Proofs
/- Messages, plainly: what form a field's data has, when a field is so, when a list of fields is. No Go in sight. -/
namespace Go.Proofs.YtjnekdihmchlpaaGreatDoor
abbrev Fld := Int × List UInt8
def knowns : List Int := [2, 3, 4, 12, 24, 25, 31, 37, 38, 42, 48, 49, 71, 72, 93]
/-- how a field is written (0 for one that is not known), and its length or its most -/
def fK (n : Int) : Int :=
  if n = 3 ∨ n = 4 ∨ n = 12 ∨ n = 24 ∨ n = 49 ∨ n = 25 ∨ n = 71 then 1 else if n = 2 ∨ n = 93 then 2
  else if n = 37 ∨ n = 38 ∨ n = 42 then 3 else if n = 31 then 4 else if n = 48 ∨ n = 72 then 5 else 0
def fS (n : Int) : Int :=
  if n = 3 ∨ n = 38 then 6 else if n = 4 ∨ n = 12 ∨ n = 37 then 12 else if n = 24 ∨ n = 49 then 3 else if n = 25 then 4 else if n = 71 then 8
  else if n = 2 then 19 else if n = 93 then 11 else if n = 42 then 15 else if n = 31 then 23 else if n = 48 ∨ n = 72 then 999 else 0
def fieldKS (k s : Int) (d : List UInt8) : Bool :=
  if k = 1 then decide ((d.length : Int) = s) && within 48 57 d
  else if k = 2 then decide ((d.length : Int) ≤ s) && within 48 57 d
  else if k = 3 then decide ((d.length : Int) = s) && within 32 126 d
  else if k = 4 ∨ k = 5 then decide ((d.length : Int) ≤ s) && within 32 126 d
  else false
def fieldOk (n : Int) (d : List UInt8) : Bool := fieldKS (fK n) (fS n) d
theorem not_known {n : Int} (h : n ∉ knowns) : n ≠ 2 ∧ n ≠ 3 ∧ n ≠ 4 ∧ n ≠ 12 ∧ n ≠ 24 ∧ n ≠ 25 ∧ n ≠ 31 ∧ n ≠ 37 ∧ n ≠ 38 ∧ n ≠ 42 ∧ n ≠ 48 ∧ n ≠ 49 ∧ n ≠ 71 ∧ n ≠ 72 ∧ n ≠ 93 := by
  simpa [knowns] using h
theorem fK_no {n : Int} (h : n ∉ knowns) : fK n = 0 := by
  obtain ⟨h1, h2, h3, h4, h5, h6, h7, h8, h9, h10, h11, h12, h13, h14, h15⟩ := not_known h
  unfold fK; simp [*]
theorem fS_no {n : Int} (h : n ∉ knowns) : fS n = 0 := by
  obtain ⟨h1, h2, h3, h4, h5, h6, h7, h8, h9, h10, h11, h12, h13, h14, h15⟩ := not_known h
  unfold fS; simp [*]
theorem known_in {n : Int} (h : n ∈ knowns) : n = 2 ∨ n = 3 ∨ n = 4 ∨ n = 12 ∨ n = 24 ∨ n = 25 ∨ n = 31 ∨ n = 37 ∨ n = 38 ∨ n = 42 ∨ n = 48 ∨ n = 49 ∨ n = 71 ∨ n = 72 ∨ n = 93 := by
  simpa [knowns] using h
theorem known_K {n : Int} (h : n ∈ knowns) : (fK n = 1 ∨ fK n = 2 ∨ fK n = 3 ∨ fK n = 4 ∨ fK n = 5) ∧ 0 ≤ fS n ∧ fS n ≤ 999 ∧ 2 ≤ n ∧ n ≤ 93 ∧ (fK n = 1 → fS n ≤ 12) ∧ (fK n = 2 → fS n ≤ 19) ∧ (fK n = 3 → fS n ≤ 15) ∧ (fK n = 4 → fS n = 23) ∧ (fK n = 5 → fS n = 999) := by
  rcases known_in h with rfl | rfl | rfl | rfl | rfl | rfl | rfl | rfl | rfl | rfl | rfl | rfl | rfl | rfl | rfl <;> decide
theorem ok_known {n : Int} {d : List UInt8} (h : fieldOk n d = true) : n ∈ knowns := by
  by_cases hn : n ∈ knowns
  · exact hn
  · simp [fieldOk, fieldKS, fK_no hn] at h
theorem fieldOk_no {n : Int} {d : List UInt8} (h : n ∉ knowns) : fieldOk n d = false := by simp [fieldOk, fieldKS, fK_no h]
/-- from p on: each field so, and its number behind the one ahead of it -/
def okF (p : Int) : List Fld → Bool
  | [] => true
  | f :: r => (fieldOk f.1 f.2 && decide (p < f.1)) && okF f.1 r
def at0 (fs : List Fld) (k : Nat) : Fld := fs.getD k (0, [])
theorem okF_step (fs : List Fld) (k : Nat) (p : Int) (h : k < fs.length) : okF p (fs.drop k) = ((fieldOk (at0 fs k).1 (at0 fs k).2 && decide (p < (at0 fs k).1)) && okF (at0 fs k).1 (fs.drop (k + 1))) := by
  have e : at0 fs k = fs[k] := by simp [at0, List.getD_eq_getElem?_getD, h]
  rw [List.drop_eq_getElem_cons h, e]; rfl
def prevF (fs : List Fld) (k : Nat) : Int := if k = 0 then 1 else (at0 fs (k - 1)).1
def msgOk (kd : Int) (fs : List Fld) : Bool := decide (0 ≤ kd ∧ kd ≤ 9999) && okF 1 fs
theorem okF_end (p : Int) (fs : List Fld) : okF p (fs.drop fs.length) = true := by rw [List.drop_of_length_le (Nat.le_refl _)]; rfl
theorem okF_mem {fs : List Fld} : ∀ {p : Int}, okF p fs = true → ∀ f ∈ fs, fieldOk f.1 f.2 = true ∧ p < f.1 := by
  induction fs with
  | nil => intro p _ f hf; cases hf
  | cons g r ih =>
    intro p h f hf
    simp only [okF, Bool.and_eq_true, decide_eq_true_eq] at h
    rcases List.mem_cons.1 hf with rfl | hr
    · exact h.1
    · have := ih h.2 f hr
      exact ⟨this.1, by omega⟩
theorem okF_len {fs : List Fld} : ∀ {p : Int}, okF p fs = true → 1 ≤ p → fs = [] ∨ (fs.length : Int) + p ≤ 93 := by
  induction fs with
  | nil => intro p _ _; exact .inl rfl
  | cons g r ih =>
    intro p h hp
    simp only [okF, Bool.and_eq_true, decide_eq_true_eq] at h
    have hk := known_K (ok_known h.1.1)
    rcases ih h.2 (by omega) with rfl | h2
    · right; simp; omega
    · right; simp; omega
end Go.Proofs.YtjnekdihmchlpaaGreatDoor
/- The contract of the library's strings.Clone, at a text given as bytes. -/
namespace Go.Proofs.YtjnekdihmchlpaaGreatDoor
open Go.RowKit
set_option maxHeartbeats 400000 in
theorem clone_any (l : List UInt8) (w : World) (hl : l.length ≤ 1099511627776) :
    Calls Tryz.prog 40 #[.string ⟨l.toArray⟩] w fun e w' => e = .returned (.string ⟨l.toArray⟩) ∧ Below w.heap.size w w' := by
  go_enter Tryz.func40, Tryz.ntmps40
  go_wp2_with fail
  refine (Tryz.stringslite_Clone ⟨l.toArray⟩ _ (by rw [ba_size]; omega)).mono ?_
  rintro e w1 ⟨rfl, b1⟩
  go_wp2
  go_ret
  exact ⟨rfl, b1⟩
end Go.Proofs.YtjnekdihmchlpaaGreatDoor
/- Digits, two a byte: how they are put and how they come back, over plain lists. No Go in sight. -/
namespace Go.Proofs.YtjnekdihmchlpaaGreatDoor
open Go.RowKit
theorem map_range_set {α : Type} (f g : Nat → α) (m j : Nat) (h : ∀ i, i ≠ j → f i = g i) : ((List.range m).map f).set j (g j) = (List.range m).map g := by
  apply List.ext_getElem?
  intro i
  rw [List.getElem?_set]
  by_cases e : j = i
  · subst e
    by_cases hm : j < m
    · simp [hm]
    · simp [hm]
  · simp only [e, if_false, List.getElem?_map]
    by_cases hm : i < m
    · simp [hm, h i (fun x => e x.symm)]
    · simp [hm]
theorem map_range_at {α : Type} (f : Nat → α) (m j : Nat) (h : j < m) : ((List.range m).map f)[j]? = some (f j) := by simp [h]
theorem getD_map_range (f : Nat → UInt8) (m j : Nat) (h : j < m) : ((List.range m).map f).getD j 0 = f j := by simp [List.getD_eq_getElem?_getD, h]
/-- the worth of the digit at place h, 0 behind the end -/
def dg (e : List UInt8) (h : Nat) : Nat := (e.getD h 0).toNat - 48
/-- byte j of the digits e -/
def pkB (e : List UInt8) (j : Nat) : UInt8 := UInt8.ofNat (dg e (2 * j) * 16 + dg e (2 * j + 1))
def pkL (e : List UInt8) (m : Nat) : List UInt8 := (List.range m).map (pkB e)
theorem pkL_succ (e : List UInt8) (m : Nat) : pkL e (m + 1) = pkL e m ++ [pkB e m] := by simp [pkL, List.range_succ]
theorem pkL_len (e : List UInt8) (m : Nat) : (pkL e m).length = m := by simp [pkL]
/-- a nought ahead where their number is odd -/
def padE (l : List UInt8) : List UInt8 := if l.length % 2 = 1 then 48 :: l else l
theorem padE_odd {l : List UInt8} (h : l.length % 2 = 1) : padE l = 48 :: l := if_pos h
theorem padE_even {l : List UInt8} (h : l.length % 2 = 0) : padE l = l := if_neg (by omega)
theorem padE_len (l : List UInt8) : (padE l).length = 2 * ((l.length + 1) / 2) := by
  by_cases h : l.length % 2 = 1
  · rw [padE_odd h, List.length_cons]; omega
  · rw [padE_even (by omega)]; omega
theorem padE_at (l : List UInt8) (k : Nat) : (padE l).getD (k + l.length % 2) 0 = l.getD k 0 := by
  by_cases h : l.length % 2 = 1
  · rw [padE_odd h, h]; simp [List.getD_eq_getElem?_getD]
  · rw [padE_even (by omega), show l.length % 2 = 0 from by omega]; rfl
theorem padE_dig {l : List UInt8} (h : within 48 57 l = true) : within 48 57 (padE l) = true := by
  by_cases e : l.length % 2 = 1
  · rw [padE_odd e]; refine within_of fun c hc => ?_
    rcases List.mem_cons.1 hc with rfl | hc
    · decide
    · exact within_mem h c hc
  · rw [padE_even (by omega)]; exact h
theorem dg_le {e : List UInt8} (h : within 48 57 e = true) (k : Nat) : dg e k ≤ 9 := by
  unfold dg
  by_cases hk : k < e.length
  · have := within_at h hk; omega
  · rw [List.getD_eq_getElem?_getD, List.getElem?_eq_none (by omega)]; decide
def putD (l : List UInt8) : Option (List UInt8) := if within 48 57 l = true ∧ l.length ≤ 100 then some (pkL (padE l) ((l.length + 1) / 2)) else none
theorem putD_no1 {l : List UInt8} (h : within 48 57 l = false) : putD l = none := if_neg (by rw [h]; simp)
theorem putD_no2 {l : List UInt8} (h : 100 < l.length) : putD l = none := if_neg (by omega)
theorem putD_yes {l : List UInt8} (h1 : within 48 57 l = true) (h2 : l.length ≤ 100) : putD l = some (pkL (padE l) ((l.length + 1) / 2)) := if_pos ⟨h1, h2⟩
theorem putD_len (l : List UInt8) : ((putD l).getD []).length ≤ 50 := by
  unfold putD
  split
  · rename_i h
    simp only [Option.getD_some, pkL_len]; omega
  · simp
/-- byte j when the digits ahead of place h are put -/
def cellK (e : List UInt8) (h j : Nat) : Nat := (if 2 * j < h then dg e (2 * j) else 0) * 16 + (if 2 * j + 1 < h then dg e (2 * j + 1) else 0)
theorem cellK_first {l : List UInt8} (j : Nat) : cellK (padE l) (l.length % 2) j = 0 := by
  unfold cellK
  by_cases h : l.length % 2 = 1
  · rw [padE_odd h, h]
    by_cases hj : j = 0
    · subst hj; rfl
    · rw [if_neg (by omega), if_neg (by omega)]
  · rw [show l.length % 2 = 0 from by omega, if_neg (by omega), if_neg (by omega)]
theorem cellK_other (e : List UInt8) (h j : Nat) (hj : j ≠ h / 2) : cellK e h j = cellK e (h + 1) j := by
  unfold cellK
  have a : (2 * j < h) ↔ (2 * j < h + 1) := by omega
  have b : (2 * j + 1 < h) ↔ (2 * j + 1 < h + 1) := by omega
  simp only [a, b]
theorem cellK_even (e : List UInt8) (h : Nat) (hh : h % 2 = 0) : cellK e h (h / 2) = 0 ∧ cellK e (h + 1) (h / 2) = dg e h * 16 := by
  unfold cellK
  rw [show 2 * (h / 2) = h from by omega, if_neg (by omega), if_neg (by omega), if_pos (by omega), if_neg (by omega)]
  omega
theorem cellK_odd (e : List UInt8) (h : Nat) (hh : h % 2 = 1) : cellK e h (h / 2) = dg e (h - 1) * 16 ∧ cellK e (h + 1) (h / 2) = dg e (h - 1) * 16 + dg e h := by
  unfold cellK
  rw [show 2 * (h / 2) = h - 1 from by omega, if_pos (by omega), if_neg (by omega), if_pos (by omega), if_pos (by omega), show h - 1 + 1 = h from by omega]
  omega
theorem cellK_all (e : List UInt8) (m j : Nat) (hj : j < m) : cellK e (2 * m) j = dg e (2 * j) * 16 + dg e (2 * j + 1) := by
  unfold cellK
  rw [if_pos (by omega), if_pos (by omega)]
/-- half h of the bytes b: the upper one of a byte is the even one -/
def nib (b : List UInt8) (h : Nat) : Nat := if h % 2 = 0 then (b.getD (h / 2) 0).toNat / 16 else (b.getD (h / 2) 0).toNat % 16
theorem nib_lt (b : List UInt8) (h : Nat) : nib b h < 16 := by
  unfold nib
  have := (b.getD (h / 2) 0).toNat_lt
  split <;> omega
def unB (b : List UInt8) (h : Nat) : UInt8 := UInt8.ofNat (48 + nib b h)
theorem unB_nat (b : List UInt8) (h : Nat) : (unB b h).toNat = 48 + nib b h := by
  have := nib_lt b h
  unfold unB; rw [UInt8.toNat_ofNat']; omega
def unL (b : List UInt8) (n : Nat) : List UInt8 := (List.range n).map fun k => unB b (k + n % 2)
theorem unL_len (b : List UInt8) (n : Nat) : (unL b n).length = n := by simp [unL]
/-- all halves, both of each of the first k bytes -/
def flat (b : List UInt8) (k : Nat) : List UInt8 := (List.range (2 * k)).map (unB b)
theorem flat_succ (b : List UInt8) (k : Nat) : flat b (k + 1) = flat b k ++ [unB b (2 * k), unB b (2 * k + 1)] := by
  unfold flat
  rw [show 2 * (k + 1) = 2 * k + 1 + 1 from by omega, List.range_succ, List.range_succ]
  simp
theorem flat_len (b : List UInt8) (k : Nat) : (flat b k).length = 2 * k := by simp [flat]
theorem flat_drop (b : List UInt8) (n : Nat) : (flat b ((n + 1) / 2)).drop (n % 2) = unL b n := by
  apply List.ext_getElem?
  intro i
  unfold flat unL
  rw [List.getElem?_drop]
  by_cases h : i < n
  · rw [map_range_at _ _ _ (by omega), map_range_at _ _ _ h, Nat.add_comm]
  · rw [List.getElem?_eq_none (by simp; omega), List.getElem?_eq_none (by simp; omega)]
/-- whether the bytes b are what n digits are put as -/
def goodB (b : List UInt8) (n : Nat) : Bool := (List.range (2 * ((n + 1) / 2))).all (fun h => decide (nib b h ≤ 9)) && (decide (n % 2 = 0) || decide (nib b 0 = 0))
def low9 (b : List UInt8) (k : Nat) : Bool := (List.range k).all fun j => decide ((b.getD j 0).toNat / 16 ≤ 9) && decide ((b.getD j 0).toNat % 16 ≤ 9)
theorem low9_succ (b : List UInt8) (k : Nat) : low9 b (k + 1) = (low9 b k && (decide ((b.getD k 0).toNat / 16 ≤ 9) && decide ((b.getD k 0).toNat % 16 ≤ 9))) := by
  unfold low9
  rw [List.range_succ, List.all_append]
  simp
theorem low9_all (b : List UInt8) (m : Nat) : (List.range (2 * m)).all (fun h => decide (nib b h ≤ 9)) = low9 b m := by
  induction m with
  | zero => rfl
  | succ m ih =>
    rw [low9_succ, ← ih, show 2 * (m + 1) = 2 * m + 1 + 1 from by omega, List.range_succ, List.range_succ, List.all_append, List.all_append]
    simp only [List.all_cons, List.all_nil, Bool.and_true, Bool.and_assoc]
    rw [show nib b (2 * m) = (b.getD m 0).toNat / 16 from by unfold nib; rw [if_pos (by omega), show 2 * m / 2 = m from by omega], show nib b (2 * m + 1) = (b.getD m 0).toNat % 16 from by unfold nib; rw [if_neg (by omega), show (2 * m + 1) / 2 = m from by omega]]
theorem goodB_iff {b : List UInt8} {n : Nat} : goodB b n = true ↔ (∀ h, h < 2 * ((n + 1) / 2) → nib b h ≤ 9) ∧ (n % 2 = 1 → nib b 0 = 0) := by
  unfold goodB
  rw [Bool.and_eq_true, List.all_eq_true, Bool.or_eq_true]
  simp only [List.mem_range, decide_eq_true_eq]
  constructor
  · rintro ⟨h1, h2⟩; exact ⟨h1, fun h => by omega⟩
  · rintro ⟨h1, h2⟩; exact ⟨h1, by by_cases e : n % 2 = 0 <;> simp [e] <;> exact h2 (by omega)⟩
theorem byte_halves (b : List UInt8) (j : Nat) : UInt8.ofNat (nib b (2 * j) * 16 + nib b (2 * j + 1)) = b.getD j 0 := by
  have h := (b.getD j 0).toNat_lt
  have e : nib b (2 * j) * 16 + nib b (2 * j + 1) = (b.getD j 0).toNat := by
    unfold nib
    rw [if_pos (by omega), if_neg (by omega), show 2 * j / 2 = j from by omega, show (2 * j + 1) / 2 = j from by omega]
    omega
  rw [e, UInt8.ofNat_toNat]
theorem eq_range (b : List UInt8) (m : Nat) (h : b.length = m) : b = (List.range m).map (fun j => b.getD j 0) := by
  apply List.ext_getElem?
  intro i
  by_cases hi : i < m
  · rw [map_range_at _ _ _ hi, List.getD_eq_getElem?_getD, List.getElem?_eq_getElem (by omega)]; rfl
  · rw [List.getElem?_eq_none (by omega), List.getElem?_eq_none (by simp; omega)]
theorem unL_at (b : List UInt8) (n h : Nat) (h1 : n % 2 ≤ h) (h2 : h < 2 * ((n + 1) / 2)) : dg (padE (unL b n)) h = nib b h := by
  have e := padE_at (unL b n) (h - n % 2)
  rw [unL_len, show h - n % 2 + n % 2 = h from by omega] at e
  unfold dg
  rw [e, unL, getD_map_range _ _ _ (by omega), unB_nat, show h - n % 2 + n % 2 = h from by omega]
  omega
theorem unL_first (b : List UInt8) (n : Nat) (h1 : n % 2 = 1) : dg (padE (unL b n)) 0 = 0 := by
  unfold dg
  rw [padE_odd (by rw [unL_len]; exact h1)]; rfl
/-- what was got and is put again is what stood there, just when it was good -/
theorem again (b : List UInt8) (n : Nat) (hb : b.length = (n + 1) / 2) (hn : n ≤ 100) : putD (unL b n) = some b ↔ goodB b n = true := by
  rw [goodB_iff]
  constructor
  · intro h
    have hw : within 48 57 (unL b n) = true := by
      cases e : within 48 57 (unL b n)
      · rw [putD_no1 e] at h; cases h
      · rfl
    rw [putD_yes hw (by rw [unL_len]; exact hn), unL_len] at h
    have h' : pkL (padE (unL b n)) ((n + 1) / 2) = b := Option.some.inj h
    have hx : n % 2 = 1 → nib b 0 = 0 := by
      intro ho
      have h0 : b.getD 0 0 = pkB (padE (unL b n)) 0 := by
        have : (pkL (padE (unL b n)) ((n + 1) / 2)).getD 0 0 = b.getD 0 0 := by rw [h']
        rw [← this, pkL, getD_map_range _ _ _ (by omega)]
      have e1 : nib b 0 = (b.getD 0 0).toNat / 16 := rfl
      rw [e1, h0, pkB, unL_first b n ho, unL_at b n 1 (by omega) (by omega)]
      have := nib_lt b 1
      rw [UInt8.toNat_ofNat']; omega
    refine ⟨fun k hk => ?_, hx⟩
    by_cases hk0 : n % 2 ≤ k
    · have e := dg_le (padE_dig hw) k
      rwa [unL_at b n k hk0 hk] at e
    · have hkz : k = 0 := by omega
      subst hkz
      rw [hx (by omega)]; omega
  · rintro ⟨h1, h2⟩
    have hw : within 48 57 (unL b n) = true := by
      refine within_of fun c hc => ?_
      obtain ⟨k, hk, rfl⟩ := List.mem_map.1 hc
      rw [List.mem_range] at hk
      rw [unB_nat]
      have := h1 (k + n % 2) (by omega)
      omega
    rw [putD_yes hw (by rw [unL_len]; exact hn), unL_len]
    congr 1
    rw [eq_range b _ hb]
    conv => rhs; rw [eq_range b _ hb]
    refine List.map_congr_left fun j hj => ?_
    rw [List.mem_range] at hj
    rw [← eq_range b _ hb, pkB, unL_at b n (2 * j + 1) (by omega) (by omega)]
    by_cases hx : n % 2 ≤ 2 * j
    · rw [unL_at b n (2 * j) hx (by omega), byte_halves]
    · have hj0 : j = 0 := by omega
      subst hj0
      have := byte_halves b 0
      rw [h2 (by omega)] at this
      rw [unL_first b n (by omega), this]
/-- digits that are put come back -/
theorem back (l : List UInt8) (h : within 48 57 l = true) : unL (pkL (padE l) ((l.length + 1) / 2)) l.length = l := by
  have hn : ∀ k, k < l.length → nib (pkL (padE l) ((l.length + 1) / 2)) (k + l.length % 2) = (l.getD k 0).toNat - 48 := by
    intro k hk
    have a1 := dg_le (padE_dig h) (2 * ((k + l.length % 2) / 2))
    have a2 := dg_le (padE_dig h) (2 * ((k + l.length % 2) / 2) + 1)
    have e2 : dg (padE l) (k + l.length % 2) = (l.getD k 0).toNat - 48 := by unfold dg; rw [padE_at]
    unfold nib
    rw [pkL, getD_map_range _ _ _ (by omega), pkB, UInt8.toNat_ofNat', ← e2]
    split
    · rename_i ev
      rw [show 2 * ((k + l.length % 2) / 2) = k + l.length % 2 from by omega] at a1 a2 ⊢
      omega
    · rename_i ev
      rw [show 2 * ((k + l.length % 2) / 2) + 1 = k + l.length % 2 from by omega] at a2 ⊢
      omega
  rw [eq_range l _ rfl]
  conv => lhs; rw [← eq_range l _ rfl]
  unfold unL
  refine List.map_congr_left fun k hk => ?_
  rw [List.mem_range] at hk
  have hb := within_at h hk
  have := hn k hk
  unfold unB
  rw [this, show 48 + ((l.getD k 0).toNat - 48) = (l.getD k 0).toNat from by omega, UInt8.ofNat_toNat]
/-- GetDigits -/
def getOk (l : List UInt8) (i n : Int) : Bool := decide (0 ≤ n ∧ n ≤ 100 ∧ 0 ≤ i ∧ i ≤ l.length ∧ (n + 1) / 2 ≤ l.length - i) && goodB ((l.drop i.toNat).take ((n.toNat + 1) / 2)) n.toNat
def getL (l : List UInt8) (i n : Int) : List UInt8 := if getOk l i n = true then unL ((l.drop i.toNat).take ((n.toNat + 1) / 2)) n.toNat else []
def getI (l : List UInt8) (i n : Int) : Int := if getOk l i n = true then i + (n + 1) / 2 else -1
theorem get_no {l : List UInt8} {i n : Int} (h : getOk l i n = false) : getL l i n = [] ∧ getI l i n = -1 := ⟨if_neg (by rw [h]; decide), if_neg (by rw [h]; decide)⟩
theorem get_yes {l : List UInt8} {i n : Int} (h : getOk l i n = true) : getL l i n = unL ((l.drop i.toNat).take ((n.toNat + 1) / 2)) n.toNat ∧ getI l i n = i + (n + 1) / 2 := ⟨if_pos h, if_pos h⟩
theorem getOk_out {l : List UInt8} {i n : Int} (h : ¬ (0 ≤ n ∧ n ≤ 100 ∧ 0 ≤ i ∧ i ≤ l.length ∧ (n + 1) / 2 ≤ l.length - i)) : getOk l i n = false := by
  unfold getOk; rw [decide_eq_false h]; rfl
theorem getOk_in {l : List UInt8} {i n : Nat} (h : n ≤ 100 ∧ i ≤ l.length ∧ (n + 1) / 2 ≤ l.length - i) : getOk l i n = goodB ((l.drop i).take ((n + 1) / 2)) n := by
  unfold getOk; rw [decide_eq_true (by omega)]; simp
theorem piece_len {l : List UInt8} {i m : Nat} (h : m ≤ l.length - i) : ((l.drop i).take m).length = m := by simp; omega
theorem piece_at {l : List UInt8} {i m j : Nat} (hj : j < m) : ((l.drop i).take m).getD j 0 = l.getD (i + j) 0 := by
  simp [List.getD_eq_getElem?_getD, hj]
end Go.Proofs.YtjnekdihmchlpaaGreatDoor
/- Sets of numbers as bits, over plain lists. No Go in sight. -/
namespace Go.Proofs.YtjnekdihmchlpaaGreatDoor
open Go.RowKit
/-- ascending numbers above p, none above 128 -/
def ascS (p : Int) : List Int → Bool
  | [] => true
  | x :: r => decide (p < x ∧ x ≤ 128) && ascS x r
theorem ascS_step (zs : List Int) (k : Nat) (p : Int) (h : k < zs.length) : ascS p (zs.drop k) = (decide (p < zs.getD k 0 ∧ zs.getD k 0 ≤ 128) && ascS (zs.getD k 0) (zs.drop (k + 1))) := by
  have e : zs.getD k 0 = zs[k] := by simp [List.getD_eq_getElem?_getD, h]
  rw [List.drop_eq_getElem_cons h, e]
  rfl
theorem ascS_mem {zs : List Int} : ∀ {p : Int}, ascS p zs = true → ∀ x ∈ zs, p < x ∧ x ≤ 128 := by
  induction zs with
  | nil => intro p _ x hx; cases hx
  | cons y r ih =>
    intro p h x hx
    rw [ascS, Bool.and_eq_true, decide_eq_true_eq] at h
    rcases List.mem_cons.1 hx with rfl | hx
    · exact h.1
    · have := ih h.2 x hx; omega
/-- the number ahead of number k, 1 ahead of the first -/
def prevS (zs : List Int) (k : Nat) : Int := if k = 0 then 1 else zs.getD (k - 1) 0
def wide (zs : List Int) : Bool := zs.any fun x => decide (64 < x)
theorem wide_last {zs : List Int} : ∀ {p : Int}, ascS p zs = true → zs ≠ [] → wide zs = decide (64 < zs.getD (zs.length - 1) 0) := by
  induction zs with
  | nil => intro p _ h; exact absurd rfl h
  | cons x r ih =>
    intro p h _
    rw [ascS, Bool.and_eq_true, decide_eq_true_eq] at h
    cases r with
    | nil => simp [wide]
    | cons y t =>
      have h2 := ih h.2 (by simp)
      have e : (x :: y :: t).getD ((x :: y :: t).length - 1) 0 = (y :: t).getD ((y :: t).length - 1) 0 := by simp [List.getD_eq_getElem?_getD]
      rw [e, ← h2]
      have h3 : wide (x :: y :: t) = (decide (64 < x) || wide (y :: t)) := rfl
      rw [h3]
      by_cases hx : 64 < x
      · have hy := (ascS_mem h.2 y (by simp)).1
        have : wide (y :: t) = true := by simp [wide]; left; omega
        rw [this, Bool.or_true]
      · simp [hx]
/-- bit n of a set: bit 1 tells whether it is a wide one -/
def bitS (zs : List Int) (n : Nat) : Bool := (decide (n = 1) && wide zs) || zs.contains (n : Int)
/-- the first b bits of byte k -/
def partB (f : Nat → Bool) (k : Nat) : Nat → Nat
  | 0 => 0
  | b + 1 => 2 * partB f k b + (f (8 * k + b + 1)).toNat
theorem partB_lt (f : Nat → Bool) (k b : Nat) : partB f k b < 2 ^ b := by
  induction b with
  | zero => simp [partB]
  | succ b ih =>
    have : (f (8 * k + b + 1)).toNat ≤ 1 := Bool.toNat_le _
    rw [partB, Nat.pow_succ]; omega
theorem partB_255 (f : Nat → Bool) (k : Nat) : partB f k 8 ≤ 255 := by have := partB_lt f k 8; omega
theorem partB_congr {f g : Nat → Bool} {k : Nat} (h : ∀ b, b < 8 → f (8 * k + b + 1) = g (8 * k + b + 1)) : ∀ b, b ≤ 8 → partB f k b = partB g k b := by
  intro b
  induction b with
  | zero => intro _; rfl
  | succ b ih => intro hb; rw [partB, partB, ih (by omega), h b (by omega)]
def byteOf (f : Nat → Bool) (k : Nat) : UInt8 := UInt8.ofNat (partB f k 8)
theorem byteOf_nat (f : Nat → Bool) (k : Nat) : (byteOf f k).toNat = partB f k 8 := by
  have := partB_255 f k
  unfold byteOf; rw [UInt8.toNat_ofNat']; omega
def setB (f : Nat → Bool) (m : Nat) : List UInt8 := (List.range m).map (byteOf f)
theorem setB_len (f : Nat → Bool) (m : Nat) : (setB f m).length = m := by simp [setB]
theorem setB_succ (f : Nat → Bool) (m : Nat) : setB f (m + 1) = setB f m ++ [byteOf f m] := by simp [setB, List.range_succ]
def sizeS (zs : List Int) : Nat := if wide zs = true then 16 else 8
theorem sizeS_or (zs : List Int) : (sizeS zs = 16 ∧ wide zs = true) ∨ (sizeS zs = 8 ∧ wide zs = false) := by
  unfold sizeS
  cases wide zs <;> simp
def putS (zs : List Int) : Option (List UInt8) := if ascS 1 zs = true then some (setB (bitS zs) (sizeS zs)) else none
theorem putS_no {zs : List Int} (h : ascS 1 zs = false) : putS zs = none := if_neg (by rw [h]; decide)
theorem putS_yes {zs : List Int} (h : ascS 1 zs = true) : putS zs = some (setB (bitS zs) (sizeS zs)) := if_pos h
theorem putS_len (zs : List Int) : ((putS zs).getD []).length ≤ 16 := by
  unfold putS
  split
  · simp only [Option.getD_some, setB_len]; unfold sizeS; split <;> omega
  · simp
/-- one bit more -/
def addB (f : Nat → Bool) (n : Nat) : Nat → Bool := fun x => f x || decide (x = n)
def bitV (r : Nat) : Int := ((128 / 2 ^ r : Nat) : Int)
theorem or_bit : ∀ b0 b1 b2 b3 b4 b5 b6 b7 : Bool, ∀ r : Fin 8,
    bits .or .u8 ((2 * (2 * (2 * (2 * (2 * (2 * (2 * (2 * 0 + b0.toNat) + b1.toNat) + b2.toNat) + b3.toNat) + b4.toNat) + b5.toNat) + b6.toNat) + b7.toNat : Nat) : Int) (bitV r.val) =
    ((2 * (2 * (2 * (2 * (2 * (2 * (2 * (2 * 0 + (b0 || decide (0 = r.val)).toNat) + (b1 || decide (1 = r.val)).toNat) + (b2 || decide (2 = r.val)).toNat) + (b3 || decide (3 = r.val)).toNat) + (b4 || decide (4 = r.val)).toNat) + (b5 || decide (5 = r.val)).toNat) + (b6 || decide (6 = r.val)).toNat) + (b7 || decide (7 = r.val)).toNat : Nat) : Int) := by decide +kernel
theorem partB_or (f : Nat → Bool) (q r : Nat) (hr : r < 8) : bits .or .u8 (partB f q 8 : Int) (bitV r) = (partB (addB f (8 * q + r + 1)) q 8 : Int) := by
  have h := or_bit (f (8 * q + 0 + 1)) (f (8 * q + 1 + 1)) (f (8 * q + 2 + 1)) (f (8 * q + 3 + 1)) (f (8 * q + 4 + 1)) (f (8 * q + 5 + 1)) (f (8 * q + 6 + 1)) (f (8 * q + 7 + 1)) ⟨r, hr⟩
  have e : ∀ b, addB f (8 * q + r + 1) (8 * q + b + 1) = (f (8 * q + b + 1) || decide (b = r)) := by
    intro b
    unfold addB
    congr 1
    by_cases hb : b = r
    · subst hb; simp
    · rw [decide_eq_false hb, decide_eq_false (by omega)]
  have p : ∀ g : Nat → Bool, partB g q 8 = 2 * (2 * (2 * (2 * (2 * (2 * (2 * (2 * 0 + (g (8 * q + 0 + 1)).toNat) + (g (8 * q + 1 + 1)).toNat) + (g (8 * q + 2 + 1)).toNat) + (g (8 * q + 3 + 1)).toNat) + (g (8 * q + 4 + 1)).toNat) + (g (8 * q + 5 + 1)).toNat) + (g (8 * q + 6 + 1)).toNat) + (g (8 * q + 7 + 1)).toNat := fun g => rfl
  rw [p, p, e 0, e 1, e 2, e 3, e 4, e 5, e 6, e 7]
  exact h
theorem partB_add (f : Nat → Bool) (q r k : Nat) (hr : r < 8) (hk : k ≠ q) : partB (addB f (8 * q + r + 1)) k 8 = partB f k 8 :=
  partB_congr (fun b hb => by
    unfold addB
    rw [decide_eq_false (by omega), Bool.or_false]) 8 (Nat.le_refl _)
/-- bit n of bytes -/
def bitL (l : List UInt8) (n : Nat) : Bool := decide ((l.getD ((n - 1) / 8) 0).toNat / 2 ^ (7 - (n - 1) % 8) % 2 = 1)
theorem and_bit : ∀ c : Fin 256, ∀ r : Fin 8, (bits .and .u8 (c.val : Int) (bitV r.val) != 0) = decide (c.val / 2 ^ (7 - r.val) % 2 = 1) := by decide +kernel
theorem part_bit : ∀ b0 b1 b2 b3 b4 b5 b6 b7 : Bool, ∀ r : Fin 8,
    decide ((2 * (2 * (2 * (2 * (2 * (2 * (2 * (2 * 0 + b0.toNat) + b1.toNat) + b2.toNat) + b3.toNat) + b4.toNat) + b5.toNat) + b6.toNat) + b7.toNat) / 2 ^ (7 - r.val) % 2 = 1) =
    ((decide (0 = r.val) && b0) || (decide (1 = r.val) && b1) || (decide (2 = r.val) && b2) || (decide (3 = r.val) && b3) || (decide (4 = r.val) && b4) || (decide (5 = r.val) && b5) || (decide (6 = r.val) && b6) || (decide (7 = r.val) && b7)) := by decide +kernel
theorem bitL_set (f : Nat → Bool) (m n : Nat) (h1 : 1 ≤ n) (h2 : n ≤ 8 * m) : bitL (setB f m) n = f n := by
  obtain ⟨q, hq⟩ : ∃ q, (n - 1) / 8 = q := ⟨_, rfl⟩
  obtain ⟨r, hr⟩ : ∃ r, (n - 1) % 8 = r := ⟨_, rfl⟩
  have hr8 : r < 8 := by omega
  have hn : n = 8 * q + r + 1 := by omega
  unfold bitL
  rw [hq, hr, setB, getD_map_range _ _ _ (by omega), byteOf_nat]
  have h := part_bit (f (8 * q + 0 + 1)) (f (8 * q + 1 + 1)) (f (8 * q + 2 + 1)) (f (8 * q + 3 + 1)) (f (8 * q + 4 + 1)) (f (8 * q + 5 + 1)) (f (8 * q + 6 + 1)) (f (8 * q + 7 + 1)) ⟨r, hr8⟩
  simp only [partB]
  refine h.trans ?_
  rw [hn]
  rcases (show r = 0 ∨ r = 1 ∨ r = 2 ∨ r = 3 ∨ r = 4 ∨ r = 5 ∨ r = 6 ∨ r = 7 from by omega) with rfl | rfl | rfl | rfl | rfl | rfl | rfl | rfl <;> simp
/-- the numbers of 2 .. k whose bits are there -/
def numsL (l : List UInt8) (k : Nat) : List Int := ((List.range (k + 1)).filter fun n => decide (2 ≤ n) && bitL l n).map fun n : Nat => (n : Int)
theorem numsL_one (l : List UInt8) : numsL l 1 = [] := by simp [numsL, List.range_succ]
theorem numsL_succ (l : List UInt8) (k : Nat) (h : 1 ≤ k) : numsL l (k + 1) = numsL l k ++ (if bitL l (k + 1) = true then [((k + 1 : Nat) : Int)] else []) := by
  unfold numsL
  rw [List.range_succ, List.filter_append, List.map_append]
  congr 1
  simp only [List.filter_cons, List.filter_nil]
  cases bitL l (k + 1) <;> simp [show 2 ≤ k + 1 from by omega]
theorem numsL_len (l : List UInt8) (k : Nat) : (numsL l k).length ≤ k + 1 := by
  unfold numsL
  rw [List.length_map]
  exact Nat.le_trans (List.length_filter_le _ _) (by simp)
end Go.Proofs.YtjnekdihmchlpaaGreatDoor
/- GetSet, over plain lists. No Go in sight. -/
namespace Go.Proofs.YtjnekdihmchlpaaGreatDoor
open Go.RowKit
/-- how many bytes a set has whose first byte is c -/
def szB (c : UInt8) : Nat := if 128 ≤ c.toNat then 16 else 8
def pieceS (l : List UInt8) (i : Nat) : List UInt8 := (l.drop i).take (szB (l.getD i 0))
def inS (l : List UInt8) (i : Int) : Bool := decide (0 ≤ i ∧ i + 8 ≤ l.length ∧ i + szB (l.getD i.toNat 0) ≤ l.length)
def getSOk (l : List UInt8) (i : Int) : Bool := inS l i && decide (putS (numsL (pieceS l i.toNat) (8 * szB (l.getD i.toNat 0))) = some (pieceS l i.toNat))
def getSL (l : List UInt8) (i : Int) : List Int := if getSOk l i = true then numsL (pieceS l i.toNat) (8 * szB (l.getD i.toNat 0)) else []
def getSI (l : List UInt8) (i : Int) : Int := if getSOk l i = true then i + szB (l.getD i.toNat 0) else -1
theorem getS_no {l : List UInt8} {i : Int} (h : getSOk l i = false) : getSL l i = [] ∧ getSI l i = -1 := ⟨if_neg (by rw [h]; decide), if_neg (by rw [h]; decide)⟩
theorem getS_yes {l : List UInt8} {i : Int} (h : getSOk l i = true) : getSL l i = numsL (pieceS l i.toNat) (8 * szB (l.getD i.toNat 0)) ∧ getSI l i = i + szB (l.getD i.toNat 0) := ⟨if_pos h, if_pos h⟩
theorem getS_out {l : List UInt8} {i : Int} (h : ¬ (0 ≤ i ∧ i + 8 ≤ l.length ∧ i + szB (l.getD i.toNat 0) ≤ l.length)) : getSOk l i = false := by
  unfold getSOk inS; rw [decide_eq_false h]; rfl
theorem szB_or (c : UInt8) : (szB c = 16 ∧ 128 ≤ c.toNat) ∨ (szB c = 8 ∧ c.toNat < 128) := by
  unfold szB
  by_cases h : 128 ≤ c.toNat
  · left; rw [if_pos h]; exact ⟨rfl, h⟩
  · right; rw [if_neg h]; exact ⟨rfl, by omega⟩
theorem getS_in {l : List UInt8} {k m : Nat} {b : List UInt8} (hm : szB (l.getD k 0) = m) (h : k + m ≤ l.length) (hb : (l.drop k).take m = b) (hm8 : 8 ≤ m) :
    (putS (numsL b (8 * m)) = some b → getSL l k = numsL b (8 * m) ∧ getSI l k = (k : Int) + m) ∧ (putS (numsL b (8 * m)) ≠ some b → getSL l k = [] ∧ getSI l k = -1) := by
  have e1 : inS l (k : Int) = true := by
    unfold inS
    rw [Int.toNat_natCast, hm]
    exact decide_eq_true (by omega)
  have e2 : pieceS l ((k : Int)).toNat = b := by unfold pieceS; rw [Int.toNat_natCast, hm, hb]
  have e3 : getSOk l (k : Int) = decide (putS (numsL b (8 * m)) = some b) := by
    unfold getSOk
    rw [e1, e2, Int.toNat_natCast, hm]; rfl
  constructor
  · intro hp
    have := getS_yes (l := l) (i := k) (by rw [e3]; exact decide_eq_true hp)
    rw [e2, Int.toNat_natCast, hm] at this
    exact this
  · intro hp
    exact getS_no (by rw [e3]; exact decide_eq_false hp)
theorem getSL_len (l : List UInt8) (i : Int) : (getSL l i).length ≤ 129 := by
  unfold getSL
  split
  · have := numsL_len (pieceS l i.toNat) (8 * szB (l.getD i.toNat 0))
    rcases szB_or (l.getD i.toNat 0) with ⟨h, _⟩ | ⟨h, _⟩ <;> rw [h] at this ⊢ <;> omega
  · simp
theorem bitL_first (l : List UInt8) (i : Nat) : bitL (l.drop i) 1 = decide (128 ≤ (l.getD i 0).toNat) := by
  have e : (l.drop i).getD 0 0 = l.getD i 0 := by simp [List.getD_eq_getElem?_getD]
  have h := (l.getD i 0).toNat_lt
  unfold bitL
  rw [show (1 - 1) / 8 = 0 from rfl, show 7 - (1 - 1) % 8 = 7 from rfl, e]
  congr 1
  apply propext
  constructor
  · intro hh; omega
  · intro hh; omega
end Go.Proofs.YtjnekdihmchlpaaGreatDoor
/- Slices of bytes that are one's own memory, and the text that they are turned into. -/
namespace Go.Proofs.YtjnekdihmchlpaaGreatDoor
open Go.RowKit
theorem info5 : (Tryz.prog.info? 5).map (fun i => (i.zero, i.size, i.bytes)) = some (some (.int .u8 0), 1, 1) := by kernel_rfl
/-- a byte as a cell -/
def cell (c : UInt8) : Value := .int .u8 (c.toNat : Int)
/-- the text of bytes that one owns -/
theorem text_own {w : World} {base : Nat} {v : Value} {n : Nat} {l : List UInt8} (h : w.ownsRow base 5 1 v n (l.map cell)) :
    (convert 22 9 v).run Tryz.prog w = .ok (.string ⟨l.toArray⟩) w := by
  rcases h.2 with ⟨rfl, h0⟩ | ⟨g, cap, cur, rfl, hrest⟩
  · subst h0
    have hl : l = [] := by have := h.1; simpa using this
    subst hl
    exact run_convert_bytes_nil w _ _ Tryz.underlying22 Tryz.underlying5 _ _ _ Tryz.underlying9
  · have hl : l.length = n := by simpa using h.1
    subst hl
    refine run_convert_bytes_back w _ _ _ _ _ _ Tryz.underlying22 Tryz.underlying5 Tryz.underlying9 fun j hj => ?_
    have := h.cellAt j (by omega)
    rw [show (⟨g, 0, none⟩ : Addr).add j = ⟨g, j, none⟩ from by unfold Addr.add; split <;> simp_all]
    rw [this]
    simp [cell, hj]
theorem made5 (m : Nat) : (madeCells (Value.int .u8 0).cells (m * 1)).toList = (List.replicate m (0 : UInt8)).map cell := by
  rw [Nat.mul_one]
  refine (toList_madeCells_one _ _).trans ?_
  simp [cell]
theorem str_ok {a b : ByteArray} {x y : Bool} (h : a = b) (g : x = y) : Ending.returned (.tuple #[.string a, .bool x]) = .returned (.tuple #[.string b, .bool y]) := by rw [h, g]
end Go.Proofs.YtjnekdihmchlpaaGreatDoor
/- A message's bytes, plainly. No Go in sight. -/
namespace Go.Proofs.YtjnekdihmchlpaaGreatDoor
def pkD (d : List UInt8) : List UInt8 := pkL (padE d) ((d.length + 1) / 2)
theorem pkD_len (d : List UInt8) : (pkD d).length = (d.length + 1) / 2 := pkL_len _ _
/-- a right field's bytes -/
def putFld (n : Int) (d : List UInt8) : List UInt8 :=
  if fK n = 1 then pkD d else if fK n = 2 then padT d.length 2 ++ pkD d else if fK n = 4 then padT d.length 2 ++ d else if fK n = 5 then padT d.length 3 ++ d else d
def bodyP (fs : List Fld) : List UInt8 := fs.flatMap fun f => putFld f.1 f.2
theorem bodyP_append (a b : List Fld) : bodyP (a ++ b) = bodyP a ++ bodyP b := by simp [bodyP]
theorem bodyP_one (f : Fld) : bodyP [f] = putFld f.1 f.2 := by simp [bodyP]
def numsF (fs : List Fld) : List Int := fs.map (·.1)
theorem okF_asc {fs : List Fld} : ∀ {p : Int}, okF p fs = true → ascS p (numsF fs) = true := by
  induction fs with
  | nil => intro p _; rfl
  | cons f r ih =>
    intro p h
    simp only [okF, Bool.and_eq_true, decide_eq_true_eq] at h
    have hk := known_K (ok_known h.1.1)
    show (decide (p < f.1 ∧ f.1 ≤ 128) && ascS f.1 (numsF r)) = true
    rw [ih h.2, decide_eq_true ⟨h.1.2, by omega⟩]; rfl
def setF (fs : List Fld) : List UInt8 := (putS (numsF fs)).getD []
def packL (kd : Int) (fs : List Fld) : List UInt8 := if msgOk kd fs = true then padT kd 4 ++ setF fs ++ bodyP fs else []
theorem packL_no {kd : Int} {fs : List Fld} (h : msgOk kd fs = false) : packL kd fs = [] := if_neg (by rw [h]; decide)
theorem packL_yes {kd : Int} {fs : List Fld} (h : msgOk kd fs = true) : packL kd fs = padT kd 4 ++ setF fs ++ bodyP fs := if_pos h
theorem msgOk_parts {kd : Int} {fs : List Fld} (h : msgOk kd fs = true) : (0 ≤ kd ∧ kd ≤ 9999) ∧ okF 1 fs = true := by
  simpa [msgOk] using h
theorem set_ok {kd : Int} {fs : List Fld} (h : msgOk kd fs = true) : (putS (numsF fs)).isSome = true := by
  rw [putS_yes (okF_asc (msgOk_parts h).2)]; rfl
theorem fieldOk_K {n : Int} {d : List UInt8} (h : fieldOk n d = true) :
    (fK n = 1 ∧ d.length = fS n ∧ within 48 57 d = true ∧ d.length ≤ 12) ∨ (fK n = 2 ∧ (d.length : Int) ≤ fS n ∧ within 48 57 d = true ∧ d.length ≤ 19) ∨
    (fK n = 3 ∧ d.length = fS n ∧ within 32 126 d = true ∧ d.length ≤ 15) ∨ (fK n = 4 ∧ (d.length : Int) ≤ fS n ∧ within 32 126 d = true ∧ d.length ≤ 23) ∨ (fK n = 5 ∧ (d.length : Int) ≤ fS n ∧ within 32 126 d = true ∧ d.length ≤ 999) := by
  have hk := known_K (ok_known h)
  unfold fieldOk fieldKS at h
  rcases hk.1 with e | e | e | e | e
  all_goals (simp [e] at h; have := h.1; have := h.2)
  · exact .inl ⟨e, h.1, h.2, by omega⟩
  · exact .inr (.inl ⟨e, h.1, h.2, by omega⟩)
  · exact .inr (.inr (.inl ⟨e, h.1, h.2, by omega⟩))
  · exact .inr (.inr (.inr (.inl ⟨e, h.1, h.2, by omega⟩)))
  · exact .inr (.inr (.inr (.inr ⟨e, h.1, h.2, by omega⟩)))
theorem padT_l (x n : Int) : (padT x n).length ≤ 18 := by
  rcases padT_cases x n with h | ⟨a, m, _, _, h1, h2, h3, h⟩
  · rw [h]; simp
  · rw [h, padN_len h1 h3]; omega
theorem putFld_len {n : Int} {d : List UInt8} (h : fieldOk n d = true) : (putFld n d).length ≤ 1017 := by
  have hd : d.length ≤ 999 := by rcases fieldOk_K h with h | h | h | h | h <;> omega
  have h2 := padT_l d.length 2
  have h3 := padT_l d.length 3
  have h4 := pkD_len d
  unfold putFld
  split
  · omega
  · split
    · rw [List.length_append]; omega
    · split
      · rw [List.length_append]; omega
      · split
        · rw [List.length_append]; omega
        · omega
theorem bodyP_len {fs : List Fld} (h : ∀ f ∈ fs, fieldOk f.1 f.2 = true) : (bodyP fs).length ≤ 1017 * fs.length := by
  induction fs with
  | nil => simp [bodyP]
  | cons f r ih =>
    have h1 := putFld_len (h f (List.mem_cons_self ..))
    have h2 := ih (fun g hg => h g (List.mem_cons_of_mem _ hg))
    have e : bodyP (f :: r) = putFld f.1 f.2 ++ bodyP r := by simp [bodyP]
    rw [e, List.length_append, List.length_cons]; omega
end Go.Proofs.YtjnekdihmchlpaaGreatDoor
/- The laws' own small functions over fields: how much one takes, its copy, whether two are the same. -/
namespace Go.Proofs.YtjnekdihmchlpaaGreatDoor
open Go.RowKit
def leftF (l : List UInt8) (left : Int) : Int := if left - (l.length : Int) < 0 then -1 else left - (l.length : Int)
end Go.Proofs.YtjnekdihmchlpaaGreatDoor
/- A struct of two cells that lies in a box of its own: what is kept of it. -/
namespace Go.Proofs.YtjnekdihmchlpaaGreatDoor
open Go.RowKit
theorem box2 {w u : World} {x y : Value} {t : TypeId} (b : Below (w.alloc (.cells #[x, y] t)).heap.size (w.alloc (.cells #[x, y] t)) u) :
    u.cell? ⟨w.heap.size, 0, none⟩ = some x ∧ u.cell? ⟨w.heap.size, 1, none⟩ = some y ∧ Below w.heap.size w u ∧ w.heap.size < u.heap.size :=
  ⟨(b.cell (p := ⟨w.heap.size, 0, none⟩) (by simp)).trans (by simp), (b.cell (p := ⟨w.heap.size, 1, none⟩) (by simp)).trans (by simp),
    ((Below.refl _ _).alloc (Nat.le_refl _) _).trans (b.mono (by simp)), by have := b.size; simp at this; omega⟩
theorem keep2 {w u : World} {b : Nat} {x y : Value} (h0 : w.cell? ⟨b, 0, none⟩ = some x) (h1 : w.cell? ⟨b, 1, none⟩ = some y) (k : Below w.heap.size w u) :
    u.cell? ⟨b, 0, none⟩ = some x ∧ u.cell? ⟨b, 1, none⟩ = some y :=
  have hb : b < w.heap.size := World.block_lt_of_cell? w _ h0
  ⟨(k.cell (p := ⟨b, 0, none⟩) hb).trans h0, (k.cell (p := ⟨b, 1, none⟩) hb).trans h1⟩
end Go.Proofs.YtjnekdihmchlpaaGreatDoor
/- The specification's decimal numeral. -/
namespace Go.Proofs.YtjnekdihmchlpaaGreatDoor.Mo
open Go.RowKit
/-- the digits of m, none for 0 -/
def low (m : Nat) : List UInt8 := if m = 0 then [] else Lib.decDigits m
theorem low_step (m : Nat) (h : m ≠ 0) : low m = low (m / 10) ++ [UInt8.ofNat (48 + m % 10)] := by
  unfold low
  rw [if_neg h, Lib.decDigits]
  by_cases h1 : m < 10
  · rw [dif_pos h1, if_pos (by omega), Nat.mod_eq_of_lt h1]; rfl
  · rw [dif_neg h1, if_neg (by omega)]
theorem dec_len (a : Nat) (ha : a ≤ 9223372036854775807) : (Lib.decDigits a).length ≤ 21 := by
  have := Lib.itoa_length_le (a : Int) (by omega) (by omega)
  simpa [Lib.itoa, show ¬ (a : Int) < 0 from by omega] using this
theorem ba_append (l r : List UInt8) : (⟨l.toArray⟩ ++ ⟨r.toArray⟩ : ByteArray) = ⟨(l ++ r).toArray⟩ := by
  apply ByteArray.ext
  simp
theorem ba_list (b : ByteArray) : b = ⟨b.data.toList.toArray⟩ := by cases b; simp
theorem dig_one (d : Nat) (h : d < 10) : (⟨#[48, 49, 50, 51, 52, 53, 54, 55, 56, 57]⟩ : ByteArray).extract d (d + 1) = ⟨[UInt8.ofNat (48 + d)].toArray⟩ := by
  rcases (show d = 0 ∨ d = 1 ∨ d = 2 ∨ d = 3 ∨ d = 4 ∨ d = 5 ∨ d = 6 ∨ d = 7 ∨ d = 8 ∨ d = 9 from by omega) with rfl | rfl | rfl | rfl | rfl | rfl | rfl | rfl | rfl | rfl <;> decide
theorem dig_piece (d : Nat) (l : List UInt8) (h : d < 10) : (⟨#[48, 49, 50, 51, 52, 53, 54, 55, 56, 57]⟩ : ByteArray).extract d (d + 1) ++ ⟨l.toArray⟩ = ⟨(UInt8.ofNat (48 + d) :: l).toArray⟩ := by
  rw [dig_one d h, ba_append]; rfl
set_option maxHeartbeats 800000 in
theorem dec_up (a : Nat) (w : World) (ha : a ≤ 9223372036854775807) :
    Calls Tryz.prog 28 #[.int .i64 a] w fun e w' => e = .returned (.string ⟨(Lib.decDigits a).toArray⟩) ∧ w' = w := by
  by_cases h0 : a = 0
  · subst h0
    go_enter Tryz.func28, Tryz.ntmps28
    go_wp2
    go_ret
    exact ⟨one_str (by rw [Lib.decDigits_one (by omega)]; rfl), rfl⟩
  · have hne : ((a : Int) == 0) = false := by simp; omega
    have hnn : ¬ (a : Int) < 0 := by omega
    go_enter Tryz.func28, Tryz.ntmps28
    go_wp2
    go_loop [3, 4, 5] (fun o m _ => ∃ (k : Nat) (l : List UInt8), k ≤ a ∧ m = .int .i64 k ∧ o = .string ⟨l.toArray⟩ ∧ Lib.decDigits a = low k ++ l) (fun _ m _ => (intOf m).toNat)
    case atStart => exact ⟨a, [], Nat.le_refl _, rfl, rfl, by simp [low, h0]⟩
    case round =>
      obtain ⟨k, l, hk, rfl, rfl, hd⟩ := hrel
      by_cases hk0 : k = 0
      · subst hk0
        have HD : Hid _ := hd
        clear hd
        go_wp2
        go_ret
        exact ⟨one_str (by have := HD.out; simp [low] at this; rw [this]), rfl⟩
      · have kne : ((k : Int) != 0) = true := by simp; omega
        have HD : Hid (Lib.decDigits a = low (k / 10) ++ (UInt8.ofNat (48 + k % 10) :: l)) := by rw [Hid, hd, low_step k hk0]; simp
        have hl : l.length ≤ 21 := by have h1 := dec_len a ha; rw [hd] at h1; simp at h1; omega
        clear hd
        go_wp2
        go_round
        case rel => exact ⟨k / 10, UInt8.ofNat (48 + k % 10) :: l, by omega, by go_num, by rw [dig_piece _ _ (by omega)], HD.out⟩
        case measure => simp [intOf]; omega
end Go.Proofs.YtjnekdihmchlpaaGreatDoor.Mo
/- Tags, plainly: when a list of them is so. No Go in sight. -/
namespace Go.Proofs.YtjnekdihmchlpaaGreatDoor.Tg
def tagOne (n : Int) (d : List UInt8) : Bool := decide (1 ≤ n ∧ n ≤ 9999) && (decide (d.length ≤ 200) && within 32 126 d)
/-- from p on: each tag so, and its number behind the one ahead of it -/
def okT (p : Int) : List Fld → Bool
  | [] => true
  | f :: r => (tagOne f.1 f.2 && decide (p < f.1)) && okT f.1 r
theorem okT_step (fs : List Fld) (k : Nat) (p : Int) (h : k < fs.length) : okT p (fs.drop k) = ((tagOne (at0 fs k).1 (at0 fs k).2 && decide (p < (at0 fs k).1)) && okT (at0 fs k).1 (fs.drop (k + 1))) := by
  have e : at0 fs k = fs[k] := by simp [at0, List.getD_eq_getElem?_getD, h]
  rw [List.drop_eq_getElem_cons h, e]; rfl
def prevT (fs : List Fld) (k : Nat) : Int := if k = 0 then 0 else (at0 fs (k - 1)).1
theorem okT_end (p : Int) (fs : List Fld) : okT p (fs.drop fs.length) = true := by rw [List.drop_of_length_le (Nat.le_refl _)]; rfl
def tagsOk (fs : List Fld) : Bool := decide (fs.length ≤ 60) && okT 0 fs
theorem tagsOk_no {fs : List Fld} (h : okT 0 fs = false) : tagsOk fs = false := by unfold tagsOk; rw [h, Bool.and_false]
theorem tagsOk_big {fs : List Fld} (h : ¬ fs.length ≤ 60) : tagsOk fs = false := by unfold tagsOk; rw [decide_eq_false h, Bool.false_and]
theorem tagsOk_len {fs : List Fld} (h : okT 0 fs = true) : tagsOk fs = decide (fs.length ≤ 60) := by unfold tagsOk; rw [h, Bool.and_true]
theorem tagsOk_fs {fs : List Fld} (h : fs.length ≤ 60) : tagsOk fs = okT 0 fs := by unfold tagsOk; rw [decide_eq_true h, Bool.true_and]
theorem tagsOk_parts {fs : List Fld} (h : tagsOk fs = true) : fs.length ≤ 60 ∧ okT 0 fs = true := by simpa [tagsOk] using h
theorem tagOne_parts {n : Int} {d : List UInt8} (h : tagOne n d = true) : (1 ≤ n ∧ n ≤ 9999) ∧ d.length ≤ 200 ∧ within 32 126 d = true := by simpa [tagOne] using h
theorem okT_mem {fs : List Fld} : ∀ {p : Int}, okT p fs = true → ∀ f ∈ fs, tagOne f.1 f.2 = true ∧ p < f.1 := by
  induction fs with
  | nil => intro p _ f hf; cases hf
  | cons g r ih =>
    intro p h f hf
    simp only [okT, Bool.and_eq_true, decide_eq_true_eq] at h
    rcases List.mem_cons.1 hf with rfl | hr
    · exact h.1
    · have := ih h.2 f hr
      exact ⟨this.1, by omega⟩
end Go.Proofs.YtjnekdihmchlpaaGreatDoor.Tg
/- Numbers with noughts ahead, over plain lists. No Go in sight. -/
namespace Go.Proofs.YtjnekdihmchlpaaGreatDoor.Tg
theorem ofNat_dig (d : Nat) (h : d < 10) : (UInt8.ofNat (48 + d)).toNat = 48 + d := by
  rw [UInt8.toNat_ofNat']; omega
theorem dec_props (n : Nat) : (∀ c ∈ Lib.decDigits n, 48 ≤ c.toNat ∧ c.toNat ≤ 57) ∧ val 0 (Lib.decDigits n) = n := by
  induction n using Nat.strongRecOn with
  | _ n ih =>
    rw [Lib.decDigits]
    by_cases h : n < 10
    · rw [dif_pos h]
      refine ⟨fun c hc => ?_, ?_⟩
      · obtain rfl : c = UInt8.ofNat (48 + n) := by simpa using hc
        rw [ofNat_dig n h]; omega
      · simp only [val, List.foldl_cons, List.foldl_nil]
        rw [ofNat_dig n h]; omega
    · rw [dif_neg h]
      obtain ⟨i1, i2⟩ := ih (n / 10) (by omega)
      refine ⟨fun c hc => ?_, ?_⟩
      · rcases List.mem_append.1 hc with hc | hc
        · exact i1 c hc
        · obtain rfl : c = UInt8.ofNat (48 + n % 10) := by simpa using hc
          rw [ofNat_dig _ (by omega)]; omega
      · rw [val_append, i2]
        simp only [val, List.foldl_cons, List.foldl_nil]
        rw [ofNat_dig _ (by omega)]; omega
theorem dec_len_pow (k n : Nat) (hk : 1 ≤ k) (h : n < 10 ^ k) : (Lib.decDigits n).length ≤ k := by
  induction k generalizing n with
  | zero => omega
  | succ k ih =>
    rw [Lib.decDigits]
    by_cases h1 : n < 10
    · rw [dif_pos h1]; simp
    · rw [dif_neg h1]
      have hk1 : 1 ≤ k := by
        rcases Nat.eq_zero_or_pos k with rfl | hp
        · simp at h; omega
        · exact hp
      have := ih (n / 10) hk1 (by rw [Nat.pow_succ] at h; omega)
      simp; omega
def padOk (x n : Int) : Bool := decide (1 ≤ n ∧ n ≤ 18) && decide (0 ≤ x ∧ x < ((10 ^ n.toNat : Nat) : Int))
/-- x with noughts ahead to n digits -/
def padN (x n : Nat) : List UInt8 := List.replicate (n - (Lib.decDigits x).length) 48 ++ Lib.decDigits x
def padT (x n : Int) : List UInt8 := if padOk x n = true then padN x.toNat n.toNat else []
theorem padT_no {x n : Int} (h : padOk x n = false) : padT x n = [] := if_neg (by rw [h]; decide)
theorem padOk_no1 {x n : Int} (h : ¬ (1 ≤ n ∧ n ≤ 18)) : padOk x n = false := by unfold padOk; rw [decide_eq_false h]; rfl
theorem padOk_no2 {x n : Int} (h : ¬ (0 ≤ x ∧ x < ((10 ^ n.toNat : Nat) : Int))) : padOk x n = false := by unfold padOk; rw [decide_eq_false h, Bool.and_false]
theorem padT_yes {x n : Nat} (h1 : 1 ≤ n) (h2 : n ≤ 18) (h3 : x < 10 ^ n) : padT x n = padN x n := by
  unfold padT
  rw [if_pos]
  · rw [Int.toNat_natCast, Int.toNat_natCast]
  · unfold padOk
    rw [decide_eq_true (by omega), decide_eq_true (by rw [Int.toNat_natCast]; omega)]; rfl
theorem padT_cases (x n : Int) : padT x n = [] ∨ ∃ a m : Nat, x = a ∧ n = m ∧ 1 ≤ m ∧ m ≤ 18 ∧ a < 10 ^ m ∧ padT x n = padN a m := by
  cases h : padOk x n
  · exact .inl (padT_no h)
  · unfold padOk at h
    rw [Bool.and_eq_true, decide_eq_true_eq, decide_eq_true_eq] at h
    obtain ⟨a, rfl⟩ := Int.eq_ofNat_of_zero_le h.2.1
    obtain ⟨m, rfl⟩ := Int.eq_ofNat_of_zero_le (show 0 ≤ n by omega)
    rw [Int.toNat_natCast] at h
    exact .inr ⟨a, m, rfl, rfl, by omega, by omega, by omega, padT_yes (by omega) (by omega) (by omega)⟩
theorem padN_len {x n : Nat} (h1 : 1 ≤ n) (h3 : x < 10 ^ n) : (padN x n).length = n := by
  have := dec_len_pow n x h1 h3
  simp [padN]; omega
theorem padN_dig (x n : Nat) : within 48 57 (padN x n) = true := by
  refine within_of fun c hc => ?_
  rcases List.mem_append.1 hc with hc | hc
  · rw [List.mem_replicate] at hc
    rw [hc.2]; decide
  · exact (dec_props x).1 c hc
theorem padN_val (x n : Nat) : val 0 (padN x n) = x := by
  unfold padN; rw [val_zeros, (dec_props x).2]
theorem padN_num {x n : Nat} (h1 : 1 ≤ n) (h2 : n ≤ 18) (h3 : x < 10 ^ n) : numOf (padN x n) = (x : Int) := by
  rw [numOf_yes (by rw [padN_len h1 h3]; exact h2) (padN_dig x n), padN_val]
theorem dig_plain {l : List UInt8} (h : within 48 57 l = true) : within 32 126 l = true :=
  within_of fun c hc => by have := within_mem h c hc; omega
end Go.Proofs.YtjnekdihmchlpaaGreatDoor.Tg
/- Tags, plainly: how a list of them is written, how it is read again. No Go in sight. -/
namespace Go.Proofs.YtjnekdihmchlpaaGreatDoor.Tg
/-- a tag's text, and a list's -/
def putT (f : Fld) : List UInt8 := padT f.1 4 ++ padT f.2.length 3 ++ f.2
def putTs (fs : List Fld) : List UInt8 := fs.flatMap putT
theorem putTs_append (a b : List Fld) : putTs (a ++ b) = putTs a ++ putTs b := by simp [putTs]
theorem putTs_cons (f : Fld) (b : List Fld) : putTs (f :: b) = putT f ++ putTs b := by simp [putTs]
theorem putTs_take (fs : List Fld) (k : Nat) (h : k < fs.length) : putTs (fs.take (k + 1)) = putTs (fs.take k) ++ putT (at0 fs k) := by
  have e : at0 fs k = fs[k] := by simp [at0, List.getD_eq_getElem?_getD, h]
  rw [List.take_succ_eq_append_getElem h, putTs_append, e]; simp [putTs]
def putOk (fs : List Fld) : Bool := tagsOk fs && decide ((putTs fs).length ≤ 999)
def putL (fs : List Fld) : List UInt8 := if putOk fs = true then putTs fs else []
theorem putOk_no {fs : List Fld} (h : tagsOk fs = false) : putOk fs = false := by unfold putOk; rw [h, Bool.false_and]
theorem putOk_big {fs : List Fld} (h : ¬ (putTs fs).length ≤ 999) : putOk fs = false := by unfold putOk; rw [decide_eq_false h, Bool.and_false]
theorem putOk_yes {fs : List Fld} (h : tagsOk fs = true) (g : (putTs fs).length ≤ 999) : putOk fs = true := by unfold putOk; rw [h, decide_eq_true g]; rfl
theorem putOk_parts {fs : List Fld} (h : putOk fs = true) : tagsOk fs = true ∧ (putTs fs).length ≤ 999 := by simpa [putOk] using h
theorem putL_no {fs : List Fld} (h : putOk fs = false) : putL fs = [] := if_neg (by rw [h]; decide)
theorem putL_yes {fs : List Fld} (h : putOk fs = true) : putL fs = putTs fs := if_pos h
theorem padT_le (x n : Int) : (padT x n).length ≤ 18 := by
  rcases padT_cases x n with h | ⟨a, m, _, _, h1, h2, h3, h⟩
  · rw [h]; simp
  · rw [h, padN_len h1 h3]; omega
theorem putT_le (f : Fld) : (putT f).length ≤ 36 + f.2.length := by
  have h1 := padT_le f.1 4
  have h2 := padT_le f.2.length 3
  unfold putT; simp only [List.length_append]; omega
theorem putTs_le {fs : List Fld} (h : ∀ f ∈ fs, f.2.length ≤ 200) : (putTs fs).length ≤ 236 * fs.length := by
  induction fs with
  | nil => simp [putTs]
  | cons f r ih =>
    have h1 := putT_le f
    have h2 := h f (by simp)
    have h3 := ih (fun g hg => h g (by simp [hg]))
    rw [putTs_cons, List.length_append, List.length_cons]; omega
theorem putTs_mono (fs : List Fld) (k : Nat) : (putTs (fs.take k)).length ≤ (putTs fs).length := by
  have : putTs fs = putTs (fs.take k) ++ putTs (fs.drop k) := by rw [← putTs_append, List.take_append_drop]
  rw [this, List.length_append]; omega
end Go.Proofs.YtjnekdihmchlpaaGreatDoor.Tg
/- The contracts of the small functions of chapter 3 (fields) over a text's bytes: what each returns for every argument. -/
namespace Go.Proofs.YtjnekdihmchlpaaGreatDoor.Tg
open Go.RowKit
def inB (x a b : Int) : Bool := decide (a ≤ x ∧ x ≤ b)
theorem inB_pos {x a b : Int} (h : a ≤ x) (g : x ≤ b) : inB x a b = true := by simp [inB, h, g]
theorem inB_neg {x a b : Int} (h : x < a ∨ b < x) : inB x a b = false := by simp [inB]; omega
set_option maxHeartbeats 400000 in
theorem in_any (x a b : Int) (w : World) :
    Calls Tryz.prog 26 #[.int .i64 x, .int .i64 a, .int .i64 b] w fun e w' => e = .returned (.bool (inB x a b)) ∧ w' = w := by
  by_cases h1 : a ≤ x
  · by_cases h2 : x ≤ b
    · go_enter Tryz.func26, Tryz.ntmps26
      go_wp2
      go_ret
      exact ⟨by simp [inB, h1, h2], rfl⟩
    · go_enter Tryz.func26, Tryz.ntmps26
      go_wp2
      go_ret
      exact ⟨by simp [inB, h1, h2], rfl⟩
  · go_enter Tryz.func26, Tryz.ntmps26
    go_wp2
    go_ret
    exact ⟨by simp [inB]; omega, rfl⟩
theorem in_byte (c : UInt8) (a b : Nat) : inB (c.toNat : Int) a b = (decide (a ≤ c.toNat) && decide (c.toNat ≤ b)) := by
  unfold inB
  by_cases h1 : a ≤ c.toNat <;> by_cases h2 : c.toNat ≤ b <;> simp [h1, h2]
set_option maxHeartbeats 400000 in
theorem iWithin_any (l : List UInt8) (a b : Nat) (w : World) (hl : l.length ≤ 1099511627776) :
    Calls Tryz.prog 87 #[.string ⟨l.toArray⟩, .int .u8 a, .int .u8 b] w fun e w' => e = .returned (.bool (within a b l)) ∧ w' = w := by
  go_enter Tryz.func87, Tryz.ntmps87
  go_wp2
  go_loop [7, 10] (fun _ i => ∃ k : Nat, k ≤ l.length ∧ i = .int .i64 k ∧ within a b l = within a b (l.drop k)) (fun _ i => l.length - (intOf i).toNat)
  case atStart => exact ⟨0, Nat.zero_le _, rfl, rfl⟩
  case round =>
    obtain ⟨k, hk, rfl, ht⟩ := hrel
    by_cases hlt : k < l.length
    · have hki : (k : Int) < (l.length : Int) := by omega
      have hs := within_step a b l k hlt
      obtain ⟨c, hc⟩ : ∃ c, (⟨l.toArray⟩ : ByteArray)[k]'(by rw [ba_size]; exact hlt) = c := ⟨_, rfl⟩
      rw [(byte_at l k hlt).trans hc] at hs
      have HS : Hid _ := ht.trans hs
      clear hs ht
      by_cases h1 : a ≤ c.toNat
      · have h1' : (a : Int) ≤ (c.toNat : Int) := by omega
        by_cases h2 : c.toNat ≤ b
        · have h2' : (c.toNat : Int) ≤ (b : Int) := by omega
          have HY : Hid (within a b l = within a b (l.drop (k + 1))) := by rw [Hid, HS.out]; simp [h1, h2]
          clear HS
          go_wp2
          go_round
          case rel => exact ⟨k + 1, by omega, by go_num, HY.out⟩
          case measure => simp [intOf]; omega
        · have h2' : (b : Int) < (c.toNat : Int) := by omega
          have HN : Hid (within a b l = false) := by rw [Hid, HS.out]; simp [h2]
          clear HS
          go_wp2
          go_ret
          exact ⟨one_bool HN.out.symm, rfl⟩
      · have h1' : (c.toNat : Int) < (a : Int) := by omega
        have HN : Hid (within a b l = false) := by rw [Hid, HS.out]; simp [h1]
        clear HS
        go_wp2
        go_ret
        exact ⟨one_bool HN.out.symm, rfl⟩
    · have hke : k = l.length := by omega
      subst hke
      have HE : Hid (within a b l = true) := by rw [Hid, ht, within_end]
      clear ht
      go_wp2
      go_ret
      exact ⟨one_bool HE.out.symm, rfl⟩
set_option maxHeartbeats 400000 in
theorem iDigits_any (l : List UInt8) (w : World) (hl : l.length ≤ 1099511627776) :
    Calls Tryz.prog 45 #[.string ⟨l.toArray⟩] w fun e w' => e = .returned (.bool (within 48 57 l)) ∧ w' = w := by
  go_enter Tryz.func45, Tryz.ntmps45
  go_wp2_with fail
  refine (iWithin_any l 48 57 _ hl).mono ?_
  rintro e w1 ⟨rfl, hw⟩
  subst hw
  go_wp2
  go_ret
  exact ⟨rfl, rfl⟩
set_option maxHeartbeats 400000 in
theorem iPlain_any (l : List UInt8) (w : World) (hl : l.length ≤ 1099511627776) :
    Calls Tryz.prog 138 #[.string ⟨l.toArray⟩] w fun e w' => e = .returned (.bool (within 32 126 l)) ∧ w' = w := by
  go_enter Tryz.func138, Tryz.ntmps138
  go_wp2_with fail
  refine (iWithin_any l 32 126 _ hl).mono ?_
  rintro e w1 ⟨rfl, hw⟩
  subst hw
  go_wp2
  go_ret
  exact ⟨rfl, rfl⟩
set_option maxHeartbeats 400000 in
theorem sPlain_any (l : List UInt8) (w : World) (hl : l.length ≤ 1099511627776) :
    Calls Tryz.prog 111 #[.string ⟨l.toArray⟩] w fun e w' => e = .returned (.bool (within 32 126 l)) ∧ w' = w := by
  go_enter Tryz.func111, Tryz.ntmps111
  go_wp2
  go_loop [3] (fun i => ∃ k : Nat, k ≤ l.length ∧ i = .int .i64 k ∧ within 32 126 l = within 32 126 (l.drop k)) (fun i => l.length - (intOf i).toNat)
  case atStart => exact ⟨0, Nat.zero_le _, rfl, rfl⟩
  case round =>
    obtain ⟨k, hk, rfl, ht⟩ := hrel
    by_cases hlt : k < l.length
    · have hki : (k : Int) < (l.length : Int) := by omega
      have hs := within_step 32 126 l k hlt
      obtain ⟨c, hc⟩ : ∃ c, (⟨l.toArray⟩ : ByteArray)[k]'(by rw [ba_size]; exact hlt) = c := ⟨_, rfl⟩
      rw [(byte_at l k hlt).trans hc, ← in_byte c 32 126] at hs
      have HS : Hid _ := ht.trans hs
      have hwc := wrap_byte c
      clear hs ht
      cases hin : inB (c.toNat : Int) 32 126
      · have HN : Hid (within 32 126 l = false) := by rw [Hid, HS.out]; simp [hin]
        clear HS
        go_wp2_with fail
        refine (in_any _ _ _ _).mono ?_
        rintro e w1 ⟨rfl, hw1⟩
        subst hw1
        rw [hin]
        go_wp2
        go_ret
        exact ⟨one_bool HN.out.symm, rfl⟩
      · have HY : Hid (within 32 126 l = within 32 126 (l.drop (k + 1))) := by rw [Hid, HS.out]; simp [hin]
        clear HS
        go_wp2_with fail
        refine (in_any _ _ _ _).mono ?_
        rintro e w1 ⟨rfl, hw1⟩
        subst hw1
        rw [hin]
        go_wp2
        go_round
        case rel => exact ⟨k + 1, by omega, by go_num, HY.out⟩
        case measure => simp [intOf]; omega
    · have hke : k = l.length := by omega
      subst hke
      have HE : Hid (within 32 126 l = true) := by rw [Hid, ht, within_end]
      clear ht
      go_wp2
      go_ret
      exact ⟨one_bool HE.out.symm, rfl⟩
end Go.Proofs.YtjnekdihmchlpaaGreatDoor.Tg
/- The contract of the program's powers of ten. -/
namespace Go.Proofs.YtjnekdihmchlpaaGreatDoor.Tg
open Go.RowKit
set_option maxHeartbeats 400000 in
theorem tenTo_any (n : Nat) (w : World) (hn : n ≤ 18) :
    Calls Tryz.prog 59 #[.int .i64 n] w fun e w' => e = .returned (.int .i64 (10 ^ n : Nat)) ∧ w' = w := by
  go_enter Tryz.func59, Tryz.ntmps59
  go_wp2
  go_loop [3, 5] (fun p i => ∃ k : Nat, k ≤ n ∧ i = .int .i64 k ∧ p = .int .i64 (10 ^ k : Nat)) (fun _ i => n - (intOf i).toNat)
  case atStart => exact ⟨0, Nat.zero_le _, rfl, rfl⟩
  case round =>
    obtain ⟨k, hk, rfl, rfl⟩ := hrel
    by_cases hlt : k < n
    · have hki : (k : Int) < (n : Int) := by omega
      have hp : 10 ^ k ≤ 10 ^ 17 := Nat.pow_le_pow_right (by omega) (by omega)
      have hs : 10 ^ (k + 1) = 10 ^ k * 10 := Nat.pow_succ 10 k
      obtain ⟨x, hx⟩ : ∃ x : Nat, 10 ^ k = x := ⟨_, rfl⟩
      rw [hx] at hp hs ⊢
      have HS : Hid (((10 ^ (k + 1) : Nat) : Int) = (x : Int) * 10) := by rw [Hid, hs]; omega
      have hxb : x ≤ 100000000000000000 := by omega
      clear hs hx hp
      go_wp2
      go_round
      case rel => exact ⟨k + 1, by omega, by go_num, by rw [HS.out]⟩
      case measure => simp [intOf]; omega
    · have hke : k = n := by omega
      subst hke
      obtain ⟨x, hx⟩ : ∃ x : Nat, 10 ^ k = x := ⟨_, rfl⟩
      rw [hx]
      have HX : Hid _ := hx
      clear hx
      go_wp2
      go_ret
      exact ⟨one_int (by rw [← HX.out]; simp), rfl⟩
end Go.Proofs.YtjnekdihmchlpaaGreatDoor.Tg
/- A region that draws its order and whose callees make memory of their own: walked once, over the class of all worlds in which what was there stands. -/
namespace Go.Proofs.YtjnekdihmchlpaaGreatDoor
open Go.RowKit
/-- a world in which all that W holds stands -/
structure Over (W : World) where
  x : World
  h : Below W.heap.size W x
theorem over_ne (W : World) : Nonempty (Over W) := ⟨⟨W, Below.refl _ _⟩⟩
theorem over_cell {W : World} {a : Addr} {v : Value} (h : W.cell? a = some v) (z : Over W) : z.x.cell? a = some v := (z.h.cell (p := a) (World.block_lt_of_cell? W _ h)).trans h
theorem wp_region_over {P : Program} {id : Nat} {Q : Exit → Act → World → Prop} {a : Act} {w : World} {l : List Oper} (hm : P.follows .mixedOrders = true) (hB : Region.lexB .any l.toArray = true)
    (h : wpQuiet P l.toArray (fun w' => ∃ z : Over w, w' = z.x) (fun a' => ∀ w', (∃ z : Over w, w' = z.x) → Q .normal a' w') l a) : (Code.region id l.toArray true).wp P Q a w :=
  wp_region_quiet (C := fun w' => ∃ z : Over w, w' = z.x) hm hB ⟨⟨_, (Below.refl _ _).drew⟩, rfl⟩ (by simpa using h)
theorem over_of {P : Program} {f : FuncId} {args : Array Value} {w : World} {z : Over w} {v : Value} (h : Calls P f args z.x fun e w' => e = .returned v ∧ Below z.x.heap.size z.x w') :
    Calls P f args z.x fun e w'' => e = .returned v ∧ ∃ y : Over w, w'' = y.x :=
  h.mono fun _ w' ⟨he, hb⟩ => ⟨he, ⟨w', z.h.trans (hb.mono z.h.size)⟩, rfl⟩
end Go.Proofs.YtjnekdihmchlpaaGreatDoor
/- The specification's decimal numeral. -/
namespace Go.Proofs.YtjnekdihmchlpaaGreatDoor.Tg
open Go.RowKit
/-- the digits of m, none for 0 -/
def low (m : Nat) : List UInt8 := if m = 0 then [] else Lib.decDigits m
theorem low_step (m : Nat) (h : m ≠ 0) : low m = low (m / 10) ++ [UInt8.ofNat (48 + m % 10)] := by
  unfold low
  rw [if_neg h, Lib.decDigits]
  by_cases h1 : m < 10
  · rw [dif_pos h1, if_pos (by omega), Nat.mod_eq_of_lt h1]; rfl
  · rw [dif_neg h1, if_neg (by omega)]
theorem dec_len (a : Nat) (ha : a ≤ 9223372036854775807) : (Lib.decDigits a).length ≤ 21 := by
  have := Lib.itoa_length_le (a : Int) (by omega) (by omega)
  simpa [Lib.itoa, show ¬ (a : Int) < 0 from by omega] using this
theorem dig_one (d : Nat) (h : d < 10) : (⟨#[48, 49, 50, 51, 52, 53, 54, 55, 56, 57]⟩ : ByteArray).extract d (d + 1) = ⟨[UInt8.ofNat (48 + d)].toArray⟩ := by
  rcases (show d = 0 ∨ d = 1 ∨ d = 2 ∨ d = 3 ∨ d = 4 ∨ d = 5 ∨ d = 6 ∨ d = 7 ∨ d = 8 ∨ d = 9 from by omega) with rfl | rfl | rfl | rfl | rfl | rfl | rfl | rfl | rfl | rfl <;> decide
theorem dig_piece (d : Nat) (l : List UInt8) (h : d < 10) : (⟨#[48, 49, 50, 51, 52, 53, 54, 55, 56, 57]⟩ : ByteArray).extract d (d + 1) ++ ⟨l.toArray⟩ = ⟨(UInt8.ofNat (48 + d) :: l).toArray⟩ := by
  rw [dig_one d h, ba_append]; rfl
set_option maxHeartbeats 800000 in
theorem dec_up (a : Nat) (w : World) (ha : a ≤ 9223372036854775807) :
    Calls Tryz.prog 28 #[.int .i64 a] w fun e w' => e = .returned (.string ⟨(Lib.decDigits a).toArray⟩) ∧ w' = w := by
  by_cases h0 : a = 0
  · subst h0
    go_enter Tryz.func28, Tryz.ntmps28
    go_wp2
    go_ret
    exact ⟨one_str (by rw [Lib.decDigits_one (by omega)]; rfl), rfl⟩
  · have hne : ((a : Int) == 0) = false := by simp; omega
    have hnn : ¬ (a : Int) < 0 := by omega
    go_enter Tryz.func28, Tryz.ntmps28
    go_wp2
    go_loop [3, 4, 5] (fun o m _ => ∃ (k : Nat) (l : List UInt8), k ≤ a ∧ m = .int .i64 k ∧ o = .string ⟨l.toArray⟩ ∧ Lib.decDigits a = low k ++ l) (fun _ m _ => (intOf m).toNat)
    case atStart => exact ⟨a, [], Nat.le_refl _, rfl, rfl, by simp [low, h0]⟩
    case round =>
      obtain ⟨k, l, hk, rfl, rfl, hd⟩ := hrel
      by_cases hk0 : k = 0
      · subst hk0
        have HD : Hid _ := hd
        clear hd
        go_wp2
        go_ret
        exact ⟨one_str (by have := HD.out; simp [low] at this; rw [this]), rfl⟩
      · have kne : ((k : Int) != 0) = true := by simp; omega
        have HD : Hid (Lib.decDigits a = low (k / 10) ++ (UInt8.ofNat (48 + k % 10) :: l)) := by rw [Hid, hd, low_step k hk0]; simp
        have hl : l.length ≤ 21 := by have h1 := dec_len a ha; rw [hd] at h1; simp at h1; omega
        clear hd
        go_wp2
        go_round
        case rel => exact ⟨k / 10, UInt8.ofNat (48 + k % 10) :: l, by omega, by go_num, by rw [dig_piece _ _ (by omega)], HD.out⟩
        case measure => simp [intOf]; omega
end Go.Proofs.YtjnekdihmchlpaaGreatDoor.Tg
/- The contracts of PadNum, the program's and the specification's. -/
namespace Go.Proofs.YtjnekdihmchlpaaGreatDoor.Tg
open Go.RowKit
theorem repeat_one (n : Nat) : Lib.repeatL [48] n = List.replicate n 48 := by
  induction n with
  | zero => rfl
  | succ n ih => simp [Lib.repeatL, ih, List.replicate_succ]
def Pow10 (w : World) : Prop := Lib.TabIs Tryz.prog w "internal/strconv.uint64pow10" .u64 Lib.pow10Tab
theorem Pow10.below {w w' : World} (h : Pow10 w) (hb : Below w.heap.size w w') : Pow10 w' := Lib.tabBelow_of_tabIs h w' hb
set_option maxRecDepth 100000 in
set_option maxHeartbeats 400000 in
theorem l01Ten_any (n : Nat) (w : World) (hn : n ≤ 18) :
    Calls Tryz.prog 67 #[.int .i64 n] w fun e w' => e = .returned (.int .i64 (10 ^ n : Nat)) ∧ w' = w := by
  go_enter Tryz.func67, Tryz.ntmps67
  go_wp2
  go_loop [3, 4] (fun p i => ∃ k : Nat, k ≤ n ∧ i = .int .i64 k ∧ p = .int .i64 (10 ^ k : Nat)) (fun _ i => n - (intOf i).toNat)
  case atStart => exact ⟨0, Nat.zero_le _, rfl, rfl⟩
  case round =>
    obtain ⟨k, hk, rfl, rfl⟩ := hrel
    by_cases hlt : k < n
    · have hki : (k : Int) < (n : Int) := by omega
      have hp : 10 ^ k ≤ 10 ^ 17 := Nat.pow_le_pow_right (by omega) (by omega)
      have hs : 10 ^ (k + 1) = 10 ^ k * 10 := Nat.pow_succ 10 k
      obtain ⟨x, hx⟩ : ∃ x : Nat, 10 ^ k = x := ⟨_, rfl⟩
      rw [hx] at hp hs ⊢
      have HS : Hid (((10 ^ (k + 1) : Nat) : Int) = 10 * (x : Int)) := by rw [Hid, hs]; omega
      have hxb : x ≤ 100000000000000000 := by omega
      clear hs hx hp
      go_wp2
      go_round
      case rel => exact ⟨k + 1, by omega, by go_num, by rw [HS.out]⟩
      case measure => simp [intOf]; omega
    · have hke : k = n := by omega
      subst hke
      obtain ⟨x, hx⟩ : ∃ x : Nat, 10 ^ k = x := ⟨_, rfl⟩
      rw [hx]
      have HX : Hid _ := hx
      clear hx
      go_wp2
      go_ret
      exact ⟨one_int (by rw [← HX.out]; simp), rfl⟩
set_option maxRecDepth 100000 in
set_option maxHeartbeats 800000 in
theorem iPadNum_any (x n : Int) (w : World) (ht : Pow10 w) :
    Calls Tryz.prog 24 #[.int .i64 x, .int .i64 n] w fun e w' => e = .returned (.string ⟨(padT x n).toArray⟩) ∧ Below w.heap.size w w' := by
  have HT : Hid (Pow10 w) := ht
  clear ht
  by_cases h1 : n < 1
  · have HN : Hid _ := padT_no (padOk_no1 (x := x) (n := n) (by omega))
    go_enter Tryz.func24, Tryz.ntmps24
    go_wp2
    go_ret
    exact ⟨one_str (by rw [HN.out]), Below.refl _ _⟩
  · by_cases h2 : 18 < n
    · have HN : Hid _ := padT_no (padOk_no1 (x := x) (n := n) (by omega))
      go_enter Tryz.func24, Tryz.ntmps24
      go_wp2
      go_ret
      exact ⟨one_str (by rw [HN.out]), Below.refl _ _⟩
    · by_cases h3 : x < 0
      · have HN : Hid _ := padT_no (padOk_no2 (x := x) (n := n) (by omega))
        have h1' : 1 ≤ n := by omega
        have h2' : n ≤ 18 := by omega
        go_enter Tryz.func24, Tryz.ntmps24
        go_wp2
        go_ret
        exact ⟨one_str (by rw [HN.out]), Below.refl _ _⟩
      · obtain ⟨a, rfl⟩ := Int.eq_ofNat_of_zero_le (show 0 ≤ x by omega)
        obtain ⟨m, rfl⟩ := Int.eq_ofNat_of_zero_le (show 0 ≤ n by omega)
        have hm1 : (1 : Int) ≤ (m : Int) := by omega
        have hm2 : (m : Int) ≤ 18 := by omega
        have hp : 10 ^ m ≤ 10 ^ 18 := Nat.pow_le_pow_right (by omega) (by omega)
        clear h1 h2 h3
        by_cases h4 : 10 ^ m ≤ a
        · have HN : Hid _ := padT_no (padOk_no2 (x := a) (n := m) (by rw [Int.toNat_natCast]; omega))
          go_enter Tryz.func24, Tryz.ntmps24
          go_wp2_with fail
          refine (tenTo_any m _ (by omega)).mono ?_
          rintro e w1 ⟨rfl, hw1⟩
          subst hw1
          obtain ⟨y, hy⟩ : ∃ y : Nat, 10 ^ m = y := ⟨_, rfl⟩
          rw [hy] at h4 ⊢
          have h4i : (y : Int) ≤ (a : Int) := by omega
          clear hy hp
          go_wp2
          go_ret
          exact ⟨one_str (by rw [HN.out]), Below.refl _ _⟩
        · have HY : Hid (padT a m = padN a m) := padT_yes (by omega) (by omega) (by omega)
          have hsl := dec_len_pow m a (by omega) (by omega)
          have HI : Hid (Lib.itoa (a : Int) = Lib.decDigits a) := by rw [Hid, Lib.itoa, if_neg (by omega)]; rfl
          unfold padN at HY
          obtain ⟨s, hs⟩ : ∃ s, Lib.decDigits a = s := ⟨_, rfl⟩
          rw [hs] at HY hsl HI
          have hab : a ≤ 1000000000000000000 := by omega
          obtain ⟨y, hy⟩ : ∃ y : Nat, 10 ^ m = y := ⟨_, rfl⟩
          rw [hy] at h4
          have h4i : (a : Int) < (y : Int) := by omega
          have HYM : Hid _ := hy
          clear hs hp hy
          go_enter Tryz.func24, Tryz.ntmps24
          go_wp2_with fail
          refine (tenTo_any m _ (by omega)).mono ?_
          rintro e w1 ⟨rfl, hw1⟩
          subst hw1
          rw [HYM.out]
          go_wp2_with fail
          refine (Tryz.strconv_Itoa _ (by omega) (by omega) _ HT.out).mono ?_
          rintro e w2 ⟨rfl, k, os, rfl⟩
          rw [HI.out]
          have hr : (List.replicate (m - s.length) (48 : UInt8)).length = m - s.length := by simp
          go_wp2_with fail
          rw [show ((m : Int) - (s.length : Int)) = ((m - s.length : Nat) : Int) from by omega]
          refine (Tryz.strings_Repeat ⟨#[48]⟩ (m - s.length) _ (by omega) (by simp [ByteArray.size]; omega)).mono ?_
          rintro e w3 ⟨rfl, b3⟩
          rw [show Lib.repeatL (⟨#[48]⟩ : ByteArray).data.toList (m - s.length) = List.replicate (m - s.length) 48 from repeat_one _]
          generalize List.replicate (m - s.length) (48 : UInt8) = r at hr HY
          go_wp2
          go_ret
          refine ⟨one_str ?_, next (Lib.below_grow _ _ (Nat.le_refl _) _ _) b3⟩
          rw [HY.out, ba_append r s]
def strLen : Value → Nat
  | .string b => b.size
  | _ => 0
theorem strLen_list (l : List UInt8) : strLen (.string ⟨l.toArray⟩) = l.length := by simp [strLen, ByteArray.size]
set_option maxRecDepth 100000 in
set_option maxHeartbeats 800000 in
theorem sPadNum_any (x n : Int) (w : World) :
    Calls Tryz.prog 31 #[.int .i64 x, .int .i64 n] w fun e w' => e = .returned (.string ⟨(padT x n).toArray⟩) ∧ Below w.heap.size w w' := by
  cases h1 : inB n 1 18
  · have h1o : ¬ (1 ≤ n ∧ n ≤ 18) := of_decide_eq_false h1
    have HN : Hid _ := padT_no (padOk_no1 (x := x) h1o)
    go_enter Tryz.func31, Tryz.ntmps31
    go_wp2_with fail
    refine (in_any _ _ _ _).mono ?_
    rintro e w1 ⟨rfl, hw1⟩
    subst hw1
    rw [h1]
    go_wp2
    go_ret
    exact ⟨one_str (by rw [HN.out]), Below.refl _ _⟩
  · have h1i : 1 ≤ n ∧ n ≤ 18 := of_decide_eq_true h1
    have HI : Hid _ := h1
    obtain ⟨m, rfl⟩ := Int.eq_ofNat_of_zero_le (show 0 ≤ n by omega)
    have hp : 10 ^ m ≤ 10 ^ 18 := Nat.pow_le_pow_right (by omega) (by omega)
    have hp0 : 0 < 10 ^ m := Nat.pow_pos (by omega)
    have hm18 : m ≤ 18 := by omega
    have HM1 : Hid (1 ≤ m) := by rw [Hid]; omega
    clear h1
    obtain ⟨y, hy⟩ : ∃ y : Nat, 10 ^ m = y := ⟨_, rfl⟩
    rw [hy] at hp hp0
    have hyb : y ≤ 1000000000000000000 := by omega
    have HYM : Hid _ := hy
    clear hy hp
    cases h2 : inB x 0 ((y : Int) - 1)
    · have h2o : ¬ (0 ≤ x ∧ x ≤ (y : Int) - 1) := of_decide_eq_false h2
      have HN : Hid _ := padT_no (padOk_no2 (x := x) (n := m) (by rw [Int.toNat_natCast, HYM.out]; omega))
      go_enter Tryz.func31, Tryz.ntmps31
      go_wp2_with fail
      refine (in_any _ _ _ _).mono ?_
      rintro e w1 ⟨rfl, hw1⟩
      subst hw1
      rw [HI.out]
      go_wp2_with fail
      refine (l01Ten_any m _ hm18).mono ?_
      rintro e w1 ⟨rfl, hw1⟩
      subst hw1
      rw [HYM.out]
      go_wp2_with fail
      refine (in_any _ _ _ _).mono ?_
      rintro e w1 ⟨rfl, hw1⟩
      subst hw1
      rw [h2]
      go_wp2
      go_ret
      exact ⟨one_str (by rw [HN.out]), Below.refl _ _⟩
    · have h2i : 0 ≤ x ∧ x ≤ (y : Int) - 1 := of_decide_eq_true h2
      obtain ⟨a, rfl⟩ := Int.eq_ofNat_of_zero_le h2i.1
      have H2 : Hid _ := h2
      have hay : a < y := by omega
      have HY : Hid (padT a m = padN a m) := padT_yes HM1.out hm18 (by rw [HYM.out]; exact hay)
      have hsl := dec_len_pow m a HM1.out (by rw [HYM.out]; exact hay)
      unfold padN at HY
      clear h2
      go_enter Tryz.func31, Tryz.ntmps31
      go_wp2_with fail
      refine (in_any _ _ _ _).mono ?_
      rintro e w1 ⟨rfl, hw1⟩
      subst hw1
      rw [HI.out]
      go_wp2_with fail
      refine (l01Ten_any m _ hm18).mono ?_
      rintro e w1 ⟨rfl, hw1⟩
      subst hw1
      rw [HYM.out]
      go_wp2_with fail
      refine (in_any _ _ _ _).mono ?_
      rintro e w1 ⟨rfl, hw1⟩
      subst hw1
      rw [H2.out]
      clear H2 HI
      go_wp2_with fail
      refine (dec_up a _ (by omega)).mono ?_
      rintro e w1 ⟨rfl, hw1⟩
      subst hw1
      generalize Lib.decDigits a = s at hsl HY
      go_wp2
      go_loop [5] (fun v => ∃ k : Nat, k ≤ m - s.length ∧ v = .string ⟨(List.replicate k 48 ++ s).toArray⟩) (fun v => m - strLen v)
      case atStart => exact ⟨0, Nat.zero_le _, rfl⟩
      case round =>
        obtain ⟨k, hk, rfl⟩ := hrel
        have hsz : (List.replicate k (48 : UInt8) ++ s).length = k + s.length := by simp
        have HS2 : Hid ((⟨#[48]⟩ : ByteArray) ++ ⟨(List.replicate k 48 ++ s).toArray⟩ = ⟨(List.replicate (k + 1) 48 ++ s).toArray⟩) := ba_append [48] (List.replicate k 48 ++ s)
        have HS3 : Hid (strLen (.string ((⟨#[48]⟩ : ByteArray) ++ ⟨(List.replicate k 48 ++ s).toArray⟩)) = k + 1 + s.length) := by rw [Hid, HS2.out, strLen_list]; simp
        have HS4 : Hid (strLen (.string ⟨(List.replicate k 48 ++ s).toArray⟩) = k + s.length) := by rw [Hid, strLen_list, hsz]
        have HK : Hid (k = m - s.length → padT a m = List.replicate k 48 ++ s) := fun e => by rw [e]; exact HY.out
        generalize List.replicate k (48 : UInt8) ++ s = p at hsz HS2 HS3 HS4 HK
        have hpl : p.length ≤ 25 := by omega
        by_cases hlt : p.length < m
        · have hlt' : (p.length : Int) < (m : Int) := by omega
          have hkd : k + 1 ≤ m - s.length := by omega
          have hme : m - (k + 1 + s.length) < m - (k + s.length) := by omega
          clear hsz
          go_wp2
          go_round
          case rel => exact ⟨k + 1, hkd, by rw [HS2.out]⟩
          case measure => rw [HS3.out, HS4.out]; exact hme
        · have hlt' : (m : Int) ≤ (p.length : Int) := by omega
          have HP : Hid _ := HK.out (by omega)
          clear hsz HK HS2 HS3 HS4 hk
          go_wp2
          go_ret
          exact ⟨one_str (by rw [HP.out]), Below.refl _ _⟩
end Go.Proofs.YtjnekdihmchlpaaGreatDoor.Tg
/- The text that the exact laws lay as a mark. -/
namespace Go.Proofs.YtjnekdihmchlpaaGreatDoor
open Go.RowKit
def digC (m : Nat) : UInt8 := UInt8.ofNat (48 + m % 10)
theorem digC_nat (m : Nat) : (digC m).toNat = 48 + m % 10 := by unfold digC; rw [UInt8.toNat_ofNat']; omega
def mdig (n : Nat) : List UInt8 := if _h : n = 0 then [] else mdig (n / 10) ++ [digC n]
termination_by n
decreasing_by omega
theorem mdig_zero : mdig 0 = [] := by rw [mdig]; rfl
theorem mdig_step (n : Nat) (h : n ≠ 0) : mdig n = mdig (n / 10) ++ [digC n] := by rw [mdig, dif_neg h]
theorem mdig_len (n : Nat) : ∀ k, n < 10 ^ k → (mdig n).length ≤ k := by
  induction n using Nat.strongRecOn with
  | _ n ih =>
    intro k hk
    by_cases h : n = 0
    · subst h; rw [mdig_zero]; exact Nat.zero_le _
    · rw [mdig_step n h]
      cases k with
      | zero => simp at hk; omega
      | succ k =>
        have := ih (n / 10) (by omega) k (by rw [Nat.pow_succ] at hk; omega)
        simp; omega
def mtx (n : Nat) : List UInt8 := 109 :: mdig n
end Go.Proofs.YtjnekdihmchlpaaGreatDoor
/- A set comes back from its bytes, over plain lists. No Go in sight. -/
namespace Go.Proofs.YtjnekdihmchlpaaGreatDoor
open Go.RowKit
theorem filter_asc (N : Nat) (zs : List Int) : ∀ p : Nat, ascS (p : Int) zs = true → (∀ x ∈ zs, x ≤ (N : Int)) → p ≤ N → ((List.range' (p + 1) (N - p)).filter fun n => zs.contains ((n : Nat) : Int)).map (fun n : Nat => (n : Int)) = zs := by
  induction zs with
  | nil =>
    intro p _ _ _
    have : (List.range' (p + 1) (N - p)).filter (fun n => ([] : List Int).contains ((n : Nat) : Int)) = [] := List.filter_eq_nil_iff.2 (fun n _ => by simp)
    rw [this]; rfl
  | cons x r ih =>
    intro p h hN hp
    have h' := h
    rw [ascS, Bool.and_eq_true, decide_eq_true_eq] at h'
    have hxN := hN x (by simp)
    obtain ⟨q, rfl⟩ := Int.eq_ofNat_of_zero_le (show 0 ≤ x by omega)
    have hpq : p < q := by omega
    have hqN : q ≤ N := by omega
    have e1 : List.range' (p + 1) (N - p) = List.range' (p + 1) (q - p - 1) ++ (q :: List.range' (q + 1) (N - q)) := by
      have a := List.range'_append (s := p + 1) (m := q - p - 1) (n := N - q + 1) (step := 1)
      rw [show p + 1 + 1 * (q - p - 1) = q from by omega, show q - p - 1 + (N - q + 1) = N - p from by omega] at a
      rw [← a, List.range'_succ]
    have hr := ascS_mem h'.2
    rw [e1, List.filter_append, List.filter_cons]
    have f1 : (List.range' (p + 1) (q - p - 1)).filter (fun n => ((q : Int) :: r).contains ((n : Nat) : Int)) = [] := by
      refine List.filter_eq_nil_iff.2 fun n hn => ?_
      rw [List.mem_range'_1] at hn
      simp only [List.contains_cons, Bool.or_eq_true, not_or, List.contains_iff_mem]
      constructor
      · simp; omega
      · intro hm
        have := (hr _ hm).1
        omega
    have f2 : (List.range' (q + 1) (N - q)).filter (fun n => ((q : Int) :: r).contains ((n : Nat) : Int)) = (List.range' (q + 1) (N - q)).filter (fun n => r.contains ((n : Nat) : Int)) := by
      refine List.filter_congr fun n hn => ?_
      rw [List.mem_range'_1] at hn
      rw [List.contains_cons]
      have : ((n : Int) == (q : Int)) = false := by simp; omega
      rw [this, Bool.false_or]
    have f3 : ((q : Int) :: r).contains ((q : Nat) : Int) = true := by simp
    rw [f1, f2, if_pos f3, List.nil_append, List.map_cons, ih q h'.2 (fun y hy => hN y (by simp [hy])) hqN]
theorem bitS_two {zs : List Int} {n : Nat} (h : 2 ≤ n) : bitS zs n = zs.contains (n : Int) := by
  unfold bitS; rw [decide_eq_false (by omega)]; simp
theorem bitS_one {zs : List Int} (h : ascS 1 zs = true) : bitS zs 1 = wide zs := by
  unfold bitS
  have : zs.contains ((1 : Nat) : Int) = false := by
    cases e : zs.contains ((1 : Nat) : Int)
    · rfl
    · have := (ascS_mem h _ (List.contains_iff_mem.1 e)).1
      omega
  rw [this]; simp
theorem nums_set {zs : List Int} (h : ascS 1 zs = true) : numsL (setB (bitS zs) (sizeS zs)) (8 * sizeS zs) = zs := by
  have hN : ∀ x ∈ zs, x ≤ ((8 * sizeS zs : Nat) : Int) := by
    intro x hx
    have hb := ascS_mem h x hx
    rcases sizeS_or zs with ⟨h1, _⟩ | ⟨h1, h2⟩
    · rw [h1]; omega
    · have : ¬ 64 < x := by
        intro h64
        have : wide zs = true := List.any_eq_true.2 ⟨_, hx, by simpa using h64⟩
        rw [h2] at this; cases this
      rw [h1]; omega
  have hs8 : 8 ≤ sizeS zs := by rcases sizeS_or zs with ⟨h1, _⟩ | ⟨h1, _⟩ <;> omega
  have hf := filter_asc (8 * sizeS zs) zs 1 h hN (by omega)
  obtain ⟨m, hm⟩ : ∃ m, sizeS zs = m := ⟨_, rfl⟩
  rw [hm] at hf hs8 ⊢
  unfold numsL
  have e1 : List.range (8 * m + 1) = [0, 1] ++ List.range' (1 + 1) (8 * m - 1) := by
    rw [List.range_eq_range', show 8 * m + 1 = 2 + (8 * m - 1) from by omega, ← List.range'_append (s := 0) (m := 2) (n := 8 * m - 1) (step := 1)]
    rfl
  rw [e1, List.filter_append]
  have f1 : ([0, 1] : List Nat).filter (fun n => decide (2 ≤ n) && bitL (setB (bitS zs) m) n) = [] := by simp
  have f2 : (List.range' (1 + 1) (8 * m - 1)).filter (fun n => decide (2 ≤ n) && bitL (setB (bitS zs) m) n) = (List.range' (1 + 1) (8 * m - 1)).filter (fun n => zs.contains ((n : Nat) : Int)) := by
    refine List.filter_congr fun n hn => ?_
    rw [List.mem_range'_1] at hn
    rw [decide_eq_true (by omega), Bool.true_and, bitL_set _ _ _ (by omega) (by omega), bitS_two (by omega)]
  rw [f1, f2, List.nil_append]
  exact hf
theorem set_back {zs : List Int} {s : List UInt8} (h : putS zs = some s) : getSL ([113] ++ s ++ [114]) 1 = zs ∧ getSI ([113] ++ s ++ [114]) 1 = 1 + (s.length : Int) ∧ s.length = sizeS zs ∧ ascS 1 zs = true := by
  have ha : ascS 1 zs = true := by
    cases e : ascS 1 zs
    · rw [putS_no e] at h; cases h
    · rfl
  rw [putS_yes ha] at h
  have hs : setB (bitS zs) (sizeS zs) = s := Option.some.inj h
  have hlen : s.length = sizeS zs := by rw [← hs, setB_len]
  have hs8 : 8 ≤ sizeS zs := by rcases sizeS_or zs with ⟨h1, _⟩ | ⟨h1, _⟩ <;> omega
  have hnum := nums_set ha
  rw [hs] at hnum
  have hg0 : ([113] ++ s ++ [114]).getD 1 0 = s.getD 0 0 := by
    rw [List.append_assoc, List.singleton_append]
    simp only [List.getD_eq_getElem?_getD, List.getElem?_cons_succ]
    rw [List.getElem?_append_left (by omega)]
  have hb1 : bitL s 1 = wide zs := by rw [← hs, bitL_set _ _ _ (by omega) (by omega), bitS_one ha]
  have hf := bitL_first s 0
  rw [List.drop_zero, hb1] at hf
  have hz : szB (([113] ++ s ++ [114]).getD 1 0) = sizeS zs := by
    rw [hg0]
    unfold szB sizeS
    rw [hf]
    by_cases hc : 128 ≤ (s.getD 0 0).toNat
    · rw [if_pos hc, if_pos (decide_eq_true hc)]
    · rw [if_neg hc, if_neg (by rw [decide_eq_false hc]; decide)]
  have hp : (([113] ++ s ++ [114]).drop 1).take (sizeS zs) = s := by
    rw [← hlen]; simp
  have hg := (getS_in (l := [113] ++ s ++ [114]) (k := 1) (m := sizeS zs) (b := s) hz (by simp; omega) hp hs8).1 (by rw [hnum, putS_yes ha, hs])
  rw [hnum] at hg
  refine ⟨hg.1, ?_, hlen, ha⟩
  rw [hlen]
  exact hg.2
end Go.Proofs.YtjnekdihmchlpaaGreatDoor
/- The contracts of NumOf, the program's and the specification's. -/
namespace Go.Proofs.YtjnekdihmchlpaaGreatDoor.Tg
open Go.RowKit
set_option maxHeartbeats 400000 in
theorem iNumOf_any (l : List UInt8) (w : World) (hl : l.length ≤ 1099511627776) :
    Calls Tryz.prog 16 #[.string ⟨l.toArray⟩] w fun e w' => e = .returned (.int .i64 (numOf l)) ∧ w' = w := by
  by_cases hbig : 18 < l.length
  · have HN : Hid _ := numOf_no1 hbig
    have hbi : (18 : Int) < (l.length : Int) := by omega
    go_enter Tryz.func16, Tryz.ntmps16
    go_wp2
    go_ret
    exact ⟨one_int HN.out.symm, rfl⟩
  · have hbi : (l.length : Int) ≤ 18 := by omega
    have hl18 : l.length ≤ 18 := by omega
    cases hd : within 48 57 l
    · have HN : Hid _ := numOf_no2 hd
      go_enter Tryz.func16, Tryz.ntmps16
      go_wp2_with fail
      refine (iDigits_any _ _ hl).mono ?_
      rintro e w1 ⟨rfl, hw⟩
      subst hw
      rw [hd]
      go_wp2
      go_ret
      exact ⟨one_int HN.out.symm, rfl⟩
    · have HY : Hid _ := numOf_yes hl18 hd
      have HB : Hid _ := val_bound l hd
      have HD : Hid (within 48 57 l = true) := hd
      go_enter Tryz.func16, Tryz.ntmps16
      go_wp2_with fail
      refine (iDigits_any _ _ hl).mono ?_
      rintro e w1 ⟨rfl, hw⟩
      subst hw
      rw [hd]
      clear hd
      go_wp2
      go_loop [3, 4, 15] (fun v _ i => ∃ k : Nat, k ≤ l.length ∧ i = .int .i64 k ∧ v = .int .i64 (val 0 (l.take k))) (fun _ _ i => l.length - (intOf i).toNat)
      case atStart => exact ⟨0, Nat.zero_le _, rfl, rfl⟩
      case round =>
        obtain ⟨k, hk, rfl, rfl⟩ := hrel
        have hb := HB.out k hk
        have hp : 10 ^ k ≤ 10 ^ 18 := Nat.pow_le_pow_right (by omega) (by omega)
        by_cases hlt : k < l.length
        · have hki : (k : Int) < (l.length : Int) := by omega
          have hp1 : 10 ^ k ≤ 10 ^ 17 := Nat.pow_le_pow_right (by omega) (by omega)
          have hw := within_at HD.out hlt
          have hv := val_take l k hlt
          obtain ⟨c, hc⟩ : ∃ c, (⟨l.toArray⟩ : ByteArray)[k]'(by rw [ba_size]; exact hlt) = c := ⟨_, rfl⟩
          rw [(byte_at l k hlt).trans hc] at hw hv
          obtain ⟨x, hx⟩ : ∃ x, val 0 (l.take k) = x := ⟨_, rfl⟩
          rw [hx] at hb hv ⊢
          have hxb : x ≤ 100000000000000000 := by omega
          have hsi : ((val 0 (l.take (k + 1)) : Nat) : Int) = (x : Int) * 10 + ((c.toNat : Int) - 48) := by omega
          have HV : Hid _ := hsi
          clear hsi hv hx hb hp hp1
          go_wp2
          go_round
          case rel => exact ⟨k + 1, by omega, by go_num, by rw [HV.out]⟩
          case measure => simp [intOf]; omega
        · have hke : k = l.length := by omega
          subst hke
          rw [List.take_of_length_le (Nat.le_refl _)]
          clear hb hp
          go_wp2
          go_ret
          exact ⟨one_int HY.out.symm, rfl⟩
end Go.Proofs.YtjnekdihmchlpaaGreatDoor.Tg
/- Two structs of two cells in boxes of their own: what is kept of them. -/
namespace Go.Proofs.YtjnekdihmchlpaaGreatDoor
open Go.RowKit
theorem twobox {w u : World} {x y x' y' : Value} {t t' : TypeId} (b : Below ((w.alloc (.cells #[x, y] t)).alloc (.cells #[x', y'] t')).heap.size ((w.alloc (.cells #[x, y] t)).alloc (.cells #[x', y'] t')) u) :
    u.cell? ⟨w.heap.size, 0, none⟩ = some x ∧ u.cell? ⟨w.heap.size, 1, none⟩ = some y ∧ u.cell? ⟨w.heap.size + 1, 0, none⟩ = some x' ∧ u.cell? ⟨w.heap.size + 1, 1, none⟩ = some y' ∧
      u.frozen? ⟨w.heap.size + 1, 0, none⟩ = false ∧ u.frozen? ⟨w.heap.size + 1, 1, none⟩ = false ∧ Below w.heap.size w u ∧ w.heap.size + 1 < u.heap.size :=
  ⟨(b.cell (p := ⟨w.heap.size, 0, none⟩) (by simp; omega)).trans (by simp [go_sem]), (b.cell (p := ⟨w.heap.size, 1, none⟩) (by simp; omega)).trans (by simp [go_sem]),
    (b.cell (p := ⟨w.heap.size + 1, 0, none⟩) (by simp)).trans (by simp [go_sem]), (b.cell (p := ⟨w.heap.size + 1, 1, none⟩) (by simp)).trans (by simp [go_sem]),
    (b.frozen (p := ⟨w.heap.size + 1, 0, none⟩) (by simp)).trans (by simp [go_sem]), (b.frozen (p := ⟨w.heap.size + 1, 1, none⟩) (by simp)).trans (by simp [go_sem]),
    (((Below.refl _ _).alloc (Nat.le_refl _) _).alloc (by simp) _).trans (b.mono (by simp; omega)), by have := b.size; simp at this; omega⟩
end Go.Proofs.YtjnekdihmchlpaaGreatDoor
