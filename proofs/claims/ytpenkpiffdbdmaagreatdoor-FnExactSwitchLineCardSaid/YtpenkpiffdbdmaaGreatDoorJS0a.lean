import Derived.Test.YtpenkpiffdbdmaaGreatDoorProg
import Derived.WalkLawsBesides
import Derived.BigQuiet
import Derived.Lib.ItoaLen
import Derived.WalkSpells
import Derived.Shelf.Strings.OnBuilder
import Derived.Shelf.Strings.Trim
import Derived.Shelf.Small.Utf8
import Derived.Shelf.Strconv.Itoa3
import Derived.Shelf.Strconv.Clone
import Derived.Shelf.Strings.Shaped
import Derived.Shelf.Unicode.Decode
import Derived.Shelf.Strings.Runes
import Derived.Shelf.Strings.AsciiSet
import Derived.Shelf.Strings.Repeat
import Derived.Shelf.Unicode.DecodeAny
import Derived.Handy
import Derived.Deep.RegionHeld3
import Derived.Deep.AppendLies
/- Small steps that many walks end with. -/
namespace Go.Proofs.YtpenkpiffdbdmaaGreatDoor
open Go.RowKit
theorem next {w w1 w2 : World} (h : Below w.heap.size w w1) (k : Below w1.heap.size w1 w2) : Below w.heap.size w w2 := h.trans (k.mono h.size)
theorem two_eq {k : IntKind} {a b : Int} {x y : Bool} (h : a = b) (g : x = y) : Ending.returned (.tuple #[.int k a, .bool x]) = .returned (.tuple #[.int k b, .bool y]) := by rw [h, g]
theorem two_ints {k : IntKind} {a b x y : Int} (h : a = b) (g : x = y) : Ending.returned (.tuple #[.int k a, .int k x]) = .returned (.tuple #[.int k b, .int k y]) := by rw [h, g]
theorem one_int {k : IntKind} {a b : Int} (h : a = b) : Ending.returned (.int k a) = .returned (.int k b) := by rw [h]
theorem one_bool {a b : Bool} (h : a = b) : Ending.returned (.bool a) = .returned (.bool b) := by rw [h]
theorem one_str {a b : ByteArray} (h : a = b) : Ending.returned (.string a) = .returned (.string b) := by rw [h]
end Go.Proofs.YtpenkpiffdbdmaaGreatDoor
/- Plain lists of bytes: what they are as texts, whether each lies within bounds, the number that digits spell. No Go in sight. -/
namespace Go.Proofs.YtpenkpiffdbdmaaGreatDoor
open Go.RowKit
theorem ba_append (l r : List UInt8) : (⟨l.toArray⟩ ++ ⟨r.toArray⟩ : ByteArray) = ⟨(l ++ r).toArray⟩ := by
  apply ByteArray.ext
  simp
theorem ba_list (b : ByteArray) : b = ⟨b.data.toList.toArray⟩ := by cases b; simp
theorem ba_extract (l : List UInt8) (a b : Nat) : (⟨l.toArray⟩ : ByteArray).extract a b = ⟨((l.drop a).take (b - a)).toArray⟩ := by
  have h := Lib.extract_data ⟨l.toArray⟩ a b
  rw [ba_list (ByteArray.extract ⟨l.toArray⟩ a b), h]
theorem ba_size (l : List UInt8) : (⟨l.toArray⟩ : ByteArray).size = l.length := by simp [ByteArray.size]
theorem ba_inj {l r : List UInt8} : ((⟨l.toArray⟩ : ByteArray) = ⟨r.toArray⟩) ↔ l = r :=
  ⟨fun h => by have := congrArg (fun b : ByteArray => b.data.toList) h; simpa using this, fun h => by rw [h]⟩
theorem byte_at (l : List UInt8) (k : Nat) (h : k < l.length) : l.getD k 0 = (⟨l.toArray⟩ : ByteArray)[k]'(by rw [ba_size]; exact h) := by
  rw [List.getD_eq_getElem?_getD, List.getElem?_eq_getElem h]
  rfl
theorem wrap_byte (c : UInt8) : wrap64 ((c.toNat : Nat) : Int) = (c.toNat : Int) := by
  have := c.toNat_lt
  unfold wrap64; omega
/-- whether each byte is a .. b -/
def within (a b : Nat) (l : List UInt8) : Bool := l.all fun c => decide (a ≤ c.toNat) && decide (c.toNat ≤ b)
theorem within_step (a b : Nat) (l : List UInt8) (k : Nat) (h : k < l.length) : within a b (l.drop k) = ((decide (a ≤ (l.getD k 0).toNat) && decide ((l.getD k 0).toNat ≤ b)) && within a b (l.drop (k + 1))) := by
  have e : l.getD k 0 = l[k] := by simp [List.getD_eq_getElem?_getD, h]
  rw [List.drop_eq_getElem_cons h, e]
  simp only [within, List.all_cons]
theorem within_end (a b : Nat) (l : List UInt8) : within a b (l.drop l.length) = true := by rw [List.drop_of_length_le (Nat.le_refl _)]; rfl
theorem within_mem {a b : Nat} {l : List UInt8} (h : within a b l = true) : ∀ c ∈ l, a ≤ c.toNat ∧ c.toNat ≤ b := by
  intro c hc
  have := List.all_eq_true.1 h c hc
  simpa using this
theorem within_of {a b : Nat} {l : List UInt8} (h : ∀ c ∈ l, a ≤ c.toNat ∧ c.toNat ≤ b) : within a b l = true :=
  List.all_eq_true.2 fun c hc => by simpa using h c hc
theorem within_at {a b : Nat} {l : List UInt8} (h : within a b l = true) {k : Nat} (hk : k < l.length) : a ≤ (l.getD k 0).toNat ∧ (l.getD k 0).toNat ≤ b :=
  within_mem h _ (by simp [List.getD_eq_getElem?_getD, hk])
/-- the number that digits spell, from a on -/
def val (a : Nat) (l : List UInt8) : Nat := l.foldl (fun a c => a * 10 + (c.toNat - 48)) a
theorem val_cons (a : Nat) (c : UInt8) (l : List UInt8) : val a (c :: l) = val (a * 10 + (c.toNat - 48)) l := by simp only [val, List.foldl_cons]
theorem val_append (a : Nat) (l r : List UInt8) : val a (l ++ r) = val (val a l) r := by simp [val]
theorem val_zeros (k : Nat) (l : List UInt8) : val 0 (List.replicate k 48 ++ l) = val 0 l := by
  induction k with
  | zero => rfl
  | succ k ih => rw [List.replicate_succ, List.cons_append, val_cons]; exact ih
theorem take_succ_at (l : List UInt8) (k : Nat) (h : k < l.length) : l.take (k + 1) = l.take k ++ [l.getD k 0] := by
  rw [List.take_add_one, List.getElem?_eq_getElem h, List.getD_eq_getElem?_getD, List.getElem?_eq_getElem h]; rfl
theorem val_take (l : List UInt8) (k : Nat) (h : k < l.length) : val 0 (l.take (k + 1)) = val 0 (l.take k) * 10 + ((l.getD k 0).toNat - 48) := by
  rw [take_succ_at l k h, val_append]; rfl
theorem val_bound (l : List UInt8) (h : within 48 57 l = true) : ∀ k, k ≤ l.length → val 0 (l.take k) < 10 ^ k := by
  intro k
  induction k with
  | zero => intro _; simp [val]
  | succ k ih =>
    intro hk
    have := ih (by omega)
    have hb := within_at h (k := k) (by omega)
    rw [val_take l k (by omega), Nat.pow_succ]
    omega
/-- a text's number -/
def numOf (l : List UInt8) : Int := if l.length ≤ 18 ∧ within 48 57 l = true then (val 0 l : Int) else -1
theorem numOf_no1 {l : List UInt8} (h : 18 < l.length) : numOf l = -1 := if_neg (by omega)
theorem numOf_no2 {l : List UInt8} (h : within 48 57 l = false) : numOf l = -1 := if_neg (by rw [h]; simp)
theorem numOf_yes {l : List UInt8} (h1 : l.length ≤ 18) (h2 : within 48 57 l = true) : numOf l = (val 0 l : Int) := if_pos ⟨h1, h2⟩
theorem numOf_bd (l : List UInt8) : -1 ≤ numOf l ∧ numOf l < 1000000000000000000 := by
  unfold numOf
  split
  · rename_i h
    have := val_bound l h.2 l.length (Nat.le_refl _)
    rw [List.take_of_length_le (Nat.le_refl _)] at this
    have : 10 ^ l.length ≤ 10 ^ 18 := Nat.pow_le_pow_right (by omega) h.1
    omega
  · omega
end Go.Proofs.YtpenkpiffdbdmaaGreatDoor
/- The contracts of the small functions of chapter 3 (fields) over a text's bytes: what each returns for every argument. -/
namespace Go.Proofs.YtpenkpiffdbdmaaGreatDoor.Tg
open Go.RowKit
def inB (x a b : Int) : Bool := decide (a ≤ x ∧ x ≤ b)
theorem inB_pos {x a b : Int} (h : a ≤ x) (g : x ≤ b) : inB x a b = true := by simp [inB, h, g]
theorem inB_neg {x a b : Int} (h : x < a ∨ b < x) : inB x a b = false := by simp [inB]; omega
set_option maxHeartbeats 400000 in
theorem in_any (x a b : Int) (w : World) :
    Calls Tryz.prog 29 #[.int .i64 x, .int .i64 a, .int .i64 b] w fun e w' => e = .returned (.bool (inB x a b)) ∧ w' = w := by
  by_cases h1 : a ≤ x
  · by_cases h2 : x ≤ b
    · go_enter Tryz.func29, Tryz.ntmps29
      go_wp2
      go_ret
      exact ⟨by simp [inB, h1, h2], rfl⟩
    · go_enter Tryz.func29, Tryz.ntmps29
      go_wp2
      go_ret
      exact ⟨by simp [inB, h1, h2], rfl⟩
  · go_enter Tryz.func29, Tryz.ntmps29
    go_wp2
    go_ret
    exact ⟨by simp [inB]; omega, rfl⟩
theorem in_byte (c : UInt8) (a b : Nat) : inB (c.toNat : Int) a b = (decide (a ≤ c.toNat) && decide (c.toNat ≤ b)) := by
  unfold inB
  by_cases h1 : a ≤ c.toNat <;> by_cases h2 : c.toNat ≤ b <;> simp [h1, h2]
set_option maxHeartbeats 400000 in
theorem iWithin_any (l : List UInt8) (a b : Nat) (w : World) (hl : l.length ≤ 1099511627776) :
    Calls Tryz.prog 78 #[.string ⟨l.toArray⟩, .int .u8 a, .int .u8 b] w fun e w' => e = .returned (.bool (within a b l)) ∧ w' = w := by
  go_enter Tryz.func78, Tryz.ntmps78
  go_wp2
  go_loop [7, 10] (fun _ i => ∃ k : Nat, k ≤ l.length ∧ i = .int .i64 k ∧ within a b l = within a b (l.drop k)) (fun _ i => l.length - (intOf i).toNat)
  case atStart => exact ⟨0, Nat.zero_le _, rfl, rfl⟩
  case round =>
    obtain ⟨k, hk, rfl, ht⟩ := hrel
    by_cases hlt : k < l.length
    · have hki : (k : Int) < (l.length : Int) := by omega
      have hs := within_step a b l k hlt
      obtain ⟨c, hc⟩ : ∃ c, (⟨l.toArray⟩ : ByteArray)[k]'(by rw [ba_size]; exact hlt) = c := ⟨_, rfl⟩
      rw [(byte_at l k hlt).trans hc] at hs
      have HS : Hid _ := ht.trans hs
      clear hs ht
      by_cases h1 : a ≤ c.toNat
      · have h1' : (a : Int) ≤ (c.toNat : Int) := by omega
        by_cases h2 : c.toNat ≤ b
        · have h2' : (c.toNat : Int) ≤ (b : Int) := by omega
          have HY : Hid (within a b l = within a b (l.drop (k + 1))) := by rw [Hid, HS.out]; simp [h1, h2]
          clear HS
          go_wp2
          go_round
          case rel => exact ⟨k + 1, by omega, by go_num, HY.out⟩
          case measure => simp [intOf]; omega
        · have h2' : (b : Int) < (c.toNat : Int) := by omega
          have HN : Hid (within a b l = false) := by rw [Hid, HS.out]; simp [h2]
          clear HS
          go_wp2
          go_ret
          exact ⟨one_bool HN.out.symm, rfl⟩
      · have h1' : (c.toNat : Int) < (a : Int) := by omega
        have HN : Hid (within a b l = false) := by rw [Hid, HS.out]; simp [h1]
        clear HS
        go_wp2
        go_ret
        exact ⟨one_bool HN.out.symm, rfl⟩
    · have hke : k = l.length := by omega
      subst hke
      have HE : Hid (within a b l = true) := by rw [Hid, ht, within_end]
      clear ht
      go_wp2
      go_ret
      exact ⟨one_bool HE.out.symm, rfl⟩
set_option maxHeartbeats 400000 in
theorem iDigits_any (l : List UInt8) (w : World) (hl : l.length ≤ 1099511627776) :
    Calls Tryz.prog 64 #[.string ⟨l.toArray⟩] w fun e w' => e = .returned (.bool (within 48 57 l)) ∧ w' = w := by
  go_enter Tryz.func64, Tryz.ntmps64
  go_wp2_with fail
  refine (iWithin_any l 48 57 _ hl).mono ?_
  rintro e w1 ⟨rfl, hw⟩
  subst hw
  go_wp2
  go_ret
  exact ⟨rfl, rfl⟩
set_option maxHeartbeats 400000 in
theorem iPlain_any (l : List UInt8) (w : World) (hl : l.length ≤ 1099511627776) :
    Calls Tryz.prog 87 #[.string ⟨l.toArray⟩] w fun e w' => e = .returned (.bool (within 32 126 l)) ∧ w' = w := by
  go_enter Tryz.func87, Tryz.ntmps87
  go_wp2_with fail
  refine (iWithin_any l 32 126 _ hl).mono ?_
  rintro e w1 ⟨rfl, hw⟩
  subst hw
  go_wp2
  go_ret
  exact ⟨rfl, rfl⟩
set_option maxHeartbeats 400000 in
theorem sPlain_any (l : List UInt8) (w : World) (hl : l.length ≤ 1099511627776) :
    Calls Tryz.prog 54 #[.string ⟨l.toArray⟩] w fun e w' => e = .returned (.bool (within 32 126 l)) ∧ w' = w := by
  go_enter Tryz.func54, Tryz.ntmps54
  go_wp2
  go_loop [3] (fun i => ∃ k : Nat, k ≤ l.length ∧ i = .int .i64 k ∧ within 32 126 l = within 32 126 (l.drop k)) (fun i => l.length - (intOf i).toNat)
  case atStart => exact ⟨0, Nat.zero_le _, rfl, rfl⟩
  case round =>
    obtain ⟨k, hk, rfl, ht⟩ := hrel
    by_cases hlt : k < l.length
    · have hki : (k : Int) < (l.length : Int) := by omega
      have hs := within_step 32 126 l k hlt
      obtain ⟨c, hc⟩ : ∃ c, (⟨l.toArray⟩ : ByteArray)[k]'(by rw [ba_size]; exact hlt) = c := ⟨_, rfl⟩
      rw [(byte_at l k hlt).trans hc, ← in_byte c 32 126] at hs
      have HS : Hid _ := ht.trans hs
      have hwc := wrap_byte c
      clear hs ht
      cases hin : inB (c.toNat : Int) 32 126
      · have HN : Hid (within 32 126 l = false) := by rw [Hid, HS.out]; simp [hin]
        clear HS
        go_wp2_with fail
        refine (in_any _ _ _ _).mono ?_
        rintro e w1 ⟨rfl, hw1⟩
        subst hw1
        rw [hin]
        go_wp2
        go_ret
        exact ⟨one_bool HN.out.symm, rfl⟩
      · have HY : Hid (within 32 126 l = within 32 126 (l.drop (k + 1))) := by rw [Hid, HS.out]; simp [hin]
        clear HS
        go_wp2_with fail
        refine (in_any _ _ _ _).mono ?_
        rintro e w1 ⟨rfl, hw1⟩
        subst hw1
        rw [hin]
        go_wp2
        go_round
        case rel => exact ⟨k + 1, by omega, by go_num, HY.out⟩
        case measure => simp [intOf]; omega
    · have hke : k = l.length := by omega
      subst hke
      have HE : Hid (within 32 126 l = true) := by rw [Hid, ht, within_end]
      clear ht
      go_wp2
      go_ret
      exact ⟨one_bool HE.out.symm, rfl⟩
set_option maxHeartbeats 400000 in
theorem sDigits_any (l : List UInt8) (w : World) (hl : l.length ≤ 1099511627776) :
    Calls Tryz.prog 53 #[.string ⟨l.toArray⟩] w fun e w' => e = .returned (.bool (within 48 57 l)) ∧ w' = w := by
  go_enter Tryz.func53, Tryz.ntmps53
  go_wp2
  go_loop [3] (fun i => ∃ k : Nat, k ≤ l.length ∧ i = .int .i64 k ∧ within 48 57 l = within 48 57 (l.drop k)) (fun i => l.length - (intOf i).toNat)
  case atStart => exact ⟨0, Nat.zero_le _, rfl, rfl⟩
  case round =>
    obtain ⟨k, hk, rfl, ht⟩ := hrel
    by_cases hlt : k < l.length
    · have hki : (k : Int) < (l.length : Int) := by omega
      have hs := within_step 48 57 l k hlt
      obtain ⟨c, hc⟩ : ∃ c, (⟨l.toArray⟩ : ByteArray)[k]'(by rw [ba_size]; exact hlt) = c := ⟨_, rfl⟩
      rw [(byte_at l k hlt).trans hc, ← in_byte c 48 57] at hs
      have HS : Hid _ := ht.trans hs
      have hwc := wrap_byte c
      clear hs ht
      cases hin : inB (c.toNat : Int) 48 57
      · have HN : Hid (within 48 57 l = false) := by rw [Hid, HS.out]; simp [hin]
        clear HS
        go_wp2_with fail
        refine (in_any _ _ _ _).mono ?_
        rintro e w1 ⟨rfl, hw1⟩
        subst hw1
        rw [hin]
        go_wp2
        go_ret
        exact ⟨one_bool HN.out.symm, rfl⟩
      · have HY : Hid (within 48 57 l = within 48 57 (l.drop (k + 1))) := by rw [Hid, HS.out]; simp [hin]
        clear HS
        go_wp2_with fail
        refine (in_any _ _ _ _).mono ?_
        rintro e w1 ⟨rfl, hw1⟩
        subst hw1
        rw [hin]
        go_wp2
        go_round
        case rel => exact ⟨k + 1, by omega, by go_num, HY.out⟩
        case measure => simp [intOf]; omega
    · have hke : k = l.length := by omega
      subst hke
      have HE : Hid (within 48 57 l = true) := by rw [Hid, ht, within_end]
      clear ht
      go_wp2
      go_ret
      exact ⟨one_bool HE.out.symm, rfl⟩
end Go.Proofs.YtpenkpiffdbdmaaGreatDoor.Tg
/- The contract of the program's powers of ten. -/
namespace Go.Proofs.YtpenkpiffdbdmaaGreatDoor.Tg
open Go.RowKit
set_option maxHeartbeats 400000 in
theorem tenTo_any (n : Nat) (w : World) (hn : n ≤ 18) :
    Calls Tryz.prog 45 #[.int .i64 n] w fun e w' => e = .returned (.int .i64 (10 ^ n : Nat)) ∧ w' = w := by
  go_enter Tryz.func45, Tryz.ntmps45
  go_wp2
  go_loop [3, 5] (fun p i => ∃ k : Nat, k ≤ n ∧ i = .int .i64 k ∧ p = .int .i64 (10 ^ k : Nat)) (fun _ i => n - (intOf i).toNat)
  case atStart => exact ⟨0, Nat.zero_le _, rfl, rfl⟩
  case round =>
    obtain ⟨k, hk, rfl, rfl⟩ := hrel
    by_cases hlt : k < n
    · have hki : (k : Int) < (n : Int) := by omega
      have hp : 10 ^ k ≤ 10 ^ 17 := Nat.pow_le_pow_right (by omega) (by omega)
      have hs : 10 ^ (k + 1) = 10 ^ k * 10 := Nat.pow_succ 10 k
      obtain ⟨x, hx⟩ : ∃ x : Nat, 10 ^ k = x := ⟨_, rfl⟩
      rw [hx] at hp hs ⊢
      have HS : Hid (((10 ^ (k + 1) : Nat) : Int) = (x : Int) * 10) := by rw [Hid, hs]; omega
      have hxb : x ≤ 100000000000000000 := by omega
      clear hs hx hp
      go_wp2
      go_round
      case rel => exact ⟨k + 1, by omega, by go_num, by rw [HS.out]⟩
      case measure => simp [intOf]; omega
    · have hke : k = n := by omega
      subst hke
      obtain ⟨x, hx⟩ : ∃ x : Nat, 10 ^ k = x := ⟨_, rfl⟩
      rw [hx]
      have HX : Hid _ := hx
      clear hx
      go_wp2
      go_ret
      exact ⟨one_int (by rw [← HX.out]; simp), rfl⟩
end Go.Proofs.YtpenkpiffdbdmaaGreatDoor.Tg
/- The specification's decimal numeral. -/
namespace Go.Proofs.YtpenkpiffdbdmaaGreatDoor.Tg
open Go.RowKit
/-- the digits of m, none for 0 -/
def low (m : Nat) : List UInt8 := if m = 0 then [] else Lib.decDigits m
theorem low_step (m : Nat) (h : m ≠ 0) : low m = low (m / 10) ++ [UInt8.ofNat (48 + m % 10)] := by
  unfold low
  rw [if_neg h, Lib.decDigits]
  by_cases h1 : m < 10
  · rw [dif_pos h1, if_pos (by omega), Nat.mod_eq_of_lt h1]; rfl
  · rw [dif_neg h1, if_neg (by omega)]
theorem dec_len (a : Nat) (ha : a ≤ 9223372036854775807) : (Lib.decDigits a).length ≤ 21 := by
  have := Lib.itoa_length_le (a : Int) (by omega) (by omega)
  simpa [Lib.itoa, show ¬ (a : Int) < 0 from by omega] using this
theorem dig_one (d : Nat) (h : d < 10) : (⟨#[48, 49, 50, 51, 52, 53, 54, 55, 56, 57]⟩ : ByteArray).extract d (d + 1) = ⟨[UInt8.ofNat (48 + d)].toArray⟩ := by
  rcases (show d = 0 ∨ d = 1 ∨ d = 2 ∨ d = 3 ∨ d = 4 ∨ d = 5 ∨ d = 6 ∨ d = 7 ∨ d = 8 ∨ d = 9 from by omega) with rfl | rfl | rfl | rfl | rfl | rfl | rfl | rfl | rfl | rfl <;> decide
theorem dig_piece (d : Nat) (l : List UInt8) (h : d < 10) : (⟨#[48, 49, 50, 51, 52, 53, 54, 55, 56, 57]⟩ : ByteArray).extract d (d + 1) ++ ⟨l.toArray⟩ = ⟨(UInt8.ofNat (48 + d) :: l).toArray⟩ := by
  rw [dig_one d h, ba_append]; rfl
set_option maxHeartbeats 800000 in
theorem dec_up (a : Nat) (w : World) (ha : a ≤ 9223372036854775807) :
    Calls Tryz.prog 16 #[.int .i64 a] w fun e w' => e = .returned (.string ⟨(Lib.decDigits a).toArray⟩) ∧ w' = w := by
  by_cases h0 : a = 0
  · subst h0
    go_enter Tryz.func16, Tryz.ntmps16
    go_wp2
    go_ret
    exact ⟨one_str (by rw [Lib.decDigits_one (by omega)]; rfl), rfl⟩
  · have hne : ((a : Int) == 0) = false := by simp; omega
    have hnn : ¬ (a : Int) < 0 := by omega
    go_enter Tryz.func16, Tryz.ntmps16
    go_wp2
    go_loop [3, 4, 5] (fun o m _ => ∃ (k : Nat) (l : List UInt8), k ≤ a ∧ m = .int .i64 k ∧ o = .string ⟨l.toArray⟩ ∧ Lib.decDigits a = low k ++ l) (fun _ m _ => (intOf m).toNat)
    case atStart => exact ⟨a, [], Nat.le_refl _, rfl, rfl, by simp [low, h0]⟩
    case round =>
      obtain ⟨k, l, hk, rfl, rfl, hd⟩ := hrel
      by_cases hk0 : k = 0
      · subst hk0
        have HD : Hid _ := hd
        clear hd
        go_wp2
        go_ret
        exact ⟨one_str (by have := HD.out; simp [low] at this; rw [this]), rfl⟩
      · have kne : ((k : Int) != 0) = true := by simp; omega
        have HD : Hid (Lib.decDigits a = low (k / 10) ++ (UInt8.ofNat (48 + k % 10) :: l)) := by rw [Hid, hd, low_step k hk0]; simp
        have hl : l.length ≤ 21 := by have h1 := dec_len a ha; rw [hd] at h1; simp at h1; omega
        clear hd
        go_wp2
        go_round
        case rel => exact ⟨k / 10, UInt8.ofNat (48 + k % 10) :: l, by omega, by go_num, by rw [dig_piece _ _ (by omega)], HD.out⟩
        case measure => simp [intOf]; omega
end Go.Proofs.YtpenkpiffdbdmaaGreatDoor.Tg
/-
  DERIVED: THE SHELF's CONTRACTS AT THIS DUMP, IN PLAIN WORDS (tools/lay-plain.mjs out of 'TryzShelf.lean', which tools/lay-shelf.mjs wrote): THE SAME DECLARATIONS UNDER THE SAME NAMES: 'import', 'namespace', 'open', 'def', 'theorem' AND NOTHING ELSE: no command of the shelf's: FOR A HAND-IN. Each laying: the table of numbers ('.._ren') and one theorem, a field a fact of the dump's own or the kernel's comparison; each contract: ONE APPLICATION.
-/
namespace Go.Proofs
open Go.Shelf
def Tryz.lays156_ren : Go.Shelf.Ren := ⟨fun | 156 => 24 | 165 => 48 | 166 => 49 | 169 => 50 | 240 => 68 | 241 => 69 | 276 => 83 | 277 => 84 | n => n, fun | 31 => 40 | 9 => 9 | 3 => 3 | 4 => 4 | 0 => 0 | 20 => 20 | 72 => 75 | 76 => 79 | 70 => 72 | 37 => 73 | 75 => 78 | 127 => 98 | 164 => 113 | 5 => 5 | 80 => 81 | n => n, fun | n => n⟩
theorem Tryz.lays156 : Go.Proofs.Lays.n156 Tryz.prog Tryz.lays156_ren := {
  mixed := by kernel_rfl
  f156 := Tryz.func24.trans (congrArg some (by kernel_rfl))
  f165 := Tryz.func48.trans (congrArg some (by kernel_rfl))
  f166 := Tryz.func49.trans (congrArg some (by kernel_rfl))
  f169 := Tryz.func50.trans (congrArg some (by kernel_rfl))
  f240 := Tryz.func68.trans (congrArg some (by kernel_rfl))
  f241 := Tryz.func69.trans (congrArg some (by kernel_rfl))
  f276 := Tryz.func83.trans (congrArg some (by kernel_rfl))
  f277 := Tryz.func84.trans (congrArg some (by kernel_rfl))
  t0 := Tryz.underlying0
  a0 := Tryz.isAgg0
  z0 := Tryz.sizeOf0
  v0 := Tryz.zeroValue0
  t3 := Tryz.underlying3
  a3 := Tryz.isAgg3
  z3 := Tryz.sizeOf3
  v3 := Tryz.zeroValue3
  t4 := Tryz.underlying4
  a4 := Tryz.isAgg4
  z4 := Tryz.sizeOf4
  v4 := Tryz.zeroValue4
  t9 := Tryz.underlying9
  a9 := Tryz.isAgg9
  z9 := Tryz.sizeOf9
  v9 := Tryz.zeroValue9
  t20 := Tryz.underlying20
  a20 := Tryz.isAgg20
  z20 := Tryz.sizeOf20
  v20 := Tryz.zeroValue20
  t31 := Tryz.underlying40
  a31 := Tryz.isAgg40
  z31 := Tryz.sizeOf40
  v31 := Tryz.zeroValue40
  t37 := Tryz.underlying73
  a37 := Tryz.isAgg73
  z37 := Tryz.sizeOf73
  v37 := Tryz.zeroValue73
  t70 := Tryz.underlying72
  a70 := Tryz.isAgg72
  z70 := Tryz.sizeOf72
  v70 := Tryz.zeroValue72
  t72 := Tryz.underlying75
  a72 := Tryz.isAgg75
  z72 := Tryz.sizeOf75
  v72 := Tryz.zeroValue75
  t75 := Tryz.underlying78
  a75 := Tryz.isAgg78
  z75 := Tryz.sizeOf78
  v75 := Tryz.zeroValue78
  t76 := Tryz.underlying79
  a76 := Tryz.isAgg79
  z76 := Tryz.sizeOf79
  v76 := Tryz.zeroValue79
  t127 := Tryz.underlying98
  a127 := Tryz.isAgg98
  z127 := Tryz.sizeOf98
  v127 := Tryz.zeroValue98
  t164 := Tryz.underlying113
  a164 := Tryz.isAgg113
  z164 := Tryz.sizeOf113
  v164 := Tryz.zeroValue113 }
theorem Tryz.Builder_Extra_156 : Builder.Extra Tryz.prog Tryz.lays156_ren := {
  sizeBuilder := by kernel_rfl
  liesBuilder := by kernel_rfl
  t5 := Tryz.underlying5
  a5 := Tryz.isAgg5
  z5 := Tryz.sizeOf5
  v5 := Tryz.zeroValue5
  infoByte := by kernel_rfl
  cellsByte := by kernel_rfl
  sizeByte := by kernel_rfl
  neB5 := by decide }
open Go.RowKit in
theorem Tryz.strings_Join (bk o c : Nat) (xs : List ByteArray) (sep : ByteArray) (w : World) (hcells : ∀ (j : Nat) x, xs[j]? = some x → w.cell? ⟨bk, o + j, none⟩ = some (.string x)) (hbk : bk < w.heap.size) (hN : xs.length ≤ 140737488355328) (hcap : xs.length ≤ c) (hlen : (Lib.join (xs.map (·.data.toList)) sep.data.toList).length ≤ 140737488355328) :
    Calls Tryz.prog 24 #[.slice (some ⟨bk, o, none⟩) xs.length c, .string sep] w fun e w' => e = .returned (.string ⟨(Lib.join (xs.map (·.data.toList)) sep.data.toList).toArray⟩) ∧ Below w.heap.size w w' := Any.strings_Join Tryz.lays156 Tryz.Builder_Extra_156 bk o c xs sep w hcells hbk hN hcap hlen
def Tryz.lays161_ren : Go.Shelf.Ren := ⟨fun | 161 => 72 | 231 => 89 | 227 => 90 | 233 => 91 | 235 => 92 | 228 => 99 | 197 => 100 | 151 => 101 | 260 => 105 | 152 => 106 | 137 => 118 | 119 => 119 | 224 => 116 | 225 => 115 | 217 => 114 | 266 => 128 | n => n, fun | 9 => 9 | 4 => 4 | 3 => 3 | 5 => 5 | 117 => 121 | 116 => 120 | 0 => 0 | 124 => 124 | 105 => 130 | 21 => 21 | 119 => 146 | 46 => 142 | 139 => 149 | 138 => 148 | n => n, fun | 3 => 2 | 4 => 3 | n => n⟩
theorem Tryz.lays161 : Go.Proofs.Lays.n161 Tryz.prog Tryz.lays161_ren := {
  mixed := by kernel_rfl
  f119 := Tryz.func119.trans (congrArg some (by kernel_rfl))
  f137 := Tryz.func118.trans (congrArg some (by kernel_rfl))
  f151 := Tryz.func101.trans (congrArg some (by kernel_rfl))
  f152 := Tryz.func106.trans (congrArg some (by kernel_rfl))
  f161 := Tryz.func72.trans (congrArg some (by kernel_rfl))
  f197 := Tryz.func100.trans (congrArg some (by kernel_rfl))
  f217 := Tryz.func114.trans (congrArg some (by kernel_rfl))
  f224 := Tryz.func116.trans (congrArg some (by kernel_rfl))
  f225 := Tryz.func115.trans (congrArg some (by kernel_rfl))
  f227 := Tryz.func90.trans (congrArg some (by kernel_rfl))
  f228 := Tryz.func99.trans (congrArg some (by kernel_rfl))
  f231 := Tryz.func89.trans (congrArg some (by kernel_rfl))
  f233 := Tryz.func91.trans (congrArg some (by kernel_rfl))
  f235 := Tryz.func92.trans (congrArg some (by kernel_rfl))
  f260 := Tryz.func105.trans (congrArg some (by kernel_rfl))
  f266 := Tryz.func128.trans (congrArg some (by kernel_rfl))
  t0 := Tryz.underlying0
  a0 := Tryz.isAgg0
  z0 := Tryz.sizeOf0
  v0 := Tryz.zeroValue0
  t3 := Tryz.underlying3
  a3 := Tryz.isAgg3
  z3 := Tryz.sizeOf3
  v3 := Tryz.zeroValue3
  t4 := Tryz.underlying4
  a4 := Tryz.isAgg4
  z4 := Tryz.sizeOf4
  v4 := Tryz.zeroValue4
  t5 := Tryz.underlying5
  a5 := Tryz.isAgg5
  z5 := Tryz.sizeOf5
  v5 := Tryz.zeroValue5
  t9 := Tryz.underlying9
  a9 := Tryz.isAgg9
  z9 := Tryz.sizeOf9
  v9 := Tryz.zeroValue9
  t21 := Tryz.underlying21
  a21 := Tryz.isAgg21
  z21 := Tryz.sizeOf21
  v21 := Tryz.zeroValue21
  t46 := Tryz.underlying142
  a46 := Tryz.isAgg142
  z46 := Tryz.sizeOf142
  v46 := Tryz.zeroValue142
  t105 := Tryz.underlying130
  a105 := Tryz.isAgg130
  z105 := Tryz.sizeOf130
  v105 := Tryz.zeroValue130
  t116 := Tryz.underlying120
  a116 := Tryz.isAgg120
  z116 := Tryz.sizeOf120
  t117 := Tryz.underlying121
  a117 := Tryz.isAgg121
  z117 := Tryz.sizeOf121
  v117 := Tryz.zeroValue121
  t119 := Tryz.underlying146
  a119 := Tryz.isAgg146
  z119 := Tryz.sizeOf146
  t124 := Tryz.underlying124
  a124 := Tryz.isAgg124
  z124 := Tryz.sizeOf124
  v124 := Tryz.zeroValue124
  t138 := Tryz.underlying148
  a138 := Tryz.isAgg148
  z138 := Tryz.sizeOf148
  v138 := Tryz.zeroValue148
  t139 := Tryz.underlying149
  a139 := Tryz.isAgg149
  z139 := Tryz.sizeOf149
  v139 := Tryz.zeroValue149
  g3 := by kernel_rfl
  g4 := by kernel_rfl }
open Go.RowKit in
theorem Tryz.strings_TrimLeft_one (s : ByteArray) (c : UInt8) (hc : c.toNat < 128) (w : World) :
    Calls Tryz.prog 72 #[.string s, .string ⟨#[c]⟩] w fun e w' => e = .returned (.string ⟨(Lib.trimLeftB s.data.toList c).toArray⟩) ∧ w' = w := Any.strings_TrimLeft_one Tryz.lays161 s c hc w
def Tryz.laysM171_ren : Go.Shelf.Ren := ⟨fun | 171 => 74 | 243 => 93 | 246 => 102 | 283 => 107 | 284 => 108 | 285 => 109 | 286 => 110 | 129 => 121 | 317 => 120 | 318 => 122 | 319 => 123 | 320 => 124 | 337 => 130 | 338 => 131 | n => n, fun | 3 => 3 | 9 => 9 | 2 => 2 | 4 => 4 | 171 => 136 | 0 => 0 | 53 => 137 | 37 => 73 | 5 => 5 | 173 => 140 | 212 => 152 | 51 => 153 | 20 => 20 | 213 => 154 | 46 => 142 | 232 => 162 | 233 => 163 | n => n, fun | 17 => 4 | 18 => 5 | 19 => 6 | n => n⟩
theorem Tryz.laysM171 : Go.Proofs.LaysM.n171 Tryz.prog Tryz.laysM171_ren := {
  mixed := by kernel_rfl
  f129 := Tryz.func121.trans (congrArg some (by kernel_rfl))
  f171 := Tryz.func74.trans (congrArg some (by kernel_rfl))
  f243 := Tryz.func93.trans (congrArg some (by kernel_rfl))
  f246 := Tryz.func102.trans (congrArg some (by kernel_rfl))
  f283 := Tryz.func107.trans (congrArg some (by kernel_rfl))
  f284 := Tryz.func108.trans (congrArg some (by kernel_rfl))
  f285 := Tryz.func109.trans (congrArg some (by kernel_rfl))
  f286 := Tryz.func110.trans (congrArg some (by kernel_rfl))
  f317 := Tryz.func120.trans (congrArg some (by kernel_rfl))
  f318 := Tryz.func122.trans (congrArg some (by kernel_rfl))
  f319 := Tryz.func123.trans (congrArg some (by kernel_rfl))
  f320 := Tryz.func124.trans (congrArg some (by kernel_rfl))
  f337 := Tryz.func130.trans (congrArg some (by kernel_rfl))
  f338 := Tryz.func131.trans (congrArg some (by kernel_rfl))
  t0 := Tryz.underlying0
  a0 := Tryz.isAgg0
  z0 := Tryz.sizeOf0
  v0 := Tryz.zeroValue0
  t2 := Tryz.underlying2
  a2 := Tryz.isAgg2
  z2 := Tryz.sizeOf2
  v2 := Tryz.zeroValue2
  t3 := Tryz.underlying3
  a3 := Tryz.isAgg3
  z3 := Tryz.sizeOf3
  v3 := Tryz.zeroValue3
  t4 := Tryz.underlying4
  a4 := Tryz.isAgg4
  z4 := Tryz.sizeOf4
  v4 := Tryz.zeroValue4
  t5 := Tryz.underlying5
  a5 := Tryz.isAgg5
  z5 := Tryz.sizeOf5
  v5 := Tryz.zeroValue5
  t9 := Tryz.underlying9
  a9 := Tryz.isAgg9
  z9 := Tryz.sizeOf9
  v9 := Tryz.zeroValue9
  t20 := Tryz.underlying20
  a20 := Tryz.isAgg20
  z20 := Tryz.sizeOf20
  v20 := Tryz.zeroValue20
  t37 := Tryz.underlying73
  a37 := Tryz.isAgg73
  z37 := Tryz.sizeOf73
  v37 := Tryz.zeroValue73
  t46 := Tryz.underlying142
  a46 := Tryz.isAgg142
  z46 := Tryz.sizeOf142
  v46 := Tryz.zeroValue142
  t51 := Tryz.underlying153
  a51 := Tryz.isAgg153
  z51 := Tryz.sizeOf153
  v51 := Tryz.zeroValue153
  t53 := Tryz.underlying137
  a53 := Tryz.isAgg137
  z53 := Tryz.sizeOf137
  v53 := Tryz.zeroValue137
  t171 := Tryz.underlying136
  a171 := Tryz.isAgg136
  z171 := Tryz.sizeOf136
  v171 := Tryz.zeroValue136
  t173 := Tryz.underlying140
  a173 := Tryz.isAgg140
  z173 := Tryz.sizeOf140
  v173 := Tryz.zeroValue140
  t212 := Tryz.underlying152
  a212 := Tryz.isAgg152
  z212 := Tryz.sizeOf152
  v212 := Tryz.zeroValue152
  t213 := Tryz.underlying154
  a213 := Tryz.isAgg154
  z213 := Tryz.sizeOf154
  t232 := Tryz.underlying162
  a232 := Tryz.isAgg162
  z232 := Tryz.sizeOf162
  v232 := Tryz.zeroValue162
  t233 := Tryz.underlying163
  a233 := Tryz.isAgg163
  z233 := Tryz.sizeOf163
  v233 := Tryz.zeroValue163
  g17 := by kernel_rfl
  g18 := by kernel_rfl
  g19 := by kernel_rfl
  i0 := by kernel_rfl
  i2 := by kernel_rfl
  i3 := by kernel_rfl
  i4 := by kernel_rfl
  i5 := by kernel_rfl
  i9 := by kernel_rfl
  i20 := by kernel_rfl
  i37 := by kernel_rfl
  i46 := by kernel_rfl
  i51 := by kernel_rfl
  i53 := by kernel_rfl
  i171 := by kernel_rfl
  i173 := by kernel_rfl
  i212 := by kernel_rfl
  i232 := by kernel_rfl
  i233 := by kernel_rfl
  m17 := by kernel_rfl
  m18 := by kernel_rfl
  m19 := by kernel_rfl }
open Go.RowKit Go.Sort Go.Lib in
theorem Tryz.strconv_Itoa (n : Int) (h0 : -9223372036854775808 ≤ n) (h1 : n ≤ 9223372036854775807) (w : World) (htab : Lib.TabIs Tryz.prog w "internal/strconv.uint64pow10" .u64 Lib.pow10Tab) :
    Calls Tryz.prog 74 #[.int .i64 n] w fun e w' => e = .returned (.string ⟨(Lib.itoa n).toArray⟩) ∧ ∃ k os, w' = grow (w.drewN k) os := Any.strconv_Itoa Tryz.laysM171 n h0 h1 w htab
def Tryz.laysM316_ren : Go.Shelf.Ren := ⟨fun | 316 => 77 | n => n, fun | 9 => 9 | 3 => 3 | 4 => 4 | 37 => 73 | 0 => 0 | 127 => 98 | 5 => 5 | n => n, fun | n => n⟩
theorem Tryz.laysM316 : Go.Proofs.LaysM.n316 Tryz.prog Tryz.laysM316_ren := {
  mixed := by kernel_rfl
  f316 := Tryz.func77.trans (congrArg some (by kernel_rfl))
  t0 := Tryz.underlying0
  a0 := Tryz.isAgg0
  z0 := Tryz.sizeOf0
  v0 := Tryz.zeroValue0
  t3 := Tryz.underlying3
  a3 := Tryz.isAgg3
  z3 := Tryz.sizeOf3
  v3 := Tryz.zeroValue3
  t4 := Tryz.underlying4
  a4 := Tryz.isAgg4
  z4 := Tryz.sizeOf4
  v4 := Tryz.zeroValue4
  t9 := Tryz.underlying9
  a9 := Tryz.isAgg9
  z9 := Tryz.sizeOf9
  v9 := Tryz.zeroValue9
  t37 := Tryz.underlying73
  a37 := Tryz.isAgg73
  z37 := Tryz.sizeOf73
  v37 := Tryz.zeroValue73
  t127 := Tryz.underlying98
  a127 := Tryz.isAgg98
  z127 := Tryz.sizeOf98
  v127 := Tryz.zeroValue98
  t5 := Tryz.underlying5
  a5 := Tryz.isAgg5
  z5 := Tryz.sizeOf5
  v5 := Tryz.zeroValue5
  i0 := by kernel_rfl
  i3 := by kernel_rfl
  i4 := by kernel_rfl
  i5 := by kernel_rfl
  i9 := by kernel_rfl
  i37 := by kernel_rfl
  i127 := by kernel_rfl }
open Go.RowKit in
theorem Tryz.stringslite_Clone (s : ByteArray) (w : World) (hlim : s.size ≤ 281474976710656) :
    Calls Tryz.prog 77 #[.string s] w fun e w' => e = .returned (.string s) ∧ Below w.heap.size w w' := Any.stringslite_Clone Tryz.laysM316 s w hlim
def Tryz.lays144_ren : Go.Shelf.Ren := ⟨fun | 144 => 88 | 143 => 98 | 219 => 104 | 217 => 114 | 225 => 115 | 224 => 116 | 267 => 117 | 266 => 128 | 314 => 129 | n => n, fun | 9 => 9 | 4 => 4 | 3 => 3 | 5 => 5 | 46 => 142 | 146 => 156 | 51 => 153 | n => n, fun | 1 => 1 | n => n⟩
theorem Tryz.lays144 : Go.Proofs.Lays.n144 Tryz.prog Tryz.lays144_ren := {
  mixed := by kernel_rfl
  f143 := Tryz.func98.trans (congrArg some (by kernel_rfl))
  f144 := Tryz.func88.trans (congrArg some (by kernel_rfl))
  f217 := Tryz.func114.trans (congrArg some (by kernel_rfl))
  f219 := Tryz.func104.trans (congrArg some (by kernel_rfl))
  f224 := Tryz.func116.trans (congrArg some (by kernel_rfl))
  f225 := Tryz.func115.trans (congrArg some (by kernel_rfl))
  f266 := Tryz.func128.trans (congrArg some (by kernel_rfl))
  f267 := Tryz.func117.trans (congrArg some (by kernel_rfl))
  f314 := Tryz.func129.trans (congrArg some (by kernel_rfl))
  t3 := Tryz.underlying3
  a3 := Tryz.isAgg3
  z3 := Tryz.sizeOf3
  v3 := Tryz.zeroValue3
  t4 := Tryz.underlying4
  a4 := Tryz.isAgg4
  z4 := Tryz.sizeOf4
  v4 := Tryz.zeroValue4
  t5 := Tryz.underlying5
  a5 := Tryz.isAgg5
  z5 := Tryz.sizeOf5
  v5 := Tryz.zeroValue5
  t9 := Tryz.underlying9
  a9 := Tryz.isAgg9
  z9 := Tryz.sizeOf9
  v9 := Tryz.zeroValue9
  t46 := Tryz.underlying142
  a46 := Tryz.isAgg142
  z46 := Tryz.sizeOf142
  v46 := Tryz.zeroValue142
  t51 := Tryz.underlying153
  a51 := Tryz.isAgg153
  z51 := Tryz.sizeOf153
  v51 := Tryz.zeroValue153
  t146 := Tryz.underlying156
  a146 := Tryz.isAgg156
  z146 := Tryz.sizeOf156
  v146 := Tryz.zeroValue156
  g1 := by kernel_rfl }
open Go.RowKit Go.Lib in
theorem Tryz.strings_Contains_one (s : ByteArray) (c : UInt8) (w : World) :
    Calls Tryz.prog 88 #[.string s, .string ⟨#[c]⟩] w fun e w' => e = .returned (.bool (decide (0 ≤ Lib.indexByte s.data.toList c))) ∧ w' = w := Any.strings_Contains_one Tryz.lays144 s c w
def Tryz.lays105_ren : Go.Shelf.Ren := ⟨fun | 105 => 103 | 212 => 111 | 99 => 112 | 165 => 48 | 166 => 49 | 170 => 113 | 169 => 50 | 263 => 125 | 264 => 126 | 206 => 127 | 240 => 68 | 241 => 69 | 276 => 83 | 277 => 84 | n => n, fun | 9 => 9 | 3 => 3 | 4 => 4 | 20 => 20 | 0 => 0 | 46 => 142 | 109 => 143 | 5 => 5 | 72 => 75 | 76 => 79 | 51 => 153 | 146 => 156 | 53 => 137 | 148 => 158 | 70 => 72 | 37 => 73 | 75 => 78 | 127 => 98 | 164 => 113 | 80 => 81 | n => n, fun | n => n⟩
theorem Tryz.lays105 : Go.Proofs.Lays.n105 Tryz.prog Tryz.lays105_ren := {
  mixed := by kernel_rfl
  f99 := Tryz.func112.trans (congrArg some (by kernel_rfl))
  f105 := Tryz.func103.trans (congrArg some (by kernel_rfl))
  f165 := Tryz.func48.trans (congrArg some (by kernel_rfl))
  f166 := Tryz.func49.trans (congrArg some (by kernel_rfl))
  f169 := Tryz.func50.trans (congrArg some (by kernel_rfl))
  f170 := Tryz.func113.trans (congrArg some (by kernel_rfl))
  f206 := Tryz.func127.trans (congrArg some (by kernel_rfl))
  f212 := Tryz.func111.trans (congrArg some (by kernel_rfl))
  f240 := Tryz.func68.trans (congrArg some (by kernel_rfl))
  f241 := Tryz.func69.trans (congrArg some (by kernel_rfl))
  f263 := Tryz.func125.trans (congrArg some (by kernel_rfl))
  f264 := Tryz.func126.trans (congrArg some (by kernel_rfl))
  f276 := Tryz.func83.trans (congrArg some (by kernel_rfl))
  f277 := Tryz.func84.trans (congrArg some (by kernel_rfl))
  t0 := Tryz.underlying0
  a0 := Tryz.isAgg0
  z0 := Tryz.sizeOf0
  v0 := Tryz.zeroValue0
  t3 := Tryz.underlying3
  a3 := Tryz.isAgg3
  z3 := Tryz.sizeOf3
  v3 := Tryz.zeroValue3
  t4 := Tryz.underlying4
  a4 := Tryz.isAgg4
  z4 := Tryz.sizeOf4
  v4 := Tryz.zeroValue4
  t5 := Tryz.underlying5
  a5 := Tryz.isAgg5
  z5 := Tryz.sizeOf5
  v5 := Tryz.zeroValue5
  t9 := Tryz.underlying9
  a9 := Tryz.isAgg9
  z9 := Tryz.sizeOf9
  v9 := Tryz.zeroValue9
  t20 := Tryz.underlying20
  a20 := Tryz.isAgg20
  z20 := Tryz.sizeOf20
  v20 := Tryz.zeroValue20
  t37 := Tryz.underlying73
  a37 := Tryz.isAgg73
  z37 := Tryz.sizeOf73
  v37 := Tryz.zeroValue73
  t46 := Tryz.underlying142
  a46 := Tryz.isAgg142
  z46 := Tryz.sizeOf142
  v46 := Tryz.zeroValue142
  t51 := Tryz.underlying153
  a51 := Tryz.isAgg153
  z51 := Tryz.sizeOf153
  v51 := Tryz.zeroValue153
  t53 := Tryz.underlying137
  a53 := Tryz.isAgg137
  z53 := Tryz.sizeOf137
  v53 := Tryz.zeroValue137
  t70 := Tryz.underlying72
  a70 := Tryz.isAgg72
  z70 := Tryz.sizeOf72
  v70 := Tryz.zeroValue72
  t72 := Tryz.underlying75
  a72 := Tryz.isAgg75
  z72 := Tryz.sizeOf75
  v72 := Tryz.zeroValue75
  t75 := Tryz.underlying78
  a75 := Tryz.isAgg78
  z75 := Tryz.sizeOf78
  v75 := Tryz.zeroValue78
  t76 := Tryz.underlying79
  a76 := Tryz.isAgg79
  z76 := Tryz.sizeOf79
  v76 := Tryz.zeroValue79
  t109 := Tryz.underlying143
  a109 := Tryz.isAgg143
  z109 := Tryz.sizeOf143
  v109 := Tryz.zeroValue143
  t127 := Tryz.underlying98
  a127 := Tryz.isAgg98
  z127 := Tryz.sizeOf98
  v127 := Tryz.zeroValue98
  t146 := Tryz.underlying156
  a146 := Tryz.isAgg156
  z146 := Tryz.sizeOf156
  v146 := Tryz.zeroValue156
  t148 := Tryz.underlying158
  a148 := Tryz.isAgg158
  z148 := Tryz.sizeOf158
  v148 := Tryz.zeroValue158
  t164 := Tryz.underlying113
  a164 := Tryz.isAgg113
  z164 := Tryz.sizeOf113
  v164 := Tryz.zeroValue113 }
theorem Tryz.Builder_Extra_105 : Builder.Extra Tryz.prog Tryz.lays105_ren := {
  sizeBuilder := by kernel_rfl
  liesBuilder := by kernel_rfl
  t5 := Tryz.underlying5
  a5 := Tryz.isAgg5
  z5 := Tryz.sizeOf5
  v5 := Tryz.zeroValue5
  infoByte := by kernel_rfl
  cellsByte := by kernel_rfl
  sizeByte := by kernel_rfl
  neB5 := by decide }
open Go.RowKit Go.Lib in
theorem Tryz.strings_Repeat (s : ByteArray) (c : Nat) (w : World) (hc : c ≤ 9223372036854775807) (hlen : s.size * c ≤ 140737488355328) :
    Calls Tryz.prog 103 #[.string s, .int .i64 c] w fun e w' => e = .returned (.string ⟨(Lib.repeatL s.data.toList c).toArray⟩) ∧ Below w.heap.size w w' := Any.strings_Repeat Tryz.lays105 Tryz.Builder_Extra_105 s c w hc hlen
end Go.Proofs
/- Messages, plainly: what form a field's data has, when a field is so, when a list of fields is. No Go in sight. -/
namespace Go.Proofs.YtpenkpiffdbdmaaGreatDoor
abbrev Fld := Int × List UInt8
def knowns : List Int := [2, 3, 4, 12, 24, 25, 31, 37, 38, 42, 48, 49, 71, 72, 93]
/-- how a field is written (0 for one that is not known), and its length or its most -/
def fK (n : Int) : Int :=
  if n = 3 ∨ n = 4 ∨ n = 12 ∨ n = 24 ∨ n = 49 ∨ n = 25 ∨ n = 71 then 1 else if n = 2 ∨ n = 93 then 2
  else if n = 37 ∨ n = 38 ∨ n = 42 then 3 else if n = 31 then 4 else if n = 48 ∨ n = 72 then 5 else 0
def fS (n : Int) : Int :=
  if n = 3 ∨ n = 38 then 6 else if n = 4 ∨ n = 12 ∨ n = 37 then 12 else if n = 24 ∨ n = 49 then 3 else if n = 25 then 4 else if n = 71 then 8
  else if n = 2 then 19 else if n = 93 then 11 else if n = 42 then 15 else if n = 31 then 23 else if n = 48 ∨ n = 72 then 999 else 0
def fieldKS (k s : Int) (d : List UInt8) : Bool :=
  if k = 1 then decide ((d.length : Int) = s) && within 48 57 d
  else if k = 2 then decide ((d.length : Int) ≤ s) && within 48 57 d
  else if k = 3 then decide ((d.length : Int) = s) && within 32 126 d
  else if k = 4 ∨ k = 5 then decide ((d.length : Int) ≤ s) && within 32 126 d
  else false
def fieldOk (n : Int) (d : List UInt8) : Bool := fieldKS (fK n) (fS n) d
theorem not_known {n : Int} (h : n ∉ knowns) : n ≠ 2 ∧ n ≠ 3 ∧ n ≠ 4 ∧ n ≠ 12 ∧ n ≠ 24 ∧ n ≠ 25 ∧ n ≠ 31 ∧ n ≠ 37 ∧ n ≠ 38 ∧ n ≠ 42 ∧ n ≠ 48 ∧ n ≠ 49 ∧ n ≠ 71 ∧ n ≠ 72 ∧ n ≠ 93 := by
  simpa [knowns] using h
theorem fK_no {n : Int} (h : n ∉ knowns) : fK n = 0 := by
  obtain ⟨h1, h2, h3, h4, h5, h6, h7, h8, h9, h10, h11, h12, h13, h14, h15⟩ := not_known h
  unfold fK; simp [*]
theorem fS_no {n : Int} (h : n ∉ knowns) : fS n = 0 := by
  obtain ⟨h1, h2, h3, h4, h5, h6, h7, h8, h9, h10, h11, h12, h13, h14, h15⟩ := not_known h
  unfold fS; simp [*]
theorem known_in {n : Int} (h : n ∈ knowns) : n = 2 ∨ n = 3 ∨ n = 4 ∨ n = 12 ∨ n = 24 ∨ n = 25 ∨ n = 31 ∨ n = 37 ∨ n = 38 ∨ n = 42 ∨ n = 48 ∨ n = 49 ∨ n = 71 ∨ n = 72 ∨ n = 93 := by
  simpa [knowns] using h
theorem known_K {n : Int} (h : n ∈ knowns) : (fK n = 1 ∨ fK n = 2 ∨ fK n = 3 ∨ fK n = 4 ∨ fK n = 5) ∧ 0 ≤ fS n ∧ fS n ≤ 999 ∧ 2 ≤ n ∧ n ≤ 93 ∧ (fK n = 1 → fS n ≤ 12) ∧ (fK n = 2 → fS n ≤ 19) ∧ (fK n = 3 → fS n ≤ 15) ∧ (fK n = 4 → fS n = 23) ∧ (fK n = 5 → fS n = 999) := by
  rcases known_in h with rfl | rfl | rfl | rfl | rfl | rfl | rfl | rfl | rfl | rfl | rfl | rfl | rfl | rfl | rfl <;> decide
theorem ok_known {n : Int} {d : List UInt8} (h : fieldOk n d = true) : n ∈ knowns := by
  by_cases hn : n ∈ knowns
  · exact hn
  · simp [fieldOk, fieldKS, fK_no hn] at h
theorem fieldOk_no {n : Int} {d : List UInt8} (h : n ∉ knowns) : fieldOk n d = false := by simp [fieldOk, fieldKS, fK_no h]
/-- from p on: each field so, and its number behind the one ahead of it -/
def okF (p : Int) : List Fld → Bool
  | [] => true
  | f :: r => (fieldOk f.1 f.2 && decide (p < f.1)) && okF f.1 r
def at0 (fs : List Fld) (k : Nat) : Fld := fs.getD k (0, [])
theorem okF_step (fs : List Fld) (k : Nat) (p : Int) (h : k < fs.length) : okF p (fs.drop k) = ((fieldOk (at0 fs k).1 (at0 fs k).2 && decide (p < (at0 fs k).1)) && okF (at0 fs k).1 (fs.drop (k + 1))) := by
  have e : at0 fs k = fs[k] := by simp [at0, List.getD_eq_getElem?_getD, h]
  rw [List.drop_eq_getElem_cons h, e]; rfl
def prevF (fs : List Fld) (k : Nat) : Int := if k = 0 then 1 else (at0 fs (k - 1)).1
def msgOk (kd : Int) (fs : List Fld) : Bool := decide (0 ≤ kd ∧ kd ≤ 9999) && okF 1 fs
theorem okF_end (p : Int) (fs : List Fld) : okF p (fs.drop fs.length) = true := by rw [List.drop_of_length_le (Nat.le_refl _)]; rfl
theorem okF_mem {fs : List Fld} : ∀ {p : Int}, okF p fs = true → ∀ f ∈ fs, fieldOk f.1 f.2 = true ∧ p < f.1 := by
  induction fs with
  | nil => intro p _ f hf; cases hf
  | cons g r ih =>
    intro p h f hf
    simp only [okF, Bool.and_eq_true, decide_eq_true_eq] at h
    rcases List.mem_cons.1 hf with rfl | hr
    · exact h.1
    · have := ih h.2 f hr
      exact ⟨this.1, by omega⟩
theorem okF_len {fs : List Fld} : ∀ {p : Int}, okF p fs = true → 1 ≤ p → fs = [] ∨ (fs.length : Int) + p ≤ 93 := by
  induction fs with
  | nil => intro p _ _; exact .inl rfl
  | cons g r ih =>
    intro p h hp
    simp only [okF, Bool.and_eq_true, decide_eq_true_eq] at h
    have hk := known_K (ok_known h.1.1)
    rcases ih h.2 (by omega) with rfl | h2
    · right; simp; omega
    · right; simp; omega
end Go.Proofs.YtpenkpiffdbdmaaGreatDoor
/- The laws' own small functions over fields: how much one takes, its copy, whether two are the same. -/
namespace Go.Proofs.YtpenkpiffdbdmaaGreatDoor
open Go.RowKit
def leftF (l : List UInt8) (left : Int) : Int := if left - (l.length : Int) < 0 then -1 else left - (l.length : Int)
set_option maxHeartbeats 400000 in
theorem szField_any (n : Int) (l : List UInt8) (left : Int) (w : World) (hl : left ≤ 1048576 ∧ 0 ≤ left) (hm : l.length ≤ 9223372036854775807) :
    Calls Tryz.prog 27 #[.agg #[.int .i64 n, .string ⟨l.toArray⟩], .int .i64 left] w fun e w' => e = .returned (.int .i64 (leftF l left)) ∧ Below w.heap.size w w' := by
  by_cases h : left - (l.length : Int) < 0
  · have HE : Hid (leftF l left = -1) := if_pos h
    go_enter Tryz.func27, Tryz.ntmps27
    go_wp2
    go_ret
    exact ⟨one_int HE.out.symm, (Below.refl _ _).alloc (Nat.le_refl _) _⟩
  · have HE : Hid (leftF l left = left - (l.length : Int)) := if_neg h
    go_enter Tryz.func27, Tryz.ntmps27
    go_wp2
    go_ret
    exact ⟨one_int HE.out.symm, (Below.refl _ _).alloc (Nat.le_refl _) _⟩
set_option maxHeartbeats 400000 in
theorem toField_any (n : Int) (l : List UInt8) (w : World) :
    Calls Tryz.prog 34 #[.agg #[.int .i64 n, .string ⟨l.toArray⟩]] w fun e w' => e = .returned (.agg #[.int .i64 n, .string ⟨l.toArray⟩]) ∧ Below w.heap.size w w' := by
  go_enter Tryz.func34, Tryz.ntmps34
  go_wp2
  go_returns
  refine ⟨rfl, ?_⟩
  go_grown
end Go.Proofs.YtpenkpiffdbdmaaGreatDoor
/- A struct of two cells that lies in a box of its own: what is kept of it. -/
namespace Go.Proofs.YtpenkpiffdbdmaaGreatDoor
open Go.RowKit
theorem box2 {w u : World} {x y : Value} {t : TypeId} (b : Below (w.alloc (.cells #[x, y] t)).heap.size (w.alloc (.cells #[x, y] t)) u) :
    u.cell? ⟨w.heap.size, 0, none⟩ = some x ∧ u.cell? ⟨w.heap.size, 1, none⟩ = some y ∧ Below w.heap.size w u ∧ w.heap.size < u.heap.size :=
  ⟨(b.cell (p := ⟨w.heap.size, 0, none⟩) (by simp)).trans (by simp), (b.cell (p := ⟨w.heap.size, 1, none⟩) (by simp)).trans (by simp),
    ((Below.refl _ _).alloc (Nat.le_refl _) _).trans (b.mono (by simp)), by have := b.size; simp at this; omega⟩
theorem keep2 {w u : World} {b : Nat} {x y : Value} (h0 : w.cell? ⟨b, 0, none⟩ = some x) (h1 : w.cell? ⟨b, 1, none⟩ = some y) (k : Below w.heap.size w u) :
    u.cell? ⟨b, 0, none⟩ = some x ∧ u.cell? ⟨b, 1, none⟩ = some y :=
  have hb : b < w.heap.size := World.block_lt_of_cell? w _ h0
  ⟨(k.cell (p := ⟨b, 0, none⟩) hb).trans h0, (k.cell (p := ⟨b, 1, none⟩) hb).trans h1⟩
end Go.Proofs.YtpenkpiffdbdmaaGreatDoor
/- The contract of the library's strings.Clone, at a text given as bytes. -/
namespace Go.Proofs.YtpenkpiffdbdmaaGreatDoor
open Go.RowKit
set_option maxHeartbeats 400000 in
theorem clone_any (l : List UInt8) (w : World) (hl : l.length ≤ 1099511627776) :
    Calls Tryz.prog 63 #[.string ⟨l.toArray⟩] w fun e w' => e = .returned (.string ⟨l.toArray⟩) ∧ Below w.heap.size w w' := by
  go_enter Tryz.func63, Tryz.ntmps63
  go_wp2_with fail
  refine (Tryz.stringslite_Clone ⟨l.toArray⟩ _ (by rw [ba_size]; omega)).mono ?_
  rintro e w1 ⟨rfl, b1⟩
  go_wp2
  go_ret
  exact ⟨rfl, b1⟩
end Go.Proofs.YtpenkpiffdbdmaaGreatDoor
/- Slices of bytes that are one's own memory, and the text that they are turned into. -/
namespace Go.Proofs.YtpenkpiffdbdmaaGreatDoor
open Go.RowKit
theorem info5 : (Tryz.prog.info? 5).map (fun i => (i.zero, i.size, i.bytes)) = some (some (.int .u8 0), 1, 1) := by kernel_rfl
/-- a byte as a cell -/
def cell (c : UInt8) : Value := .int .u8 (c.toNat : Int)
/-- the text of bytes that one owns -/
theorem text_own {w : World} {base : Nat} {v : Value} {n : Nat} {l : List UInt8} (h : w.ownsRow base 5 1 v n (l.map cell)) :
    (convert 73 9 v).run Tryz.prog w = .ok (.string ⟨l.toArray⟩) w := by
  rcases h.2 with ⟨rfl, h0⟩ | ⟨g, cap, cur, rfl, hrest⟩
  · subst h0
    have hl : l = [] := by have := h.1; simpa using this
    subst hl
    exact run_convert_bytes_nil w _ _ Tryz.underlying73 Tryz.underlying5 _ _ _ Tryz.underlying9
  · have hl : l.length = n := by simpa using h.1
    subst hl
    refine run_convert_bytes_back w _ _ _ _ _ _ Tryz.underlying73 Tryz.underlying5 Tryz.underlying9 fun j hj => ?_
    have := h.cellAt j (by omega)
    rw [show (⟨g, 0, none⟩ : Addr).add j = ⟨g, j, none⟩ from by unfold Addr.add; split <;> simp_all]
    rw [this]
    simp [cell, hj]
theorem made5 (m : Nat) : (madeCells (Value.int .u8 0).cells (m * 1)).toList = (List.replicate m (0 : UInt8)).map cell := by
  rw [Nat.mul_one]
  refine (toList_madeCells_one _ _).trans ?_
  simp [cell]
theorem str_ok {a b : ByteArray} {x y : Bool} (h : a = b) (g : x = y) : Ending.returned (.tuple #[.string a, .bool x]) = .returned (.tuple #[.string b, .bool y]) := by rw [h, g]
end Go.Proofs.YtpenkpiffdbdmaaGreatDoor
/- Tags, plainly: when a list of them is so. No Go in sight. -/
namespace Go.Proofs.YtpenkpiffdbdmaaGreatDoor.Tg
def tagOne (n : Int) (d : List UInt8) : Bool := decide (1 ≤ n ∧ n ≤ 9999) && (decide (d.length ≤ 200) && within 32 126 d)
/-- from p on: each tag so, and its number behind the one ahead of it -/
def okT (p : Int) : List Fld → Bool
  | [] => true
  | f :: r => (tagOne f.1 f.2 && decide (p < f.1)) && okT f.1 r
theorem okT_step (fs : List Fld) (k : Nat) (p : Int) (h : k < fs.length) : okT p (fs.drop k) = ((tagOne (at0 fs k).1 (at0 fs k).2 && decide (p < (at0 fs k).1)) && okT (at0 fs k).1 (fs.drop (k + 1))) := by
  have e : at0 fs k = fs[k] := by simp [at0, List.getD_eq_getElem?_getD, h]
  rw [List.drop_eq_getElem_cons h, e]; rfl
def prevT (fs : List Fld) (k : Nat) : Int := if k = 0 then 0 else (at0 fs (k - 1)).1
theorem okT_end (p : Int) (fs : List Fld) : okT p (fs.drop fs.length) = true := by rw [List.drop_of_length_le (Nat.le_refl _)]; rfl
def tagsOk (fs : List Fld) : Bool := decide (fs.length ≤ 60) && okT 0 fs
theorem tagsOk_no {fs : List Fld} (h : okT 0 fs = false) : tagsOk fs = false := by unfold tagsOk; rw [h, Bool.and_false]
theorem tagsOk_big {fs : List Fld} (h : ¬ fs.length ≤ 60) : tagsOk fs = false := by unfold tagsOk; rw [decide_eq_false h, Bool.false_and]
theorem tagsOk_len {fs : List Fld} (h : okT 0 fs = true) : tagsOk fs = decide (fs.length ≤ 60) := by unfold tagsOk; rw [h, Bool.and_true]
theorem tagsOk_fs {fs : List Fld} (h : fs.length ≤ 60) : tagsOk fs = okT 0 fs := by unfold tagsOk; rw [decide_eq_true h, Bool.true_and]
theorem tagsOk_parts {fs : List Fld} (h : tagsOk fs = true) : fs.length ≤ 60 ∧ okT 0 fs = true := by simpa [tagsOk] using h
theorem tagOne_parts {n : Int} {d : List UInt8} (h : tagOne n d = true) : (1 ≤ n ∧ n ≤ 9999) ∧ d.length ≤ 200 ∧ within 32 126 d = true := by simpa [tagOne] using h
theorem okT_mem {fs : List Fld} : ∀ {p : Int}, okT p fs = true → ∀ f ∈ fs, tagOne f.1 f.2 = true ∧ p < f.1 := by
  induction fs with
  | nil => intro p _ f hf; cases hf
  | cons g r ih =>
    intro p h f hf
    simp only [okT, Bool.and_eq_true, decide_eq_true_eq] at h
    rcases List.mem_cons.1 hf with rfl | hr
    · exact h.1
    · have := ih h.2 f hr
      exact ⟨this.1, by omega⟩
end Go.Proofs.YtpenkpiffdbdmaaGreatDoor.Tg
/- The contracts of NumOf, the program's and the specification's. -/
namespace Go.Proofs.YtpenkpiffdbdmaaGreatDoor.Tg
open Go.RowKit
set_option maxHeartbeats 400000 in
theorem iNumOf_any (l : List UInt8) (w : World) (hl : l.length ≤ 1099511627776) :
    Calls Tryz.prog 44 #[.string ⟨l.toArray⟩] w fun e w' => e = .returned (.int .i64 (numOf l)) ∧ w' = w := by
  by_cases hbig : 18 < l.length
  · have HN : Hid _ := numOf_no1 hbig
    have hbi : (18 : Int) < (l.length : Int) := by omega
    go_enter Tryz.func44, Tryz.ntmps44
    go_wp2
    go_ret
    exact ⟨one_int HN.out.symm, rfl⟩
  · have hbi : (l.length : Int) ≤ 18 := by omega
    have hl18 : l.length ≤ 18 := by omega
    cases hd : within 48 57 l
    · have HN : Hid _ := numOf_no2 hd
      go_enter Tryz.func44, Tryz.ntmps44
      go_wp2_with fail
      refine (iDigits_any _ _ hl).mono ?_
      rintro e w1 ⟨rfl, hw⟩
      subst hw
      rw [hd]
      go_wp2
      go_ret
      exact ⟨one_int HN.out.symm, rfl⟩
    · have HY : Hid _ := numOf_yes hl18 hd
      have HB : Hid _ := val_bound l hd
      have HD : Hid (within 48 57 l = true) := hd
      go_enter Tryz.func44, Tryz.ntmps44
      go_wp2_with fail
      refine (iDigits_any _ _ hl).mono ?_
      rintro e w1 ⟨rfl, hw⟩
      subst hw
      rw [hd]
      clear hd
      go_wp2
      go_loop [3, 4, 15] (fun v _ i => ∃ k : Nat, k ≤ l.length ∧ i = .int .i64 k ∧ v = .int .i64 (val 0 (l.take k))) (fun _ _ i => l.length - (intOf i).toNat)
      case atStart => exact ⟨0, Nat.zero_le _, rfl, rfl⟩
      case round =>
        obtain ⟨k, hk, rfl, rfl⟩ := hrel
        have hb := HB.out k hk
        have hp : 10 ^ k ≤ 10 ^ 18 := Nat.pow_le_pow_right (by omega) (by omega)
        by_cases hlt : k < l.length
        · have hki : (k : Int) < (l.length : Int) := by omega
          have hp1 : 10 ^ k ≤ 10 ^ 17 := Nat.pow_le_pow_right (by omega) (by omega)
          have hw := within_at HD.out hlt
          have hv := val_take l k hlt
          obtain ⟨c, hc⟩ : ∃ c, (⟨l.toArray⟩ : ByteArray)[k]'(by rw [ba_size]; exact hlt) = c := ⟨_, rfl⟩
          rw [(byte_at l k hlt).trans hc] at hw hv
          obtain ⟨x, hx⟩ : ∃ x, val 0 (l.take k) = x := ⟨_, rfl⟩
          rw [hx] at hb hv ⊢
          have hxb : x ≤ 100000000000000000 := by omega
          have hsi : ((val 0 (l.take (k + 1)) : Nat) : Int) = (x : Int) * 10 + ((c.toNat : Int) - 48) := by omega
          have HV : Hid _ := hsi
          clear hsi hv hx hb hp hp1
          go_wp2
          go_round
          case rel => exact ⟨k + 1, by omega, by go_num, by rw [HV.out]⟩
          case measure => simp [intOf]; omega
        · have hke : k = l.length := by omega
          subst hke
          rw [List.take_of_length_le (Nat.le_refl _)]
          clear hb hp
          go_wp2
          go_ret
          exact ⟨one_int HY.out.symm, rfl⟩
set_option maxHeartbeats 400000 in
theorem sNumOf_any (l : List UInt8) (w : World) (hl : l.length ≤ 1099511627776) :
    Calls Tryz.prog 30 #[.string ⟨l.toArray⟩] w fun e w' => e = .returned (.int .i64 (numOf l)) ∧ w' = w := by
  by_cases hbig : 18 < l.length
  · have HN : Hid _ := numOf_no1 hbig
    have hbi : (18 : Int) < (l.length : Int) := by omega
    go_enter Tryz.func30, Tryz.ntmps30
    go_wp2
    go_ret
    exact ⟨one_int HN.out.symm, rfl⟩
  · have hbi : (l.length : Int) ≤ 18 := by omega
    have hl18 : l.length ≤ 18 := by omega
    cases hd : within 48 57 l
    · have HN : Hid _ := numOf_no2 hd
      go_enter Tryz.func30, Tryz.ntmps30
      go_wp2_with fail
      refine (sDigits_any _ _ hl).mono ?_
      rintro e w1 ⟨rfl, hw⟩
      subst hw
      rw [hd]
      go_wp2
      go_ret
      exact ⟨one_int HN.out.symm, rfl⟩
    · have HY : Hid _ := numOf_yes hl18 hd
      have HB : Hid _ := val_bound l hd
      have HD : Hid (within 48 57 l = true) := hd
      go_enter Tryz.func30, Tryz.ntmps30
      go_wp2_with fail
      refine (sDigits_any _ _ hl).mono ?_
      rintro e w1 ⟨rfl, hw⟩
      subst hw
      rw [hd]
      clear hd
      go_wp2
      go_loop [3, 4] (fun v i => ∃ k : Nat, k ≤ l.length ∧ i = .int .i64 k ∧ v = .int .i64 (val 0 (l.take k))) (fun _ i => l.length - (intOf i).toNat)
      case atStart => exact ⟨0, Nat.zero_le _, rfl, rfl⟩
      case round =>
        obtain ⟨k, hk, rfl, rfl⟩ := hrel
        have hb := HB.out k hk
        have hp : 10 ^ k ≤ 10 ^ 18 := Nat.pow_le_pow_right (by omega) (by omega)
        by_cases hlt : k < l.length
        · have hki : (k : Int) < (l.length : Int) := by omega
          have hp1 : 10 ^ k ≤ 10 ^ 17 := Nat.pow_le_pow_right (by omega) (by omega)
          have hw := within_at HD.out hlt
          have hv := val_take l k hlt
          obtain ⟨c, hc⟩ : ∃ c, (⟨l.toArray⟩ : ByteArray)[k]'(by rw [ba_size]; exact hlt) = c := ⟨_, rfl⟩
          rw [(byte_at l k hlt).trans hc] at hw hv
          obtain ⟨x, hx⟩ : ∃ x, val 0 (l.take k) = x := ⟨_, rfl⟩
          rw [hx] at hb hv ⊢
          have hxb : x ≤ 100000000000000000 := by omega
          have hsi : ((val 0 (l.take (k + 1)) : Nat) : Int) = 10 * (x : Int) + (c.toNat : Int) - 48 := by omega
          have HV : Hid _ := hsi
          clear hsi hv hx hb hp hp1
          go_wp2
          go_round
          case rel => exact ⟨k + 1, by omega, by go_num, by rw [HV.out]⟩
          case measure => simp [intOf]; omega
        · have hke : k = l.length := by omega
          subst hke
          rw [List.take_of_length_le (Nat.le_refl _)]
          clear hb hp
          go_wp2
          go_ret
          exact ⟨one_int HY.out.symm, rfl⟩
end Go.Proofs.YtpenkpiffdbdmaaGreatDoor.Tg
/- A region that draws its order and whose callees make memory of their own: walked once, over the class of all worlds in which what was there stands. -/
namespace Go.Proofs.YtpenkpiffdbdmaaGreatDoor
open Go.RowKit
/-- a world in which all that W holds stands -/
structure Over (W : World) where
  x : World
  h : Below W.heap.size W x
theorem over_ne (W : World) : Nonempty (Over W) := ⟨⟨W, Below.refl _ _⟩⟩
theorem over_cell {W : World} {a : Addr} {v : Value} (h : W.cell? a = some v) (z : Over W) : z.x.cell? a = some v := (z.h.cell (p := a) (World.block_lt_of_cell? W _ h)).trans h
theorem wp_region_over {P : Program} {id : Nat} {Q : Exit → Act → World → Prop} {a : Act} {w : World} {l : List Oper} (hm : P.follows .mixedOrders = true) (hB : Region.lexB .any l.toArray = true)
    (h : wpQuiet P l.toArray (fun w' => ∃ z : Over w, w' = z.x) (fun a' => ∀ w', (∃ z : Over w, w' = z.x) → Q .normal a' w') l a) : (Code.region id l.toArray true).wp P Q a w :=
  wp_region_quiet (C := fun w' => ∃ z : Over w, w' = z.x) hm hB ⟨⟨_, (Below.refl _ _).drew⟩, rfl⟩ (by simpa using h)
theorem over_of {P : Program} {f : FuncId} {args : Array Value} {w : World} {z : Over w} {v : Value} (h : Calls P f args z.x fun e w' => e = .returned v ∧ Below z.x.heap.size z.x w') :
    Calls P f args z.x fun e w'' => e = .returned v ∧ ∃ y : Over w, w'' = y.x :=
  h.mono fun _ w' ⟨he, hb⟩ => ⟨he, ⟨w', z.h.trans (hb.mono z.h.size)⟩, rfl⟩
end Go.Proofs.YtpenkpiffdbdmaaGreatDoor
/- The contract of the program's powers of ten. -/
namespace Go.Proofs.YtpenkpiffdbdmaaGreatDoor
open Go.RowKit
set_option maxHeartbeats 400000 in
theorem tenTo_any (n : Nat) (w : World) (hn : n ≤ 18) :
    Calls Tryz.prog 45 #[.int .i64 n] w fun e w' => e = .returned (.int .i64 (10 ^ n : Nat)) ∧ w' = w := by
  go_enter Tryz.func45, Tryz.ntmps45
  go_wp2
  go_loop [3, 5] (fun p i => ∃ k : Nat, k ≤ n ∧ i = .int .i64 k ∧ p = .int .i64 (10 ^ k : Nat)) (fun _ i => n - (intOf i).toNat)
  case atStart => exact ⟨0, Nat.zero_le _, rfl, rfl⟩
  case round =>
    obtain ⟨k, hk, rfl, rfl⟩ := hrel
    by_cases hlt : k < n
    · have hki : (k : Int) < (n : Int) := by omega
      have hp : 10 ^ k ≤ 10 ^ 17 := Nat.pow_le_pow_right (by omega) (by omega)
      have hs : 10 ^ (k + 1) = 10 ^ k * 10 := Nat.pow_succ 10 k
      obtain ⟨x, hx⟩ : ∃ x : Nat, 10 ^ k = x := ⟨_, rfl⟩
      rw [hx] at hp hs ⊢
      have HS : Hid (((10 ^ (k + 1) : Nat) : Int) = (x : Int) * 10) := by rw [Hid, hs]; omega
      have hxb : x ≤ 100000000000000000 := by omega
      clear hs hx hp
      go_wp2
      go_round
      case rel => exact ⟨k + 1, by omega, by go_num, by rw [HS.out]⟩
      case measure => simp [intOf]; omega
    · have hke : k = n := by omega
      subst hke
      obtain ⟨x, hx⟩ : ∃ x : Nat, 10 ^ k = x := ⟨_, rfl⟩
      rw [hx]
      have HX : Hid _ := hx
      clear hx
      go_wp2
      go_ret
      exact ⟨one_int (by rw [← HX.out]; simp), rfl⟩
end Go.Proofs.YtpenkpiffdbdmaaGreatDoor
/- Blocked files, plainly: how records are laid, cut into blocks, and found again. No Go in sight. -/
namespace Go.Proofs.YtpenkpiffdbdmaaGreatDoor
set_option maxRecDepth 20000
abbrev Recs := List (List UInt8)
/-- a number as four bytes -/
def be4 (n : Nat) : List UInt8 := [UInt8.ofNat (n / 16777216), UInt8.ofNat (n / 65536), UInt8.ofNat (n / 256), UInt8.ofNat n]
theorem be4_len (n : Nat) : (be4 n).length = 4 := rfl
def lay1 (r : List UInt8) : List UInt8 := be4 r.length ++ r
theorem lay1_len (r : List UInt8) : (lay1 r).length = r.length + 4 := by simp [lay1, be4_len]; omega
def layR (rs : Recs) : List UInt8 := rs.flatMap lay1
theorem layR_append (a b : Recs) : layR (a ++ b) = layR a ++ layR b := by simp [layR]
theorem layR_one (r : List UInt8) : layR [r] = lay1 r := by simp [layR]
theorem layR_cons (r : List UInt8) (rs : Recs) : layR (r :: rs) = lay1 r ++ layR rs := by simp [layR]
def laid (rs : Recs) : List UInt8 := layR rs ++ be4 0
def recOk (r : List UInt8) : Bool := decide (0 < r.length) && decide (r.length ≤ 3000)
theorem recOk_is {r : List UInt8} (h : recOk r = true) : 0 < r.length ∧ r.length ≤ 3000 := by simpa [recOk] using h
def recsOk (rs : Recs) : Bool := rs.all recOk
def nth (rs : Recs) (k : Nat) : List UInt8 := rs.getD k []
theorem nth_is {rs : Recs} {k : Nat} (h : k < rs.length) : nth rs k = rs[k] := by simp [nth, List.getD_eq_getElem?_getD, h]
theorem nth_mem {rs : Recs} {k : Nat} (h : k < rs.length) : nth rs k ∈ rs := by rw [nth_is h]; exact List.getElem_mem h
theorem take_nth (rs : Recs) (k : Nat) (h : k < rs.length) : rs.take (k + 1) = rs.take k ++ [nth rs k] := by
  rw [List.take_succ_eq_append_getElem h, nth_is h]
theorem recsOk_step (rs : Recs) (k : Nat) (h : k < rs.length) : recsOk (rs.drop k) = (recOk (nth rs k) && recsOk (rs.drop (k + 1))) := by
  rw [List.drop_eq_getElem_cons h, nth_is h]; rfl
theorem recsOk_end (rs : Recs) : recsOk (rs.drop rs.length) = true := by rw [List.drop_of_length_le (Nat.le_refl _)]; rfl
theorem recsOk_mem {rs : Recs} (h : recsOk rs = true) : ∀ r ∈ rs, 0 < r.length ∧ r.length ≤ 3000 := fun r hr => recOk_is (List.all_eq_true.1 h r hr)
theorem layR_step (rs : Recs) (k : Nat) (h : k < rs.length) : layR (rs.take (k + 1)) = layR (rs.take k) ++ (be4 (nth rs k).length ++ nth rs k) := by
  rw [take_nth rs k h, layR_append, layR_one]; rfl
theorem layR_bd {rs : Recs} (h : ∀ r ∈ rs, r.length ≤ 3000) : (layR rs).length ≤ 3004 * rs.length := by
  induction rs with
  | nil => simp [layR]
  | cons r q ih =>
    have h1 := h r (List.mem_cons_self ..)
    have h2 := ih (fun g hg => h g (List.mem_cons_of_mem _ hg))
    rw [layR_cons, List.length_append, lay1_len, List.length_cons]; omega
theorem laid_len (rs : Recs) : (laid rs).length = (layR rs).length + 4 := by simp [laid, be4_len]
def nBlk (n : Nat) : Nat := (n + 1011) / 1012
/-- a stream of m pieces as a file -/
def fileM (t : List UInt8) (m : Nat) : List UInt8 := (List.range m).flatMap fun i => (t.drop (i * 1012)).take 1012 ++ [64, 64]
def filled (l : List UInt8) : List UInt8 := l ++ List.replicate (nBlk l.length * 1012 - l.length) 64
def fileOf (l : List UInt8) : List UInt8 := fileM (filled l) (nBlk l.length)
def blockOk (rs : Recs) : Bool := (decide (rs.length ≤ 200) && recsOk rs) && decide (nBlk (laid rs).length * 1014 ≤ 60000)
def blockL (rs : Recs) : List UInt8 := if blockOk rs = true then fileOf (laid rs) else []
theorem blockL_yes {rs : Recs} (h : blockOk rs = true) : blockL rs = fileOf (laid rs) := if_pos h
theorem blockL_no {rs : Recs} (h : blockOk rs = false) : blockL rs = [] := if_neg (by rw [h]; decide)
theorem blockOk_parts {rs : Recs} (h : blockOk rs = true) : rs.length ≤ 200 ∧ recsOk rs = true ∧ nBlk (laid rs).length * 1014 ≤ 60000 := by
  simp [blockOk] at h; exact ⟨h.1.1, h.1.2, h.2⟩
theorem blockOk_of {rs : Recs} (h1 : rs.length ≤ 200) (h2 : recsOk rs = true) (h3 : nBlk (laid rs).length * 1014 ≤ 60000) : blockOk rs = true := by simp [blockOk, h1, h2, h3]
theorem blockOk_no1 {rs : Recs} (h : 200 < rs.length) : blockOk rs = false := by simp [blockOk]; intro h1; omega
theorem blockOk_no2 {rs : Recs} (h : recsOk rs = false) : blockOk rs = false := by simp [blockOk, h]
theorem blockOk_no3 {rs : Recs} (h : 60000 < nBlk (laid rs).length * 1014) : blockOk rs = false := by simp [blockOk]; intros; omega
theorem nBlk_le (n : Nat) : n ≤ nBlk n * 1012 := by unfold nBlk; omega
theorem nBlk_lt (n : Nat) : nBlk n * 1012 < n + 1012 := by unfold nBlk; omega
theorem filled_len (l : List UInt8) : (filled l).length = nBlk l.length * 1012 := by
  have := nBlk_le l.length
  simp [filled]; omega
theorem fileM_succ (t : List UInt8) (m : Nat) : fileM t (m + 1) = fileM t m ++ ((t.drop (m * 1012)).take 1012 ++ [64, 64]) := by
  simp [fileM, List.range_succ]
theorem fileM_len (t : List UInt8) (m : Nat) (h : m * 1012 ≤ t.length) : (fileM t m).length = m * 1014 := by
  induction m with
  | zero => rfl
  | succ m ih =>
    rw [fileM_succ, List.length_append, ih (by omega), List.length_append, List.length_take, List.length_drop, show [(64 : UInt8), 64].length = 2 from rfl]
    omega
theorem fileOf_len (l : List UInt8) : (fileOf l).length = nBlk l.length * 1014 := fileM_len _ _ (by rw [filled_len]; omega)
/-- block i of a file -/
def blk (s : List UInt8) (i : Nat) : List UInt8 := (s.drop (i * 1014)).take 1014
def pieceOf (s : List UInt8) (i : Nat) : List UInt8 := (s.drop (i * 1014)).take 1012
def streamM (s : List UInt8) (m : Nat) : List UInt8 := (List.range m).flatMap (pieceOf s)
def streamOf (s : List UInt8) : List UInt8 := streamM s (s.length / 1014)
theorem streamM_succ (s : List UInt8) (m : Nat) : streamM s (m + 1) = streamM s m ++ pieceOf s m := by simp [streamM, List.range_succ]
theorem pieceOf_len (s : List UInt8) (m : Nat) (h : m * 1014 + 1012 ≤ s.length) : (pieceOf s m).length = 1012 := by
  rw [pieceOf, List.length_take, List.length_drop]; omega
theorem streamM_len (s : List UInt8) (m : Nat) (h : m * 1014 ≤ s.length) : (streamM s m).length = m * 1012 := by
  induction m with
  | zero => rfl
  | succ m ih =>
    rw [streamM_succ, List.length_append, ih (by omega), pieceOf_len s m (by omega)]
    omega
def endOk (s : List UInt8) (i : Nat) : Bool := (s.getD (i * 1014 + 1012) 0 == 64) && (s.getD (i * 1014 + 1013) 0 == 64)
def padM (s : List UInt8) (m : Nat) : Bool := (List.range m).all (endOk s)
def padAll (s : List UInt8) : Bool := padM s (s.length / 1014)
theorem padM_succ (s : List UInt8) (m : Nat) : padM s (m + 1) = (padM s m && endOk s m) := by simp [padM, List.range_succ]
theorem padM_at {s : List UInt8} {m : Nat} (h : padM s m = true) {i : Nat} (hi : i < m) : endOk s i = true := List.all_eq_true.1 h i (List.mem_range.2 hi)
theorem padM_no {s : List UInt8} {m i : Nat} (hi : i < m) (h : endOk s i = false) : padM s m = false := by
  cases hp : padM s m
  · rfl
  · rw [padM_at hp hi] at h; cases h
theorem drop_take_getD (s : List UInt8) (a : Nat) (h : a + 2 ≤ s.length) : (s.drop a).take 2 = [s.getD a 0, s.getD (a + 1) 0] := by
  rw [List.drop_eq_getElem_cons (by omega), List.take_succ_cons, List.drop_eq_getElem_cons (by omega), List.take_succ_cons, List.take_zero]
  simp [List.getD_eq_getElem?_getD, show a < s.length by omega, show a + 1 < s.length by omega]
/-- a file whose blocks end right is its stream's file -/
theorem file_stream (s : List UInt8) : ∀ m, m * 1014 ≤ s.length → padM s m = true → fileM (streamM s m) m = s.take (m * 1014) := by
  intro m
  induction m with
  | zero => intro _ _; rfl
  | succ m ih =>
    intro hl hp
    rw [padM_succ, Bool.and_eq_true] at hp
    have hsl := streamM_len s m (by omega)
    have e1 : fileM (streamM s (m + 1)) m = fileM (streamM s m) m := by
      rw [streamM_succ]
      unfold fileM
      have ext : ∀ (l : List Nat) (f g : Nat → List UInt8), (∀ i ∈ l, f i = g i) → l.flatMap f = l.flatMap g := by
        intro l f g
        induction l with
        | nil => intro _; rfl
        | cons x r ih => intro h; rw [List.flatMap_cons, List.flatMap_cons, h x (List.mem_cons_self ..), ih fun i hi => h i (List.mem_cons_of_mem _ hi)]
      refine ext _ _ _ fun i hi => ?_
      have hi := List.mem_range.1 hi
      rw [List.drop_append_of_le_length (by omega), List.take_append_of_le_length (by rw [List.length_drop]; omega)]
    have e2 : ((streamM s (m + 1)).drop (m * 1012)).take 1012 = pieceOf s m := by
      rw [streamM_succ, ← hsl, List.drop_left]
      exact List.take_of_length_le (by rw [pieceOf_len s m (by omega)]; omega)
    have e3 : [(64 : UInt8), 64] = (s.drop (m * 1014 + 1012)).take 2 := by
      have := hp.2
      simp only [endOk, Bool.and_eq_true, beq_iff_eq] at this
      rw [drop_take_getD s _ (by omega), this.1, this.2]
    rw [fileM_succ, e1, e2, ih (by omega) hp.1, e3, pieceOf, show (m + 1) * 1014 = m * 1014 + (1012 + 2) by omega, List.take_add, List.take_add, List.drop_drop]
theorem file_of_stream {s : List UInt8} (hm : s.length % 1014 = 0) (hp : padAll s = true) : fileM (streamOf s) (s.length / 1014) = s := by
  rw [streamOf, file_stream s _ (by omega) hp, List.take_of_length_le (by omega)]
/-- and the other way round -/
theorem piece_fileM (t : List UInt8) : ∀ m, m * 1012 ≤ t.length → ∀ i, i < m → ∀ u, pieceOf (fileM t m ++ u) i = (t.drop (i * 1012)).take 1012 ∧ endOk (fileM t m ++ u) i = true := by
  intro m
  induction m with
  | zero => intro _ i hi; omega
  | succ m ih =>
    intro hl i hi u
    rw [fileM_succ, List.append_assoc]
    by_cases h : i < m
    · exact ih (by omega) i h _
    · obtain rfl : i = m := by omega
      have hf := fileM_len t i (by omega)
      have hpl : ((t.drop (i * 1012)).take 1012).length = 1012 := by rw [List.length_take, List.length_drop]; omega
      constructor
      · rw [pieceOf, ← hf, List.drop_left, List.append_assoc, List.take_append_of_le_length (by omega), List.take_of_length_le (by omega)]
      · have g : ∀ j, j < 2 → (fileM t i ++ ((t.drop (i * 1012)).take 1012 ++ [64, 64] ++ u)).getD (i * 1014 + (1012 + j)) 0 = 64 := by
          intro j hj
          rw [List.getD_eq_getElem?_getD, List.getElem?_append_right (by omega), hf, Nat.add_sub_cancel_left, List.append_assoc, List.getElem?_append_right (by omega), hpl, Nat.add_sub_cancel_left]
          match j, hj with
          | 0, _ => rfl
          | 1, _ => rfl
        have g0 := g 0 (by omega)
        have g1 := g 1 (by omega)
        simp only [Nat.add_zero] at g0
        simp only [endOk, g0, show i * 1014 + 1013 = i * 1014 + (1012 + 1) by omega, g1]; rfl
theorem stream_fileM (t : List UInt8) (m : Nat) (h : m * 1012 = t.length) : streamM (fileM t m) m = t ∧ padM (fileM t m) m = true := by
  constructor
  · have : ∀ k, k ≤ m → streamM (fileM t m) k = t.take (k * 1012) := by
      intro k
      induction k with
      | zero => intro _; rfl
      | succ k ih =>
        intro hk
        have hp := (piece_fileM t m (by omega) k (by omega) []).1
        rw [List.append_nil] at hp
        rw [streamM_succ, ih (by omega), hp, show (k + 1) * 1012 = k * 1012 + 1012 by omega, List.take_add]
    rw [this m (Nat.le_refl _), List.take_of_length_le (by omega)]
  · apply List.all_eq_true.2
    intro i hi
    have := (piece_fileM t m (by omega) i (List.mem_range.1 hi) []).2
    rwa [List.append_nil] at this
theorem stream_file (t : List UInt8) (m : Nat) (h : m * 1012 = t.length) : streamOf (fileM t m) = t ∧ padAll (fileM t m) = true := by
  have hl := fileM_len t m (by omega)
  have hd : (fileM t m).length / 1014 = m := by omega
  unfold streamOf padAll
  rw [hd]
  exact stream_fileM t m h
theorem fileM_inj {a b : List UInt8} {m n : Nat} (ha : m * 1012 = a.length) (hb : n * 1012 = b.length) (h : fileM a m = fileM b n) : m = n ∧ a = b := by
  have h1 := fileM_len a m (by omega)
  have h2 := fileM_len b n (by omega)
  rw [h] at h1
  have hmn : m = n := by omega
  subst hmn
  refine ⟨rfl, ?_⟩
  rw [← (stream_fileM a m ha).1, h, (stream_fileM b m hb).1]
/-- the number that four bytes spell -/
def num4 (l : List UInt8) (a : Nat) : Nat := (l.getD a 0).toNat * 16777216 + (l.getD (a + 1) 0).toNat * 65536 + (l.getD (a + 2) 0).toNat * 256 + (l.getD (a + 3) 0).toNat
def walkR (l : List UInt8) : Nat → Nat → Recs → Option (Recs × Nat)
  | 0, _, _ => none
  | f + 1, a, acc =>
    if l.length < a + 4 then none
    else if num4 l a = 0 then some (acc, a + 4)
    else if 3000 < num4 l a ∨ l.length < a + 4 + num4 l a ∨ 200 ≤ acc.length then none
    else walkR l f (a + 4 + num4 l a) (acc ++ [(l.drop (a + 4)).take (num4 l a)])
theorem walkR_short {l : List UInt8} {f a : Nat} {acc : Recs} (h : l.length < a + 4) : walkR l f a acc = none := by
  cases f with
  | zero => rfl
  | succ f => exact if_pos h
theorem walkR_end {l : List UInt8} {f a : Nat} {acc : Recs} (h : ¬ l.length < a + 4) (h0 : num4 l a = 0) : walkR l (f + 1) a acc = some (acc, a + 4) := by
  rw [walkR, if_neg h, if_pos h0]
theorem walkR_bad {l : List UInt8} {f a : Nat} {acc : Recs} (h : ¬ l.length < a + 4) (h0 : num4 l a ≠ 0) (h1 : 3000 < num4 l a ∨ l.length < a + 4 + num4 l a ∨ 200 ≤ acc.length) : walkR l f a acc = none := by
  cases f with
  | zero => rfl
  | succ f => rw [walkR, if_neg h, if_neg h0, if_pos h1]
theorem walkR_go {l : List UInt8} {f a : Nat} {acc : Recs} (h : ¬ l.length < a + 4) (h0 : num4 l a ≠ 0) (h1 : ¬ (3000 < num4 l a ∨ l.length < a + 4 + num4 l a ∨ 200 ≤ acc.length)) :
    walkR l (f + 1) a acc = walkR l f (a + 4 + num4 l a) (acc ++ [(l.drop (a + 4)).take (num4 l a)]) := by
  rw [walkR, if_neg h, if_neg h0, if_neg h1]
theorem be4_num (l : List UInt8) (a : Nat) (h : a + 4 ≤ l.length) : (l.drop a).take 4 = be4 (num4 l a) := by
  have e : ∀ k, k < 4 → ∃ c, l[a + k]? = some c ∧ l.getD (a + k) 0 = c := fun k hk => ⟨l[a + k], by rw [List.getElem?_eq_getElem (by omega)], by simp [List.getD_eq_getElem?_getD, show a + k < l.length by omega]⟩
  obtain ⟨c0, p0, q0⟩ := e 0 (by omega)
  obtain ⟨c1, p1, q1⟩ := e 1 (by omega)
  obtain ⟨c2, p2, q2⟩ := e 2 (by omega)
  obtain ⟨c3, p3, q3⟩ := e 3 (by omega)
  simp only [Nat.add_zero] at p0 q0
  have hl : (l.drop a).take 4 = [c0, c1, c2, c3] := by
    apply List.ext_getElem?
    intro j
    rw [List.getElem?_take]
    by_cases hj : j < 4
    · rw [if_pos hj, List.getElem?_drop]
      match j, hj with
      | 0, _ => simpa using p0
      | 1, _ => simpa using p1
      | 2, _ => simpa using p2
      | 3, _ => simpa using p3
    · rw [if_neg hj, List.getElem?_eq_none (by simp; omega)]
  rw [hl, be4, num4, q0, q1, q2, q3]
  have b0 := c0.toNat_lt
  have b1 := c1.toNat_lt
  have b2 := c2.toNat_lt
  have b3 := c3.toNat_lt
  have f : ∀ (c : UInt8) (n : Nat), n % 256 = c.toNat → UInt8.ofNat n = c := fun c n h => by
    apply UInt8.toNat_inj.1
    rw [UInt8.toNat_ofNat']; exact h
  rw [f c0 _ (by omega), f c1 _ (by omega), f c2 _ (by omega), f c3 _ (by omega)]
theorem num4_be4 (n : Nat) (h : n < 4294967296) (p q : List UInt8) : num4 (p ++ (be4 n ++ q)) p.length = n := by
  have e : ∀ k, k < 4 → (p ++ (be4 n ++ q)).getD (p.length + k) 0 = (be4 n).getD k 0 := fun k hk => by
    rw [List.getD_eq_getElem?_getD, List.getElem?_append_right (by omega), Nat.add_sub_cancel_left, List.getElem?_append_left (by rw [be4_len]; omega), List.getD_eq_getElem?_getD]
  have e0 := e 0 (by omega)
  have e1 := e 1 (by omega)
  have e2 := e 2 (by omega)
  have e3 := e 3 (by omega)
  rw [Nat.add_zero] at e0
  rw [num4, e0, e1, e2, e3]
  simp only [be4, List.getD_cons_zero, List.getD_cons_succ, UInt8.toNat_ofNat']
  omega
/-- what the walk found stands there -/
theorem walkR_is (l : List UInt8) : ∀ f a acc out e, walkR l f a acc = some (out, e) → l.take a = layR acc → a ≤ l.length → recsOk acc = true → acc.length ≤ 200 →
    l.take e = laid out ∧ e ≤ l.length ∧ recsOk out = true ∧ out.length ≤ 200 := by
  intro f
  induction f with
  | zero => intro a acc out e h; cases h
  | succ f ih =>
    intro a acc out e h ht ha hok hn
    by_cases h1 : l.length < a + 4
    · rw [walkR_short h1] at h; cases h
    have hb := be4_num l a (by omega)
    by_cases h0 : num4 l a = 0
    · rw [walkR_end h1 h0] at h
      cases h
      refine ⟨?_, by omega, hok, hn⟩
      rw [List.take_add, hb, h0, ht]; rfl
    · by_cases h2 : 3000 < num4 l a ∨ l.length < a + 4 + num4 l a ∨ 200 ≤ acc.length
      · rw [walkR_bad h1 h0 h2] at h; cases h
      · rw [walkR_go h1 h0 h2] at h
        have hlen : ((l.drop (a + 4)).take (num4 l a)).length = num4 l a := by simp; omega
        refine ih _ _ _ _ h ?_ (by omega) ?_ (by simp; omega)
        · rw [List.take_add, List.take_add, hb, ht, layR_append, layR_one, lay1, hlen, List.append_assoc]
        · simp only [recsOk, List.all_append, Bool.and_eq_true]
          refine ⟨hok, ?_⟩
          simp [recOk, hlen]; omega
/-- and what was laid is found -/
theorem walkR_laid (u : List UInt8) : ∀ (rs acc : Recs) f, recsOk rs = true → acc.length + rs.length ≤ 200 → rs.length < f →
    walkR (layR acc ++ (layR rs ++ be4 0 ++ u)) f (layR acc).length acc = some (acc ++ rs, (layR acc).length + (layR rs).length + 4) := by
  intro rs
  induction rs with
  | nil =>
    intro acc f _ _ hf
    obtain ⟨g, rfl⟩ : ∃ g, f = g + 1 := ⟨f - 1, by simp at hf; omega⟩
    have hn := num4_be4 0 (by omega) (layR acc) u
    rw [show layR [] ++ be4 0 ++ u = be4 0 ++ u from rfl, walkR_end (by simp [be4_len]) hn]
    simp [layR]
  | cons r q ih =>
    intro acc f hok hn hf
    obtain ⟨g, rfl⟩ : ∃ g, f = g + 1 := ⟨f - 1, by simp at hf; omega⟩
    have hok' : recOk r = true ∧ recsOk q = true := by simpa [recsOk] using hok
    have hr := recOk_is hok'.1
    have es : layR (r :: q) ++ be4 0 ++ u = be4 r.length ++ (r ++ (layR q ++ be4 0 ++ u)) := by rw [layR_cons, lay1]; simp [List.append_assoc]
    have hnum := num4_be4 r.length (by omega) (layR acc) (r ++ (layR q ++ be4 0 ++ u))
    have hn' : acc.length + (q.length + 1) ≤ 200 := by simpa using hn
    rw [es, walkR_go (by simp [be4_len]) (by rw [hnum]; omega) (by rw [hnum]; simp [be4_len]; omega), hnum]
    have e1 : ((layR acc ++ (be4 r.length ++ (r ++ (layR q ++ be4 0 ++ u)))).drop ((layR acc).length + 4)).take r.length = r := by
      rw [← List.append_assoc, show (layR acc).length + 4 = (layR acc ++ be4 r.length).length by simp [be4_len], List.drop_left, List.take_left]
    have e2 : layR acc ++ (be4 r.length ++ (r ++ (layR q ++ be4 0 ++ u))) = layR (acc ++ [r]) ++ (layR q ++ be4 0 ++ u) := by
      rw [layR_append, layR_one, lay1]; simp [List.append_assoc]
    have e3 : (layR acc).length + 4 + r.length = (layR (acc ++ [r])).length := by rw [layR_append, layR_one, List.length_append, lay1_len]; omega
    rw [e1, e2, e3, ih (acc ++ [r]) g hok'.2 (by simp; omega) (by simp at hf; omega)]
    have e4 : (layR (r :: q)).length = r.length + 4 + (layR q).length := by rw [layR_cons, List.length_append, lay1_len]
    rw [List.append_assoc, ← e3, e4]
    have e5 : (layR acc).length + 4 + r.length + (layR q).length + 4 = (layR acc).length + (r.length + 4 + (layR q).length) + 4 := by omega
    rw [e5]; rfl
/-- the records of a file, and the code -/
def unb (s : List UInt8) : Recs × Nat :=
  if s.length = 0 ∨ 60000 < s.length ∨ s.length % 1014 ≠ 0 then ([], 1)
  else if padAll s = false then ([], 2)
  else match walkR (streamOf s) ((streamOf s).length + 1) 0 [] with
    | none => ([], 3)
    | some p => if blockOk p.1 = true ∧ blockL p.1 = s then (p.1, 0) else ([], 4)
theorem unb_1 {s : List UInt8} (h : s.length = 0 ∨ 60000 < s.length ∨ s.length % 1014 ≠ 0) : unb s = ([], 1) := if_pos h
theorem unb_2 {s : List UInt8} (h : ¬ (s.length = 0 ∨ 60000 < s.length ∨ s.length % 1014 ≠ 0)) (h2 : padAll s = false) : unb s = ([], 2) := by rw [unb, if_neg h, if_pos h2]
theorem unb_3 {s : List UInt8} (h : ¬ (s.length = 0 ∨ 60000 < s.length ∨ s.length % 1014 ≠ 0)) (h2 : padAll s = true) (h3 : walkR (streamOf s) ((streamOf s).length + 1) 0 [] = none) : unb s = ([], 3) := by
  rw [unb, if_neg h, if_neg (by rw [h2]; decide), h3]
theorem unb_4 {s : List UInt8} {out : Recs} {e : Nat} (h : ¬ (s.length = 0 ∨ 60000 < s.length ∨ s.length % 1014 ≠ 0)) (h2 : padAll s = true) (h3 : walkR (streamOf s) ((streamOf s).length + 1) 0 [] = some (out, e)) (h4 : ¬ (blockOk out = true ∧ blockL out = s)) : unb s = ([], 4) := by
  rw [unb, if_neg h, if_neg (by rw [h2]; decide), h3]; exact if_neg h4
theorem unb_0 {s : List UInt8} {out : Recs} {e : Nat} (h : ¬ (s.length = 0 ∨ 60000 < s.length ∨ s.length % 1014 ≠ 0)) (h2 : padAll s = true) (h3 : walkR (streamOf s) ((streamOf s).length + 1) 0 [] = some (out, e)) (h4 : blockOk out = true ∧ blockL out = s) : unb s = (out, 0) := by
  rw [unb, if_neg h, if_neg (by rw [h2]; decide), h3]; exact if_pos h4
theorem unb_code (s : List UInt8) : (unb s).2 ≤ 4 := by
  unfold unb
  split
  · decide
  · split
    · decide
    · split
      · decide
      · split <;> simp
theorem unb_not {s : List UInt8} (h : (unb s).2 ≠ 0) : (unb s).1 = [] := by
  unfold unb at h ⊢
  split at h
  · rename_i h1; rw [if_pos h1]
  · rename_i h1; rw [if_neg h1]
    split at h
    · rename_i h2; rw [if_pos h2]
    · rename_i h2; rw [if_neg h2]
      split at h
      · rfl
      · rename_i p h3
        split at h
        · exact absurd rfl h
        · rename_i h4; exact congrArg Prod.fst (if_neg h4)
theorem unb_is {s : List UInt8} (h : (unb s).2 = 0) : blockOk (unb s).1 = true ∧ blockL (unb s).1 = s := by
  unfold unb at h ⊢
  split at h
  · cases h
  · rename_i h1; rw [if_neg h1]
    split at h
    · cases h
    · rename_i h2; rw [if_neg h2]
      split at h
      · cases h
      · rename_i p h3
        split at h
        · rename_i h4
          have e : (if blockOk p.1 = true ∧ blockL p.1 = s then (p.1, 0) else (([] : Recs), 4)) = (p.1, 0) := if_pos h4
          show blockOk (if blockOk p.1 = true ∧ blockL p.1 = s then (p.1, 0) else (([] : Recs), 4)).1 = true ∧ blockL (if blockOk p.1 = true ∧ blockL p.1 = s then (p.1, 0) else (([] : Recs), 4)).1 = s
          rw [e]; exact h4
        · cases h
theorem blockL_shape {rs : Recs} (h : blockOk rs = true) : ¬ ((blockL rs).length = 0 ∨ 60000 < (blockL rs).length ∨ (blockL rs).length % 1014 ≠ 0) := by
  obtain ⟨h1, h2, h3⟩ := blockOk_parts h
  have hl := laid_len rs
  have hb := nBlk_le (laid rs).length
  rw [blockL_yes h, fileOf_len]
  omega
theorem unb_block {rs : Recs} (h : blockOk rs = true) : unb (blockL rs) = (rs, 0) := by
  have hs := blockL_shape h
  obtain ⟨h1, h2, h3⟩ := blockOk_parts h
  have hy := blockL_yes h
  obtain ⟨e1, e2⟩ := stream_file (filled (laid rs)) (nBlk (laid rs).length) (filled_len _).symm
  have hw := walkR_laid (List.replicate (nBlk (laid rs).length * 1012 - (laid rs).length) 64) rs [] ((filled (laid rs)).length + 1) h2 (by simpa using h1) (by
    have : rs.length ≤ (layR rs).length := by
      clear hs hy e1 e2 h h1 h2 h3
      induction rs with
      | nil => simp
      | cons r q ih => rw [layR_cons, List.length_append, lay1_len, List.length_cons]; omega
    have := laid_len rs
    have := filled_len (laid rs)
    have := nBlk_le (laid rs).length
    omega)
  have hf : layR [] ++ (layR rs ++ be4 0 ++ List.replicate (nBlk (laid rs).length * 1012 - (laid rs).length) 64) = filled (laid rs) := rfl
  rw [hf] at hw
  refine unb_0 (e := (layR []).length + (layR rs).length + 4) hs (by rw [hy]; exact e2) ?_ ⟨h, rfl⟩
  rw [hy, fileOf, e1]
  exact hw
/-- what the program looks at instead: little enough behind the end, and only filling -/
theorem rest_iff {s : List UInt8} {out : Recs} {e : Nat} (h : ¬ (s.length = 0 ∨ 60000 < s.length ∨ s.length % 1014 ≠ 0)) (h2 : padAll s = true) (h3 : walkR (streamOf s) ((streamOf s).length + 1) 0 [] = some (out, e)) :
    (blockOk out = true ∧ blockL out = s) ↔ ((streamOf s).length - e < 1012 ∧ within 64 64 ((streamOf s).drop e) = true) := by
  obtain ⟨w1, w2, w3, w4⟩ := walkR_is _ _ _ _ _ _ h3 rfl (Nat.zero_le _) rfl (Nat.zero_le _)
  have hsl : (streamOf s).length = s.length / 1014 * 1012 := streamM_len s _ (by omega)
  have hfs := file_of_stream (by omega) h2
  have hel : (laid out).length = e := by rw [← w1, List.length_take]; omega
  have hb1 := nBlk_le (laid out).length
  have hb2 := nBlk_lt (laid out).length
  constructor
  · rintro ⟨g1, g2⟩
    rw [blockL_yes g1] at g2
    have g3 : fileM (filled (laid out)) (nBlk (laid out).length) = fileM (streamOf s) (s.length / 1014) := by rw [hfs]; exact g2
    obtain ⟨hm, ht⟩ := fileM_inj (filled_len _).symm hsl.symm g3
    refine ⟨by omega, ?_⟩
    rw [← ht, filled, ← hel, List.drop_left]
    apply within_of
    intro c hc
    obtain rfl := (List.mem_replicate.1 hc).2
    decide
  · rintro ⟨g1, g2⟩
    have hm : nBlk (laid out).length = s.length / 1014 := by omega
    have hok : blockOk out = true := blockOk_of w4 w3 (by omega)
    refine ⟨hok, ?_⟩
    rw [blockL_yes hok, fileOf, hm]
    have ht : filled (laid out) = streamOf s := by
      rw [filled, hm, ← w1]
      conv => rhs; rw [← List.take_append_drop e (streamOf s)]
      congr 1
      apply List.ext_getElem
      · rw [List.length_replicate, List.length_take, List.length_drop]; omega
      · intro i p q
        rw [List.getElem_replicate]
        have := within_mem g2 _ (List.getElem_mem q)
        apply UInt8.toNat_inj.1
        show 64 = _
        omega
    rw [ht]; exact hfs
end Go.Proofs.YtpenkpiffdbdmaaGreatDoor
