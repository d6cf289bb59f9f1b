/- Joined: Aid, By, FLeaf, FTen, PadP, Dec3, Shelf, FPad, MsgP, FNum, FHas, FClone, Dig, SetP, GSetP, FBytes, FPut, PackP, FldLaw, Box, FileP, FRow, FConv, WithP, Over, Box3, SetBack, FWalk. -/
import Derived.Test.YtbncdhfmhokgeaaGreatDoorProg
import Derived.WalkKit
import Derived.WalkLawsBesides
import Derived.Deep.QuietTactic
import Derived.BigQuiet
import Derived.WalkSmall
import Derived.OwnWalk
import Derived.Lib.Strings
import Derived.Lib.ItoaNum
import Derived.Lib.ItoaLen
import Derived.WalkSpells
import Derived.Outline
import Derived.Shelf.Strings.Builder1
import Derived.Shelf.Strings.Builder2
import Derived.Shelf.Strings.BuilderF
import Derived.Shelf.Strconv.Itoa0
import Derived.Shelf.Strconv.Itoa1
import Derived.Shelf.LaysM
import Derived.Shelf.Strconv.Itoa2
import Derived.Shelf.Strconv.Itoa3
import Derived.Shelf.Strconv.Clone
import Derived.Shelf.Strings.Search1
import Derived.Shelf.Strings.Search2
import Derived.Shelf.Strings.Search3
import Derived.Shelf.Strings.Count
import Derived.Shelf.Strings.Shaped
import Derived.Shelf.Strings.Prefix
import Derived.Shelf.Strings.Split
import Derived.Shelf.Strings.Replace
import Derived.Shelf.Strings.SplitShaped
import Derived.Shelf.Bits.Mul64
import Derived.Shelf.Strings.Repeat
import Derived.Shelf.Unicode.DecodeSlow
import Derived.Lib.AppendIntMem
import Derived.Laws.IdiomStrings
import Derived.Laws.BytesArg
import Derived.Maps.AppendAt
import Derived.Deep.RegionHeld3
import Derived.Deep.AppendLies
import Derived.Handy
import Derived.Lib.SlBuf
import Derived.Laws.CopyOwn
import Derived.Deep.RegionLaw
/- Small steps that many walks end with. -/
namespace Go.Proofs.YtbncdhfmhokgeaaGreatDoor
open Go.RowKit

theorem next {w w1 w2 : World} (h : Below w.heap.size w w1) (k : Below w1.heap.size w1 w2) : Below w.heap.size w w2 := h.trans (k.mono h.size)
theorem two_eq {k : IntKind} {a b : Int} {x y : Bool} (h : a = b) (g : x = y) : Ending.returned (.tuple #[.int k a, .bool x]) = .returned (.tuple #[.int k b, .bool y]) := by rw [h, g]
theorem two_ints {k : IntKind} {a b x y : Int} (h : a = b) (g : x = y) : Ending.returned (.tuple #[.int k a, .int k x]) = .returned (.tuple #[.int k b, .int k y]) := by rw [h, g]
theorem one_int {k : IntKind} {a b : Int} (h : a = b) : Ending.returned (.int k a) = .returned (.int k b) := by rw [h]
theorem one_bool {a b : Bool} (h : a = b) : Ending.returned (.bool a) = .returned (.bool b) := by rw [h]
theorem one_str {a b : ByteArray} (h : a = b) : Ending.returned (.string a) = .returned (.string b) := by rw [h]

end Go.Proofs.YtbncdhfmhokgeaaGreatDoor

/- Plain lists of bytes: what they are as texts, whether each lies within bounds, the number that digits spell. No Go in sight. -/
namespace Go.Proofs.YtbncdhfmhokgeaaGreatDoor
open Go.RowKit

theorem ba_append (l r : List UInt8) : (⟨l.toArray⟩ ++ ⟨r.toArray⟩ : ByteArray) = ⟨(l ++ r).toArray⟩ := by
  apply ByteArray.ext
  simp
theorem ba_list (b : ByteArray) : b = ⟨b.data.toList.toArray⟩ := by cases b; simp
theorem ba_extract (l : List UInt8) (a b : Nat) : (⟨l.toArray⟩ : ByteArray).extract a b = ⟨((l.drop a).take (b - a)).toArray⟩ := by
  have h := Lib.extract_data ⟨l.toArray⟩ a b
  rw [ba_list (ByteArray.extract ⟨l.toArray⟩ a b), h]
theorem ba_size (l : List UInt8) : (⟨l.toArray⟩ : ByteArray).size = l.length := by simp [ByteArray.size]
theorem ba_inj {l r : List UInt8} : ((⟨l.toArray⟩ : ByteArray) = ⟨r.toArray⟩) ↔ l = r :=
  ⟨fun h => by have := congrArg (fun b : ByteArray => b.data.toList) h; simpa using this, fun h => by rw [h]⟩
theorem byte_at (l : List UInt8) (k : Nat) (h : k < l.length) : l.getD k 0 = (⟨l.toArray⟩ : ByteArray)[k]'(by rw [ba_size]; exact h) := by
  rw [List.getD_eq_getElem?_getD, List.getElem?_eq_getElem h]
  rfl
theorem wrap_byte (c : UInt8) : wrap64 ((c.toNat : Nat) : Int) = (c.toNat : Int) := by
  have := c.toNat_lt
  unfold wrap64; omega

/-- whether each byte is a .. b -/
def within (a b : Nat) (l : List UInt8) : Bool := l.all fun c => decide (a ≤ c.toNat) && decide (c.toNat ≤ b)
theorem within_step (a b : Nat) (l : List UInt8) (k : Nat) (h : k < l.length) : within a b (l.drop k) = ((decide (a ≤ (l.getD k 0).toNat) && decide ((l.getD k 0).toNat ≤ b)) && within a b (l.drop (k + 1))) := by
  have e : l.getD k 0 = l[k] := by simp [List.getD_eq_getElem?_getD, h]
  rw [List.drop_eq_getElem_cons h, e]
  simp only [within, List.all_cons]
theorem within_end (a b : Nat) (l : List UInt8) : within a b (l.drop l.length) = true := by rw [List.drop_of_length_le (Nat.le_refl _)]; rfl
theorem within_mem {a b : Nat} {l : List UInt8} (h : within a b l = true) : ∀ c ∈ l, a ≤ c.toNat ∧ c.toNat ≤ b := by
  intro c hc
  have := List.all_eq_true.1 h c hc
  simpa using this
theorem within_of {a b : Nat} {l : List UInt8} (h : ∀ c ∈ l, a ≤ c.toNat ∧ c.toNat ≤ b) : within a b l = true :=
  List.all_eq_true.2 fun c hc => by simpa using h c hc
theorem within_at {a b : Nat} {l : List UInt8} (h : within a b l = true) {k : Nat} (hk : k < l.length) : a ≤ (l.getD k 0).toNat ∧ (l.getD k 0).toNat ≤ b :=
  within_mem h _ (by simp [List.getD_eq_getElem?_getD, hk])

/-- the number that digits spell, from a on -/
def val (a : Nat) (l : List UInt8) : Nat := l.foldl (fun a c => a * 10 + (c.toNat - 48)) a
theorem val_cons (a : Nat) (c : UInt8) (l : List UInt8) : val a (c :: l) = val (a * 10 + (c.toNat - 48)) l := by simp only [val, List.foldl_cons]
theorem val_append (a : Nat) (l r : List UInt8) : val a (l ++ r) = val (val a l) r := by simp [val]
theorem val_zeros (k : Nat) (l : List UInt8) : val 0 (List.replicate k 48 ++ l) = val 0 l := by
  induction k with
  | zero => rfl
  | succ k ih => rw [List.replicate_succ, List.cons_append, val_cons]; exact ih
theorem take_succ_at (l : List UInt8) (k : Nat) (h : k < l.length) : l.take (k + 1) = l.take k ++ [l.getD k 0] := by
  rw [List.take_add_one, List.getElem?_eq_getElem h, List.getD_eq_getElem?_getD, List.getElem?_eq_getElem h]; rfl
theorem val_take (l : List UInt8) (k : Nat) (h : k < l.length) : val 0 (l.take (k + 1)) = val 0 (l.take k) * 10 + ((l.getD k 0).toNat - 48) := by
  rw [take_succ_at l k h, val_append]; rfl
theorem val_bound (l : List UInt8) (h : within 48 57 l = true) : ∀ k, k ≤ l.length → val 0 (l.take k) < 10 ^ k := by
  intro k
  induction k with
  | zero => intro _; simp [val]
  | succ k ih =>
    intro hk
    have := ih (by omega)
    have hb := within_at h (k := k) (by omega)
    rw [val_take l k (by omega), Nat.pow_succ]
    omega

/-- a text's number -/
def numOf (l : List UInt8) : Int := if l.length ≤ 18 ∧ within 48 57 l = true then (val 0 l : Int) else -1
theorem numOf_no1 {l : List UInt8} (h : 18 < l.length) : numOf l = -1 := if_neg (by omega)
theorem numOf_no2 {l : List UInt8} (h : within 48 57 l = false) : numOf l = -1 := if_neg (by rw [h]; simp)
theorem numOf_yes {l : List UInt8} (h1 : l.length ≤ 18) (h2 : within 48 57 l = true) : numOf l = (val 0 l : Int) := if_pos ⟨h1, h2⟩
theorem numOf_bd (l : List UInt8) : -1 ≤ numOf l ∧ numOf l < 1000000000000000000 := by
  unfold numOf
  split
  · rename_i h
    have := val_bound l h.2 l.length (Nat.le_refl _)
    rw [List.take_of_length_le (Nat.le_refl _)] at this
    have : 10 ^ l.length ≤ 10 ^ 18 := Nat.pow_le_pow_right (by omega) h.1
    omega
  · omega

end Go.Proofs.YtbncdhfmhokgeaaGreatDoor

/- The contracts of the small functions of chapter 3 (fields) over a text's bytes: what each returns for every argument. -/
namespace Go.Proofs.YtbncdhfmhokgeaaGreatDoor
open Go.RowKit

def inB (x a b : Int) : Bool := decide (a ≤ x ∧ x ≤ b)
theorem inB_pos {x a b : Int} (h : a ≤ x) (g : x ≤ b) : inB x a b = true := by simp [inB, h, g]
theorem inB_neg {x a b : Int} (h : x < a ∨ b < x) : inB x a b = false := by simp [inB]; omega

set_option maxHeartbeats 400000 in
theorem in_any (x a b : Int) (w : World) :
    Calls Tryz.prog 89 #[.int .i64 x, .int .i64 a, .int .i64 b] w fun e w' => e = .returned (.bool (inB x a b)) ∧ w' = w := by
  by_cases h1 : a ≤ x
  · by_cases h2 : x ≤ b
    · go_enter Tryz.func89, Tryz.ntmps89
      go_wp2
      go_ret
      exact ⟨by simp [inB, h1, h2], rfl⟩
    · go_enter Tryz.func89, Tryz.ntmps89
      go_wp2
      go_ret
      exact ⟨by simp [inB, h1, h2], rfl⟩
  · go_enter Tryz.func89, Tryz.ntmps89
    go_wp2
    go_ret
    exact ⟨by simp [inB]; omega, rfl⟩

theorem in_byte (c : UInt8) (a b : Nat) : inB (c.toNat : Int) a b = (decide (a ≤ c.toNat) && decide (c.toNat ≤ b)) := by
  unfold inB
  by_cases h1 : a ≤ c.toNat <;> by_cases h2 : c.toNat ≤ b <;> simp [h1, h2]

set_option maxHeartbeats 400000 in
theorem iWithin_any (l : List UInt8) (a b : Nat) (w : World) (hl : l.length ≤ 1099511627776) :
    Calls Tryz.prog 114 #[.string ⟨l.toArray⟩, .int .u8 a, .int .u8 b] w fun e w' => e = .returned (.bool (within a b l)) ∧ w' = w := by
  go_enter Tryz.func114, Tryz.ntmps114
  go_wp2
  go_loop [7, 10] (fun _ i => ∃ k : Nat, k ≤ l.length ∧ i = .int .i64 k ∧ within a b l = within a b (l.drop k)) (fun _ i => l.length - (intOf i).toNat)
  case atStart => exact ⟨0, Nat.zero_le _, rfl, rfl⟩
  case round =>
    obtain ⟨k, hk, rfl, ht⟩ := hrel
    by_cases hlt : k < l.length
    · have hki : (k : Int) < (l.length : Int) := by omega
      have hs := within_step a b l k hlt
      obtain ⟨c, hc⟩ : ∃ c, (⟨l.toArray⟩ : ByteArray)[k]'(by rw [ba_size]; exact hlt) = c := ⟨_, rfl⟩
      rw [(byte_at l k hlt).trans hc] at hs
      have HS : Hid _ := ht.trans hs
      clear hs ht
      by_cases h1 : a ≤ c.toNat
      · have h1' : (a : Int) ≤ (c.toNat : Int) := by omega
        by_cases h2 : c.toNat ≤ b
        · have h2' : (c.toNat : Int) ≤ (b : Int) := by omega
          have HY : Hid (within a b l = within a b (l.drop (k + 1))) := by rw [Hid, HS.out]; simp [h1, h2]
          clear HS
          go_wp2
          go_round
          case rel => exact ⟨k + 1, by omega, by go_num, HY.out⟩
          case measure => simp [intOf]; omega
        · have h2' : (b : Int) < (c.toNat : Int) := by omega
          have HN : Hid (within a b l = false) := by rw [Hid, HS.out]; simp [h2]
          clear HS
          go_wp2
          go_ret
          exact ⟨one_bool HN.out.symm, rfl⟩
      · have h1' : (c.toNat : Int) < (a : Int) := by omega
        have HN : Hid (within a b l = false) := by rw [Hid, HS.out]; simp [h1]
        clear HS
        go_wp2
        go_ret
        exact ⟨one_bool HN.out.symm, rfl⟩
    · have hke : k = l.length := by omega
      subst hke
      have HE : Hid (within a b l = true) := by rw [Hid, ht, within_end]
      clear ht
      go_wp2
      go_ret
      exact ⟨one_bool HE.out.symm, rfl⟩

set_option maxHeartbeats 400000 in
theorem iDigits_any (l : List UInt8) (w : World) (hl : l.length ≤ 1099511627776) :
    Calls Tryz.prog 70 #[.string ⟨l.toArray⟩] w fun e w' => e = .returned (.bool (within 48 57 l)) ∧ w' = w := by
  go_enter Tryz.func70, Tryz.ntmps70
  go_wp2_with fail
  refine (iWithin_any l 48 57 _ hl).mono ?_
  rintro e w1 ⟨rfl, hw⟩
  subst hw
  go_wp2
  go_ret
  exact ⟨rfl, rfl⟩

set_option maxHeartbeats 400000 in
theorem iPlain_any (l : List UInt8) (w : World) (hl : l.length ≤ 1099511627776) :
    Calls Tryz.prog 208 #[.string ⟨l.toArray⟩] w fun e w' => e = .returned (.bool (within 32 126 l)) ∧ w' = w := by
  go_enter Tryz.func208, Tryz.ntmps208
  go_wp2_with fail
  refine (iWithin_any l 32 126 _ hl).mono ?_
  rintro e w1 ⟨rfl, hw⟩
  subst hw
  go_wp2
  go_ret
  exact ⟨rfl, rfl⟩

set_option maxHeartbeats 400000 in
theorem sPlain_any (l : List UInt8) (w : World) (hl : l.length ≤ 1099511627776) :
    Calls Tryz.prog 129 #[.string ⟨l.toArray⟩] w fun e w' => e = .returned (.bool (within 32 126 l)) ∧ w' = w := by
  go_enter Tryz.func129, Tryz.ntmps129
  go_wp2
  go_loop [3] (fun i => ∃ k : Nat, k ≤ l.length ∧ i = .int .i64 k ∧ within 32 126 l = within 32 126 (l.drop k)) (fun i => l.length - (intOf i).toNat)
  case atStart => exact ⟨0, Nat.zero_le _, rfl, rfl⟩
  case round =>
    obtain ⟨k, hk, rfl, ht⟩ := hrel
    by_cases hlt : k < l.length
    · have hki : (k : Int) < (l.length : Int) := by omega
      have hs := within_step 32 126 l k hlt
      obtain ⟨c, hc⟩ : ∃ c, (⟨l.toArray⟩ : ByteArray)[k]'(by rw [ba_size]; exact hlt) = c := ⟨_, rfl⟩
      rw [(byte_at l k hlt).trans hc, ← in_byte c 32 126] at hs
      have HS : Hid _ := ht.trans hs
      have hwc := wrap_byte c
      clear hs ht
      cases hin : inB (c.toNat : Int) 32 126
      · have HN : Hid (within 32 126 l = false) := by rw [Hid, HS.out]; simp [hin]
        clear HS
        go_wp2_with fail
        refine (in_any _ _ _ _).mono ?_
        rintro e w1 ⟨rfl, hw1⟩
        subst hw1
        rw [hin]
        go_wp2
        go_ret
        exact ⟨one_bool HN.out.symm, rfl⟩
      · have HY : Hid (within 32 126 l = within 32 126 (l.drop (k + 1))) := by rw [Hid, HS.out]; simp [hin]
        clear HS
        go_wp2_with fail
        refine (in_any _ _ _ _).mono ?_
        rintro e w1 ⟨rfl, hw1⟩
        subst hw1
        rw [hin]
        go_wp2
        go_round
        case rel => exact ⟨k + 1, by omega, by go_num, HY.out⟩
        case measure => simp [intOf]; omega
    · have hke : k = l.length := by omega
      subst hke
      have HE : Hid (within 32 126 l = true) := by rw [Hid, ht, within_end]
      clear ht
      go_wp2
      go_ret
      exact ⟨one_bool HE.out.symm, rfl⟩

set_option maxHeartbeats 400000 in
theorem sDigits_any (l : List UInt8) (w : World) (hl : l.length ≤ 1099511627776) :
    Calls Tryz.prog 50 #[.string ⟨l.toArray⟩] w fun e w' => e = .returned (.bool (within 48 57 l)) ∧ w' = w := by
  go_enter Tryz.func50, Tryz.ntmps50
  go_wp2
  go_loop [3] (fun i => ∃ k : Nat, k ≤ l.length ∧ i = .int .i64 k ∧ within 48 57 l = within 48 57 (l.drop k)) (fun i => l.length - (intOf i).toNat)
  case atStart => exact ⟨0, Nat.zero_le _, rfl, rfl⟩
  case round =>
    obtain ⟨k, hk, rfl, ht⟩ := hrel
    by_cases hlt : k < l.length
    · have hki : (k : Int) < (l.length : Int) := by omega
      have hs := within_step 48 57 l k hlt
      obtain ⟨c, hc⟩ : ∃ c, (⟨l.toArray⟩ : ByteArray)[k]'(by rw [ba_size]; exact hlt) = c := ⟨_, rfl⟩
      rw [(byte_at l k hlt).trans hc, ← in_byte c 48 57] at hs
      have HS : Hid _ := ht.trans hs
      have hwc := wrap_byte c
      clear hs ht
      cases hin : inB (c.toNat : Int) 48 57
      · have HN : Hid (within 48 57 l = false) := by rw [Hid, HS.out]; simp [hin]
        clear HS
        go_wp2_with fail
        refine (in_any _ _ _ _).mono ?_
        rintro e w1 ⟨rfl, hw1⟩
        subst hw1
        rw [hin]
        go_wp2
        go_ret
        exact ⟨one_bool HN.out.symm, rfl⟩
      · have HY : Hid (within 48 57 l = within 48 57 (l.drop (k + 1))) := by rw [Hid, HS.out]; simp [hin]
        clear HS
        go_wp2_with fail
        refine (in_any _ _ _ _).mono ?_
        rintro e w1 ⟨rfl, hw1⟩
        subst hw1
        rw [hin]
        go_wp2
        go_round
        case rel => exact ⟨k + 1, by omega, by go_num, HY.out⟩
        case measure => simp [intOf]; omega
    · have hke : k = l.length := by omega
      subst hke
      have HE : Hid (within 48 57 l = true) := by rw [Hid, ht, within_end]
      clear ht
      go_wp2
      go_ret
      exact ⟨one_bool HE.out.symm, rfl⟩

end Go.Proofs.YtbncdhfmhokgeaaGreatDoor

/- The contract of the program's powers of ten. -/
namespace Go.Proofs.YtbncdhfmhokgeaaGreatDoor
open Go.RowKit

set_option maxHeartbeats 400000 in
theorem tenTo_any (n : Nat) (w : World) (hn : n ≤ 18) :
    Calls Tryz.prog 85 #[.int .i64 n] w fun e w' => e = .returned (.int .i64 (10 ^ n : Nat)) ∧ w' = w := by
  go_enter Tryz.func85, Tryz.ntmps85
  go_wp2
  go_loop [3, 5] (fun p i => ∃ k : Nat, k ≤ n ∧ i = .int .i64 k ∧ p = .int .i64 (10 ^ k : Nat)) (fun _ i => n - (intOf i).toNat)
  case atStart => exact ⟨0, Nat.zero_le _, rfl, rfl⟩
  case round =>
    obtain ⟨k, hk, rfl, rfl⟩ := hrel
    by_cases hlt : k < n
    · have hki : (k : Int) < (n : Int) := by omega
      have hp : 10 ^ k ≤ 10 ^ 17 := Nat.pow_le_pow_right (by omega) (by omega)
      have hs : 10 ^ (k + 1) = 10 ^ k * 10 := Nat.pow_succ 10 k
      obtain ⟨x, hx⟩ : ∃ x : Nat, 10 ^ k = x := ⟨_, rfl⟩
      rw [hx] at hp hs ⊢
      have HS : Hid (((10 ^ (k + 1) : Nat) : Int) = (x : Int) * 10) := by rw [Hid, hs]; omega
      have hxb : x ≤ 100000000000000000 := by omega
      clear hs hx hp
      go_wp2
      go_round
      case rel => exact ⟨k + 1, by omega, by go_num, by rw [HS.out]⟩
      case measure => simp [intOf]; omega
    · have hke : k = n := by omega
      subst hke
      obtain ⟨x, hx⟩ : ∃ x : Nat, 10 ^ k = x := ⟨_, rfl⟩
      rw [hx]
      have HX : Hid _ := hx
      clear hx
      go_wp2
      go_ret
      exact ⟨one_int (by rw [← HX.out]; simp), rfl⟩

end Go.Proofs.YtbncdhfmhokgeaaGreatDoor

/- Numbers with noughts ahead, over plain lists. No Go in sight. -/
namespace Go.Proofs.YtbncdhfmhokgeaaGreatDoor

theorem ofNat_dig (d : Nat) (h : d < 10) : (UInt8.ofNat (48 + d)).toNat = 48 + d := by
  rw [UInt8.toNat_ofNat']; omega
theorem dec_props (n : Nat) : (∀ c ∈ Lib.decDigits n, 48 ≤ c.toNat ∧ c.toNat ≤ 57) ∧ val 0 (Lib.decDigits n) = n := by
  induction n using Nat.strongRecOn with
  | _ n ih =>
    rw [Lib.decDigits]
    by_cases h : n < 10
    · rw [dif_pos h]
      refine ⟨fun c hc => ?_, ?_⟩
      · obtain rfl : c = UInt8.ofNat (48 + n) := by simpa using hc
        rw [ofNat_dig n h]; omega
      · simp only [val, List.foldl_cons, List.foldl_nil]
        rw [ofNat_dig n h]; omega
    · rw [dif_neg h]
      obtain ⟨i1, i2⟩ := ih (n / 10) (by omega)
      refine ⟨fun c hc => ?_, ?_⟩
      · rcases List.mem_append.1 hc with hc | hc
        · exact i1 c hc
        · obtain rfl : c = UInt8.ofNat (48 + n % 10) := by simpa using hc
          rw [ofNat_dig _ (by omega)]; omega
      · rw [val_append, i2]
        simp only [val, List.foldl_cons, List.foldl_nil]
        rw [ofNat_dig _ (by omega)]; omega
theorem dec_len_pow (k n : Nat) (hk : 1 ≤ k) (h : n < 10 ^ k) : (Lib.decDigits n).length ≤ k := by
  induction k generalizing n with
  | zero => omega
  | succ k ih =>
    rw [Lib.decDigits]
    by_cases h1 : n < 10
    · rw [dif_pos h1]; simp
    · rw [dif_neg h1]
      have hk1 : 1 ≤ k := by
        rcases Nat.eq_zero_or_pos k with rfl | hp
        · simp at h; omega
        · exact hp
      have := ih (n / 10) hk1 (by rw [Nat.pow_succ] at h; omega)
      simp; omega
def padOk (x n : Int) : Bool := decide (1 ≤ n ∧ n ≤ 18) && decide (0 ≤ x ∧ x < ((10 ^ n.toNat : Nat) : Int))
/-- x with noughts ahead to n digits -/
def padN (x n : Nat) : List UInt8 := List.replicate (n - (Lib.decDigits x).length) 48 ++ Lib.decDigits x
def padT (x n : Int) : List UInt8 := if padOk x n = true then padN x.toNat n.toNat else []
theorem padT_no {x n : Int} (h : padOk x n = false) : padT x n = [] := if_neg (by rw [h]; decide)
theorem padOk_no1 {x n : Int} (h : ¬ (1 ≤ n ∧ n ≤ 18)) : padOk x n = false := by unfold padOk; rw [decide_eq_false h]; rfl
theorem padOk_no2 {x n : Int} (h : ¬ (0 ≤ x ∧ x < ((10 ^ n.toNat : Nat) : Int))) : padOk x n = false := by unfold padOk; rw [decide_eq_false h, Bool.and_false]
theorem padT_yes {x n : Nat} (h1 : 1 ≤ n) (h2 : n ≤ 18) (h3 : x < 10 ^ n) : padT x n = padN x n := by
  unfold padT
  rw [if_pos]
  · rw [Int.toNat_natCast, Int.toNat_natCast]
  · unfold padOk
    rw [decide_eq_true (by omega), decide_eq_true (by rw [Int.toNat_natCast]; omega)]; rfl
theorem padT_cases (x n : Int) : padT x n = [] ∨ ∃ a m : Nat, x = a ∧ n = m ∧ 1 ≤ m ∧ m ≤ 18 ∧ a < 10 ^ m ∧ padT x n = padN a m := by
  cases h : padOk x n
  · exact .inl (padT_no h)
  · unfold padOk at h
    rw [Bool.and_eq_true, decide_eq_true_eq, decide_eq_true_eq] at h
    obtain ⟨a, rfl⟩ := Int.eq_ofNat_of_zero_le h.2.1
    obtain ⟨m, rfl⟩ := Int.eq_ofNat_of_zero_le (show 0 ≤ n by omega)
    rw [Int.toNat_natCast] at h
    exact .inr ⟨a, m, rfl, rfl, by omega, by omega, by omega, padT_yes (by omega) (by omega) (by omega)⟩
theorem padN_len {x n : Nat} (h1 : 1 ≤ n) (h3 : x < 10 ^ n) : (padN x n).length = n := by
  have := dec_len_pow n x h1 h3
  simp [padN]; omega
theorem padN_dig (x n : Nat) : within 48 57 (padN x n) = true := by
  refine within_of fun c hc => ?_
  rcases List.mem_append.1 hc with hc | hc
  · rw [List.mem_replicate] at hc
    rw [hc.2]; decide
  · exact (dec_props x).1 c hc
theorem padN_val (x n : Nat) : val 0 (padN x n) = x := by
  unfold padN; rw [val_zeros, (dec_props x).2]
theorem padN_num {x n : Nat} (h1 : 1 ≤ n) (h2 : n ≤ 18) (h3 : x < 10 ^ n) : numOf (padN x n) = (x : Int) := by
  rw [numOf_yes (by rw [padN_len h1 h3]; exact h2) (padN_dig x n), padN_val]
theorem dig_plain {l : List UInt8} (h : within 48 57 l = true) : within 32 126 l = true :=
  within_of fun c hc => by have := within_mem h c hc; omega

end Go.Proofs.YtbncdhfmhokgeaaGreatDoor

/- The specification's decimal numeral. -/
namespace Go.Proofs.YtbncdhfmhokgeaaGreatDoor
open Go.RowKit

/-- the digits of m, none for 0 -/
def low (m : Nat) : List UInt8 := if m = 0 then [] else Lib.decDigits m
theorem low_step (m : Nat) (h : m ≠ 0) : low m = low (m / 10) ++ [UInt8.ofNat (48 + m % 10)] := by
  unfold low
  rw [if_neg h, Lib.decDigits]
  by_cases h1 : m < 10
  · rw [dif_pos h1, if_pos (by omega), Nat.mod_eq_of_lt h1]; rfl
  · rw [dif_neg h1, if_neg (by omega)]

theorem dec_len (a : Nat) (ha : a ≤ 9223372036854775807) : (Lib.decDigits a).length ≤ 21 := by
  have := Lib.itoa_length_le (a : Int) (by omega) (by omega)
  simpa [Lib.itoa, show ¬ (a : Int) < 0 from by omega] using this

theorem dig_one (d : Nat) (h : d < 10) : (⟨#[48, 49, 50, 51, 52, 53, 54, 55, 56, 57]⟩ : ByteArray).extract d (d + 1) = ⟨[UInt8.ofNat (48 + d)].toArray⟩ := by
  rcases (show d = 0 ∨ d = 1 ∨ d = 2 ∨ d = 3 ∨ d = 4 ∨ d = 5 ∨ d = 6 ∨ d = 7 ∨ d = 8 ∨ d = 9 from by omega) with rfl | rfl | rfl | rfl | rfl | rfl | rfl | rfl | rfl | rfl <;> decide
theorem dig_piece (d : Nat) (l : List UInt8) (h : d < 10) : (⟨#[48, 49, 50, 51, 52, 53, 54, 55, 56, 57]⟩ : ByteArray).extract d (d + 1) ++ ⟨l.toArray⟩ = ⟨(UInt8.ofNat (48 + d) :: l).toArray⟩ := by
  rw [dig_one d h, ba_append]; rfl

set_option maxHeartbeats 800000 in
theorem dec_up (a : Nat) (w : World) (ha : a ≤ 9223372036854775807) :
    Calls Tryz.prog 45 #[.int .i64 a] w fun e w' => e = .returned (.string ⟨(Lib.decDigits a).toArray⟩) ∧ w' = w := by
  by_cases h0 : a = 0
  · subst h0
    go_enter Tryz.func45, Tryz.ntmps45
    go_wp2
    go_ret
    exact ⟨one_str (by rw [Lib.decDigits_one (by omega)]; rfl), rfl⟩
  · have hne : ((a : Int) == 0) = false := by simp; omega
    have hnn : ¬ (a : Int) < 0 := by omega
    go_enter Tryz.func45, Tryz.ntmps45
    go_wp2
    go_loop [3, 4, 5] (fun o m _ => ∃ (k : Nat) (l : List UInt8), k ≤ a ∧ m = .int .i64 k ∧ o = .string ⟨l.toArray⟩ ∧ Lib.decDigits a = low k ++ l) (fun _ m _ => (intOf m).toNat)
    case atStart => exact ⟨a, [], Nat.le_refl _, rfl, rfl, by simp [low, h0]⟩
    case round =>
      obtain ⟨k, l, hk, rfl, rfl, hd⟩ := hrel
      by_cases hk0 : k = 0
      · subst hk0
        have HD : Hid _ := hd
        clear hd
        go_wp2
        go_ret
        exact ⟨one_str (by have := HD.out; simp [low] at this; rw [this]), rfl⟩
      · have kne : ((k : Int) != 0) = true := by simp; omega
        have HD : Hid (Lib.decDigits a = low (k / 10) ++ (UInt8.ofNat (48 + k % 10) :: l)) := by rw [Hid, hd, low_step k hk0]; simp
        have hl : l.length ≤ 21 := by have h1 := dec_len a ha; rw [hd] at h1; simp at h1; omega
        clear hd
        go_wp2
        go_round
        case rel => exact ⟨k / 10, UInt8.ofNat (48 + k % 10) :: l, by omega, by go_num, by rw [dig_piece _ _ (by omega)], HD.out⟩
        case measure => simp [intOf]; omega

end Go.Proofs.YtbncdhfmhokgeaaGreatDoor

/-
  DERIVED: THE SHELF's CONTRACTS AT THIS DUMP, IN PLAIN WORDS (tools/lay-plain.mjs out of 'TryzShelf.lean', which tools/lay-shelf.mjs wrote): THE SAME DECLARATIONS UNDER THE SAME NAMES: 'import', 'namespace', 'open', 'def', 'theorem' AND NOTHING ELSE: no command of the shelf's: FOR A HAND-IN. Each laying: the table of numbers ('.._ren') and one theorem, a field a fact of the dump's own or the kernel's comparison; each contract: ONE APPLICATION.
-/
namespace Go.Proofs
open Go.Shelf
def Tryz.laysM171_ren : Go.Shelf.Ren := ⟨fun | 171 => 43 | 243 => 94 | 246 => 130 | 283 => 153 | 284 => 154 | 285 => 155 | 286 => 156 | 129 => 172 | 317 => 171 | 318 => 173 | 319 => 174 | 320 => 175 | 337 => 183 | 338 => 184 | n => n, fun | 3 => 3 | 9 => 9 | 2 => 2 | 4 => 4 | 171 => 191 | 0 => 0 | 53 => 188 | 37 => 22 | 5 => 5 | 173 => 194 | 212 => 215 | 51 => 185 | 20 => 20 | 213 => 216 | 46 => 146 | 232 => 227 | 233 => 228 | n => n, fun | 17 => 1 | 18 => 5 | 19 => 6 | n => n⟩
theorem Tryz.laysM171 : Go.Proofs.LaysM.n171 Tryz.prog Tryz.laysM171_ren := {
  mixed := by kernel_rfl
  f129 := Tryz.func172.trans (congrArg some (by kernel_rfl))
  f171 := Tryz.func43.trans (congrArg some (by kernel_rfl))
  f243 := Tryz.func94.trans (congrArg some (by kernel_rfl))
  f246 := Tryz.func130.trans (congrArg some (by kernel_rfl))
  f283 := Tryz.func153.trans (congrArg some (by kernel_rfl))
  f284 := Tryz.func154.trans (congrArg some (by kernel_rfl))
  f285 := Tryz.func155.trans (congrArg some (by kernel_rfl))
  f286 := Tryz.func156.trans (congrArg some (by kernel_rfl))
  f317 := Tryz.func171.trans (congrArg some (by kernel_rfl))
  f318 := Tryz.func173.trans (congrArg some (by kernel_rfl))
  f319 := Tryz.func174.trans (congrArg some (by kernel_rfl))
  f320 := Tryz.func175.trans (congrArg some (by kernel_rfl))
  f337 := Tryz.func183.trans (congrArg some (by kernel_rfl))
  f338 := Tryz.func184.trans (congrArg some (by kernel_rfl))
  t0 := Tryz.underlying0
  a0 := Tryz.isAgg0
  z0 := Tryz.sizeOf0
  v0 := Tryz.zeroValue0
  t2 := Tryz.underlying2
  a2 := Tryz.isAgg2
  z2 := Tryz.sizeOf2
  v2 := Tryz.zeroValue2
  t3 := Tryz.underlying3
  a3 := Tryz.isAgg3
  z3 := Tryz.sizeOf3
  v3 := Tryz.zeroValue3
  t4 := Tryz.underlying4
  a4 := Tryz.isAgg4
  z4 := Tryz.sizeOf4
  v4 := Tryz.zeroValue4
  t5 := Tryz.underlying5
  a5 := Tryz.isAgg5
  z5 := Tryz.sizeOf5
  v5 := Tryz.zeroValue5
  t9 := Tryz.underlying9
  a9 := Tryz.isAgg9
  z9 := Tryz.sizeOf9
  v9 := Tryz.zeroValue9
  t20 := Tryz.underlying20
  a20 := Tryz.isAgg20
  z20 := Tryz.sizeOf20
  v20 := Tryz.zeroValue20
  t37 := Tryz.underlying22
  a37 := Tryz.isAgg22
  z37 := Tryz.sizeOf22
  v37 := Tryz.zeroValue22
  t46 := Tryz.underlying146
  a46 := Tryz.isAgg146
  z46 := Tryz.sizeOf146
  v46 := Tryz.zeroValue146
  t51 := Tryz.underlying185
  a51 := Tryz.isAgg185
  z51 := Tryz.sizeOf185
  v51 := Tryz.zeroValue185
  t53 := Tryz.underlying188
  a53 := Tryz.isAgg188
  z53 := Tryz.sizeOf188
  v53 := Tryz.zeroValue188
  t171 := Tryz.underlying191
  a171 := Tryz.isAgg191
  z171 := Tryz.sizeOf191
  v171 := Tryz.zeroValue191
  t173 := Tryz.underlying194
  a173 := Tryz.isAgg194
  z173 := Tryz.sizeOf194
  v173 := Tryz.zeroValue194
  t212 := Tryz.underlying215
  a212 := Tryz.isAgg215
  z212 := Tryz.sizeOf215
  v212 := Tryz.zeroValue215
  t213 := Tryz.underlying216
  a213 := Tryz.isAgg216
  z213 := Tryz.sizeOf216
  t232 := Tryz.underlying227
  a232 := Tryz.isAgg227
  z232 := Tryz.sizeOf227
  v232 := Tryz.zeroValue227
  t233 := Tryz.underlying228
  a233 := Tryz.isAgg228
  z233 := Tryz.sizeOf228
  v233 := Tryz.zeroValue228
  g17 := by kernel_rfl
  g18 := by kernel_rfl
  g19 := by kernel_rfl
  i0 := by kernel_rfl
  i2 := by kernel_rfl
  i3 := by kernel_rfl
  i4 := by kernel_rfl
  i5 := by kernel_rfl
  i9 := by kernel_rfl
  i20 := by kernel_rfl
  i37 := by kernel_rfl
  i46 := by kernel_rfl
  i51 := by kernel_rfl
  i53 := by kernel_rfl
  i171 := by kernel_rfl
  i173 := by kernel_rfl
  i212 := by kernel_rfl
  i232 := by kernel_rfl
  i233 := by kernel_rfl
  m17 := by kernel_rfl
  m18 := by kernel_rfl
  m19 := by kernel_rfl }
open Go.RowKit Go.Sort Go.Lib in
theorem Tryz.strconv_Itoa (n : Int) (h0 : -9223372036854775808 ≤ n) (h1 : n ≤ 9223372036854775807) (w : World) (htab : Lib.TabIs Tryz.prog w "internal/strconv.uint64pow10" .u64 Lib.pow10Tab) :
    Calls Tryz.prog 43 #[.int .i64 n] w fun e w' => e = .returned (.string ⟨(Lib.itoa n).toArray⟩) ∧ ∃ k os, w' = grow (w.drewN k) os := Any.strconv_Itoa Tryz.laysM171 n h0 h1 w htab
def Tryz.laysM316_ren : Go.Shelf.Ren := ⟨fun | 316 => 112 | n => n, fun | 9 => 9 | 3 => 3 | 4 => 4 | 37 => 22 | 0 => 0 | 127 => 180 | 5 => 5 | n => n, fun | n => n⟩
theorem Tryz.laysM316 : Go.Proofs.LaysM.n316 Tryz.prog Tryz.laysM316_ren := {
  mixed := by kernel_rfl
  f316 := Tryz.func112.trans (congrArg some (by kernel_rfl))
  t0 := Tryz.underlying0
  a0 := Tryz.isAgg0
  z0 := Tryz.sizeOf0
  v0 := Tryz.zeroValue0
  t3 := Tryz.underlying3
  a3 := Tryz.isAgg3
  z3 := Tryz.sizeOf3
  v3 := Tryz.zeroValue3
  t4 := Tryz.underlying4
  a4 := Tryz.isAgg4
  z4 := Tryz.sizeOf4
  v4 := Tryz.zeroValue4
  t9 := Tryz.underlying9
  a9 := Tryz.isAgg9
  z9 := Tryz.sizeOf9
  v9 := Tryz.zeroValue9
  t37 := Tryz.underlying22
  a37 := Tryz.isAgg22
  z37 := Tryz.sizeOf22
  v37 := Tryz.zeroValue22
  t127 := Tryz.underlying180
  a127 := Tryz.isAgg180
  z127 := Tryz.sizeOf180
  v127 := Tryz.zeroValue180
  t5 := Tryz.underlying5
  a5 := Tryz.isAgg5
  z5 := Tryz.sizeOf5
  v5 := Tryz.zeroValue5
  i0 := by kernel_rfl
  i3 := by kernel_rfl
  i4 := by kernel_rfl
  i5 := by kernel_rfl
  i9 := by kernel_rfl
  i37 := by kernel_rfl
  i127 := by kernel_rfl }
open Go.RowKit in
theorem Tryz.stringslite_Clone (s : ByteArray) (w : World) (hlim : s.size ≤ 281474976710656) :
    Calls Tryz.prog 112 #[.string s] w fun e w' => e = .returned (.string s) ∧ Below w.heap.size w w' := Any.stringslite_Clone Tryz.laysM316 s w hlim
def Tryz.lays212_ren : Go.Shelf.Ren := ⟨fun | 212 => 121 | 263 => 148 | 264 => 149 | n => n, fun | 46 => 146 | 51 => 185 | 146 => 186 | 53 => 188 | 148 => 189 | n => n, fun | n => n⟩
theorem Tryz.lays212 : Go.Proofs.Lays.n212 Tryz.prog Tryz.lays212_ren := {
  mixed := by kernel_rfl
  f212 := Tryz.func121.trans (congrArg some (by kernel_rfl))
  f263 := Tryz.func148.trans (congrArg some (by kernel_rfl))
  f264 := Tryz.func149.trans (congrArg some (by kernel_rfl))
  t46 := Tryz.underlying146
  a46 := Tryz.isAgg146
  z46 := Tryz.sizeOf146
  v46 := Tryz.zeroValue146
  t51 := Tryz.underlying185
  a51 := Tryz.isAgg185
  z51 := Tryz.sizeOf185
  v51 := Tryz.zeroValue185
  t53 := Tryz.underlying188
  a53 := Tryz.isAgg188
  z53 := Tryz.sizeOf188
  v53 := Tryz.zeroValue188
  t146 := Tryz.underlying186
  a146 := Tryz.isAgg186
  z146 := Tryz.sizeOf186
  v146 := Tryz.zeroValue186
  t148 := Tryz.underlying189
  a148 := Tryz.isAgg189
  z148 := Tryz.sizeOf189
  v148 := Tryz.zeroValue189 }
open Go.RowKit Go.Lib in
theorem Tryz.bits_Mul (x y : Nat) (hx : x < 18446744073709551616) (hy : y < 18446744073709551616) (w : World) :
    Calls Tryz.prog 121 #[.int .u64 x, .int .u64 y] w fun e w' => e = .returned (.tuple #[.int .u64 ((x * y / 18446744073709551616 : Nat) : Int), .int .u64 ((x * y % 18446744073709551616 : Nat) : Int)]) ∧ w' = w := Any.bits_Mul Tryz.lays212 x y hx hy w
def Tryz.lays105_ren : Go.Shelf.Ren := ⟨fun | 105 => 86 | 212 => 121 | 99 => 122 | 165 => 123 | 166 => 124 | 170 => 125 | 169 => 126 | 263 => 148 | 264 => 149 | 206 => 150 | 240 => 151 | 241 => 152 | 276 => 170 | 277 => 169 | n => n, fun | 9 => 9 | 3 => 3 | 4 => 4 | 20 => 20 | 0 => 0 | 46 => 146 | 109 => 147 | 5 => 5 | 72 => 152 | 76 => 154 | 51 => 185 | 146 => 186 | 53 => 188 | 148 => 189 | 70 => 150 | 37 => 22 | 75 => 124 | 127 => 180 | 164 => 163 | 80 => 157 | n => n, fun | n => n⟩
theorem Tryz.lays105 : Go.Proofs.Lays.n105 Tryz.prog Tryz.lays105_ren := {
  mixed := by kernel_rfl
  f99 := Tryz.func122.trans (congrArg some (by kernel_rfl))
  f105 := Tryz.func86.trans (congrArg some (by kernel_rfl))
  f165 := Tryz.func123.trans (congrArg some (by kernel_rfl))
  f166 := Tryz.func124.trans (congrArg some (by kernel_rfl))
  f169 := Tryz.func126.trans (congrArg some (by kernel_rfl))
  f170 := Tryz.func125.trans (congrArg some (by kernel_rfl))
  f206 := Tryz.func150.trans (congrArg some (by kernel_rfl))
  f212 := Tryz.func121.trans (congrArg some (by kernel_rfl))
  f240 := Tryz.func151.trans (congrArg some (by kernel_rfl))
  f241 := Tryz.func152.trans (congrArg some (by kernel_rfl))
  f263 := Tryz.func148.trans (congrArg some (by kernel_rfl))
  f264 := Tryz.func149.trans (congrArg some (by kernel_rfl))
  f276 := Tryz.func170.trans (congrArg some (by kernel_rfl))
  f277 := Tryz.func169.trans (congrArg some (by kernel_rfl))
  t0 := Tryz.underlying0
  a0 := Tryz.isAgg0
  z0 := Tryz.sizeOf0
  v0 := Tryz.zeroValue0
  t3 := Tryz.underlying3
  a3 := Tryz.isAgg3
  z3 := Tryz.sizeOf3
  v3 := Tryz.zeroValue3
  t4 := Tryz.underlying4
  a4 := Tryz.isAgg4
  z4 := Tryz.sizeOf4
  v4 := Tryz.zeroValue4
  t5 := Tryz.underlying5
  a5 := Tryz.isAgg5
  z5 := Tryz.sizeOf5
  v5 := Tryz.zeroValue5
  t9 := Tryz.underlying9
  a9 := Tryz.isAgg9
  z9 := Tryz.sizeOf9
  v9 := Tryz.zeroValue9
  t20 := Tryz.underlying20
  a20 := Tryz.isAgg20
  z20 := Tryz.sizeOf20
  v20 := Tryz.zeroValue20
  t37 := Tryz.underlying22
  a37 := Tryz.isAgg22
  z37 := Tryz.sizeOf22
  v37 := Tryz.zeroValue22
  t46 := Tryz.underlying146
  a46 := Tryz.isAgg146
  z46 := Tryz.sizeOf146
  v46 := Tryz.zeroValue146
  t51 := Tryz.underlying185
  a51 := Tryz.isAgg185
  z51 := Tryz.sizeOf185
  v51 := Tryz.zeroValue185
  t53 := Tryz.underlying188
  a53 := Tryz.isAgg188
  z53 := Tryz.sizeOf188
  v53 := Tryz.zeroValue188
  t70 := Tryz.underlying150
  a70 := Tryz.isAgg150
  z70 := Tryz.sizeOf150
  v70 := Tryz.zeroValue150
  t72 := Tryz.underlying152
  a72 := Tryz.isAgg152
  z72 := Tryz.sizeOf152
  v72 := Tryz.zeroValue152
  t75 := Tryz.underlying124
  a75 := Tryz.isAgg124
  z75 := Tryz.sizeOf124
  v75 := Tryz.zeroValue124
  t76 := Tryz.underlying154
  a76 := Tryz.isAgg154
  z76 := Tryz.sizeOf154
  v76 := Tryz.zeroValue154
  t109 := Tryz.underlying147
  a109 := Tryz.isAgg147
  z109 := Tryz.sizeOf147
  v109 := Tryz.zeroValue147
  t127 := Tryz.underlying180
  a127 := Tryz.isAgg180
  z127 := Tryz.sizeOf180
  v127 := Tryz.zeroValue180
  t146 := Tryz.underlying186
  a146 := Tryz.isAgg186
  z146 := Tryz.sizeOf186
  v146 := Tryz.zeroValue186
  t148 := Tryz.underlying189
  a148 := Tryz.isAgg189
  z148 := Tryz.sizeOf189
  v148 := Tryz.zeroValue189
  t164 := Tryz.underlying163
  a164 := Tryz.isAgg163
  z164 := Tryz.sizeOf163
  v164 := Tryz.zeroValue163 }
theorem Tryz.Builder_Extra_105 : Builder.Extra Tryz.prog Tryz.lays105_ren := {
  sizeBuilder := by kernel_rfl
  liesBuilder := by kernel_rfl
  t5 := Tryz.underlying5
  a5 := Tryz.isAgg5
  z5 := Tryz.sizeOf5
  v5 := Tryz.zeroValue5
  infoByte := by kernel_rfl
  cellsByte := by kernel_rfl
  sizeByte := by kernel_rfl
  neB5 := by decide }
open Go.RowKit Go.Lib in
theorem Tryz.strings_Repeat (s : ByteArray) (c : Nat) (w : World) (hc : c ≤ 9223372036854775807) (hlen : s.size * c ≤ 140737488355328) :
    Calls Tryz.prog 86 #[.string s, .int .i64 c] w fun e w' => e = .returned (.string ⟨(Lib.repeatL s.data.toList c).toArray⟩) ∧ Below w.heap.size w w' := Any.strings_Repeat Tryz.lays105 Tryz.Builder_Extra_105 s c w hc hlen
end Go.Proofs

/- The contracts of PadNum, the program's and the specification's. -/
namespace Go.Proofs.YtbncdhfmhokgeaaGreatDoor
open Go.RowKit

theorem repeat_one (n : Nat) : Lib.repeatL [48] n = List.replicate n 48 := by
  induction n with
  | zero => rfl
  | succ n ih => simp [Lib.repeatL, ih, List.replicate_succ]

def Pow10 (w : World) : Prop := Lib.TabIs Tryz.prog w "internal/strconv.uint64pow10" .u64 Lib.pow10Tab
theorem Pow10.below {w w' : World} (h : Pow10 w) (hb : Below w.heap.size w w') : Pow10 w' := Lib.tabBelow_of_tabIs h w' hb

set_option maxRecDepth 100000 in
set_option maxHeartbeats 400000 in
theorem l01Ten_any (n : Nat) (w : World) (hn : n ≤ 18) :
    Calls Tryz.prog 93 #[.int .i64 n] w fun e w' => e = .returned (.int .i64 (10 ^ n : Nat)) ∧ w' = w := by
  go_enter Tryz.func93, Tryz.ntmps93
  go_wp2
  go_loop [3, 4] (fun p i => ∃ k : Nat, k ≤ n ∧ i = .int .i64 k ∧ p = .int .i64 (10 ^ k : Nat)) (fun _ i => n - (intOf i).toNat)
  case atStart => exact ⟨0, Nat.zero_le _, rfl, rfl⟩
  case round =>
    obtain ⟨k, hk, rfl, rfl⟩ := hrel
    by_cases hlt : k < n
    · have hki : (k : Int) < (n : Int) := by omega
      have hp : 10 ^ k ≤ 10 ^ 17 := Nat.pow_le_pow_right (by omega) (by omega)
      have hs : 10 ^ (k + 1) = 10 ^ k * 10 := Nat.pow_succ 10 k
      obtain ⟨x, hx⟩ : ∃ x : Nat, 10 ^ k = x := ⟨_, rfl⟩
      rw [hx] at hp hs ⊢
      have HS : Hid (((10 ^ (k + 1) : Nat) : Int) = 10 * (x : Int)) := by rw [Hid, hs]; omega
      have hxb : x ≤ 100000000000000000 := by omega
      clear hs hx hp
      go_wp2
      go_round
      case rel => exact ⟨k + 1, by omega, by go_num, by rw [HS.out]⟩
      case measure => simp [intOf]; omega
    · have hke : k = n := by omega
      subst hke
      obtain ⟨x, hx⟩ : ∃ x : Nat, 10 ^ k = x := ⟨_, rfl⟩
      rw [hx]
      have HX : Hid _ := hx
      clear hx
      go_wp2
      go_ret
      exact ⟨one_int (by rw [← HX.out]; simp), rfl⟩

set_option maxRecDepth 100000 in
set_option maxHeartbeats 800000 in
theorem iPadNum_any (x n : Int) (w : World) (ht : Pow10 w) :
    Calls Tryz.prog 36 #[.int .i64 x, .int .i64 n] w fun e w' => e = .returned (.string ⟨(padT x n).toArray⟩) ∧ Below w.heap.size w w' := by
  have HT : Hid (Pow10 w) := ht
  clear ht
  by_cases h1 : n < 1
  · have HN : Hid _ := padT_no (padOk_no1 (x := x) (n := n) (by omega))
    go_enter Tryz.func36, Tryz.ntmps36
    go_wp2
    go_ret
    exact ⟨one_str (by rw [HN.out]), Below.refl _ _⟩
  · by_cases h2 : 18 < n
    · have HN : Hid _ := padT_no (padOk_no1 (x := x) (n := n) (by omega))
      go_enter Tryz.func36, Tryz.ntmps36
      go_wp2
      go_ret
      exact ⟨one_str (by rw [HN.out]), Below.refl _ _⟩
    · by_cases h3 : x < 0
      · have HN : Hid _ := padT_no (padOk_no2 (x := x) (n := n) (by omega))
        have h1' : 1 ≤ n := by omega
        have h2' : n ≤ 18 := by omega
        go_enter Tryz.func36, Tryz.ntmps36
        go_wp2
        go_ret
        exact ⟨one_str (by rw [HN.out]), Below.refl _ _⟩
      · obtain ⟨a, rfl⟩ := Int.eq_ofNat_of_zero_le (show 0 ≤ x by omega)
        obtain ⟨m, rfl⟩ := Int.eq_ofNat_of_zero_le (show 0 ≤ n by omega)
        have hm1 : (1 : Int) ≤ (m : Int) := by omega
        have hm2 : (m : Int) ≤ 18 := by omega
        have hp : 10 ^ m ≤ 10 ^ 18 := Nat.pow_le_pow_right (by omega) (by omega)
        clear h1 h2 h3
        by_cases h4 : 10 ^ m ≤ a
        · have HN : Hid _ := padT_no (padOk_no2 (x := a) (n := m) (by rw [Int.toNat_natCast]; omega))
          go_enter Tryz.func36, Tryz.ntmps36
          go_wp2_with fail
          refine (tenTo_any m _ (by omega)).mono ?_
          rintro e w1 ⟨rfl, hw1⟩
          subst hw1
          obtain ⟨y, hy⟩ : ∃ y : Nat, 10 ^ m = y := ⟨_, rfl⟩
          rw [hy] at h4 ⊢
          have h4i : (y : Int) ≤ (a : Int) := by omega
          clear hy hp
          go_wp2
          go_ret
          exact ⟨one_str (by rw [HN.out]), Below.refl _ _⟩
        · have HY : Hid (padT a m = padN a m) := padT_yes (by omega) (by omega) (by omega)
          have hsl := dec_len_pow m a (by omega) (by omega)
          have HI : Hid (Lib.itoa (a : Int) = Lib.decDigits a) := by rw [Hid, Lib.itoa, if_neg (by omega)]; rfl
          unfold padN at HY
          obtain ⟨s, hs⟩ : ∃ s, Lib.decDigits a = s := ⟨_, rfl⟩
          rw [hs] at HY hsl HI
          have hab : a ≤ 1000000000000000000 := by omega
          obtain ⟨y, hy⟩ : ∃ y : Nat, 10 ^ m = y := ⟨_, rfl⟩
          rw [hy] at h4
          have h4i : (a : Int) < (y : Int) := by omega
          have HYM : Hid _ := hy
          clear hs hp hy
          go_enter Tryz.func36, Tryz.ntmps36
          go_wp2_with fail
          refine (tenTo_any m _ (by omega)).mono ?_
          rintro e w1 ⟨rfl, hw1⟩
          subst hw1
          rw [HYM.out]
          go_wp2_with fail
          refine (Tryz.strconv_Itoa _ (by omega) (by omega) _ HT.out).mono ?_
          rintro e w2 ⟨rfl, k, os, rfl⟩
          rw [HI.out]
          have hr : (List.replicate (m - s.length) (48 : UInt8)).length = m - s.length := by simp
          go_wp2_with fail
          rw [show ((m : Int) - (s.length : Int)) = ((m - s.length : Nat) : Int) from by omega]
          refine (Tryz.strings_Repeat ⟨#[48]⟩ (m - s.length) _ (by omega) (by simp [ByteArray.size]; omega)).mono ?_
          rintro e w3 ⟨rfl, b3⟩
          rw [show Lib.repeatL (⟨#[48]⟩ : ByteArray).data.toList (m - s.length) = List.replicate (m - s.length) 48 from repeat_one _]
          generalize List.replicate (m - s.length) (48 : UInt8) = r at hr HY
          go_wp2
          go_ret
          refine ⟨one_str ?_, next (Lib.below_grow _ _ (Nat.le_refl _) _ _) b3⟩
          rw [HY.out, ba_append r s]

def strLen : Value → Nat
  | .string b => b.size
  | _ => 0
theorem strLen_list (l : List UInt8) : strLen (.string ⟨l.toArray⟩) = l.length := by simp [strLen, ByteArray.size]

set_option maxRecDepth 100000 in
set_option maxHeartbeats 800000 in
theorem sPadNum_any (x n : Int) (w : World) :
    Calls Tryz.prog 42 #[.int .i64 x, .int .i64 n] w fun e w' => e = .returned (.string ⟨(padT x n).toArray⟩) ∧ Below w.heap.size w w' := by
  cases h1 : inB n 1 18
  · have h1o : ¬ (1 ≤ n ∧ n ≤ 18) := of_decide_eq_false h1
    have HN : Hid _ := padT_no (padOk_no1 (x := x) h1o)
    go_enter Tryz.func42, Tryz.ntmps42
    go_wp2_with fail
    refine (in_any _ _ _ _).mono ?_
    rintro e w1 ⟨rfl, hw1⟩
    subst hw1
    rw [h1]
    go_wp2
    go_ret
    exact ⟨one_str (by rw [HN.out]), Below.refl _ _⟩
  · have h1i : 1 ≤ n ∧ n ≤ 18 := of_decide_eq_true h1
    have HI : Hid _ := h1
    obtain ⟨m, rfl⟩ := Int.eq_ofNat_of_zero_le (show 0 ≤ n by omega)
    have hp : 10 ^ m ≤ 10 ^ 18 := Nat.pow_le_pow_right (by omega) (by omega)
    have hp0 : 0 < 10 ^ m := Nat.pow_pos (by omega)
    have hm18 : m ≤ 18 := by omega
    have HM1 : Hid (1 ≤ m) := by rw [Hid]; omega
    clear h1
    obtain ⟨y, hy⟩ : ∃ y : Nat, 10 ^ m = y := ⟨_, rfl⟩
    rw [hy] at hp hp0
    have hyb : y ≤ 1000000000000000000 := by omega
    have HYM : Hid _ := hy
    clear hy hp
    cases h2 : inB x 0 ((y : Int) - 1)
    · have h2o : ¬ (0 ≤ x ∧ x ≤ (y : Int) - 1) := of_decide_eq_false h2
      have HN : Hid _ := padT_no (padOk_no2 (x := x) (n := m) (by rw [Int.toNat_natCast, HYM.out]; omega))
      go_enter Tryz.func42, Tryz.ntmps42
      go_wp2_with fail
      refine (in_any _ _ _ _).mono ?_
      rintro e w1 ⟨rfl, hw1⟩
      subst hw1
      rw [HI.out]
      go_wp2_with fail
      refine (l01Ten_any m _ hm18).mono ?_
      rintro e w1 ⟨rfl, hw1⟩
      subst hw1
      rw [HYM.out]
      go_wp2_with fail
      refine (in_any _ _ _ _).mono ?_
      rintro e w1 ⟨rfl, hw1⟩
      subst hw1
      rw [h2]
      go_wp2
      go_ret
      exact ⟨one_str (by rw [HN.out]), Below.refl _ _⟩
    · have h2i : 0 ≤ x ∧ x ≤ (y : Int) - 1 := of_decide_eq_true h2
      obtain ⟨a, rfl⟩ := Int.eq_ofNat_of_zero_le h2i.1
      have H2 : Hid _ := h2
      have hay : a < y := by omega
      have HY : Hid (padT a m = padN a m) := padT_yes HM1.out hm18 (by rw [HYM.out]; exact hay)
      have hsl := dec_len_pow m a HM1.out (by rw [HYM.out]; exact hay)
      unfold padN at HY
      clear h2
      go_enter Tryz.func42, Tryz.ntmps42
      go_wp2_with fail
      refine (in_any _ _ _ _).mono ?_
      rintro e w1 ⟨rfl, hw1⟩
      subst hw1
      rw [HI.out]
      go_wp2_with fail
      refine (l01Ten_any m _ hm18).mono ?_
      rintro e w1 ⟨rfl, hw1⟩
      subst hw1
      rw [HYM.out]
      go_wp2_with fail
      refine (in_any _ _ _ _).mono ?_
      rintro e w1 ⟨rfl, hw1⟩
      subst hw1
      rw [H2.out]
      clear H2 HI
      go_wp2_with fail
      refine (dec_up a _ (by omega)).mono ?_
      rintro e w1 ⟨rfl, hw1⟩
      subst hw1
      generalize Lib.decDigits a = s at hsl HY
      go_wp2
      go_loop [5] (fun v => ∃ k : Nat, k ≤ m - s.length ∧ v = .string ⟨(List.replicate k 48 ++ s).toArray⟩) (fun v => m - strLen v)
      case atStart => exact ⟨0, Nat.zero_le _, rfl⟩
      case round =>
        obtain ⟨k, hk, rfl⟩ := hrel
        have hsz : (List.replicate k (48 : UInt8) ++ s).length = k + s.length := by simp
        have HS2 : Hid ((⟨#[48]⟩ : ByteArray) ++ ⟨(List.replicate k 48 ++ s).toArray⟩ = ⟨(List.replicate (k + 1) 48 ++ s).toArray⟩) := ba_append [48] (List.replicate k 48 ++ s)
        have HS3 : Hid (strLen (.string ((⟨#[48]⟩ : ByteArray) ++ ⟨(List.replicate k 48 ++ s).toArray⟩)) = k + 1 + s.length) := by rw [Hid, HS2.out, strLen_list]; simp
        have HS4 : Hid (strLen (.string ⟨(List.replicate k 48 ++ s).toArray⟩) = k + s.length) := by rw [Hid, strLen_list, hsz]
        have HK : Hid (k = m - s.length → padT a m = List.replicate k 48 ++ s) := fun e => by rw [e]; exact HY.out
        generalize List.replicate k (48 : UInt8) ++ s = p at hsz HS2 HS3 HS4 HK
        have hpl : p.length ≤ 25 := by omega
        by_cases hlt : p.length < m
        · have hlt' : (p.length : Int) < (m : Int) := by omega
          have hkd : k + 1 ≤ m - s.length := by omega
          have hme : m - (k + 1 + s.length) < m - (k + s.length) := by omega
          clear hsz
          go_wp2
          go_round
          case rel => exact ⟨k + 1, hkd, by rw [HS2.out]⟩
          case measure => rw [HS3.out, HS4.out]; exact hme
        · have hlt' : (m : Int) ≤ (p.length : Int) := by omega
          have HP : Hid _ := HK.out (by omega)
          clear hsz HK HS2 HS3 HS4 hk
          go_wp2
          go_ret
          exact ⟨one_str (by rw [HP.out]), Below.refl _ _⟩

end Go.Proofs.YtbncdhfmhokgeaaGreatDoor

/- Messages, plainly: what form a field's data has, when a field is so, when a list of fields is. No Go in sight. -/
namespace Go.Proofs.YtbncdhfmhokgeaaGreatDoor

abbrev Fld := Int × List UInt8
def knowns : List Int := [2, 3, 4, 12, 24, 25, 31, 37, 38, 42, 48, 49, 71, 72, 93]
/-- how a field is written (0 for one that is not known), and its length or its most -/
def fK (n : Int) : Int :=
  if n = 3 ∨ n = 4 ∨ n = 12 ∨ n = 24 ∨ n = 49 ∨ n = 25 ∨ n = 71 then 1 else if n = 2 ∨ n = 93 then 2
  else if n = 37 ∨ n = 38 ∨ n = 42 then 3 else if n = 31 then 4 else if n = 48 ∨ n = 72 then 5 else 0
def fS (n : Int) : Int :=
  if n = 3 ∨ n = 38 then 6 else if n = 4 ∨ n = 12 ∨ n = 37 then 12 else if n = 24 ∨ n = 49 then 3 else if n = 25 then 4 else if n = 71 then 8
  else if n = 2 then 19 else if n = 93 then 11 else if n = 42 then 15 else if n = 31 then 23 else if n = 48 ∨ n = 72 then 999 else 0
def fieldKS (k s : Int) (d : List UInt8) : Bool :=
  if k = 1 then decide ((d.length : Int) = s) && within 48 57 d
  else if k = 2 then decide ((d.length : Int) ≤ s) && within 48 57 d
  else if k = 3 then decide ((d.length : Int) = s) && within 32 126 d
  else if k = 4 ∨ k = 5 then decide ((d.length : Int) ≤ s) && within 32 126 d
  else false
def fieldOk (n : Int) (d : List UInt8) : Bool := fieldKS (fK n) (fS n) d

theorem not_known {n : Int} (h : n ∉ knowns) : n ≠ 2 ∧ n ≠ 3 ∧ n ≠ 4 ∧ n ≠ 12 ∧ n ≠ 24 ∧ n ≠ 25 ∧ n ≠ 31 ∧ n ≠ 37 ∧ n ≠ 38 ∧ n ≠ 42 ∧ n ≠ 48 ∧ n ≠ 49 ∧ n ≠ 71 ∧ n ≠ 72 ∧ n ≠ 93 := by
  simpa [knowns] using h
theorem fK_no {n : Int} (h : n ∉ knowns) : fK n = 0 := by
  obtain ⟨h1, h2, h3, h4, h5, h6, h7, h8, h9, h10, h11, h12, h13, h14, h15⟩ := not_known h
  unfold fK; simp [*]
theorem fS_no {n : Int} (h : n ∉ knowns) : fS n = 0 := by
  obtain ⟨h1, h2, h3, h4, h5, h6, h7, h8, h9, h10, h11, h12, h13, h14, h15⟩ := not_known h
  unfold fS; simp [*]
theorem known_in {n : Int} (h : n ∈ knowns) : n = 2 ∨ n = 3 ∨ n = 4 ∨ n = 12 ∨ n = 24 ∨ n = 25 ∨ n = 31 ∨ n = 37 ∨ n = 38 ∨ n = 42 ∨ n = 48 ∨ n = 49 ∨ n = 71 ∨ n = 72 ∨ n = 93 := by
  simpa [knowns] using h
theorem known_K {n : Int} (h : n ∈ knowns) : (fK n = 1 ∨ fK n = 2 ∨ fK n = 3 ∨ fK n = 4 ∨ fK n = 5) ∧ 0 ≤ fS n ∧ fS n ≤ 999 ∧ 2 ≤ n ∧ n ≤ 93 ∧ (fK n = 1 → fS n ≤ 12) ∧ (fK n = 2 → fS n ≤ 19) ∧ (fK n = 3 → fS n ≤ 15) ∧ (fK n = 4 → fS n = 23) ∧ (fK n = 5 → fS n = 999) := by
  rcases known_in h with rfl | rfl | rfl | rfl | rfl | rfl | rfl | rfl | rfl | rfl | rfl | rfl | rfl | rfl | rfl <;> decide
theorem ok_known {n : Int} {d : List UInt8} (h : fieldOk n d = true) : n ∈ knowns := by
  by_cases hn : n ∈ knowns
  · exact hn
  · simp [fieldOk, fieldKS, fK_no hn] at h
theorem fieldOk_no {n : Int} {d : List UInt8} (h : n ∉ knowns) : fieldOk n d = false := by simp [fieldOk, fieldKS, fK_no h]

/-- from p on: each field so, and its number behind the one ahead of it -/
def okF (p : Int) : List Fld → Bool
  | [] => true
  | f :: r => (fieldOk f.1 f.2 && decide (p < f.1)) && okF f.1 r
def at0 (fs : List Fld) (k : Nat) : Fld := fs.getD k (0, [])
theorem okF_step (fs : List Fld) (k : Nat) (p : Int) (h : k < fs.length) : okF p (fs.drop k) = ((fieldOk (at0 fs k).1 (at0 fs k).2 && decide (p < (at0 fs k).1)) && okF (at0 fs k).1 (fs.drop (k + 1))) := by
  have e : at0 fs k = fs[k] := by simp [at0, List.getD_eq_getElem?_getD, h]
  rw [List.drop_eq_getElem_cons h, e]; rfl
def prevF (fs : List Fld) (k : Nat) : Int := if k = 0 then 1 else (at0 fs (k - 1)).1
def msgOk (kd : Int) (fs : List Fld) : Bool := decide (0 ≤ kd ∧ kd ≤ 9999) && okF 1 fs
theorem okF_end (p : Int) (fs : List Fld) : okF p (fs.drop fs.length) = true := by rw [List.drop_of_length_le (Nat.le_refl _)]; rfl
theorem okF_mem {fs : List Fld} : ∀ {p : Int}, okF p fs = true → ∀ f ∈ fs, fieldOk f.1 f.2 = true ∧ p < f.1 := by
  induction fs with
  | nil => intro p _ f hf; cases hf
  | cons g r ih =>
    intro p h f hf
    simp only [okF, Bool.and_eq_true, decide_eq_true_eq] at h
    rcases List.mem_cons.1 hf with rfl | hr
    · exact h.1
    · have := ih h.2 f hr
      exact ⟨this.1, by omega⟩
theorem okF_len {fs : List Fld} : ∀ {p : Int}, okF p fs = true → 1 ≤ p → fs = [] ∨ (fs.length : Int) + p ≤ 93 := by
  induction fs with
  | nil => intro p _ _; exact .inl rfl
  | cons g r ih =>
    intro p h hp
    simp only [okF, Bool.and_eq_true, decide_eq_true_eq] at h
    have hk := known_K (ok_known h.1.1)
    rcases ih h.2 (by omega) with rfl | h2
    · right; simp; omega
    · right; simp; omega

end Go.Proofs.YtbncdhfmhokgeaaGreatDoor

/- The contracts of NumOf, the program's and the specification's. -/
namespace Go.Proofs.YtbncdhfmhokgeaaGreatDoor
open Go.RowKit

set_option maxHeartbeats 400000 in
theorem iNumOf_any (l : List UInt8) (w : World) (hl : l.length ≤ 1099511627776) :
    Calls Tryz.prog 23 #[.string ⟨l.toArray⟩] w fun e w' => e = .returned (.int .i64 (numOf l)) ∧ w' = w := by
  by_cases hbig : 18 < l.length
  · have HN : Hid _ := numOf_no1 hbig
    have hbi : (18 : Int) < (l.length : Int) := by omega
    go_enter Tryz.func23, Tryz.ntmps23
    go_wp2
    go_ret
    exact ⟨one_int HN.out.symm, rfl⟩
  · have hbi : (l.length : Int) ≤ 18 := by omega
    have hl18 : l.length ≤ 18 := by omega
    cases hd : within 48 57 l
    · have HN : Hid _ := numOf_no2 hd
      go_enter Tryz.func23, Tryz.ntmps23
      go_wp2_with fail
      refine (iDigits_any _ _ hl).mono ?_
      rintro e w1 ⟨rfl, hw⟩
      subst hw
      rw [hd]
      go_wp2
      go_ret
      exact ⟨one_int HN.out.symm, rfl⟩
    · have HY : Hid _ := numOf_yes hl18 hd
      have HB : Hid _ := val_bound l hd
      have HD : Hid (within 48 57 l = true) := hd
      go_enter Tryz.func23, Tryz.ntmps23
      go_wp2_with fail
      refine (iDigits_any _ _ hl).mono ?_
      rintro e w1 ⟨rfl, hw⟩
      subst hw
      rw [hd]
      clear hd
      go_wp2
      go_loop [3, 4, 15] (fun v _ i => ∃ k : Nat, k ≤ l.length ∧ i = .int .i64 k ∧ v = .int .i64 (val 0 (l.take k))) (fun _ _ i => l.length - (intOf i).toNat)
      case atStart => exact ⟨0, Nat.zero_le _, rfl, rfl⟩
      case round =>
        obtain ⟨k, hk, rfl, rfl⟩ := hrel
        have hb := HB.out k hk
        have hp : 10 ^ k ≤ 10 ^ 18 := Nat.pow_le_pow_right (by omega) (by omega)
        by_cases hlt : k < l.length
        · have hki : (k : Int) < (l.length : Int) := by omega
          have hp1 : 10 ^ k ≤ 10 ^ 17 := Nat.pow_le_pow_right (by omega) (by omega)
          have hw := within_at HD.out hlt
          have hv := val_take l k hlt
          obtain ⟨c, hc⟩ : ∃ c, (⟨l.toArray⟩ : ByteArray)[k]'(by rw [ba_size]; exact hlt) = c := ⟨_, rfl⟩
          rw [(byte_at l k hlt).trans hc] at hw hv
          obtain ⟨x, hx⟩ : ∃ x, val 0 (l.take k) = x := ⟨_, rfl⟩
          rw [hx] at hb hv ⊢
          have hxb : x ≤ 100000000000000000 := by omega
          have hsi : ((val 0 (l.take (k + 1)) : Nat) : Int) = (x : Int) * 10 + ((c.toNat : Int) - 48) := by omega
          have HV : Hid _ := hsi
          clear hsi hv hx hb hp hp1
          go_wp2
          go_round
          case rel => exact ⟨k + 1, by omega, by go_num, by rw [HV.out]⟩
          case measure => simp [intOf]; omega
        · have hke : k = l.length := by omega
          subst hke
          rw [List.take_of_length_le (Nat.le_refl _)]
          clear hb hp
          go_wp2
          go_ret
          exact ⟨one_int HY.out.symm, rfl⟩

set_option maxHeartbeats 400000 in
theorem sNumOf_any (l : List UInt8) (w : World) (hl : l.length ≤ 1099511627776) :
    Calls Tryz.prog 52 #[.string ⟨l.toArray⟩] w fun e w' => e = .returned (.int .i64 (numOf l)) ∧ w' = w := by
  by_cases hbig : 18 < l.length
  · have HN : Hid _ := numOf_no1 hbig
    have hbi : (18 : Int) < (l.length : Int) := by omega
    go_enter Tryz.func52, Tryz.ntmps52
    go_wp2
    go_ret
    exact ⟨one_int HN.out.symm, rfl⟩
  · have hbi : (l.length : Int) ≤ 18 := by omega
    have hl18 : l.length ≤ 18 := by omega
    cases hd : within 48 57 l
    · have HN : Hid _ := numOf_no2 hd
      go_enter Tryz.func52, Tryz.ntmps52
      go_wp2_with fail
      refine (sDigits_any _ _ hl).mono ?_
      rintro e w1 ⟨rfl, hw⟩
      subst hw
      rw [hd]
      go_wp2
      go_ret
      exact ⟨one_int HN.out.symm, rfl⟩
    · have HY : Hid _ := numOf_yes hl18 hd
      have HB : Hid _ := val_bound l hd
      have HD : Hid (within 48 57 l = true) := hd
      go_enter Tryz.func52, Tryz.ntmps52
      go_wp2_with fail
      refine (sDigits_any _ _ hl).mono ?_
      rintro e w1 ⟨rfl, hw⟩
      subst hw
      rw [hd]
      clear hd
      go_wp2
      go_loop [3, 4] (fun v i => ∃ k : Nat, k ≤ l.length ∧ i = .int .i64 k ∧ v = .int .i64 (val 0 (l.take k))) (fun _ i => l.length - (intOf i).toNat)
      case atStart => exact ⟨0, Nat.zero_le _, rfl, rfl⟩
      case round =>
        obtain ⟨k, hk, rfl, rfl⟩ := hrel
        have hb := HB.out k hk
        have hp : 10 ^ k ≤ 10 ^ 18 := Nat.pow_le_pow_right (by omega) (by omega)
        by_cases hlt : k < l.length
        · have hki : (k : Int) < (l.length : Int) := by omega
          have hp1 : 10 ^ k ≤ 10 ^ 17 := Nat.pow_le_pow_right (by omega) (by omega)
          have hw := within_at HD.out hlt
          have hv := val_take l k hlt
          obtain ⟨c, hc⟩ : ∃ c, (⟨l.toArray⟩ : ByteArray)[k]'(by rw [ba_size]; exact hlt) = c := ⟨_, rfl⟩
          rw [(byte_at l k hlt).trans hc] at hw hv
          obtain ⟨x, hx⟩ : ∃ x, val 0 (l.take k) = x := ⟨_, rfl⟩
          rw [hx] at hb hv ⊢
          have hxb : x ≤ 100000000000000000 := by omega
          have hsi : ((val 0 (l.take (k + 1)) : Nat) : Int) = 10 * (x : Int) + (c.toNat : Int) - 48 := by omega
          have HV : Hid _ := hsi
          clear hsi hv hx hb hp hp1
          go_wp2
          go_round
          case rel => exact ⟨k + 1, by omega, by go_num, by rw [HV.out]⟩
          case measure => simp [intOf]; omega
        · have hke : k = l.length := by omega
          subst hke
          rw [List.take_of_length_le (Nat.le_refl _)]
          clear hb hp
          go_wp2
          go_ret
          exact ⟨one_int HY.out.symm, rfl⟩

end Go.Proofs.YtbncdhfmhokgeaaGreatDoor

/- The contract of hasBytes: whether so many bytes stand in a text from a place on. -/
namespace Go.Proofs.YtbncdhfmhokgeaaGreatDoor
open Go.RowKit

theorem str_two {a b : ByteArray} {x y : Int} (h : a = b) (g : x = y) : Ending.returned (.tuple #[.string a, .int .i64 x]) = .returned (.tuple #[.string b, .int .i64 y]) := by rw [h, g]
theorem piece_eq (l : List UInt8) (a b : Nat) : (⟨l.toArray⟩ : ByteArray).extract a (a + b) = ⟨((l.drop a).take b).toArray⟩ := by
  rw [ba_extract, Nat.add_sub_cancel_left]

def hasB (n : Nat) (i size : Int) : Bool := decide (0 ≤ i ∧ i ≤ n ∧ size ≤ n - i)
theorem hasB_pos {n : Nat} {i size : Int} (h0 : 0 ≤ i) (h1 : i ≤ n) (h2 : size ≤ n - i) : hasB n i size = true := decide_eq_true ⟨h0, h1, h2⟩
theorem hasB_neg {n : Nat} {i size : Int} (h : i < 0 ∨ n < i ∨ n - i < size) : hasB n i size = false := decide_eq_false (by omega)
theorem hasB_in {n : Nat} {i size : Int} (h : hasB n i size = true) : 0 ≤ i ∧ i ≤ n ∧ size ≤ n - i := of_decide_eq_true h
theorem hasB_out {n : Nat} {i size : Int} (h : hasB n i size = false) : ¬ (0 ≤ i ∧ i ≤ n ∧ size ≤ n - i) := of_decide_eq_false h

set_option maxHeartbeats 400000 in
theorem hasBytes_any (l : List UInt8) (i size : Int) (w : World) (hl : l.length ≤ 1099511627776) :
    Calls Tryz.prog 138 #[.string ⟨l.toArray⟩, .int .i64 i, .int .i64 size] w fun e w' => e = .returned (.bool (hasB l.length i size)) ∧ w' = w := by
  by_cases h0 : 0 ≤ i
  · by_cases h1 : i ≤ (l.length : Int)
    · by_cases h2 : size ≤ (l.length : Int) - i
      · have HB : Hid _ := hasB_pos h0 h1 h2
        go_enter Tryz.func138, Tryz.ntmps138
        go_wp2
        go_ret
        exact ⟨one_bool HB.out.symm, rfl⟩
      · have HB : Hid (hasB l.length i size = false) := hasB_neg (by omega)
        have h2' : (l.length : Int) - i < size := by omega
        go_enter Tryz.func138, Tryz.ntmps138
        go_wp2
        go_ret
        exact ⟨one_bool HB.out.symm, rfl⟩
    · have HB : Hid (hasB l.length i size = false) := hasB_neg (by omega)
      go_enter Tryz.func138, Tryz.ntmps138
      go_wp2
      go_ret
      exact ⟨one_bool HB.out.symm, rfl⟩
  · have HB : Hid (hasB l.length i size = false) := hasB_neg (by omega)
    go_enter Tryz.func138, Tryz.ntmps138
    go_wp2
    go_ret
    exact ⟨one_bool HB.out.symm, rfl⟩

end Go.Proofs.YtbncdhfmhokgeaaGreatDoor

/- The contract of the library's strings.Clone, at a text given as bytes. -/
namespace Go.Proofs.YtbncdhfmhokgeaaGreatDoor
open Go.RowKit

set_option maxHeartbeats 400000 in
theorem clone_any (l : List UInt8) (w : World) (hl : l.length ≤ 1099511627776) :
    Calls Tryz.prog 66 #[.string ⟨l.toArray⟩] w fun e w' => e = .returned (.string ⟨l.toArray⟩) ∧ Below w.heap.size w w' := by
  go_enter Tryz.func66, Tryz.ntmps66
  go_wp2_with fail
  refine (Tryz.stringslite_Clone ⟨l.toArray⟩ _ (by rw [ba_size]; omega)).mono ?_
  rintro e w1 ⟨rfl, b1⟩
  go_wp2
  go_ret
  exact ⟨rfl, b1⟩

end Go.Proofs.YtbncdhfmhokgeaaGreatDoor

/- Digits, two a byte: how they are put and how they come back, over plain lists. No Go in sight. -/
namespace Go.Proofs.YtbncdhfmhokgeaaGreatDoor
open Go.RowKit

theorem map_range_set {α : Type} (f g : Nat → α) (m j : Nat) (h : ∀ i, i ≠ j → f i = g i) : ((List.range m).map f).set j (g j) = (List.range m).map g := by
  apply List.ext_getElem?
  intro i
  rw [List.getElem?_set]
  by_cases e : j = i
  · subst e
    by_cases hm : j < m
    · simp [hm]
    · simp [hm]
  · simp only [e, if_false, List.getElem?_map]
    by_cases hm : i < m
    · simp [hm, h i (fun x => e x.symm)]
    · simp [hm]
theorem map_range_at {α : Type} (f : Nat → α) (m j : Nat) (h : j < m) : ((List.range m).map f)[j]? = some (f j) := by simp [h]
theorem getD_map_range (f : Nat → UInt8) (m j : Nat) (h : j < m) : ((List.range m).map f).getD j 0 = f j := by simp [List.getD_eq_getElem?_getD, h]

/-- the worth of the digit at place h, 0 behind the end -/
def dg (e : List UInt8) (h : Nat) : Nat := (e.getD h 0).toNat - 48
/-- byte j of the digits e -/
def pkB (e : List UInt8) (j : Nat) : UInt8 := UInt8.ofNat (dg e (2 * j) * 16 + dg e (2 * j + 1))
def pkL (e : List UInt8) (m : Nat) : List UInt8 := (List.range m).map (pkB e)
theorem pkL_succ (e : List UInt8) (m : Nat) : pkL e (m + 1) = pkL e m ++ [pkB e m] := by simp [pkL, List.range_succ]
theorem pkL_len (e : List UInt8) (m : Nat) : (pkL e m).length = m := by simp [pkL]
/-- a nought ahead where their number is odd -/
def padE (l : List UInt8) : List UInt8 := if l.length % 2 = 1 then 48 :: l else l
theorem padE_odd {l : List UInt8} (h : l.length % 2 = 1) : padE l = 48 :: l := if_pos h
theorem padE_even {l : List UInt8} (h : l.length % 2 = 0) : padE l = l := if_neg (by omega)
theorem padE_len (l : List UInt8) : (padE l).length = 2 * ((l.length + 1) / 2) := by
  by_cases h : l.length % 2 = 1
  · rw [padE_odd h, List.length_cons]; omega
  · rw [padE_even (by omega)]; omega
theorem padE_at (l : List UInt8) (k : Nat) : (padE l).getD (k + l.length % 2) 0 = l.getD k 0 := by
  by_cases h : l.length % 2 = 1
  · rw [padE_odd h, h]; simp [List.getD_eq_getElem?_getD]
  · rw [padE_even (by omega), show l.length % 2 = 0 from by omega]; rfl
theorem padE_dig {l : List UInt8} (h : within 48 57 l = true) : within 48 57 (padE l) = true := by
  by_cases e : l.length % 2 = 1
  · rw [padE_odd e]; refine within_of fun c hc => ?_
    rcases List.mem_cons.1 hc with rfl | hc
    · decide
    · exact within_mem h c hc
  · rw [padE_even (by omega)]; exact h
theorem dg_le {e : List UInt8} (h : within 48 57 e = true) (k : Nat) : dg e k ≤ 9 := by
  unfold dg
  by_cases hk : k < e.length
  · have := within_at h hk; omega
  · rw [List.getD_eq_getElem?_getD, List.getElem?_eq_none (by omega)]; decide

def putD (l : List UInt8) : Option (List UInt8) := if within 48 57 l = true ∧ l.length ≤ 100 then some (pkL (padE l) ((l.length + 1) / 2)) else none
theorem putD_no1 {l : List UInt8} (h : within 48 57 l = false) : putD l = none := if_neg (by rw [h]; simp)
theorem putD_no2 {l : List UInt8} (h : 100 < l.length) : putD l = none := if_neg (by omega)
theorem putD_yes {l : List UInt8} (h1 : within 48 57 l = true) (h2 : l.length ≤ 100) : putD l = some (pkL (padE l) ((l.length + 1) / 2)) := if_pos ⟨h1, h2⟩
theorem putD_len (l : List UInt8) : ((putD l).getD []).length ≤ 50 := by
  unfold putD
  split
  · rename_i h
    simp only [Option.getD_some, pkL_len]; omega
  · simp

/-- byte j when the digits ahead of place h are put -/
def cellK (e : List UInt8) (h j : Nat) : Nat := (if 2 * j < h then dg e (2 * j) else 0) * 16 + (if 2 * j + 1 < h then dg e (2 * j + 1) else 0)
theorem cellK_first {l : List UInt8} (j : Nat) : cellK (padE l) (l.length % 2) j = 0 := by
  unfold cellK
  by_cases h : l.length % 2 = 1
  · rw [padE_odd h, h]
    by_cases hj : j = 0
    · subst hj; rfl
    · rw [if_neg (by omega), if_neg (by omega)]
  · rw [show l.length % 2 = 0 from by omega, if_neg (by omega), if_neg (by omega)]
theorem cellK_other (e : List UInt8) (h j : Nat) (hj : j ≠ h / 2) : cellK e h j = cellK e (h + 1) j := by
  unfold cellK
  have a : (2 * j < h) ↔ (2 * j < h + 1) := by omega
  have b : (2 * j + 1 < h) ↔ (2 * j + 1 < h + 1) := by omega
  simp only [a, b]
theorem cellK_even (e : List UInt8) (h : Nat) (hh : h % 2 = 0) : cellK e h (h / 2) = 0 ∧ cellK e (h + 1) (h / 2) = dg e h * 16 := by
  unfold cellK
  rw [show 2 * (h / 2) = h from by omega, if_neg (by omega), if_neg (by omega), if_pos (by omega), if_neg (by omega)]
  omega
theorem cellK_odd (e : List UInt8) (h : Nat) (hh : h % 2 = 1) : cellK e h (h / 2) = dg e (h - 1) * 16 ∧ cellK e (h + 1) (h / 2) = dg e (h - 1) * 16 + dg e h := by
  unfold cellK
  rw [show 2 * (h / 2) = h - 1 from by omega, if_pos (by omega), if_neg (by omega), if_pos (by omega), if_pos (by omega), show h - 1 + 1 = h from by omega]
  omega
theorem cellK_all (e : List UInt8) (m j : Nat) (hj : j < m) : cellK e (2 * m) j = dg e (2 * j) * 16 + dg e (2 * j + 1) := by
  unfold cellK
  rw [if_pos (by omega), if_pos (by omega)]

/-- half h of the bytes b: the upper one of a byte is the even one -/
def nib (b : List UInt8) (h : Nat) : Nat := if h % 2 = 0 then (b.getD (h / 2) 0).toNat / 16 else (b.getD (h / 2) 0).toNat % 16
theorem nib_lt (b : List UInt8) (h : Nat) : nib b h < 16 := by
  unfold nib
  have := (b.getD (h / 2) 0).toNat_lt
  split <;> omega
def unB (b : List UInt8) (h : Nat) : UInt8 := UInt8.ofNat (48 + nib b h)
theorem unB_nat (b : List UInt8) (h : Nat) : (unB b h).toNat = 48 + nib b h := by
  have := nib_lt b h
  unfold unB; rw [UInt8.toNat_ofNat']; omega
def unL (b : List UInt8) (n : Nat) : List UInt8 := (List.range n).map fun k => unB b (k + n % 2)
theorem unL_len (b : List UInt8) (n : Nat) : (unL b n).length = n := by simp [unL]
/-- all halves, both of each of the first k bytes -/
def flat (b : List UInt8) (k : Nat) : List UInt8 := (List.range (2 * k)).map (unB b)
theorem flat_succ (b : List UInt8) (k : Nat) : flat b (k + 1) = flat b k ++ [unB b (2 * k), unB b (2 * k + 1)] := by
  unfold flat
  rw [show 2 * (k + 1) = 2 * k + 1 + 1 from by omega, List.range_succ, List.range_succ]
  simp
theorem flat_len (b : List UInt8) (k : Nat) : (flat b k).length = 2 * k := by simp [flat]
theorem flat_drop (b : List UInt8) (n : Nat) : (flat b ((n + 1) / 2)).drop (n % 2) = unL b n := by
  apply List.ext_getElem?
  intro i
  unfold flat unL
  rw [List.getElem?_drop]
  by_cases h : i < n
  · rw [map_range_at _ _ _ (by omega), map_range_at _ _ _ h, Nat.add_comm]
  · rw [List.getElem?_eq_none (by simp; omega), List.getElem?_eq_none (by simp; omega)]

/-- whether the bytes b are what n digits are put as -/
def goodB (b : List UInt8) (n : Nat) : Bool := (List.range (2 * ((n + 1) / 2))).all (fun h => decide (nib b h ≤ 9)) && (decide (n % 2 = 0) || decide (nib b 0 = 0))
def low9 (b : List UInt8) (k : Nat) : Bool := (List.range k).all fun j => decide ((b.getD j 0).toNat / 16 ≤ 9) && decide ((b.getD j 0).toNat % 16 ≤ 9)
theorem low9_succ (b : List UInt8) (k : Nat) : low9 b (k + 1) = (low9 b k && (decide ((b.getD k 0).toNat / 16 ≤ 9) && decide ((b.getD k 0).toNat % 16 ≤ 9))) := by
  unfold low9
  rw [List.range_succ, List.all_append]
  simp
theorem low9_all (b : List UInt8) (m : Nat) : (List.range (2 * m)).all (fun h => decide (nib b h ≤ 9)) = low9 b m := by
  induction m with
  | zero => rfl
  | succ m ih =>
    rw [low9_succ, ← ih, show 2 * (m + 1) = 2 * m + 1 + 1 from by omega, List.range_succ, List.range_succ, List.all_append, List.all_append]
    simp only [List.all_cons, List.all_nil, Bool.and_true, Bool.and_assoc]
    rw [show nib b (2 * m) = (b.getD m 0).toNat / 16 from by unfold nib; rw [if_pos (by omega), show 2 * m / 2 = m from by omega], show nib b (2 * m + 1) = (b.getD m 0).toNat % 16 from by unfold nib; rw [if_neg (by omega), show (2 * m + 1) / 2 = m from by omega]]
theorem goodB_iff {b : List UInt8} {n : Nat} : goodB b n = true ↔ (∀ h, h < 2 * ((n + 1) / 2) → nib b h ≤ 9) ∧ (n % 2 = 1 → nib b 0 = 0) := by
  unfold goodB
  rw [Bool.and_eq_true, List.all_eq_true, Bool.or_eq_true]
  simp only [List.mem_range, decide_eq_true_eq]
  constructor
  · rintro ⟨h1, h2⟩; exact ⟨h1, fun h => by omega⟩
  · rintro ⟨h1, h2⟩; exact ⟨h1, by by_cases e : n % 2 = 0 <;> simp [e] <;> exact h2 (by omega)⟩
theorem byte_halves (b : List UInt8) (j : Nat) : UInt8.ofNat (nib b (2 * j) * 16 + nib b (2 * j + 1)) = b.getD j 0 := by
  have h := (b.getD j 0).toNat_lt
  have e : nib b (2 * j) * 16 + nib b (2 * j + 1) = (b.getD j 0).toNat := by
    unfold nib
    rw [if_pos (by omega), if_neg (by omega), show 2 * j / 2 = j from by omega, show (2 * j + 1) / 2 = j from by omega]
    omega
  rw [e, UInt8.ofNat_toNat]
theorem eq_range (b : List UInt8) (m : Nat) (h : b.length = m) : b = (List.range m).map (fun j => b.getD j 0) := by
  apply List.ext_getElem?
  intro i
  by_cases hi : i < m
  · rw [map_range_at _ _ _ hi, List.getD_eq_getElem?_getD, List.getElem?_eq_getElem (by omega)]; rfl
  · rw [List.getElem?_eq_none (by omega), List.getElem?_eq_none (by simp; omega)]
theorem unL_at (b : List UInt8) (n h : Nat) (h1 : n % 2 ≤ h) (h2 : h < 2 * ((n + 1) / 2)) : dg (padE (unL b n)) h = nib b h := by
  have e := padE_at (unL b n) (h - n % 2)
  rw [unL_len, show h - n % 2 + n % 2 = h from by omega] at e
  unfold dg
  rw [e, unL, getD_map_range _ _ _ (by omega), unB_nat, show h - n % 2 + n % 2 = h from by omega]
  omega
theorem unL_first (b : List UInt8) (n : Nat) (h1 : n % 2 = 1) : dg (padE (unL b n)) 0 = 0 := by
  unfold dg
  rw [padE_odd (by rw [unL_len]; exact h1)]; rfl
/-- what was got and is put again is what stood there, just when it was good -/
theorem again (b : List UInt8) (n : Nat) (hb : b.length = (n + 1) / 2) (hn : n ≤ 100) : putD (unL b n) = some b ↔ goodB b n = true := by
  rw [goodB_iff]
  constructor
  · intro h
    have hw : within 48 57 (unL b n) = true := by
      cases e : within 48 57 (unL b n)
      · rw [putD_no1 e] at h; cases h
      · rfl
    rw [putD_yes hw (by rw [unL_len]; exact hn), unL_len] at h
    have h' : pkL (padE (unL b n)) ((n + 1) / 2) = b := Option.some.inj h
    have hx : n % 2 = 1 → nib b 0 = 0 := by
      intro ho
      have h0 : b.getD 0 0 = pkB (padE (unL b n)) 0 := by
        have : (pkL (padE (unL b n)) ((n + 1) / 2)).getD 0 0 = b.getD 0 0 := by rw [h']
        rw [← this, pkL, getD_map_range _ _ _ (by omega)]
      have e1 : nib b 0 = (b.getD 0 0).toNat / 16 := rfl
      rw [e1, h0, pkB, unL_first b n ho, unL_at b n 1 (by omega) (by omega)]
      have := nib_lt b 1
      rw [UInt8.toNat_ofNat']; omega
    refine ⟨fun k hk => ?_, hx⟩
    by_cases hk0 : n % 2 ≤ k
    · have e := dg_le (padE_dig hw) k
      rwa [unL_at b n k hk0 hk] at e
    · have hkz : k = 0 := by omega
      subst hkz
      rw [hx (by omega)]; omega
  · rintro ⟨h1, h2⟩
    have hw : within 48 57 (unL b n) = true := by
      refine within_of fun c hc => ?_
      obtain ⟨k, hk, rfl⟩ := List.mem_map.1 hc
      rw [List.mem_range] at hk
      rw [unB_nat]
      have := h1 (k + n % 2) (by omega)
      omega
    rw [putD_yes hw (by rw [unL_len]; exact hn), unL_len]
    congr 1
    rw [eq_range b _ hb]
    conv => rhs; rw [eq_range b _ hb]
    refine List.map_congr_left fun j hj => ?_
    rw [List.mem_range] at hj
    rw [← eq_range b _ hb, pkB, unL_at b n (2 * j + 1) (by omega) (by omega)]
    by_cases hx : n % 2 ≤ 2 * j
    · rw [unL_at b n (2 * j) hx (by omega), byte_halves]
    · have hj0 : j = 0 := by omega
      subst hj0
      have := byte_halves b 0
      rw [h2 (by omega)] at this
      rw [unL_first b n (by omega), this]
/-- digits that are put come back -/
theorem back (l : List UInt8) (h : within 48 57 l = true) : unL (pkL (padE l) ((l.length + 1) / 2)) l.length = l := by
  have hn : ∀ k, k < l.length → nib (pkL (padE l) ((l.length + 1) / 2)) (k + l.length % 2) = (l.getD k 0).toNat - 48 := by
    intro k hk
    have a1 := dg_le (padE_dig h) (2 * ((k + l.length % 2) / 2))
    have a2 := dg_le (padE_dig h) (2 * ((k + l.length % 2) / 2) + 1)
    have e2 : dg (padE l) (k + l.length % 2) = (l.getD k 0).toNat - 48 := by unfold dg; rw [padE_at]
    unfold nib
    rw [pkL, getD_map_range _ _ _ (by omega), pkB, UInt8.toNat_ofNat', ← e2]
    split
    · rename_i ev
      rw [show 2 * ((k + l.length % 2) / 2) = k + l.length % 2 from by omega] at a1 a2 ⊢
      omega
    · rename_i ev
      rw [show 2 * ((k + l.length % 2) / 2) + 1 = k + l.length % 2 from by omega] at a2 ⊢
      omega
  rw [eq_range l _ rfl]
  conv => lhs; rw [← eq_range l _ rfl]
  unfold unL
  refine List.map_congr_left fun k hk => ?_
  rw [List.mem_range] at hk
  have hb := within_at h hk
  have := hn k hk
  unfold unB
  rw [this, show 48 + ((l.getD k 0).toNat - 48) = (l.getD k 0).toNat from by omega, UInt8.ofNat_toNat]

/-- GetDigits -/
def getOk (l : List UInt8) (i n : Int) : Bool := decide (0 ≤ n ∧ n ≤ 100 ∧ 0 ≤ i ∧ i ≤ l.length ∧ (n + 1) / 2 ≤ l.length - i) && goodB ((l.drop i.toNat).take ((n.toNat + 1) / 2)) n.toNat
def getL (l : List UInt8) (i n : Int) : List UInt8 := if getOk l i n = true then unL ((l.drop i.toNat).take ((n.toNat + 1) / 2)) n.toNat else []
def getI (l : List UInt8) (i n : Int) : Int := if getOk l i n = true then i + (n + 1) / 2 else -1
theorem get_no {l : List UInt8} {i n : Int} (h : getOk l i n = false) : getL l i n = [] ∧ getI l i n = -1 := ⟨if_neg (by rw [h]; decide), if_neg (by rw [h]; decide)⟩
theorem get_yes {l : List UInt8} {i n : Int} (h : getOk l i n = true) : getL l i n = unL ((l.drop i.toNat).take ((n.toNat + 1) / 2)) n.toNat ∧ getI l i n = i + (n + 1) / 2 := ⟨if_pos h, if_pos h⟩
theorem getOk_out {l : List UInt8} {i n : Int} (h : ¬ (0 ≤ n ∧ n ≤ 100 ∧ 0 ≤ i ∧ i ≤ l.length ∧ (n + 1) / 2 ≤ l.length - i)) : getOk l i n = false := by
  unfold getOk; rw [decide_eq_false h]; rfl
theorem getOk_in {l : List UInt8} {i n : Nat} (h : n ≤ 100 ∧ i ≤ l.length ∧ (n + 1) / 2 ≤ l.length - i) : getOk l i n = goodB ((l.drop i).take ((n + 1) / 2)) n := by
  unfold getOk; rw [decide_eq_true (by omega)]; simp
theorem piece_len {l : List UInt8} {i m : Nat} (h : m ≤ l.length - i) : ((l.drop i).take m).length = m := by simp; omega
theorem piece_at {l : List UInt8} {i m j : Nat} (hj : j < m) : ((l.drop i).take m).getD j 0 = l.getD (i + j) 0 := by
  simp [List.getD_eq_getElem?_getD, hj]

end Go.Proofs.YtbncdhfmhokgeaaGreatDoor

/- Sets of numbers as bits, over plain lists. No Go in sight. -/
namespace Go.Proofs.YtbncdhfmhokgeaaGreatDoor
open Go.RowKit

/-- ascending numbers above p, none above 128 -/
def ascS (p : Int) : List Int → Bool
  | [] => true
  | x :: r => decide (p < x ∧ x ≤ 128) && ascS x r
theorem ascS_step (zs : List Int) (k : Nat) (p : Int) (h : k < zs.length) : ascS p (zs.drop k) = (decide (p < zs.getD k 0 ∧ zs.getD k 0 ≤ 128) && ascS (zs.getD k 0) (zs.drop (k + 1))) := by
  have e : zs.getD k 0 = zs[k] := by simp [List.getD_eq_getElem?_getD, h]
  rw [List.drop_eq_getElem_cons h, e]
  rfl
theorem ascS_mem {zs : List Int} : ∀ {p : Int}, ascS p zs = true → ∀ x ∈ zs, p < x ∧ x ≤ 128 := by
  induction zs with
  | nil => intro p _ x hx; cases hx
  | cons y r ih =>
    intro p h x hx
    rw [ascS, Bool.and_eq_true, decide_eq_true_eq] at h
    rcases List.mem_cons.1 hx with rfl | hx
    · exact h.1
    · have := ih h.2 x hx; omega
/-- the number ahead of number k, 1 ahead of the first -/
def prevS (zs : List Int) (k : Nat) : Int := if k = 0 then 1 else zs.getD (k - 1) 0
def wide (zs : List Int) : Bool := zs.any fun x => decide (64 < x)
theorem wide_last {zs : List Int} : ∀ {p : Int}, ascS p zs = true → zs ≠ [] → wide zs = decide (64 < zs.getD (zs.length - 1) 0) := by
  induction zs with
  | nil => intro p _ h; exact absurd rfl h
  | cons x r ih =>
    intro p h _
    rw [ascS, Bool.and_eq_true, decide_eq_true_eq] at h
    cases r with
    | nil => simp [wide]
    | cons y t =>
      have h2 := ih h.2 (by simp)
      have e : (x :: y :: t).getD ((x :: y :: t).length - 1) 0 = (y :: t).getD ((y :: t).length - 1) 0 := by simp [List.getD_eq_getElem?_getD]
      rw [e, ← h2]
      have h3 : wide (x :: y :: t) = (decide (64 < x) || wide (y :: t)) := rfl
      rw [h3]
      by_cases hx : 64 < x
      · have hy := (ascS_mem h.2 y (by simp)).1
        have : wide (y :: t) = true := by simp [wide]; left; omega
        rw [this, Bool.or_true]
      · simp [hx]

/-- bit n of a set: bit 1 tells whether it is a wide one -/
def bitS (zs : List Int) (n : Nat) : Bool := (decide (n = 1) && wide zs) || zs.contains (n : Int)
/-- the first b bits of byte k -/
def partB (f : Nat → Bool) (k : Nat) : Nat → Nat
  | 0 => 0
  | b + 1 => 2 * partB f k b + (f (8 * k + b + 1)).toNat
theorem partB_lt (f : Nat → Bool) (k b : Nat) : partB f k b < 2 ^ b := by
  induction b with
  | zero => simp [partB]
  | succ b ih =>
    have : (f (8 * k + b + 1)).toNat ≤ 1 := Bool.toNat_le _
    rw [partB, Nat.pow_succ]; omega
theorem partB_255 (f : Nat → Bool) (k : Nat) : partB f k 8 ≤ 255 := by have := partB_lt f k 8; omega
theorem partB_congr {f g : Nat → Bool} {k : Nat} (h : ∀ b, b < 8 → f (8 * k + b + 1) = g (8 * k + b + 1)) : ∀ b, b ≤ 8 → partB f k b = partB g k b := by
  intro b
  induction b with
  | zero => intro _; rfl
  | succ b ih => intro hb; rw [partB, partB, ih (by omega), h b (by omega)]
def byteOf (f : Nat → Bool) (k : Nat) : UInt8 := UInt8.ofNat (partB f k 8)
theorem byteOf_nat (f : Nat → Bool) (k : Nat) : (byteOf f k).toNat = partB f k 8 := by
  have := partB_255 f k
  unfold byteOf; rw [UInt8.toNat_ofNat']; omega
def setB (f : Nat → Bool) (m : Nat) : List UInt8 := (List.range m).map (byteOf f)
theorem setB_len (f : Nat → Bool) (m : Nat) : (setB f m).length = m := by simp [setB]
theorem setB_succ (f : Nat → Bool) (m : Nat) : setB f (m + 1) = setB f m ++ [byteOf f m] := by simp [setB, List.range_succ]
def sizeS (zs : List Int) : Nat := if wide zs = true then 16 else 8
theorem sizeS_or (zs : List Int) : (sizeS zs = 16 ∧ wide zs = true) ∨ (sizeS zs = 8 ∧ wide zs = false) := by
  unfold sizeS
  cases wide zs <;> simp
def putS (zs : List Int) : Option (List UInt8) := if ascS 1 zs = true then some (setB (bitS zs) (sizeS zs)) else none
theorem putS_no {zs : List Int} (h : ascS 1 zs = false) : putS zs = none := if_neg (by rw [h]; decide)
theorem putS_yes {zs : List Int} (h : ascS 1 zs = true) : putS zs = some (setB (bitS zs) (sizeS zs)) := if_pos h
theorem putS_len (zs : List Int) : ((putS zs).getD []).length ≤ 16 := by
  unfold putS
  split
  · simp only [Option.getD_some, setB_len]; unfold sizeS; split <;> omega
  · simp

/-- one bit more -/
def addB (f : Nat → Bool) (n : Nat) : Nat → Bool := fun x => f x || decide (x = n)
def bitV (r : Nat) : Int := ((128 / 2 ^ r : Nat) : Int)
theorem or_bit : ∀ b0 b1 b2 b3 b4 b5 b6 b7 : Bool, ∀ r : Fin 8,
    bits .or .u8 ((2 * (2 * (2 * (2 * (2 * (2 * (2 * (2 * 0 + b0.toNat) + b1.toNat) + b2.toNat) + b3.toNat) + b4.toNat) + b5.toNat) + b6.toNat) + b7.toNat : Nat) : Int) (bitV r.val) =
    ((2 * (2 * (2 * (2 * (2 * (2 * (2 * (2 * 0 + (b0 || decide (0 = r.val)).toNat) + (b1 || decide (1 = r.val)).toNat) + (b2 || decide (2 = r.val)).toNat) + (b3 || decide (3 = r.val)).toNat) + (b4 || decide (4 = r.val)).toNat) + (b5 || decide (5 = r.val)).toNat) + (b6 || decide (6 = r.val)).toNat) + (b7 || decide (7 = r.val)).toNat : Nat) : Int) := by decide +kernel
theorem partB_or (f : Nat → Bool) (q r : Nat) (hr : r < 8) : bits .or .u8 (partB f q 8 : Int) (bitV r) = (partB (addB f (8 * q + r + 1)) q 8 : Int) := by
  have h := or_bit (f (8 * q + 0 + 1)) (f (8 * q + 1 + 1)) (f (8 * q + 2 + 1)) (f (8 * q + 3 + 1)) (f (8 * q + 4 + 1)) (f (8 * q + 5 + 1)) (f (8 * q + 6 + 1)) (f (8 * q + 7 + 1)) ⟨r, hr⟩
  have e : ∀ b, addB f (8 * q + r + 1) (8 * q + b + 1) = (f (8 * q + b + 1) || decide (b = r)) := by
    intro b
    unfold addB
    congr 1
    by_cases hb : b = r
    · subst hb; simp
    · rw [decide_eq_false hb, decide_eq_false (by omega)]
  have p : ∀ g : Nat → Bool, partB g q 8 = 2 * (2 * (2 * (2 * (2 * (2 * (2 * (2 * 0 + (g (8 * q + 0 + 1)).toNat) + (g (8 * q + 1 + 1)).toNat) + (g (8 * q + 2 + 1)).toNat) + (g (8 * q + 3 + 1)).toNat) + (g (8 * q + 4 + 1)).toNat) + (g (8 * q + 5 + 1)).toNat) + (g (8 * q + 6 + 1)).toNat) + (g (8 * q + 7 + 1)).toNat := fun g => rfl
  rw [p, p, e 0, e 1, e 2, e 3, e 4, e 5, e 6, e 7]
  exact h
theorem partB_add (f : Nat → Bool) (q r k : Nat) (hr : r < 8) (hk : k ≠ q) : partB (addB f (8 * q + r + 1)) k 8 = partB f k 8 :=
  partB_congr (fun b hb => by
    unfold addB
    rw [decide_eq_false (by omega), Bool.or_false]) 8 (Nat.le_refl _)

/-- bit n of bytes -/
def bitL (l : List UInt8) (n : Nat) : Bool := decide ((l.getD ((n - 1) / 8) 0).toNat / 2 ^ (7 - (n - 1) % 8) % 2 = 1)
theorem and_bit : ∀ c : Fin 256, ∀ r : Fin 8, (bits .and .u8 (c.val : Int) (bitV r.val) != 0) = decide (c.val / 2 ^ (7 - r.val) % 2 = 1) := by decide +kernel
theorem part_bit : ∀ b0 b1 b2 b3 b4 b5 b6 b7 : Bool, ∀ r : Fin 8,
    decide ((2 * (2 * (2 * (2 * (2 * (2 * (2 * (2 * 0 + b0.toNat) + b1.toNat) + b2.toNat) + b3.toNat) + b4.toNat) + b5.toNat) + b6.toNat) + b7.toNat) / 2 ^ (7 - r.val) % 2 = 1) =
    ((decide (0 = r.val) && b0) || (decide (1 = r.val) && b1) || (decide (2 = r.val) && b2) || (decide (3 = r.val) && b3) || (decide (4 = r.val) && b4) || (decide (5 = r.val) && b5) || (decide (6 = r.val) && b6) || (decide (7 = r.val) && b7)) := by decide +kernel
theorem bitL_set (f : Nat → Bool) (m n : Nat) (h1 : 1 ≤ n) (h2 : n ≤ 8 * m) : bitL (setB f m) n = f n := by
  obtain ⟨q, hq⟩ : ∃ q, (n - 1) / 8 = q := ⟨_, rfl⟩
  obtain ⟨r, hr⟩ : ∃ r, (n - 1) % 8 = r := ⟨_, rfl⟩
  have hr8 : r < 8 := by omega
  have hn : n = 8 * q + r + 1 := by omega
  unfold bitL
  rw [hq, hr, setB, getD_map_range _ _ _ (by omega), byteOf_nat]
  have h := part_bit (f (8 * q + 0 + 1)) (f (8 * q + 1 + 1)) (f (8 * q + 2 + 1)) (f (8 * q + 3 + 1)) (f (8 * q + 4 + 1)) (f (8 * q + 5 + 1)) (f (8 * q + 6 + 1)) (f (8 * q + 7 + 1)) ⟨r, hr8⟩
  simp only [partB]
  refine h.trans ?_
  rw [hn]
  rcases (show r = 0 ∨ r = 1 ∨ r = 2 ∨ r = 3 ∨ r = 4 ∨ r = 5 ∨ r = 6 ∨ r = 7 from by omega) with rfl | rfl | rfl | rfl | rfl | rfl | rfl | rfl <;> simp

/-- the numbers of 2 .. k whose bits are there -/
def numsL (l : List UInt8) (k : Nat) : List Int := ((List.range (k + 1)).filter fun n => decide (2 ≤ n) && bitL l n).map fun n : Nat => (n : Int)
theorem numsL_one (l : List UInt8) : numsL l 1 = [] := by simp [numsL, List.range_succ]
theorem numsL_succ (l : List UInt8) (k : Nat) (h : 1 ≤ k) : numsL l (k + 1) = numsL l k ++ (if bitL l (k + 1) = true then [((k + 1 : Nat) : Int)] else []) := by
  unfold numsL
  rw [List.range_succ, List.filter_append, List.map_append]
  congr 1
  simp only [List.filter_cons, List.filter_nil]
  cases bitL l (k + 1) <;> simp [show 2 ≤ k + 1 from by omega]
theorem numsL_len (l : List UInt8) (k : Nat) : (numsL l k).length ≤ k + 1 := by
  unfold numsL
  rw [List.length_map]
  exact Nat.le_trans (List.length_filter_le _ _) (by simp)

end Go.Proofs.YtbncdhfmhokgeaaGreatDoor

/- GetSet, over plain lists. No Go in sight. -/
namespace Go.Proofs.YtbncdhfmhokgeaaGreatDoor
open Go.RowKit

/-- how many bytes a set has whose first byte is c -/
def szB (c : UInt8) : Nat := if 128 ≤ c.toNat then 16 else 8
def pieceS (l : List UInt8) (i : Nat) : List UInt8 := (l.drop i).take (szB (l.getD i 0))
def inS (l : List UInt8) (i : Int) : Bool := decide (0 ≤ i ∧ i + 8 ≤ l.length ∧ i + szB (l.getD i.toNat 0) ≤ l.length)
def getSOk (l : List UInt8) (i : Int) : Bool := inS l i && decide (putS (numsL (pieceS l i.toNat) (8 * szB (l.getD i.toNat 0))) = some (pieceS l i.toNat))
def getSL (l : List UInt8) (i : Int) : List Int := if getSOk l i = true then numsL (pieceS l i.toNat) (8 * szB (l.getD i.toNat 0)) else []
def getSI (l : List UInt8) (i : Int) : Int := if getSOk l i = true then i + szB (l.getD i.toNat 0) else -1
theorem getS_no {l : List UInt8} {i : Int} (h : getSOk l i = false) : getSL l i = [] ∧ getSI l i = -1 := ⟨if_neg (by rw [h]; decide), if_neg (by rw [h]; decide)⟩
theorem getS_yes {l : List UInt8} {i : Int} (h : getSOk l i = true) : getSL l i = numsL (pieceS l i.toNat) (8 * szB (l.getD i.toNat 0)) ∧ getSI l i = i + szB (l.getD i.toNat 0) := ⟨if_pos h, if_pos h⟩
theorem getS_out {l : List UInt8} {i : Int} (h : ¬ (0 ≤ i ∧ i + 8 ≤ l.length ∧ i + szB (l.getD i.toNat 0) ≤ l.length)) : getSOk l i = false := by
  unfold getSOk inS; rw [decide_eq_false h]; rfl
theorem szB_or (c : UInt8) : (szB c = 16 ∧ 128 ≤ c.toNat) ∨ (szB c = 8 ∧ c.toNat < 128) := by
  unfold szB
  by_cases h : 128 ≤ c.toNat
  · left; rw [if_pos h]; exact ⟨rfl, h⟩
  · right; rw [if_neg h]; exact ⟨rfl, by omega⟩
theorem getS_in {l : List UInt8} {k m : Nat} {b : List UInt8} (hm : szB (l.getD k 0) = m) (h : k + m ≤ l.length) (hb : (l.drop k).take m = b) (hm8 : 8 ≤ m) :
    (putS (numsL b (8 * m)) = some b → getSL l k = numsL b (8 * m) ∧ getSI l k = (k : Int) + m) ∧ (putS (numsL b (8 * m)) ≠ some b → getSL l k = [] ∧ getSI l k = -1) := by
  have e1 : inS l (k : Int) = true := by
    unfold inS
    rw [Int.toNat_natCast, hm]
    exact decide_eq_true (by omega)
  have e2 : pieceS l ((k : Int)).toNat = b := by unfold pieceS; rw [Int.toNat_natCast, hm, hb]
  have e3 : getSOk l (k : Int) = decide (putS (numsL b (8 * m)) = some b) := by
    unfold getSOk
    rw [e1, e2, Int.toNat_natCast, hm]; rfl
  constructor
  · intro hp
    have := getS_yes (l := l) (i := k) (by rw [e3]; exact decide_eq_true hp)
    rw [e2, Int.toNat_natCast, hm] at this
    exact this
  · intro hp
    exact getS_no (by rw [e3]; exact decide_eq_false hp)
theorem getSL_len (l : List UInt8) (i : Int) : (getSL l i).length ≤ 129 := by
  unfold getSL
  split
  · have := numsL_len (pieceS l i.toNat) (8 * szB (l.getD i.toNat 0))
    rcases szB_or (l.getD i.toNat 0) with ⟨h, _⟩ | ⟨h, _⟩ <;> rw [h] at this ⊢ <;> omega
  · simp
theorem bitL_first (l : List UInt8) (i : Nat) : bitL (l.drop i) 1 = decide (128 ≤ (l.getD i 0).toNat) := by
  have e : (l.drop i).getD 0 0 = l.getD i 0 := by simp [List.getD_eq_getElem?_getD]
  have h := (l.getD i 0).toNat_lt
  unfold bitL
  rw [show (1 - 1) / 8 = 0 from rfl, show 7 - (1 - 1) % 8 = 7 from rfl, e]
  congr 1
  apply propext
  constructor
  · intro hh; omega
  · intro hh; omega

end Go.Proofs.YtbncdhfmhokgeaaGreatDoor

/- Slices of bytes that are one's own memory, and the text that they are turned into. -/
namespace Go.Proofs.YtbncdhfmhokgeaaGreatDoor
open Go.RowKit

theorem info5 : (Tryz.prog.info? 5).map (fun i => (i.zero, i.size, i.bytes)) = some (some (.int .u8 0), 1, 1) := by kernel_rfl
/-- a byte as a cell -/
def cell (c : UInt8) : Value := .int .u8 (c.toNat : Int)
/-- the text of bytes that one owns -/
theorem text_own {w : World} {base : Nat} {v : Value} {n : Nat} {l : List UInt8} (h : w.ownsRow base 5 1 v n (l.map cell)) :
    (convert 22 9 v).run Tryz.prog w = .ok (.string ⟨l.toArray⟩) w := by
  rcases h.2 with ⟨rfl, h0⟩ | ⟨g, cap, cur, rfl, hrest⟩
  · subst h0
    have hl : l = [] := by have := h.1; simpa using this
    subst hl
    exact run_convert_bytes_nil w _ _ Tryz.underlying22 Tryz.underlying5 _ _ _ Tryz.underlying9
  · have hl : l.length = n := by simpa using h.1
    subst hl
    refine run_convert_bytes_back w _ _ _ _ _ _ Tryz.underlying22 Tryz.underlying5 Tryz.underlying9 fun j hj => ?_
    have := h.cellAt j (by omega)
    rw [show (⟨g, 0, none⟩ : Addr).add j = ⟨g, j, none⟩ from by unfold Addr.add; split <;> simp_all]
    rw [this]
    simp [cell, hj]
theorem made5 (m : Nat) : (madeCells (Value.int .u8 0).cells (m * 1)).toList = (List.replicate m (0 : UInt8)).map cell := by
  rw [Nat.mul_one]
  refine (toList_madeCells_one _ _).trans ?_
  simp [cell]
theorem str_ok {a b : ByteArray} {x y : Bool} (h : a = b) (g : x = y) : Ending.returned (.tuple #[.string a, .bool x]) = .returned (.tuple #[.string b, .bool y]) := by rw [h, g]

end Go.Proofs.YtbncdhfmhokgeaaGreatDoor

/- The contracts of PutDigits, the program's. -/
namespace Go.Proofs.YtbncdhfmhokgeaaGreatDoor
open Go.RowKit

set_option maxHeartbeats 400000 in
theorem packedLen_any (n : Nat) (w : World) (hn : n ≤ 1099511627776) :
    Calls Tryz.prog 127 #[.int .i64 n] w fun e w' => e = .returned (.int .i64 ((n + 1) / 2 : Nat)) ∧ w' = w := by
  go_enter Tryz.func127, Tryz.ntmps127
  go_wp2
  go_ret
  exact ⟨one_int (by omega), rfl⟩

def shiftOf (h : Nat) : Nat := if h % 2 = 0 then 4 else 0
theorem shift_even {h : Nat} (e : h % 2 = 0) : shiftOf h = 4 := if_pos e
theorem shift_odd {h : Nat} (e : h % 2 = 1) : shiftOf h = 0 := if_neg (by omega)
set_option maxHeartbeats 400000 in
theorem digitPlace_any (k n : Nat) (w : World) (hn : n ≤ 1099511627776) (hk : k ≤ 1099511627776) :
    Calls Tryz.prog 128 #[.int .i64 k, .int .i64 n] w fun e w' => e = .returned (.tuple #[.int .i64 ((k + n % 2) / 2 : Nat), .int .i64 (shiftOf (k + n % 2))]) ∧ w' = w := by
  by_cases h : (k + n % 2) % 2 = 0
  · have HS : Hid _ := shift_even h
    have e2 : ((k : Int) + (n : Int) % 2) % 2 = 0 := by omega
    go_enter Tryz.func128, Tryz.ntmps128
    go_wp2
    go_ret2
    exact ⟨two_ints (by omega) (by rw [HS.out]; rfl), rfl⟩
  · have HS : Hid _ := shift_odd (show (k + n % 2) % 2 = 1 by omega)
    have e2 : ((k : Int) + (n : Int) % 2) % 2 = 1 := by omega
    go_enter Tryz.func128, Tryz.ntmps128
    go_wp2
    go_ret2
    exact ⟨two_ints (by omega) (by rw [HS.out]; rfl), rfl⟩

theorem cells0 (e : List UInt8) (h m : Nat) (hz : ∀ j, cellK e h j = 0) : (List.replicate m (0 : UInt8)).map cell = (List.range m).map fun j => Value.int .u8 (cellK e h j) := by
  apply List.ext_getElem?
  intro i
  by_cases hi : i < m
  · simp [hi, cell, hz]
  · simp [hi]
theorem cells1 (e : List UInt8) (m : Nat) (hd : within 48 57 e = true) : ((List.range m).map fun j => Value.int .u8 (cellK e (2 * m) j)) = (pkL e m).map cell := by
  unfold pkL
  rw [List.map_map]
  refine List.map_congr_left fun j hj => ?_
  rw [List.mem_range] at hj
  have a := dg_le hd (2 * j)
  have b := dg_le hd (2 * j + 1)
  simp only [cell, pkB, Function.comp, cellK_all e m j hj]
  rw [UInt8.toNat_ofNat']
  congr 1
  omega

theorem or_two : ∀ x d : Fin 10, bits .or .u8 ((x.val : Int) * 16) (d.val : Int) = (x.val : Int) * 16 + (d.val : Int) := by decide +kernel
theorem or_hi : ∀ d : Fin 10, bits .or .u8 0 ((d.val : Int) * 16) = (d.val : Int) * 16 := by decide +kernel

set_option maxHeartbeats 1000000 in
theorem packDigits_any (l : List UInt8) (w : World) (hl : l.length ≤ 100) (hd : within 48 57 l = true) :
    Calls Tryz.prog 87 #[.string ⟨l.toArray⟩] w fun e w' => e = .returned (.string ⟨(pkL (padE l) ((l.length + 1) / 2)).toArray⟩) ∧ Below w.heap.size w w' := by
  obtain ⟨i0, hi, hz0, hz1, hz2⟩ := info_parts info5
  obtain ⟨m, hm⟩ : ∃ m, (l.length + 1) / 2 = m := ⟨_, rfl⟩
  have hm50 : m ≤ 50 := by omega
  have HD : Hid _ := hd
  have HM : Hid _ := hm
  clear hd hm
  go_enter Tryz.func87, Tryz.ntmps87
  go_wp2_with fail
  refine (packedLen_any _ _ (by omega)).mono ?_
  rintro e w1 ⟨rfl, hw1⟩
  subst hw1
  rw [HM.out]
  go_wp2_with (refine wpList_make_full _ rfl (.tmp 9) (.tmp 9) 22 rfl w1.heap.size 5 i0 (.int .u8 0) 1 Tryz.underlying22 hi hz0 hz1 .i64 .i64 _ _ m rfl rfl rfl rfl (by rw [hz2]; omega) (by unfold maxLen; omega) (Nat.le_refl _) ?_; intro w2 hown hg)
  rw [made5, cells0 (padE l) (l.length % 2) m cellK_first] at hown
  have hb2 : Below w1.heap.size w1 w2 := (Below.refl _ _).grown hg (Nat.le_refl _) (fun k hk => by cases hk)
  clear hg
  go_loopw [4, 5, 6, 13] (fun _ _ _ i wr => ∃ k : Nat, k ≤ l.length ∧ i = .int .i64 k ∧ wr.ownsRow w1.heap.size 5 1 (.slice (some ⟨w1.heap.size, 0, none⟩) m m) m ((List.range m).map fun j => Value.int .u8 (cellK (padE l) (k + l.length % 2) j)) ∧ Below w1.heap.size w1 wr) (fun _ _ _ i _ => l.length - (intOf i).toNat)
  case atStart => exact ⟨0, Nat.zero_le _, rfl, by rw [Nat.zero_add]; exact hown, hb2⟩
  case round =>
    obtain ⟨k, hk, rfl, ho, hbr⟩ := hrel
    clear hown
    by_cases hlt : k < l.length
    · have hki : (k : Int) < (l.length : Int) := by omega
      have hw := within_at HD.out hlt
      have hp := padE_at l k
      obtain ⟨c, hc⟩ : ∃ c, (⟨l.toArray⟩ : ByteArray)[k]'(by rw [ba_size]; exact hlt) = c := ⟨_, rfl⟩
      rw [(byte_at l k hlt).trans hc] at hw hp
      obtain ⟨h, hh⟩ : ∃ h, k + l.length % 2 = h := ⟨_, rfl⟩
      rw [hh] at ho hp
      have hat : h / 2 < m := by have := HM.out; omega
      have c2 : wr.cell? ⟨w1.heap.size, h / 2, none⟩ = some (.int .u8 (cellK (padE l) h (h / 2))) := by rw [ho.cellAt _ (by simpa using hat)]; simp [hat]
      have c3 : wr.frozen? ⟨w1.heap.size, h / 2, none⟩ = false := ho.frozenAt _
      obtain ⟨q, hq⟩ : ∃ q, h / 2 = q := ⟨_, rfl⟩
      rw [hq] at c2 c3 hat
      have hqi : (q : Int) < (m : Int) := by omega
      have hst := fun v => (ho.stored q (.int .u8 v)).1
      have hdg : dg (padE l) h = c.toNat - 48 := by unfold dg; rw [hp]
      have HST : Hid (∀ v : Int, v = (cellK (padE l) (h + 1) q : Nat) → (wr.setCell ⟨w1.heap.size, q, none⟩ (.int .u8 v)).ownsRow w1.heap.size 5 1 (.slice (some ⟨w1.heap.size, 0, none⟩) m m) m ((List.range m).map fun j => Value.int .u8 (cellK (padE l) (k + 1 + l.length % 2) j))) := by
        intro v hv
        have h1 := hst v
        rw [hv, map_range_set (fun j => Value.int .u8 (cellK (padE l) h j)) (fun j => Value.int .u8 (cellK (padE l) (h + 1) j)) m q (fun i hi => by rw [cellK_other (padE l) h i (by omega)])] at h1
        rw [show k + 1 + l.length % 2 = h + 1 from by omega, hv]
        exact h1
      have HH : Hid (k + l.length % 2 = h) := hh
      have HQ : Hid (h / 2 = q) := hq
      have hcb : (c.toNat : Int) ≤ 57 := by omega
      have hca : (48 : Int) ≤ (c.toNat : Int) := by omega
      by_cases hev : h % 2 = 0
      · have hz := cellK_even (padE l) h hev
        rw [hq, hdg] at hz
        rw [hz.1] at c2
        have c2' : wr.cell? ⟨w1.heap.size, q, none⟩ = some (.int .u8 0) := c2
        have HV : Hid (bits .or .u8 0 (((c.toNat : Int) - 48) * 16) = (cellK (padE l) (h + 1) q : Nat)) := by
          have := or_hi ⟨c.toNat - 48, by omega⟩
          simp only at this
          rw [Hid, show (c.toNat : Int) - 48 = ((c.toNat - 48 : Nat) : Int) from by omega, this, hz.2]
          omega
        clear hh hq ho hp hst hz c2 hdg
        go_wp2_with fail
        refine (digitPlace_any _ _ _ (by omega) (by omega)).mono ?_
        rintro e w3 ⟨rfl, hw3⟩
        subst hw3
        rw [HH.out, HQ.out, shift_even hev]
        go_wp2_with fail
        go_region
        go_wp2
        go_roundw
        case rel => exact ⟨k + 1, by omega, by go_num, (HST.out _ HV.out).drew, (hbr.setCell (Nat.le_refl _) _).drew⟩
        case measure => simp [intOf]; omega
      · have hod : h % 2 = 1 := by omega
        have hz := cellK_odd (padE l) h hod
        rw [hq, hdg] at hz
        have hx := dg_le (padE_dig HD.out) (h - 1)
        obtain ⟨x, hxe⟩ : ∃ x, dg (padE l) (h - 1) = x := ⟨_, rfl⟩
        rw [hxe] at hz hx
        rw [hz.1] at c2
        have c2' : wr.cell? ⟨w1.heap.size, q, none⟩ = some (.int .u8 ((x : Int) * 16)) := c2
        have HV : Hid (bits .or .u8 ((x : Int) * 16) ((c.toNat : Int) - 48) = (cellK (padE l) (h + 1) q : Nat)) := by
          have := or_two ⟨x, by omega⟩ ⟨c.toNat - 48, by omega⟩
          simp only at this
          rw [Hid, show (c.toNat : Int) - 48 = ((c.toNat - 48 : Nat) : Int) from by omega, this, hz.2]
          omega
        clear hh hq ho hp hst hz c2 hdg hxe
        go_wp2_with fail
        refine (digitPlace_any _ _ _ (by omega) (by omega)).mono ?_
        rintro e w3 ⟨rfl, hw3⟩
        subst hw3
        rw [HH.out, HQ.out, shift_odd hod]
        go_wp2_with fail
        go_region
        go_wp2
        go_roundw
        case rel => exact ⟨k + 1, by omega, by go_num, (HST.out _ HV.out).drew, (hbr.setCell (Nat.le_refl _) _).drew⟩
        case measure => simp [intOf]; omega
    · have hke : k = l.length := by omega
      subst hke
      have he : l.length + l.length % 2 = 2 * m := by have := HM.out; omega
      rw [he, cells1 (padE l) m (padE_dig HD.out)] at ho
      have ht := text_own ho
      have HO : Hid _ := ho
      clear ho he
      go_wp2
      go_ret
      exact ⟨one_str (by rw [HM.out]), hbr⟩

theorem putD_some {l r : List UInt8} (h : putD l = some r) : within 48 57 l = true ∧ l.length ≤ 100 ∧ r = pkL (padE l) ((l.length + 1) / 2) := by
  unfold putD at h
  split at h
  · rename_i h1
    exact ⟨h1.1, h1.2, (Option.some.inj h).symm⟩
  · cases h

set_option maxHeartbeats 400000 in
theorem iPutDigits_any (l : List UInt8) (w : World) (hl : l.length ≤ 1099511627776) :
    Calls Tryz.prog 181 #[.string ⟨l.toArray⟩] w fun e w' => e = .returned (.tuple #[.string ⟨((putD l).getD []).toArray⟩, .bool (putD l).isSome]) ∧ Below w.heap.size w w' := by
  by_cases hbig : 100 < l.length
  · have HN : Hid _ := putD_no2 hbig
    have hbi : (100 : Int) < (l.length : Int) := by omega
    go_enter Tryz.func181, Tryz.ntmps181
    go_wp2
    go_ret2
    exact ⟨str_ok (by rw [HN.out]; rfl) (by rw [HN.out]; rfl), Below.refl _ _⟩
  · have hbi : (l.length : Int) ≤ 100 := by omega
    have hl1 : l.length ≤ 100 := by omega
    cases hd : within 48 57 l
    · have HN : Hid _ := putD_no1 hd
      go_enter Tryz.func181, Tryz.ntmps181
      go_wp2_with fail
      refine (iDigits_any _ _ hl).mono ?_
      rintro e w1 ⟨rfl, hw⟩
      subst hw
      rw [hd]
      go_wp2
      go_ret2
      exact ⟨str_ok (by rw [HN.out]; rfl) (by rw [HN.out]; rfl), Below.refl _ _⟩
    · have HY : Hid _ := putD_yes hd hl1
      have HD : Hid _ := hd
      go_enter Tryz.func181, Tryz.ntmps181
      go_wp2_with fail
      refine (iDigits_any _ _ hl).mono ?_
      rintro e w1 ⟨rfl, hw⟩
      subst hw
      rw [hd]
      clear hd
      go_wp2_with fail
      refine (packDigits_any _ _ hl1 HD.out).mono ?_
      rintro e w2 ⟨rfl, b2⟩
      generalize pkL (padE l) ((l.length + 1) / 2) = r at HY
      go_wp2
      go_ret2
      exact ⟨str_ok (by rw [HY.out]; rfl) (by rw [HY.out]; rfl), b2⟩

end Go.Proofs.YtbncdhfmhokgeaaGreatDoor

/- A message's bytes, plainly. No Go in sight. -/
namespace Go.Proofs.YtbncdhfmhokgeaaGreatDoor

def pkD (d : List UInt8) : List UInt8 := pkL (padE d) ((d.length + 1) / 2)
theorem pkD_len (d : List UInt8) : (pkD d).length = (d.length + 1) / 2 := pkL_len _ _
/-- a right field's bytes -/
def putFld (n : Int) (d : List UInt8) : List UInt8 :=
  if fK n = 1 then pkD d else if fK n = 2 then padT d.length 2 ++ pkD d else if fK n = 4 then padT d.length 2 ++ d else if fK n = 5 then padT d.length 3 ++ d else d
def bodyP (fs : List Fld) : List UInt8 := fs.flatMap fun f => putFld f.1 f.2
theorem bodyP_append (a b : List Fld) : bodyP (a ++ b) = bodyP a ++ bodyP b := by simp [bodyP]
theorem bodyP_one (f : Fld) : bodyP [f] = putFld f.1 f.2 := by simp [bodyP]
def numsF (fs : List Fld) : List Int := fs.map (·.1)
theorem okF_asc {fs : List Fld} : ∀ {p : Int}, okF p fs = true → ascS p (numsF fs) = true := by
  induction fs with
  | nil => intro p _; rfl
  | cons f r ih =>
    intro p h
    simp only [okF, Bool.and_eq_true, decide_eq_true_eq] at h
    have hk := known_K (ok_known h.1.1)
    show (decide (p < f.1 ∧ f.1 ≤ 128) && ascS f.1 (numsF r)) = true
    rw [ih h.2, decide_eq_true ⟨h.1.2, by omega⟩]; rfl
def setF (fs : List Fld) : List UInt8 := (putS (numsF fs)).getD []
def packL (kd : Int) (fs : List Fld) : List UInt8 := if msgOk kd fs = true then padT kd 4 ++ setF fs ++ bodyP fs else []
theorem packL_no {kd : Int} {fs : List Fld} (h : msgOk kd fs = false) : packL kd fs = [] := if_neg (by rw [h]; decide)
theorem packL_yes {kd : Int} {fs : List Fld} (h : msgOk kd fs = true) : packL kd fs = padT kd 4 ++ setF fs ++ bodyP fs := if_pos h
theorem msgOk_parts {kd : Int} {fs : List Fld} (h : msgOk kd fs = true) : (0 ≤ kd ∧ kd ≤ 9999) ∧ okF 1 fs = true := by
  simpa [msgOk] using h
theorem set_ok {kd : Int} {fs : List Fld} (h : msgOk kd fs = true) : (putS (numsF fs)).isSome = true := by
  rw [putS_yes (okF_asc (msgOk_parts h).2)]; rfl
theorem fieldOk_K {n : Int} {d : List UInt8} (h : fieldOk n d = true) :
    (fK n = 1 ∧ d.length = fS n ∧ within 48 57 d = true ∧ d.length ≤ 12) ∨ (fK n = 2 ∧ (d.length : Int) ≤ fS n ∧ within 48 57 d = true ∧ d.length ≤ 19) ∨
    (fK n = 3 ∧ d.length = fS n ∧ within 32 126 d = true ∧ d.length ≤ 15) ∨ (fK n = 4 ∧ (d.length : Int) ≤ fS n ∧ within 32 126 d = true ∧ d.length ≤ 23) ∨ (fK n = 5 ∧ (d.length : Int) ≤ fS n ∧ within 32 126 d = true ∧ d.length ≤ 999) := by
  have hk := known_K (ok_known h)
  unfold fieldOk fieldKS at h
  rcases hk.1 with e | e | e | e | e
  all_goals (simp [e] at h; have := h.1; have := h.2)
  · exact .inl ⟨e, h.1, h.2, by omega⟩
  · exact .inr (.inl ⟨e, h.1, h.2, by omega⟩)
  · exact .inr (.inr (.inl ⟨e, h.1, h.2, by omega⟩))
  · exact .inr (.inr (.inr (.inl ⟨e, h.1, h.2, by omega⟩)))
  · exact .inr (.inr (.inr (.inr ⟨e, h.1, h.2, by omega⟩)))
theorem padT_l (x n : Int) : (padT x n).length ≤ 18 := by
  rcases padT_cases x n with h | ⟨a, m, _, _, h1, h2, h3, h⟩
  · rw [h]; simp
  · rw [h, padN_len h1 h3]; omega
theorem putFld_len {n : Int} {d : List UInt8} (h : fieldOk n d = true) : (putFld n d).length ≤ 1017 := by
  have hd : d.length ≤ 999 := by rcases fieldOk_K h with h | h | h | h | h <;> omega
  have h2 := padT_l d.length 2
  have h3 := padT_l d.length 3
  have h4 := pkD_len d
  unfold putFld
  split
  · omega
  · split
    · rw [List.length_append]; omega
    · split
      · rw [List.length_append]; omega
      · split
        · rw [List.length_append]; omega
        · omega
theorem bodyP_len {fs : List Fld} (h : ∀ f ∈ fs, fieldOk f.1 f.2 = true) : (bodyP fs).length ≤ 1017 * fs.length := by
  induction fs with
  | nil => simp [bodyP]
  | cons f r ih =>
    have h1 := putFld_len (h f (List.mem_cons_self ..))
    have h2 := ih (fun g hg => h g (List.mem_cons_of_mem _ hg))
    have e : bodyP (f :: r) = putFld f.1 f.2 ++ bodyP r := by simp [bodyP]
    rw [e, List.length_append, List.length_cons]; omega

end Go.Proofs.YtbncdhfmhokgeaaGreatDoor

/- The laws' own small functions over fields: how much one takes, its copy, whether two are the same. -/
namespace Go.Proofs.YtbncdhfmhokgeaaGreatDoor
open Go.RowKit

def leftF (l : List UInt8) (left : Int) : Int := if left - (l.length : Int) < 0 then -1 else left - (l.length : Int)

set_option maxHeartbeats 400000 in
theorem szField_any (n : Int) (l : List UInt8) (left : Int) (w : World) (hl : left ≤ 1048576 ∧ 0 ≤ left) (hm : l.length ≤ 9223372036854775807) :
    Calls Tryz.prog 145 #[.agg #[.int .i64 n, .string ⟨l.toArray⟩], .int .i64 left] w fun e w' => e = .returned (.int .i64 (leftF l left)) ∧ Below w.heap.size w w' := by
  by_cases h : left - (l.length : Int) < 0
  · have HE : Hid (leftF l left = -1) := if_pos h
    go_enter Tryz.func145, Tryz.ntmps145
    go_wp2
    go_ret
    exact ⟨one_int HE.out.symm, (Below.refl _ _).alloc (Nat.le_refl _) _⟩
  · have HE : Hid (leftF l left = left - (l.length : Int)) := if_neg h
    go_enter Tryz.func145, Tryz.ntmps145
    go_wp2
    go_ret
    exact ⟨one_int HE.out.symm, (Below.refl _ _).alloc (Nat.le_refl _) _⟩

set_option maxHeartbeats 400000 in
theorem toField_any (n : Int) (l : List UInt8) (w : World) :
    Calls Tryz.prog 146 #[.agg #[.int .i64 n, .string ⟨l.toArray⟩]] w fun e w' => e = .returned (.agg #[.int .i64 n, .string ⟨l.toArray⟩]) ∧ Below w.heap.size w w' := by
  go_enter Tryz.func146, Tryz.ntmps146
  go_wp2
  go_returns
  refine ⟨rfl, ?_⟩
  go_grown

end Go.Proofs.YtbncdhfmhokgeaaGreatDoor

/- A struct of two cells that lies in a box of its own: what is kept of it. -/
namespace Go.Proofs.YtbncdhfmhokgeaaGreatDoor
open Go.RowKit

theorem box2 {w u : World} {x y : Value} {t : TypeId} (b : Below (w.alloc (.cells #[x, y] t)).heap.size (w.alloc (.cells #[x, y] t)) u) :
    u.cell? ⟨w.heap.size, 0, none⟩ = some x ∧ u.cell? ⟨w.heap.size, 1, none⟩ = some y ∧ Below w.heap.size w u ∧ w.heap.size < u.heap.size :=
  ⟨(b.cell (p := ⟨w.heap.size, 0, none⟩) (by simp)).trans (by simp), (b.cell (p := ⟨w.heap.size, 1, none⟩) (by simp)).trans (by simp),
    ((Below.refl _ _).alloc (Nat.le_refl _) _).trans (b.mono (by simp)), by have := b.size; simp at this; omega⟩
theorem keep2 {w u : World} {b : Nat} {x y : Value} (h0 : w.cell? ⟨b, 0, none⟩ = some x) (h1 : w.cell? ⟨b, 1, none⟩ = some y) (k : Below w.heap.size w u) :
    u.cell? ⟨b, 0, none⟩ = some x ∧ u.cell? ⟨b, 1, none⟩ = some y :=
  have hb : b < w.heap.size := World.block_lt_of_cell? w _ h0
  ⟨(k.cell (p := ⟨b, 0, none⟩) hb).trans h0, (k.cell (p := ⟨b, 1, none⟩) hb).trans h1⟩

end Go.Proofs.YtbncdhfmhokgeaaGreatDoor

/- Blocked files, plainly: how records are laid, cut into blocks, and found again. No Go in sight. -/
namespace Go.Proofs.YtbncdhfmhokgeaaGreatDoor

set_option maxRecDepth 20000
abbrev Recs := List (List UInt8)
/-- a number as four bytes -/
def be4 (n : Nat) : List UInt8 := [UInt8.ofNat (n / 16777216), UInt8.ofNat (n / 65536), UInt8.ofNat (n / 256), UInt8.ofNat n]
theorem be4_len (n : Nat) : (be4 n).length = 4 := rfl
def lay1 (r : List UInt8) : List UInt8 := be4 r.length ++ r
theorem lay1_len (r : List UInt8) : (lay1 r).length = r.length + 4 := by simp [lay1, be4_len]; omega
def layR (rs : Recs) : List UInt8 := rs.flatMap lay1
theorem layR_append (a b : Recs) : layR (a ++ b) = layR a ++ layR b := by simp [layR]
theorem layR_one (r : List UInt8) : layR [r] = lay1 r := by simp [layR]
theorem layR_cons (r : List UInt8) (rs : Recs) : layR (r :: rs) = lay1 r ++ layR rs := by simp [layR]
def laid (rs : Recs) : List UInt8 := layR rs ++ be4 0
def recOk (r : List UInt8) : Bool := decide (0 < r.length) && decide (r.length ≤ 3000)
theorem recOk_is {r : List UInt8} (h : recOk r = true) : 0 < r.length ∧ r.length ≤ 3000 := by simpa [recOk] using h
def recsOk (rs : Recs) : Bool := rs.all recOk
def nth (rs : Recs) (k : Nat) : List UInt8 := rs.getD k []
theorem nth_is {rs : Recs} {k : Nat} (h : k < rs.length) : nth rs k = rs[k] := by simp [nth, List.getD_eq_getElem?_getD, h]
theorem nth_mem {rs : Recs} {k : Nat} (h : k < rs.length) : nth rs k ∈ rs := by rw [nth_is h]; exact List.getElem_mem h
theorem take_nth (rs : Recs) (k : Nat) (h : k < rs.length) : rs.take (k + 1) = rs.take k ++ [nth rs k] := by
  rw [List.take_succ_eq_append_getElem h, nth_is h]
theorem recsOk_step (rs : Recs) (k : Nat) (h : k < rs.length) : recsOk (rs.drop k) = (recOk (nth rs k) && recsOk (rs.drop (k + 1))) := by
  rw [List.drop_eq_getElem_cons h, nth_is h]; rfl
theorem recsOk_end (rs : Recs) : recsOk (rs.drop rs.length) = true := by rw [List.drop_of_length_le (Nat.le_refl _)]; rfl
theorem recsOk_mem {rs : Recs} (h : recsOk rs = true) : ∀ r ∈ rs, 0 < r.length ∧ r.length ≤ 3000 := fun r hr => recOk_is (List.all_eq_true.1 h r hr)
theorem layR_step (rs : Recs) (k : Nat) (h : k < rs.length) : layR (rs.take (k + 1)) = layR (rs.take k) ++ (be4 (nth rs k).length ++ nth rs k) := by
  rw [take_nth rs k h, layR_append, layR_one]; rfl
theorem layR_bd {rs : Recs} (h : ∀ r ∈ rs, r.length ≤ 3000) : (layR rs).length ≤ 3004 * rs.length := by
  induction rs with
  | nil => simp [layR]
  | cons r q ih =>
    have h1 := h r (List.mem_cons_self ..)
    have h2 := ih (fun g hg => h g (List.mem_cons_of_mem _ hg))
    rw [layR_cons, List.length_append, lay1_len, List.length_cons]; omega
theorem laid_len (rs : Recs) : (laid rs).length = (layR rs).length + 4 := by simp [laid, be4_len]

def nBlk (n : Nat) : Nat := (n + 1011) / 1012
/-- a stream of m pieces as a file -/
def fileM (t : List UInt8) (m : Nat) : List UInt8 := (List.range m).flatMap fun i => (t.drop (i * 1012)).take 1012 ++ [64, 64]
def filled (l : List UInt8) : List UInt8 := l ++ List.replicate (nBlk l.length * 1012 - l.length) 64
def fileOf (l : List UInt8) : List UInt8 := fileM (filled l) (nBlk l.length)
def blockOk (rs : Recs) : Bool := (decide (rs.length ≤ 200) && recsOk rs) && decide (nBlk (laid rs).length * 1014 ≤ 60000)
def blockL (rs : Recs) : List UInt8 := if blockOk rs = true then fileOf (laid rs) else []
theorem blockL_yes {rs : Recs} (h : blockOk rs = true) : blockL rs = fileOf (laid rs) := if_pos h
theorem blockL_no {rs : Recs} (h : blockOk rs = false) : blockL rs = [] := if_neg (by rw [h]; decide)
theorem blockOk_parts {rs : Recs} (h : blockOk rs = true) : rs.length ≤ 200 ∧ recsOk rs = true ∧ nBlk (laid rs).length * 1014 ≤ 60000 := by
  simp [blockOk] at h; exact ⟨h.1.1, h.1.2, h.2⟩
theorem blockOk_of {rs : Recs} (h1 : rs.length ≤ 200) (h2 : recsOk rs = true) (h3 : nBlk (laid rs).length * 1014 ≤ 60000) : blockOk rs = true := by simp [blockOk, h1, h2, h3]
theorem blockOk_no1 {rs : Recs} (h : 200 < rs.length) : blockOk rs = false := by simp [blockOk]; intro h1; omega
theorem blockOk_no2 {rs : Recs} (h : recsOk rs = false) : blockOk rs = false := by simp [blockOk, h]
theorem blockOk_no3 {rs : Recs} (h : 60000 < nBlk (laid rs).length * 1014) : blockOk rs = false := by simp [blockOk]; intros; omega
theorem nBlk_le (n : Nat) : n ≤ nBlk n * 1012 := by unfold nBlk; omega
theorem nBlk_lt (n : Nat) : nBlk n * 1012 < n + 1012 := by unfold nBlk; omega
theorem filled_len (l : List UInt8) : (filled l).length = nBlk l.length * 1012 := by
  have := nBlk_le l.length
  simp [filled]; omega

theorem fileM_succ (t : List UInt8) (m : Nat) : fileM t (m + 1) = fileM t m ++ ((t.drop (m * 1012)).take 1012 ++ [64, 64]) := by
  simp [fileM, List.range_succ]
theorem fileM_len (t : List UInt8) (m : Nat) (h : m * 1012 ≤ t.length) : (fileM t m).length = m * 1014 := by
  induction m with
  | zero => rfl
  | succ m ih =>
    rw [fileM_succ, List.length_append, ih (by omega), List.length_append, List.length_take, List.length_drop, show [(64 : UInt8), 64].length = 2 from rfl]
    omega
theorem fileOf_len (l : List UInt8) : (fileOf l).length = nBlk l.length * 1014 := fileM_len _ _ (by rw [filled_len]; omega)

/-- block i of a file -/
def blk (s : List UInt8) (i : Nat) : List UInt8 := (s.drop (i * 1014)).take 1014
def pieceOf (s : List UInt8) (i : Nat) : List UInt8 := (s.drop (i * 1014)).take 1012
def streamM (s : List UInt8) (m : Nat) : List UInt8 := (List.range m).flatMap (pieceOf s)
def streamOf (s : List UInt8) : List UInt8 := streamM s (s.length / 1014)
theorem streamM_succ (s : List UInt8) (m : Nat) : streamM s (m + 1) = streamM s m ++ pieceOf s m := by simp [streamM, List.range_succ]
theorem pieceOf_len (s : List UInt8) (m : Nat) (h : m * 1014 + 1012 ≤ s.length) : (pieceOf s m).length = 1012 := by
  rw [pieceOf, List.length_take, List.length_drop]; omega
theorem streamM_len (s : List UInt8) (m : Nat) (h : m * 1014 ≤ s.length) : (streamM s m).length = m * 1012 := by
  induction m with
  | zero => rfl
  | succ m ih =>
    rw [streamM_succ, List.length_append, ih (by omega), pieceOf_len s m (by omega)]
    omega
def endOk (s : List UInt8) (i : Nat) : Bool := (s.getD (i * 1014 + 1012) 0 == 64) && (s.getD (i * 1014 + 1013) 0 == 64)
def padM (s : List UInt8) (m : Nat) : Bool := (List.range m).all (endOk s)
def padAll (s : List UInt8) : Bool := padM s (s.length / 1014)
theorem padM_succ (s : List UInt8) (m : Nat) : padM s (m + 1) = (padM s m && endOk s m) := by simp [padM, List.range_succ]
theorem padM_at {s : List UInt8} {m : Nat} (h : padM s m = true) {i : Nat} (hi : i < m) : endOk s i = true := List.all_eq_true.1 h i (List.mem_range.2 hi)
theorem padM_no {s : List UInt8} {m i : Nat} (hi : i < m) (h : endOk s i = false) : padM s m = false := by
  cases hp : padM s m
  · rfl
  · rw [padM_at hp hi] at h; cases h

theorem drop_take_getD (s : List UInt8) (a : Nat) (h : a + 2 ≤ s.length) : (s.drop a).take 2 = [s.getD a 0, s.getD (a + 1) 0] := by
  rw [List.drop_eq_getElem_cons (by omega), List.take_succ_cons, List.drop_eq_getElem_cons (by omega), List.take_succ_cons, List.take_zero]
  simp [List.getD_eq_getElem?_getD, show a < s.length by omega, show a + 1 < s.length by omega]
/-- a file whose blocks end right is its stream's file -/
theorem file_stream (s : List UInt8) : ∀ m, m * 1014 ≤ s.length → padM s m = true → fileM (streamM s m) m = s.take (m * 1014) := by
  intro m
  induction m with
  | zero => intro _ _; rfl
  | succ m ih =>
    intro hl hp
    rw [padM_succ, Bool.and_eq_true] at hp
    have hsl := streamM_len s m (by omega)
    have e1 : fileM (streamM s (m + 1)) m = fileM (streamM s m) m := by
      rw [streamM_succ]
      unfold fileM
      have ext : ∀ (l : List Nat) (f g : Nat → List UInt8), (∀ i ∈ l, f i = g i) → l.flatMap f = l.flatMap g := by
        intro l f g
        induction l with
        | nil => intro _; rfl
        | cons x r ih => intro h; rw [List.flatMap_cons, List.flatMap_cons, h x (List.mem_cons_self ..), ih fun i hi => h i (List.mem_cons_of_mem _ hi)]
      refine ext _ _ _ fun i hi => ?_
      have hi := List.mem_range.1 hi
      rw [List.drop_append_of_le_length (by omega), List.take_append_of_le_length (by rw [List.length_drop]; omega)]
    have e2 : ((streamM s (m + 1)).drop (m * 1012)).take 1012 = pieceOf s m := by
      rw [streamM_succ, ← hsl, List.drop_left]
      exact List.take_of_length_le (by rw [pieceOf_len s m (by omega)]; omega)
    have e3 : [(64 : UInt8), 64] = (s.drop (m * 1014 + 1012)).take 2 := by
      have := hp.2
      simp only [endOk, Bool.and_eq_true, beq_iff_eq] at this
      rw [drop_take_getD s _ (by omega), this.1, this.2]
    rw [fileM_succ, e1, e2, ih (by omega) hp.1, e3, pieceOf, show (m + 1) * 1014 = m * 1014 + (1012 + 2) by omega, List.take_add, List.take_add, List.drop_drop]
theorem file_of_stream {s : List UInt8} (hm : s.length % 1014 = 0) (hp : padAll s = true) : fileM (streamOf s) (s.length / 1014) = s := by
  rw [streamOf, file_stream s _ (by omega) hp, List.take_of_length_le (by omega)]
/-- and the other way round -/
theorem piece_fileM (t : List UInt8) : ∀ m, m * 1012 ≤ t.length → ∀ i, i < m → ∀ u, pieceOf (fileM t m ++ u) i = (t.drop (i * 1012)).take 1012 ∧ endOk (fileM t m ++ u) i = true := by
  intro m
  induction m with
  | zero => intro _ i hi; omega
  | succ m ih =>
    intro hl i hi u
    rw [fileM_succ, List.append_assoc]
    by_cases h : i < m
    · exact ih (by omega) i h _
    · obtain rfl : i = m := by omega
      have hf := fileM_len t i (by omega)
      have hpl : ((t.drop (i * 1012)).take 1012).length = 1012 := by rw [List.length_take, List.length_drop]; omega
      constructor
      · rw [pieceOf, ← hf, List.drop_left, List.append_assoc, List.take_append_of_le_length (by omega), List.take_of_length_le (by omega)]
      · have g : ∀ j, j < 2 → (fileM t i ++ ((t.drop (i * 1012)).take 1012 ++ [64, 64] ++ u)).getD (i * 1014 + (1012 + j)) 0 = 64 := by
          intro j hj
          rw [List.getD_eq_getElem?_getD, List.getElem?_append_right (by omega), hf, Nat.add_sub_cancel_left, List.append_assoc, List.getElem?_append_right (by omega), hpl, Nat.add_sub_cancel_left]
          match j, hj with
          | 0, _ => rfl
          | 1, _ => rfl
        have g0 := g 0 (by omega)
        have g1 := g 1 (by omega)
        simp only [Nat.add_zero] at g0
        simp only [endOk, g0, show i * 1014 + 1013 = i * 1014 + (1012 + 1) by omega, g1]; rfl
theorem stream_fileM (t : List UInt8) (m : Nat) (h : m * 1012 = t.length) : streamM (fileM t m) m = t ∧ padM (fileM t m) m = true := by
  constructor
  · have : ∀ k, k ≤ m → streamM (fileM t m) k = t.take (k * 1012) := by
      intro k
      induction k with
      | zero => intro _; rfl
      | succ k ih =>
        intro hk
        have hp := (piece_fileM t m (by omega) k (by omega) []).1
        rw [List.append_nil] at hp
        rw [streamM_succ, ih (by omega), hp, show (k + 1) * 1012 = k * 1012 + 1012 by omega, List.take_add]
    rw [this m (Nat.le_refl _), List.take_of_length_le (by omega)]
  · apply List.all_eq_true.2
    intro i hi
    have := (piece_fileM t m (by omega) i (List.mem_range.1 hi) []).2
    rwa [List.append_nil] at this
theorem stream_file (t : List UInt8) (m : Nat) (h : m * 1012 = t.length) : streamOf (fileM t m) = t ∧ padAll (fileM t m) = true := by
  have hl := fileM_len t m (by omega)
  have hd : (fileM t m).length / 1014 = m := by omega
  unfold streamOf padAll
  rw [hd]
  exact stream_fileM t m h
theorem fileM_inj {a b : List UInt8} {m n : Nat} (ha : m * 1012 = a.length) (hb : n * 1012 = b.length) (h : fileM a m = fileM b n) : m = n ∧ a = b := by
  have h1 := fileM_len a m (by omega)
  have h2 := fileM_len b n (by omega)
  rw [h] at h1
  have hmn : m = n := by omega
  subst hmn
  refine ⟨rfl, ?_⟩
  rw [← (stream_fileM a m ha).1, h, (stream_fileM b m hb).1]

/-- the number that four bytes spell -/
def num4 (l : List UInt8) (a : Nat) : Nat := (l.getD a 0).toNat * 16777216 + (l.getD (a + 1) 0).toNat * 65536 + (l.getD (a + 2) 0).toNat * 256 + (l.getD (a + 3) 0).toNat
def walkR (l : List UInt8) : Nat → Nat → Recs → Option (Recs × Nat)
  | 0, _, _ => none
  | f + 1, a, acc =>
    if l.length < a + 4 then none
    else if num4 l a = 0 then some (acc, a + 4)
    else if 3000 < num4 l a ∨ l.length < a + 4 + num4 l a ∨ 200 ≤ acc.length then none
    else walkR l f (a + 4 + num4 l a) (acc ++ [(l.drop (a + 4)).take (num4 l a)])
theorem walkR_short {l : List UInt8} {f a : Nat} {acc : Recs} (h : l.length < a + 4) : walkR l f a acc = none := by
  cases f with
  | zero => rfl
  | succ f => exact if_pos h
theorem walkR_end {l : List UInt8} {f a : Nat} {acc : Recs} (h : ¬ l.length < a + 4) (h0 : num4 l a = 0) : walkR l (f + 1) a acc = some (acc, a + 4) := by
  rw [walkR, if_neg h, if_pos h0]
theorem walkR_bad {l : List UInt8} {f a : Nat} {acc : Recs} (h : ¬ l.length < a + 4) (h0 : num4 l a ≠ 0) (h1 : 3000 < num4 l a ∨ l.length < a + 4 + num4 l a ∨ 200 ≤ acc.length) : walkR l f a acc = none := by
  cases f with
  | zero => rfl
  | succ f => rw [walkR, if_neg h, if_neg h0, if_pos h1]
theorem walkR_go {l : List UInt8} {f a : Nat} {acc : Recs} (h : ¬ l.length < a + 4) (h0 : num4 l a ≠ 0) (h1 : ¬ (3000 < num4 l a ∨ l.length < a + 4 + num4 l a ∨ 200 ≤ acc.length)) :
    walkR l (f + 1) a acc = walkR l f (a + 4 + num4 l a) (acc ++ [(l.drop (a + 4)).take (num4 l a)]) := by
  rw [walkR, if_neg h, if_neg h0, if_neg h1]

theorem be4_num (l : List UInt8) (a : Nat) (h : a + 4 ≤ l.length) : (l.drop a).take 4 = be4 (num4 l a) := by
  have e : ∀ k, k < 4 → ∃ c, l[a + k]? = some c ∧ l.getD (a + k) 0 = c := fun k hk => ⟨l[a + k], by rw [List.getElem?_eq_getElem (by omega)], by simp [List.getD_eq_getElem?_getD, show a + k < l.length by omega]⟩
  obtain ⟨c0, p0, q0⟩ := e 0 (by omega)
  obtain ⟨c1, p1, q1⟩ := e 1 (by omega)
  obtain ⟨c2, p2, q2⟩ := e 2 (by omega)
  obtain ⟨c3, p3, q3⟩ := e 3 (by omega)
  simp only [Nat.add_zero] at p0 q0
  have hl : (l.drop a).take 4 = [c0, c1, c2, c3] := by
    apply List.ext_getElem?
    intro j
    rw [List.getElem?_take]
    by_cases hj : j < 4
    · rw [if_pos hj, List.getElem?_drop]
      match j, hj with
      | 0, _ => simpa using p0
      | 1, _ => simpa using p1
      | 2, _ => simpa using p2
      | 3, _ => simpa using p3
    · rw [if_neg hj, List.getElem?_eq_none (by simp; omega)]
  rw [hl, be4, num4, q0, q1, q2, q3]
  have b0 := c0.toNat_lt
  have b1 := c1.toNat_lt
  have b2 := c2.toNat_lt
  have b3 := c3.toNat_lt
  have f : ∀ (c : UInt8) (n : Nat), n % 256 = c.toNat → UInt8.ofNat n = c := fun c n h => by
    apply UInt8.toNat_inj.1
    rw [UInt8.toNat_ofNat']; exact h
  rw [f c0 _ (by omega), f c1 _ (by omega), f c2 _ (by omega), f c3 _ (by omega)]
theorem num4_be4 (n : Nat) (h : n < 4294967296) (p q : List UInt8) : num4 (p ++ (be4 n ++ q)) p.length = n := by
  have e : ∀ k, k < 4 → (p ++ (be4 n ++ q)).getD (p.length + k) 0 = (be4 n).getD k 0 := fun k hk => by
    rw [List.getD_eq_getElem?_getD, List.getElem?_append_right (by omega), Nat.add_sub_cancel_left, List.getElem?_append_left (by rw [be4_len]; omega), List.getD_eq_getElem?_getD]
  have e0 := e 0 (by omega)
  have e1 := e 1 (by omega)
  have e2 := e 2 (by omega)
  have e3 := e 3 (by omega)
  rw [Nat.add_zero] at e0
  rw [num4, e0, e1, e2, e3]
  simp only [be4, List.getD_cons_zero, List.getD_cons_succ, UInt8.toNat_ofNat']
  omega

/-- what the walk found stands there -/
theorem walkR_is (l : List UInt8) : ∀ f a acc out e, walkR l f a acc = some (out, e) → l.take a = layR acc → a ≤ l.length → recsOk acc = true → acc.length ≤ 200 →
    l.take e = laid out ∧ e ≤ l.length ∧ recsOk out = true ∧ out.length ≤ 200 := by
  intro f
  induction f with
  | zero => intro a acc out e h; cases h
  | succ f ih =>
    intro a acc out e h ht ha hok hn
    by_cases h1 : l.length < a + 4
    · rw [walkR_short h1] at h; cases h
    have hb := be4_num l a (by omega)
    by_cases h0 : num4 l a = 0
    · rw [walkR_end h1 h0] at h
      cases h
      refine ⟨?_, by omega, hok, hn⟩
      rw [List.take_add, hb, h0, ht]; rfl
    · by_cases h2 : 3000 < num4 l a ∨ l.length < a + 4 + num4 l a ∨ 200 ≤ acc.length
      · rw [walkR_bad h1 h0 h2] at h; cases h
      · rw [walkR_go h1 h0 h2] at h
        have hlen : ((l.drop (a + 4)).take (num4 l a)).length = num4 l a := by simp; omega
        refine ih _ _ _ _ h ?_ (by omega) ?_ (by simp; omega)
        · rw [List.take_add, List.take_add, hb, ht, layR_append, layR_one, lay1, hlen, List.append_assoc]
        · simp only [recsOk, List.all_append, Bool.and_eq_true]
          refine ⟨hok, ?_⟩
          simp [recOk, hlen]; omega
/-- and what was laid is found -/
theorem walkR_laid (u : List UInt8) : ∀ (rs acc : Recs) f, recsOk rs = true → acc.length + rs.length ≤ 200 → rs.length < f →
    walkR (layR acc ++ (layR rs ++ be4 0 ++ u)) f (layR acc).length acc = some (acc ++ rs, (layR acc).length + (layR rs).length + 4) := by
  intro rs
  induction rs with
  | nil =>
    intro acc f _ _ hf
    obtain ⟨g, rfl⟩ : ∃ g, f = g + 1 := ⟨f - 1, by simp at hf; omega⟩
    have hn := num4_be4 0 (by omega) (layR acc) u
    rw [show layR [] ++ be4 0 ++ u = be4 0 ++ u from rfl, walkR_end (by simp [be4_len]) hn]
    simp [layR]
  | cons r q ih =>
    intro acc f hok hn hf
    obtain ⟨g, rfl⟩ : ∃ g, f = g + 1 := ⟨f - 1, by simp at hf; omega⟩
    have hok' : recOk r = true ∧ recsOk q = true := by simpa [recsOk] using hok
    have hr := recOk_is hok'.1
    have es : layR (r :: q) ++ be4 0 ++ u = be4 r.length ++ (r ++ (layR q ++ be4 0 ++ u)) := by rw [layR_cons, lay1]; simp [List.append_assoc]
    have hnum := num4_be4 r.length (by omega) (layR acc) (r ++ (layR q ++ be4 0 ++ u))
    have hn' : acc.length + (q.length + 1) ≤ 200 := by simpa using hn
    rw [es, walkR_go (by simp [be4_len]) (by rw [hnum]; omega) (by rw [hnum]; simp [be4_len]; omega), hnum]
    have e1 : ((layR acc ++ (be4 r.length ++ (r ++ (layR q ++ be4 0 ++ u)))).drop ((layR acc).length + 4)).take r.length = r := by
      rw [← List.append_assoc, show (layR acc).length + 4 = (layR acc ++ be4 r.length).length by simp [be4_len], List.drop_left, List.take_left]
    have e2 : layR acc ++ (be4 r.length ++ (r ++ (layR q ++ be4 0 ++ u))) = layR (acc ++ [r]) ++ (layR q ++ be4 0 ++ u) := by
      rw [layR_append, layR_one, lay1]; simp [List.append_assoc]
    have e3 : (layR acc).length + 4 + r.length = (layR (acc ++ [r])).length := by rw [layR_append, layR_one, List.length_append, lay1_len]; omega
    rw [e1, e2, e3, ih (acc ++ [r]) g hok'.2 (by simp; omega) (by simp at hf; omega)]
    have e4 : (layR (r :: q)).length = r.length + 4 + (layR q).length := by rw [layR_cons, List.length_append, lay1_len]
    rw [List.append_assoc, ← e3, e4]
    have e5 : (layR acc).length + 4 + r.length + (layR q).length + 4 = (layR acc).length + (r.length + 4 + (layR q).length) + 4 := by omega
    rw [e5]; rfl

/-- the records of a file, and the code -/
def unb (s : List UInt8) : Recs × Nat :=
  if s.length = 0 ∨ 60000 < s.length ∨ s.length % 1014 ≠ 0 then ([], 1)
  else if padAll s = false then ([], 2)
  else match walkR (streamOf s) ((streamOf s).length + 1) 0 [] with
    | none => ([], 3)
    | some p => if blockOk p.1 = true ∧ blockL p.1 = s then (p.1, 0) else ([], 4)
theorem unb_1 {s : List UInt8} (h : s.length = 0 ∨ 60000 < s.length ∨ s.length % 1014 ≠ 0) : unb s = ([], 1) := if_pos h
theorem unb_2 {s : List UInt8} (h : ¬ (s.length = 0 ∨ 60000 < s.length ∨ s.length % 1014 ≠ 0)) (h2 : padAll s = false) : unb s = ([], 2) := by rw [unb, if_neg h, if_pos h2]
theorem unb_3 {s : List UInt8} (h : ¬ (s.length = 0 ∨ 60000 < s.length ∨ s.length % 1014 ≠ 0)) (h2 : padAll s = true) (h3 : walkR (streamOf s) ((streamOf s).length + 1) 0 [] = none) : unb s = ([], 3) := by
  rw [unb, if_neg h, if_neg (by rw [h2]; decide), h3]
theorem unb_4 {s : List UInt8} {out : Recs} {e : Nat} (h : ¬ (s.length = 0 ∨ 60000 < s.length ∨ s.length % 1014 ≠ 0)) (h2 : padAll s = true) (h3 : walkR (streamOf s) ((streamOf s).length + 1) 0 [] = some (out, e)) (h4 : ¬ (blockOk out = true ∧ blockL out = s)) : unb s = ([], 4) := by
  rw [unb, if_neg h, if_neg (by rw [h2]; decide), h3]; exact if_neg h4
theorem unb_0 {s : List UInt8} {out : Recs} {e : Nat} (h : ¬ (s.length = 0 ∨ 60000 < s.length ∨ s.length % 1014 ≠ 0)) (h2 : padAll s = true) (h3 : walkR (streamOf s) ((streamOf s).length + 1) 0 [] = some (out, e)) (h4 : blockOk out = true ∧ blockL out = s) : unb s = (out, 0) := by
  rw [unb, if_neg h, if_neg (by rw [h2]; decide), h3]; exact if_pos h4
theorem unb_code (s : List UInt8) : (unb s).2 ≤ 4 := by
  unfold unb
  split
  · decide
  · split
    · decide
    · split
      · decide
      · split <;> simp
theorem unb_not {s : List UInt8} (h : (unb s).2 ≠ 0) : (unb s).1 = [] := by
  unfold unb at h ⊢
  split at h
  · rename_i h1; rw [if_pos h1]
  · rename_i h1; rw [if_neg h1]
    split at h
    · rename_i h2; rw [if_pos h2]
    · rename_i h2; rw [if_neg h2]
      split at h
      · rfl
      · rename_i p h3
        split at h
        · exact absurd rfl h
        · rename_i h4; exact congrArg Prod.fst (if_neg h4)
theorem unb_is {s : List UInt8} (h : (unb s).2 = 0) : blockOk (unb s).1 = true ∧ blockL (unb s).1 = s := by
  unfold unb at h ⊢
  split at h
  · cases h
  · rename_i h1; rw [if_neg h1]
    split at h
    · cases h
    · rename_i h2; rw [if_neg h2]
      split at h
      · cases h
      · rename_i p h3
        split at h
        · rename_i h4
          have e : (if blockOk p.1 = true ∧ blockL p.1 = s then (p.1, 0) else (([] : Recs), 4)) = (p.1, 0) := if_pos h4
          show blockOk (if blockOk p.1 = true ∧ blockL p.1 = s then (p.1, 0) else (([] : Recs), 4)).1 = true ∧ blockL (if blockOk p.1 = true ∧ blockL p.1 = s then (p.1, 0) else (([] : Recs), 4)).1 = s
          rw [e]; exact h4
        · cases h
theorem blockL_shape {rs : Recs} (h : blockOk rs = true) : ¬ ((blockL rs).length = 0 ∨ 60000 < (blockL rs).length ∨ (blockL rs).length % 1014 ≠ 0) := by
  obtain ⟨h1, h2, h3⟩ := blockOk_parts h
  have hl := laid_len rs
  have hb := nBlk_le (laid rs).length
  rw [blockL_yes h, fileOf_len]
  omega
theorem unb_block {rs : Recs} (h : blockOk rs = true) : unb (blockL rs) = (rs, 0) := by
  have hs := blockL_shape h
  obtain ⟨h1, h2, h3⟩ := blockOk_parts h
  have hy := blockL_yes h
  obtain ⟨e1, e2⟩ := stream_file (filled (laid rs)) (nBlk (laid rs).length) (filled_len _).symm
  have hw := walkR_laid (List.replicate (nBlk (laid rs).length * 1012 - (laid rs).length) 64) rs [] ((filled (laid rs)).length + 1) h2 (by simpa using h1) (by
    have : rs.length ≤ (layR rs).length := by
      clear hs hy e1 e2 h h1 h2 h3
      induction rs with
      | nil => simp
      | cons r q ih => rw [layR_cons, List.length_append, lay1_len, List.length_cons]; omega
    have := laid_len rs
    have := filled_len (laid rs)
    have := nBlk_le (laid rs).length
    omega)
  have hf : layR [] ++ (layR rs ++ be4 0 ++ List.replicate (nBlk (laid rs).length * 1012 - (laid rs).length) 64) = filled (laid rs) := rfl
  rw [hf] at hw
  refine unb_0 (e := (layR []).length + (layR rs).length + 4) hs (by rw [hy]; exact e2) ?_ ⟨h, rfl⟩
  rw [hy, fileOf, e1]
  exact hw
/-- what the program looks at instead: little enough behind the end, and only filling -/
theorem rest_iff {s : List UInt8} {out : Recs} {e : Nat} (h : ¬ (s.length = 0 ∨ 60000 < s.length ∨ s.length % 1014 ≠ 0)) (h2 : padAll s = true) (h3 : walkR (streamOf s) ((streamOf s).length + 1) 0 [] = some (out, e)) :
    (blockOk out = true ∧ blockL out = s) ↔ ((streamOf s).length - e < 1012 ∧ within 64 64 ((streamOf s).drop e) = true) := by
  obtain ⟨w1, w2, w3, w4⟩ := walkR_is _ _ _ _ _ _ h3 rfl (Nat.zero_le _) rfl (Nat.zero_le _)
  have hsl : (streamOf s).length = s.length / 1014 * 1012 := streamM_len s _ (by omega)
  have hfs := file_of_stream (by omega) h2
  have hel : (laid out).length = e := by rw [← w1, List.length_take]; omega
  have hb1 := nBlk_le (laid out).length
  have hb2 := nBlk_lt (laid out).length
  constructor
  · rintro ⟨g1, g2⟩
    rw [blockL_yes g1] at g2
    have g3 : fileM (filled (laid out)) (nBlk (laid out).length) = fileM (streamOf s) (s.length / 1014) := by rw [hfs]; exact g2
    obtain ⟨hm, ht⟩ := fileM_inj (filled_len _).symm hsl.symm g3
    refine ⟨by omega, ?_⟩
    rw [← ht, filled, ← hel, List.drop_left]
    apply within_of
    intro c hc
    obtain rfl := (List.mem_replicate.1 hc).2
    decide
  · rintro ⟨g1, g2⟩
    have hm : nBlk (laid out).length = s.length / 1014 := by omega
    have hok : blockOk out = true := blockOk_of w4 w3 (by omega)
    refine ⟨hok, ?_⟩
    rw [blockL_yes hok, fileOf, hm]
    have ht : filled (laid out) = streamOf s := by
      rw [filled, hm, ← w1]
      conv => rhs; rw [← List.take_append_drop e (streamOf s)]
      congr 1
      apply List.ext_getElem
      · rw [List.length_replicate, List.length_take, List.length_drop]; omega
      · intro i p q
        rw [List.getElem_replicate]
        have := within_mem g2 _ (List.getElem_mem q)
        apply UInt8.toNat_inj.1
        show 64 = _
        omega
    rw [ht]; exact hfs

end Go.Proofs.YtbncdhfmhokgeaaGreatDoor

/- Bytes that lie in a block of one's own, from its head on: cuts of it, copies into it, its text. -/
namespace Go.Proofs.YtbncdhfmhokgeaaGreatDoor
open Go.RowKit
set_option maxRecDepth 100000

/-- block g of w holds the bytes l from its head on, and they may be written -/
structure Row (w : World) (g : Nat) (l : List UInt8) : Prop where
  cell : ∀ j x, l[j]? = some x → w.cell? ⟨g, j, none⟩ = some (.int .u8 (x.toNat : Int))
  free : ∀ j, j < l.length → w.frozen? ⟨g, j, none⟩ = false
  lt : g < w.heap.size
theorem Row.below {w w' : World} {g : Nat} {l : List UInt8} (h : Row w g l) (hb : Below w.heap.size w w') : Row w' g l :=
  ⟨fun j x hx => (hb.cell (p := ⟨g, j, none⟩) h.lt).trans (h.cell j x hx), fun j hj => (hb.frozen (p := ⟨g, j, none⟩) h.lt).trans (h.free j hj), Nat.lt_of_lt_of_le h.lt hb.size⟩
theorem Row.keep {w w' : World} {g B : Nat} {l : List UInt8} (h : Row w g l) (hb : Below B w w') (hg : g < B) : Row w' g l :=
  ⟨fun j x hx => (hb.cell (p := ⟨g, j, none⟩) hg).trans (h.cell j x hx), fun j hj => (hb.frozen (p := ⟨g, j, none⟩) hg).trans (h.free j hj), Nat.lt_of_lt_of_le h.lt hb.size⟩
theorem Row.at {w : World} {g : Nat} {l : List UInt8} (h : Row w g l) {k : Nat} (hk : k < l.length) : w.cell? ⟨g, k, none⟩ = some (.int .u8 ((l.getD k 0).toNat : Int)) := by
  refine h.cell k _ ?_
  rw [List.getD_eq_getElem?_getD, List.getElem?_eq_getElem hk]; rfl

theorem add_at (g o j : Nat) : (⟨g, o, none⟩ : Addr).add j = ⟨g, o + j, none⟩ := by unfold Addr.add; split <;> simp_all
theorem size8 (w : World) : (sizeOf 5).run Tryz.prog w = .ok 1 w := by
  obtain ⟨i0, hi, hz0, hz1, hz2⟩ := info_parts info5
  simp [sizeOf, typeInfo, hi, hz1]
theorem elem8 : Tryz.prog.elem 22 = 5 := by simp [Program.elem, Tryz.underlying22]
theorem under8 : Tryz.prog.underlying 22 = some (.slice (Tryz.prog.elem 22)) := by rw [elem8]; exact Tryz.underlying22
theorem one8 : (Tryz.prog.info? 5).map (·.size) = some 1 := by kernel_rfl

/-- cuts of a slice, by one name each -/
theorem sl_l {g o n c : Nat} {x : Int} (k : Nat) (hx : x = k) (hk : k ≤ n) (hc : k < c) (W : World) :
    (Instr.slice 22 (.slice (some ⟨g, o, none⟩) n c) (some (.int .i64 x)) none none).run Tryz.prog W = .ok (.slice (some ⟨g, o + k, none⟩) (n - k) (c - k)) W := by
  subst hx
  rw [run_slice_l W _ _ _ _ under8 .i64 _ (by omega) (by omega), elem8, size8]
  simp [Result.andThen, sliced, add_at, show ¬ c = k by omega]
theorem sl_h {g o n c : Nat} {x : Int} (k : Nat) (hx : x = k) (hk : k ≤ c) (hc : 0 < c) (W : World) :
    (Instr.slice 22 (.slice (some ⟨g, o, none⟩) n c) none (some (.int .i64 x)) none).run Tryz.prog W = .ok (.slice (some ⟨g, o, none⟩) k c) W := by
  subst hx
  rw [run_slice_h W _ _ _ _ under8 .i64 _ (by omega) (by omega), elem8, size8]
  simp [Result.andThen, sliced, add_at, show ¬ c = 0 by omega]
theorem sl_lh {g o n c : Nat} {x y : Int} (k m : Nat) (hx : x = k) (hy : y = m) (hk : k ≤ m) (hm : m ≤ c) (hc : k < c) (W : World) :
    (Instr.slice 22 (.slice (some ⟨g, o, none⟩) n c) (some (.int .i64 x)) (some (.int .i64 y)) none).run Tryz.prog W = .ok (.slice (some ⟨g, o + k, none⟩) (m - k) (c - k)) W := by
  subst hx; subst hy
  rw [run_slice_lh W _ _ _ _ under8 .i64 .i64 _ _ (by omega) (by omega) (by omega), elem8, size8]
  simp [Result.andThen, sliced, add_at, show ¬ c = k by omega]
theorem sl_lhm {g o n c : Nat} {x y z : Int} (k m q : Nat) (hx : x = k) (hy : y = m) (hz : z = q) (hk : k ≤ m) (hm : m ≤ q) (hq : q ≤ c) (hc : k < q) (W : World) :
    (Instr.slice 22 (.slice (some ⟨g, o, none⟩) n c) (some (.int .i64 x)) (some (.int .i64 y)) (some (.int .i64 z))).run Tryz.prog W = .ok (.slice (some ⟨g, o + k, none⟩) (m - k) (q - k)) W := by
  subst hx; subst hy; subst hz
  rw [run_slice_lhm W _ _ _ _ under8 .i64 .i64 .i64 _ _ _ (by omega) (by omega) (by omega) (by omega), elem8, size8]
  simp [Result.andThen, sliced, add_at, show ¬ q = k by omega]
theorem sl_hm {g o n c : Nat} {y z : Int} (m q : Nat) (hy : y = m) (hz : z = q) (hm : m ≤ q) (hq : q ≤ c) (hc : 0 < q) (W : World) :
    (Instr.slice 22 (.slice (some ⟨g, o, none⟩) n c) none (some (.int .i64 y)) (some (.int .i64 z))).run Tryz.prog W = .ok (.slice (some ⟨g, o, none⟩) m q) W := by
  subst hy; subst hz
  rw [run_slice_hm W _ _ _ _ under8 .i64 .i64 _ _ (by omega) (by omega) (by omega), elem8, size8]
  simp [Result.andThen, sliced, add_at, show ¬ q = 0 by omega]

/-- the text of bytes that lie anywhere -/
theorem text_at {w : World} {g o c : Nat} {l : List UInt8} (h : ∀ j x, l[j]? = some x → w.cell? ⟨g, o + j, none⟩ = some (.int .u8 (x.toNat : Int))) :
    (convert 22 9 (.slice (some ⟨g, o, none⟩) l.length c)).run Tryz.prog w = .ok (.string ⟨l.toArray⟩) w := by
  refine run_convert_bytes_back w _ _ _ _ _ _ Tryz.underlying22 Tryz.underlying5 Tryz.underlying9 fun j hj => ?_
  rw [add_at]
  exact h j _ (List.getElem?_eq_getElem hj)

/-- copy into such bytes -/
theorem run_copy_into {w : World} {g o dLen dCap : Nat} {l cs : List UInt8} {a : Addr} {sLen sCap : Nat} (ty : TypeId) (hr : Row w g l) (hn : cs.length = Nat.min sLen dLen) (hfit : o + cs.length ≤ l.length)
    (hsrc : ∀ j x, cs[j]? = some x → w.cell? (a.add j) = some (.int .u8 (x.toNat : Int))) :
    ∃ w', (Builtin.copy_ #[22, 22] ty #[.slice (some ⟨g, o, none⟩) dLen dCap, .slice (some a) sLen sCap]).run Tryz.prog w = .ok (.int .i64 (cs.length : Int)) w' ∧ Row w' g (splice l o cs) ∧ Below g w w' := by
  have hget : ∀ j, j < l.length → (w.cell? ⟨g, j, none⟩).isSome = true := fun j hj => by rw [hr.cell j _ (List.getElem?_eq_getElem hj)]; rfl
  have hl : (cs.map fun x => Value.int .u8 (x.toNat : Int)).length = cs.length := List.length_map ..
  have hrun := run_copy_cells (P := Tryz.prog) w 22 22 ty 5 g o dLen dCap a sLen sCap (cs.map fun x => Value.int .u8 (x.toNat : Int)) Tryz.underlying22 one8 (by rw [hl]; exact hn)
    (fun j u hj => by
      rw [List.getElem?_map] at hj
      obtain ⟨x, hx, rfl⟩ := Option.map_eq_some_iff.1 hj
      exact hsrc j x hx)
    (fun j hj => by rw [hl] at hj; exact hget _ (by omega)) (fun j hj => by rw [hl] at hj; exact hr.free _ (by omega))
    (fun u hu' => by obtain ⟨x, _, rfl⟩ := List.mem_map.1 hu'; rfl)
  rw [hl] at hrun
  have hbel : Below g w (w.setCells g o (cs.map fun x => Value.int .u8 (x.toNat : Int))) := Lib.below_setCells g (Nat.le_refl _) _ _ (Below.refl _ _)
  have hin := World.cell?_setCells_in g (cs.map fun x => Value.int .u8 (x.toNat : Int)) o w (fun j hj => by rw [hl] at hj; exact hget _ (by omega))
  have hout := World.cell?_setCells_out g (cs.map fun x => Value.int .u8 (x.toNat : Int)) o w
  have hsl := length_splice l o cs hfit
  refine ⟨_, hrun, ⟨fun j x hx => ?_, fun j hj => ?_, Nat.lt_of_lt_of_le hr.lt hbel.size⟩, hbel⟩
  · have hj : j < l.length := by rw [← hsl]; exact (List.getElem?_eq_some_iff.1 hx).1
    by_cases h1 : j < o
    · rw [hout ⟨g, j, none⟩ (fun _ _ => Or.inl h1)]
      refine hr.cell j x ?_
      rw [← hx, splice, List.getElem?_append_left (by rw [List.length_take]; omega), List.getElem?_take, if_pos h1]
    · by_cases h2 : j < o + cs.length
      · obtain ⟨d, rfl⟩ : ∃ d, j = o + d := ⟨j - o, by omega⟩
        rw [hin d (by rw [hl]; omega)]
        rw [splice, List.getElem?_append_right (by rw [List.length_take]; omega), List.length_take, Nat.min_eq_left (by omega), Nat.add_sub_cancel_left, List.getElem?_append_left (by omega)] at hx
        simp [List.getElem_map, (List.getElem?_eq_some_iff.1 hx).2]
      · rw [hout ⟨g, j, none⟩ (fun _ _ => Or.inr (by rw [hl]; show o + cs.length ≤ j; omega))]
        refine hr.cell j x ?_
        rw [splice, List.getElem?_append_right (by rw [List.length_take]; omega), List.length_take, Nat.min_eq_left (by omega), List.getElem?_append_right (by omega), List.getElem?_drop] at hx
        rw [← hx]; congr 1; omega
  · rw [World.frozen?_setCells]
    exact hr.free j (by rw [← hsl]; exact hj)

theorem step_copy_row {ops : Array Oper} {o : Oper} {a : Act} {w : World} {K : Act → World → Prop} {Q : Exit → Act → World → Prop} {E : Prop} (hgd : o.guard = none) (d s : Operand)
    (ho : o.op = .call { callee := .builtin .copy, args := #[d, s], argTypes := #[22, 22] }) (g off dLen dCap : Nat) (l cs : List UInt8) (ad : Addr) (sLen sCap : Nat)
    (hd : a.eval d = .slice (some ⟨g, off, none⟩) dLen dCap) (hs : a.eval s = .slice (some ad) sLen sCap) (hr : Row w g l) (hn : cs.length = Nat.min sLen dLen) (hfit : off + cs.length ≤ l.length)
    (hsrc : ∀ j x, cs[j]? = some x → w.cell? (ad.add j) = some (.int .u8 (x.toNat : Int)))
    (h : ∀ w', Row w' g (splice l off cs) → Below g w w' → K (a.put o.dst (.int .i64 (cs.length : Int))) w') :
    if Region.wanted o (yielded ops a.tmps) = true then Oper.wp Tryz.prog o a w K Q else E := by
  rw [if_pos (by simp [Region.wanted, hgd])]
  obtain ⟨w', hrun, h1, h2⟩ := run_copy_into o.type hr hn hfit hsrc (dLen := dLen) (dCap := dCap) (sCap := sCap)
  exact Lib.wp_copy_run w d s _ _ ho _ _ hd hs hrun (h w' h1 h2)

/-- a row that one owns is such a row -/
theorem row_of_own {w : World} {base n g c : Nat} {l : List UInt8} (h : w.ownsRow base 5 1 (.slice (some ⟨g, 0, none⟩) n c) n (l.map cell)) : Row w g l := by
  have hl : l.length = n := by simpa using h.1
  subst hl
  refine ⟨fun j x hx => ?_, fun j _ => h.frozenAt j, (h.lt g rfl).2⟩
  have hj := (List.getElem?_eq_some_iff.1 hx).1
  rw [h.cellAt j (by omega), List.getElem?_map, hx]; rfl

/-- bytes that can be read at a slice -/
def BytesIn (w : World) (v : Value) (l : List UInt8) : Prop := ∃ g o c, v = .slice (some ⟨g, o, none⟩) l.length c ∧ l.length ≤ c ∧ g < w.heap.size ∧ ∀ j x, l[j]? = some x → w.cell? ⟨g, o + j, none⟩ = some (.int .u8 (x.toNat : Int))

end Go.Proofs.YtbncdhfmhokgeaaGreatDoor

/- A text turned into bytes of its own: a new block, whose room behind the bytes is anyone's. -/
namespace Go.Proofs.YtbncdhfmhokgeaaGreatDoor
open Go.RowKit
set_option maxRecDepth 100000

def convR (d : List UInt8) (W : World) : Array Value := bytesRow ⟨d.toArray⟩ (grownCap W d.length 0 5)
def convW (d : List UInt8) (W : World) : World := W.drew.alloc (.cells (convR d W) 5 ((convR d W).size, (convR d W).size + 1))
def convC (d : List UInt8) (W : World) : Nat := grownCap W d.length 0 5
theorem conv_run (d : List UInt8) (W : World) : (convert 9 22 (.string ⟨d.toArray⟩)).run Tryz.prog W = .ok (.slice (some ⟨W.heap.size, 0, none⟩) d.length (convC d W)) (convW d W) := by
  have h := run_bytes_of_string (P := Tryz.prog) W 9 22 5 ⟨d.toArray⟩ Tryz.underlying9 Tryz.underlying22 Tryz.underlying5
  rw [ba_size] at h
  exact h
theorem convW_size (d : List UInt8) (W : World) : (convW d W).heap.size = W.heap.size + 1 := by simp [convW, World.alloc, World.drew, -World.alloc_eq, -World.drew_eq]
theorem convW_below (d : List UInt8) (W : World) : Below W.heap.size W (convW d W) := ((Below.refl _ _).drew).alloc (Nat.le_refl _) _
theorem convC_ge (d : List UInt8) (W : World) : d.length ≤ convC d W := grownCap_ge W d.length 0 5
theorem convC_le (d : List UInt8) (W : World) (h : d.length ≤ maxLen) : convC d W ≤ maxLen := grownCap_le_maxLen W d.length 0 5 h
theorem convW_row (d : List UInt8) (W : World) : Row (convW d W) W.heap.size d := by
  have hh : (convW d W).heap[W.heap.size]? = some (.cells (convR d W) 5 ((convR d W).size, (convR d W).size + 1)) := heap_alloc_new W.drew _
  have hsz : d.length ≤ (convR d W).size := by simp [convR, bytesRow]
  refine ⟨fun j x hx => ?_, fun j hj => ?_, by rw [convW_size]; omega⟩
  · have hj := (List.getElem?_eq_some_iff.1 hx).1
    rw [cell_of_row _ W.heap.size j _ _ _ hh]
    simp [convR, bytesRow, Array.getElem?_append, hj, (List.getElem?_eq_some_iff.1 hx).2]
  · unfold World.frozen?
    rw [hh]
    simp; omega

end Go.Proofs.YtbncdhfmhokgeaaGreatDoor

/- A message with a field put in, plainly. No Go in sight. -/
namespace Go.Proofs.YtbncdhfmhokgeaaGreatDoor

def ltN (num : Int) (f : Fld) : Bool := decide (f.1 < num)
def leN (num : Int) (f : Fld) : Bool := decide (f.1 ≤ num)
def gtN (num : Int) (f : Fld) : Bool := decide (num < f.1)
def geN (num : Int) (f : Fld) : Bool := decide (num ≤ f.1)
def withF (fs : List Fld) (num : Int) (d : List UInt8) : List Fld := fs.filter (ltN num) ++ (num, d) :: fs.filter (gtN num)
def cL (fs : List Fld) (num : Int) : Nat := fs.countP (ltN num)
def cLe (fs : List Fld) (num : Int) : Nat := fs.countP (leN num)

theorem take_cL {fs : List Fld} {num : Int} : ∀ {p : Int}, okF p fs = true → fs.take (cL fs num) = fs.filter (ltN num) := by
  induction fs with
  | nil => intro p _; rfl
  | cons f r ih =>
    intro p h
    simp only [okF, Bool.and_eq_true, decide_eq_true_eq] at h
    by_cases hf : f.1 < num
    · have hl : ltN num f = true := decide_eq_true hf
      rw [List.filter_cons_of_pos hl, cL, List.countP_cons_of_pos hl, List.take_succ_cons, ← ih h.2, cL]
    · have hl : ¬ ltN num f = true := by simp [ltN]; omega
      have h0 : r.filter (ltN num) = [] := List.filter_eq_nil_iff.2 fun g hg => by
        have := (okF_mem h.2 g hg).2
        simp [ltN]; omega
      have hc : r.countP (ltN num) = 0 := by rw [List.countP_eq_length_filter, h0]; rfl
      rw [List.filter_cons_of_neg hl, cL, List.countP_cons_of_neg hl, hc, h0]; rfl
theorem drop_cLe {fs : List Fld} {num : Int} : ∀ {p : Int}, okF p fs = true → fs.drop (cLe fs num) = fs.filter (gtN num) := by
  induction fs with
  | nil => intro p _; rfl
  | cons f r ih =>
    intro p h
    simp only [okF, Bool.and_eq_true, decide_eq_true_eq] at h
    by_cases hf : f.1 ≤ num
    · have hl : leN num f = true := decide_eq_true hf
      have hg : ¬ gtN num f = true := by simp [gtN]; omega
      rw [List.filter_cons_of_neg hg, cLe, List.countP_cons_of_pos hl, List.drop_succ_cons, ← ih h.2, cLe]
    · have hl : ¬ leN num f = true := by simp [leN]; omega
      have hg : gtN num f = true := by simp [gtN]; omega
      have hc : r.countP (leN num) = 0 := List.countP_eq_zero.2 fun g hg => by
        have := (okF_mem h.2 g hg).2
        simp [leN]; omega
      have ha : r.filter (gtN num) = r := List.filter_eq_self.2 fun g hg => by
        have := (okF_mem h.2 g hg).2
        simp [gtN]; omega
      rw [List.filter_cons_of_pos hg, cLe, List.countP_cons_of_neg hl, hc, ha]; rfl
theorem cL_le (fs : List Fld) (num : Int) : cL fs num ≤ fs.length := List.countP_le_length
theorem cLe_le (fs : List Fld) (num : Int) : cLe fs num ≤ fs.length := List.countP_le_length
theorem take_one (fs : List Fld) (k : Nat) (h : k < fs.length) : fs.take (k + 1) = fs.take k ++ [at0 fs k] := by
  have e : at0 fs k = fs[k] := by simp [at0, List.getD_eq_getElem?_getD, h]
  rw [List.take_succ_eq_append_getElem h, e]
theorem cL_step (fs : List Fld) (num : Int) (k : Nat) (h : k < fs.length) : cL (fs.take (k + 1)) num = cL (fs.take k) num + if (at0 fs k).1 < num then 1 else 0 := by
  rw [take_one fs k h, cL, List.countP_append]
  by_cases hf : (at0 fs k).1 < num <;> simp [cL, ltN, hf]
theorem cLe_step (fs : List Fld) (num : Int) (k : Nat) (h : k < fs.length) : cLe (fs.take (k + 1)) num = cLe (fs.take k) num + if (at0 fs k).1 ≤ num then 1 else 0 := by
  rw [take_one fs k h, cLe, List.countP_append]
  by_cases hf : (at0 fs k).1 ≤ num <;> simp [cLe, leN, hf]
theorem withF_parts {fs : List Fld} {num : Int} {d : List UInt8} {p : Int} (h : okF p fs = true) : fs.take (cL fs num) ++ [(num, d)] ++ fs.drop (cLe fs num) = withF fs num d := by
  rw [take_cL h, drop_cLe h, withF, List.append_assoc]; rfl

/-- what the specification has behind k rounds -/
def putK (fs : List Fld) (num : Int) (k : Nat) : Bool := (fs.take k).any (geN num)
def withK (fs : List Fld) (num : Int) (d : List UInt8) (k : Nat) : List Fld := if putK fs num k = true then withF (fs.take k) num d else fs.take k
theorem withK_zero (fs : List Fld) (num : Int) (d : List UInt8) : withK fs num d 0 = [] := rfl
theorem sorted_at {fs : List Fld} {p : Int} (h : okF p fs = true) : ∀ i k, i < k → k < fs.length → (at0 fs i).1 < (at0 fs k).1 := by
  induction fs generalizing p with
  | nil => intro i k _ hk; simp at hk
  | cons f r ih =>
    intro i k hik hk
    simp only [okF, Bool.and_eq_true, decide_eq_true_eq] at h
    cases k with
    | zero => omega
    | succ k =>
      have hk' : k < r.length := by simpa using hk
      cases i with
      | zero =>
        have e : at0 r k = r[k] := by simp [at0, List.getD_eq_getElem?_getD, hk']
        have := (okF_mem h.2 (at0 r k) (by rw [e]; exact List.getElem_mem hk')).2
        exact this
      | succ i => exact ih h.2 i k (by omega) hk'
theorem mem_take_at {fs : List Fld} {k : Nat} {f : Fld} (h : f ∈ fs.take k) : ∃ i, i < k ∧ i < fs.length ∧ f = at0 fs i := by
  obtain ⟨i, hi, rfl⟩ := List.getElem_of_mem h
  have : i < k ∧ i < fs.length := by simp at hi; omega
  exact ⟨i, this.1, this.2, by simp [at0, List.getD_eq_getElem?_getD, this.2]⟩
theorem putK_not {fs : List Fld} {num : Int} {k : Nat} (h : putK fs num k = false) : ∀ f ∈ fs.take k, f.1 < num := by
  intro f hf
  have := List.any_eq_false.1 h f hf
  simp [geN] at this; exact this
theorem filt_lt {l : List Fld} {num : Int} (h : ∀ f ∈ l, f.1 < num) : l.filter (ltN num) = l ∧ l.filter (gtN num) = [] :=
  ⟨List.filter_eq_self.2 fun f hf => decide_eq_true (h f hf), List.filter_eq_nil_iff.2 fun f hf => by have := h f hf; simp [gtN]; omega⟩
theorem withK_low {fs : List Fld} {num : Int} {d : List UInt8} {k : Nat} (hp : putK fs num k = false) (hk : k < fs.length) (hf : (at0 fs k).1 < num) : putK fs num (k + 1) = false ∧ withK fs num d (k + 1) = withK fs num d k ++ [at0 fs k] := by
  have h1 : putK fs num (k + 1) = false := by
    unfold putK at hp ⊢
    rw [take_one fs k hk, List.any_append, hp]
    simp [geN]; omega
  refine ⟨h1, ?_⟩
  rw [withK, withK, h1, hp, take_one fs k hk]; rfl
theorem withK_here {fs : List Fld} {num : Int} {d : List UInt8} {k : Nat} (hp : putK fs num k = false) (hk : k < fs.length) (hf : num ≤ (at0 fs k).1) :
    putK fs num (k + 1) = true ∧ withK fs num d (k + 1) = withK fs num d k ++ [(num, d)] ++ (if (at0 fs k).1 ≠ num then [at0 fs k] else []) := by
  have h1 : putK fs num (k + 1) = true := by
    unfold putK
    rw [take_one fs k hk, List.any_append]
    simp [geN, hf]
  refine ⟨h1, ?_⟩
  obtain ⟨a, b⟩ := filt_lt (putK_not hp)
  rw [withK, withK, h1, hp, if_pos rfl, if_neg (by decide), withF, take_one fs k hk, List.filter_append, List.filter_append, a, b]
  have c : [at0 fs k].filter (ltN num) = [] := by simp [ltN]; omega
  by_cases hne : (at0 fs k).1 = num
  · have e : [at0 fs k].filter (gtN num) = [] := by simp [gtN]; omega
    rw [c, e, if_neg (by simpa using hne)]; simp
  · have e : [at0 fs k].filter (gtN num) = [at0 fs k] := by simp [gtN]; omega
    rw [c, e, if_pos hne]; simp
theorem withK_high {fs : List Fld} {num : Int} {d : List UInt8} {k : Nat} {p : Int} (ho : okF p fs = true) (hp : putK fs num k = true) (hk : k < fs.length) :
    num < (at0 fs k).1 ∧ putK fs num (k + 1) = true ∧ withK fs num d (k + 1) = withK fs num d k ++ [at0 fs k] := by
  have hlt : num < (at0 fs k).1 := by
    obtain ⟨f, hf, hg⟩ := List.any_eq_true.1 hp
    obtain ⟨i, hi, hil, rfl⟩ := mem_take_at hf
    have := sorted_at ho i k hi hk
    simp [geN] at hg; omega
  have h1 : putK fs num (k + 1) = true := by
    unfold putK at hp ⊢
    rw [take_one fs k hk, List.any_append, hp]; rfl
  refine ⟨hlt, h1, ?_⟩
  have c : [at0 fs k].filter (ltN num) = [] := by simp [ltN]; omega
  have e : [at0 fs k].filter (gtN num) = [at0 fs k] := by simp [gtN]; omega
  rw [withK, withK, h1, hp, if_pos rfl, if_pos rfl, withF, withF, take_one fs k hk, List.filter_append, List.filter_append, c, e]
  simp
theorem withK_end (fs : List Fld) (num : Int) (d : List UInt8) : withF fs num d = if putK fs num fs.length = true then withK fs num d fs.length else withK fs num d fs.length ++ [(num, d)] := by
  rw [withK, List.take_of_length_le (Nat.le_refl _)]
  cases hp : putK fs num fs.length
  · have h := putK_not hp
    rw [List.take_of_length_le (Nat.le_refl _)] at h
    obtain ⟨a, b⟩ := filt_lt h
    rw [if_neg (by decide), if_neg (by decide), withF, a, b]
  · rw [if_pos rfl, if_pos rfl]
theorem withK_len (fs : List Fld) (num : Int) (d : List UInt8) (k : Nat) : (withK fs num d k).length ≤ fs.length + 1 := by
  unfold withK
  split
  · rw [withF]
    have h3 : ∀ l : List Fld, (l.filter (ltN num)).length + (l.filter (gtN num)).length ≤ l.length := by
      intro l
      induction l with
      | nil => simp
      | cons f r ih =>
        by_cases h1 : f.1 < num
        · rw [List.filter_cons_of_pos (by simpa [ltN] using h1), List.filter_cons_of_neg (by simp [gtN]; omega)]; simp; omega
        · rw [List.filter_cons_of_neg (by simpa [ltN] using h1)]
          by_cases h2 : num < f.1
          · rw [List.filter_cons_of_pos (by simpa [gtN] using h2)]; simp; omega
          · rw [List.filter_cons_of_neg (by simpa [gtN] using h2)]; simp; omega
    have := h3 (fs.take k)
    have h4 : (fs.take k).length ≤ fs.length := by rw [List.length_take]; omega
    simp; omega
  · rw [List.length_take]; omega
theorem withF_len (fs : List Fld) (num : Int) (d : List UInt8) : (withF fs num d).length ≤ fs.length + 1 := by
  have h := withK_len fs num d fs.length
  rw [withK, List.take_of_length_le (Nat.le_refl _)] at h
  unfold withF at h ⊢
  have h3 : ∀ l : List Fld, (l.filter (ltN num)).length + (l.filter (gtN num)).length ≤ l.length := by
    intro l
    induction l with
    | nil => simp
    | cons f r ih =>
      by_cases h1 : f.1 < num
      · rw [List.filter_cons_of_pos (by simpa [ltN] using h1), List.filter_cons_of_neg (by simp [gtN]; omega)]; simp; omega
      · rw [List.filter_cons_of_neg (by simpa [ltN] using h1)]
        by_cases h2 : num < f.1
        · rw [List.filter_cons_of_pos (by simpa [gtN] using h2)]; simp; omega
        · rw [List.filter_cons_of_neg (by simpa [gtN] using h2)]; simp; omega
  have := h3 fs
  simp; omega
theorem withF_mem {fs : List Fld} {num : Int} {d : List UInt8} {f : Fld} (h : f ∈ withF fs num d) : f ∈ fs ∨ f = (num, d) := by
  simp only [withF, List.mem_append, List.mem_cons, List.mem_filter] at h
  rcases h with h | h | h
  · exact .inl h.1
  · exact .inr h
  · exact .inl h.1

end Go.Proofs.YtbncdhfmhokgeaaGreatDoor

/- A region that draws its order and whose callees make memory of their own: walked once, over the class of all worlds in which what was there stands. -/
namespace Go.Proofs.YtbncdhfmhokgeaaGreatDoor
open Go.RowKit

/-- a world in which all that W holds stands -/
structure Over (W : World) where
  x : World
  h : Below W.heap.size W x

theorem over_ne (W : World) : Nonempty (Over W) := ⟨⟨W, Below.refl _ _⟩⟩
theorem over_cell {W : World} {a : Addr} {v : Value} (h : W.cell? a = some v) (z : Over W) : z.x.cell? a = some v := (z.h.cell (p := a) (World.block_lt_of_cell? W _ h)).trans h

theorem wp_region_over {P : Program} {id : Nat} {Q : Exit → Act → World → Prop} {a : Act} {w : World} {l : List Oper} (hm : P.follows .mixedOrders = true) (hB : Region.lexB .any l.toArray = true)
    (h : wpQuiet P l.toArray (fun w' => ∃ z : Over w, w' = z.x) (fun a' => ∀ w', (∃ z : Over w, w' = z.x) → Q .normal a' w') l a) : (Code.region id l.toArray true).wp P Q a w :=
  wp_region_quiet (C := fun w' => ∃ z : Over w, w' = z.x) hm hB ⟨⟨_, (Below.refl _ _).drew⟩, rfl⟩ (by simpa using h)

theorem over_of {P : Program} {f : FuncId} {args : Array Value} {w : World} {z : Over w} {v : Value} (h : Calls P f args z.x fun e w' => e = .returned v ∧ Below z.x.heap.size z.x w') :
    Calls P f args z.x fun e w'' => e = .returned v ∧ ∃ y : Over w, w'' = y.x :=
  h.mono fun _ w' ⟨he, hb⟩ => ⟨he, ⟨w', z.h.trans (hb.mono z.h.size)⟩, rfl⟩

end Go.Proofs.YtbncdhfmhokgeaaGreatDoor

/- Two structs of two cells in boxes of their own: what is kept of them. -/
namespace Go.Proofs.YtbncdhfmhokgeaaGreatDoor
open Go.RowKit

theorem twobox {w u : World} {x y x' y' : Value} {t t' : TypeId} (b : Below ((w.alloc (.cells #[x, y] t)).alloc (.cells #[x', y'] t')).heap.size ((w.alloc (.cells #[x, y] t)).alloc (.cells #[x', y'] t')) u) :
    u.cell? ⟨w.heap.size, 0, none⟩ = some x ∧ u.cell? ⟨w.heap.size, 1, none⟩ = some y ∧ u.cell? ⟨w.heap.size + 1, 0, none⟩ = some x' ∧ u.cell? ⟨w.heap.size + 1, 1, none⟩ = some y' ∧
      u.frozen? ⟨w.heap.size + 1, 0, none⟩ = false ∧ u.frozen? ⟨w.heap.size + 1, 1, none⟩ = false ∧ Below w.heap.size w u ∧ w.heap.size + 1 < u.heap.size :=
  ⟨(b.cell (p := ⟨w.heap.size, 0, none⟩) (by simp; omega)).trans (by simp [go_sem]), (b.cell (p := ⟨w.heap.size, 1, none⟩) (by simp; omega)).trans (by simp [go_sem]),
    (b.cell (p := ⟨w.heap.size + 1, 0, none⟩) (by simp)).trans (by simp [go_sem]), (b.cell (p := ⟨w.heap.size + 1, 1, none⟩) (by simp)).trans (by simp [go_sem]),
    (b.frozen (p := ⟨w.heap.size + 1, 0, none⟩) (by simp)).trans (by simp [go_sem]), (b.frozen (p := ⟨w.heap.size + 1, 1, none⟩) (by simp)).trans (by simp [go_sem]),
    (((Below.refl _ _).alloc (Nat.le_refl _) _).alloc (by simp) _).trans (b.mono (by simp; omega)), by have := b.size; simp at this; omega⟩

end Go.Proofs.YtbncdhfmhokgeaaGreatDoor

/- A set comes back from its bytes, over plain lists. No Go in sight. -/
namespace Go.Proofs.YtbncdhfmhokgeaaGreatDoor
open Go.RowKit

theorem filter_asc (N : Nat) (zs : List Int) : ∀ p : Nat, ascS (p : Int) zs = true → (∀ x ∈ zs, x ≤ (N : Int)) → p ≤ N → ((List.range' (p + 1) (N - p)).filter fun n => zs.contains ((n : Nat) : Int)).map (fun n : Nat => (n : Int)) = zs := by
  induction zs with
  | nil =>
    intro p _ _ _
    have : (List.range' (p + 1) (N - p)).filter (fun n => ([] : List Int).contains ((n : Nat) : Int)) = [] := List.filter_eq_nil_iff.2 (fun n _ => by simp)
    rw [this]; rfl
  | cons x r ih =>
    intro p h hN hp
    have h' := h
    rw [ascS, Bool.and_eq_true, decide_eq_true_eq] at h'
    have hxN := hN x (by simp)
    obtain ⟨q, rfl⟩ := Int.eq_ofNat_of_zero_le (show 0 ≤ x by omega)
    have hpq : p < q := by omega
    have hqN : q ≤ N := by omega
    have e1 : List.range' (p + 1) (N - p) = List.range' (p + 1) (q - p - 1) ++ (q :: List.range' (q + 1) (N - q)) := by
      have a := List.range'_append (s := p + 1) (m := q - p - 1) (n := N - q + 1) (step := 1)
      rw [show p + 1 + 1 * (q - p - 1) = q from by omega, show q - p - 1 + (N - q + 1) = N - p from by omega] at a
      rw [← a, List.range'_succ]
    have hr := ascS_mem h'.2
    rw [e1, List.filter_append, List.filter_cons]
    have f1 : (List.range' (p + 1) (q - p - 1)).filter (fun n => ((q : Int) :: r).contains ((n : Nat) : Int)) = [] := by
      refine List.filter_eq_nil_iff.2 fun n hn => ?_
      rw [List.mem_range'_1] at hn
      simp only [List.contains_cons, Bool.or_eq_true, not_or, List.contains_iff_mem]
      constructor
      · simp; omega
      · intro hm
        have := (hr _ hm).1
        omega
    have f2 : (List.range' (q + 1) (N - q)).filter (fun n => ((q : Int) :: r).contains ((n : Nat) : Int)) = (List.range' (q + 1) (N - q)).filter (fun n => r.contains ((n : Nat) : Int)) := by
      refine List.filter_congr fun n hn => ?_
      rw [List.mem_range'_1] at hn
      rw [List.contains_cons]
      have : ((n : Int) == (q : Int)) = false := by simp; omega
      rw [this, Bool.false_or]
    have f3 : ((q : Int) :: r).contains ((q : Nat) : Int) = true := by simp
    rw [f1, f2, if_pos f3, List.nil_append, List.map_cons, ih q h'.2 (fun y hy => hN y (by simp [hy])) hqN]

theorem bitS_two {zs : List Int} {n : Nat} (h : 2 ≤ n) : bitS zs n = zs.contains (n : Int) := by
  unfold bitS; rw [decide_eq_false (by omega)]; simp
theorem bitS_one {zs : List Int} (h : ascS 1 zs = true) : bitS zs 1 = wide zs := by
  unfold bitS
  have : zs.contains ((1 : Nat) : Int) = false := by
    cases e : zs.contains ((1 : Nat) : Int)
    · rfl
    · have := (ascS_mem h _ (List.contains_iff_mem.1 e)).1
      omega
  rw [this]; simp
theorem nums_set {zs : List Int} (h : ascS 1 zs = true) : numsL (setB (bitS zs) (sizeS zs)) (8 * sizeS zs) = zs := by
  have hN : ∀ x ∈ zs, x ≤ ((8 * sizeS zs : Nat) : Int) := by
    intro x hx
    have hb := ascS_mem h x hx
    rcases sizeS_or zs with ⟨h1, _⟩ | ⟨h1, h2⟩
    · rw [h1]; omega
    · have : ¬ 64 < x := by
        intro h64
        have : wide zs = true := List.any_eq_true.2 ⟨_, hx, by simpa using h64⟩
        rw [h2] at this; cases this
      rw [h1]; omega
  have hs8 : 8 ≤ sizeS zs := by rcases sizeS_or zs with ⟨h1, _⟩ | ⟨h1, _⟩ <;> omega
  have hf := filter_asc (8 * sizeS zs) zs 1 h hN (by omega)
  obtain ⟨m, hm⟩ : ∃ m, sizeS zs = m := ⟨_, rfl⟩
  rw [hm] at hf hs8 ⊢
  unfold numsL
  have e1 : List.range (8 * m + 1) = [0, 1] ++ List.range' (1 + 1) (8 * m - 1) := by
    rw [List.range_eq_range', show 8 * m + 1 = 2 + (8 * m - 1) from by omega, ← List.range'_append (s := 0) (m := 2) (n := 8 * m - 1) (step := 1)]
    rfl
  rw [e1, List.filter_append]
  have f1 : ([0, 1] : List Nat).filter (fun n => decide (2 ≤ n) && bitL (setB (bitS zs) m) n) = [] := by simp
  have f2 : (List.range' (1 + 1) (8 * m - 1)).filter (fun n => decide (2 ≤ n) && bitL (setB (bitS zs) m) n) = (List.range' (1 + 1) (8 * m - 1)).filter (fun n => zs.contains ((n : Nat) : Int)) := by
    refine List.filter_congr fun n hn => ?_
    rw [List.mem_range'_1] at hn
    rw [decide_eq_true (by omega), Bool.true_and, bitL_set _ _ _ (by omega) (by omega), bitS_two (by omega)]
  rw [f1, f2, List.nil_append]
  exact hf

theorem set_back {zs : List Int} {s : List UInt8} (h : putS zs = some s) : getSL ([113] ++ s ++ [114]) 1 = zs ∧ getSI ([113] ++ s ++ [114]) 1 = 1 + (s.length : Int) ∧ s.length = sizeS zs ∧ ascS 1 zs = true := by
  have ha : ascS 1 zs = true := by
    cases e : ascS 1 zs
    · rw [putS_no e] at h; cases h
    · rfl
  rw [putS_yes ha] at h
  have hs : setB (bitS zs) (sizeS zs) = s := Option.some.inj h
  have hlen : s.length = sizeS zs := by rw [← hs, setB_len]
  have hs8 : 8 ≤ sizeS zs := by rcases sizeS_or zs with ⟨h1, _⟩ | ⟨h1, _⟩ <;> omega
  have hnum := nums_set ha
  rw [hs] at hnum
  have hg0 : ([113] ++ s ++ [114]).getD 1 0 = s.getD 0 0 := by
    rw [List.append_assoc, List.singleton_append]
    simp only [List.getD_eq_getElem?_getD, List.getElem?_cons_succ]
    rw [List.getElem?_append_left (by omega)]
  have hb1 : bitL s 1 = wide zs := by rw [← hs, bitL_set _ _ _ (by omega) (by omega), bitS_one ha]
  have hf := bitL_first s 0
  rw [List.drop_zero, hb1] at hf
  have hz : szB (([113] ++ s ++ [114]).getD 1 0) = sizeS zs := by
    rw [hg0]
    unfold szB sizeS
    rw [hf]
    by_cases hc : 128 ≤ (s.getD 0 0).toNat
    · rw [if_pos hc, if_pos (decide_eq_true hc)]
    · rw [if_neg hc, if_neg (by rw [decide_eq_false hc]; decide)]
  have hp : (([113] ++ s ++ [114]).drop 1).take (sizeS zs) = s := by
    rw [← hlen]; simp
  have hg := (getS_in (l := [113] ++ s ++ [114]) (k := 1) (m := sizeS zs) (b := s) hz (by simp; omega) hp hs8).1 (by rw [hnum, putS_yes ha, hs])
  rw [hnum] at hg
  refine ⟨hg.1, ?_, hlen, ha⟩
  rw [hlen]
  exact hg.2

end Go.Proofs.YtbncdhfmhokgeaaGreatDoor

/- The contracts of the program's allBytesWithin, allFilling, lengthAt. -/
namespace Go.Proofs.YtbncdhfmhokgeaaGreatDoor
open Go.RowKit
set_option maxRecDepth 100000

set_option maxHeartbeats 400000 in
theorem within6_any (l : List UInt8) (a b : Nat) (w : World) (hl : l.length ≤ 1099511627776) :
    Calls Tryz.prog 114 #[.string ⟨l.toArray⟩, .int .u8 a, .int .u8 b] w fun e w' => e = .returned (.bool (within a b l)) ∧ w' = w := by
  go_enter Tryz.func114, Tryz.ntmps114
  go_wp2
  go_loop [7, 10] (fun _ i => ∃ k : Nat, k ≤ l.length ∧ i = .int .i64 k ∧ within a b l = within a b (l.drop k)) (fun _ i => l.length - (intOf i).toNat)
  case atStart => exact ⟨0, Nat.zero_le _, rfl, rfl⟩
  case round =>
    obtain ⟨k, hk, rfl, ht⟩ := hrel
    by_cases hlt : k < l.length
    · have hki : (k : Int) < (l.length : Int) := by omega
      have hs := within_step a b l k hlt
      obtain ⟨c, hc⟩ : ∃ c, (⟨l.toArray⟩ : ByteArray)[k]'(by rw [ba_size]; exact hlt) = c := ⟨_, rfl⟩
      rw [(byte_at l k hlt).trans hc] at hs
      have HS : Hid _ := ht.trans hs
      clear hs ht
      by_cases h1 : a ≤ c.toNat
      · have h1' : (a : Int) ≤ (c.toNat : Int) := by omega
        by_cases h2 : c.toNat ≤ b
        · have h2' : (c.toNat : Int) ≤ (b : Int) := by omega
          have HY : Hid (within a b l = within a b (l.drop (k + 1))) := by rw [Hid, HS.out]; simp [h1, h2]
          clear HS
          go_wp2
          go_round
          case rel => exact ⟨k + 1, by omega, by go_num, HY.out⟩
          case measure => simp [intOf]; omega
        · have h2' : (b : Int) < (c.toNat : Int) := by omega
          have HN : Hid (within a b l = false) := by rw [Hid, HS.out]; simp [h2]
          clear HS
          go_wp2
          go_ret
          exact ⟨one_bool (by rw [HN.out]), rfl⟩
      · have h1' : (c.toNat : Int) < (a : Int) := by omega
        have HN : Hid (within a b l = false) := by rw [Hid, HS.out]; simp [h1]
        clear HS
        go_wp2
        go_ret
        exact ⟨one_bool (by rw [HN.out]), rfl⟩
    · have hke : k = l.length := by omega
      subst hke
      have HY : Hid (within a b l = true) := by rw [Hid, ht]; exact within_end a b l
      clear ht
      go_wp2
      go_ret
      exact ⟨one_bool (by rw [HY.out]), rfl⟩

set_option maxHeartbeats 400000 in
theorem allFilling_any (g o c : Nat) (l : List UInt8) (w : World) (h : ∀ j x, l[j]? = some x → w.cell? ⟨g, o + j, none⟩ = some (.int .u8 (x.toNat : Int))) (hl : l.length ≤ 1099511627776) :
    Calls Tryz.prog 111 #[.slice (some ⟨g, o, none⟩) l.length c] w fun e w' => e = .returned (.bool (within 64 64 l)) ∧ w' = w := by
  have ht := text_at (c := c) h
  clear h
  go_enter Tryz.func111, Tryz.ntmps111
  go_wp2_with fail
  refine (within6_any l 64 64 _ hl).mono ?_
  rintro e w2 ⟨rfl, hw2⟩
  rw [hw2]
  clear hw2
  go_wp2
  go_ret
  exact ⟨rfl, rfl⟩

theorem or_0 (x : Nat) (h : x < 256) : bits BinOp.or IntKind.i64 0 (x : Int) = (x : Int) := by
  have e : bits .or .i64 0 (x : Int) = IntKind.i64.wrap (((BitVec.ofInt 64 0 ||| BitVec.ofInt 64 (x : Int)).toNat : Nat) : Int) := rfl
  rw [e, BitVec.toNat_or, BitVec.toNat_ofInt, BitVec.toNat_ofInt]
  have h1 : ((0 : Int) % ((2 ^ 64 : Nat) : Int)).toNat = 0 := rfl
  have h2 : ((x : Int) % ((2 ^ 64 : Nat) : Int)).toNat = x := by omega
  rw [h1, h2, Nat.zero_or]
  simp [IntKind.wrap, IntKind.bits, IntKind.signed]; omega
theorem or_256 (y x : Nat) (hy : y < 1099511627776) (h : x < 256) : bits BinOp.or IntKind.i64 (wrap64 ((y : Int) * 256)) (x : Int) = ((y * 256 + x : Nat) : Int) := by
  have hw : wrap64 ((y : Int) * 256) = ((y * 256 : Nat) : Int) := by unfold wrap64; omega
  rw [hw]
  have e : bits .or .i64 ((y * 256 : Nat) : Int) (x : Int) = IntKind.i64.wrap (((BitVec.ofInt 64 ((y * 256 : Nat) : Int) ||| BitVec.ofInt 64 (x : Int)).toNat : Nat) : Int) := rfl
  rw [e, BitVec.toNat_or, BitVec.toNat_ofInt, BitVec.toNat_ofInt]
  have h1 : (((y * 256 : Nat) : Int) % ((2 ^ 64 : Nat) : Int)).toNat = y * 256 := by omega
  have h2 : ((x : Int) % ((2 ^ 64 : Nat) : Int)).toNat = x := by omega
  have h3 := Nat.two_pow_add_eq_or_of_lt (i := 8) (by simpa using h : x < 2 ^ 8) y
  rw [h1, h2, show y * 256 = 2 ^ 8 * y by omega, ← h3]
  simp [IntKind.wrap, IntKind.bits, IntKind.signed]; omega

set_option maxRecDepth 100000 in
set_option maxHeartbeats 1600000 in
theorem lengthAt_any (g c a : Nat) (l : List UInt8) (w : World) (hr : Row w g l) (ha : a + 4 ≤ l.length) (hl : l.length ≤ 100000) (hc : l.length ≤ c) :
    Calls Tryz.prog 144 #[.slice (some ⟨g, 0, none⟩) l.length c, .int .i64 a] w fun e w' => e = .returned (.int .i64 (num4 l a : Nat)) ∧ w' = w := by
  have c0 := hr.at (k := a) (by omega)
  have c1 := hr.at (k := a + 1) (by omega)
  have c2 := hr.at (k := a + 2) (by omega)
  have c3 := hr.at (k := a + 3) (by omega)
  have hs := fun W => sl_lh (g := g) (o := 0) (n := l.length) (c := c) (x := (a : Int)) (y := (a : Int) + 4) a (a + 4) rfl (by omega) (by omega) (by omega) (by omega) W
  rw [Nat.zero_add, Nat.add_sub_cancel_left] at hs
  have HE : Hid (num4 l a = (l.getD a 0).toNat * 16777216 + (l.getD (a + 1) 0).toNat * 65536 + (l.getD (a + 2) 0).toNat * 256 + (l.getD (a + 3) 0).toNat) := rfl
  have b0 := (l.getD a 0).toNat_lt
  have b1 := (l.getD (a + 1) 0).toNat_lt
  have b2 := (l.getD (a + 2) 0).toNat_lt
  have b3 := (l.getD (a + 3) 0).toNat_lt
  generalize (l.getD a 0).toNat = x0 at c0 b0 HE
  generalize (l.getD (a + 1) 0).toNat = x1 at c1 b1 HE
  generalize (l.getD (a + 2) 0).toNat = x2 at c2 b2 HE
  generalize (l.getD (a + 3) 0).toNat = x3 at c3 b3 HE
  have o0 := or_0 x0 b0
  have o1 := or_256 x0 x1 (by omega) b1
  have o2 := or_256 (x0 * 256 + x1) x2 (by omega) b2
  have o3 := or_256 ((x0 * 256 + x1) * 256 + x2) x3 (by omega) b3
  have O : Hid _ := And.intro o0 (And.intro o1 (And.intro o2 o3))
  clear hr o0 o1 o2 o3
  go_enter Tryz.func144, Tryz.ntmps144
  go_wp2
  refine wp_loop_rounds 5 ?_
  rw [rounds_succ]
  go_wp2
  rw [rounds_succ]
  go_wp2
  rw [rounds_succ]
  go_wp2
  rw [rounds_succ]
  go_wp2
  rw [rounds_succ]
  go_wp2
  go_ret
  refine ⟨one_int ?_, rfl⟩
  rw [O.out.1, O.out.2.1, O.out.2.2.1, O.out.2.2.2, HE.out]
  congr 1
  omega

end Go.Proofs.YtbncdhfmhokgeaaGreatDoor
