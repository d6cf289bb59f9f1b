/- The contracts of MoneyText. -/
import Derived.Test.YtddffpihacolkaaDoorCur
import Derived.Test.YtddffpihacolkaaDoorXDec
import Derived.Test.YtddffpihacolkaaDoorShelf
import Derived.Lib.AppendIntMem
import Derived.Lib.Strings
namespace Go.Proofs.YtddffpihacolkaaDoor.Mo
open Go.RowKit

theorem ba_extract (l : List UInt8) (a b : Nat) : (⟨l.toArray⟩ : ByteArray).extract a b = ⟨((l.drop a).take (b - a)).toArray⟩ := by
  have h := Lib.extract_data ⟨l.toArray⟩ a b
  rw [ba_list (ByteArray.extract ⟨l.toArray⟩ a b), h]
theorem ba_size (l : List UInt8) : (⟨l.toArray⟩ : ByteArray).size = l.length := by simp [ByteArray.size]

/-- noughts ahead, so that one digit stands ahead of the last d -/
def pad (d : Nat) (s : List UInt8) : List UInt8 := List.replicate (d + 1 - s.length) 48 ++ s
theorem pad_len (d : Nat) (s : List UInt8) : (pad d s).length = max (d + 1) s.length := by simp [pad]; omega
theorem pad_id {d : Nat} {s : List UInt8} (h : d < s.length) : pad d s = s := by
  simp [pad, show d + 1 - s.length = 0 from by omega]
/-- an amount's text: a point ahead of the last d digits -/
def pointed (d : Nat) (s : List UInt8) : List UInt8 := if d = 0 then s else (pad d s).take ((pad d s).length - d) ++ (46 :: (pad d s).drop ((pad d s).length - d))
def mtxt (x : Int) (d : Nat) : List UInt8 := (if x < 0 then [45] else []) ++ pointed d (Lib.decDigits x.natAbs)

theorem repeat_one (n : Nat) : Lib.repeatL [48] n = List.replicate n 48 := by
  induction n with
  | zero => rfl
  | succ n ih => simp [Lib.repeatL, ih, List.replicate_succ]

theorem fin1 (sg p : List UInt8) (n m : Nat) (hm : p.length ≤ m) : (⟨sg.toArray⟩ ++ (⟨p.toArray⟩ : ByteArray).extract 0 n ++ ⟨#[46]⟩ ++ (⟨p.toArray⟩ : ByteArray).extract n m) = ⟨(sg ++ (p.take n ++ (46 :: p.drop n))).toArray⟩ := by
  rw [ba_extract, ba_extract, ba_append, show (⟨#[46]⟩ : ByteArray) = ⟨[46].toArray⟩ from rfl, ba_append, ba_append]
  simp only [List.drop_zero, Nat.sub_zero, List.append_assoc, List.singleton_append]
  rw [List.take_of_length_le (i := m - n) (l := List.drop n p) (by simp; omega)]
theorem fin2 (p : List UInt8) (n m : Nat) (hm : p.length ≤ m) : ((⟨p.toArray⟩ : ByteArray).extract 0 n ++ ⟨#[46]⟩ ++ (⟨p.toArray⟩ : ByteArray).extract n m) = ⟨(p.take n ++ (46 :: p.drop n)).toArray⟩ := by
  rw [ba_extract, ba_extract, show (⟨#[46]⟩ : ByteArray) = ⟨[46].toArray⟩ from rfl, ba_append, ba_append]
  simp only [List.drop_zero, Nat.sub_zero, List.append_assoc, List.singleton_append]
  rw [List.take_of_length_le (i := m - n) (l := List.drop n p) (by simp; omega)]
theorem pointed_pos {d : Nat} {s : List UInt8} (h : ¬ d = 0) : pointed d s = (pad d s).take ((pad d s).length - d) ++ (46 :: (pad d s).drop ((pad d s).length - d)) := by rw [pointed, if_neg h]

set_option maxHeartbeats 2000000 in
theorem text_any (x : Int) (d : Nat) (w : World) (x1 : -1000000000000 ≤ x) (x2 : x ≤ 1000000000000) (hd : d ≤ 3) (htab : Lib.TabIs Tryd.prog w "internal/strconv.uint64pow10" .u64 Lib.pow10Tab) :
    Calls Tryd.prog 37 #[.int .i64 x, .int .i64 d] w fun e w' => e = .returned (.string ⟨(mtxt x d).toArray⟩) ∧ Below w.heap.size w w' := by
  have hs : (Lib.decDigits x.natAbs).length ≤ 21 := dec_len _ (by omega)
  obtain ⟨s, hsd⟩ : ∃ s, Lib.decDigits x.natAbs = s := ⟨_, rfl⟩
  rw [hsd] at hs
  by_cases hx : x < 0
  · have HI : Hid (Lib.itoa (-x) = s) := by rw [Hid, ← hsd, Lib.itoa, if_neg (by omega), show (-x).toNat = x.natAbs from by omega]
    have HM : Hid (mtxt x d = [45] ++ pointed d s) := by rw [Hid, mtxt, if_pos hx, hsd]
    clear hsd
    by_cases h0 : d = 0
    · subst h0
      go_enter Tryd.func37, Tryd.ntmps37
      go_wp2_with fail
      refine (Tryd.strconv_FormatInt_10 _ (by omega) (by omega) _ htab).mono ?_
      rintro e w1 ⟨rfl, k, os, rfl⟩
      rw [HI.out]
      go_wp2
      go_ret
      refine ⟨one_str ?_, Lib.below_grow _ _ (Nat.le_refl _) _ _⟩
      rw [HM.out]
      exact ba_append [45] s
    · have h0' : ((d : Int) == 0) = false := by simp; omega
      rw [pointed_pos h0] at HM
      by_cases hl : s.length ≤ d
      · have hr : (List.replicate (d + 1 - s.length) (48 : UInt8)).length = d + 1 - s.length := by simp
        have hp : List.replicate (d + 1 - s.length) (48 : UInt8) ++ s = pad d s := rfl
        go_enter Tryd.func37, Tryd.ntmps37
        go_wp2_with fail
        refine (Tryd.strconv_FormatInt_10 _ (by omega) (by omega) _ htab).mono ?_
        rintro e w1 ⟨rfl, k, os, rfl⟩
        rw [HI.out]
        go_wp2_with fail
        rw [show ((d : Int) + 1 - (s.length : Int)) = ((d + 1 - s.length : Nat) : Int) from by omega]
        refine (Tryd.strings_Repeat ⟨#[48]⟩ (d + 1 - s.length) _ (by omega) (by simp [ByteArray.size]; omega)).mono ?_
        rintro e w2 ⟨rfl, b2⟩
        rw [show Lib.repeatL (⟨#[48]⟩ : ByteArray).data.toList (d + 1 - s.length) = List.replicate (d + 1 - s.length) 48 from repeat_one _]
        generalize List.replicate (d + 1 - s.length) (48 : UInt8) = r at hr hp
        have HP : Hid _ := hp
        clear hp
        go_wp2
        go_quiet (fail)
        go_wp2
        go_ret
        refine ⟨one_str ?_, below_drewN (next (Lib.below_grow _ _ (Nat.le_refl _) _ _) b2) _⟩
        have hlen : (r ++ s).length = d + 1 - s.length + s.length := by simp [hr]
        rw [HM.out, ← HP.out, hlen, ba_append r s]
        exact fin1 [45] (r ++ s) _ _ (by rw [hlen]; exact Nat.le_refl _)
      · rw [pad_id (by omega)] at HM
        go_enter Tryd.func37, Tryd.ntmps37
        go_wp2_with fail
        refine (Tryd.strconv_FormatInt_10 _ (by omega) (by omega) _ htab).mono ?_
        rintro e w1 ⟨rfl, k, os, rfl⟩
        rw [HI.out]
        go_wp2
        go_quiet (fail)
        go_wp2
        go_ret
        refine ⟨one_str ?_, below_drewN (Lib.below_grow _ _ (Nat.le_refl _) _ _) _⟩
        rw [HM.out]
        exact fin1 [45] s _ _ (Nat.le_refl _)
  · have HI : Hid (Lib.itoa x = s) := by rw [Hid, ← hsd, Lib.itoa, if_neg hx, show x.toNat = x.natAbs from by omega]
    have HM : Hid (mtxt x d = pointed d s) := by rw [Hid, mtxt, if_neg hx, hsd]; rfl
    clear hsd
    by_cases h0 : d = 0
    · subst h0
      go_enter Tryd.func37, Tryd.ntmps37
      go_wp2_with fail
      refine (Tryd.strconv_FormatInt_10 _ (by omega) (by omega) _ htab).mono ?_
      rintro e w1 ⟨rfl, k, os, rfl⟩
      rw [HI.out]
      go_wp2
      go_ret
      refine ⟨one_str ?_, Lib.below_grow _ _ (Nat.le_refl _) _ _⟩
      rw [HM.out]
      rfl
    · have h0' : ((d : Int) == 0) = false := by simp; omega
      rw [pointed_pos h0] at HM
      by_cases hl : s.length ≤ d
      · have hr : (List.replicate (d + 1 - s.length) (48 : UInt8)).length = d + 1 - s.length := by simp
        have hp : List.replicate (d + 1 - s.length) (48 : UInt8) ++ s = pad d s := rfl
        go_enter Tryd.func37, Tryd.ntmps37
        go_wp2_with fail
        refine (Tryd.strconv_FormatInt_10 _ (by omega) (by omega) _ htab).mono ?_
        rintro e w1 ⟨rfl, k, os, rfl⟩
        rw [HI.out]
        go_wp2_with fail
        rw [show ((d : Int) + 1 - (s.length : Int)) = ((d + 1 - s.length : Nat) : Int) from by omega]
        refine (Tryd.strings_Repeat ⟨#[48]⟩ (d + 1 - s.length) _ (by omega) (by simp [ByteArray.size]; omega)).mono ?_
        rintro e w2 ⟨rfl, b2⟩
        rw [show Lib.repeatL (⟨#[48]⟩ : ByteArray).data.toList (d + 1 - s.length) = List.replicate (d + 1 - s.length) 48 from repeat_one _]
        generalize List.replicate (d + 1 - s.length) (48 : UInt8) = r at hr hp
        have HP : Hid _ := hp
        clear hp
        go_wp2
        go_quiet (fail)
        go_wp2
        go_ret
        refine ⟨one_str ?_, below_drewN (next (Lib.below_grow _ _ (Nat.le_refl _) _ _) b2) _⟩
        have hlen : (r ++ s).length = d + 1 - s.length + s.length := by simp [hr]
        rw [HM.out, ← HP.out, hlen, ba_append r s]
        exact fin1 [] (r ++ s) _ _ (by rw [hlen]; exact Nat.le_refl _)
      · rw [pad_id (by omega)] at HM
        go_enter Tryd.func37, Tryd.ntmps37
        go_wp2_with fail
        refine (Tryd.strconv_FormatInt_10 _ (by omega) (by omega) _ htab).mono ?_
        rintro e w1 ⟨rfl, k, os, rfl⟩
        rw [HI.out]
        go_wp2
        go_quiet (fail)
        go_wp2
        go_ret
        refine ⟨one_str ?_, below_drewN (Lib.below_grow _ _ (Nat.le_refl _) _ _) _⟩
        rw [HM.out]
        first | exact fin2 s _ _ (Nat.le_refl _) | exact fin1 [] s _ _ (Nat.le_refl _)

end Go.Proofs.YtddffpihacolkaaDoor.Mo
