/- The contracts of DateText, the program's and the specification's. -/
import Derived.Test.YtddffpihacolkaaDoorDDate
import Derived.Test.YtddffpihacolkaaDoorYDPlain
import Derived.Test.YtddffpihacolkaaDoorShelf
namespace Go.Proofs.YtddffpihacolkaaDoor.Dt
open Go.RowKit

def Pow10 (w : World) : Prop := Lib.TabIs Tryd.prog w "internal/strconv.uint64pow10" .u64 Lib.pow10Tab
theorem Pow10.below {w w' : World} (h : Pow10 w) (hb : Below w.heap.size w w') : Pow10 w' := Lib.tabBelow_of_tabIs h w' hb

theorem cut_text {s a b c : List UInt8} (hs : s = a ++ b ++ c) (ha : a.length = 4) (hb : b.length = 2) (m : Nat) (hm : s.length ≤ m) :
    (⟨s.toArray⟩ : ByteArray).extract 0 4 ++ ⟨#[45]⟩ ++ (⟨s.toArray⟩ : ByteArray).extract 4 6 ++ ⟨#[45]⟩ ++ (⟨s.toArray⟩ : ByteArray).extract 6 m = ⟨(a ++ (45 :: b) ++ (45 :: c)).toArray⟩ := by
  have e1 : (s.drop 0).take (4 - 0) = a := by rw [hs, List.drop_zero, List.append_assoc, List.take_append_of_le_length (by omega)]; exact List.take_of_length_le (by omega)
  have d4 : s.drop 4 = b ++ c := by rw [hs, List.append_assoc, List.drop_append_of_le_length (by omega), List.drop_of_length_le (by omega)]; rfl
  have e2 : (s.drop 4).take (6 - 4) = b := by rw [d4, List.take_append_of_le_length (by omega)]; exact List.take_of_length_le (by omega)
  have e3 : (s.drop 6).take (m - 6) = c := by
    have : s.drop 6 = c := by rw [show (6 : Nat) = 4 + 2 from rfl, ← List.drop_drop, d4, List.drop_append_of_le_length (by omega), List.drop_of_length_le (by omega)]; rfl
    rw [this]
    refine List.take_of_length_le ?_
    rw [hs] at hm
    simp only [List.length_append] at hm
    omega
  rw [ba_extract, ba_extract, ba_extract, e1, e2, e3, show (⟨#[45]⟩ : ByteArray) = ⟨[45].toArray⟩ from rfl, ba_append, ba_append, ba_append, ba_append]
  simp

set_option maxHeartbeats 800000 in
theorem sTwo_any (n : Nat) (w : World) (hn : n < 100) :
    Calls Tryd.prog 24 #[.int .i64 n] w fun e w' => e = .returned (.string ⟨(two n).toArray⟩) ∧ Below w.heap.size w w' := by
  go_enter Tryd.func24, Tryd.ntmps24
  go_wp2
  go_quiet (fail)
  go_wp2
  go_ret
  refine ⟨one_str ?_, below_drewN (Below.refl _ _) _⟩
  rw [dig_one (n / 10) (by omega), dig_one (n % 10) (by omega), ba_append]
  rfl

set_option maxHeartbeats 800000 in
theorem iDateText_any (d : Int) (w : World) (ht : MonthTab w) (hp : Pow10 w) :
    Calls Tryd.prog 13 #[.int .i64 d] w fun e w' => e = .returned (.string ⟨(dtxt d).toArray⟩) ∧ Below w.heap.size w w' := by
  have HT : Hid (MonthTab w) := ht
  have HP : Hid (Pow10 w) := hp
  clear ht hp
  cases hd : dOk d
  · have HN : Hid _ := dtxt_no hd
    go_enter Tryd.func13, Tryd.ntmps13
    go_wp2_with (go_at_call 30; refine (iDayOk_any _ _).mono ?_; rintro e w' ⟨rfl, rfl⟩)
    go_ret
    exact ⟨one_str (by rw [HN.out]), Below.refl _ _⟩
  · have hb := date_bd hd
    obtain ⟨x, hx⟩ := Int.eq_ofNat_of_zero_le (show 0 ≤ dateV d by omega)
    have HV : Hid (dtxt d = xtxt x) := by rw [Hid, dtxt_yes hd, hx]; rfl
    have HI : Hid (Lib.itoa (x : Int) = Lib.decDigits x) := by rw [Hid, Lib.itoa, if_neg (by omega)]; rfl
    have e8 := dec_eight x (by omega)
    have h4 := dec_four (x / 10000) (by omega) (by omega)
    obtain ⟨s, hs⟩ : ∃ s, Lib.decDigits x = s := ⟨_, rfl⟩
    rw [hs] at e8
    have hsl : s.length = 8 := by rw [e8]; simp only [List.length_append, h4, two, List.length_cons, List.length_nil]
    have HS : Hid _ := hs
    have H8 : Hid _ := e8
    have H4 : Hid _ := h4
    have hsz : (⟨s.toArray⟩ : ByteArray).size = 8 := by rw [ba_size, hsl]
    have HDX : Hid _ := hx
    have hxb : x ≤ 22991231 := by omega
    clear hs e8 h4 hx
    go_enter Tryd.func13, Tryd.ntmps13
    go_wp2_with fail
    refine (iDayOk_any _ _).mono ?_
    rintro e w' ⟨rfl, hw⟩
    subst hw
    go_wp2_with fail
    refine (iDateOf_any _ _ HT.out).mono ?_
    rintro e w' ⟨rfl, hw⟩
    subst hw
    rw [HDX.out]
    go_wp2_with fail
    refine (Tryd.strconv_Itoa _ (by omega) (by omega) _ HP.out).mono ?_
    rintro e w1 ⟨rfl, k, os, rfl⟩
    rw [HI.out, HS.out]
    go_wp2
    go_quiet (fail)
    go_wp2
    go_ret
    refine ⟨one_str ?_, below_drewN (Lib.below_grow _ _ (Nat.le_refl _) _ _) _⟩
    rw [HV.out]
    exact cut_text H8.out H4.out rfl _ (by omega)

set_option maxHeartbeats 800000 in
theorem sDateText_any (d : Int) (w : World) :
    Calls Tryd.prog 8 #[.int .i64 d] w fun e w' => e = .returned (.string ⟨(dtxt d).toArray⟩) ∧ Below w.heap.size w w' := by
  cases hd : dOk d
  · have HN : Hid _ := dtxt_no hd
    go_enter Tryd.func8, Tryd.ntmps8
    go_wp2_with (go_at_call 22; refine (sDayOk_any _ _).mono ?_; rintro e w' ⟨rfl, rfl⟩)
    go_ret
    exact ⟨one_str (by rw [HN.out]), Below.refl _ _⟩
  · have hb := date_bd hd
    obtain ⟨x, hx⟩ := Int.eq_ofNat_of_zero_le (show 0 ≤ dateV d by omega)
    have HV : Hid (dtxt d = xtxt x) := by rw [Hid, dtxt_yes hd, hx]; rfl
    have hxb : x ≤ 22991231 := by omega
    have HDX : Hid _ := hx
    clear hx hb
    go_enter Tryd.func8, Tryd.ntmps8
    go_wp2_with fail
    refine (sDayOk_any _ _).mono ?_
    rintro e w' ⟨rfl, hw⟩
    subst hw
    go_wp2_with fail
    refine (sDateOf_any _ _).mono ?_
    rintro e u1 ⟨rfl, b1⟩
    rw [HDX.out]
    go_wp2_with fail
    rw [show (x : Int) / 10000 = ((x / 10000 : Nat) : Int) from by omega]
    refine (dec_up _ _ (by omega)).mono ?_
    rintro e u2 ⟨rfl, hw2⟩
    subst hw2
    have hl := dec_len (x / 10000) (by omega)
    obtain ⟨y, hy⟩ : ∃ y, Lib.decDigits (x / 10000) = y := ⟨_, rfl⟩
    rw [hy] at hl ⊢
    have HY : Hid _ := hy
    clear hy
    go_wp2_with fail
    rw [show (x : Int) / 100 % 100 = ((x / 100 % 100 : Nat) : Int) from by omega]
    refine (sTwo_any _ _ (by omega)).mono ?_
    rintro e u3 ⟨rfl, b3⟩
    have B3 := next b1 b3
    clear b1 b3
    obtain ⟨p, hp⟩ : ∃ p, two (x / 100 % 100) = p := ⟨_, rfl⟩
    rw [hp]
    have hpl : p.length = 2 := by rw [← hp]; rfl
    have HP2 : Hid _ := hp
    clear hp
    go_wp2_with fail
    rw [show (x : Int) % 100 = ((x % 100 : Nat) : Int) from by omega]
    refine (sTwo_any _ _ (by omega)).mono ?_
    rintro e u4 ⟨rfl, b4⟩
    have B4 := next B3 b4
    clear b4 B3
    obtain ⟨q, hq⟩ : ∃ q, two (x % 100) = q := ⟨_, rfl⟩
    rw [hq]
    have hql : q.length = 2 := by rw [← hq]; rfl
    have HQ2 : Hid _ := hq
    clear hq
    go_wp2
    go_ret
    refine ⟨one_str ?_, B4⟩
    rw [HV.out]
    unfold xtxt
    rw [HY.out, HP2.out, HQ2.out, show (⟨#[45]⟩ : ByteArray) = ⟨[45].toArray⟩ from rfl, ba_append, ba_append, ba_append, ba_append]
    simp

end Go.Proofs.YtddffpihacolkaaDoor.Dt
