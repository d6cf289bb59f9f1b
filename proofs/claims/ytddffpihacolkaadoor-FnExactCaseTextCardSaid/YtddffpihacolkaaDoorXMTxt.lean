/- The contracts of MoneyText, the program's and the specification's. -/
import Derived.Test.YtddffpihacolkaaDoorXTxt
namespace Go.Proofs.YtddffpihacolkaaDoor.Mo
open Go.RowKit

def Pow10 (w : World) : Prop := Lib.TabIs Tryd.prog w "internal/strconv.uint64pow10" .u64 Lib.pow10Tab
theorem Pow10.below {w w' : World} (h : Pow10 w) (hb : Below w.heap.size w w') : Pow10 w' := Lib.tabBelow_of_tabIs h w' hb

def textOk (x cur : Int) : Bool := mOk x && decide (0 ≤ digs cur)
def moneyT (x cur : Int) : List UInt8 := if textOk x cur then mtxt x (digs cur).toNat else []
theorem moneyT_no1 {x cur : Int} (h : mOk x = false) : moneyT x cur = [] := by simp [moneyT, textOk, h]
theorem moneyT_no2 {x cur : Int} (h : digs cur < 0) : moneyT x cur = [] := by simp [moneyT, textOk]; omega
theorem moneyT_yes {x cur : Int} {d : Nat} (h : mOk x = true) (hd : digs cur = d) : moneyT x cur = mtxt x d := by simp [moneyT, textOk, h, hd]

theorem dec_pos (a : Nat) : 1 ≤ (Lib.decDigits a).length := by
  rw [Lib.decDigits]
  split <;> simp
def strLen : Value → Nat
  | .string b => b.size
  | _ => 0
theorem strLen_list (l : List UInt8) : strLen (.string ⟨l.toArray⟩) = l.length := by simp [strLen, ByteArray.size]

set_option maxHeartbeats 800000 in
theorem iMoneyText_any (x cur : Int) (w : World) (hw : (Lit.int .i64 cur).wf = true) (ht : Pow10 w) :
    Calls Tryd.prog 17 #[.int .i64 x, .int .i64 cur] w fun e w' => e = .returned (.string ⟨(moneyT x cur).toArray⟩) ∧ Below w.heap.size w w' := by
  have HT : Hid _ := ht
  clear ht
  have hb := digs_bd cur
  by_cases h1 : digs cur < 0
  · have HM : Hid _ := moneyT_no2 (x := x) h1
    go_enter Tryd.func17, Tryd.ntmps17
    go_wp2_with (first | (go_at_call 27; refine (iDigits_any _ _ hw).mono ?_; rintro e w1 ⟨rfl, b1⟩) | (go_at_call 36; refine (iMoneyOk_any _ _).mono ?_; rintro e w2 ⟨rfl, hw2⟩; subst hw2))
    all_goals go_ret
    all_goals exact ⟨one_str (by rw [HM.out]), b1⟩
  · obtain ⟨d, hd⟩ := Int.eq_ofNat_of_zero_le (show 0 ≤ digs cur by omega)
    cases h2 : mOk x
    · have HM : Hid _ := moneyT_no1 (cur := cur) h2
      clear hd
      go_enter Tryd.func17, Tryd.ntmps17
      go_wp2_with (first | (go_at_call 27; refine (iDigits_any _ _ hw).mono ?_; rintro e w1 ⟨rfl, b1⟩) | (go_at_call 36; refine (iMoneyOk_any _ _).mono ?_; rintro e w2 ⟨rfl, hw2⟩; subst hw2))
      go_ret
      exact ⟨one_str (by rw [HM.out]), b1⟩
    · have HM : Hid _ := moneyT_yes h2 hd
      have d1 := mOk_bd h2
      have hd3 : d ≤ 3 := by omega
      clear h1 hb
      go_enter Tryd.func17, Tryd.ntmps17
      go_wp2_with fail
      refine (iDigits_any _ _ hw).mono ?_
      rintro e w1 ⟨rfl, b1⟩
      rw [hd]
      clear hd
      have ht1 := Pow10.below HT.out b1
      go_wp2_with fail
      refine (iMoneyOk_any _ _).mono ?_
      rintro e w2 ⟨rfl, hw2⟩
      subst hw2
      go_wp2_with fail
      refine (text_any _ _ _ d1.1 d1.2 hd3 ht1).mono ?_
      rintro e w3 ⟨rfl, b3⟩
      go_wp2
      go_ret
      exact ⟨one_str (by rw [HM.out]), next b1 b3⟩

set_option maxHeartbeats 1000000 in
theorem sMoneyText_any (x cur : Int) (w : World) :
    Calls Tryd.prog 11 #[.int .i64 x, .int .i64 cur] w fun e w' => e = .returned (.string ⟨(moneyT x cur).toArray⟩) ∧ Below w.heap.size w w' := by
  have hb := digs_bd cur
  by_cases h1 : digs cur < 0
  · have HM : Hid _ := moneyT_no2 (x := x) h1
    go_enter Tryd.func11, Tryd.ntmps11
    go_wp2_with (first | (go_at_call 20; refine (sDigits_any _ _).mono ?_; rintro e w1 ⟨rfl, b1⟩) | (go_at_call 25; refine (sMoneyOk_any _ _).mono ?_; rintro e w2 ⟨rfl, hw2⟩; subst hw2))
    all_goals go_ret
    all_goals exact ⟨one_str (by rw [HM.out]), b1⟩
  · obtain ⟨d, hd⟩ := Int.eq_ofNat_of_zero_le (show 0 ≤ digs cur by omega)
    cases h2 : mOk x
    · have HM : Hid _ := moneyT_no1 (cur := cur) h2
      clear hd
      go_enter Tryd.func11, Tryd.ntmps11
      go_wp2_with (first | (go_at_call 20; refine (sDigits_any _ _).mono ?_; rintro e w1 ⟨rfl, b1⟩) | (go_at_call 25; refine (sMoneyOk_any _ _).mono ?_; rintro e w2 ⟨rfl, hw2⟩; subst hw2))
      go_ret
      exact ⟨one_str (by rw [HM.out]), b1⟩
    · have HM : Hid _ := moneyT_yes h2 hd
      have d1 := mOk_bd h2
      have hd3 : d ≤ 3 := by omega
      clear h1 hb
      by_cases hx : x < 0
      · go_enter Tryd.func11, Tryd.ntmps11
        go_wp2_with fail
        refine (sDigits_any _ _).mono ?_
        rintro e w1 ⟨rfl, b1⟩
        rw [hd]
        clear hd
        go_wp2_with fail
        refine (sMoneyOk_any _ _).mono ?_
        rintro e w2 ⟨rfl, hw2⟩
        subst hw2
        go_wp2_with fail
        rw [show -x = ((x.natAbs : Nat) : Int) from by omega]
        refine (dec_up _ _ (by omega)).mono ?_
        rintro e w2 ⟨rfl, hw2⟩
        subst hw2
        have hl := dec_len x.natAbs (by omega)
        have hl1 := dec_pos x.natAbs
        have HS : Hid (mtxt x d = [45] ++ pointed d (Lib.decDigits x.natAbs)) := by rw [Hid, mtxt, if_pos hx]
        generalize Lib.decDigits x.natAbs = s at hl hl1 HS
        go_wp2
        go_loop [7] (fun v => ∃ k : Nat, k ≤ d + 1 - s.length ∧ v = .string ⟨(List.replicate k 48 ++ s).toArray⟩) (fun v => d + 1 - strLen v)
        case atStart => exact ⟨0, Nat.zero_le _, rfl⟩
        case round =>
          obtain ⟨k, hk, rfl⟩ := hrel
          have hsz : (List.replicate k (48 : UInt8) ++ s).length = k + s.length := by simp
          have HS2 : Hid ((⟨#[48]⟩ : ByteArray) ++ ⟨(List.replicate k 48 ++ s).toArray⟩ = ⟨(List.replicate (k + 1) 48 ++ s).toArray⟩) := ba_append [48] (List.replicate k 48 ++ s)
          have HS3 : Hid (strLen (.string ((⟨#[48]⟩ : ByteArray) ++ ⟨(List.replicate k 48 ++ s).toArray⟩)) = k + 1 + s.length) := by rw [Hid, HS2.out, strLen_list]; simp
          have HS4 : Hid (strLen (.string ⟨(List.replicate k 48 ++ s).toArray⟩) = k + s.length) := by rw [Hid, strLen_list, hsz]
          have HK : Hid (k = d + 1 - s.length → List.replicate k 48 ++ s = pad d s) := fun e => by rw [e]; rfl
          generalize List.replicate k (48 : UInt8) ++ s = p at hsz HS2 HS3 HS4 HK
          have hpl : p.length ≤ 25 := by omega
          have HSZ : Hid (p.length = k + s.length) := hsz
          by_cases hlt : p.length ≤ d
          · have hlt' : (p.length : Int) ≤ (d : Int) := by omega
            have hkd : k + 1 ≤ d + 1 - s.length := by omega
            have hme : d + 1 - (k + 1 + s.length) < d + 1 - (k + s.length) := by omega
            clear hsz
            go_wp2
            go_round
            case rel => exact ⟨k + 1, hkd, by rw [HS2.out]⟩
            case measure => rw [HS3.out, HS4.out]; exact hme
          · have hlt' : (d : Int) < (p.length : Int) := by omega
            have hp : p = pad d s := HK.out (by omega)
            have hdp : d < p.length := by omega
            clear hsz HK HS2 HS3 HS4 hk
            by_cases h0 : d = 0
            · subst h0
              have HP : Hid (p = s) := by rw [Hid, hp, pad_id (by omega)]
              clear hp
              have hpne : (p == []) = false := by cases p with | nil => simp at hdp | cons a l => rfl
              have hpne' : ¬ p = [] := by simpa using hpne
              go_wp2
              go_ret
              refine ⟨one_str ?_, b1⟩
              rw [HM.out, HS.out, HP.out]
              exact ba_append [45] s
            · have h0' : ((d : Int) == 0) = false := by simp; omega
              rw [pointed_pos h0, ← hp] at HS
              clear hp
              go_wp2
              go_quiet (fail)
              go_wp2
              go_ret
              refine ⟨one_str ?_, below_drewN b1 _⟩
              rw [HM.out, HS.out]
              exact fin1 [45] p _ _ (Nat.le_refl _)
      · go_enter Tryd.func11, Tryd.ntmps11
        go_wp2_with fail
        refine (sDigits_any _ _).mono ?_
        rintro e w1 ⟨rfl, b1⟩
        rw [hd]
        clear hd
        go_wp2_with fail
        refine (sMoneyOk_any _ _).mono ?_
        rintro e w2 ⟨rfl, hw2⟩
        subst hw2
        go_wp2_with fail
        rw [show x = ((x.natAbs : Nat) : Int) from by omega]
        refine (dec_up _ _ (by omega)).mono ?_
        rintro e w2 ⟨rfl, hw2⟩
        subst hw2
        have hl := dec_len x.natAbs (by omega)
        have hl1 := dec_pos x.natAbs
        have HS : Hid (mtxt x d = [] ++ pointed d (Lib.decDigits x.natAbs)) := by rw [Hid, mtxt, if_neg (by omega)]
        generalize Lib.decDigits x.natAbs = s at hl hl1 HS
        go_wp2
        go_loop [7] (fun v => ∃ k : Nat, k ≤ d + 1 - s.length ∧ v = .string ⟨(List.replicate k 48 ++ s).toArray⟩) (fun v => d + 1 - strLen v)
        case atStart => exact ⟨0, Nat.zero_le _, rfl⟩
        case round =>
          obtain ⟨k, hk, rfl⟩ := hrel
          have hsz : (List.replicate k (48 : UInt8) ++ s).length = k + s.length := by simp
          have HS2 : Hid ((⟨#[48]⟩ : ByteArray) ++ ⟨(List.replicate k 48 ++ s).toArray⟩ = ⟨(List.replicate (k + 1) 48 ++ s).toArray⟩) := ba_append [48] (List.replicate k 48 ++ s)
          have HS3 : Hid (strLen (.string ((⟨#[48]⟩ : ByteArray) ++ ⟨(List.replicate k 48 ++ s).toArray⟩)) = k + 1 + s.length) := by rw [Hid, HS2.out, strLen_list]; simp
          have HS4 : Hid (strLen (.string ⟨(List.replicate k 48 ++ s).toArray⟩) = k + s.length) := by rw [Hid, strLen_list, hsz]
          have HK : Hid (k = d + 1 - s.length → List.replicate k 48 ++ s = pad d s) := fun e => by rw [e]; rfl
          generalize List.replicate k (48 : UInt8) ++ s = p at hsz HS2 HS3 HS4 HK
          have hpl : p.length ≤ 25 := by omega
          have HSZ : Hid (p.length = k + s.length) := hsz
          by_cases hlt : p.length ≤ d
          · have hlt' : (p.length : Int) ≤ (d : Int) := by omega
            have hkd : k + 1 ≤ d + 1 - s.length := by omega
            have hme : d + 1 - (k + 1 + s.length) < d + 1 - (k + s.length) := by omega
            clear hsz
            go_wp2
            go_round
            case rel => exact ⟨k + 1, hkd, by rw [HS2.out]⟩
            case measure => rw [HS3.out, HS4.out]; exact hme
          · have hlt' : (d : Int) < (p.length : Int) := by omega
            have hp : p = pad d s := HK.out (by omega)
            have hdp : d < p.length := by omega
            clear hsz HK HS2 HS3 HS4 hk
            by_cases h0 : d = 0
            · subst h0
              have HP : Hid (p = s) := by rw [Hid, hp, pad_id (by omega)]
              clear hp
              have hpne : (p == []) = false := by cases p with | nil => simp at hdp | cons a l => rfl
              have hpne' : ¬ p = [] := by simpa using hpne
              go_wp2
              go_ret
              refine ⟨one_str ?_, b1⟩
              rw [HM.out, HS.out, HP.out]
              exact ba_append [] s
            · have h0' : ((d : Int) == 0) = false := by simp; omega
              rw [pointed_pos h0, ← hp] at HS
              clear hp
              go_wp2
              go_quiet (fail)
              go_wp2
              go_ret
              refine ⟨one_str ?_, below_drewN b1 _⟩
              rw [HM.out, HS.out]
              exact fin1 [] p _ _ (Nat.le_refl _)

end Go.Proofs.YtddffpihacolkaaDoor.Mo
