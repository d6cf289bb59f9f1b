/- The contract of the program's AuthOk: what it returns for every authorization. -/
import Derived.Test.YtpjfigjgamlcdaaDoorAuSl
import Derived.Test.YtpjfigjgamlcdaaDoorAWith
import Derived.Test.YtpjfigjgamlcdaaDoorShelf
import Derived.Test.YtpjfigjgamlcdaaDoorDLeaf
import Derived.Test.YtpjfigjgamlcdaaDoorFLed
namespace Go.Proofs.YtpjfigjgamlcdaaDoor
open Go.RowKit
set_option maxRecDepth 100000

theorem blank_in (l : List UInt8) : decide (0 ≤ Lib.indexByte l 32) = l.any (fun c => c == 32) := by
  induction l with
  | nil => rfl
  | cons b l ih =>
    have hg := Lib.indexByte_ge l 32
    by_cases hb : b = 32
    · have h1 : (b == 32) = true := by simp [hb]
      have h0 : Lib.indexByte (b :: l) 32 = 0 := by rw [Lib.indexByte, if_pos h1]
      rw [h0, List.any_cons, h1]; rfl
    · have h1 : (b == 32) = false := by simp [hb]
      rw [List.any_cons, h1, Bool.false_or, ← ih]
      by_cases h : Lib.indexByte l 32 = -1
      · have h0 : Lib.indexByte (b :: l) 32 = -1 := by rw [Lib.indexByte, if_neg (by rw [h1]; decide), if_pos (by simp [h])]
        rw [h0, h]
      · have h0 : Lib.indexByte (b :: l) 32 = Lib.indexByte l 32 + 1 := by rw [Lib.indexByte, if_neg (by rw [h1]; decide), if_neg (by simp [h])]
        rw [h0, decide_eq_true (show 0 ≤ Lib.indexByte l 32 + 1 by omega), decide_eq_true (show 0 ≤ Lib.indexByte l 32 by omega)]
theorem ref_within (l : List UInt8) : within 33 126 l = (within 32 126 l && !decide (0 ≤ Lib.indexByte l 32)) := by
  rw [blank_in]
  induction l with
  | nil => rfl
  | cons b l ih =>
    simp only [within, List.all_cons, List.any_cons] at ih ⊢
    rw [ih]
    by_cases hb : b.toNat = 32
    · have h1 : (b == 32) = true := by
        have : b = 32 := UInt8.toNat_inj.1 hb
        simp [this]
      have h2 : decide (33 ≤ b.toNat) = false := by simp [hb]
      rw [h1, h2]
      simp
    · have h1 : (b == 32) = false := by
        cases h : (b == 32)
        · rfl
        · have : b = 32 := by simpa using h
          subst this
          exact absurd rfl hb
      have h2 : decide (33 ≤ b.toNat) = decide (32 ≤ b.toNat) := by
        by_cases h : 33 ≤ b.toNat
        · rw [decide_eq_true h, decide_eq_true (show 32 ≤ b.toNat by omega)]
        · rw [decide_eq_false h, decide_eq_false (show ¬ 32 ≤ b.toNat by omega)]
      rw [h1, h2, Bool.false_or]
      cases decide (32 ≤ b.toNat) <;> cases decide (b.toNat ≤ 126) <;> simp

set_option maxHeartbeats 800000 in
theorem iRef_any (l : List UInt8) (w : World) (hl : l.length ≤ 1099511627776) :
    Calls Tryd.prog 108 #[.string ⟨l.toArray⟩] w fun e w' => e = .returned (.bool (refOk l)) ∧ w' = w := by
  by_cases h12 : l.length = 12
  · have hq : ((l.length : Int) == 12) = true := by simp [h12]
    have HR : Hid (refOk l = (within 32 126 l && !decide (0 ≤ Lib.indexByte l 32))) := by rw [Hid, refOk, ref_within, decide_eq_true h12, Bool.true_and]
    clear h12
    cases hp : within 32 126 l
    · go_enter Tryd.func108, Tryd.ntmps108
      go_wp2_with fail
      refine (iPlain_any l _ hl).mono ?_
      rintro e w1 ⟨rfl, hw⟩
      subst hw
      rw [hp]
      go_wp2
      go_ret
      exact ⟨one_bool (by rw [HR.out, hp]; rfl), rfl⟩
    · go_enter Tryd.func108, Tryd.ntmps108
      go_wp2_with fail
      refine (iPlain_any l _ hl).mono ?_
      rintro e w1 ⟨rfl, hw⟩
      subst hw
      rw [hp]
      go_wp2_with fail
      refine (Tryd.strings_Contains_one ⟨l.toArray⟩ 32 _).mono ?_
      rintro e w1 ⟨rfl, hw⟩
      subst hw
      obtain ⟨q, hqq⟩ : ∃ q, decide (0 ≤ Lib.indexByte (⟨l.toArray⟩ : ByteArray).data.toList 32) = q := ⟨_, rfl⟩
      rw [hqq]
      have HQ : Hid (decide (0 ≤ Lib.indexByte l 32) = q) := hqq
      clear hqq
      go_wp2
      go_ret
      exact ⟨one_bool (by rw [HR.out, hp, HQ.out]; rfl), rfl⟩
  · have hq : ((l.length : Int) == 12) = false := by simp; omega
    have HR : Hid (refOk l = false) := by rw [Hid, refOk, decide_eq_false h12]; rfl
    clear h12
    go_enter Tryd.func108, Tryd.ntmps108
    go_wp2
    go_ret
    exact ⟨one_bool HR.out.symm, rfl⟩
theorem iRef_is {l : List UInt8} {q : Bool} (h : refOk l = q) (w : World) (hl : l.length ≤ 1099511627776) : Calls Tryd.prog 108 #[.string ⟨l.toArray⟩] w fun e w' => e = .returned (.bool q) ∧ w' = w := by rw [← h]; exact iRef_any l w hl

set_option maxHeartbeats 1600000 in
theorem iAuthOk_any (a : Au) (w : World) (hl : a.ref.length ≤ 1099511627776) (hc : wf64 a.cur) :
    Calls Tryd.prog 77 #[auv a] w fun e w' => e = .returned (.bool (auOk a)) ∧ Below w.heap.size w w' := by
  obtain ⟨r, i, c, m, d, u⟩ := a
  simp only [auv] at hl hc ⊢
  have HV : Hid (auOk ⟨r, i, c, m, d, u⟩ = (refOk r && (acctOk i && (decide (0 ≤ digs c) && (decide (1 ≤ m ∧ m ≤ 100000000000) && dOk d))))) := rfl
  have b0 : ∀ o, Below w.heap.size w (w.alloc o) := fun o => (Below.refl _ _).alloc (Nat.le_refl _) _
  cases hr : refOk r
  · go_enter Tryd.func77, Tryd.ntmps77
    go_wp2_with fail
    refine (iRef_is hr _ hl).mono ?_
    rintro e w1 ⟨rfl, hw⟩
    subst hw
    go_wp2
    go_ret
    exact ⟨one_bool (by rw [HV.out, hr]; rfl), b0 _⟩
  cases hi : acctOk i
  · go_enter Tryd.func77, Tryd.ntmps77
    go_wp2_with fail
    refine (iRef_is hr _ hl).mono ?_
    rintro e w1 ⟨rfl, hw⟩
    subst hw
    go_wp2_with fail
    refine (iAcct_is hi _).mono ?_
    rintro e w1 ⟨rfl, hw⟩
    subst hw
    go_wp2
    go_ret
    exact ⟨one_bool (by rw [HV.out, hr, hi]; rfl), b0 _⟩
  obtain ⟨W, hW⟩ : ∃ W, w.alloc (.cells #[.string ⟨r.toArray⟩, .int .i64 i, .int .i64 c, .int .i64 m, .int .i64 d, .bool u] 61) = W := ⟨_, rfl⟩
  have bW : Below w.heap.size w W := hW ▸ b0 _
  have c3 : W.cell? ⟨w.heap.size, 3, none⟩ = some (.int .i64 m) := by rw [← hW]; simp
  have c4 : W.cell? ⟨w.heap.size, 4, none⟩ = some (.int .i64 d) := by rw [← hW]; simp
  have c2 : W.cell? ⟨w.heap.size, 2, none⟩ = some (.int .i64 c) := by rw [← hW]; simp
  have lW : w.heap.size < W.heap.size := by rw [← hW]; simp
  have HW : Hid _ := hW
  clear hW
  by_cases hd : 0 ≤ digs c
  · by_cases hm : 1 ≤ m ∧ m ≤ 100000000000
    · obtain ⟨hm1, hm2⟩ := hm
      obtain ⟨q, hq⟩ : ∃ q, dOk d = q := ⟨_, rfl⟩
      have HQ : Hid (dOk d = q) := hq
      clear hq
      have HVV : Hid (auOk ⟨r, i, c, m, d, u⟩ = q) := by rw [Hid, HV.out, hr, hi, decide_eq_true hd, decide_eq_true (show 1 ≤ m ∧ m ≤ 100000000000 from ⟨hm1, hm2⟩), HQ.out]; rfl
      clear HV
      go_enter Tryd.func77, Tryd.ntmps77
      go_wp2_with fail
      refine (iRef_is hr _ hl).mono ?_
      rintro e w1 ⟨rfl, hw⟩
      subst hw
      go_wp2_with fail
      refine (iAcct_is hi _).mono ?_
      rintro e w1 ⟨rfl, hw⟩
      subst hw
      rw [HW.out]
      go_wp2_with fail
      refine (iDigits_any c _ hc).mono ?_
      rintro e w2 ⟨rfl, b2⟩
      have e3 : w2.cell? ⟨w.heap.size, 3, none⟩ = some (.int .i64 m) := (b2.cell (p := ⟨w.heap.size, 3, none⟩) lW).trans c3
      have e4 : w2.cell? ⟨w.heap.size, 4, none⟩ = some (.int .i64 d) := (b2.cell (p := ⟨w.heap.size, 4, none⟩) lW).trans c4
      have HB : Hid (Below w.heap.size w w2) := bW.trans (b2.mono bW.size)
      generalize digs c = g at hd
      clear c2 c3 c4 bW b2 HW
      go_wp2_with fail
      refine (iDayOk_any d _).mono ?_
      rintro e w3 ⟨rfl, hw⟩
      subst hw
      rw [HQ.out]
      go_wp2
      go_ret
      exact ⟨one_bool HVV.out.symm, HB.out⟩
    · have HVV : Hid (auOk ⟨r, i, c, m, d, u⟩ = false) := by rw [Hid, HV.out, hr, hi, decide_eq_true hd, decide_eq_false hm]; rfl
      clear HV
      go_enter Tryd.func77, Tryd.ntmps77
      go_wp2_with fail
      refine (iRef_is hr _ hl).mono ?_
      rintro e w1 ⟨rfl, hw⟩
      subst hw
      go_wp2_with fail
      refine (iAcct_is hi _).mono ?_
      rintro e w1 ⟨rfl, hw⟩
      subst hw
      rw [HW.out]
      go_wp2_with fail
      refine (iDigits_any c _ hc).mono ?_
      rintro e w2 ⟨rfl, b2⟩
      have e3 : w2.cell? ⟨w.heap.size, 3, none⟩ = some (.int .i64 m) := (b2.cell (p := ⟨w.heap.size, 3, none⟩) lW).trans c3
      have HB : Hid (Below w.heap.size w w2) := bW.trans (b2.mono bW.size)
      generalize digs c = g at hd
      clear c2 c3 c4 bW b2 HW
      by_cases hm1 : 1 ≤ m
      · have hm2 : 100000000000 < m := by omega
        clear hm
        go_wp2
        go_ret
        exact ⟨one_bool HVV.out.symm, HB.out⟩
      · clear hm
        go_wp2
        go_ret
        exact ⟨one_bool HVV.out.symm, HB.out⟩
  · have HVV : Hid (auOk ⟨r, i, c, m, d, u⟩ = false) := by rw [Hid, HV.out, hr, hi, decide_eq_false hd]; rfl
    clear HV
    go_enter Tryd.func77, Tryd.ntmps77
    go_wp2_with fail
    refine (iRef_is hr _ hl).mono ?_
    rintro e w1 ⟨rfl, hw⟩
    subst hw
    go_wp2_with fail
    refine (iAcct_is hi _).mono ?_
    rintro e w1 ⟨rfl, hw⟩
    subst hw
    rw [HW.out]
    go_wp2_with fail
    refine (iDigits_any c _ hc).mono ?_
    rintro e w2 ⟨rfl, b2⟩
    have HB : Hid (Below w.heap.size w w2) := bW.trans (b2.mono bW.size)
    generalize digs c = g at hd
    clear c2 c3 c4 bW b2 HW
    go_wp2
    go_ret
    exact ⟨one_bool HVV.out.symm, HB.out⟩

end Go.Proofs.YtpjfigjgamlcdaaDoor
