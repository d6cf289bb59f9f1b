/- The contract of the specification's CaseOk. -/
import Derived.Test.YtjnekdihmchlpaaGreatDoorJT1a
import Derived.Test.YtjnekdihmchlpaaGreatDoorKTRReas
import Derived.Test.YtjnekdihmchlpaaGreatDoorKTSLed
import Derived.Deep.DeepCutAuto
namespace Go.Proofs.YtjnekdihmchlpaaGreatDoor
open Go.RowKit
set_option maxRecDepth 100000

theorem in_is {x a b : Int} {q : Bool} (h : inB x a b = q) (w : World) : Calls Tryz.prog 26 #[.int .i64 x, .int .i64 a, .int .i64 b] w fun e w' => e = .returned (.bool q) ∧ w' = w := by rw [← h]; exact in_any x a b w
theorem inB_of {x a b : Int} {q : Bool} (h : inB x a b = q) : decide (a ≤ x ∧ x ≤ b) = q := h

set_option maxHeartbeats 6400000 in
theorem sCaseOk_any (c : Cs) (w : World) :
    Calls Tryz.prog 25 #[cv c] w fun e w' => e = .returned (.bool (caseOk c)) ∧ Below w.heap.size w w' := by
  obtain ⟨W, hW⟩ : ∃ W, W = w.alloc (.cells #[.int .i64 c.iss, .int .i64 c.acq, .int .i64 c.cur, .int .i64 c.am, .int .i64 c.st, .int .i64 c.rsn, .int .i64 c.cl, .int .i64 c.bk, .int .i64 c.fee, .bool c.cop, .int .i64 c.sta, .int .i64 c.due] 25) := ⟨_, rfl⟩
  have B : CB w.heap.size 0 c W := by rw [hW]; exact CB.new w c _
  have bW : Below w.heap.size w W := by rw [hW]; exact (Below.refl _ _).alloc (Nat.le_refl _) _
  obtain ⟨iss, acq, cur, am, st, rsn, cl, bk, fee, cop, sta, due⟩ := c
  unfold cv
  simp only at hW ⊢
  have HBC : Hid (CB w.heap.size 0 ⟨iss, acq, cur, am, st, rsn, cl, bk, fee, cop, sta, due⟩ W) := B
  have HW : Hid _ := hW
  have HBW : Hid (Below w.heap.size w W) := bW
  obtain ⟨f0, f1, f2, f3, f4, f5, f6, f7, f8, f9, f10, f11⟩ := B
  simp only [Nat.zero_add] at f0 f1 f2 f3 f4 f5 f6 f7 f8 f9 f10 f11
  clear hW bW f9
  go_enter Tryz.func25, Tryz.ntmps25
  go_upto_region 1 with fail
  rw [← HW.out]
  go_wp2_with fail
  refine (acct_any iss _).mono ?_
  rintro e w1 ⟨rfl, hw⟩
  rw [hw]
  clear hw
  cases h1 : acctOk iss
  · have HE : Hid (caseOk ⟨iss, acq, cur, am, st, rsn, cl, bk, fee, cop, sta, due⟩ = false) := by simp [Hid, caseOk, party, h1]
    clear h1
    go_wp2
    go_ret
    exact ⟨one_bool HE.out.symm, HBW.out⟩
  go_wp2_with fail
  refine (acct_any acq _).mono ?_
  rintro e w1 ⟨rfl, hw⟩
  rw [hw]
  clear hw
  cases h2 : acctOk acq
  · have HE : Hid (caseOk ⟨iss, acq, cur, am, st, rsn, cl, bk, fee, cop, sta, due⟩ = false) := by simp [Hid, caseOk, party, h2]
    clear h1 h2
    go_wp2
    go_ret
    exact ⟨one_bool HE.out.symm, HBW.out⟩
  by_cases h3 : iss = acq
  · have HE : Hid (caseOk ⟨iss, acq, cur, am, st, rsn, cl, bk, fee, cop, sta, due⟩ = false) := by simp [Hid, caseOk, h3]
    have h3' : (iss == acq) = true := by simpa using h3
    clear h1 h2 h3
    go_wp2
    go_ret
    exact ⟨one_bool HE.out.symm, HBW.out⟩
  have h3' := beq_no h3
  by_cases k1 : iss = 9999
  · have HE : Hid (caseOk ⟨iss, acq, cur, am, st, rsn, cl, bk, fee, cop, sta, due⟩ = false) := by simp [Hid, caseOk, party, k1]
    have k1' : (iss == 9999) = true := by simpa using k1
    clear h1 h2 h3 k1
    go_wp2
    go_ret
    exact ⟨one_bool HE.out.symm, HBW.out⟩
  have k1' := beq_no k1
  by_cases k2 : acq = 9999
  · have HE : Hid (caseOk ⟨iss, acq, cur, am, st, rsn, cl, bk, fee, cop, sta, due⟩ = false) := by simp [Hid, caseOk, party, k2]
    have k2' : (acq == 9999) = true := by simpa using k2
    clear h1 h2 h3 k1 k2
    go_wp2
    go_ret
    exact ⟨one_bool HE.out.symm, HBW.out⟩
  have k2' := beq_no k2
  have H1 : Hid (party iss = true) := by simp [Hid, party, h1, k1]
  have H2 : Hid (party acq = true) := by simp [Hid, party, h2, k2]
  have H3 : Hid (decide (iss ≠ acq) = true) := decide_eq_true h3
  clear h1 h2 h3 k1 k2
  go_upto_region 3 with fail
  go_cut [3] (fun v wc => v = .bool (early st) ∧ wc = W)
  case first =>
    cases he : inB st 0 2
    · have HV : Hid (early st = (st == 7)) := by
        simp only [Hid, early, inB_of he, Bool.false_or]
        by_cases h : st = 7 <;> simp [h]
      go_wp2_with (go_at_call 26; refine (in_is he _).mono ?_; rintro e w' ⟨rfl, rfl⟩)
      go_meet
      exact ⟨by rw [HV.out], rfl⟩
    · have HV : Hid (early st = true) := by simp only [Hid, early, inB_of he, Bool.true_or]
      go_wp2_with (go_at_call 26; refine (in_is he _).mono ?_; rintro e w' ⟨rfl, rfl⟩)
      go_meet
      exact ⟨by rw [HV.out], rfl⟩
  case rest =>
    obtain ⟨rfl, hwc⟩ := hcut
    rw [hwc]
    clear hwc
    obtain ⟨E, hE⟩ : ∃ E, early st = E := ⟨_, rfl⟩
    rw [hE]
    have HEE : Hid _ := hE
    obtain ⟨d, hd⟩ : ∃ d, digs cur = d := ⟨_, rfl⟩
    have HD : Hid _ := hd
    clear hd hE h3' k1' k2'
    obtain ⟨m, hm⟩ : ∃ m, (decide (0 ≤ d) && (decide (1 ≤ am ∧ am ≤ 100000000000) && (decide (0 ≤ st ∧ st ≤ 7) && (rOk rsn || (decide (rsn = 0) && E))))) = m := ⟨_, rfl⟩
    have HM : Hid _ := hm
    clear hm
    go_upto_region 4 with fail
    go_cut [69] (fun v wc => v = .bool (!m) ∧ Below W.heap.size W wc)
    case first =>
      go_wp2_with fail
      refine (digs_is _ d HD.out).mono ?_
      rintro e w3 ⟨rfl, b3⟩
      have B3 := HBC.out.below b3
      have HB3 : Hid (Below W.heap.size W w3) := b3
      clear b3 f0 f1 f2 f3 f4 f5 f6 f7 f8 f10 f11
      obtain ⟨f0, f1, f2, f3, f4, f5, f6, f7, f8, f9, f10, f11⟩ := B3
      simp only [Nat.zero_add] at f0 f1 f2 f3 f4 f5 f6 f7 f8 f9 f10 f11
      clear f9 f0 f1 f2 f6 f7 f8 f10 f11
      by_cases h4 : d < 0
      · have HE : Hid (m = false) := by
          have : ¬ 0 ≤ d := by omega
          rw [Hid, ← HM.out]; simp [this]
        go_wp2
        go_meet
        exact ⟨by rw [HE.out]; rfl, HB3.out⟩
      have H4 : Hid (decide (0 ≤ d) = true) := decide_eq_true (by omega)
      have HN : Hid (decide (d < 0) = false) := decide_eq_false h4
      go_wp2_with fail
      cases h5 : inB am 1 100000000000
      · have HE : Hid (m = false) := by rw [Hid, ← HM.out, inB_of h5]; simp
        refine (in_is h5 _).mono ?_
        rintro e w4 ⟨rfl, hw⟩
        rw [hw]
        clear hw
        clear h5
        go_wp2
        go_meet
        exact ⟨by rw [HE.out]; rfl, HB3.out⟩
      have H5 : Hid (decide (1 ≤ am ∧ am ≤ 100000000000) = true) := h5
      refine (in_is h5 _).mono ?_
      rintro e w4 ⟨rfl, hw⟩
      rw [hw]
      clear hw
      clear h5
      go_wp2_with fail
      cases h7 : inB st 0 7
      · have HE : Hid (m = false) := by rw [Hid, ← HM.out, inB_of h7]; simp
        refine (in_is h7 _).mono ?_
        rintro e w4 ⟨rfl, hw⟩
        rw [hw]
        clear hw
        clear h7
        go_wp2
        go_meet
        exact ⟨by rw [HE.out]; rfl, HB3.out⟩
      have H7 : Hid (decide (0 ≤ st ∧ st ≤ 7) = true) := h7
      refine (in_is h7 _).mono ?_
      rintro e w4 ⟨rfl, hw⟩
      rw [hw]
      clear hw
      clear h7
      go_wp2_with fail
      refine (sROk_any rsn _).mono ?_
      rintro e w5 ⟨rfl, b5⟩
      have g5 := (b5.cell (p := ⟨w.heap.size, 5, none⟩) (World.block_lt_of_cell? _ _ f5)).trans f5
      have HB5 : Hid (Below W.heap.size W w5) := next HB3.out b5
      clear b5 f3 f4 f5
      have HQ : Hid (m = (rOk rsn || (decide (rsn = 0) && E))) := by rw [Hid, ← HM.out, H4.out, H5.out, H7.out]; rfl
      cases h8 : rOk rsn
      · rw [h8, Bool.false_or] at HQ
        clear h8
        by_cases h9 : rsn = 0
        · rw [decide_eq_true h9, Bool.true_and] at HQ
          have h9' : (rsn == 0) = true := by simpa using h9
          clear h9
          cases E
          · go_wp2
            go_meet
            exact ⟨by rw [HQ.out]; first | rfl | (rw [HN.out]; rfl), HB5.out⟩
          · go_wp2
            go_meet
            exact ⟨by rw [HQ.out]; first | rfl | (rw [HN.out]; rfl), HB5.out⟩
        · rw [decide_eq_false h9, Bool.false_and] at HQ
          have h9' := beq_no h9
          clear h9
          go_wp2
          go_meet
          exact ⟨by rw [HQ.out]; first | rfl | (rw [HN.out]; rfl), HB5.out⟩
      · rw [h8, Bool.true_or] at HQ
        clear h8
        go_wp2
        go_meet
        exact ⟨by rw [HQ.out]; first | rfl | (rw [HN.out]; rfl), HB5.out⟩
    case rest =>
      obtain ⟨rfl, bc⟩ := hcut
      have B5 := HBC.out.below bc
      have HB5 : Hid (Below w.heap.size w wc) := next HBW.out bc
      clear bc f0 f1 f2 f3 f4 f5 f6 f7 f8 f10 f11
      obtain ⟨f0, f1, f2, f3, f4, f5, f6, f7, f8, f9, f10, f11⟩ := B5
      simp only [Nat.zero_add] at f0 f1 f2 f3 f4 f5 f6 f7 f8 f9 f10 f11
      clear f9 f0 f1 f2 f4 f5
      have hx : ∀ r : Bool, (decide (0 ≤ cl ∧ cl ≤ am) && (decide (0 ≤ bk ∧ bk ≤ am) && (decide (0 ≤ fee ∧ fee ≤ 500000) && (dOk sta && (dOk due || decide (due = -1)))))) = r → caseOk ⟨iss, acq, cur, am, st, rsn, cl, bk, fee, cop, sta, due⟩ = (m && r) := by
        intro r hr
        subst hr
        simp only [caseOk, reasonOkAt, H1.out, H2.out, HD.out, H3.out, Bool.true_and, ← HM.out, HEE.out, Bool.and_assoc]
      cases m
      · have HE : Hid (caseOk ⟨iss, acq, cur, am, st, rsn, cl, bk, fee, cop, sta, due⟩ = false) := hx _ rfl
        clear hx
        go_wp2
        go_ret
        exact ⟨one_bool HE.out.symm, HB5.out⟩
      simp only [Bool.true_and] at hx
      have HX : Hid (∀ r : Bool, (decide (0 ≤ cl ∧ cl ≤ am) && (decide (0 ≤ bk ∧ bk ≤ am) && (decide (0 ≤ fee ∧ fee ≤ 500000) && (dOk sta && (dOk due || decide (due = -1)))))) = r → caseOk ⟨iss, acq, cur, am, st, rsn, cl, bk, fee, cop, sta, due⟩ = r) := hx
      clear hx
      go_wp2_with fail
      cases h9 : inB cl 0 am
      · have HE : Hid (caseOk ⟨iss, acq, cur, am, st, rsn, cl, bk, fee, cop, sta, due⟩ = false) := HX.out _ (by rw [inB_of h9]; rfl)
        refine (in_is h9 _).mono ?_
        rintro e w4 ⟨rfl, hw⟩
        rw [hw]
        clear hw
        clear h9
        go_wp2
        go_ret
        exact ⟨one_bool HE.out.symm, HB5.out⟩
      refine (in_is h9 _).mono ?_
      rintro e w4 ⟨rfl, hw⟩
      rw [hw]
      clear hw
      have H9 : Hid (decide (0 ≤ cl ∧ cl ≤ am) = true) := h9
      clear h9
      go_wp2_with fail
      cases h10 : inB bk 0 am
      · have HE : Hid (caseOk ⟨iss, acq, cur, am, st, rsn, cl, bk, fee, cop, sta, due⟩ = false) := HX.out _ (by rw [inB_of h10]; simp)
        refine (in_is h10 _).mono ?_
        rintro e w4 ⟨rfl, hw⟩
        rw [hw]
        clear hw
        clear h10
        go_wp2
        go_ret
        exact ⟨one_bool HE.out.symm, HB5.out⟩
      refine (in_is h10 _).mono ?_
      rintro e w4 ⟨rfl, hw⟩
      rw [hw]
      clear hw
      have H10 : Hid (decide (0 ≤ bk ∧ bk ≤ am) = true) := h10
      clear h10
      go_wp2_with fail
      cases h11 : inB fee 0 500000
      · have HE : Hid (caseOk ⟨iss, acq, cur, am, st, rsn, cl, bk, fee, cop, sta, due⟩ = false) := HX.out _ (by rw [inB_of h11]; simp)
        refine (in_is h11 _).mono ?_
        rintro e w4 ⟨rfl, hw⟩
        rw [hw]
        clear hw
        clear h11
        go_wp2
        go_ret
        exact ⟨one_bool HE.out.symm, HB5.out⟩
      refine (in_is h11 _).mono ?_
      rintro e w4 ⟨rfl, hw⟩
      rw [hw]
      clear hw
      have H11 : Hid (decide (0 ≤ fee ∧ fee ≤ 500000) = true) := h11
      clear h11
      have HE : Hid (caseOk ⟨iss, acq, cur, am, st, rsn, cl, bk, fee, cop, sta, due⟩ = (dOk sta && (dOk due || decide (due = -1)))) := HX.out _ (by rw [H9.out, H10.out, H11.out]; rfl)
      clear HX
      go_wp2_with fail
      refine (sDayOk_any sta _).mono ?_
      rintro e w6 ⟨rfl, hw⟩
      rw [hw]
      clear hw
      cases h15 : dOk sta
      · rw [h15, Bool.false_and] at HE
        clear h15
        go_wp2
        go_ret
        exact ⟨one_bool HE.out.symm, HB5.out⟩
      rw [h15, Bool.true_and] at HE
      clear h15
      by_cases h17 : due = -1
      · rw [decide_eq_true h17, Bool.or_true] at HE
        have h17' : (due == -1) = true := by simpa using h17
        clear h17
        go_wp2
        go_ret
        exact ⟨one_bool HE.out.symm, HB5.out⟩
      · rw [decide_eq_false h17, Bool.or_false] at HE
        have h17' := beq_no h17
        clear h17
        go_wp2_with fail
        refine (sDayOk_any due _).mono ?_
        rintro e w7 ⟨rfl, hw⟩
        rw [hw]
        clear hw
        go_wp2
        go_ret
        exact ⟨one_bool HE.out.symm, HB5.out⟩

end Go.Proofs.YtjnekdihmchlpaaGreatDoor
