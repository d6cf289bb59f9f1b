/- Proved: for whatever bytes the draw is made of (up to 1048576; more pass by the law's own first test): a ruling of a case gives the issuer just what was ruled, closes the case, and its fee is paid to the house by the acquirer just when what was ruled is half of the claim or more; the program's code is the specification's. What it takes: the table of the steps' days holds what the program's text lays into it (the card ties that to the program). -/
import Derived.Test.YtenbhmmknejcjaaDoorJP90a
import Derived.Test.YtenbhmmknejcjaaDoorJP913a
import Derived.Test.YtenbhmmknejcjaaDoorJP91a
import Derived.Test.YtenbhmmknejcjaaDoorJP93a
namespace Go.Proofs.YtenbhmmknejcjaaDoor.fnRuled
open Go.ChangeShapes Go.WideShapes Go.ChangeAt Go.RowKit
set_option maxRecDepth 100000

theorem varTab {w : World} (h : laidMet Tryd.prog Rows.fnRuledRow.laid w) : StepTab w := step_head h

set_option maxHeartbeats 12800000 in
theorem walk (a0 : Option Addr) (len0 cap0 : Nat) (z0 : List Int) (w : World) (w0 : IsRow .u8 w a0 len0 cap0 z0) (hL : laidMet Tryd.prog Rows.fnRuledRow.laid w) (_hsh : w.ShapedOpen Tryd.prog) :
    Calls Tryd.prog 6 #[.slice a0 len0 cap0] w fun e w' => e = .returned (.bool true) ∧ Below w.heap.size w w' := by
  have HT : Hid (StepTab w) := varTab hL
  clear hL
  by_cases hbig : (1048576 : Int) < (len0 : Int)
  · have hdec : decide ((1048576 : Int) < (len0 : Int)) = true := decide_eq_true hbig
    clear w0
    go_enter Tryd.func6, Tryd.ntmps6
    go_wp2_with fail
    refine (big_any _ _ _ _).mono ?_
    rintro e u ⟨rfl, hu⟩
    replace hu := hu.symm
    subst hu
    rw [hdec]
    go_wp2
    go_ret
    exact ⟨rfl, Below.refl _ _⟩
  · have hdec : decide ((1048576 : Int) < (len0 : Int)) = false := decide_eq_false hbig
    have hn : len0 ≤ 1048576 := by omega
    have HR : Hid (IsRow .u8 w a0 len0 cap0 z0) := w0
    clear w0 hbig
    go_enter Tryd.func6, Tryd.ntmps6
    go_wp2_with fail
    refine (big_any _ _ _ _).mono ?_
    rintro e u ⟨rfl, hu⟩
    replace hu := hu.symm
    subst hu
    rw [hdec]
    go_wp2_with fail
    refine (drawCaseDo_any _ _ _ _ _ HR.out hn).mono ?_
    rintro e u1 ⟨c, a, d, ao, cp, xs, rfl, hcu, hxl, hx, b1⟩
    have HN : Hid (len0 ≤ 1048576) := hn
    have HXL : Hid (xs.length ≤ 13) := hxl
    have HX : Hid (IntsAt u1 ao xs) := hx
    have HB1 : Hid (Below w.heap.size w u1) := b1
    have HCU : Hid (wf64 c.cur) := hcu
    clear hn hxl hx b1 hcu hdec
    have HTB := two_boxes u1 c a 25 27
    obtain ⟨iss, acq, cur, am, st, rsn, cl, bk, fee, cop, sta, due⟩ := c
    obtain ⟨ak, aa, ar⟩ := a
    unfold cv av
    simp only at HCU HTB ⊢
    go_upto_region 4 with fail
    obtain ⟨nb, -, b2⟩ := HTB
    generalize ((u1.alloc (.cells #[.int .i64 iss, .int .i64 acq, .int .i64 cur, .int .i64 am, .int .i64 st, .int .i64 rsn, .int .i64 cl, .int .i64 bk, .int .i64 fee, .bool cop, .int .i64 sta, .int .i64 due] 25)).alloc (.cells #[.int .i64 ak, .int .i64 aa, .int .i64 ar] 27)) = w4 at nb b2 ⊢
    have HX4 : Hid (∀ v, Below u1.heap.size w4 v → IntsAt v ao xs) := fun v hv => HX.out.below (b2.trans hv)
    have HB4 : Hid (Below w.heap.size w w4) := next HB1.out b2
    obtain ⟨R, hR⟩ : ∃ R, R = u1.heap.size := ⟨_, rfl⟩
    have HRR : Hid (w.heap.size ≤ R) := by rw [Hid, hR]; exact HB1.out.size
    rw [← hR] at nb HX4 ⊢
    clear hR HX HB1 b2
    obtain ⟨rg0, rg1, rg2, rg3, rg4, rg5, rg6, rg7, rg8, rg9, rg10, rg11⟩ := nb.cb
    obtain ⟨ry0, ry1, ry2, ry3, ry4, ry5, ry6, ry7, ry8, ry9, ry10, ry11⟩ := nb.fz
    simp only [Nat.zero_add] at rg0 ry0 rg1 ry1 rg2 ry2 rg3 ry3 rg4 ry4 rg5 ry5 rg6 ry6 rg7 ry7 rg8 ry8 rg9 ry9 rg10 ry10 rg11 ry11
    have HNB : Hid (NB R ⟨iss, acq, cur, am, st, rsn, cl, bk, fee, cop, sta, due⟩ w4) := nb
    clear nb
    go_upto_region 9 with fail
    have nb5 := ((((HNB.out.set4 6).set5 4853).set6 (wrap64 (am.tdiv 2))).set7 0).set11 (-1)
    have b5 := ((((bel_at w4 R 4 (.int .i64 6)).trans (bel_at _ R 5 (.int .i64 4853))).trans (bel_at _ R 6 (.int .i64 (wrap64 (am.tdiv 2))))).trans (bel_at _ R 7 (.int .i64 0))).trans (bel_at _ R 11 (.int .i64 (-1)))
    simp only at nb5
    generalize wrap64 (am.tdiv 2) = q at nb5 b5 ⊢
    generalize (((((w4.setCell ⟨R, 4, none⟩ (.int .i64 6)).setCell ⟨R, 5, none⟩ (.int .i64 4853)).setCell ⟨R, 6, none⟩ (.int .i64 q)).setCell ⟨R, 7, none⟩ (.int .i64 0)).setCell ⟨R, 11, none⟩ (.int .i64 (-1))) = w5 at nb5 b5 ⊢
    have HB5 : Hid (Below w.heap.size w w5) := HB4.out.trans (b5.mono HRR.out)
    have HX5 : Hid (IntsAt w5 ao xs) := HX4.out _ b5
    clear rg0 ry0 rg1 ry1 rg2 ry2 rg3 ry3 rg4 ry4 rg5 ry5 rg6 ry6 rg7 ry7 rg8 ry8 rg9 ry9 rg10 ry10 rg11 ry11 HB4 HX4 b5 HNB
    obtain ⟨rg0, rg1, rg2, rg3, rg4, rg5, rg6, rg7, rg8, rg9, rg10, rg11⟩ := nb5.cb
    simp only [Nat.zero_add] at rg0 rg1 rg2 rg3 rg4 rg5 rg6 rg7 rg8 rg9 rg10 rg11
    have HNB : Hid (NB R ⟨iss, acq, cur, am, 6, 4853, q, 0, fee, cop, sta, -1⟩ w5) := nb5
    clear nb5
    have HOK : Hid (∀ u, Calls Tryd.prog 13 #[.agg #[.int .i64 iss, .int .i64 acq, .int .i64 cur, .int .i64 am, .int .i64 6, .int .i64 4853, .int .i64 q, .int .i64 0, .int .i64 fee, .bool cop, .int .i64 sta, .int .i64 (-1)]] u fun e w' => e = .returned (.bool (caseOk ⟨iss, acq, cur, am, 6, 4853, q, 0, fee, cop, sta, -1⟩)) ∧ Below u.heap.size u w') := fun u => sCaseOk_any ⟨iss, acq, cur, am, 6, 4853, q, 0, fee, cop, sta, -1⟩ u
    go_wp2_with fail
    refine (HOK.out _).mono ?_
    rintro e w6 ⟨rfl, b6⟩
    have HCS : Hid (wf64 cur) := HCU.out
    have HID : Hid (∀ (x : Int) (u : World), StepTab u → IntsAt u ao xs → Calls Tryd.prog 10 #[.agg #[.int .i64 iss, .int .i64 acq, .int .i64 cur, .int .i64 am, .int .i64 6, .int .i64 4853, .int .i64 q, .int .i64 0, .int .i64 fee, .bool cop, .int .i64 sta, .int .i64 (-1)], .agg #[.int .i64 7, .int .i64 x, .int .i64 0], .int .i64 sta, .slice ao xs.length cp] u (DoR u (doC ⟨iss, acq, cur, am, 6, 4853, q, 0, fee, cop, sta, -1⟩ ⟨7, x, 0⟩ sta xs) (doE ⟨iss, acq, cur, am, 6, 4853, q, 0, fee, cop, sta, -1⟩ ⟨7, x, 0⟩ sta xs) (doV ⟨iss, acq, cur, am, 6, 4853, q, 0, fee, cop, sta, -1⟩ ⟨7, x, 0⟩ sta xs))) := fun x u ht hx => iDo_any ⟨iss, acq, cur, am, 6, 4853, q, 0, fee, cop, sta, -1⟩ ⟨7, x, 0⟩ sta ao cp xs u hx (by have := HXL.out; omega) ht (tab_lt' ht) HCS.out
    have HSD : Hid (∀ (x : Int) (u : World), IntsAt u ao xs → Calls Tryd.prog 11 #[.agg #[.int .i64 iss, .int .i64 acq, .int .i64 cur, .int .i64 am, .int .i64 6, .int .i64 4853, .int .i64 q, .int .i64 0, .int .i64 fee, .bool cop, .int .i64 sta, .int .i64 (-1)], .agg #[.int .i64 7, .int .i64 x, .int .i64 0], .int .i64 sta, .slice ao xs.length cp] u (DoR u (doC ⟨iss, acq, cur, am, 6, 4853, q, 0, fee, cop, sta, -1⟩ ⟨7, x, 0⟩ sta xs) (doE ⟨iss, acq, cur, am, 6, 4853, q, 0, fee, cop, sta, -1⟩ ⟨7, x, 0⟩ sta xs) (doV ⟨iss, acq, cur, am, 6, 4853, q, 0, fee, cop, sta, -1⟩ ⟨7, x, 0⟩ sta xs))) := fun x u hx => sDo_any ⟨iss, acq, cur, am, 6, 4853, q, 0, fee, cop, sta, -1⟩ ⟨7, x, 0⟩ sta ao cp xs u hx (by have := HXL.out; omega)
    have n6 := HNB.out.below b6
    have HX6 : Hid (IntsAt w6 ao xs) := HX5.out.below b6
    have HB6 : Hid (Below w.heap.size w w6) := next HB5.out b6
    clear rg0 rg1 rg2 rg3 rg4 rg5 rg6 rg7 rg8 rg9 rg10 rg11 HNB HX5 HB5 b6 HOK HCU HXL
    cases hk : caseOk ⟨iss, acq, cur, am, 6, 4853, q, 0, fee, cop, sta, -1⟩
    · clear HID HSD
      go_wp2
      go_ret
      exact ⟨rfl, HB6.out⟩
    · have r8 := n6.cb.f8
      simp only [Nat.zero_add] at r8
      have HOK : Hid (caseOk ⟨iss, acq, cur, am, 6, 4853, q, 0, fee, cop, sta, -1⟩ = true) := hk
      clear hk
      by_cases hf : 400000 < fee
      · clear HID HSD
        go_wp2
        go_ret
        exact ⟨rfl, HB6.out⟩
      · have HF : Hid _ := hf
        have r6 := n6.cb.f6
        simp only [Nat.zero_add] at r6
        have HR6 : Hid (IsRow .u8 w6 a0 len0 cap0 z0) := row_below HR.out HB6.out
        have HR6d : Hid (IsRow .u8 w6.drew a0 len0 cap0 z0) := row_below HR6.out ((Below.refl _ _).drew)
        have HN6 : Hid (NB R ⟨iss, acq, cur, am, 6, 4853, q, 0, fee, cop, sta, -1⟩ w6) := n6
        clear n6
        go_upto_region 11 with fail
        go_cut [7] (fun v wc => ∃ x : Int, v = .int .i64 x ∧ Below w6.heap.size w6 wc)
        case first =>
          clear HID HSD
          go_region_with (go_at_call 17; (first | with_reducible refine (at_any _ _ _ _ _ HR6.out HN.out).mono ?_ | with_reducible refine (at_any _ _ _ _ _ HR6d.out HN.out).mono ?_); rintro e v1 ⟨k, hk, rfl, hv⟩; subst hv)
          all_goals
            go_wp2_with fail
            go_meet
            exact ⟨_, rfl, by first | exact Below.refl _ _ | exact (Below.refl _ _).drew | exact (Below.refl _ _).drew.drew⟩
        case rest =>
          obtain ⟨x, rfl, b7⟩ := hcut
          obtain ⟨w7, hw7⟩ : ∃ y, y = wc := ⟨_, rfl⟩
          subst hw7
          have HB7 : Hid (Below w.heap.size w w7) := next HB6.out b7
          have n7 := HN6.out.below b7
          have HX7 : Hid (IntsAt w7 ao xs) := HX6.out.below b7
          have HT7 : Hid (StepTab w7) := tab_below HT.out HB7.out
          clear b7 HB6 HN6 HX6 HR6 HR6d r6 r8
          obtain ⟨rg0, rg1, rg2, rg3, rg4, rg5, rg6, rg7, rg8, rg9, rg10, rg11⟩ := n7.cb
          simp only [Nat.zero_add] at rg0 rg1 rg2 rg3 rg4 rg5 rg6 rg7 rg8 rg9 rg10 rg11
          have HN7 : Hid (NB R ⟨iss, acq, cur, am, 6, 4853, q, 0, fee, cop, sta, -1⟩ w7) := n7
          clear n7
          by_cases hv : doV ⟨iss, acq, cur, am, 6, 4853, q, 0, fee, cop, sta, -1⟩ ⟨7, x, 0⟩ sta xs = 0
          · obtain ⟨_, _, hcd, _⟩ := do_done hv
            obtain ⟨x0, xq⟩ := codeRule hcd rfl
            obtain ⟨_, _, p2, _, ⟨p3, p4⟩, _, _, p7, _⟩ := caseOk_parts HOK.out
            simp only at xq p2 p3 p4 p7 x0
            have eC : doC ⟨iss, acq, cur, am, 6, 4853, q, 0, fee, cop, sta, -1⟩ ⟨7, x, 0⟩ sta xs = ⟨iss, acq, cur, am, 7, 4853, 0, x, fee + 50000, cop, sta, -1⟩ := by rw [doC_yes hv]; simp [nextC, ruleC]
            have eE : doE ⟨iss, acq, cur, am, 6, 4853, q, 0, fee, cop, sta, -1⟩ ⟨7, x, 0⟩ sta xs = ruleE ⟨iss, acq, cur, am, 6, 4853, q, 0, fee, cop, sta, -1⟩ x := by rw [doE, if_pos hv]; simp [nextE]
            clear hcd HOK
            by_cases hx0 : x = 0
            · subst hx0
              have HE : Hid (doE ⟨iss, acq, cur, am, 6, 4853, q, 0, fee, cop, sta, -1⟩ ⟨7, 0, 0⟩ sta xs = [(loser ⟨iss, acq, cur, am, 6, 4853, q, 0, fee, cop, sta, -1⟩ 0, 9999, cur, 50000)]) := by rw [Hid, eE]; simp [ruleE, toIss]
              clear eE
              replace HID : Hid _ := HID.out 0
              replace HSD : Hid _ := HSD.out 0
              rw [eC, HE.out, hv] at HID HSD
              clear eC HE hv
              have HLL : Hid (loser ⟨iss, acq, cur, am, 6, 4853, q, 0, fee, cop, sta, -1⟩ 0 = if q ≤ 2 * 0 then acq else iss) := rfl
              generalize loser ⟨iss, acq, cur, am, 6, 4853, q, 0, fee, cop, sta, -1⟩ 0 = L at HID HSD HLL
              go_wp2_with fail
              refine (HID.out _ HT7.out HX7.out).mono ?_
              rintro e w8 ⟨eo, ec, rfl, o8, b8⟩
              have y8 := ents_any o8
              simp only [cv, List.length_cons, List.length_nil, Nat.zero_add]
              have n8 := HN7.out.below b8
              have HB8 : Hid (Below w.heap.size w w8) := next HB7.out b8
              have b9 : Below w8.heap.size w8 (w8.alloc (.cells #[.int .i64 iss, .int .i64 acq, .int .i64 cur, .int .i64 am, .int .i64 7, .int .i64 4853, .int .i64 0, .int .i64 0, .int .i64 (fee + 50000), .bool cop, .int .i64 sta, .int .i64 (-1)] 25)) := (Below.refl _ _).alloc (Nat.le_refl _) _
              have d9 := CB.new w8 ⟨iss, acq, cur, am, 7, 4853, 0, 0, fee + 50000, cop, sta, -1⟩ 25
              simp only at d9
              have n9 := n8.below b9
              have HX9 : Hid (IntsAt (w8.alloc (.cells #[.int .i64 iss, .int .i64 acq, .int .i64 cur, .int .i64 am, .int .i64 7, .int .i64 4853, .int .i64 0, .int .i64 0, .int .i64 (fee + 50000), .bool cop, .int .i64 sta, .int .i64 (-1)] 25)) ao xs) := (HX7.out.below b8).below b9
              have HB9 : Hid (Below w.heap.size w (w8.alloc (.cells #[.int .i64 iss, .int .i64 acq, .int .i64 cur, .int .i64 am, .int .i64 7, .int .i64 4853, .int .i64 0, .int .i64 0, .int .i64 (fee + 50000), .bool cop, .int .i64 sta, .int .i64 (-1)] 25))) := next HB8.out b9
              have HY9 : Hid _ := y8.below b9
              have HD9 : Hid _ := d9
              have HN9 : Hid _ := n9
              clear rg0 rg1 rg2 rg3 rg4 rg5 rg6 rg7 rg8 rg9 rg10 rg11 HN7 HX7 HB7 b8 y8 o8 d9
              obtain ⟨rg0, rg1, rg2, rg3, rg4, rg5, rg6, rg7, rg8, rg9, rg10, rg11⟩ := n9.cb
              simp only [Nat.zero_add] at rg0 rg1 rg2 rg3 rg4 rg5 rg6 rg7 rg8 rg9 rg10 rg11
              clear n8 n9 b9 HB8
              go_wp2_with fail
              refine (HSD.out _ HX9.out).mono ?_
              rintro e w10 ⟨eo2, ec2, rfl, -, b10⟩
              simp only [cv, List.length_cons, List.length_nil, Nat.zero_add]
              have HB10 : Hid _ := next HB9.out b10
              have b11 : Below w10.heap.size w10 (w10.alloc (.cells #[.int .i64 iss, .int .i64 acq, .int .i64 cur, .int .i64 am, .int .i64 7, .int .i64 4853, .int .i64 0, .int .i64 0, .int .i64 (fee + 50000), .bool cop, .int .i64 sta, .int .i64 (-1)] 25)) := (Below.refl _ _).alloc (Nat.le_refl _) _
              have HB11 : Hid (Below w.heap.size w (w10.alloc (.cells #[.int .i64 iss, .int .i64 acq, .int .i64 cur, .int .i64 am, .int .i64 7, .int .i64 4853, .int .i64 0, .int .i64 0, .int .i64 (fee + 50000), .bool cop, .int .i64 sta, .int .i64 (-1)] 25))) := next HB10.out b11
              obtain ⟨be, oe, heo, hbe, e0, e1, e2, e3⟩ := EntsAt.at (EntsAt.below (EntsAt.below HY9.out b10) b11) (k := 0) (by simp)
              subst heo
              simp [enAt] at e0 e1 e2 e3
              have HD11 : Hid _ := (HD9.out.below b10).below b11
              have HN11 : Hid _ := (HN9.out.below b10).below b11
              clear rg0 rg1 rg2 rg3 rg4 rg5 rg6 rg7 rg8 rg9 rg10 rg11 HX9 HB9 b10 b11 HY9 HD9 HN9 HB10
              generalize hw11 : w10.alloc (.cells #[.int .i64 iss, .int .i64 acq, .int .i64 cur, .int .i64 am, .int .i64 7, .int .i64 4853, .int .i64 0, .int .i64 0, .int .i64 (fee + 50000), .bool cop, .int .i64 sta, .int .i64 (-1)] 25) = w11 at e0 e1 e2 e3 HD11 HN11 HB11
              go_upto_region 18 with fail
              try rw [hw11]
              clear hw11
              go_upto_region 19 with fail
              have b12 : Below w11.heap.size w11 (w11.alloc (.cells #[.int .i64 L, .int .i64 9999, .int .i64 cur, .int .i64 50000] 36)) := (Below.refl _ _).alloc (Nat.le_refl _) _
              have HB12 : Hid (Below w.heap.size w (w11.alloc (.cells #[.int .i64 L, .int .i64 9999, .int .i64 cur, .int .i64 50000] 36))) := next HB11.out b12
              have k4 := (HD11.out.below b12).f4
              have k7 := (HD11.out.below b12).f7
              have m1 := (HN11.out.below b12).cb.f1
              have m6 := (HN11.out.below b12).cb.f6
              simp only [Nat.zero_add] at k4 k7 m1 m6
              clear HD11 HN11 e0 e1 e2 e3 b12 HB11
              by_cases hq : q ≤ 2 * 0
              · have hl : L = acq := by rw [HLL.out, if_pos hq]
                subst hl
                go_wp2
                go_ret
                exact ⟨rfl, HB12.out⟩
              · have hl : L = iss := by rw [HLL.out, if_neg hq]
                have hq0 : ¬ q ≤ 0 := by omega
                subst hl
                have hne : (L == acq) = false := by simpa using p2
                go_wp2
                go_ret
                exact ⟨rfl, HB12.out⟩
            · have hpos : 0 < x := by omega
              have HE : Hid (doE ⟨iss, acq, cur, am, 6, 4853, q, 0, fee, cop, sta, -1⟩ ⟨7, x, 0⟩ sta xs = [(acq, iss, cur, x), (loser ⟨iss, acq, cur, am, 6, 4853, q, 0, fee, cop, sta, -1⟩ x, 9999, cur, 50000)]) := by rw [Hid, eE]; simp [ruleE, toIss, hx0]
              clear eE
              replace HID : Hid _ := HID.out x
              replace HSD : Hid _ := HSD.out x
              rw [eC, HE.out, hv] at HID HSD
              clear eC HE hv
              have HLL : Hid (loser ⟨iss, acq, cur, am, 6, 4853, q, 0, fee, cop, sta, -1⟩ x = if q ≤ 2 * x then acq else iss) := rfl
              generalize loser ⟨iss, acq, cur, am, 6, 4853, q, 0, fee, cop, sta, -1⟩ x = L at HID HSD HLL
              go_wp2_with fail
              refine (HID.out _ HT7.out HX7.out).mono ?_
              rintro e w8 ⟨eo, ec, rfl, o8, b8⟩
              have y8 := ents_any o8
              simp only [cv, List.length_cons, List.length_nil, Nat.zero_add]
              have n8 := HN7.out.below b8
              have HB8 : Hid (Below w.heap.size w w8) := next HB7.out b8
              have b9 : Below w8.heap.size w8 (w8.alloc (.cells #[.int .i64 iss, .int .i64 acq, .int .i64 cur, .int .i64 am, .int .i64 7, .int .i64 4853, .int .i64 0, .int .i64 x, .int .i64 (fee + 50000), .bool cop, .int .i64 sta, .int .i64 (-1)] 25)) := (Below.refl _ _).alloc (Nat.le_refl _) _
              have d9 := CB.new w8 ⟨iss, acq, cur, am, 7, 4853, 0, x, fee + 50000, cop, sta, -1⟩ 25
              simp only at d9
              have n9 := n8.below b9
              have HX9 : Hid (IntsAt (w8.alloc (.cells #[.int .i64 iss, .int .i64 acq, .int .i64 cur, .int .i64 am, .int .i64 7, .int .i64 4853, .int .i64 0, .int .i64 x, .int .i64 (fee + 50000), .bool cop, .int .i64 sta, .int .i64 (-1)] 25)) ao xs) := (HX7.out.below b8).below b9
              have HB9 : Hid (Below w.heap.size w (w8.alloc (.cells #[.int .i64 iss, .int .i64 acq, .int .i64 cur, .int .i64 am, .int .i64 7, .int .i64 4853, .int .i64 0, .int .i64 x, .int .i64 (fee + 50000), .bool cop, .int .i64 sta, .int .i64 (-1)] 25))) := next HB8.out b9
              have HY9 : Hid _ := y8.below b9
              have HD9 : Hid _ := d9
              have HN9 : Hid _ := n9
              clear rg0 rg1 rg2 rg3 rg4 rg5 rg6 rg7 rg8 rg9 rg10 rg11 HN7 HX7 HB7 b8 y8 o8 d9
              obtain ⟨rg0, rg1, rg2, rg3, rg4, rg5, rg6, rg7, rg8, rg9, rg10, rg11⟩ := n9.cb
              simp only [Nat.zero_add] at rg0 rg1 rg2 rg3 rg4 rg5 rg6 rg7 rg8 rg9 rg10 rg11
              clear n8 n9 b9 HB8
              go_wp2_with fail
              refine (HSD.out _ HX9.out).mono ?_
              rintro e w10 ⟨eo2, ec2, rfl, -, b10⟩
              simp only [cv, List.length_cons, List.length_nil, Nat.zero_add]
              have HB10 : Hid _ := next HB9.out b10
              have b11 : Below w10.heap.size w10 (w10.alloc (.cells #[.int .i64 iss, .int .i64 acq, .int .i64 cur, .int .i64 am, .int .i64 7, .int .i64 4853, .int .i64 0, .int .i64 x, .int .i64 (fee + 50000), .bool cop, .int .i64 sta, .int .i64 (-1)] 25)) := (Below.refl _ _).alloc (Nat.le_refl _) _
              have HB11 : Hid (Below w.heap.size w (w10.alloc (.cells #[.int .i64 iss, .int .i64 acq, .int .i64 cur, .int .i64 am, .int .i64 7, .int .i64 4853, .int .i64 0, .int .i64 x, .int .i64 (fee + 50000), .bool cop, .int .i64 sta, .int .i64 (-1)] 25))) := next HB10.out b11
              obtain ⟨be, oe, heo, hbe, e0, e1, e2, e3⟩ := EntsAt.at (EntsAt.below (EntsAt.below HY9.out b10) b11) (k := 1) (by simp)
              subst heo
              simp [enAt] at e0 e1 e2 e3
              have HD11 : Hid _ := (HD9.out.below b10).below b11
              have HN11 : Hid _ := (HN9.out.below b10).below b11
              clear rg0 rg1 rg2 rg3 rg4 rg5 rg6 rg7 rg8 rg9 rg10 rg11 HX9 HB9 b10 b11 HY9 HD9 HN9 HB10
              generalize hw11 : w10.alloc (.cells #[.int .i64 iss, .int .i64 acq, .int .i64 cur, .int .i64 am, .int .i64 7, .int .i64 4853, .int .i64 0, .int .i64 x, .int .i64 (fee + 50000), .bool cop, .int .i64 sta, .int .i64 (-1)] 25) = w11 at e0 e1 e2 e3 HD11 HN11 HB11
              go_upto_region 18 with fail
              try rw [hw11]
              clear hw11
              go_upto_region 19 with fail
              have b12 : Below w11.heap.size w11 (w11.alloc (.cells #[.int .i64 L, .int .i64 9999, .int .i64 cur, .int .i64 50000] 36)) := (Below.refl _ _).alloc (Nat.le_refl _) _
              have HB12 : Hid (Below w.heap.size w (w11.alloc (.cells #[.int .i64 L, .int .i64 9999, .int .i64 cur, .int .i64 50000] 36))) := next HB11.out b12
              have k4 := (HD11.out.below b12).f4
              have k7 := (HD11.out.below b12).f7
              have m1 := (HN11.out.below b12).cb.f1
              have m6 := (HN11.out.below b12).cb.f6
              simp only [Nat.zero_add] at k4 k7 m1 m6
              clear HD11 HN11 e0 e1 e2 e3 b12 HB11
              by_cases hq : q ≤ 2 * x
              · have hl : L = acq := by rw [HLL.out, if_pos hq]
                subst hl
                go_wp2
                go_ret
                exact ⟨rfl, HB12.out⟩
              · have hl : L = iss := by rw [HLL.out, if_neg hq]
                subst hl
                have hne : (L == acq) = false := by simpa using p2
                go_wp2
                go_ret
                exact ⟨rfl, HB12.out⟩
          · have eC := doC_no hv
            have eE : doE ⟨iss, acq, cur, am, 6, 4853, q, 0, fee, cop, sta, -1⟩ ⟨7, x, 0⟩ sta xs = [] := if_neg hv
            replace HID : Hid _ := HID.out x
            replace HSD : Hid _ := HSD.out x
            rw [eC, eE] at HID HSD
            generalize doV ⟨iss, acq, cur, am, 6, 4853, q, 0, fee, cop, sta, -1⟩ ⟨7, x, 0⟩ sta xs = V at hv HID HSD
            clear eC eE
            have hv' : (V == 0) = false := by simpa using hv
            go_wp2_with fail
            refine (HID.out _ HT7.out HX7.out).mono ?_
            rintro e w8 ⟨eo, ec, rfl, -, b8⟩
            simp only [cv]
            have n8 := HN7.out.below b8
            have HX8 : Hid (IntsAt w8 ao xs) := HX7.out.below b8
            have HB8 : Hid (Below w.heap.size w w8) := next HB7.out b8
            clear rg0 rg1 rg2 rg3 rg4 rg5 rg6 rg7 rg8 rg9 rg10 rg11 HN7 HX7 HB7 b8
            have b9 : Below w8.heap.size w8 (w8.alloc (.cells #[.int .i64 iss, .int .i64 acq, .int .i64 cur, .int .i64 am, .int .i64 6, .int .i64 4853, .int .i64 q, .int .i64 0, .int .i64 fee, .bool cop, .int .i64 sta, .int .i64 (-1)] 25)) := (Below.refl _ _).alloc (Nat.le_refl _) _
            have n9 := n8.below b9
            have HX9 : Hid _ := HX8.out.below b9
            have HB9 : Hid _ := next HB8.out b9
            obtain ⟨rg0, rg1, rg2, rg3, rg4, rg5, rg6, rg7, rg8, rg9, rg10, rg11⟩ := n9.cb
            simp only [Nat.zero_add] at rg0 rg1 rg2 rg3 rg4 rg5 rg6 rg7 rg8 rg9 rg10 rg11
            clear n8 n9 b9 HX8 HB8
            go_wp2_with fail
            refine (HSD.out _ HX9.out).mono ?_
            rintro e w10 ⟨eo2, ec2, rfl, -, b10⟩
            simp only [cv]
            have HB10 : Hid _ := next HB9.out b10
            clear rg0 rg1 rg2 rg3 rg4 rg5 rg6 rg7 rg8 rg9 rg10 rg11 HX9 HB9 b10
            go_wp2
            go_ret
            exact ⟨rfl, HB10.out.alloc HB10.out.size _⟩

set_option maxRecDepth 100000 in
theorem lifted (os : Os) (started : os.Started) (H : Type) (enc : TypeId × Value → H) (F : Stop.Interp) :
    ReturnsInHanded {} Tryd.checked os 6 .any ((OpenSpec.ofChange Rows.fnRuledSpec).preRow enc Tryd.prog Tryd.f6 Rows.fnRuledRow.domain false Rows.fnRuledRow.laid)
      (((OpenSpec.ofChange Rows.fnRuledSpec).at F).post enc Tryd.prog Tryd.f6 false true false false) := by
  refine returnsInHanded_of_row (C := Tryd.checked) (s := OpenSpec.ofChange Rows.fnRuledSpec) own started (by kernel_rfl) Tryd.func6
    (ChangeSpec.witness_shaped (enc := enc) (C := Tryd.checked) (os := os) (X := fun w _ => laidMetH Tryd.prog Rows.fnRuledRow.laid w) false (World.laidAll Tryd.prog os Rows.fnRuledRow.laid) #[.slice none 0 0] 8 (World.laidAll_os _ _ _)
      (World.shaped_of_ZipB (by kernel_rfl) (by kernel_rfl)) (by kernel_rfl) (by kernel_rfl) (by kernel_rfl)
      (by rw [MakeChecks.laidMetH_plain _ _ _ (by kernel_rfl)]; exact laidMet_laidAll _ (by kernel_rfl) (by kernel_rfl))) ?_
  intro W base args ds gs before hval0 hW _ _ _ hL hsh _
  have hval : ∀ (j : Nat) t v, Tryd.f6.params[j]? = some t → args[j]? = some v → Value.okWide Tryd.prog W .any base t v := hval0
  have hW' := hW
  obtain ⟨p, q, hA0, hV0, rfl, _, _⟩ := hW
  have hV : DataW.TrodVars enc Tryd.prog W (fun _ => true) ["loop.example/g00126/impl.stepDays"] gs q := hV0
  have hA : DataW.TrodAll enc Tryd.prog W 0 (fun _ => true) true Tryd.f6.params.toList args.toList ds p := hA0
  rw [Tryd.params6] at hA hval
  obtain ⟨v0, vs0, d0, ds0, p0, q0, hargs, rfl, rfl, h0, r0⟩ := trodAll_cons hA
  obtain ⟨rfl, rfl, rfl⟩ := trodAll_nil r0
  obtain rfl : args = #[v0] := by cases args; simp_all
  obtain ⟨gv, tv, cs, fv, dv, pv, rfl, hgv, htv, hvar, hdv, rfl⟩ := trodVars_one hV
  obtain ⟨a0, len0, cap0, rfl⟩ := okWide_slice Tryd.underlying22 (hval 0 22 v0 rfl rfl)
  have k0 := h0
  have lt0 : ∀ x ∈ p0, x.block < W.heap.size := by obtain ⟨m, hm⟩ := k0; exact DataW.trod_lt m _ _ _ hm
  obtain ⟨z0, w0⟩ : ∃ zs, IsRow .u8 W a0 len0 cap0 zs := is_row Tryd.underlying22 Tryd.underlying5 (by kernel_rfl) h0
  clear hA0 hval0
  rw [MakeChecks.laidMetH_plain _ _ _ (by kernel_rfl)] at hL
  have HM := varTab hL
  refine (walk a0 len0 cap0 z0 W w0 hL hsh).mono fun e W' ⟨he, bel⟩ => ?_
  subst he
  exact ⟨_, rfl, _, _, _, [], _, _, hW', trodAll_mk1 (shut_bool Tryd.underlying4 _), (trodAll_cons_mk (Below.trod laidOut (by kernel_rfl) (of_decide_eq_true (by kernel_rfl)) k0 bel lt0) trodAll_mk0), step_vars hgv htv hvar hdv HM bel, bel.frame _, fun h => by cases h⟩

theorem said : Rows.FnRuledSaid :=
  OpenClaim.holds_of_cond 6 Tryd.f6 rfl rfl rfl rfl rfl rfl rfl ⟨rfl, rfl, rfl, rfl, rfl⟩ rfl rfl rfl rfl rfl (by kernel_rfl) Tryd.func6 (by kernel_rfl)
    (of_decide_eq_true (by kernel_rfl)) (by unfold Func.isWrapper; first | (rw [if_pos (by decide +kernel)]; kernel_rfl) | (rw [if_neg (by decide +kernel)]; exact ⟨rfl, rfl⟩))
    (fun os started H enc _ F => by rw [OpenClaim.pre_eq_preRow]; exact lifted os started H enc F)

theorem proved : Rows.FnRuledCardSaid :=
  Claim7.holds_tied_plain_at .later [] _ _ _ _ said (fun _ h => by cases h) (by kernel_rfl) (fun _ h => by cases h) fnRuled_row_tie rfl ⟨rfl, rfl⟩ (by kernel_rfl) rfl
    (fun f fn hf hfn => by
      obtain rfl : f = 6 := Option.some.inj ((show Tryd.prog.funcNamed "loop.example/g00126/laws.FnRuled" = some 6 by kernel_rfl).symm.trans hf) |>.symm
      obtain rfl : fn = Tryd.f6 := (Option.some.inj (Tryd.func6.symm.trans hfn)).symm
      refine ⟨by kernel_rfl, fun j t ht => ?_⟩
      rw [Tryd.params6] at ht
      have hm : t ∈ [22] := by have := Array.mem_of_getElem? ht; simp at this ⊢; first | exact this | exact this.symm | omega | (rcases this with h | h | h | h <;> simp [h])
      have hall : ([22].all fun u => !Tryd.prog.wantsStandIn u) = true := by kernel_rfl
      have h1 := List.all_eq_true.1 hall t hm
      have h2 : Tryd.prog.wantsStandIn t = false := by simpa using h1
      exact h2)
    (by kernel_rfl)
end Go.Proofs.YtenbhmmknejcjaaDoor.fnRuled
