/- Proved: for whatever bytes the draw is made of (up to 1048576; more pass by the law's own first test): an act leaves a case right and its parties as they were; what its entries move to the issuer is just what it has back more, and what they move to the house its fees; what is refused leaves the case as it was, without entries; all of it as the specification says. What it takes: the table of the steps' days holds what the program's text lays into it (the card ties that to the program). -/
import Derived.Test.YtenbhmmknejcjaaDoorJP90a
import Derived.Test.YtenbhmmknejcjaaDoorJP913a
import Derived.Test.YtenbhmmknejcjaaDoorJP91a
import Derived.Test.YtenbhmmknejcjaaDoorJP93a
import Derived.Test.YtenbhmmknejcjaaDoorKP9FcReg0
import Derived.Test.YtenbhmmknejcjaaDoorKP9FcReg1
namespace Go.Proofs.YtenbhmmknejcjaaDoor.fnCase
open Go.ChangeShapes Go.WideShapes Go.ChangeAt Go.RowKit
set_option maxRecDepth 100000

theorem varTab {w : World} (h : laidMet Tryd.prog Rows.fnCaseRow.laid w) : StepTab w := step_head h
set_option maxHeartbeats 800000 in
theorem iNet_any (c : Cs) (w : World) : Calls Tryd.prog 15 #[cv c] w fun e w' => e = .returned (.int .i64 (wrap64 (c.am - c.bk))) ∧ Below w.heap.size w w' := by
  obtain ⟨iss, acq, cur, am, st, rsn, cl, bk, fee, cop, sta, due⟩ := c
  unfold cv
  go_enter Tryd.func15, Tryd.ntmps15
  go_wp2
  go_ret
  exact ⟨rfl, by go_grown⟩
theorem nextC_keeps (c : Cs) (a : Ac) (t : Int) (zs : List Int) : (nextC c a t zs).iss = c.iss ∧ (nextC c a t zs).acq = c.acq ∧ (nextC c a t zs).cur = c.cur ∧ (nextC c a t zs).am = c.am ∧ (nextC c a t zs).sta = c.sta := by
  unfold nextC
  repeat' split
  all_goals first | exact ⟨rfl, rfl, rfl, rfl, rfl⟩ | (unfold expireC; repeat' split)
  all_goals exact ⟨rfl, rfl, rfl, rfl, rfl⟩
theorem doC_keeps (c : Cs) (a : Ac) (t : Int) (zs : List Int) : ∃ (s r l b f : Int) (p : Bool) (d : Int), doC c a t zs = ⟨c.iss, c.acq, c.cur, c.am, s, r, l, b, f, p, c.sta, d⟩ := by
  unfold doC
  split
  · obtain ⟨h1, h2, h3, h4, h5⟩ := nextC_keeps c a t zs
    exact ⟨(nextC c a t zs).st, (nextC c a t zs).rsn, (nextC c a t zs).cl, (nextC c a t zs).bk, (nextC c a t zs).fee, (nextC c a t zs).cop, (nextC c a t zs).due, by rw [← h1, ← h2, ← h3, ← h4, ← h5]⟩
  · exact ⟨_, _, _, _, _, _, _, rfl⟩
theorem nextE_len (c : Cs) (a : Ac) : (nextE c a).length ≤ 2 := by
  have h1 : ∀ c x, (toIss c x).length ≤ 1 := fun c x => by unfold toIss; split <;> simp
  have h2 : ∀ c x, (fromIss c x).length ≤ 1 := fun c x => by unfold fromIss; split <;> simp
  have h3 : ∀ c x, (ruleE c x).length ≤ 2 := fun c x => by unfold ruleE; have := h1 c x; simp; omega
  unfold nextE
  repeat' split
  all_goals first | exact Nat.le_trans (h1 _ _) (by omega) | exact Nat.le_trans (h2 _ _) (by omega) | exact h3 _ _ | (unfold expireE; repeat' split) | simp
  all_goals first | exact Nat.le_trans (h1 _ _) (by omega) | exact h3 _ _ | simp
theorem bk_take (c : Cs) (es : List En) (i : Nat) (h : i < es.length) : bkSum c (es.take (i + 1)) = bkSum c (es.take i) + bkOf c (enAt es i) := by
  rw [take_enAt es i h]; simp [bkSum]
theorem fee_take (es : List En) (i : Nat) (h : i < es.length) : feeSum (es.take (i + 1)) = feeSum (es.take i) + feeOf (enAt es i) := by
  rw [take_enAt es i h]; simp [feeSum]
/-- what lies there while the law looks at what was done -/
structure FC (R b7 b10 : Nat) (c : Cs) (ak : Int) (d : Cs) (E : List En) (eo eo2 : Option Addr) (u : World) : Prop where
  cb : CB R 0 c u
  ak : u.cell? ⟨R + 1, 0, none⟩ = some (.int .i64 ak)
  d7 : CB b7 0 d u
  d10 : CB b10 0 d u
  e8 : EntsAt u eo E
  e11 : EntsAt u eo2 E
theorem FC.below {R b7 b10 : Nat} {c : Cs} {ak : Int} {d : Cs} {E : List En} {eo eo2 : Option Addr} {u u' : World} (h : FC R b7 b10 c ak d E eo eo2 u) (b : Below u.heap.size u u') : FC R b7 b10 c ak d E eo eo2 u' :=
  ⟨h.cb.below b, (b.cell (p := ⟨R + 1, 0, none⟩) (World.block_lt_of_cell? u _ h.ak)).trans h.ak, h.d7.below b, h.d10.below b, h.e8.below b, h.e11.below b⟩

set_option maxHeartbeats 25600000 in
theorem walk (a0 : Option Addr) (len0 cap0 : Nat) (z0 : List Int) (w : World) (w0 : IsRow .u8 w a0 len0 cap0 z0) (hL : laidMet Tryd.prog Rows.fnCaseRow.laid w) (_hsh : w.ShapedOpen Tryd.prog) :
    Calls Tryd.prog 3 #[.slice a0 len0 cap0] w fun e w' => e = .returned (.bool true) ∧ Below w.heap.size w w' := by
  have HT : Hid (StepTab w) := varTab hL
  clear hL
  by_cases hbig : (1048576 : Int) < (len0 : Int)
  · have hdec : decide ((1048576 : Int) < (len0 : Int)) = true := decide_eq_true hbig
    clear w0
    go_enter Tryd.func3, Tryd.ntmps3
    go_wp2_with fail
    refine (big_any _ _ _ _).mono ?_
    rintro e u ⟨rfl, hu⟩
    subst hu
    rw [hdec]
    go_wp2
    go_ret
    exact ⟨rfl, Below.refl _ _⟩
  · have hdec : decide ((1048576 : Int) < (len0 : Int)) = false := decide_eq_false hbig
    have hn : len0 ≤ 1048576 := by omega
    have HR : Hid (IsRow .u8 w a0 len0 cap0 z0) := w0
    have HN : Hid (len0 ≤ 1048576) := hn
    clear w0 hbig
    go_enter Tryd.func3, Tryd.ntmps3
    go_wp2_with fail
    refine (big_any _ _ _ _).mono ?_
    rintro e u ⟨rfl, hu⟩
    replace hu := hu.symm
    subst hu
    rw [hdec]
    go_wp2_with fail
    refine (drawCaseDo_any _ _ _ _ _ HR.out hn).mono ?_
    rintro e u1 ⟨c, a, d, ao, cp, xs, rfl, hcu, hxl, hx, b1⟩
    have HXL : Hid (xs.length ≤ 13) := hxl
    have HX : Hid (IntsAt u1 ao xs) := hx
    have HB1 : Hid (Below w.heap.size w u1) := b1
    have HCU : Hid (wf64 c.cur) := hcu
    clear hn hxl hx b1 hcu hdec HR HN
    have HTB := two_boxes u1 c a 25 27
    obtain ⟨iss, acq, cur, am, st, rsn, cl, bk, fee, cop, sta, due⟩ := c
    obtain ⟨ak, aa, ar⟩ := a
    unfold cv av
    simp only at HCU HTB ⊢
    go_upto_region 4 with fail
    obtain ⟨nb, na, b2⟩ := HTB
    generalize ((u1.alloc (.cells #[.int .i64 iss, .int .i64 acq, .int .i64 cur, .int .i64 am, .int .i64 st, .int .i64 rsn, .int .i64 cl, .int .i64 bk, .int .i64 fee, .bool cop, .int .i64 sta, .int .i64 due] 25)).alloc (.cells #[.int .i64 ak, .int .i64 aa, .int .i64 ar] 27)) = w4 at nb na b2 ⊢
    have HX4 : Hid (IntsAt w4 ao xs) := HX.out.below b2
    have HB4 : Hid (Below w.heap.size w w4) := next HB1.out b2
    obtain ⟨R, hR⟩ : ∃ R, R = u1.heap.size := ⟨_, rfl⟩
    rw [← hR] at nb na ⊢
    clear hR HX HB1 b2
    have HT4 : Hid (StepTab w4) := tab_below HT.out HB4.out
    have HCB : Hid (CB R 0 ⟨iss, acq, cur, am, st, rsn, cl, bk, fee, cop, sta, due⟩ w4) := nb.cb
    have HAB : Hid (AB (R + 1) ⟨ak, aa, ar⟩ w4) := na
    clear nb
    obtain ⟨rg0, rg1, rg2, rg3, rg4, rg5, rg6, rg7, rg8, rg9, rg10, rg11⟩ := HCB.out
    simp only [Nat.zero_add] at rg0 rg1 rg2 rg3 rg4 rg5 rg6 rg7 rg8 rg9 rg10 rg11
    obtain ⟨s0, s1, s2, -, -, -⟩ := na
    simp only at s0 s1 s2
    have HID : Hid (∀ (u : World), StepTab u → IntsAt u ao xs → Calls Tryd.prog 10 #[.agg #[.int .i64 iss, .int .i64 acq, .int .i64 cur, .int .i64 am, .int .i64 st, .int .i64 rsn, .int .i64 cl, .int .i64 bk, .int .i64 fee, .bool cop, .int .i64 sta, .int .i64 due], .agg #[.int .i64 ak, .int .i64 aa, .int .i64 ar], .int .i64 d, .slice ao xs.length cp] u (DoR u (doC ⟨iss, acq, cur, am, st, rsn, cl, bk, fee, cop, sta, due⟩ ⟨ak, aa, ar⟩ d xs) (doE ⟨iss, acq, cur, am, st, rsn, cl, bk, fee, cop, sta, due⟩ ⟨ak, aa, ar⟩ d xs) (doV ⟨iss, acq, cur, am, st, rsn, cl, bk, fee, cop, sta, due⟩ ⟨ak, aa, ar⟩ d xs))) := fun u ht hx => iDo_any ⟨iss, acq, cur, am, st, rsn, cl, bk, fee, cop, sta, due⟩ ⟨ak, aa, ar⟩ d ao cp xs u hx (by have := HXL.out; omega) ht (tab_lt' ht) HCU.out
    have HSD : Hid (∀ (u : World), IntsAt u ao xs → Calls Tryd.prog 11 #[.agg #[.int .i64 iss, .int .i64 acq, .int .i64 cur, .int .i64 am, .int .i64 st, .int .i64 rsn, .int .i64 cl, .int .i64 bk, .int .i64 fee, .bool cop, .int .i64 sta, .int .i64 due], .agg #[.int .i64 ak, .int .i64 aa, .int .i64 ar], .int .i64 d, .slice ao xs.length cp] u (DoR u (doC ⟨iss, acq, cur, am, st, rsn, cl, bk, fee, cop, sta, due⟩ ⟨ak, aa, ar⟩ d xs) (doE ⟨iss, acq, cur, am, st, rsn, cl, bk, fee, cop, sta, due⟩ ⟨ak, aa, ar⟩ d xs) (doV ⟨iss, acq, cur, am, st, rsn, cl, bk, fee, cop, sta, due⟩ ⟨ak, aa, ar⟩ d xs))) := fun u hx => sDo_any ⟨iss, acq, cur, am, st, rsn, cl, bk, fee, cop, sta, due⟩ ⟨ak, aa, ar⟩ d ao cp xs u hx (by have := HXL.out; omega)
    obtain ⟨n4, n5, n6, n7, n8, n9, n11, eC⟩ := doC_keeps ⟨iss, acq, cur, am, st, rsn, cl, bk, fee, cop, sta, due⟩ ⟨ak, aa, ar⟩ d xs
    obtain ⟨E, hE⟩ : ∃ E, doE ⟨iss, acq, cur, am, st, rsn, cl, bk, fee, cop, sta, due⟩ ⟨ak, aa, ar⟩ d xs = E := ⟨_, rfl⟩
    obtain ⟨V, hV⟩ : ∃ V, doV ⟨iss, acq, cur, am, st, rsn, cl, bk, fee, cop, sta, due⟩ ⟨ak, aa, ar⟩ d xs = V := ⟨_, rfl⟩
    have HEC : Hid (doC ⟨iss, acq, cur, am, st, rsn, cl, bk, fee, cop, sta, due⟩ ⟨ak, aa, ar⟩ d xs = ⟨iss, acq, cur, am, n4, n5, n6, n7, n8, n9, sta, n11⟩) := eC
    have HE : Hid _ := hE
    have HV : Hid _ := hV
    simp only at eC
    rw [eC, hE, hV] at HID HSD
    clear eC hE hV
    go_wp2_with fail
    refine (HID.out _ HT4.out HX4.out).mono ?_
    rintro e w5 ⟨eo, ec, rfl, o5, b5⟩
    have y5 := ents_any o5
    simp only [cv]
    have p6 := (one_box w5 ⟨iss, acq, cur, am, n4, n5, n6, n7, n8, n9, sta, n11⟩ 25)
    simp only at p6
    obtain ⟨m6, b6⟩ := p6
    have HX6 : Hid (IntsAt (w5.alloc (.cells #[.int .i64 iss, .int .i64 acq, .int .i64 cur, .int .i64 am, .int .i64 n4, .int .i64 n5, .int .i64 n6, .int .i64 n7, .int .i64 n8, .bool n9, .int .i64 sta, .int .i64 n11] 25)) ao xs) := (HX4.out.below b5).below b6
    have HB6 : Hid (Below w.heap.size w (w5.alloc (.cells #[.int .i64 iss, .int .i64 acq, .int .i64 cur, .int .i64 am, .int .i64 n4, .int .i64 n5, .int .i64 n6, .int .i64 n7, .int .i64 n8, .bool n9, .int .i64 sta, .int .i64 n11] 25))) := next (next HB4.out b5) b6
    have HCB6 : Hid (CB R 0 ⟨iss, acq, cur, am, st, rsn, cl, bk, fee, cop, sta, due⟩ (w5.alloc (.cells #[.int .i64 iss, .int .i64 acq, .int .i64 cur, .int .i64 am, .int .i64 n4, .int .i64 n5, .int .i64 n6, .int .i64 n7, .int .i64 n8, .bool n9, .int .i64 sta, .int .i64 n11] 25))) := (HCB.out.below b5).below b6
    have HAB6 : Hid (AB (R + 1) ⟨ak, aa, ar⟩ (w5.alloc (.cells #[.int .i64 iss, .int .i64 acq, .int .i64 cur, .int .i64 am, .int .i64 n4, .int .i64 n5, .int .i64 n6, .int .i64 n7, .int .i64 n8, .bool n9, .int .i64 sta, .int .i64 n11] 25))) := (HAB.out.below b5).below b6
    have HD6 : Hid (CB w5.heap.size 0 ⟨iss, acq, cur, am, n4, n5, n6, n7, n8, n9, sta, n11⟩ (w5.alloc (.cells #[.int .i64 iss, .int .i64 acq, .int .i64 cur, .int .i64 am, .int .i64 n4, .int .i64 n5, .int .i64 n6, .int .i64 n7, .int .i64 n8, .bool n9, .int .i64 sta, .int .i64 n11] 25))) := m6.cb
    have HY6 : Hid (EntsAt (w5.alloc (.cells #[.int .i64 iss, .int .i64 acq, .int .i64 cur, .int .i64 am, .int .i64 n4, .int .i64 n5, .int .i64 n6, .int .i64 n7, .int .i64 n8, .bool n9, .int .i64 sta, .int .i64 n11] 25)) eo E) := y5.below b6
    clear rg0 rg1 rg2 rg3 rg4 rg5 rg6 rg7 rg8 rg9 rg10 rg11 s0 s1 s2 o5 y5 b5 b6 m6 HX4 HB4 HCB HAB HT4 HID
    generalize hw6 : w5.alloc (.cells #[.int .i64 iss, .int .i64 acq, .int .i64 cur, .int .i64 am, .int .i64 n4, .int .i64 n5, .int .i64 n6, .int .i64 n7, .int .i64 n8, .bool n9, .int .i64 sta, .int .i64 n11] 25) = w6 at HX6 HB6 HCB6 HAB6 HD6 HY6
    generalize hb7 : w5.heap.size = b7 at HD6
    obtain ⟨rg0, rg1, rg2, rg3, rg4, rg5, rg6, rg7, rg8, rg9, rg10, rg11⟩ := HCB6.out
    simp only [Nat.zero_add] at rg0 rg1 rg2 rg3 rg4 rg5 rg6 rg7 rg8 rg9 rg10 rg11
    obtain ⟨s0, s1, s2, -, -, -⟩ := HAB6.out
    simp only at s0 s1 s2
    go_upto_region 5 with fail
    try rw [hw6]
    try rw [hb7]
    clear hw6 hb7
    go_wp2_with fail
    refine (HSD.out _ HX6.out).mono ?_
    rintro e w7 ⟨eo2, ec2, rfl, o7, b7'⟩
    have y7 := ents_any o7
    simp only [cv]
    have p8 := (one_box w7 ⟨iss, acq, cur, am, n4, n5, n6, n7, n8, n9, sta, n11⟩ 25)
    simp only at p8
    obtain ⟨m8, b8⟩ := p8
    have HF : Hid (FC R b7 w7.heap.size ⟨iss, acq, cur, am, st, rsn, cl, bk, fee, cop, sta, due⟩ ak ⟨iss, acq, cur, am, n4, n5, n6, n7, n8, n9, sta, n11⟩ E eo eo2 (w7.alloc (.cells #[.int .i64 iss, .int .i64 acq, .int .i64 cur, .int .i64 am, .int .i64 n4, .int .i64 n5, .int .i64 n6, .int .i64 n7, .int .i64 n8, .bool n9, .int .i64 sta, .int .i64 n11] 25))) := ⟨(HCB6.out.below b7').below b8, ((HAB6.out.below b7').below b8).c0, (HD6.out.below b7').below b8, m8.cb, EntsAt.below (EntsAt.below HY6.out b7') b8, y7.below b8⟩
    have HB8 : Hid (Below w.heap.size w (w7.alloc (.cells #[.int .i64 iss, .int .i64 acq, .int .i64 cur, .int .i64 am, .int .i64 n4, .int .i64 n5, .int .i64 n6, .int .i64 n7, .int .i64 n8, .bool n9, .int .i64 sta, .int .i64 n11] 25))) := next (next HB6.out b7') b8
    clear rg0 rg1 rg2 rg3 rg4 rg5 rg6 rg7 rg8 rg9 rg10 rg11 s0 s1 s2 o7 y7 b7' b8 m8 HX6 HB6 HCB6 HAB6 HD6 HY6 HSD
    generalize hw8 : w7.alloc (.cells #[.int .i64 iss, .int .i64 acq, .int .i64 cur, .int .i64 am, .int .i64 n4, .int .i64 n5, .int .i64 n6, .int .i64 n7, .int .i64 n8, .bool n9, .int .i64 sta, .int .i64 n11] 25) = w8 at HF HB8
    generalize hb10 : w7.heap.size = b10 at HF
    go_upto_region 6 with fail
    try rw [hw8]
    try rw [hb10]
    clear hw8 hb10
    obtain ⟨rg0, rg1, rg2, rg3, rg4, rg5, rg6, rg7, rg8, rg9, rg10, rg11⟩ := HF.out.cb
    simp only [Nat.zero_add] at rg0 rg1 rg2 rg3 rg4 rg5 rg6 rg7 rg8 rg9 rg10 rg11
    obtain ⟨sg0, sg1, sg2, sg3, sg4, sg5, sg6, sg7, sg8, sg9, sg10, sg11⟩ := HF.out.d7
    simp only [Nat.zero_add] at sg0 sg1 sg2 sg3 sg4 sg5 sg6 sg7 sg8 sg9 sg10 sg11
    obtain ⟨tg0, tg1, tg2, tg3, tg4, tg5, tg6, tg7, tg8, tg9, tg10, tg11⟩ := HF.out.d10
    simp only [Nat.zero_add] at tg0 tg1 tg2 tg3 tg4 tg5 tg6 tg7 tg8 tg9 tg10 tg11
    have hne := over_ne w8
    have og0 := over_cell rg0
    have os0 := over_cell sg0
    have ot0 := over_cell tg0
    have og1 := over_cell rg1
    have os1 := over_cell sg1
    have ot1 := over_cell tg1
    have og2 := over_cell rg2
    have os2 := over_cell sg2
    have ot2 := over_cell tg2
    have og3 := over_cell rg3
    have os3 := over_cell sg3
    have ot3 := over_cell tg3
    have og4 := over_cell rg4
    have os4 := over_cell sg4
    have ot4 := over_cell tg4
    have og5 := over_cell rg5
    have os5 := over_cell sg5
    have ot5 := over_cell tg5
    have og6 := over_cell rg6
    have os6 := over_cell sg6
    have ot6 := over_cell tg6
    have og7 := over_cell rg7
    have os7 := over_cell sg7
    have ot7 := over_cell tg7
    have og8 := over_cell rg8
    have os8 := over_cell sg8
    have ot8 := over_cell tg8
    have og9 := over_cell rg9
    have os9 := over_cell sg9
    have ot9 := over_cell tg9
    have og10 := over_cell rg10
    have os10 := over_cell sg10
    have ot10 := over_cell tg10
    have og11 := over_cell rg11
    have os11 := over_cell sg11
    have ot11 := over_cell tg11
    obtain ⟨ok, hok⟩ : ∃ q, caseOk ⟨iss, acq, cur, am, st, rsn, cl, bk, fee, cop, sta, due⟩ = q := ⟨_, rfl⟩
    have HIO : Hid (∀ z : Over w8, Calls Tryd.prog 12 #[.agg #[.int .i64 iss, .int .i64 acq, .int .i64 cur, .int .i64 am, .int .i64 st, .int .i64 rsn, .int .i64 cl, .int .i64 bk, .int .i64 fee, .bool cop, .int .i64 sta, .int .i64 due]] z.x fun e w' => e = .returned (.bool ok) ∧ Below z.x.heap.size z.x w') := fun z => by rw [← hok]; exact iCaseOk_any ⟨iss, acq, cur, am, st, rsn, cl, bk, fee, cop, sta, due⟩ z.x HCU.out
    have HSO : Hid (∀ z : Over w8, Calls Tryd.prog 13 #[.agg #[.int .i64 iss, .int .i64 acq, .int .i64 cur, .int .i64 am, .int .i64 st, .int .i64 rsn, .int .i64 cl, .int .i64 bk, .int .i64 fee, .bool cop, .int .i64 sta, .int .i64 due]] z.x fun e w' => e = .returned (.bool ok) ∧ Below z.x.heap.size z.x w') := fun z => by rw [← hok]; exact sCaseOk_any ⟨iss, acq, cur, am, st, rsn, cl, bk, fee, cop, sta, due⟩ z.x
    have hq1 : (ok != ok) = false := by simp
    clear hok rg0 sg0 tg0 rg1 sg1 tg1 rg2 sg2 tg2 rg3 sg3 tg3 rg4 sg4 tg4 rg5 sg5 tg5 rg6 sg6 tg6 rg7 sg7 tg7 rg8 sg8 tg8 rg9 sg9 tg9 rg10 sg10 tg10 rg11 sg11 tg11
    refine wp_region_over (by kernel_rfl) (by kernel_rfl) ?_
    repeat (go_big_quiet_step (first | exact over_of (HIO.out _) | exact over_of (HSO.out _)))
    refine wpQuiet_nil ?_
    rintro w9 ⟨⟨wz, b9⟩, hw9⟩
    subst hw9
    have HF9 : Hid (FC R b7 b10 ⟨iss, acq, cur, am, st, rsn, cl, bk, fee, cop, sta, due⟩ ak ⟨iss, acq, cur, am, n4, n5, n6, n7, n8, n9, sta, n11⟩ E eo eo2 w9) := HF.out.below b9
    have HB9 : Hid (Below w.heap.size w w9) := next HB8.out b9
    clear og0 os0 ot0 og1 os1 ot1 og2 os2 ot2 og3 os3 ot3 og4 os4 ot4 og5 os5 ot5 og6 os6 ot6 og7 os7 ot7 og8 os8 ot8 og9 os9 ot9 og10 os10 ot10 og11 os11 ot11 hne HIO HSO hq1 b9 HF HB8
    by_cases hv : V = 0
    · subst hv
      have HDN : Hid _ := do_done HV.out
      have HEI : Hid _ := ents_is HV.out
      have e1 : E = nextE ⟨iss, acq, cur, am, st, rsn, cl, bk, fee, cop, sta, due⟩ ⟨ak, aa, ar⟩ := by rw [← HE.out, doE, if_pos HV.out]
      have e2 : nextC ⟨iss, acq, cur, am, st, rsn, cl, bk, fee, cop, sta, due⟩ ⟨ak, aa, ar⟩ d xs = ⟨iss, acq, cur, am, n4, n5, n6, n7, n8, n9, sta, n11⟩ := by rw [← doC_yes HV.out]; exact HEC.out
      rw [e2, ← e1] at HEI
      rw [e2] at HDN
      have hEl : E.length ≤ 2 := by rw [e1]; exact nextE_len _ _
      clear e1 e2 HE HEC HV
      obtain ⟨hda, -, -, hk2⟩ := HDN.out
      have hk1 : caseOk ⟨iss, acq, cur, am, st, rsn, cl, bk, fee, cop, sta, due⟩ = true := by simp [dayOkAt] at hda; exact hda.1
      clear hda HDN
      obtain ⟨q0, q1, q2, -, ⟨q4, q5⟩, -, -, -, ⟨q8, q8'⟩, ⟨q9, q9'⟩, -, -⟩ := caseOk_parts hk1
      obtain ⟨-, -, -, -, -, -, -, ⟨r6, r6'⟩, ⟨r7, r7'⟩, ⟨r8, r8'⟩, -, -⟩ := caseOk_parts hk2
      simp only at q0 q1 q2 q4 q5 q8 q8' q9 q9' r6 r6' r7 r7' r8 r8'
      have q0' := (party_parts q0).2
      have q1' := (party_parts q1).2
      have HK2 : Hid (caseOk ⟨iss, acq, cur, am, n4, n5, n6, n7, n8, n9, sta, n11⟩ = true) := hk2
      obtain ⟨hkind, hbk, hfee⟩ := HEI.out
      have HKI : Hid (∀ e ∈ E, kindE ⟨iss, acq, cur, am, st, rsn, cl, bk, fee, cop, sta, due⟩ e) := hkind
      have HBK : Hid ((ak = 2 ∧ 0 < bk) ∨ bkSum ⟨iss, acq, cur, am, st, rsn, cl, bk, fee, cop, sta, due⟩ E = n7 - bk) := hbk
      have HFE : Hid (feeSum E = n8 - fee) := hfee
      clear hkind hbk hfee HEI hk1 hk2 q0 q1
      go_upto_block 0 with fail
      go_cut [13, 14] (fun v x wc => v = .int .i64 (bkSum ⟨iss, acq, cur, am, st, rsn, cl, bk, fee, cop, sta, due⟩ E) ∧ x = .int .i64 (feeSum E) ∧ FC R b7 b10 ⟨iss, acq, cur, am, st, rsn, cl, bk, fee, cop, sta, due⟩ ak ⟨iss, acq, cur, am, n4, n5, n6, n7, n8, n9, sta, n11⟩ E eo eo2 wc ∧ Below w.heap.size w wc)
      case first =>
        go_wp2_with fail
        go_loopw [13, 14, 15] (fun v x i wr => ∃ (j : Nat) (p q : Int), j ≤ E.length ∧ i = .int .i64 j ∧ v = .int .i64 p ∧ x = .int .i64 q ∧ p = bkSum ⟨iss, acq, cur, am, st, rsn, cl, bk, fee, cop, sta, due⟩ (E.take j) ∧ q = feeSum (E.take j) ∧ (-1000000000000 * (j : Int) ≤ p ∧ p ≤ 1000000000000 * (j : Int)) ∧ (-1000000000000 * (j : Int) ≤ q ∧ q ≤ 1000000000000 * (j : Int)) ∧ FC R b7 b10 ⟨iss, acq, cur, am, st, rsn, cl, bk, fee, cop, sta, due⟩ ak ⟨iss, acq, cur, am, n4, n5, n6, n7, n8, n9, sta, n11⟩ E eo eo2 wr ∧ Below w.heap.size w wr) (fun _ _ i _ => E.length - (intOf i).toNat)
        case atStart => exact ⟨0, 0, 0, Nat.zero_le _, rfl, rfl, rfl, by simp [bkSum], by simp [feeSum], by simp, by simp, HF9.out, HB9.out⟩
        case round =>
          clear HF9 HB9
          obtain ⟨j, p, q, hj, rfl, rfl, rfl, hp, hq, hpb, hqb, hF, hB⟩ := hrel
          have HP : Hid _ := hp
          have HQ : Hid _ := hq
          have HF : Hid (FC R b7 b10 ⟨iss, acq, cur, am, st, rsn, cl, bk, fee, cop, sta, due⟩ ak ⟨iss, acq, cur, am, n4, n5, n6, n7, n8, n9, sta, n11⟩ E eo eo2 wr) := hF
          have HB : Hid (Below w.heap.size w wr) := hB
          clear hp hq hF hB
          by_cases hlt : j < E.length
          · have hji : (j : Int) < (E.length : Int) := by omega
            obtain ⟨be, oe, heo, hbe, e0, e1, e2, e3⟩ := EntsAt.at HF.out.e8 hlt
            obtain ⟨bf, of, hfo, hbf, f0, f1, f2, f3⟩ := EntsAt.at HF.out.e11 hlt
            have HBT : Hid _ := bk_take ⟨iss, acq, cur, am, st, rsn, cl, bk, fee, cop, sta, due⟩ E j hlt
            have HFT : Hid _ := fee_take E j hlt
            have kk := HKI.out (enAt E j) (enAt_mem hlt)
            obtain ⟨x, hx⟩ : ∃ x, enAt E j = x := ⟨_, rfl⟩
            rw [hx] at e0 e1 e2 e3 f0 f1 f2 f3 HBT HFT kk
            clear hx
            obtain ⟨x1, x2, x3, x4⟩ := x
            obtain ⟨k1, k2, k3⟩ := kk
            simp only at e0 e1 e2 e3 f0 f1 f2 f3 k2 k3
            subst k2
            subst heo
            subst hfo
            have hx4 : 1 ≤ x4 ∧ x4 ≤ 1000000000000 := by
              have := k1
              simp [entryOk] at this
              omega
            have hj1 : (j : Int) ≤ 1 := by omega
            have HKO : Hid (entryOk (x1, x2, x3, x4) = true) := k1
            clear k1
            go_upto_region 15 with fail
            have b15 : Below wr.heap.size wr (wr.alloc (.cells #[.int .i64 x1, .int .i64 x2, .int .i64 x3, .int .i64 x4] 36)) := (Below.refl _ _).alloc (Nat.le_refl _) _
            have HF15 : Hid (FC R b7 b10 ⟨iss, acq, x3, am, st, rsn, cl, bk, fee, cop, sta, due⟩ ak ⟨iss, acq, x3, am, n4, n5, n6, n7, n8, n9, sta, n11⟩ E (some ⟨be, oe, none⟩) (some ⟨bf, of, none⟩) (wr.alloc (.cells #[.int .i64 x1, .int .i64 x2, .int .i64 x3, .int .i64 x4] 36))) := HF.out.below b15
            have HB15 : Hid (Below w.heap.size w (wr.alloc (.cells #[.int .i64 x1, .int .i64 x2, .int .i64 x3, .int .i64 x4] 36))) := next HB.out b15
            have m0 : (wr.alloc (.cells #[.int .i64 x1, .int .i64 x2, .int .i64 x3, .int .i64 x4] 36)).cell? ⟨wr.heap.size, 0, none⟩ = some (.int .i64 x1) := by simp
            have m1 : (wr.alloc (.cells #[.int .i64 x1, .int .i64 x2, .int .i64 x3, .int .i64 x4] 36)).cell? ⟨wr.heap.size, 1, none⟩ = some (.int .i64 x2) := by simp
            have m2 : (wr.alloc (.cells #[.int .i64 x1, .int .i64 x2, .int .i64 x3, .int .i64 x4] 36)).cell? ⟨wr.heap.size, 2, none⟩ = some (.int .i64 x3) := by simp
            have m3 : (wr.alloc (.cells #[.int .i64 x1, .int .i64 x2, .int .i64 x3, .int .i64 x4] 36)).cell? ⟨wr.heap.size, 3, none⟩ = some (.int .i64 x4) := by simp
            have r0 := (b15.cell (p := ⟨bf, of + j * 4, none⟩) hbf).trans f0
            have r1 := (b15.cell (p := ⟨bf, of + j * 4 + 1, none⟩) hbf).trans f1
            have r2 := (b15.cell (p := ⟨bf, of + j * 4 + 2, none⟩) hbf).trans f2
            have r3 := (b15.cell (p := ⟨bf, of + j * 4 + 3, none⟩) hbf).trans f3
            clear e0 e1 e2 e3 f0 f1 f2 f3 b15 HF HB
            generalize wr.alloc (.cells #[.int .i64 x1, .int .i64 x2, .int .i64 x3, .int .i64 x4] 36) = w15 at HF15 HB15 m0 m1 m2 m3 r0 r1 r2 r3 ⊢
            generalize wr.heap.size = bx at m0 m1 m2 m3 ⊢
            have c0 := HF15.out.cb.f0
            have c1 := HF15.out.cb.f1
            have c2 := HF15.out.cb.f2
            simp only [Nat.zero_add] at c0 c1 c2
            have hne := over_ne w15
            have o0 := over_cell m0
            have o1 := over_cell m1
            have o2 := over_cell m2
            have o3 := over_cell m3
            have o4 := over_cell r0
            have o5 := over_cell r1
            have o6 := over_cell r2
            have o7 := over_cell r3
            have o8 := over_cell c2
            have HEO : Hid (∀ z : Over w15, Calls Tryd.prog 14 #[.agg #[.int .i64 x1, .int .i64 x2, .int .i64 x3, .int .i64 x4]] z.x fun e w' => e = .returned (.bool true) ∧ Below z.x.heap.size z.x w') := fun z => by have := iEntryOk_any x1 x2 x3 x4 z.x HCU.out; rw [HKO.out] at this; exact this
            clear r0 r1 r2 r3 c2 m2
            refine wp_region_over (by kernel_rfl) (by kernel_rfl) ?_
            repeat (go_big_quiet_step (exact over_of (HEO.out _)))
            refine wpQuiet_nil ?_
            rintro w16 ⟨⟨wz, b16⟩, hw16⟩
            subst hw16
            have HF16 : Hid (FC R b7 b10 ⟨iss, acq, x3, am, st, rsn, cl, bk, fee, cop, sta, due⟩ ak ⟨iss, acq, x3, am, n4, n5, n6, n7, n8, n9, sta, n11⟩ E (some ⟨be, oe, none⟩) (some ⟨bf, of, none⟩) w16) := HF15.out.below b16
            have HB16 : Hid (Below w.heap.size w w16) := next HB15.out b16
            have d0 := (b16.cell (p := ⟨bx, 0, none⟩) (World.block_lt_of_cell? _ _ m0)).trans m0
            have d1 := (b16.cell (p := ⟨bx, 1, none⟩) (World.block_lt_of_cell? _ _ m1)).trans m1
            have d3 := (b16.cell (p := ⟨bx, 3, none⟩) (World.block_lt_of_cell? _ _ m3)).trans m3
            have g0 := HF16.out.cb.f0
            have g1 := HF16.out.cb.f1
            simp only [Nat.zero_add] at g0 g1
            clear o0 o1 o2 o3 o4 o5 o6 o7 o8 hne HEO m0 m1 m3 c0 c1 b16 HF15 HB15
            rcases k3 with rfl | ⟨rfl, rfl⟩ | ⟨rfl, rfl⟩
            · go_wp2
              go_roundw
              case rel => exact ⟨j + 1, p, q + x4, by omega, by go_num, rfl, rfl, by rw [HBT.out, ← HP.out]; simp [bkOf], by rw [HFT.out, ← HQ.out]; simp [feeOf], by omega, by omega, HF16.out, HB16.out⟩
              case measure => simp [intOf]; omega
            · have hs1 : ¬ x2 = 9999 := q0'
              go_wp2
              go_roundw
              case rel => exact ⟨j + 1, p + x4, q, by omega, by go_num, rfl, rfl, by rw [HBT.out, ← HP.out]; simp [bkOf, hs1], by rw [HFT.out, ← HQ.out]; simp [feeOf, hs1], by omega, by omega, HF16.out, HB16.out⟩
              case measure => simp [intOf]; omega
            · have hs1 : ¬ x2 = 9999 := q1'
              have hs2 : ¬ x2 = x1 := fun h => q2 h.symm
              go_wp2
              go_roundw
              case rel => exact ⟨j + 1, p - x4, q, by omega, by go_num, rfl, rfl, by rw [HBT.out, ← HP.out]; simp [bkOf, hs1, hs2]; omega, by rw [HFT.out, ← HQ.out]; simp [feeOf, hs1], by omega, by omega, HF16.out, HB16.out⟩
              case measure => simp [intOf]; omega
          · have hje : j = E.length := by omega
            have hji : ¬ (j : Int) < (E.length : Int) := by omega
            have hp := HP.out
            have hq := HQ.out
            rw [hje, List.take_length] at hp hq
            have HP2 : Hid _ := hp
            have HQ2 : Hid _ := hq
            clear hp hq hje HP HQ
            go_wp2
            go_meet
            exact ⟨by rw [← HP2.out], by rw [← HQ2.out], HF.out, HB.out⟩
      case rest =>
        clear HF9 HB9
        obtain ⟨rfl, rfl, hF, hB⟩ := hcut
        obtain ⟨wm, hwm⟩ : ∃ x, x = wc := ⟨_, rfl⟩
        subst hwm
        have HF : Hid (FC R b7 b10 ⟨iss, acq, cur, am, st, rsn, cl, bk, fee, cop, sta, due⟩ ak ⟨iss, acq, cur, am, n4, n5, n6, n7, n8, n9, sta, n11⟩ E eo eo2 wm) := hF
        have HB : Hid (Below w.heap.size w wm) := hB
        clear hF hB HKI
        have hbk := HBK.out
        have hfe := HFE.out
        generalize bkSum ⟨iss, acq, cur, am, st, rsn, cl, bk, fee, cop, sta, due⟩ E = p at hbk ⊢
        generalize feeSum E = q at hfe ⊢
        subst hfe
        have HBK2 : Hid _ := hbk
        clear hbk HBK HFE
        have ka := HF.out.ak
        have kb := HF.out.cb.f7
        simp only [Nat.zero_add] at kb
        obtain ⟨fr, hfr⟩ : ∃ fr, fr = (decide (ak = 2) && decide (0 < bk)) := ⟨_, rfl⟩
        go_upto_region 24 with fail
        go_cut [17] (fun v wc => v = .bool fr ∧ wc = wm)
        case first =>
          by_cases h2 : ak = 2
          · by_cases h3 : 0 < bk
            · have hf2 : fr = true := by rw [hfr]; simp [h2, h3]
              subst hf2
              clear hfr
              go_wp2
              go_meet
              exact ⟨rfl, rfl⟩
            · have hf2 : fr = false := by rw [hfr]; simp [h3]
              subst hf2
              clear hfr
              go_wp2
              go_meet
              exact ⟨rfl, rfl⟩
          · have hf2 : fr = false := by rw [hfr]; simp [h2]
            subst hf2
            clear hfr
            go_wp2
            go_meet
            exact ⟨rfl, rfl⟩
        case rest =>
          obtain ⟨rfl, hwc⟩ := hcut
          subst hwc
          have hpp : fr = true ∨ p = n7 - bk := by
            rcases HBK2.out with h | h
            · exact .inl (by rw [hfr]; simp [h.1, h.2])
            · exact .inr h
          clear hfr HBK2 ka kb
          obtain ⟨rg0, rg1, rg2, rg3, rg4, rg5, rg6, rg7, rg8, rg9, rg10, rg11⟩ := HF.out.cb
          simp only [Nat.zero_add] at rg0 rg1 rg2 rg3 rg4 rg5 rg6 rg7 rg8 rg9 rg10 rg11
          obtain ⟨sg0, sg1, sg2, sg3, sg4, sg5, sg6, sg7, sg8, sg9, sg10, sg11⟩ := HF.out.d7
          simp only [Nat.zero_add] at sg0 sg1 sg2 sg3 sg4 sg5 sg6 sg7 sg8 sg9 sg10 sg11
          have hne := over_ne wc
          have og0 := over_cell rg0
          have og1 := over_cell rg1
          have og3 := over_cell rg3
          have og7 := over_cell rg7
          have og8 := over_cell rg8
          have og10 := over_cell rg10
          have os0 := over_cell sg0
          have os1 := over_cell sg1
          have os2 := over_cell sg2
          have os3 := over_cell sg3
          have os4 := over_cell sg4
          have os5 := over_cell sg5
          have os6 := over_cell sg6
          have os7 := over_cell sg7
          have os8 := over_cell sg8
          have os9 := over_cell sg9
          have os10 := over_cell sg10
          have os11 := over_cell sg11
          have HIO : Hid (∀ z : Over wc, Calls Tryd.prog 12 #[.agg #[.int .i64 iss, .int .i64 acq, .int .i64 cur, .int .i64 am, .int .i64 n4, .int .i64 n5, .int .i64 n6, .int .i64 n7, .int .i64 n8, .bool n9, .int .i64 sta, .int .i64 n11]] z.x fun e w' => e = .returned (.bool true) ∧ Below z.x.heap.size z.x w') := fun z => by have := iCaseOk_any ⟨iss, acq, cur, am, n4, n5, n6, n7, n8, n9, sta, n11⟩ z.x HCU.out; rw [HK2.out] at this; exact this
          have HNT : Hid (∀ z : Over wc, Calls Tryd.prog 15 #[.agg #[.int .i64 iss, .int .i64 acq, .int .i64 cur, .int .i64 am, .int .i64 n4, .int .i64 n5, .int .i64 n6, .int .i64 n7, .int .i64 n8, .bool n9, .int .i64 sta, .int .i64 n11]] z.x fun e w' => e = .returned (.int .i64 (am - n7)) ∧ Below z.x.heap.size z.x w') := fun z => by have := iNet_any ⟨iss, acq, cur, am, n4, n5, n6, n7, n8, n9, sta, n11⟩ z.x; rw [show wrap64 (am - n7) = am - n7 from by unfold wrap64; omega] at this; exact this
          clear rg0 sg0 rg1 sg1 rg2 sg2 rg3 sg3 rg4 sg4 rg5 sg5 rg6 sg6 rg7 sg7 rg8 sg8 rg9 sg9 rg10 sg10 rg11 sg11
          cases fr
          · have hf : p = n7 - bk := by rcases hpp with h | h; cases h; exact h
            subst hf
            clear hpp
            go_upto_region 25 with fail
            go_cut [2] (fun v wc => v = .bool true ∧ Below w.heap.size w wc)
            case first => exact rFcReg0 q4 q5 q8 q8' q9 q9' r6 r6' r7 r7' r8 r8' HB hne og0 og1 og3 og7 og8 og10 os0 os1 os2 os3 os4 os5 os6 os7 os8 os9 os10 os11 HIO HNT _ _ ‹_› ‹_›
            case rest =>
              obtain ⟨rfl, hb⟩ := hcut
              clear og0 og1 og3 og7 og8 og10 os0 os1 os2 os3 os4 os5 os6 os7 os8 os9 os10 os11 hne HIO HNT
              go_wp2
              go_ret
              exact ⟨rfl, hb⟩
          · clear hpp
            go_upto_region 25 with fail
            go_cut [2] (fun v wc => v = .bool true ∧ Below w.heap.size w wc)
            case first => exact rFcReg1 q4 q5 q8 q8' q9 q9' r6 r6' r7 r7' r8 r8' HB hne og0 og1 og3 og7 og8 og10 os0 os1 os2 os3 os4 os5 os6 os7 os8 os9 os10 os11 HIO HNT _ _ ‹_› ‹_›
            case rest =>
              obtain ⟨rfl, hb⟩ := hcut
              clear og0 og1 og3 og7 og8 og10 os0 os1 os2 os3 os4 os5 os6 os7 os8 os9 os10 os11 hne HIO HNT
              go_wp2
              go_ret
              exact ⟨rfl, hb⟩
    · have eC := doC_no (c := ⟨iss, acq, cur, am, st, rsn, cl, bk, fee, cop, sta, due⟩) (a := ⟨ak, aa, ar⟩) (t := d) (zs := xs) (by rw [HV.out]; exact hv)
      have e2 : (⟨iss, acq, cur, am, n4, n5, n6, n7, n8, n9, sta, n11⟩ : Cs) = ⟨iss, acq, cur, am, st, rsn, cl, bk, fee, cop, sta, due⟩ := by rw [← HEC.out]; exact eC
      have e3 : E = [] := by rw [← HE.out, doE, if_neg (by rw [HV.out]; exact hv)]
      clear eC HEC HE HV
      injection e2 with _ _ _ _ g4 g5 g6 g7 g8 g9 _ g11
      subst g4 g5 g6 g7 g8 g9 g11 e3
      obtain ⟨rg0, rg1, rg2, rg3, rg4, rg5, rg6, rg7, rg8, rg9, rg10, rg11⟩ := HF9.out.cb
      simp only [Nat.zero_add] at rg0 rg1 rg2 rg3 rg4 rg5 rg6 rg7 rg8 rg9 rg10 rg11
      obtain ⟨sg0, sg1, sg2, sg3, sg4, sg5, sg6, sg7, sg8, sg9, sg10, sg11⟩ := HF9.out.d7
      simp only [Nat.zero_add] at sg0 sg1 sg2 sg3 sg4 sg5 sg6 sg7 sg8 sg9 sg10 sg11
      go_wp2
      go_ret
      exact ⟨rfl, HB9.out⟩

set_option maxRecDepth 100000 in
theorem lifted (os : Os) (started : os.Started) (H : Type) (enc : TypeId × Value → H) (F : Stop.Interp) :
    ReturnsInHanded {} Tryd.checked os 3 .any ((OpenSpec.ofChange Rows.fnCaseSpec).preRow enc Tryd.prog Tryd.f3 Rows.fnCaseRow.domain false Rows.fnCaseRow.laid)
      (((OpenSpec.ofChange Rows.fnCaseSpec).at F).post enc Tryd.prog Tryd.f3 false true false false) := by
  refine returnsInHanded_of_row (C := Tryd.checked) (s := OpenSpec.ofChange Rows.fnCaseSpec) own started (by kernel_rfl) Tryd.func3
    (ChangeSpec.witness_shaped (enc := enc) (C := Tryd.checked) (os := os) (X := fun w _ => laidMetH Tryd.prog Rows.fnCaseRow.laid w) false (World.laidAll Tryd.prog os Rows.fnCaseRow.laid) #[.slice none 0 0] 8 (World.laidAll_os _ _ _)
      (World.shaped_of_ZipB (by kernel_rfl) (by kernel_rfl)) (by kernel_rfl) (by kernel_rfl) (by kernel_rfl)
      (by rw [MakeChecks.laidMetH_plain _ _ _ (by kernel_rfl)]; exact laidMet_laidAll _ (by kernel_rfl) (by kernel_rfl))) ?_
  intro W base args ds gs before hval0 hW _ _ _ hL hsh _
  have hval : ∀ (j : Nat) t v, Tryd.f3.params[j]? = some t → args[j]? = some v → Value.okWide Tryd.prog W .any base t v := hval0
  have hW' := hW
  obtain ⟨p, q, hA0, hV0, rfl, _, _⟩ := hW
  have hV : DataW.TrodVars enc Tryd.prog W (fun _ => true) ["loop.example/g00126/impl.stepDays"] gs q := hV0
  have hA : DataW.TrodAll enc Tryd.prog W 0 (fun _ => true) true Tryd.f3.params.toList args.toList ds p := hA0
  rw [Tryd.params3] at hA hval
  obtain ⟨v0, vs0, d0, ds0, p0, q0, hargs, rfl, rfl, h0, r0⟩ := trodAll_cons hA
  obtain ⟨rfl, rfl, rfl⟩ := trodAll_nil r0
  obtain rfl : args = #[v0] := by cases args; simp_all
  obtain ⟨gv, tv, cs, fv, dv, pv, rfl, hgv, htv, hvar, hdv, rfl⟩ := trodVars_one hV
  obtain ⟨a0, len0, cap0, rfl⟩ := okWide_slice Tryd.underlying22 (hval 0 22 v0 rfl rfl)
  have k0 := h0
  have lt0 : ∀ x ∈ p0, x.block < W.heap.size := by obtain ⟨m, hm⟩ := k0; exact DataW.trod_lt m _ _ _ hm
  obtain ⟨z0, w0⟩ : ∃ zs, IsRow .u8 W a0 len0 cap0 zs := is_row Tryd.underlying22 Tryd.underlying5 (by kernel_rfl) h0
  clear hA0 hval0
  rw [MakeChecks.laidMetH_plain _ _ _ (by kernel_rfl)] at hL
  have HM := varTab hL
  refine (walk a0 len0 cap0 z0 W w0 hL hsh).mono fun e W' ⟨he, bel⟩ => ?_
  subst he
  exact ⟨_, rfl, _, _, _, [], _, _, hW', trodAll_mk1 (shut_bool Tryd.underlying4 _), (trodAll_cons_mk (Below.trod laidOut (by kernel_rfl) (of_decide_eq_true (by kernel_rfl)) k0 bel lt0) trodAll_mk0), step_vars hgv htv hvar hdv HM bel, bel.frame _, fun h => by cases h⟩

theorem said : Rows.FnCaseSaid :=
  OpenClaim.holds_of_cond 3 Tryd.f3 rfl rfl rfl rfl rfl rfl rfl ⟨rfl, rfl, rfl, rfl, rfl⟩ rfl rfl rfl rfl rfl (by kernel_rfl) Tryd.func3 (by kernel_rfl)
    (of_decide_eq_true (by kernel_rfl)) (by unfold Func.isWrapper; first | (rw [if_pos (by decide +kernel)]; kernel_rfl) | (rw [if_neg (by decide +kernel)]; exact ⟨rfl, rfl⟩))
    (fun os started H enc _ F => by rw [OpenClaim.pre_eq_preRow]; exact lifted os started H enc F)

theorem proved : Rows.FnCaseCardSaid :=
  Claim7.holds_tied_plain_at .later [] _ _ _ _ said (fun _ h => by cases h) (by kernel_rfl) (fun _ h => by cases h) fnCase_row_tie rfl ⟨rfl, rfl⟩ (by kernel_rfl) rfl
    (fun f fn hf hfn => by
      obtain rfl : f = 3 := Option.some.inj ((show Tryd.prog.funcNamed "loop.example/g00126/laws.FnCase" = some 3 by kernel_rfl).symm.trans hf) |>.symm
      obtain rfl : fn = Tryd.f3 := (Option.some.inj (Tryd.func3.symm.trans hfn)).symm
      refine ⟨by kernel_rfl, fun j t ht => ?_⟩
      rw [Tryd.params3] at ht
      have hm : t ∈ [22] := by have := Array.mem_of_getElem? ht; simp at this ⊢; first | exact this | exact this.symm | omega | (rcases this with h | h | h | h <;> simp [h])
      have hall : ([22].all fun u => !Tryd.prog.wantsStandIn u) = true := by kernel_rfl
      have h1 := List.all_eq_true.1 hall t hm
      have h2 : Tryd.prog.wantsStandIn t = false := by simpa using h1
      exact h2)
    (by kernel_rfl)
end Go.Proofs.YtenbhmmknejcjaaDoor.fnCase
