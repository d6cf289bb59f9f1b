/- Proved: for whatever bytes the draw is made of (up to 1048576; more pass by the law's own first test): money is asked back until the last day of its reason and not behind it, a part of it for some reasons alone, and only with a copy where the reason wants one; what is due then has its thirty working days. What it takes: the table of the steps' days holds what the program's text lays into it (the card ties that to the program). -/
import Derived.Test.YtenbhmmknejcjaaDoorJP90a
import Derived.Test.YtenbhmmknejcjaaDoorKP9DrawSt
import Derived.Test.YtenbhmmknejcjaaDoorJP91a
import Derived.Test.YtenbhmmknejcjaaDoorJP93a
import Derived.Test.YtenbhmmknejcjaaDoorJP94a
import Derived.Test.YtenbhmmknejcjaaDoorJP92a
namespace Go.Proofs.YtenbhmmknejcjaaDoor.fnCharged
open Go.ChangeShapes Go.WideShapes Go.ChangeAt Go.RowKit
set_option maxRecDepth 100000

theorem varTab {w : World} (h : laidMet Tryd.prog Rows.fnChargedRow.laid w) : StepTab w := step_head h
def rs6 : List Int := [4855, 4831, 4853, 4841, 4837, 4834]
theorem rs6_ok {r : Int} (h : r ∈ rs6) : rOk r = true := by
  simp [rs6] at h
  rcases h with rfl | rfl | rfl | rfl | rfl | rfl <;> decide
theorem last_story {sd r : Int} (h1 : 9000 ≤ sd) (h2 : sd ≤ 9059) (h : r ∈ rs6) : ∃ e, dueV sd (rDays r) offS = e ∧ sd ≤ e ∧ e ≤ 79999 := by
  have hn : ∃ n : Nat, rDays r = (n : Int) ∧ (n = 45 ∨ n = 65 ∨ n = 85) := by
    simp [rs6] at h
    rcases h with rfl | rfl | rfl | rfl | rfl | rfl
    · exact ⟨65, by decide, by omega⟩
    · exact ⟨45, by decide, by omega⟩
    · exact ⟨65, by decide, by omega⟩
    · exact ⟨45, by decide, by omega⟩
    · exact ⟨85, by decide, by omega⟩
    · exact ⟨45, by decide, by omega⟩
  obtain ⟨n, hn, hc⟩ := hn
  obtain ⟨e, he, h3, h4⟩ := due_story h1 h2 hc
  exact ⟨e, by rw [hn]; exact dueV_yes he, h3, h4⟩
theorem cop_ok {si sa sc sm sd : Int} (h : caseOk (startC si sa sc sm sd) = true) (b : Bool) : caseOk ⟨si, sa, sc, sm, 0, 0, 0, 0, 0, b, sd, -1⟩ = true := h
theorem cop_is (si sa sc sm sd : Int) (b : Bool) (t : Int) : copied ⟨si, sa, sc, sm, 0, 0, 0, 0, 0, b, sd, -1⟩ t = b := by simp [copied]

set_option maxHeartbeats 40000000 in
theorem walk (a0 : Option Addr) (len0 cap0 : Nat) (z0 : List Int) (w : World) (w0 : IsRow .u8 w a0 len0 cap0 z0) (hL : laidMet Tryd.prog Rows.fnChargedRow.laid w) (_hsh : w.ShapedOpen Tryd.prog) :
    Calls Tryd.prog 7 #[.slice a0 len0 cap0] w fun e w' => e = .returned (.bool true) ∧ Below w.heap.size w w' := by
  have HT : Hid (StepTab w) := varTab hL
  clear hL
  by_cases hbig : (1048576 : Int) < (len0 : Int)
  · have hdec : decide ((1048576 : Int) < (len0 : Int)) = true := decide_eq_true hbig
    clear w0
    go_enter Tryd.func7, Tryd.ntmps7
    go_wp2_with fail
    refine (big_any _ _ _ _).mono ?_
    rintro e u ⟨rfl, hu⟩
    subst hu
    rw [hdec]
    go_wp2
    go_ret
    exact ⟨rfl, Below.refl _ _⟩
  · have hdec : decide ((1048576 : Int) < (len0 : Int)) = false := decide_eq_false hbig
    have hn : len0 ≤ 1048576 := by omega
    have HR : Hid (IsRow .u8 w a0 len0 cap0 z0) := w0
    have HN : Hid (len0 ≤ 1048576) := hn
    clear w0 hbig
    go_enter Tryd.func7, Tryd.ntmps7
    go_wp2_with fail
    refine (big_any _ _ _ _).mono ?_
    rintro e u ⟨rfl, hu⟩
    replace hu := hu.symm
    subst hu
    rw [hdec]
    go_wp2_with fail
    refine (drawStory_any _ _ _ _ _ HR.out hn).mono ?_
    rintro e u1 ⟨c, az, ds, a1, a2, a3, k1, k2, k3, rfl, hst, hdl, hal, hds, hla, hid, hio, b1⟩
    obtain ⟨si, sa, sc, sm, sd, rfl, hok, hcu, hm, hdy⟩ := hst
    have HIO0 : Hid (IntsAt u1 a3 offS) := hio
    have HB1 : Hid (Below w.heap.size w u1) := b1
    have HCU : Hid (wf64 sc) := hcu
    have HT1 : Hid (StepTab u1) := tab_below HT.out b1
    have HOK : Hid (caseOk (startC si sa sc sm sd) = true) := hok
    have HDY : Hid (9000 ≤ sd ∧ sd ≤ 9059) := hdy
    clear hn hdec hla hid hio b1 hcu hdl hds hok hal hdy
    have HOB := one_box u1 (startC si sa sc sm sd) 25
    unfold cv
    simp only [startC] at HOB ⊢
    go_upto_region 4 with fail
    obtain ⟨nb, b2⟩ := HOB
    generalize hw4 : u1.alloc (.cells #[.int .i64 si, .int .i64 sa, .int .i64 sc, .int .i64 sm, .int .i64 0, .int .i64 0, .int .i64 0, .int .i64 0, .int .i64 0, .bool false, .int .i64 sd, .int .i64 (-1)] 25) = w4 at nb b2 ⊢
    clear hw4
    obtain ⟨R, hR⟩ : ∃ R, R = u1.heap.size := ⟨_, rfl⟩
    have HRR : Hid (R = u1.heap.size) := hR
    rw [← hR] at nb ⊢
    clear hR
    have HNB : Hid (NB R ⟨si, sa, sc, sm, 0, 0, 0, 0, 0, false, sd, -1⟩ w4) := nb
    have HB2 : Hid (Below u1.heap.size u1 w4) := b2
    clear nb b2
    have hlit := lit_cells w4 rs6 #[.int .i64 4855, .int .i64 4831, .int .i64 4853, .int .i64 4841, .int .i64 4837, .int .i64 4834] rfl
    have HR4 : Hid (IsRow .u8 (w4.alloc (.cells #[.int .i64 4855, .int .i64 4831, .int .i64 4853, .int .i64 4841, .int .i64 4837, .int .i64 4834] 3)) a0 len0 cap0 z0) := row_below HR.out ((HB1.out.trans (HB2.out.mono HB1.out.size)).alloc (Nat.le_trans HB1.out.size HB2.out.size) _)
    have bl : Below w4.heap.size w4 (w4.alloc (.cells #[.int .i64 4855, .int .i64 4831, .int .i64 4853, .int .i64 4841, .int .i64 4837, .int .i64 4834] 3)) := (Below.refl _ _).alloc (Nat.le_refl _) _
    have HN5 : Hid (NB R ⟨si, sa, sc, sm, 0, 0, 0, 0, 0, false, sd, -1⟩ (w4.alloc (.cells #[.int .i64 4855, .int .i64 4831, .int .i64 4853, .int .i64 4841, .int .i64 4837, .int .i64 4834] 3))) := HNB.out.below bl
    have HB5 : Hid (Below u1.heap.size u1 (w4.alloc (.cells #[.int .i64 4855, .int .i64 4831, .int .i64 4853, .int .i64 4841, .int .i64 4837, .int .i64 4834] 3))) := HB2.out.trans (bl.mono HB2.out.size)
    have HLT : Hid _ := hlit
    clear bl HNB HB2 hlit
    go_wp2_with fail
    refine (at_any _ _ _ _ _ HR4.out HN.out).mono ?_
    rintro e w5 ⟨kk, hkk, rfl, hv⟩
    obtain ⟨i, hi, hmod⟩ : ∃ i : Nat, i < 6 ∧ (kk : Int).tmod 6 = (i : Int) := ⟨kk % 6, by omega, by rw [Int.tmod_eq_emod_of_nonneg (by omega)]; omega⟩
    have hi6 : (i : Int) < 6 := by omega
    have hci := HLT.out i (by simpa [rs6] using hi)
    have hrm : rs6.getD i 0 ∈ rs6 := by
      have : i < rs6.length := by simpa [rs6] using hi
      simp [List.getD_eq_getElem?_getD, this]
    rw [← hv] at hci HN5 HB5
    generalize w4.heap.size = bL at hci ⊢
    generalize rs6.getD i 0 = r at hci hrm
    have HRM : Hid (r ∈ rs6) := hrm
    clear hv HLT HR4 hrm HR HN
    obtain ⟨pf, hpf⟩ : ∃ q, rProof r = q := ⟨_, rfl⟩
    obtain ⟨pt, hpt⟩ : ∃ q, rPart r = q := ⟨_, rfl⟩
    have HPF : Hid (rProof r = pf) := hpf
    have HPT : Hid (rPart r = pt) := hpt
    clear hpf hpt
    have HIP : Hid (∀ u, Calls Tryd.prog 18 #[.int .i64 r] u fun e w' => e = .returned (.bool pf) ∧ Below u.heap.size u w') := fun u => by rw [← HPF.out]; exact iRProof_any r u
    have HIT : Hid (∀ u, Calls Tryd.prog 21 #[.int .i64 r] u fun e w' => e = .returned (.bool pt) ∧ Below u.heap.size u w') := fun u => by rw [← HPT.out]; exact iRPart_any r u
    go_wp2_with fail
    refine (HIP.out _).mono ?_
    rintro e w6 ⟨rfl, b6⟩
    clear hci hmod hi6 hi hkk
    have n6 := HN5.out.below b6
    have HB6 : Hid (Below u1.heap.size u1 w6) := HB5.out.trans (b6.mono HB5.out.size)
    have c9 := n6.cb.f9
    have z9 := n6.fz.z9
    simp only [Nat.zero_add] at c9 z9
    have HN6 : Hid (NB R ⟨si, sa, sc, sm, 0, 0, 0, 0, 0, false, sd, -1⟩ w6) := n6
    clear n6 b6 HN5 HB5
    go_upto_region 7 with fail
    have HNW : Hid (NB R ⟨si, sa, sc, sm, 0, 0, 0, 0, 0, pf, sd, -1⟩ (w6.setCell ⟨R, 9, none⟩ (.bool pf))) := HN6.out.set9 pf
    have HBW : Hid (Below u1.heap.size u1 (w6.setCell ⟨R, 9, none⟩ (.bool pf))) := HB6.out.setCell (by rw [HRR.out]; exact Nat.le_refl _) _
    clear HN6 HB6 c9 z9
    generalize w6.setCell ⟨R, 9, none⟩ (.bool pf) = w7 at HNW HBW ⊢
    obtain ⟨last, hla, hl0, hl1⟩ := last_story HDY.out.1 HDY.out.2 HRM.out
    have f10 := HNW.out.cb.f10
    simp only [Nat.zero_add] at f10
    have hne := over_ne w7
    have o10 := over_cell f10
    have HRD : Hid (∀ z : Over w7, Calls Tryd.prog 20 #[.int .i64 r] z.x fun e w' => e = .returned (.int .i64 (rDays r)) ∧ Below z.x.heap.size z.x w') := fun z => iRDays_any r z.x
    have HDL : Hid (∀ z : Over w7, Calls Tryd.prog 19 #[.int .i64 sd, .int .i64 (rDays r), .slice a3 offS.length k3] z.x fun e w' => e = .returned (.int .i64 last) ∧ Below z.x.heap.size z.x w') := fun z => by rw [← hla]; exact iDue_any sd (rDays r) a3 k3 offS z.x (HIO0.out.below (HBW.out.trans (z.h.mono HBW.out.size))) (by decide)
    have HLA : Hid (dueV sd (rDays r) offS = last) := hla
    have hlp : 0 ≤ last := by have := HDY.out.1; omega
    clear hla f10
    refine wp_region_over (by kernel_rfl) (by kernel_rfl) ?_
    repeat (go_big_quiet_step (first | exact over_of (HRD.out _) | exact over_of (HDL.out _)))
    refine wpQuiet_nil ?_
    rintro w8 ⟨⟨wz, b8⟩, hw8⟩
    subst hw8
    have HNW0 : Hid (NB R ⟨si, sa, sc, sm, 0, 0, 0, 0, 0, pf, sd, -1⟩ w8) := HNW.out.below b8
    have HBW0 : Hid (Below u1.heap.size u1 w8) := HBW.out.trans (b8.mono HBW.out.size)
    clear o10 hne HRD HDL b8 HNW HBW
    have HPD : Hid (∀ (b : Bool) (y t : Int) (u : World), Below u1.heap.size u1 u → Calls Tryd.prog 10 #[cv ⟨si, sa, sc, sm, 0, 0, 0, 0, 0, b, sd, -1⟩, .agg #[.int .i64 2, .int .i64 y, .int .i64 r], .int .i64 t, .slice a3 offS.length k3] u (DoR u (doC ⟨si, sa, sc, sm, 0, 0, 0, 0, 0, b, sd, -1⟩ ⟨2, y, r⟩ t offS) (doE ⟨si, sa, sc, sm, 0, 0, 0, 0, 0, b, sd, -1⟩ ⟨2, y, r⟩ t offS) (doV ⟨si, sa, sc, sm, 0, 0, 0, 0, 0, b, sd, -1⟩ ⟨2, y, r⟩ t offS))) := fun b y t u hu => by
      have ht : StepTab u := tab_below HT1.out hu
      exact iDo_any ⟨si, sa, sc, sm, 0, 0, 0, 0, 0, b, sd, -1⟩ ⟨2, y, r⟩ t a3 k3 offS u (HIO0.out.below hu) (by decide) ht (tab_lt' ht) HCU.out
    have hc1 := charged (c := ⟨si, sa, sc, sm, 0, 0, 0, 0, 0, pf, sd, -1⟩) (r := r) (last := last) (zs := offS) (cop_ok HOK.out pf) rfl (by simp only; omega) (rs6_ok HRM.out) offS_ok HLA.out hl0 hl1
    rw [cop_is] at hc1
    obtain ⟨vc1, vc2, vc3⟩ := hc1.1 (by rw [HPF.out]; cases pf <;> simp)
    have hc0 := charged (c := ⟨si, sa, sc, sm, 0, 0, 0, 0, 0, false, sd, -1⟩) (r := r) (last := last) (zs := offS) (cop_ok HOK.out false) rfl (by simp only; omega) (rs6_ok HRM.out) offS_ok HLA.out hl0 hl1
    rw [cop_is, HPF.out] at hc0
    have hvb : doV ⟨si, sa, sc, sm, 0, 0, 0, 0, 0, false, sd, -1⟩ ⟨2, sm, r⟩ last offS = if pf = true then 3 else 0 := by
      cases pf
      · exact (hc0.1 (.inr rfl)).1
      · exact hc0.2 rfl rfl
    rw [HPT.out] at vc3
    simp only at vc1 vc2 vc3
    obtain ⟨v3, hv3⟩ : ∃ q : Int, (if pt = true then (0 : Int) else 2) = q := ⟨_, rfl⟩
    obtain ⟨v4, hv4⟩ : ∃ q : Int, (if pf = true then (3 : Int) else 0) = q := ⟨_, rfl⟩
    rw [hv3] at vc3
    rw [hv4] at hvb
    have HV3 : Hid ((if pt = true then (0 : Int) else 2) = v3) := hv3
    have HV4 : Hid ((if pf = true then (3 : Int) else 0) = v4) := hv4
    clear hv3 hv4
    obtain ⟨du, hdu⟩ : ∃ q, dueV last 30 offS = q := ⟨_, rfl⟩
    have HDC : Hid (doC ⟨si, sa, sc, sm, 0, 0, 0, 0, 0, pf, sd, -1⟩ ⟨2, sm, r⟩ last offS = ⟨si, sa, sc, sm, 3, r, sm, sm, 0, pf, sd, du⟩) := by rw [Hid, doC_yes vc1, ← hdu]; simp [nextC]
    have HDE : Hid (doE ⟨si, sa, sc, sm, 0, 0, 0, 0, 0, pf, sd, -1⟩ ⟨2, sm, r⟩ last offS = [(sa, si, sc, sm)]) := by
      have : sm ≠ 0 := by omega
      rw [Hid, doE, if_pos vc1]; simp [nextE, toIss, this]
    have HVS : Hid _ := And.intro vc1 (And.intro vc2 (And.intro vc3 hvb))
    have HBD : Hid (du = -1 ∨ betV last du offS = 30) := by
      rw [Hid, ← hdu]
      by_cases h : dueV last 30 offS = -1
      · exact .inl h
      · exact .inr (bet_due h)
    have hdub : du = -1 ∨ (last ≤ du ∧ du ≤ 80000) := by rw [← hdu]; exact dueV_bd last 30 offS
    have HDU : Hid _ := hdub
    clear hc1 hc0 vc1 vc2 vc3 hvb hdu hdub HOK HLA HRM HDY
    obtain ⟨rg0, rg1, rg2, rg3, rg4, rg5, rg6, rg7, rg8, rg9, rg10, rg11⟩ := HNW0.out.cb
    simp only [Nat.zero_add] at rg0 rg1 rg2 rg3 rg4 rg5 rg6 rg7 rg8 rg9 rg10 rg11
    have p1 := HPD.out pf (sm) (last)
    rw [HVS.out.1, HDC.out, HDE.out] at p1
    unfold cv at p1
    try simp only at p1
    go_wp2_with fail
    refine (p1 _ HBW0.out).mono ?_
    rintro e wA1 ⟨eo1, ec1, rfl, -, bA1⟩
    simp only [cv, List.length_cons, List.length_nil, Nat.zero_add]
    have bx1 : Below wA1.heap.size wA1 (wA1.alloc (.cells #[.int .i64 si, .int .i64 sa, .int .i64 sc, .int .i64 sm, .int .i64 3, .int .i64 r, .int .i64 sm, .int .i64 sm, .int .i64 0, .bool pf, .int .i64 sd, .int .i64 du] 25)) := (Below.refl _ _).alloc (Nat.le_refl _) _
    have HNW1 : Hid (NB R ⟨si, sa, sc, sm, 0, 0, 0, 0, 0, pf, sd, -1⟩ (wA1.alloc (.cells #[.int .i64 si, .int .i64 sa, .int .i64 sc, .int .i64 sm, .int .i64 3, .int .i64 r, .int .i64 sm, .int .i64 sm, .int .i64 0, .bool pf, .int .i64 sd, .int .i64 du] 25))) := (HNW0.out.below bA1).below bx1
    have HBW1 : Hid (Below u1.heap.size u1 (wA1.alloc (.cells #[.int .i64 si, .int .i64 sa, .int .i64 sc, .int .i64 sm, .int .i64 3, .int .i64 r, .int .i64 sm, .int .i64 sm, .int .i64 0, .bool pf, .int .i64 sd, .int .i64 du] 25))) := (HBW0.out.trans (bA1.mono HBW0.out.size)).trans (bx1.mono (Nat.le_trans HBW0.out.size bA1.size))
    have HDB1 : Hid (CB wA1.heap.size 0 ⟨si, sa, sc, sm, 3, r, sm, sm, 0, pf, sd, du⟩ (wA1.alloc (.cells #[.int .i64 si, .int .i64 sa, .int .i64 sc, .int .i64 sm, .int .i64 3, .int .i64 r, .int .i64 sm, .int .i64 sm, .int .i64 0, .bool pf, .int .i64 sd, .int .i64 du] 25))) := CB.new wA1 ⟨si, sa, sc, sm, 3, r, sm, sm, 0, pf, sd, du⟩ 25
    clear p1 rg0 rg1 rg2 rg3 rg4 rg5 rg6 rg7 rg8 rg9 rg10 rg11 bx1
    obtain ⟨rg0, rg1, rg2, rg3, rg4, rg5, rg6, rg7, rg8, rg9, rg10, rg11⟩ := HNW1.out.cb
    simp only [Nat.zero_add] at rg0 rg1 rg2 rg3 rg4 rg5 rg6 rg7 rg8 rg9 rg10 rg11
    have p2 := HPD.out pf (sm) (last + 1)
    rw [HVS.out.2.1] at p2
    generalize doC ⟨si, sa, sc, sm, 0, 0, 0, 0, 0, pf, sd, -1⟩ ⟨2, sm, r⟩ (last + 1) offS = D2 at p2
    generalize doE ⟨si, sa, sc, sm, 0, 0, 0, 0, 0, pf, sd, -1⟩ ⟨2, sm, r⟩ (last + 1) offS = E2 at p2
    obtain ⟨m2_0, m2_1, m2_2, m2_3, m2_4, m2_5, m2_6, m2_7, m2_8, m2_9, m2_10, m2_11⟩ := D2
    unfold cv at p2
    try simp only at p2
    go_wp2_with fail
    refine (p2 _ HBW1.out).mono ?_
    rintro e wA2 ⟨eo2, ec2, rfl, -, bA2⟩
    simp only [cv]
    have bx2 : Below wA2.heap.size wA2 (wA2.alloc (.cells #[.int .i64 m2_0, .int .i64 m2_1, .int .i64 m2_2, .int .i64 m2_3, .int .i64 m2_4, .int .i64 m2_5, .int .i64 m2_6, .int .i64 m2_7, .int .i64 m2_8, .bool m2_9, .int .i64 m2_10, .int .i64 m2_11] 25)) := (Below.refl _ _).alloc (Nat.le_refl _) _
    have HNW2 : Hid (NB R ⟨si, sa, sc, sm, 0, 0, 0, 0, 0, pf, sd, -1⟩ (wA2.alloc (.cells #[.int .i64 m2_0, .int .i64 m2_1, .int .i64 m2_2, .int .i64 m2_3, .int .i64 m2_4, .int .i64 m2_5, .int .i64 m2_6, .int .i64 m2_7, .int .i64 m2_8, .bool m2_9, .int .i64 m2_10, .int .i64 m2_11] 25))) := (HNW1.out.below bA2).below bx2
    have HBW2 : Hid (Below u1.heap.size u1 (wA2.alloc (.cells #[.int .i64 m2_0, .int .i64 m2_1, .int .i64 m2_2, .int .i64 m2_3, .int .i64 m2_4, .int .i64 m2_5, .int .i64 m2_6, .int .i64 m2_7, .int .i64 m2_8, .bool m2_9, .int .i64 m2_10, .int .i64 m2_11] 25))) := (HBW1.out.trans (bA2.mono HBW1.out.size)).trans (bx2.mono (Nat.le_trans HBW1.out.size bA2.size))
    have HDB2 : Hid (CB wA1.heap.size 0 ⟨si, sa, sc, sm, 3, r, sm, sm, 0, pf, sd, du⟩ (wA2.alloc (.cells #[.int .i64 m2_0, .int .i64 m2_1, .int .i64 m2_2, .int .i64 m2_3, .int .i64 m2_4, .int .i64 m2_5, .int .i64 m2_6, .int .i64 m2_7, .int .i64 m2_8, .bool m2_9, .int .i64 m2_10, .int .i64 m2_11] 25))) := (HDB1.out.below bA2).below bx2
    clear p2 rg0 rg1 rg2 rg3 rg4 rg5 rg6 rg7 rg8 rg9 rg10 rg11 bx2
    obtain ⟨rg0, rg1, rg2, rg3, rg4, rg5, rg6, rg7, rg8, rg9, rg10, rg11⟩ := HNW2.out.cb
    simp only [Nat.zero_add] at rg0 rg1 rg2 rg3 rg4 rg5 rg6 rg7 rg8 rg9 rg10 rg11
    have p3 := HPD.out pf (sm - 1) (last)
    rw [HVS.out.2.2.1] at p3
    generalize doC ⟨si, sa, sc, sm, 0, 0, 0, 0, 0, pf, sd, -1⟩ ⟨2, sm - 1, r⟩ (last) offS = D3 at p3
    generalize doE ⟨si, sa, sc, sm, 0, 0, 0, 0, 0, pf, sd, -1⟩ ⟨2, sm - 1, r⟩ (last) offS = E3 at p3
    obtain ⟨m3_0, m3_1, m3_2, m3_3, m3_4, m3_5, m3_6, m3_7, m3_8, m3_9, m3_10, m3_11⟩ := D3
    unfold cv at p3
    try simp only at p3
    go_wp2_with fail
    refine (p3 _ HBW2.out).mono ?_
    rintro e wA3 ⟨eo3, ec3, rfl, -, bA3⟩
    simp only [cv]
    have bx3 : Below wA3.heap.size wA3 (wA3.alloc (.cells #[.int .i64 m3_0, .int .i64 m3_1, .int .i64 m3_2, .int .i64 m3_3, .int .i64 m3_4, .int .i64 m3_5, .int .i64 m3_6, .int .i64 m3_7, .int .i64 m3_8, .bool m3_9, .int .i64 m3_10, .int .i64 m3_11] 25)) := (Below.refl _ _).alloc (Nat.le_refl _) _
    have HNW3 : Hid (NB R ⟨si, sa, sc, sm, 0, 0, 0, 0, 0, pf, sd, -1⟩ (wA3.alloc (.cells #[.int .i64 m3_0, .int .i64 m3_1, .int .i64 m3_2, .int .i64 m3_3, .int .i64 m3_4, .int .i64 m3_5, .int .i64 m3_6, .int .i64 m3_7, .int .i64 m3_8, .bool m3_9, .int .i64 m3_10, .int .i64 m3_11] 25))) := (HNW2.out.below bA3).below bx3
    have HBW3 : Hid (Below u1.heap.size u1 (wA3.alloc (.cells #[.int .i64 m3_0, .int .i64 m3_1, .int .i64 m3_2, .int .i64 m3_3, .int .i64 m3_4, .int .i64 m3_5, .int .i64 m3_6, .int .i64 m3_7, .int .i64 m3_8, .bool m3_9, .int .i64 m3_10, .int .i64 m3_11] 25))) := (HBW2.out.trans (bA3.mono HBW2.out.size)).trans (bx3.mono (Nat.le_trans HBW2.out.size bA3.size))
    have HDB3 : Hid (CB wA1.heap.size 0 ⟨si, sa, sc, sm, 3, r, sm, sm, 0, pf, sd, du⟩ (wA3.alloc (.cells #[.int .i64 m3_0, .int .i64 m3_1, .int .i64 m3_2, .int .i64 m3_3, .int .i64 m3_4, .int .i64 m3_5, .int .i64 m3_6, .int .i64 m3_7, .int .i64 m3_8, .bool m3_9, .int .i64 m3_10, .int .i64 m3_11] 25))) := (HDB2.out.below bA3).below bx3
    clear p3 rg0 rg1 rg2 rg3 rg4 rg5 rg6 rg7 rg8 rg9 rg10 rg11 bx3
    obtain ⟨rg0, rg1, rg2, rg3, rg4, rg5, rg6, rg7, rg8, rg9, rg10, rg11⟩ := HNW3.out.cb
    simp only [Nat.zero_add] at rg0 rg1 rg2 rg3 rg4 rg5 rg6 rg7 rg8 rg9 rg10 rg11
    generalize hwX : wA3.alloc (.cells #[.int .i64 m3_0, .int .i64 m3_1, .int .i64 m3_2, .int .i64 m3_3, .int .i64 m3_4, .int .i64 m3_5, .int .i64 m3_6, .int .i64 m3_7, .int .i64 m3_8, .bool m3_9, .int .i64 m3_10, .int .i64 m3_11] 25) = wX at HNW3 HBW3 HDB3 rg0 rg1 rg2 rg3 rg4 rg5 rg6 rg7 rg8 rg9 rg10 rg11
    have k4 := HDB3.out.f4
    have k6 := HDB3.out.f6
    simp only [Nat.zero_add] at k4 k6
    go_upto_region 16 with fail
    try rw [hwX]
    clear hwX k4 k6
    have hbR : R ≠ wA1.heap.size := by have h1 := HNW0.out.cb.lt; have h2 := bA1.size; omega
    generalize wA1.heap.size = bD at HDB3 hbR ⊢
    have HBR : Hid _ := hbR
    clear hbR rg0 rg1 rg2 rg3 rg4 rg5 rg6 rg7 rg8 rg9 rg10 rg11
    go_wp2_with fail
    refine (HIT.out _).mono ?_
    rintro e wP ⟨rfl, bP⟩
    have HNP : Hid (NB R ⟨si, sa, sc, sm, 0, 0, 0, 0, 0, pf, sd, -1⟩ wP) := HNW3.out.below bP
    have HBP : Hid (Below u1.heap.size u1 wP) := HBW3.out.trans (bP.mono HBW3.out.size)
    have HDP : Hid (CB bD 0 ⟨si, sa, sc, sm, 3, r, sm, sm, 0, pf, sd, du⟩ wP) := HDB3.out.below bP
    clear bP HNW3 HBW3 HDB3 HIT
    have c9 := HNP.out.cb.f9
    have z9 := HNP.out.fz.z9
    simp only [Nat.zero_add] at c9 z9
    cases pt
    all_goals
      have h3 := HV3.out
      simp only [if_true, if_false, reduceCtorEq] at h3
      subst h3
      go_upto_region 19 with fail
      have gs := grown_set wP R 9 (.bool false)
      have HNQ : Hid (NB R ⟨si, sa, sc, sm, 0, 0, 0, 0, 0, false, sd, -1⟩ (wP.setCell ⟨R, 9, none⟩ (.bool false))) := HNP.out.set9 false
      have HDQ : Hid (CB bD 0 ⟨si, sa, sc, sm, 3, r, sm, sm, 0, pf, sd, du⟩ (wP.setCell ⟨R, 9, none⟩ (.bool false))) := HDP.out.grown gs (fun h => HBR.out (by injection h with h; exact h.symm))
      have HBQ : Hid (Below u1.heap.size u1 (wP.setCell ⟨R, 9, none⟩ (.bool false))) := HBP.out.setCell (by rw [HRR.out]; exact Nat.le_refl _) _
      clear gs c9 z9 HNP HBP HDP
      generalize wP.setCell ⟨R, 9, none⟩ (.bool false) = wQ at HNQ HDQ HBQ ⊢
      obtain ⟨rg0, rg1, rg2, rg3, rg4, rg5, rg6, rg7, rg8, rg9, rg10, rg11⟩ := HNQ.out.cb
      simp only [Nat.zero_add] at rg0 rg1 rg2 rg3 rg4 rg5 rg6 rg7 rg8 rg9 rg10 rg11
      have p4 := HPD.out false sm last
      rw [HVS.out.2.2.2] at p4
      generalize doC ⟨si, sa, sc, sm, 0, 0, 0, 0, 0, false, sd, -1⟩ ⟨2, sm, r⟩ last offS = D4 at p4
      generalize doE ⟨si, sa, sc, sm, 0, 0, 0, 0, 0, false, sd, -1⟩ ⟨2, sm, r⟩ last offS = E4 at p4
      obtain ⟨m4_0, m4_1, m4_2, m4_3, m4_4, m4_5, m4_6, m4_7, m4_8, m4_9, m4_10, m4_11⟩ := D4
      unfold cv at p4
      try simp only at p4
      go_wp2_with fail
      refine (p4 _ HBQ.out).mono ?_
      rintro e wR ⟨eo4, ec4, rfl, -, bR⟩
      simp only [cv]
      have bx : Below wR.heap.size wR (wR.alloc (.cells #[.int .i64 m4_0, .int .i64 m4_1, .int .i64 m4_2, .int .i64 m4_3, .int .i64 m4_4, .int .i64 m4_5, .int .i64 m4_6, .int .i64 m4_7, .int .i64 m4_8, .bool m4_9, .int .i64 m4_10, .int .i64 m4_11] 25)) := (Below.refl _ _).alloc (Nat.le_refl _) _
      have HDR : Hid (CB bD 0 ⟨si, sa, sc, sm, 3, r, sm, sm, 0, pf, sd, du⟩ (wR.alloc (.cells #[.int .i64 m4_0, .int .i64 m4_1, .int .i64 m4_2, .int .i64 m4_3, .int .i64 m4_4, .int .i64 m4_5, .int .i64 m4_6, .int .i64 m4_7, .int .i64 m4_8, .bool m4_9, .int .i64 m4_10, .int .i64 m4_11] 25))) := (HDQ.out.below bR).below bx
      have HBR2 : Hid (Below u1.heap.size u1 (wR.alloc (.cells #[.int .i64 m4_0, .int .i64 m4_1, .int .i64 m4_2, .int .i64 m4_3, .int .i64 m4_4, .int .i64 m4_5, .int .i64 m4_6, .int .i64 m4_7, .int .i64 m4_8, .bool m4_9, .int .i64 m4_10, .int .i64 m4_11] 25))) := (HBQ.out.trans (bR.mono HBQ.out.size)).trans (bx.mono (Nat.le_trans HBQ.out.size bR.size))
      clear p4 bx bR rg0 rg1 rg2 rg3 rg4 rg5 rg6 rg7 rg8 rg9 rg10 rg11 HDQ HBQ HNQ
      generalize hwS : wR.alloc (.cells #[.int .i64 m4_0, .int .i64 m4_1, .int .i64 m4_2, .int .i64 m4_3, .int .i64 m4_4, .int .i64 m4_5, .int .i64 m4_6, .int .i64 m4_7, .int .i64 m4_8, .bool m4_9, .int .i64 m4_10, .int .i64 m4_11] 25) = wS at HDR HBR2
      go_upto_region 20 with fail
      try rw [hwS]
      clear hwS
      cases pf
      all_goals
        have h4 := HV4.out
        simp only [if_true, if_false, reduceCtorEq] at h4
        subst h4
        go_wp2_with fail
        refine (HIP.out _).mono ?_
        rintro e wT ⟨rfl, bT⟩
        have k11 := (HDR.out.below bT).f11
        simp only [Nat.zero_add] at k11
        have HBT : Hid (Below u1.heap.size u1 wT) := HBR2.out.trans (bT.mono HBR2.out.size)
        have HBF : Hid (Below w.heap.size w wT) := HB1.out.trans (HBT.out.mono HB1.out.size)
        clear bT HPD
        rcases HDU.out with hd | ⟨hd1, hd2⟩
        · subst hd
          go_wp2
          go_ret
          exact ⟨rfl, HBF.out⟩
        · have hdn : ¬ du < 0 := by omega
          have hbt : betV last du offS = 30 := by rcases HBD.out with h | h; omega; exact h
          have HWB : Hid (Calls Tryd.prog 22 #[.int .i64 last, .int .i64 du, .slice a3 offS.length k3] wT fun e w' => e = .returned (.int .i64 30) ∧ Below wT.heap.size wT w') := by rw [Hid]; have h := iBet_any last du a3 k3 offS wT (HIO0.out.below HBT.out) (by decide); rw [hbt] at h; exact h
          clear hbt
          go_wp2_with fail
          refine HWB.out.mono ?_
          rintro e wU ⟨rfl, bU⟩
          have HTU : Hid (StepTab wU) := tab_below HT1.out (HBT.out.trans (bU.mono HBT.out.size))
          have HBG : Hid (Below w.heap.size w wU) := next HBF.out bU
          clear k11 bU HWB
          go_wp2_with fail
          refine (iStep_any 0 _ HTU.out).mono ?_
          rintro e wV ⟨rfl, hV⟩
          rw [show stepV 0 = 30 from by decide]
          subst hV
          go_wp2
          go_ret
          exact ⟨rfl, HBG.out⟩

set_option maxRecDepth 100000 in
theorem lifted (os : Os) (started : os.Started) (H : Type) (enc : TypeId × Value → H) (F : Stop.Interp) :
    ReturnsInHanded {} Tryd.checked os 7 .any ((OpenSpec.ofChange Rows.fnChargedSpec).preRow enc Tryd.prog Tryd.f7 Rows.fnChargedRow.domain false Rows.fnChargedRow.laid)
      (((OpenSpec.ofChange Rows.fnChargedSpec).at F).post enc Tryd.prog Tryd.f7 false true false false) := by
  refine returnsInHanded_of_row (C := Tryd.checked) (s := OpenSpec.ofChange Rows.fnChargedSpec) own started (by kernel_rfl) Tryd.func7
    (ChangeSpec.witness_shaped (enc := enc) (C := Tryd.checked) (os := os) (X := fun w _ => laidMetH Tryd.prog Rows.fnChargedRow.laid w) false (World.laidAll Tryd.prog os Rows.fnChargedRow.laid) #[.slice none 0 0] 8 (World.laidAll_os _ _ _)
      (World.shaped_of_ZipB (by kernel_rfl) (by kernel_rfl)) (by kernel_rfl) (by kernel_rfl) (by kernel_rfl)
      (by rw [MakeChecks.laidMetH_plain _ _ _ (by kernel_rfl)]; exact laidMet_laidAll _ (by kernel_rfl) (by kernel_rfl))) ?_
  intro W base args ds gs before hval0 hW _ _ _ hL hsh _
  have hval : ∀ (j : Nat) t v, Tryd.f7.params[j]? = some t → args[j]? = some v → Value.okWide Tryd.prog W .any base t v := hval0
  have hW' := hW
  obtain ⟨p, q, hA0, hV0, rfl, _, _⟩ := hW
  have hV : DataW.TrodVars enc Tryd.prog W (fun _ => true) ["loop.example/g00126/impl.stepDays"] gs q := hV0
  have hA : DataW.TrodAll enc Tryd.prog W 0 (fun _ => true) true Tryd.f7.params.toList args.toList ds p := hA0
  rw [Tryd.params7] at hA hval
  obtain ⟨v0, vs0, d0, ds0, p0, q0, hargs, rfl, rfl, h0, r0⟩ := trodAll_cons hA
  obtain ⟨rfl, rfl, rfl⟩ := trodAll_nil r0
  obtain rfl : args = #[v0] := by cases args; simp_all
  obtain ⟨gv, tv, cs, fv, dv, pv, rfl, hgv, htv, hvar, hdv, rfl⟩ := trodVars_one hV
  obtain ⟨a0, len0, cap0, rfl⟩ := okWide_slice Tryd.underlying22 (hval 0 22 v0 rfl rfl)
  have k0 := h0
  have lt0 : ∀ x ∈ p0, x.block < W.heap.size := by obtain ⟨m, hm⟩ := k0; exact DataW.trod_lt m _ _ _ hm
  obtain ⟨z0, w0⟩ : ∃ zs, IsRow .u8 W a0 len0 cap0 zs := is_row Tryd.underlying22 Tryd.underlying5 (by kernel_rfl) h0
  clear hA0 hval0
  rw [MakeChecks.laidMetH_plain _ _ _ (by kernel_rfl)] at hL
  have HM := varTab hL
  refine (walk a0 len0 cap0 z0 W w0 hL hsh).mono fun e W' ⟨he, bel⟩ => ?_
  subst he
  exact ⟨_, rfl, _, _, _, [], _, _, hW', trodAll_mk1 (shut_bool Tryd.underlying4 _), (trodAll_cons_mk (Below.trod laidOut (by kernel_rfl) (of_decide_eq_true (by kernel_rfl)) k0 bel lt0) trodAll_mk0), step_vars hgv htv hvar hdv HM bel, bel.frame _, fun h => by cases h⟩

theorem said : Rows.FnChargedSaid :=
  OpenClaim.holds_of_cond 7 Tryd.f7 rfl rfl rfl rfl rfl rfl rfl ⟨rfl, rfl, rfl, rfl, rfl⟩ rfl rfl rfl rfl rfl (by kernel_rfl) Tryd.func7 (by kernel_rfl)
    (of_decide_eq_true (by kernel_rfl)) (by unfold Func.isWrapper; first | (rw [if_pos (by decide +kernel)]; kernel_rfl) | (rw [if_neg (by decide +kernel)]; exact ⟨rfl, rfl⟩))
    (fun os started H enc _ F => by rw [OpenClaim.pre_eq_preRow]; exact lifted os started H enc F)

theorem proved : Rows.FnChargedCardSaid :=
  Claim7.holds_tied_plain_at .later [] _ _ _ _ said (fun _ h => by cases h) (by kernel_rfl) (fun _ h => by cases h) fnCharged_row_tie rfl ⟨rfl, rfl⟩ (by kernel_rfl) rfl
    (fun f fn hf hfn => by
      obtain rfl : f = 7 := Option.some.inj ((show Tryd.prog.funcNamed "loop.example/g00126/laws.FnCharged" = some 7 by kernel_rfl).symm.trans hf) |>.symm
      obtain rfl : fn = Tryd.f7 := (Option.some.inj (Tryd.func7.symm.trans hfn)).symm
      refine ⟨by kernel_rfl, fun j t ht => ?_⟩
      rw [Tryd.params7] at ht
      have hm : t ∈ [22] := by have := Array.mem_of_getElem? ht; simp at this ⊢; first | exact this | exact this.symm | omega | (rcases this with h | h | h | h <;> simp [h])
      have hall : ([22].all fun u => !Tryd.prog.wantsStandIn u) = true := by kernel_rfl
      have h1 := List.all_eq_true.1 hall t hm
      have h2 : Tryd.prog.wantsStandIn t = false := by simpa using h1
      exact h2)
    (by kernel_rfl)
end Go.Proofs.YtenbhmmknejcjaaDoor.fnCharged
