/- What the specification's SwitchLine answers. -/
import Derived.Test.YtpenkpiffdbdmaaGreatDoorJS4a
import Derived.Test.YtpenkpiffdbdmaaGreatDoorJS3a
namespace Go.Proofs.YtpenkpiffdbdmaaGreatDoor
open Go.RowKit
set_option maxRecDepth 100000

theorem sqCode_bd {l : List UInt8} : -1 ≤ sqCode l ∧ sqCode l < 1000000000000000000 := by
  unfold sqCode; split
  · omega
  · exact numOf_bd _
theorem sq_wrap {x : Int} (h0 : -1 ≤ x) (h1 : x ≤ 1000000000) : IntKind.i64.wrap x = x := by
  by_cases h : 0 ≤ x
  · exact Tg.wrapI h h1
  · obtain rfl : x = -1 := by omega
    rfl

set_option maxHeartbeats 6400000 in
theorem sSwitchLine_any (kd : Int) (ao : Option Addr) (cap : Nat) (fs : List Fld) (w : World) (hz : FldsAt w ao fs) (hn : fs.length ≤ 1048576) (hd : sumF fs ≤ 1048576) :
    Calls Tryz.prog 5 #[.agg #[.int .i64 kd, .slice ao fs.length cap]] w fun e w' => e = .returned (.tuple #[.string ⟨(sqAns kd fs).1.toArray⟩, .int .i64 (sqAns kd fs).2]) ∧ Below w.heap.size w w' := by
  have bel1 : Below w.heap.size w (w.alloc (.cells #[.int .i64 kd, .slice ao fs.length cap] 30)) := sq_bel
  have HMO : Hid (∀ v, Below w.heap.size w v → Calls Tryz.prog 10 #[.agg #[.int .i64 kd, .slice ao fs.length cap]] v fun e w' => e = .returned (.bool (msgOk kd fs)) ∧ Below v.heap.size v w') := fun v b => sMessageOk_any kd ao cap fs v (hz.below b) hn hd
  have HFI : Hid (∀ n v, Below w.heap.size w v → Calls Tryz.prog 11 #[.agg #[.int .i64 kd, .slice ao fs.length cap], .int .i64 n] v fun e w' => e = .returned (.tuple #[.string ⟨(swD fs n).toArray⟩, .bool (swH fs n)]) ∧ Below v.heap.size v w') := fun n v b => sFieldOf_any kd ao cap fs n v (hz.below b) hn
  have HNU : Hid (∀ n v, Below w.heap.size w v → Calls Tryz.prog 14 #[.agg #[.int .i64 kd, .slice ao fs.length cap], .int .i64 n] v fun e w' => e = .returned (.int .i64 (sqNum fs n)) ∧ Below v.heap.size v w') := fun n v b => sNum12_any kd ao cap fs n v (hz.below b) hn hd
  have HAC : Hid (∀ n v, Below w.heap.size w v → Calls Tryz.prog 13 #[.agg #[.int .i64 kd, .slice ao fs.length cap], .int .i64 n] v fun e w' => e = .returned (.int .i64 (sqAcct fs n)) ∧ Below v.heap.size v w') := fun n v b => sAcct12_any kd ao cap fs n v (hz.below b) hn hd
  have HAT : Hid (∀ v wd am rs, Below w.heap.size w v → wd.length ≤ 1000 → am < 1000000000000000000 → rs < 1000000000000000000 → Calls Tryz.prog 17 #[.agg #[.int .i64 kd, .slice ao fs.length cap], .string ⟨wd.toArray⟩, .int .i64 am, .int .i64 rs] v fun e w' => e = .returned (.tuple #[.string ⟨(sqAct fs wd am rs).1.toArray⟩, .int .i64 (sqAct fs wd am rs).2]) ∧ Below v.heap.size v w') := fun v wd am rs b h g k => sAct12_any kd ao cap fs wd am rs v (hz.below b) hn hd h g k
  have HEN : Hid (∀ v, Below w.heap.size w v → Calls Tryz.prog 18 #[.agg #[.int .i64 kd, .slice ao fs.length cap]] v fun e w' => e = .returned (.tuple #[.string ⟨(sqEnd fs).1.toArray⟩, .int .i64 (sqEnd fs).2]) ∧ Below v.heap.size v w') := fun v b => sEnd12_any kd ao cap fs v (hz.below b) hn hd
  have hl24 : (swD fs 24).length ≤ 1099511627776 := by have := sw_len (n := 24) hd; omega
  have hl37 : (swD fs 37).length ≤ 1048576 := sw_len (n := 37) hd
  have HCO : Hid (∀ v, Calls Tryz.prog 12 #[.string ⟨(swD fs 24).toArray⟩] v fun e w' => e = .returned (.int .i64 (sqCode (swD fs 24))) ∧ w' = v) := fun v => sCode_any _ v hl24
  have HWO : Hid (∀ v, Calls Tryz.prog 15 #[.string ⟨(swD fs 37).toArray⟩] v fun e w' => ∃ a k, e = .returned (.slice a (wordsW (swD fs 37)).length k) ∧ w'.ownsRow v.heap.size 9 1 (.slice a (wordsW (swD fs 37)).length k) (wordsW (swD fs 37)).length (scells (wordsW (swD fs 37))) ∧ Below v.heap.size v w') := fun v => sWords_any _ v hl37
  have HBL : Hid (Below w.heap.size w (w.alloc (.cells #[.int .i64 kd, .slice ao fs.length cap] 30))) := bel1
  by_cases hM : msgOk kd fs = false
  · have HE : Hid (sqAns kd fs = ([], 1)) := if_pos hM
    rw [hM] at HMO
    obtain ⟨S, hS⟩ : ∃ x, sqAns kd fs = x := ⟨_, rfl⟩
    rw [hS] at HE ⊢
    clear HFI HNU HAC HAT HEN HCO HWO hl24 hl37 hz hn hd bel1 hS hM
    go_enter Tryz.func5, Tryz.ntmps5
    go_wp2_with fail
    refine (HMO.out _ HBL.out).mono ?_
    rintro e u1 ⟨rfl, b1⟩
    have HB : Hid (Below w.heap.size w u1) := next HBL.out b1
    clear b1
    go_wp2
    go_ret2
    exact ⟨by rw [HE.out]; rfl, HB.out⟩
  have hM' : msgOk kd fs = true := by cases h : msgOk kd fs; exact absurd h hM; rfl
  have hkd : 0 ≤ kd ∧ kd ≤ 9999 := by unfold msgOk at hM'; simp only [Bool.and_eq_true, decide_eq_true_eq] at hM'; exact hM'.1
  have hc24 : -1 ≤ sqCode (swD fs 24) ∧ sqCode (swD fs 24) ≤ 9999 := sqCode_small hM'
  rw [hM'] at HMO
  have HS0 : Hid (sqAns kd fs = if kd = 1100 then sqAuth fs else
    if 10000 * kd + sqCode (swD fs 24) = 12400200 then sqPay fs else if 10000 * kd + sqCode (swD fs 24) = 16440603 then sqAct fs [97, 115, 107] 0 0 else if 10000 * kd + sqCode (swD fs 24) = 16440605 then sqAct fs [103, 105, 118, 101] 0 0
  else if 10000 * kd + sqCode (swD fs 24) = 14420450 then sqAct fs [99, 104, 97, 114, 103, 101] (sqNum fs 4) (sqNum fs 25) else if 10000 * kd + sqCode (swD fs 24) = 12400205 then sqAct fs [97, 110, 115, 119, 101, 114] (sqNum fs 4) 0
  else if 10000 * kd + sqCode (swD fs 24) = 14420451 then sqAct fs [115, 101, 99, 111, 110, 100] (sqNum fs 4) 0 else if 10000 * kd + sqCode (swD fs 24) = 17400700 then sqEnd fs else ([], 1)) := if_neg hM
  obtain ⟨S, hS⟩ : ∃ x, sqAns kd fs = x := ⟨_, rfl⟩
  rw [hS] at HS0 ⊢
  obtain ⟨D24, hD24⟩ : ∃ x, swD fs 24 = x := ⟨_, rfl⟩
  have HF24 : Hid (∀ v, Below w.heap.size w v → Calls Tryz.prog 11 #[.agg #[.int .i64 kd, .slice ao fs.length cap], .int .i64 24] v fun e w' => e = .returned (.tuple #[.string ⟨D24.toArray⟩, .bool (swH fs 24)]) ∧ Below v.heap.size v w') := fun v b => by have := HFI.out 24 v b; rw [hD24] at this; exact this
  obtain ⟨H24, hH24⟩ : ∃ x, swH fs 24 = x := ⟨_, rfl⟩
  rw [hH24] at HF24
  rw [hD24] at HCO HS0 hc24
  obtain ⟨CD, hCD⟩ : ∃ x, sqCode D24 = x := ⟨_, rfl⟩
  rw [hCD] at HCO HS0 hc24
  have hw1 : IntKind.i64.wrap (10000 * kd) = 10000 * kd := by have := @Tg.wrapI (10000 * kd); exact this (by omega) (by omega)
  have hw2 : IntKind.i64.wrap (10000 * kd + CD) = 10000 * kd + CD := sq_wrap (by omega) (by omega)
  obtain ⟨K, hK⟩ : ∃ x, 10000 * kd + CD = x := ⟨_, rfl⟩
  have HKK : Hid (10000 * kd + CD = K) := hK
  rw [hK] at HS0
  have hw3 : IntKind.i64.wrap (10000 * kd + CD) = K := hw2.trans hK
  clear hS hD24 hH24 hCD hM hM' hl24 hz hn hd bel1 hw2 hc24
  clear hK
  go_enter Tryz.func5, Tryz.ntmps5
  go_wp2_with fail
  refine (HMO.out _ HBL.out).mono ?_
  rintro e u1 ⟨rfl, b1⟩
  obtain ⟨c0, c1, q1, -⟩ := box2 b1
  have HB1 : Hid (Below w.heap.size w u1) := q1
  clear b1 q1 HMO
  go_wp2_with fail
  refine (HF24.out _ HB1.out).mono ?_
  rintro e u2 ⟨rfl, b2⟩
  obtain ⟨d0, d1⟩ := keep2 c0 c1 b2
  have HB2 : Hid (Below w.heap.size w u2) := next HB1.out b2
  clear b2 c0 c1 HF24 HB1 HBL
  go_upto_region 4 with fail
  go_quiet (exact Calls.quiet_of_same (HCO.out _))
  obtain ⟨u3, hu3⟩ : ∃ x, u2.drewN nq = x := ⟨_, rfl⟩
  have e0 : u3.cell? ⟨w.heap.size, 0, none⟩ = some (.int .i64 kd) := by rw [← hu3]; simpa [go_sem] using d0
  have e1 : u3.cell? ⟨w.heap.size, 1, none⟩ = some (.slice ao fs.length cap) := by rw [← hu3]; simpa [go_sem] using d1
  have HB3 : Hid (Below w.heap.size w u3) := by rw [Hid, ← hu3]; exact below_drewN HB2.out _
  rw [hu3]
  clear hu3 d0 d1 HB2 HCO hw1 hw3
  by_cases hk : kd = 1100
  · have HSA : Hid (S = sqAuth fs) := by rw [Hid, HS0.out, if_pos hk]
    clear HS0 HKK HAT HEN
    have HSB : Hid (sqAuth fs = if (((swH fs 37 = false ∨ 1 < (wordsW (swD fs 37)).length) ∨ sqAcct fs 2 < 0) ∨ sqNum fs 49 < 0) ∨ sqNum fs 4 < 0 then ([], 2) else (sqLn [97, 117, 116, 104] (swD fs 37) (Lib.itoa (sqAcct fs 2)) (Lib.itoa (sqNum fs 49)) (Lib.itoa (sqNum fs 4)), 0)) := rfl
    have HSC := HSA.out.trans HSB.out
    clear HSA HSB
    have bA := @sqAcct_bd fs 2
    have bC := @sqNum_bd fs 49
    have bM := @sqNum_bd fs 4
    obtain ⟨A, hA⟩ : ∃ x, sqAcct fs 2 = x := ⟨_, rfl⟩
    obtain ⟨C, hC⟩ : ∃ x, sqNum fs 49 = x := ⟨_, rfl⟩
    obtain ⟨M, hM⟩ : ∃ x, sqNum fs 4 = x := ⟨_, rfl⟩
    have HA2 : Hid (∀ v, Below w.heap.size w v → Calls Tryz.prog 13 #[.agg #[.int .i64 kd, .slice ao fs.length cap], .int .i64 2] v fun e w' => e = .returned (.int .i64 A) ∧ Below v.heap.size v w') := by rw [← hA]; exact HAC.out 2
    have HC2 : Hid (∀ v, Below w.heap.size w v → Calls Tryz.prog 14 #[.agg #[.int .i64 kd, .slice ao fs.length cap], .int .i64 49] v fun e w' => e = .returned (.int .i64 C) ∧ Below v.heap.size v w') := by rw [← hC]; exact HNU.out 49
    have HM2 : Hid (∀ v, Below w.heap.size w v → Calls Tryz.prog 14 #[.agg #[.int .i64 kd, .slice ao fs.length cap], .int .i64 4] v fun e w' => e = .returned (.int .i64 M) ∧ Below v.heap.size v w') := by rw [← hM]; exact HNU.out 4
    rw [hA, hC, hM] at HSC
    rw [hA] at bA
    rw [hC] at bC
    rw [hM] at bM
    obtain ⟨D, hD⟩ : ∃ x, swD fs 37 = x := ⟨_, rfl⟩
    obtain ⟨H, hH⟩ : ∃ x, swH fs 37 = x := ⟨_, rfl⟩
    rw [hD] at HSC HWO hl37
    rw [hH] at HSC
    have HF37H : Hid (Calls Tryz.prog 11 #[.agg #[.int .i64 kd, .slice ao fs.length cap], .int .i64 37] u3 fun e w' => e = .returned (.tuple #[.string ⟨D.toArray⟩, .bool H]) ∧ Below u3.heap.size u3 w') := by rw [← hD, ← hH]; exact HFI.out 37 u3 HB3.out
    obtain ⟨WW, hWW⟩ : ∃ x, wordsW D = x := ⟨_, rfl⟩
    rw [hWW] at HWO HSC
    obtain ⟨wl, hwl⟩ : ∃ x, WW.length = x := ⟨_, rfl⟩
    rw [hwl] at HWO HSC
    have HSD : Hid _ := HSC
    have hk' : (kd == 1100) = true := by simpa using hk
    clear hk
    clear hA hC hM hD hH hWW hwl HSC HFI HNU HAC
    go_wp2_with fail
    refine HF37H.out.mono ?_
    rintro e u4 ⟨rfl, b4⟩
    have f0 := e0
    have f1 := e1
    clear e0 e1
    obtain ⟨e0, e1⟩ := keep2 f0 f1 b4
    have HB4 : Hid (Below w.heap.size w u4) := next HB3.out b4
    clear b4 f0 f1 HF37H HB3
    go_upto_region 7 with fail
    have hne := over_ne u4
    have g0 := over_cell e0
    have g1 := over_cell e1
    have H1 : Hid (∀ z : Over u4, Calls Tryz.prog 13 #[.agg #[.int .i64 kd, .slice ao fs.length cap], .int .i64 2] z.x fun e w' => e = .returned (.int .i64 A) ∧ Below z.x.heap.size z.x w') := fun z => HA2.out z.x (next HB4.out z.h)
    have H2 : Hid (∀ z : Over u4, Calls Tryz.prog 14 #[.agg #[.int .i64 kd, .slice ao fs.length cap], .int .i64 49] z.x fun e w' => e = .returned (.int .i64 C) ∧ Below z.x.heap.size z.x w') := fun z => HC2.out z.x (next HB4.out z.h)
    have H3 : Hid (∀ z : Over u4, Calls Tryz.prog 14 #[.agg #[.int .i64 kd, .slice ao fs.length cap], .int .i64 4] z.x fun e w' => e = .returned (.int .i64 M) ∧ Below z.x.heap.size z.x w') := fun z => HM2.out z.x (next HB4.out z.h)
    refine wp_region_over (by kernel_rfl) (by kernel_rfl) ?_
    repeat (go_big_quiet_step (first | with_reducible exact over_of (H1.out _) | with_reducible exact over_of (H2.out _) | with_reducible exact over_of (H3.out _)))
    refine wpQuiet_nil ?_
    rintro w6 ⟨⟨wz, b6⟩, hw6⟩
    subst hw6
    have HB6 : Hid (Below w.heap.size w w6) := next HB4.out b6
    clear b6 g0 g1 hne e0 e1 H1 H2 H3
    clear HA2 HC2 HM2 HB4
    cases H
    · have HE : Hid (S = ([], 2)) := by rw [Hid, HSD.out, if_pos (by simp)]
      have HB : Hid _ := HB6.out
      clear HSD HWO
      go_wp2
      go_ret2
      exact ⟨by rw [HE.out]; rfl, HB.out⟩
    · have HSE : Hid (S = if ((1 < wl ∨ A < 0) ∨ C < 0) ∨ M < 0 then ([], 2) else (sqLn [97, 117, 116, 104] D (Lib.itoa A) (Lib.itoa C) (Lib.itoa M), 0))   := by rw [Hid]; have := HSD.out; simpa using this
      clear HSD
      by_cases h1 : 1 < wl
      · have HE : Hid (S = ([], 2)) := by rw [Hid, HSE.out, if_pos (by omega)]
        have h2 : (1 : Int) < (wl : Int) := by omega
        clear HSE h1
        go_wp2_with fail
        refine (HWO.out _).mono ?_
        rintro e u7 ⟨sa, sk, rfl, ho, b7⟩
        have HB : Hid (Below w.heap.size w u7) := next HB6.out b7
        clear ho b7 HWO
        go_wp2
        go_ret2
        exact ⟨by rw [HE.out]; rfl, HB.out⟩
      have h2 : ¬ (1 : Int) < (wl : Int) := by omega
      by_cases hbA : A < 0
      · have HE : Hid (S = ([], 2)) := by rw [Hid, HSE.out, if_pos (by omega)]
        clear HSE h1
        go_wp2_with fail
        refine (HWO.out _).mono ?_
        rintro e u7 ⟨sa, sk, rfl, ho, b7⟩
        have HB : Hid (Below w.heap.size w u7) := next HB6.out b7
        clear ho b7 HWO
        go_wp2
        go_ret2
        exact ⟨by rw [HE.out]; rfl, HB.out⟩
      by_cases hbC : C < 0
      · have HE : Hid (S = ([], 2)) := by rw [Hid, HSE.out, if_pos (by omega)]
        clear HSE h1
        go_wp2_with fail
        refine (HWO.out _).mono ?_
        rintro e u7 ⟨sa, sk, rfl, ho, b7⟩
        have HB : Hid (Below w.heap.size w u7) := next HB6.out b7
        clear ho b7 HWO
        go_wp2
        go_ret2
        exact ⟨by rw [HE.out]; rfl, HB.out⟩
      by_cases hbM : M < 0
      · have HE : Hid (S = ([], 2)) := by rw [Hid, HSE.out, if_pos (by omega)]
        clear HSE h1
        go_wp2_with fail
        refine (HWO.out _).mono ?_
        rintro e u7 ⟨sa, sk, rfl, ho, b7⟩
        have HB : Hid (Below w.heap.size w u7) := next HB6.out b7
        clear ho b7 HWO
        go_wp2
        go_ret2
        exact ⟨by rw [HE.out]; rfl, HB.out⟩
      have HE : Hid (S = (sqLn [97, 117, 116, 104] D (Lib.itoa A) (Lib.itoa C) (Lib.itoa M), 0)) := by rw [Hid, HSE.out, if_neg (by omega)]
      clear HSE h1
      go_wp2_with fail
      refine (HWO.out _).mono ?_
      rintro e u7 ⟨sa, sk, rfl, ho, b7⟩
      have HB : Hid (Below w.heap.size w u7) := next HB6.out b7
      clear ho b7 HWO
      have hlA := sq_itoa_len (n := A) (by omega) (by omega)
      have HDA : Hid (∀ v, Calls Tryz.prog 16 #[.int .i64 A] v fun e w' => e = .returned (.string ⟨(Lib.itoa A).toArray⟩) ∧ w' = v) := fun v => sDec12_any A v (by omega) (by omega)
      obtain ⟨TA, hTA⟩ : ∃ y, Lib.itoa A = y := ⟨_, rfl⟩
      rw [hTA] at hlA HDA HE
      have hlC := sq_itoa_len (n := C) (by omega) (by omega)
      have HDC : Hid (∀ v, Calls Tryz.prog 16 #[.int .i64 C] v fun e w' => e = .returned (.string ⟨(Lib.itoa C).toArray⟩) ∧ w' = v) := fun v => sDec12_any C v (by omega) (by omega)
      obtain ⟨TC, hTC⟩ : ∃ y, Lib.itoa C = y := ⟨_, rfl⟩
      rw [hTC] at hlC HDC HE
      have hlM := sq_itoa_len (n := M) (by omega) (by omega)
      have HDM : Hid (∀ v, Calls Tryz.prog 16 #[.int .i64 M] v fun e w' => e = .returned (.string ⟨(Lib.itoa M).toArray⟩) ∧ w' = v) := fun v => sDec12_any M v (by omega) (by omega)
      obtain ⟨TM, hTM⟩ : ∃ y, Lib.itoa M = y := ⟨_, rfl⟩
      rw [hTM] at hlM HDM HE
      obtain ⟨L1, hL1⟩ : ∃ x, [97, 117, 116, 104, 32] ++ D = x := ⟨_, rfl⟩
      have gL1 := sw_cat [97, 117, 116, 104, 32] D (by (try simp only [List.length_cons, List.length_nil]); omega)
      rw [hL1] at gL1
      have zL1 : L1.length ≤ 4194304 := by rw [← hL1, List.length_append]; (try simp only [List.length_cons, List.length_nil]); omega
      obtain ⟨L2, hL2⟩ : ∃ x, L1 ++ [32] = x := ⟨_, rfl⟩
      have gL2 := sw_cat L1 [32] (by (try simp only [List.length_cons, List.length_nil]); omega)
      rw [hL2] at gL2
      have zL2 : L2.length ≤ 6291456 := by rw [← hL2, List.length_append]; (try simp only [List.length_cons, List.length_nil]); omega
      obtain ⟨L3, hL3⟩ : ∃ x, L2 ++ TA = x := ⟨_, rfl⟩
      have gL3 := sw_cat L2 TA (by (try simp only [List.length_cons, List.length_nil]); omega)
      rw [hL3] at gL3
      have zL3 : L3.length ≤ 8388608 := by rw [← hL3, List.length_append]; (try simp only [List.length_cons, List.length_nil]); omega
      obtain ⟨L4, hL4⟩ : ∃ x, L3 ++ [32] = x := ⟨_, rfl⟩
      have gL4 := sw_cat L3 [32] (by (try simp only [List.length_cons, List.length_nil]); omega)
      rw [hL4] at gL4
      have zL4 : L4.length ≤ 10485760 := by rw [← hL4, List.length_append]; (try simp only [List.length_cons, List.length_nil]); omega
      obtain ⟨L5, hL5⟩ : ∃ x, L4 ++ TC = x := ⟨_, rfl⟩
      have gL5 := sw_cat L4 TC (by (try simp only [List.length_cons, List.length_nil]); omega)
      rw [hL5] at gL5
      have zL5 : L5.length ≤ 12582912 := by rw [← hL5, List.length_append]; (try simp only [List.length_cons, List.length_nil]); omega
      obtain ⟨L6, hL6⟩ : ∃ x, L5 ++ [32] = x := ⟨_, rfl⟩
      have gL6 := sw_cat L5 [32] (by (try simp only [List.length_cons, List.length_nil]); omega)
      rw [hL6] at gL6
      have zL6 : L6.length ≤ 14680064 := by rw [← hL6, List.length_append]; (try simp only [List.length_cons, List.length_nil]); omega
      obtain ⟨L7, hL7⟩ : ∃ x, L6 ++ TM = x := ⟨_, rfl⟩
      have gL7 := sw_cat L6 TM (by (try simp only [List.length_cons, List.length_nil]); omega)
      rw [hL7] at gL7
      have zL7 : L7.length ≤ 16777216 := by rw [← hL7, List.length_append]; (try simp only [List.length_cons, List.length_nil]); omega
      have HEL : Hid (S = (L7, 0)) := by rw [Hid, HE.out, ← hL7, ← hL6, ← hL5, ← hL4, ← hL3, ← hL2, ← hL1]; rfl
      clear HE zL1 hL1 zL2 hL2 zL3 hL3 zL4 hL4 zL5 hL5 zL6 hL6 zL7 hL7 hlA hTA hlC hTC hlM hTM
      go_wp2_with fail
      refine (HDA.out _).mono ?_
      rintro e vA ⟨rfl, hu⟩
      subst hu
      go_wp2_with fail
      refine (HDC.out _).mono ?_
      rintro e vC ⟨rfl, hu⟩
      subst hu
      go_wp2_with fail
      refine (HDM.out _).mono ?_
      rintro e vM ⟨rfl, hu⟩
      subst hu
      go_wp2
      go_ret2
      exact ⟨by rw [HEL.out]; rfl, HB.out⟩
  have hk' : (kd == 1100) = false := by simpa using hk
  have HS1 : Hid _ := HS0.out.trans (if_neg hk)
  clear HS0 hk HWO hl37 HKK
  by_cases k1 : K = 12400200
  · have HSA : Hid (S = sqPay fs) := by rw [Hid, HS1.out, if_pos k1]
    clear HS1 HAT HEN HFI
    have HSB : Hid (sqPay fs = if ((sqAcct fs 2 < 0 ∨ sqAcct fs 93 < 0) ∨ sqNum fs 49 < 0) ∨ sqNum fs 4 < 0 then ([], 2) else (sqLn [112, 97, 121] (Lib.itoa (sqAcct fs 2)) (Lib.itoa (sqAcct fs 93)) (Lib.itoa (sqNum fs 49)) (Lib.itoa (sqNum fs 4)), 0)) := rfl
    have HSC := HSA.out.trans HSB.out
    clear HSA HSB
    have bA := @sqAcct_bd fs 2
    have bE := @sqAcct_bd fs 93
    have bC := @sqNum_bd fs 49
    have bM := @sqNum_bd fs 4
    obtain ⟨A, hA⟩ : ∃ x, sqAcct fs 2 = x := ⟨_, rfl⟩
    obtain ⟨E, hE⟩ : ∃ x, sqAcct fs 93 = x := ⟨_, rfl⟩
    obtain ⟨C, hC⟩ : ∃ x, sqNum fs 49 = x := ⟨_, rfl⟩
    obtain ⟨M, hM⟩ : ∃ x, sqNum fs 4 = x := ⟨_, rfl⟩
    have HA2 : Hid (∀ v, Below w.heap.size w v → Calls Tryz.prog 13 #[.agg #[.int .i64 kd, .slice ao fs.length cap], .int .i64 2] v fun e w' => e = .returned (.int .i64 A) ∧ Below v.heap.size v w') := by rw [← hA]; exact HAC.out 2
    have HE2 : Hid (∀ v, Below w.heap.size w v → Calls Tryz.prog 13 #[.agg #[.int .i64 kd, .slice ao fs.length cap], .int .i64 93] v fun e w' => e = .returned (.int .i64 E) ∧ Below v.heap.size v w') := by rw [← hE]; exact HAC.out 93
    have HC2 : Hid (∀ v, Below w.heap.size w v → Calls Tryz.prog 14 #[.agg #[.int .i64 kd, .slice ao fs.length cap], .int .i64 49] v fun e w' => e = .returned (.int .i64 C) ∧ Below v.heap.size v w') := by rw [← hC]; exact HNU.out 49
    have HM2 : Hid (∀ v, Below w.heap.size w v → Calls Tryz.prog 14 #[.agg #[.int .i64 kd, .slice ao fs.length cap], .int .i64 4] v fun e w' => e = .returned (.int .i64 M) ∧ Below v.heap.size v w') := by rw [← hM]; exact HNU.out 4
    rw [hA, hE, hC, hM] at HSC
    rw [hA] at bA
    rw [hE] at bE
    rw [hC] at bC
    rw [hM] at bM
    have HSD : Hid _ := HSC
    subst k1
    clear hA hE hC hM HSC HNU HAC
    go_upto_region 13 with fail
    have hne := over_ne u3
    have g0 := over_cell e0
    have g1 := over_cell e1
    have H1 : Hid (∀ z : Over u3, Calls Tryz.prog 13 #[.agg #[.int .i64 kd, .slice ao fs.length cap], .int .i64 2] z.x fun e w' => e = .returned (.int .i64 A) ∧ Below z.x.heap.size z.x w') := fun z => HA2.out z.x (next HB3.out z.h)
    have H4 : Hid (∀ z : Over u3, Calls Tryz.prog 13 #[.agg #[.int .i64 kd, .slice ao fs.length cap], .int .i64 93] z.x fun e w' => e = .returned (.int .i64 E) ∧ Below z.x.heap.size z.x w') := fun z => HE2.out z.x (next HB3.out z.h)
    have H2 : Hid (∀ z : Over u3, Calls Tryz.prog 14 #[.agg #[.int .i64 kd, .slice ao fs.length cap], .int .i64 49] z.x fun e w' => e = .returned (.int .i64 C) ∧ Below z.x.heap.size z.x w') := fun z => HC2.out z.x (next HB3.out z.h)
    have H3 : Hid (∀ z : Over u3, Calls Tryz.prog 14 #[.agg #[.int .i64 kd, .slice ao fs.length cap], .int .i64 4] z.x fun e w' => e = .returned (.int .i64 M) ∧ Below z.x.heap.size z.x w') := fun z => HM2.out z.x (next HB3.out z.h)
    refine wp_region_over (by kernel_rfl) (by kernel_rfl) ?_
    repeat (go_big_quiet_step (first | with_reducible exact over_of (H1.out _) | with_reducible exact over_of (H4.out _) | with_reducible exact over_of (H2.out _) | with_reducible exact over_of (H3.out _)))
    refine wpQuiet_nil ?_
    rintro w6 ⟨⟨wz, b6⟩, hw6⟩
    subst hw6
    have HB6 : Hid (Below w.heap.size w w6) := next HB3.out b6
    clear b6 g0 g1 hne e0 e1 H1 H4 H2 H3
    have HB : Hid _ := HB6.out
    clear HA2 HE2 HC2 HM2 HB3 HB6
    by_cases hbA : A < 0
    · have HE : Hid (S = ([], 2)) := by rw [Hid, HSD.out, if_pos (by omega)]
      clear HSD
      go_wp2
      go_ret2
      exact ⟨by rw [HE.out]; rfl, HB.out⟩
    by_cases hbE : E < 0
    · have HE : Hid (S = ([], 2)) := by rw [Hid, HSD.out, if_pos (by omega)]
      clear HSD
      go_wp2
      go_ret2
      exact ⟨by rw [HE.out]; rfl, HB.out⟩
    by_cases hbC : C < 0
    · have HE : Hid (S = ([], 2)) := by rw [Hid, HSD.out, if_pos (by omega)]
      clear HSD
      go_wp2
      go_ret2
      exact ⟨by rw [HE.out]; rfl, HB.out⟩
    by_cases hbM : M < 0
    · have HE : Hid (S = ([], 2)) := by rw [Hid, HSD.out, if_pos (by omega)]
      clear HSD
      go_wp2
      go_ret2
      exact ⟨by rw [HE.out]; rfl, HB.out⟩
    have HE : Hid (S = (sqLn [112, 97, 121] (Lib.itoa A) (Lib.itoa E) (Lib.itoa C) (Lib.itoa M), 0)) := by rw [Hid, HSD.out, if_neg (by omega)]
    clear HSD
    have hlA := sq_itoa_len (n := A) (by omega) (by omega)
    have HDA : Hid (∀ v, Calls Tryz.prog 16 #[.int .i64 A] v fun e w' => e = .returned (.string ⟨(Lib.itoa A).toArray⟩) ∧ w' = v) := fun v => sDec12_any A v (by omega) (by omega)
    obtain ⟨TA, hTA⟩ : ∃ y, Lib.itoa A = y := ⟨_, rfl⟩
    rw [hTA] at hlA HDA HE
    have hlE := sq_itoa_len (n := E) (by omega) (by omega)
    have HDE : Hid (∀ v, Calls Tryz.prog 16 #[.int .i64 E] v fun e w' => e = .returned (.string ⟨(Lib.itoa E).toArray⟩) ∧ w' = v) := fun v => sDec12_any E v (by omega) (by omega)
    obtain ⟨TE, hTE⟩ : ∃ y, Lib.itoa E = y := ⟨_, rfl⟩
    rw [hTE] at hlE HDE HE
    have hlC := sq_itoa_len (n := C) (by omega) (by omega)
    have HDC : Hid (∀ v, Calls Tryz.prog 16 #[.int .i64 C] v fun e w' => e = .returned (.string ⟨(Lib.itoa C).toArray⟩) ∧ w' = v) := fun v => sDec12_any C v (by omega) (by omega)
    obtain ⟨TC, hTC⟩ : ∃ y, Lib.itoa C = y := ⟨_, rfl⟩
    rw [hTC] at hlC HDC HE
    have hlM := sq_itoa_len (n := M) (by omega) (by omega)
    have HDM : Hid (∀ v, Calls Tryz.prog 16 #[.int .i64 M] v fun e w' => e = .returned (.string ⟨(Lib.itoa M).toArray⟩) ∧ w' = v) := fun v => sDec12_any M v (by omega) (by omega)
    obtain ⟨TM, hTM⟩ : ∃ y, Lib.itoa M = y := ⟨_, rfl⟩
    rw [hTM] at hlM HDM HE
    obtain ⟨L1, hL1⟩ : ∃ x, [112, 97, 121, 32] ++ TA = x := ⟨_, rfl⟩
    have gL1 := sw_cat [112, 97, 121, 32] TA (by (try simp only [List.length_cons, List.length_nil]); omega)
    rw [hL1] at gL1
    have zL1 : L1.length ≤ 4194304 := by rw [← hL1, List.length_append]; (try simp only [List.length_cons, List.length_nil]); omega
    obtain ⟨L2, hL2⟩ : ∃ x, L1 ++ [32] = x := ⟨_, rfl⟩
    have gL2 := sw_cat L1 [32] (by (try simp only [List.length_cons, List.length_nil]); omega)
    rw [hL2] at gL2
    have zL2 : L2.length ≤ 6291456 := by rw [← hL2, List.length_append]; (try simp only [List.length_cons, List.length_nil]); omega
    obtain ⟨L3, hL3⟩ : ∃ x, L2 ++ TE = x := ⟨_, rfl⟩
    have gL3 := sw_cat L2 TE (by (try simp only [List.length_cons, List.length_nil]); omega)
    rw [hL3] at gL3
    have zL3 : L3.length ≤ 8388608 := by rw [← hL3, List.length_append]; (try simp only [List.length_cons, List.length_nil]); omega
    obtain ⟨L4, hL4⟩ : ∃ x, L3 ++ [32] = x := ⟨_, rfl⟩
    have gL4 := sw_cat L3 [32] (by (try simp only [List.length_cons, List.length_nil]); omega)
    rw [hL4] at gL4
    have zL4 : L4.length ≤ 10485760 := by rw [← hL4, List.length_append]; (try simp only [List.length_cons, List.length_nil]); omega
    obtain ⟨L5, hL5⟩ : ∃ x, L4 ++ TC = x := ⟨_, rfl⟩
    have gL5 := sw_cat L4 TC (by (try simp only [List.length_cons, List.length_nil]); omega)
    rw [hL5] at gL5
    have zL5 : L5.length ≤ 12582912 := by rw [← hL5, List.length_append]; (try simp only [List.length_cons, List.length_nil]); omega
    obtain ⟨L6, hL6⟩ : ∃ x, L5 ++ [32] = x := ⟨_, rfl⟩
    have gL6 := sw_cat L5 [32] (by (try simp only [List.length_cons, List.length_nil]); omega)
    rw [hL6] at gL6
    have zL6 : L6.length ≤ 14680064 := by rw [← hL6, List.length_append]; (try simp only [List.length_cons, List.length_nil]); omega
    obtain ⟨L7, hL7⟩ : ∃ x, L6 ++ TM = x := ⟨_, rfl⟩
    have gL7 := sw_cat L6 TM (by (try simp only [List.length_cons, List.length_nil]); omega)
    rw [hL7] at gL7
    have zL7 : L7.length ≤ 16777216 := by rw [← hL7, List.length_append]; (try simp only [List.length_cons, List.length_nil]); omega
    have HEL : Hid (S = (L7, 0)) := by rw [Hid, HE.out, ← hL7, ← hL6, ← hL5, ← hL4, ← hL3, ← hL2, ← hL1]; rfl
    clear HE zL1 hL1 zL2 hL2 zL3 hL3 zL4 hL4 zL5 hL5 zL6 hL6 zL7 hL7 hlA hTA hlE hTE hlC hTC hlM hTM
    go_wp2_with fail
    refine (HDA.out _).mono ?_
    rintro e vA ⟨rfl, hu⟩
    subst hu
    go_wp2_with fail
    refine (HDE.out _).mono ?_
    rintro e vE ⟨rfl, hu⟩
    subst hu
    go_wp2_with fail
    refine (HDC.out _).mono ?_
    rintro e vC ⟨rfl, hu⟩
    subst hu
    go_wp2_with fail
    refine (HDM.out _).mono ?_
    rintro e vM ⟨rfl, hu⟩
    subst hu
    go_wp2
    go_ret2
    exact ⟨by rw [HEL.out]; rfl, HB.out⟩
  have n1 : (K == 12400200) = false := by simpa using k1
  have HSN : Hid _ := HS1.out.trans (if_neg k1)
  clear k1 HS1
  have HS1 : Hid _ := HSN.out
  clear HSN
  by_cases k2 : K = 16440603
  · have HSA : Hid (S = sqAct fs [97, 115, 107] 0 0) := by rw [Hid, HS1.out, if_pos k2]
    subst k2
    clear HS1 HAC HFI HEN
    go_wp2_with fail
    refine (HAT.out _ [97, 115, 107] 0 0 HB3.out (by decide) (by omega) (by omega)).mono ?_
    rintro e u4 ⟨rfl, b4⟩
    rw [← HSA.out]
    have HB : Hid (Below w.heap.size w u4) := next HB3.out b4
    clear b4 HSA
    go_wp2
    go_ret2
    exact ⟨rfl, HB.out⟩
  have n2 : (K == 16440603) = false := by simpa using k2
  have HSN : Hid _ := HS1.out.trans (if_neg k2)
  clear k2 HS1
  have HS1 : Hid _ := HSN.out
  clear HSN
  by_cases k3 : K = 16440605
  · have HSA : Hid (S = sqAct fs [103, 105, 118, 101] 0 0) := by rw [Hid, HS1.out, if_pos k3]
    subst k3
    clear HS1 HAC HFI HEN
    go_wp2_with fail
    refine (HAT.out _ [103, 105, 118, 101] 0 0 HB3.out (by decide) (by omega) (by omega)).mono ?_
    rintro e u4 ⟨rfl, b4⟩
    rw [← HSA.out]
    have HB : Hid (Below w.heap.size w u4) := next HB3.out b4
    clear b4 HSA
    go_wp2
    go_ret2
    exact ⟨rfl, HB.out⟩
  have n3 : (K == 16440605) = false := by simpa using k3
  have HSN : Hid _ := HS1.out.trans (if_neg k3)
  clear k3 HS1
  have HS1 : Hid _ := HSN.out
  clear HSN
  by_cases k4 : K = 14420450
  · have HSA : Hid (S = sqAct fs [99, 104, 97, 114, 103, 101] (sqNum fs 4) (sqNum fs 25)) := by rw [Hid, HS1.out, if_pos k4]
    subst k4
    clear HS1 HAC HFI HEN
    have bM := @sqNum_bd fs 4
    obtain ⟨M, hM⟩ : ∃ x, sqNum fs 4 = x := ⟨_, rfl⟩
    have HM2 : Hid (∀ v, Below w.heap.size w v → Calls Tryz.prog 14 #[.agg #[.int .i64 kd, .slice ao fs.length cap], .int .i64 4] v fun e w' => e = .returned (.int .i64 M) ∧ Below v.heap.size v w') := by rw [← hM]; exact HNU.out 4
    rw [hM] at HSA bM
    have bR := @sqNum_bd fs 25
    obtain ⟨R, hR⟩ : ∃ x, sqNum fs 25 = x := ⟨_, rfl⟩
    have HR2 : Hid (∀ v, Below w.heap.size w v → Calls Tryz.prog 14 #[.agg #[.int .i64 kd, .slice ao fs.length cap], .int .i64 25] v fun e w' => e = .returned (.int .i64 R) ∧ Below v.heap.size v w') := by rw [← hR]; exact HNU.out 25
    rw [hR] at HSA bR
    have HA2 : Hid (∀ v, Below w.heap.size w v → Calls Tryz.prog 17 #[.agg #[.int .i64 kd, .slice ao fs.length cap], .string ⟨[99, 104, 97, 114, 103, 101].toArray⟩, .int .i64 M, .int .i64 R] v fun e w' => e = .returned (.tuple #[.string ⟨(S).1.toArray⟩, .int .i64 (S).2]) ∧ Below v.heap.size v w') := fun v b => by rw [HSA.out]; exact HAT.out v [99, 104, 97, 114, 103, 101] M R b (by decide) (by omega) (by omega)
    clear HAT HNU hM HSA hR
    obtain ⟨S1, hS1⟩ : ∃ x, S.1 = x := ⟨_, rfl⟩
    obtain ⟨S2, hS2⟩ : ∃ x, S.2 = x := ⟨_, rfl⟩
    rw [hS1, hS2] at HA2
    have HS12 : Hid (S.1 = S1 ∧ S.2 = S2) := ⟨hS1, hS2⟩
    clear hS1 hS2
    go_upto_region 22 with fail
    have hne := over_ne u3
    have g0 := over_cell e0
    have g1 := over_cell e1
    have H3 : Hid (∀ z : Over u3, Calls Tryz.prog 14 #[.agg #[.int .i64 kd, .slice ao fs.length cap], .int .i64 4] z.x fun e w' => e = .returned (.int .i64 M) ∧ Below z.x.heap.size z.x w') := fun z => HM2.out z.x (next HB3.out z.h)
    have H4 : Hid (∀ z : Over u3, Calls Tryz.prog 14 #[.agg #[.int .i64 kd, .slice ao fs.length cap], .int .i64 25] z.x fun e w' => e = .returned (.int .i64 R) ∧ Below z.x.heap.size z.x w') := fun z => HR2.out z.x (next HB3.out z.h)
    have H5 : Hid (∀ z : Over u3, Calls Tryz.prog 17 #[.agg #[.int .i64 kd, .slice ao fs.length cap], .string ⟨[99, 104, 97, 114, 103, 101].toArray⟩, .int .i64 M, .int .i64 R] z.x fun e w' => e = .returned (.tuple #[.string ⟨S1.toArray⟩, .int .i64 S2]) ∧ Below z.x.heap.size z.x w') := fun z => HA2.out z.x (next HB3.out z.h)
    refine wp_region_over (by kernel_rfl) (by kernel_rfl) ?_
    repeat (go_big_quiet_step (first | with_reducible exact over_of (H3.out _) | with_reducible exact over_of (H4.out _) | with_reducible exact over_of (H5.out _)))
    refine wpQuiet_nil ?_
    rintro w6 ⟨⟨wz, b6⟩, hw6⟩
    subst hw6
    have HB6 : Hid (Below w.heap.size w w6) := next HB3.out b6
    clear b6 g0 g1 hne e0 e1 H3 H4 H5
    go_wp2
    go_ret2
    exact ⟨by rw [HS12.out.1, HS12.out.2]; rfl, HB6.out⟩
  have n4 : (K == 14420450) = false := by simpa using k4
  have HSN : Hid _ := HS1.out.trans (if_neg k4)
  clear k4 HS1
  have HS1 : Hid _ := HSN.out
  clear HSN
  by_cases k5 : K = 12400205
  · have HSA : Hid (S = sqAct fs [97, 110, 115, 119, 101, 114] (sqNum fs 4) 0) := by rw [Hid, HS1.out, if_pos k5]
    subst k5
    clear HS1 HAC HFI HEN
    have bM := @sqNum_bd fs 4
    obtain ⟨M, hM⟩ : ∃ x, sqNum fs 4 = x := ⟨_, rfl⟩
    have HM2 : Hid (∀ v, Below w.heap.size w v → Calls Tryz.prog 14 #[.agg #[.int .i64 kd, .slice ao fs.length cap], .int .i64 4] v fun e w' => e = .returned (.int .i64 M) ∧ Below v.heap.size v w') := by rw [← hM]; exact HNU.out 4
    rw [hM] at HSA bM
    have HA2 : Hid (∀ v, Below w.heap.size w v → Calls Tryz.prog 17 #[.agg #[.int .i64 kd, .slice ao fs.length cap], .string ⟨[97, 110, 115, 119, 101, 114].toArray⟩, .int .i64 M, .int .i64 0] v fun e w' => e = .returned (.tuple #[.string ⟨(S).1.toArray⟩, .int .i64 (S).2]) ∧ Below v.heap.size v w') := fun v b => by rw [HSA.out]; exact HAT.out v [97, 110, 115, 119, 101, 114] M 0 b (by decide) (by omega) (by omega)
    clear HAT HNU hM HSA
    obtain ⟨S1, hS1⟩ : ∃ x, S.1 = x := ⟨_, rfl⟩
    obtain ⟨S2, hS2⟩ : ∃ x, S.2 = x := ⟨_, rfl⟩
    rw [hS1, hS2] at HA2
    have HS12 : Hid (S.1 = S1 ∧ S.2 = S2) := ⟨hS1, hS2⟩
    clear hS1 hS2
    go_upto_region 24 with fail
    have hne := over_ne u3
    have g0 := over_cell e0
    have g1 := over_cell e1
    have H3 : Hid (∀ z : Over u3, Calls Tryz.prog 14 #[.agg #[.int .i64 kd, .slice ao fs.length cap], .int .i64 4] z.x fun e w' => e = .returned (.int .i64 M) ∧ Below z.x.heap.size z.x w') := fun z => HM2.out z.x (next HB3.out z.h)
    have H5 : Hid (∀ z : Over u3, Calls Tryz.prog 17 #[.agg #[.int .i64 kd, .slice ao fs.length cap], .string ⟨[97, 110, 115, 119, 101, 114].toArray⟩, .int .i64 M, .int .i64 0] z.x fun e w' => e = .returned (.tuple #[.string ⟨S1.toArray⟩, .int .i64 S2]) ∧ Below z.x.heap.size z.x w') := fun z => HA2.out z.x (next HB3.out z.h)
    refine wp_region_over (by kernel_rfl) (by kernel_rfl) ?_
    repeat (go_big_quiet_step (first | with_reducible exact over_of (H3.out _) | with_reducible exact over_of (H5.out _)))
    refine wpQuiet_nil ?_
    rintro w6 ⟨⟨wz, b6⟩, hw6⟩
    subst hw6
    have HB6 : Hid (Below w.heap.size w w6) := next HB3.out b6
    clear b6 g0 g1 hne e0 e1 H3 H5
    go_wp2
    go_ret2
    exact ⟨by rw [HS12.out.1, HS12.out.2]; rfl, HB6.out⟩
  have n5 : (K == 12400205) = false := by simpa using k5
  have HSN : Hid _ := HS1.out.trans (if_neg k5)
  clear k5 HS1
  have HS1 : Hid _ := HSN.out
  clear HSN
  by_cases k6 : K = 14420451
  · have HSA : Hid (S = sqAct fs [115, 101, 99, 111, 110, 100] (sqNum fs 4) 0) := by rw [Hid, HS1.out, if_pos k6]
    subst k6
    clear HS1 HAC HFI HEN
    have bM := @sqNum_bd fs 4
    obtain ⟨M, hM⟩ : ∃ x, sqNum fs 4 = x := ⟨_, rfl⟩
    have HM2 : Hid (∀ v, Below w.heap.size w v → Calls Tryz.prog 14 #[.agg #[.int .i64 kd, .slice ao fs.length cap], .int .i64 4] v fun e w' => e = .returned (.int .i64 M) ∧ Below v.heap.size v w') := by rw [← hM]; exact HNU.out 4
    rw [hM] at HSA bM
    have HA2 : Hid (∀ v, Below w.heap.size w v → Calls Tryz.prog 17 #[.agg #[.int .i64 kd, .slice ao fs.length cap], .string ⟨[115, 101, 99, 111, 110, 100].toArray⟩, .int .i64 M, .int .i64 0] v fun e w' => e = .returned (.tuple #[.string ⟨(S).1.toArray⟩, .int .i64 (S).2]) ∧ Below v.heap.size v w') := fun v b => by rw [HSA.out]; exact HAT.out v [115, 101, 99, 111, 110, 100] M 0 b (by decide) (by omega) (by omega)
    clear HAT HNU hM HSA
    obtain ⟨S1, hS1⟩ : ∃ x, S.1 = x := ⟨_, rfl⟩
    obtain ⟨S2, hS2⟩ : ∃ x, S.2 = x := ⟨_, rfl⟩
    rw [hS1, hS2] at HA2
    have HS12 : Hid (S.1 = S1 ∧ S.2 = S2) := ⟨hS1, hS2⟩
    clear hS1 hS2
    go_upto_region 26 with fail
    have hne := over_ne u3
    have g0 := over_cell e0
    have g1 := over_cell e1
    have H3 : Hid (∀ z : Over u3, Calls Tryz.prog 14 #[.agg #[.int .i64 kd, .slice ao fs.length cap], .int .i64 4] z.x fun e w' => e = .returned (.int .i64 M) ∧ Below z.x.heap.size z.x w') := fun z => HM2.out z.x (next HB3.out z.h)
    have H5 : Hid (∀ z : Over u3, Calls Tryz.prog 17 #[.agg #[.int .i64 kd, .slice ao fs.length cap], .string ⟨[115, 101, 99, 111, 110, 100].toArray⟩, .int .i64 M, .int .i64 0] z.x fun e w' => e = .returned (.tuple #[.string ⟨S1.toArray⟩, .int .i64 S2]) ∧ Below z.x.heap.size z.x w') := fun z => HA2.out z.x (next HB3.out z.h)
    refine wp_region_over (by kernel_rfl) (by kernel_rfl) ?_
    repeat (go_big_quiet_step (first | with_reducible exact over_of (H3.out _) | with_reducible exact over_of (H5.out _)))
    refine wpQuiet_nil ?_
    rintro w6 ⟨⟨wz, b6⟩, hw6⟩
    subst hw6
    have HB6 : Hid (Below w.heap.size w w6) := next HB3.out b6
    clear b6 g0 g1 hne e0 e1 H3 H5
    go_wp2
    go_ret2
    exact ⟨by rw [HS12.out.1, HS12.out.2]; rfl, HB6.out⟩
  have n6 : (K == 14420451) = false := by simpa using k6
  have HSN : Hid _ := HS1.out.trans (if_neg k6)
  clear k6 HS1
  have HS1 : Hid _ := HSN.out
  clear HSN
  by_cases k7 : K = 17400700
  · have HSA : Hid (S = sqEnd fs) := by rw [Hid, HS1.out, if_pos k7]
    subst k7
    clear HS1 HAC HFI HAT HNU
    go_wp2_with fail
    refine (HEN.out _ HB3.out).mono ?_
    rintro e u4 ⟨rfl, b4⟩
    rw [← HSA.out]
    have HB : Hid (Below w.heap.size w u4) := next HB3.out b4
    clear b4 HSA
    go_wp2
    go_ret2
    exact ⟨rfl, HB.out⟩
  have n7 : (K == 17400700) = false := by simpa using k7
  have HSN : Hid _ := HS1.out.trans (if_neg k7)
  clear k7 HS1
  have HS1 : Hid _ := HSN.out
  clear HSN
  have HE : Hid (S = ([], 1)) := HS1.out
  clear HS1 HAC HFI HAT HNU HEN
  go_wp2
  go_ret2
  exact ⟨by rw [HE.out]; rfl, HB3.out⟩

end Go.Proofs.YtpenkpiffdbdmaaGreatDoor
