/- The contracts of sumOf, Expected, Open and Given: the program's. -/
import Derived.Test.YtkdodamdjajbiaaRpP
import Derived.Test.YtkdodamdjajbiaaBkTo
import Derived.Test.YtkdodamdjajbiaaCaCpy
namespace Go.Proofs.Ytkdodamdjajbiaa
open Go.RowKit
set_option maxRecDepth 100000

theorem balV_at {a : Int} {c : Cs} : balV a c = (if (a == 9999) = true then wrap64 ((if (a == c.acq) = true then wrap64 ((if (a == c.iss) = true then wrap64 (0 - netC c) else 0) + netC c) else (if (a == c.iss) = true then wrap64 (0 - netC c) else 0)) + c.fee)
  else (if (a == c.acq) = true then wrap64 ((if (a == c.iss) = true then wrap64 (0 - netC c) else 0) + netC c) else (if (a == c.iss) = true then wrap64 (0 - netC c) else 0))) := by
  simp only [beq_iff_eq]; rfl
set_option maxHeartbeats 800000 in
theorem iNet_any (c : Cs) (w : World) : Calls Try.prog 59 #[cv c] w fun e w' => e = .returned (.int .i64 (netC c)) ∧ Below w.heap.size w w' := by
  obtain ⟨iss, acq, cur, am, st, rsn, cl, bk, fee, cop, sta, due⟩ := c
  unfold cv
  go_enter Try.func59, Try.ntmps59
  go_wp2
  go_ret
  exact ⟨rfl, by go_grown⟩
set_option maxHeartbeats 800000 in
theorem sNet_any (c : Cs) (w : World) : Calls Try.prog 30 #[cv c] w fun e w' => e = .returned (.int .i64 (netC c)) ∧ Below w.heap.size w w' := by
  obtain ⟨iss, acq, cur, am, st, rsn, cl, bk, fee, cop, sta, due⟩ := c
  unfold cv
  go_enter Try.func30, Try.ntmps30
  go_wp2
  go_ret
  exact ⟨rfl, by go_grown⟩
set_option maxHeartbeats 6400000 in
theorem bal_any (c : Cs) (a : Int) (w : World) : Calls Try.prog 38 #[cv c, .int .i64 a] w fun e w' => e = .returned (.int .i64 (balV a c)) ∧ Below w.heap.size w w' := by
  have HN : Hid (∀ u, Calls Try.prog 59 #[cv c] u fun e w' => e = .returned (.int .i64 (netC c)) ∧ Below u.heap.size u w') := fun u => iNet_any c u
  have HV : Hid _ := @balV_at a c
  obtain ⟨n, hn⟩ : ∃ n, netC c = n := ⟨_, rfl⟩
  rw [hn] at HN HV
  clear hn
  obtain ⟨iss, acq, cur, am, st, rsn, cl, bk, fee, cop, sta, due⟩ := c
  unfold cv at HN ⊢
  simp only at HN HV ⊢
  obtain ⟨V, hV⟩ : ∃ V, balV a ⟨iss, acq, cur, am, st, rsn, cl, bk, fee, cop, sta, due⟩ = V := ⟨_, rfl⟩
  rw [hV] at HV ⊢
  clear hV
  obtain ⟨U, hU⟩ : ∃ U, U = w.alloc (.cells #[.int .i64 iss, .int .i64 acq, .int .i64 cur, .int .i64 am, .int .i64 st, .int .i64 rsn, .int .i64 cl, .int .i64 bk, .int .i64 fee, .bool cop, .int .i64 sta, .int .i64 due] 57) := ⟨_, rfl⟩
  have bU : Below w.heap.size w U := by rw [hU]; exact (Below.refl _ _).alloc (Nat.le_refl _) _
  have hcU : CB w.heap.size 0 ⟨iss, acq, cur, am, st, rsn, cl, bk, fee, cop, sta, due⟩ U := by rw [hU]; exact CB.new w ⟨iss, acq, cur, am, st, rsn, cl, bk, fee, cop, sta, due⟩ _
  have HU : Hid _ := hU
  have HBU : Hid (Below w.heap.size w U) := bU
  have HC : Hid (CB w.heap.size 0 ⟨iss, acq, cur, am, st, rsn, cl, bk, fee, cop, sta, due⟩ U) := hcU
  clear hU bU
  obtain ⟨z0, z1, z2, z3, z4, z5, z6, z7, z8, z9, z10, z11⟩ := hcU
  simp only [Nat.zero_add] at z0 z1 z2 z3 z4 z5 z6 z7 z8 z9 z10 z11
  go_enter Try.func38, Try.ntmps38
  go_upto_region 2 with fail
  rw [← HU.out]
  clear HU
  cases h1 : (a == iss)
  · rw [h1] at HV
    cases h2 : (a == acq)
    · rw [h2] at HV
      cases h3 : (a == 9999)
      · rw [h3] at HV
        have HR : Hid _ := HV.out
        simp only [Bool.false_eq_true, if_false] at HR
        clear HV
        go_wp2
        go_ret
        exact ⟨one_int (by first | exact HR.out.symm | simpa using HR.out.symm), HBU.out⟩
      · rw [h3] at HV
        have HR : Hid _ := HV.out
        simp only [Bool.false_eq_true, if_false, if_true] at HR
        clear HV
        go_wp2
        go_ret
        exact ⟨one_int (by first | exact HR.out.symm | simpa using HR.out.symm), HBU.out⟩
    · rw [h2] at HV
      go_wp2_with fail
      refine (HN.out _).mono ?_
      rintro e w2 ⟨rfl, b2⟩
      have HB2 : Hid (Below w.heap.size w w2) := next HBU.out b2
      replace HC : Hid (CB w.heap.size 0 ⟨iss, acq, cur, am, st, rsn, cl, bk, fee, cop, sta, due⟩ w2) := HC.out.below b2
      clear b2 z0 z1 z2 z3 z4 z5 z6 z7 z8 z9 z10 z11
      obtain ⟨z0, z1, z2, z3, z4, z5, z6, z7, z8, z9, z10, z11⟩ := HC.out
      simp only [Nat.zero_add] at z0 z1 z2 z3 z4 z5 z6 z7 z8 z9 z10 z11
      cases h3 : (a == 9999)
      · rw [h3] at HV
        have HR : Hid _ := HV.out
        simp only [Bool.false_eq_true, if_false, if_true] at HR
        clear HV
        go_wp2
        go_ret
        exact ⟨one_int (by first | exact HR.out.symm | simpa using HR.out.symm), HB2.out⟩
      · rw [h3] at HV
        have HR : Hid _ := HV.out
        simp only [Bool.false_eq_true, if_false, if_true] at HR
        clear HV
        go_wp2
        go_ret
        exact ⟨one_int (by first | exact HR.out.symm | simpa using HR.out.symm), HB2.out⟩
  · rw [h1] at HV
    go_wp2_with fail
    refine (HN.out _).mono ?_
    rintro e w1 ⟨rfl, b1⟩
    have HB1 : Hid (Below w.heap.size w w1) := next HBU.out b1
    replace HC : Hid (CB w.heap.size 0 ⟨iss, acq, cur, am, st, rsn, cl, bk, fee, cop, sta, due⟩ w1) := HC.out.below b1
    clear b1 z0 z1 z2 z3 z4 z5 z6 z7 z8 z9 z10 z11
    obtain ⟨z0, z1, z2, z3, z4, z5, z6, z7, z8, z9, z10, z11⟩ := HC.out
    simp only [Nat.zero_add] at z0 z1 z2 z3 z4 z5 z6 z7 z8 z9 z10 z11
    cases h2 : (a == acq)
    · rw [h2] at HV
      cases h3 : (a == 9999)
      · rw [h3] at HV
        have HR : Hid _ := HV.out
        simp only [Bool.false_eq_true, if_false, if_true] at HR
        clear HV
        go_wp2
        go_ret
        exact ⟨one_int (by first | exact HR.out.symm | simpa using HR.out.symm), HB1.out⟩
      · rw [h3] at HV
        have HR : Hid _ := HV.out
        simp only [Bool.false_eq_true, if_false, if_true] at HR
        clear HV
        go_wp2
        go_ret
        exact ⟨one_int (by first | exact HR.out.symm | simpa using HR.out.symm), HB1.out⟩
    · rw [h2] at HV
      go_wp2_with fail
      refine (HN.out _).mono ?_
      rintro e w2 ⟨rfl, b2⟩
      have HB2 : Hid (Below w.heap.size w w2) := next HB1.out b2
      replace HC : Hid (CB w.heap.size 0 ⟨iss, acq, cur, am, st, rsn, cl, bk, fee, cop, sta, due⟩ w2) := HC.out.below b2
      clear b2 z0 z1 z2 z3 z4 z5 z6 z7 z8 z9 z10 z11
      obtain ⟨z0, z1, z2, z3, z4, z5, z6, z7, z8, z9, z10, z11⟩ := HC.out
      simp only [Nat.zero_add] at z0 z1 z2 z3 z4 z5 z6 z7 z8 z9 z10 z11
      cases h3 : (a == 9999)
      · rw [h3] at HV
        have HR : Hid _ := HV.out
        simp only [Bool.false_eq_true, if_false, if_true] at HR
        clear HV
        go_wp2
        go_ret
        exact ⟨one_int (by first | exact HR.out.symm | simpa using HR.out.symm), HB2.out⟩
      · rw [h3] at HV
        have HR : Hid _ := HV.out
        simp only [if_true] at HR
        clear HV
        go_wp2
        go_ret
        exact ⟨one_int (by first | exact HR.out.symm | simpa using HR.out.symm), HB2.out⟩
set_option maxHeartbeats 800000 in
theorem toldGiven_any (c : Cs) (w : World) : Calls Try.prog 49 #[cv c] w fun e w' => e = .returned (.int .i64 c.bk) ∧ Below w.heap.size w w' := by
  obtain ⟨iss, acq, cur, am, st, rsn, cl, bk, fee, cop, sta, due⟩ := c
  unfold cv
  go_enter Try.func49, Try.ntmps49
  go_wp2
  go_ret
  exact ⟨rfl, by go_grown⟩
set_option maxHeartbeats 800000 in
theorem toldOpen_any (c : Cs) (w : World) : Calls Try.prog 48 #[cv c] w fun e w' => e = .returned (.int .i64 c.cl) ∧ Below w.heap.size w w' := by
  obtain ⟨iss, acq, cur, am, st, rsn, cl, bk, fee, cop, sta, due⟩ := c
  unfold cv
  go_enter Try.func48, Try.ntmps48
  go_wp2
  go_ret
  exact ⟨rfl, by go_grown⟩
set_option maxHeartbeats 1600000 in
theorem toldExpected_any (c : Cs) (g : Nat) (ac : Int) (w : World) (hc : w.cell? ⟨g, 0, none⟩ = some (.int .i64 ac)) :
    Calls Try.prog 37 #[cv c, .pointer (some ⟨g, 0, none⟩)] w fun e w' => e = .returned (.int .i64 (balV ac c)) ∧ Below w.heap.size w w' := by
  have hg : g < w.heap.size := World.block_lt_of_cell? w _ hc
  have HN : Hid (∀ u, Calls Try.prog 38 #[cv c, .int .i64 ac] u fun e w' => e = .returned (.int .i64 (balV ac c)) ∧ Below u.heap.size u w') := fun u => bal_any c ac u
  obtain ⟨V, hV⟩ : ∃ V, balV ac c = V := ⟨_, rfl⟩
  rw [hV] at HN ⊢
  clear hV
  obtain ⟨iss, acq, cur, am, st, rsn, cl, bk, fee, cop, sta, due⟩ := c
  unfold cv at HN ⊢
  simp only at HN ⊢
  obtain ⟨U, hU⟩ : ∃ U, U = w.alloc (.cells #[.int .i64 iss, .int .i64 acq, .int .i64 cur, .int .i64 am, .int .i64 st, .int .i64 rsn, .int .i64 cl, .int .i64 bk, .int .i64 fee, .bool cop, .int .i64 sta, .int .i64 due] 57) := ⟨_, rfl⟩
  have bU : Below w.heap.size w U := by rw [hU]; exact (Below.refl _ _).alloc (Nat.le_refl _) _
  have hcU : CB w.heap.size 0 ⟨iss, acq, cur, am, st, rsn, cl, bk, fee, cop, sta, due⟩ U := by rw [hU]; exact CB.new w ⟨iss, acq, cur, am, st, rsn, cl, bk, fee, cop, sta, due⟩ _
  have HU : Hid _ := hU
  have hgU : U.cell? ⟨g, 0, none⟩ = some (.int .i64 ac) := (bU.cell (p := ⟨g, 0, none⟩) hg).trans hc
  have HBU : Hid (Below w.heap.size w U) := bU
  clear hU bU hc
  obtain ⟨z0, z1, z2, z3, z4, z5, z6, z7, z8, z9, z10, z11⟩ := hcU
  simp only [Nat.zero_add] at z0 z1 z2 z3 z4 z5 z6 z7 z8 z9 z10 z11
  go_enter Try.func37, Try.ntmps37
  go_upto_region 1 with fail
  rw [← HU.out]
  clear HU
  go_wp2_with fail
  refine (HN.out _).mono ?_
  rintro e w1 ⟨rfl, b1⟩
  have HB1 : Hid (Below w.heap.size w w1) := next HBU.out b1
  clear b1 z0 z1 z2 z3 z4 z5 z6 z7 z8 z9 z10 z11 hgU
  go_wp2
  go_ret
  exact ⟨rfl, HB1.out⟩
set_option maxHeartbeats 6400000 in
theorem sumOfGiven_any (ao : Option Addr) (cap : Nat) (cs : List Cs) (x : Int) (w : World) (hz : CasesAt w ao cs) (hn : cs.length ≤ 1048576) :
    Calls Try.prog 36 #[.slice ao cs.length cap, .int .i64 x, .func (.func 49) #[] #[]] w fun e w' => e = .returned (.int .i64 (sumV (curP x) Cs.bk cs)) ∧ Below w.heap.size w w' := by
  have HX : Hid (CasesAt w ao cs) := hz
  skip
  clear hz
  go_enter Try.func36, Try.ntmps36
  go_wp2
  go_loopw [7, 12] (fun s i wr => ∃ k : Nat, k ≤ cs.length ∧ i = .int .i64 k ∧ s = .int .i64 (sumV (curP x) Cs.bk (cs.take k)) ∧ Below w.heap.size w wr) (fun _ i _ => cs.length - (intOf i).toNat)
  case atStart => exact ⟨0, Nat.zero_le _, rfl, rfl, Below.refl _ _⟩
  case round =>
    obtain ⟨k, hk, rfl, rfl, hbr⟩ := hrel
    have HBR : Hid (Below w.heap.size w wr) := hbr
    by_cases hlt : k < cs.length
    · have hki : (k : Int) < (cs.length : Int) := by omega
      obtain ⟨cb, off, rfl, hb2, hcb⟩ := (HX.out.below hbr).at hlt
      have HIN : Hid _ := @sumV_in (curP x) Cs.bk cs k hlt
      have HOUT : Hid _ := @sumV_out (curP x) Cs.bk cs k hlt
      obtain ⟨⟨iss, acq, cur, am, st, rsn, cl, bk, fee, cop, sta, due⟩, hc⟩ : ∃ f, csAt cs k = f := ⟨_, rfl⟩
      rw [hc] at hcb HIN HOUT
      obtain ⟨y0, y1, y2, y3, y4, y5, y6, y7, y8, y9, y10, y11⟩ := hcb
      simp only at y0 y1 y2 y3 y4 y5 y6 y7 y8 y9 y10 y11
      obtain ⟨S, hS⟩ : ∃ S, sumV (curP x) Cs.bk (cs.take k) = S := ⟨_, rfl⟩
      rw [hS] at HIN HOUT ⊢
      obtain ⟨B, hB⟩ : ∃ B, Cs.bk ⟨iss, acq, cur, am, st, rsn, cl, bk, fee, cop, sta, due⟩ = B := ⟨_, rfl⟩
      rw [hB] at HIN
      clear hc hS hbr hb2
      obtain ⟨U, hU⟩ : ∃ U, U = wr.alloc (.cells #[.int .i64 iss, .int .i64 acq, .int .i64 cur, .int .i64 am, .int .i64 st, .int .i64 rsn, .int .i64 cl, .int .i64 bk, .int .i64 fee, .bool cop, .int .i64 sta, .int .i64 due] 57) := ⟨_, rfl⟩
      have bU : Below wr.heap.size wr U := by rw [hU]; exact (Below.refl _ _).alloc (Nat.le_refl _) _
      have hcU : CB wr.heap.size 0 ⟨iss, acq, cur, am, st, rsn, cl, bk, fee, cop, sta, due⟩ U := by rw [hU]; exact CB.new wr ⟨iss, acq, cur, am, st, rsn, cl, bk, fee, cop, sta, due⟩ _
      have HB1 : Hid (Below w.heap.size w U) := next HBR.out bU
      have HFN : Hid (Calls Try.prog 49 #[.agg #[.int .i64 iss, .int .i64 acq, .int .i64 cur, .int .i64 am, .int .i64 st, .int .i64 rsn, .int .i64 cl, .int .i64 bk, .int .i64 fee, .bool cop, .int .i64 sta, .int .i64 due]] U fun e w' => e = .returned (.int .i64 B) ∧ Below U.heap.size U w') := by
        have := toldGiven_any ⟨iss, acq, cur, am, st, rsn, cl, bk, fee, cop, sta, due⟩ U
        rw [hB] at this
        exact this
      go_upto_region 5 with fail
      rw [← hU]
      clear hU bU HBR y0 y1 y2 y3 y4 y5 y6 y7 y8 y9 y10 y11 hB
      obtain ⟨z0, z1, z2, z3, z4, z5, z6, z7, z8, z9, z10, z11⟩ := hcU
      simp only [Nat.zero_add] at z0 z1 z2 z3 z4 z5 z6 z7 z8 z9 z10 z11
      by_cases h1 : cur = x
      · have h1' : (cur == x) = true := by simpa using h1
        have HV : Hid (sumV (curP x) Cs.bk (cs.take (k + 1)) = IntKind.i64.wrap (S + B)) := HIN.out h1'
        obtain ⟨T, hT⟩ : ∃ T, IntKind.i64.wrap (S + B) = T := ⟨_, rfl⟩
        rw [hT] at HV
        clear HIN HOUT h1
        go_wp2_with fail
        refine HFN.out.mono ?_
        rintro e w2 ⟨rfl, b2⟩
        have HB2 : Hid (Below w.heap.size w w2) := next HB1.out b2
        clear b2 HFN HB1 z0 z1 z2 z3 z4 z5 z6 z7 z8 z9 z10 z11
        go_wp2
        go_roundw
        case rel => exact ⟨k + 1, by omega, by go_num, by rw [HV.out], HB2.out⟩
        case measure => simp [intOf]; omega
      · have h1' : (cur == x) = false := by simpa using h1
        have HV : Hid (sumV (curP x) Cs.bk (cs.take (k + 1)) = S) := HOUT.out h1'
        clear HIN HOUT h1 HFN
        go_wp2
        go_roundw
        case rel => exact ⟨k + 1, by omega, by go_num, by rw [HV.out], HB1.out⟩
        case measure => simp [intOf]; omega
    · have hke : k = cs.length := by omega
      subst hke
      have hki : ¬ (cs.length : Int) < (cs.length : Int) := by omega
      rw [List.take_length]
      obtain ⟨S, hS⟩ : ∃ S, sumV (curP x) Cs.bk cs = S := ⟨_, rfl⟩
      rw [hS]
      have HV : Hid _ := hS
      clear hS hbr
      go_wp2
      go_ret
      exact ⟨one_int HV.out.symm, HBR.out⟩
set_option maxHeartbeats 6400000 in
theorem sumOfOpen_any (ao : Option Addr) (cap : Nat) (cs : List Cs) (x : Int) (w : World) (hz : CasesAt w ao cs) (hn : cs.length ≤ 1048576) :
    Calls Try.prog 36 #[.slice ao cs.length cap, .int .i64 x, .func (.func 48) #[] #[]] w fun e w' => e = .returned (.int .i64 (sumV (curP x) Cs.cl cs)) ∧ Below w.heap.size w w' := by
  have HX : Hid (CasesAt w ao cs) := hz
  skip
  clear hz
  go_enter Try.func36, Try.ntmps36
  go_wp2
  go_loopw [7, 12] (fun s i wr => ∃ k : Nat, k ≤ cs.length ∧ i = .int .i64 k ∧ s = .int .i64 (sumV (curP x) Cs.cl (cs.take k)) ∧ Below w.heap.size w wr) (fun _ i _ => cs.length - (intOf i).toNat)
  case atStart => exact ⟨0, Nat.zero_le _, rfl, rfl, Below.refl _ _⟩
  case round =>
    obtain ⟨k, hk, rfl, rfl, hbr⟩ := hrel
    have HBR : Hid (Below w.heap.size w wr) := hbr
    by_cases hlt : k < cs.length
    · have hki : (k : Int) < (cs.length : Int) := by omega
      obtain ⟨cb, off, rfl, hb2, hcb⟩ := (HX.out.below hbr).at hlt
      have HIN : Hid _ := @sumV_in (curP x) Cs.cl cs k hlt
      have HOUT : Hid _ := @sumV_out (curP x) Cs.cl cs k hlt
      obtain ⟨⟨iss, acq, cur, am, st, rsn, cl, bk, fee, cop, sta, due⟩, hc⟩ : ∃ f, csAt cs k = f := ⟨_, rfl⟩
      rw [hc] at hcb HIN HOUT
      obtain ⟨y0, y1, y2, y3, y4, y5, y6, y7, y8, y9, y10, y11⟩ := hcb
      simp only at y0 y1 y2 y3 y4 y5 y6 y7 y8 y9 y10 y11
      obtain ⟨S, hS⟩ : ∃ S, sumV (curP x) Cs.cl (cs.take k) = S := ⟨_, rfl⟩
      rw [hS] at HIN HOUT ⊢
      obtain ⟨B, hB⟩ : ∃ B, Cs.cl ⟨iss, acq, cur, am, st, rsn, cl, bk, fee, cop, sta, due⟩ = B := ⟨_, rfl⟩
      rw [hB] at HIN
      clear hc hS hbr hb2
      obtain ⟨U, hU⟩ : ∃ U, U = wr.alloc (.cells #[.int .i64 iss, .int .i64 acq, .int .i64 cur, .int .i64 am, .int .i64 st, .int .i64 rsn, .int .i64 cl, .int .i64 bk, .int .i64 fee, .bool cop, .int .i64 sta, .int .i64 due] 57) := ⟨_, rfl⟩
      have bU : Below wr.heap.size wr U := by rw [hU]; exact (Below.refl _ _).alloc (Nat.le_refl _) _
      have hcU : CB wr.heap.size 0 ⟨iss, acq, cur, am, st, rsn, cl, bk, fee, cop, sta, due⟩ U := by rw [hU]; exact CB.new wr ⟨iss, acq, cur, am, st, rsn, cl, bk, fee, cop, sta, due⟩ _
      have HB1 : Hid (Below w.heap.size w U) := next HBR.out bU
      have HFN : Hid (Calls Try.prog 48 #[.agg #[.int .i64 iss, .int .i64 acq, .int .i64 cur, .int .i64 am, .int .i64 st, .int .i64 rsn, .int .i64 cl, .int .i64 bk, .int .i64 fee, .bool cop, .int .i64 sta, .int .i64 due]] U fun e w' => e = .returned (.int .i64 B) ∧ Below U.heap.size U w') := by
        have := toldOpen_any ⟨iss, acq, cur, am, st, rsn, cl, bk, fee, cop, sta, due⟩ U
        rw [hB] at this
        exact this
      go_upto_region 5 with fail
      rw [← hU]
      clear hU bU HBR y0 y1 y2 y3 y4 y5 y6 y7 y8 y9 y10 y11 hB
      obtain ⟨z0, z1, z2, z3, z4, z5, z6, z7, z8, z9, z10, z11⟩ := hcU
      simp only [Nat.zero_add] at z0 z1 z2 z3 z4 z5 z6 z7 z8 z9 z10 z11
      by_cases h1 : cur = x
      · have h1' : (cur == x) = true := by simpa using h1
        have HV : Hid (sumV (curP x) Cs.cl (cs.take (k + 1)) = IntKind.i64.wrap (S + B)) := HIN.out h1'
        obtain ⟨T, hT⟩ : ∃ T, IntKind.i64.wrap (S + B) = T := ⟨_, rfl⟩
        rw [hT] at HV
        clear HIN HOUT h1
        go_wp2_with fail
        refine HFN.out.mono ?_
        rintro e w2 ⟨rfl, b2⟩
        have HB2 : Hid (Below w.heap.size w w2) := next HB1.out b2
        clear b2 HFN HB1 z0 z1 z2 z3 z4 z5 z6 z7 z8 z9 z10 z11
        go_wp2
        go_roundw
        case rel => exact ⟨k + 1, by omega, by go_num, by rw [HV.out], HB2.out⟩
        case measure => simp [intOf]; omega
      · have h1' : (cur == x) = false := by simpa using h1
        have HV : Hid (sumV (curP x) Cs.cl (cs.take (k + 1)) = S) := HOUT.out h1'
        clear HIN HOUT h1 HFN
        go_wp2
        go_roundw
        case rel => exact ⟨k + 1, by omega, by go_num, by rw [HV.out], HB1.out⟩
        case measure => simp [intOf]; omega
    · have hke : k = cs.length := by omega
      subst hke
      have hki : ¬ (cs.length : Int) < (cs.length : Int) := by omega
      rw [List.take_length]
      obtain ⟨S, hS⟩ : ∃ S, sumV (curP x) Cs.cl cs = S := ⟨_, rfl⟩
      rw [hS]
      have HV : Hid _ := hS
      clear hS hbr
      go_wp2
      go_ret
      exact ⟨one_int HV.out.symm, HBR.out⟩
set_option maxHeartbeats 6400000 in
theorem sumOfExpected_any (ao : Option Addr) (cap : Nat) (cs : List Cs) (x : Int) (g : Nat) (ac : Int) (w : World) (hz : CasesAt w ao cs) (hn : cs.length ≤ 1048576) (hc : w.cell? ⟨g, 0, none⟩ = some (.int .i64 ac)) :
    Calls Try.prog 36 #[.slice ao cs.length cap, .int .i64 x, .func (.func 37) #[] #[.pointer (some ⟨g, 0, none⟩)]] w fun e w' => e = .returned (.int .i64 (sumV (curP x) (balV ac) cs)) ∧ Below w.heap.size w w' := by
  have HX : Hid (CasesAt w ao cs) := hz
  have HG : Hid (∀ u, Below w.heap.size w u → u.cell? ⟨g, 0, none⟩ = some (.int .i64 ac)) := fun u h => (h.cell (p := ⟨g, 0, none⟩) (World.block_lt_of_cell? w _ hc)).trans hc
  clear hc
  clear hz
  go_enter Try.func36, Try.ntmps36
  go_wp2
  go_loopw [7, 12] (fun s i wr => ∃ k : Nat, k ≤ cs.length ∧ i = .int .i64 k ∧ s = .int .i64 (sumV (curP x) (balV ac) (cs.take k)) ∧ Below w.heap.size w wr) (fun _ i _ => cs.length - (intOf i).toNat)
  case atStart => exact ⟨0, Nat.zero_le _, rfl, rfl, Below.refl _ _⟩
  case round =>
    obtain ⟨k, hk, rfl, rfl, hbr⟩ := hrel
    have HBR : Hid (Below w.heap.size w wr) := hbr
    by_cases hlt : k < cs.length
    · have hki : (k : Int) < (cs.length : Int) := by omega
      obtain ⟨cb, off, rfl, hb2, hcb⟩ := (HX.out.below hbr).at hlt
      have HIN : Hid _ := @sumV_in (curP x) (balV ac) cs k hlt
      have HOUT : Hid _ := @sumV_out (curP x) (balV ac) cs k hlt
      obtain ⟨⟨iss, acq, cur, am, st, rsn, cl, bk, fee, cop, sta, due⟩, hc⟩ : ∃ f, csAt cs k = f := ⟨_, rfl⟩
      rw [hc] at hcb HIN HOUT
      obtain ⟨y0, y1, y2, y3, y4, y5, y6, y7, y8, y9, y10, y11⟩ := hcb
      simp only at y0 y1 y2 y3 y4 y5 y6 y7 y8 y9 y10 y11
      obtain ⟨S, hS⟩ : ∃ S, sumV (curP x) (balV ac) (cs.take k) = S := ⟨_, rfl⟩
      rw [hS] at HIN HOUT ⊢
      obtain ⟨B, hB⟩ : ∃ B, (balV ac) ⟨iss, acq, cur, am, st, rsn, cl, bk, fee, cop, sta, due⟩ = B := ⟨_, rfl⟩
      rw [hB] at HIN
      clear hc hS hbr hb2
      obtain ⟨U, hU⟩ : ∃ U, U = wr.alloc (.cells #[.int .i64 iss, .int .i64 acq, .int .i64 cur, .int .i64 am, .int .i64 st, .int .i64 rsn, .int .i64 cl, .int .i64 bk, .int .i64 fee, .bool cop, .int .i64 sta, .int .i64 due] 57) := ⟨_, rfl⟩
      have bU : Below wr.heap.size wr U := by rw [hU]; exact (Below.refl _ _).alloc (Nat.le_refl _) _
      have hcU : CB wr.heap.size 0 ⟨iss, acq, cur, am, st, rsn, cl, bk, fee, cop, sta, due⟩ U := by rw [hU]; exact CB.new wr ⟨iss, acq, cur, am, st, rsn, cl, bk, fee, cop, sta, due⟩ _
      have HB1 : Hid (Below w.heap.size w U) := next HBR.out bU
      have HFN : Hid (Calls Try.prog 37 #[.agg #[.int .i64 iss, .int .i64 acq, .int .i64 cur, .int .i64 am, .int .i64 st, .int .i64 rsn, .int .i64 cl, .int .i64 bk, .int .i64 fee, .bool cop, .int .i64 sta, .int .i64 due], .pointer (some ⟨g, 0, none⟩)] U fun e w' => e = .returned (.int .i64 B) ∧ Below U.heap.size U w') := by
        have := toldExpected_any ⟨iss, acq, cur, am, st, rsn, cl, bk, fee, cop, sta, due⟩ g ac U (HG.out _ HB1.out)
        rw [hB] at this
        exact this
      go_upto_region 5 with fail
      rw [← hU]
      clear hU bU HBR y0 y1 y2 y3 y4 y5 y6 y7 y8 y9 y10 y11 hB
      obtain ⟨z0, z1, z2, z3, z4, z5, z6, z7, z8, z9, z10, z11⟩ := hcU
      simp only [Nat.zero_add] at z0 z1 z2 z3 z4 z5 z6 z7 z8 z9 z10 z11
      by_cases h1 : cur = x
      · have h1' : (cur == x) = true := by simpa using h1
        have HV : Hid (sumV (curP x) (balV ac) (cs.take (k + 1)) = IntKind.i64.wrap (S + B)) := HIN.out h1'
        obtain ⟨T, hT⟩ : ∃ T, IntKind.i64.wrap (S + B) = T := ⟨_, rfl⟩
        rw [hT] at HV
        clear HIN HOUT h1
        go_wp2_with fail
        refine HFN.out.mono ?_
        rintro e w2 ⟨rfl, b2⟩
        have HB2 : Hid (Below w.heap.size w w2) := next HB1.out b2
        clear b2 HFN HB1 z0 z1 z2 z3 z4 z5 z6 z7 z8 z9 z10 z11
        go_wp2
        go_roundw
        case rel => exact ⟨k + 1, by omega, by go_num, by rw [HV.out], HB2.out⟩
        case measure => simp [intOf]; omega
      · have h1' : (cur == x) = false := by simpa using h1
        have HV : Hid (sumV (curP x) (balV ac) (cs.take (k + 1)) = S) := HOUT.out h1'
        clear HIN HOUT h1 HFN
        go_wp2
        go_roundw
        case rel => exact ⟨k + 1, by omega, by go_num, by rw [HV.out], HB1.out⟩
        case measure => simp [intOf]; omega
    · have hke : k = cs.length := by omega
      subst hke
      have hki : ¬ (cs.length : Int) < (cs.length : Int) := by omega
      rw [List.take_length]
      obtain ⟨S, hS⟩ : ∃ S, sumV (curP x) (balV ac) cs = S := ⟨_, rfl⟩
      rw [hS]
      have HV : Hid _ := hS
      clear hS hbr
      go_wp2
      go_ret
      exact ⟨one_int HV.out.symm, HBR.out⟩

end Go.Proofs.Ytkdodamdjajbiaa
