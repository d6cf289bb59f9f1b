/- The contracts of Expected, Open and Given: the specification's. -/
import Derived.Test.YtkdodamdjajbiaaRpSumI
namespace Go.Proofs.Ytkdodamdjajbiaa
open Go.RowKit
set_option maxRecDepth 100000

theorem expV_at {a s : Int} {c : Cs} : expV a s c = (if (a == 9999) = true then wrap64 ((if (c.acq == a) = true then wrap64 ((if (c.iss == a) = true then wrap64 (s - netC c) else s) + netC c) else (if (c.iss == a) = true then wrap64 (s - netC c) else s)) + c.fee)
  else (if (c.acq == a) = true then wrap64 ((if (c.iss == a) = true then wrap64 (s - netC c) else s) + netC c) else (if (c.iss == a) = true then wrap64 (s - netC c) else s))) := by
  simp only [beq_iff_eq]; rfl
theorem expIn {x a : Int} {cs : List Cs} {k : Nat} (h : k < cs.length) (hp : curP x (csAt cs k) = true) : sumV (curP x) (balV a) (cs.take (k + 1)) = expV a (sumV (curP x) (balV a) (cs.take k)) (csAt cs k) := by
  rw [sumV_in h hp, expV_is _ _ _ (sumV_bd _ _ _)]
theorem one_intV {a b : Int} (h : a = b) : Value.int .i64 a = Value.int .i64 b := by rw [h]
set_option maxHeartbeats 6400000 in
theorem sGiven_any (b : Bk) (p : Bp) (x : Int) (w : World) (hx : BookAt w b p) (hn : bkSm b) :
    Calls Try.prog 19 #[bkv b p, .int .i64 x] w fun e w' => e = .returned (.int .i64 (sumV (curP x) Cs.bk b.cs)) ∧ Below w.heap.size w w' := by
  obtain ⟨W, hW⟩ : ∃ W, W = w.alloc (.cells #[.int .i64 b.today, .slice p.o b.off.length p.oc, .slice p.a b.az.length p.ac, .slice p.c b.cs.length p.cc, .slice p.l b.ls.length p.lc, .slice p.g b.log.length p.gc] 39) := ⟨_, rfl⟩
  have bW : Below w.heap.size w W := by rw [hW]; exact (Below.refl _ _).alloc (Nat.le_refl _) _
  have s6 : S6 w.heap.size b p W := by rw [hW]; exact S6.new w b p _
  have HX : Hid (CasesAt W p.c b.cs) := hx.cs.below bW
  have hcn := hn.2.2.1
  have HW : Hid _ := hW
  have HBW : Hid (Below w.heap.size w W) := bW
  clear hx hn hW bW
  obtain ⟨td, fo, az, cs, ls, lg⟩ := b
  obtain ⟨o, oc, a, ac, c, cc, l, lc, g, gc⟩ := p
  unfold bkv
  simp only at HW HX hcn s6 ⊢
  have HS : Hid _ := s6
  clear s6
  go_enter Try.func19, Try.ntmps19
  go_upto_region 2 with fail
  rw [← HW.out]
  clear HW
  go_wp2_with fail
  go_loopw [5, 6] (fun s i wr => ∃ k : Nat, k ≤ cs.length ∧ i = .int .i64 (k : Int) ∧ s = .int .i64 (sumV (curP x) Cs.bk (cs.take k)) ∧ Below W.heap.size W wr) (fun _ i _ => cs.length - (intOf i).toNat)
  case atStart => exact ⟨0, Nat.zero_le _, rfl, rfl, Below.refl _ _⟩
  case round =>
    obtain ⟨k, hk, rfl, rfl, hbr⟩ := hrel
    have HBR : Hid (Below W.heap.size W wr) := hbr
    have hs6 := HS.out.below hbr
    obtain ⟨x0, x1, x2, x3, x4, x5⟩ := hs6
    simp only at x0 x1 x2 x3 x4 x5
    by_cases hlt : k < cs.length
    · have hki : (k : Int) < (cs.length : Int) := by omega
      obtain ⟨cb, off, rfl, hb2, hcb⟩ := (HX.out.below hbr).at hlt
      have HIN : Hid _ := @sumV_in (curP x) Cs.bk cs k hlt
      have HOUT : Hid _ := @sumV_out (curP x) Cs.bk cs k hlt
      obtain ⟨⟨iss, acq, cur, am, st, rsn, cl, bk, fee, cop, sta, due⟩, hc⟩ : ∃ f, csAt cs k = f := ⟨_, rfl⟩
      rw [hc] at hcb HIN HOUT
      obtain ⟨y0, y1, y2, y3, y4, y5, y6, y7, y8, y9, y10, y11⟩ := hcb
      simp only at y0 y1 y2 y3 y4 y5 y6 y7 y8 y9 y10 y11
      obtain ⟨S, hS⟩ : ∃ S, sumV (curP x) Cs.bk (cs.take k) = S := ⟨_, rfl⟩
      rw [hS] at HIN HOUT ⊢
      clear hc hS hbr hb2
      by_cases h1 : cur = x
      · have h1' : (cur == x) = true := by simpa using h1
        have HV : Hid _ := HIN.out h1'
        obtain ⟨T, hT⟩ : ∃ T, IntKind.i64.wrap (S + bk) = T := ⟨_, rfl⟩
        have HV2 : Hid (sumV (curP x) Cs.bk (cs.take (k + 1)) = T) := HV.out.trans hT
        clear HIN HOUT h1 HV
        go_wp2
        go_roundw
        case rel => exact ⟨k + 1, by omega, by go_num, by rw [HV2.out], HBR.out⟩
        case measure => simp [intOf]; omega
      · have h1' : (cur == x) = false := by simpa using h1
        have HV : Hid _ := HOUT.out h1'
        clear HIN HOUT h1
        go_wp2
        go_roundw
        case rel => exact ⟨k + 1, by omega, by go_num, by rw [HV.out], HBR.out⟩
        case measure => simp [intOf]; omega
    · have hke : k = cs.length := by omega
      subst hke
      have hki : ¬ (cs.length : Int) < (cs.length : Int) := by omega
      rw [List.take_length]
      obtain ⟨S, hS⟩ : ∃ S, sumV (curP x) Cs.bk cs = S := ⟨_, rfl⟩
      rw [hS]
      have HV : Hid _ := hS
      have HBB : Hid (Below w.heap.size w wr) := next HBW.out HBR.out
      clear hS hbr HBR
      go_wp2
      go_ret
      exact ⟨one_int HV.out.symm, HBB.out⟩
set_option maxHeartbeats 6400000 in
theorem sOpen_any (b : Bk) (p : Bp) (x : Int) (w : World) (hx : BookAt w b p) (hn : bkSm b) :
    Calls Try.prog 17 #[bkv b p, .int .i64 x] w fun e w' => e = .returned (.int .i64 (sumV (fun c => curP x c && opP c) Cs.cl b.cs)) ∧ Below w.heap.size w w' := by
  obtain ⟨W, hW⟩ : ∃ W, W = w.alloc (.cells #[.int .i64 b.today, .slice p.o b.off.length p.oc, .slice p.a b.az.length p.ac, .slice p.c b.cs.length p.cc, .slice p.l b.ls.length p.lc, .slice p.g b.log.length p.gc] 39) := ⟨_, rfl⟩
  have bW : Below w.heap.size w W := by rw [hW]; exact (Below.refl _ _).alloc (Nat.le_refl _) _
  have s6 : S6 w.heap.size b p W := by rw [hW]; exact S6.new w b p _
  have HX : Hid (CasesAt W p.c b.cs) := hx.cs.below bW
  have hcn := hn.2.2.1
  have HW : Hid _ := hW
  have HBW : Hid (Below w.heap.size w W) := bW
  clear hx hn hW bW
  obtain ⟨td, fo, az, cs, ls, lg⟩ := b
  obtain ⟨o, oc, a, ac, c, cc, l, lc, g, gc⟩ := p
  unfold bkv
  simp only at HW HX hcn s6 ⊢
  have HS : Hid _ := s6
  clear s6
  go_enter Try.func17, Try.ntmps17
  go_upto_region 2 with fail
  rw [← HW.out]
  clear HW
  go_wp2_with fail
  go_loopw [5, 6] (fun s i wr => ∃ k : Nat, k ≤ cs.length ∧ i = .int .i64 (k : Int) ∧ s = .int .i64 (sumV (fun c => curP x c && opP c) Cs.cl (cs.take k)) ∧ Below W.heap.size W wr) (fun _ i _ => cs.length - (intOf i).toNat)
  case atStart => exact ⟨0, Nat.zero_le _, rfl, rfl, Below.refl _ _⟩
  case round =>
    obtain ⟨k, hk, rfl, rfl, hbr⟩ := hrel
    have HBR : Hid (Below W.heap.size W wr) := hbr
    have hs6 := HS.out.below hbr
    obtain ⟨x0, x1, x2, x3, x4, x5⟩ := hs6
    simp only at x0 x1 x2 x3 x4 x5
    by_cases hlt : k < cs.length
    · have hki : (k : Int) < (cs.length : Int) := by omega
      obtain ⟨cb, off, rfl, hb2, hcb⟩ := (HX.out.below hbr).at hlt
      have HIN : Hid _ := @sumV_in (fun c => curP x c && opP c) Cs.cl cs k hlt
      have HOUT : Hid _ := @sumV_out (fun c => curP x c && opP c) Cs.cl cs k hlt
      obtain ⟨⟨iss, acq, cur, am, st, rsn, cl, bk, fee, cop, sta, due⟩, hc⟩ : ∃ f, csAt cs k = f := ⟨_, rfl⟩
      rw [hc] at hcb HIN HOUT
      obtain ⟨y0, y1, y2, y3, y4, y5, y6, y7, y8, y9, y10, y11⟩ := hcb
      simp only at y0 y1 y2 y3 y4 y5 y6 y7 y8 y9 y10 y11
      obtain ⟨S, hS⟩ : ∃ S, sumV (fun c => curP x c && opP c) Cs.cl (cs.take k) = S := ⟨_, rfl⟩
      rw [hS] at HIN HOUT ⊢
      clear hc hS hbr hb2
      by_cases h1 : cur = x
      · have h1' : (cur == x) = true := by simpa using h1
        by_cases h7 : st = 7
        · have h7' : (st != 7) = false := by simpa using h7
          have HV : Hid _ := HOUT.out (by simp [opP, h7])
          clear HIN HOUT h1 h7
          go_wp2
          go_roundw
          case rel => exact ⟨k + 1, by omega, by go_num, by rw [HV.out], HBR.out⟩
          case measure => simp [intOf]; omega
        · have h7' : (st != 7) = true := by simpa using h7
          have HV : Hid _ := HIN.out (by simp [curP, opP, h1', h7])
          obtain ⟨T, hT⟩ : ∃ T, IntKind.i64.wrap (S + cl) = T := ⟨_, rfl⟩
          have HV2 : Hid (sumV (fun c => curP x c && opP c) Cs.cl (cs.take (k + 1)) = T) := HV.out.trans hT
          clear HIN HOUT h1 h7 HV
          go_wp2
          go_roundw
          case rel => exact ⟨k + 1, by omega, by go_num, by rw [HV2.out], HBR.out⟩
          case measure => simp [intOf]; omega
      · have h1' : (cur == x) = false := by simpa using h1
        have HV : Hid _ := HOUT.out (by simp [curP, h1'])
        clear HIN HOUT h1
        go_wp2
        go_roundw
        case rel => exact ⟨k + 1, by omega, by go_num, by rw [HV.out], HBR.out⟩
        case measure => simp [intOf]; omega
    · have hke : k = cs.length := by omega
      subst hke
      have hki : ¬ (cs.length : Int) < (cs.length : Int) := by omega
      rw [List.take_length]
      obtain ⟨S, hS⟩ : ∃ S, sumV (fun c => curP x c && opP c) Cs.cl cs = S := ⟨_, rfl⟩
      rw [hS]
      have HV : Hid _ := hS
      have HBB : Hid (Below w.heap.size w wr) := next HBW.out HBR.out
      clear hS hbr HBR
      go_wp2
      go_ret
      exact ⟨one_int HV.out.symm, HBB.out⟩
set_option maxHeartbeats 6400000 in
theorem sExpected_any (b : Bk) (p : Bp) (av : Int) (x : Int) (w : World) (hx : BookAt w b p) (hn : bkSm b) :
    Calls Try.prog 10 #[bkv b p, .int .i64 av, .int .i64 x] w fun e w' => e = .returned (.int .i64 (sumV (curP x) (balV av) b.cs)) ∧ Below w.heap.size w w' := by
  obtain ⟨W, hW⟩ : ∃ W, W = w.alloc (.cells #[.int .i64 b.today, .slice p.o b.off.length p.oc, .slice p.a b.az.length p.ac, .slice p.c b.cs.length p.cc, .slice p.l b.ls.length p.lc, .slice p.g b.log.length p.gc] 39) := ⟨_, rfl⟩
  have bW : Below w.heap.size w W := by rw [hW]; exact (Below.refl _ _).alloc (Nat.le_refl _) _
  have s6 : S6 w.heap.size b p W := by rw [hW]; exact S6.new w b p _
  have HX : Hid (CasesAt W p.c b.cs) := hx.cs.below bW
  have hcn := hn.2.2.1
  have HW : Hid _ := hW
  have HBW : Hid (Below w.heap.size w W) := bW
  clear hx hn hW bW
  obtain ⟨td, fo, az, cs, ls, lg⟩ := b
  obtain ⟨o, oc, a, ac, c, cc, l, lc, g, gc⟩ := p
  unfold bkv
  simp only at HW HX hcn s6 ⊢
  have HS : Hid _ := s6
  clear s6
  go_enter Try.func10, Try.ntmps10
  go_upto_region 2 with fail
  rw [← HW.out]
  clear HW
  go_wp2_with fail
  go_loopw [7, 8] (fun s i wr => ∃ k : Nat, k ≤ cs.length ∧ i = .int .i64 (k : Int) ∧ s = .int .i64 (sumV (curP x) (balV av) (cs.take k)) ∧ Below W.heap.size W wr) (fun _ i _ => cs.length - (intOf i).toNat)
  case atStart => exact ⟨0, Nat.zero_le _, rfl, rfl, Below.refl _ _⟩
  case round =>
    obtain ⟨k, hk, rfl, rfl, hbr⟩ := hrel
    have HBR : Hid (Below W.heap.size W wr) := hbr
    have hs6 := HS.out.below hbr
    obtain ⟨x0, x1, x2, x3, x4, x5⟩ := hs6
    simp only at x0 x1 x2 x3 x4 x5
    by_cases hlt : k < cs.length
    · have hki : (k : Int) < (cs.length : Int) := by omega
      obtain ⟨cb, off, rfl, hb2, hcb⟩ := (HX.out.below hbr).at hlt
      have HIN : Hid _ := @expIn x av cs k hlt
      have HOUT : Hid _ := @sumV_out (curP x) (balV av) cs k hlt
      obtain ⟨⟨iss, acq, cur, am, st, rsn, cl, bk, fee, cop, sta, due⟩, hc⟩ : ∃ f, csAt cs k = f := ⟨_, rfl⟩
      rw [hc] at hcb HIN HOUT
      obtain ⟨y0, y1, y2, y3, y4, y5, y6, y7, y8, y9, y10, y11⟩ := hcb
      simp only at y0 y1 y2 y3 y4 y5 y6 y7 y8 y9 y10 y11
      obtain ⟨S, hS⟩ : ∃ S, sumV (curP x) (balV av) (cs.take k) = S := ⟨_, rfl⟩
      rw [hS] at HIN HOUT ⊢
      clear hc hS hbr hb2
      have HN : Hid (∀ u, Calls Try.prog 30 #[cv ⟨iss, acq, cur, am, st, rsn, cl, bk, fee, cop, sta, due⟩] u fun e w' => e = .returned (.int .i64 (netC ⟨iss, acq, cur, am, st, rsn, cl, bk, fee, cop, sta, due⟩)) ∧ Below u.heap.size u w') := fun u => sNet_any ⟨iss, acq, cur, am, st, rsn, cl, bk, fee, cop, sta, due⟩ u
      obtain ⟨U, hU⟩ : ∃ U, U = wr.alloc (.cells #[.int .i64 iss, .int .i64 acq, .int .i64 cur, .int .i64 am, .int .i64 st, .int .i64 rsn, .int .i64 cl, .int .i64 bk, .int .i64 fee, .bool cop, .int .i64 sta, .int .i64 due] 57) := ⟨_, rfl⟩
      have bU : Below wr.heap.size wr U := by rw [hU]; exact (Below.refl _ _).alloc (Nat.le_refl _) _
      have hcU : CB wr.heap.size 0 ⟨iss, acq, cur, am, st, rsn, cl, bk, fee, cop, sta, due⟩ U := by rw [hU]; exact CB.new wr ⟨iss, acq, cur, am, st, rsn, cl, bk, fee, cop, sta, due⟩ _
      have HBU : Hid (Below W.heap.size W U) := next HBR.out bU
      have HC : Hid (CB wr.heap.size 0 ⟨iss, acq, cur, am, st, rsn, cl, bk, fee, cop, sta, due⟩ U) := hcU
      go_upto_region 6 with fail
      rw [← hU]
      clear hU bU HBR y0 y1 y2 y3 y4 y5 y6 y7 y8 y9 y10 y11 x0 x1 x2 x3 x4 x5
      obtain ⟨z0, z1, z2, z3, z4, z5, z6, z7, z8, z9, z10, z11⟩ := hcU
      simp only [Nat.zero_add] at z0 z1 z2 z3 z4 z5 z6 z7 z8 z9 z10 z11
      cases h1 : (cur == x)
      · have h1' : (cur != x) = true := by simp [bne, h1]
        have HV : Hid _ := HOUT.out h1
        clear HIN HOUT h1 HN HC
        go_wp2
        go_roundw
        case rel => exact ⟨k + 1, by omega, by go_num, by rw [HV.out], HBU.out⟩
        case measure => simp [intOf]; omega
      · have h1' : (cur != x) = false := by simp [bne, h1]
        have HV : Hid _ := (HIN.out h1).trans expV_at
        obtain ⟨n, hn⟩ : ∃ n, netC ⟨iss, acq, cur, am, st, rsn, cl, bk, fee, cop, sta, due⟩ = n := ⟨_, rfl⟩
        rw [hn] at HN HV
        obtain ⟨V, hVV⟩ : ∃ V, sumV (curP x) (balV av) (cs.take (k + 1)) = V := ⟨_, rfl⟩
        have HVV : Hid _ := hVV
        rw [hVV] at HV
        unfold cv at HN
        simp only at HN HV
        clear HIN HOUT h1 hn hVV
        cases h1 : (iss == av)
        · rw [h1] at HV
          cases h2 : (acq == av)
          · rw [h2] at HV
            cases h3 : (av == 9999)
            · rw [h3] at HV
              have HR : Hid _ := HV.out
              simp only [Bool.false_eq_true, if_false] at HR
              clear HV
              go_wp2
              go_roundw
              case rel => exact ⟨k + 1, by omega, by go_num, by rw [HVV.out]; exact one_intV (by first | exact HR.out.symm | simpa using HR.out.symm), HBU.out⟩
              case measure => simp [intOf]; omega
            · rw [h3] at HV
              have HR : Hid _ := HV.out
              simp only [Bool.false_eq_true, if_false, if_true] at HR
              clear HV
              go_wp2
              go_roundw
              case rel => exact ⟨k + 1, by omega, by go_num, by rw [HVV.out]; exact one_intV (by first | exact HR.out.symm | simpa using HR.out.symm), HBU.out⟩
              case measure => simp [intOf]; omega
          · rw [h2] at HV
            go_wp2_with fail
            refine (HN.out _).mono ?_
            rintro e w2 ⟨rfl, b2⟩
            have HB2 : Hid (Below W.heap.size W w2) := next HBU.out b2
            replace HC : Hid (CB wr.heap.size 0 ⟨iss, acq, cur, am, st, rsn, cl, bk, fee, cop, sta, due⟩ w2) := HC.out.below b2
            clear b2 z0 z1 z2 z3 z4 z5 z6 z7 z8 z9 z10 z11
            obtain ⟨z0, z1, z2, z3, z4, z5, z6, z7, z8, z9, z10, z11⟩ := HC.out
            simp only [Nat.zero_add] at z0 z1 z2 z3 z4 z5 z6 z7 z8 z9 z10 z11
            cases h3 : (av == 9999)
            · rw [h3] at HV
              have HR : Hid _ := HV.out
              simp only [Bool.false_eq_true, if_false, if_true] at HR
              clear HV
              go_wp2
              go_roundw
              case rel => exact ⟨k + 1, by omega, by go_num, by rw [HVV.out]; exact one_intV (by first | exact HR.out.symm | simpa using HR.out.symm), HB2.out⟩
              case measure => simp [intOf]; omega
            · rw [h3] at HV
              have HR : Hid _ := HV.out
              simp only [Bool.false_eq_true, if_false, if_true] at HR
              clear HV
              go_wp2
              go_roundw
              case rel => exact ⟨k + 1, by omega, by go_num, by rw [HVV.out]; exact one_intV (by first | exact HR.out.symm | simpa using HR.out.symm), HB2.out⟩
              case measure => simp [intOf]; omega
        · rw [h1] at HV
          go_wp2_with fail
          refine (HN.out _).mono ?_
          rintro e w1 ⟨rfl, b1⟩
          have HB1 : Hid (Below W.heap.size W w1) := next HBU.out b1
          replace HC : Hid (CB wr.heap.size 0 ⟨iss, acq, cur, am, st, rsn, cl, bk, fee, cop, sta, due⟩ w1) := HC.out.below b1
          clear b1 z0 z1 z2 z3 z4 z5 z6 z7 z8 z9 z10 z11
          obtain ⟨z0, z1, z2, z3, z4, z5, z6, z7, z8, z9, z10, z11⟩ := HC.out
          simp only [Nat.zero_add] at z0 z1 z2 z3 z4 z5 z6 z7 z8 z9 z10 z11
          cases h2 : (acq == av)
          · rw [h2] at HV
            cases h3 : (av == 9999)
            · rw [h3] at HV
              have HR : Hid _ := HV.out
              simp only [Bool.false_eq_true, if_false, if_true] at HR
              clear HV
              go_wp2
              go_roundw
              case rel => exact ⟨k + 1, by omega, by go_num, by rw [HVV.out]; exact one_intV (by first | exact HR.out.symm | simpa using HR.out.symm), HB1.out⟩
              case measure => simp [intOf]; omega
            · rw [h3] at HV
              have HR : Hid _ := HV.out
              simp only [Bool.false_eq_true, if_false, if_true] at HR
              clear HV
              go_wp2
              go_roundw
              case rel => exact ⟨k + 1, by omega, by go_num, by rw [HVV.out]; exact one_intV (by first | exact HR.out.symm | simpa using HR.out.symm), HB1.out⟩
              case measure => simp [intOf]; omega
          · rw [h2] at HV
            go_wp2_with fail
            refine (HN.out _).mono ?_
            rintro e w2 ⟨rfl, b2⟩
            have HB2 : Hid (Below W.heap.size W w2) := next HB1.out b2
            replace HC : Hid (CB wr.heap.size 0 ⟨iss, acq, cur, am, st, rsn, cl, bk, fee, cop, sta, due⟩ w2) := HC.out.below b2
            clear b2 z0 z1 z2 z3 z4 z5 z6 z7 z8 z9 z10 z11
            obtain ⟨z0, z1, z2, z3, z4, z5, z6, z7, z8, z9, z10, z11⟩ := HC.out
            simp only [Nat.zero_add] at z0 z1 z2 z3 z4 z5 z6 z7 z8 z9 z10 z11
            cases h3 : (av == 9999)
            · rw [h3] at HV
              have HR : Hid _ := HV.out
              simp only [Bool.false_eq_true, if_false, if_true] at HR
              clear HV
              go_wp2
              go_roundw
              case rel => exact ⟨k + 1, by omega, by go_num, by rw [HVV.out]; exact one_intV (by first | exact HR.out.symm | simpa using HR.out.symm), HB2.out⟩
              case measure => simp [intOf]; omega
            · rw [h3] at HV
              have HR : Hid _ := HV.out
              simp only [if_true] at HR
              clear HV
              go_wp2
              go_roundw
              case rel => exact ⟨k + 1, by omega, by go_num, by rw [HVV.out]; exact one_intV (by first | exact HR.out.symm | simpa using HR.out.symm), HB2.out⟩
              case measure => simp [intOf]; omega
    · have hke : k = cs.length := by omega
      subst hke
      have hki : ¬ (cs.length : Int) < (cs.length : Int) := by omega
      rw [List.take_length]
      obtain ⟨S, hS⟩ : ∃ S, sumV (curP x) (balV av) cs = S := ⟨_, rfl⟩
      rw [hS]
      have HV : Hid _ := hS
      have HBB : Hid (Below w.heap.size w wr) := next HBW.out HBR.out
      clear hS hbr HBR
      go_wp2
      go_ret
      exact ⟨one_int HV.out.symm, HBB.out⟩

end Go.Proofs.Ytkdodamdjajbiaa
