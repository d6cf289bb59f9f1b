/- The contracts of Expected, Open and Given: the program's. -/
import Derived.Test.YtkdodamdjajbiaaRpSumI
namespace Go.Proofs.Ytkdodamdjajbiaa
open Go.RowKit
set_option maxRecDepth 100000

theorem one_C (c : Cs) : ∀ u ∈ (ccs c).toList, u.oneCell' = true := by
  have h := cscells_one [c]
  simpa [cscells] using h
set_option maxHeartbeats 800000 in
theorem isOpen_any (c : Cs) (w : World) : Calls Try.prog 47 #[cv c] w fun e w' => e = .returned (.bool (opP c)) ∧ Below w.heap.size w w' := by
  obtain ⟨iss, acq, cur, am, st, rsn, cl, bk, fee, cop, sta, due⟩ := c
  unfold cv
  simp only
  by_cases h : st = 7
  · subst h
    go_enter Try.func47, Try.ntmps47
    go_wp2
    go_ret
    refine ⟨rfl, ?_⟩
    go_grown
  · have h7 : (st != 7) = true := by simpa using h
    have HP : Hid _ := @opP_yes ⟨iss, acq, cur, am, st, rsn, cl, bk, fee, cop, sta, due⟩ (by simpa using h)
    go_enter Try.func47, Try.ntmps47
    go_wp2
    go_ret
    refine ⟨one_bool HP.out.symm, ?_⟩
    go_grown
theorem take_filterC (cs : List Cs) (P : Cs → Bool) (k : Nat) (h : k < cs.length) : (cs.take (k + 1)).filter P = if P (csAt cs k) = true then (cs.take k).filter P ++ [csAt cs k] else (cs.take k).filter P := by
  rw [take_csAt cs k h, List.filter_append]
  cases hp : P (csAt cs k) <;> simp [hp]
theorem keepC_in {P : Cs → Bool} {cs : List Cs} {k : Nat} (h : k < cs.length) (hp : P (csAt cs k) = true) : (cs.take (k + 1)).filter P = (cs.take k).filter P ++ [csAt cs k] := by rw [take_filterC cs P k h, if_pos hp]
theorem keepC_out {P : Cs → Bool} {cs : List Cs} {k : Nat} (h : k < cs.length) (hp : P (csAt cs k) = false) : (cs.take (k + 1)).filter P = (cs.take k).filter P := by rw [take_filterC cs P k h, if_neg (by rw [hp]; decide)]
theorem keepC_le (cs : List Cs) (P : Cs → Bool) (k : Nat) : ((cs.take k).filter P).length ≤ cs.length := Nat.le_trans (List.length_filter_le _ _) (by simp; omega)
theorem own_shapeC {u : World} {base n : Nat} {v : Value} {xs : List Value} (h : u.ownsRow base 57 12 v n xs) : ∃ a k, v = .slice a n k := by
  rcases h.2 with ⟨rfl, rfl⟩ | ⟨g, cap, cur, rfl, -⟩
  · exact ⟨none, 0, rfl⟩
  · exact ⟨_, _, rfl⟩
set_option maxHeartbeats 6400000 in
theorem keepOpen_any (ao : Option Addr) (cap : Nat) (cs : List Cs) (w : World) (hz : CasesAt w ao cs) (hn : cs.length ≤ 1048576) :
    Calls Try.prog 46 #[.slice ao cs.length cap, .func (.func 47) #[] #[]] w fun e w' => ∃ a c, e = .returned (.slice a (cs.filter opP).length c) ∧
      w'.ownsRow w.heap.size 57 12 (.slice a (cs.filter opP).length c) (cs.filter opP).length (cscells (cs.filter opP)) ∧ Below w.heap.size w w' := by
  obtain ⟨i0, hi, hz0, hz1, hz2⟩ := info_parts infoC
  have HX : Hid (CasesAt w ao cs) := hz
  clear hz
  go_enter Try.func46, Try.ntmps46
  go_wp2
  go_loopw [5, 10] (fun s i wr => ∃ (v : Value) (k : Nat), v = s ∧ k ≤ cs.length ∧ i = .int .i64 (k : Int) ∧ wr.ownsRow w.heap.size 57 12 v ((cs.take k).filter opP).length (cscells ((cs.take k).filter opP)) ∧ Below w.heap.size w wr) (fun _ i _ => cs.length - (intOf i).toNat)
  case atStart => exact ⟨_, 0, rfl, Nat.zero_le _, rfl, World.ownsRow_nil _ _ _ _, Below.refl _ _⟩
  case round =>
    obtain ⟨v, k, hvs, hk, rfl, hown, hbr⟩ := hrel
    subst hvs
    have HBR : Hid (Below w.heap.size w wr) := hbr
    have HO : Hid (wr.ownsRow w.heap.size 57 12 v ((cs.take k).filter opP).length (cscells ((cs.take k).filter opP))) := hown
    by_cases hlt : k < cs.length
    · have hki : (k : Int) < (cs.length : Int) := by omega
      obtain ⟨cb, off, rfl, hb2, hcb⟩ := (HX.out.below hbr).at hlt
      have hle := keepC_le cs opP k
      have HIN : Hid _ := @keepC_in opP cs k hlt
      have HOUT : Hid _ := @keepC_out opP cs k hlt
      obtain ⟨⟨iss, acq, cur, am, st, rsn, cl, bk, fee, cop, sta, due⟩, hc⟩ : ∃ f, csAt cs k = f := ⟨_, rfl⟩
      rw [hc] at hcb HIN HOUT
      obtain ⟨y0, y1, y2, y3, y4, y5, y6, y7, y8, y9, y10, y11⟩ := hcb
      simp only at y0 y1 y2 y3 y4 y5 y6 y7 y8 y9 y10 y11
      clear hc hown hbr hb2
      go_upto_region 5 with fail
      obtain ⟨B, hB⟩ : ∃ B, opP ⟨iss, acq, cur, am, st, rsn, cl, bk, fee, cop, sta, due⟩ = B := ⟨_, rfl⟩
      obtain ⟨U, hU⟩ : ∃ U, U = wr.alloc (.cells #[.int .i64 iss, .int .i64 acq, .int .i64 cur, .int .i64 am, .int .i64 st, .int .i64 rsn, .int .i64 cl, .int .i64 bk, .int .i64 fee, .bool cop, .int .i64 sta, .int .i64 due] 57) := ⟨_, rfl⟩
      have bU : Below wr.heap.size wr U := by rw [hU]; exact (Below.refl _ _).alloc (Nat.le_refl _) _
      have hcU : CB wr.heap.size 0 ⟨iss, acq, cur, am, st, rsn, cl, bk, fee, cop, sta, due⟩ U := by rw [hU]; exact CB.new wr ⟨iss, acq, cur, am, st, rsn, cl, bk, fee, cop, sta, due⟩ _
      rw [← hU]
      have HFN : Hid (Calls Try.prog 47 #[.agg #[.int .i64 iss, .int .i64 acq, .int .i64 cur, .int .i64 am, .int .i64 st, .int .i64 rsn, .int .i64 cl, .int .i64 bk, .int .i64 fee, .bool cop, .int .i64 sta, .int .i64 due]] U fun e w' => e = .returned (.bool B) ∧ Below U.heap.size U w') := by rw [Hid, ← hB]; exact isOpen_any ⟨iss, acq, cur, am, st, rsn, cl, bk, fee, cop, sta, due⟩ U
      have HO1 : Hid (U.ownsRow w.heap.size 57 12 v ((cs.take k).filter opP).length (cscells ((cs.take k).filter opP))) := keepL HO.out bU
      have HB1 : Hid (Below w.heap.size w U) := next HBR.out bU
      have HC : Hid (CB wr.heap.size 0 ⟨iss, acq, cur, am, st, rsn, cl, bk, fee, cop, sta, due⟩ U) := hcU
      rw [hB] at HIN HOUT
      clear hU bU HO HBR y0 y1 y2 y3 y4 y5 y6 y7 y8 y9 y10 y11 hB
      obtain ⟨z0, z1, z2, z3, z4, z5, z6, z7, z8, z9, z10, z11⟩ := hcU
      simp only [Nat.zero_add] at z0 z1 z2 z3 z4 z5 z6 z7 z8 z9 z10 z11
      go_wp2_with fail
      refine HFN.out.mono ?_
      rintro e w2 ⟨rfl, b2⟩
      have HO2 : Hid (w2.ownsRow w.heap.size 57 12 v ((cs.take k).filter opP).length (cscells ((cs.take k).filter opP))) := keepL HO1.out b2
      have HB2 : Hid (Below w.heap.size w w2) := next HB1.out b2
      have HSZ : Hid (w.heap.size ≤ w2.heap.size) := HB2.out.size
      have HC2 : Hid (CB wr.heap.size 0 ⟨iss, acq, cur, am, st, rsn, cl, bk, fee, cop, sta, due⟩ w2) := HC.out.below b2
      clear b2 HFN HO1 HB1 HC z0 z1 z2 z3 z4 z5 z6 z7 z8 z9 z10 z11
      cases B
      · have HR5 : Hid (w2.ownsRow w.heap.size 57 12 v ((cs.take (k + 1)).filter opP).length (cscells ((cs.take (k + 1)).filter opP))) := by
          rw [Hid, HOUT.out (by first | rfl | trivial)]; exact HO2.out
        clear HC2
        go_wp2
        go_roundw
        case rel => exact ⟨_, k + 1, rfl, by omega, by go_num, HR5.out, HB2.out⟩
        case measure => simp [intOf]; omega
      · have HLT : Hid (∀ j, v.ownBlock = some j → w.heap.size ≤ j) := fun j hj => (HO2.out.lt j hj).1
        obtain ⟨z0, z1, z2, z3, z4, z5, z6, z7, z8, z9, z10, z11⟩ := HC2.out
        simp only [Nat.zero_add] at z0 z1 z2 z3 z4 z5 z6 z7 z8 z9 z10 z11
        go_wp2_with (at_builtin; refine wpList_append_own _ rfl (.tmp 17) (.tmp 19) 34 rfl w.heap.size 57 i0 _ 12 96 Try.underlying34 hi hz0 hz1 hz2 rfl (by decide) _ _ _ rfl (HO2.out.alloc _) ⟨w2.heap.size, 0, none⟩ 1 1 [.int .i64 iss, .int .i64 acq, .int .i64 cur, .int .i64 am, .int .i64 st, .int .i64 rsn, .int .i64 cl, .int .i64 bk, .int .i64 fee, .bool cop, .int .i64 sta, .int .i64 due] rfl rfl (World.news_of_block (heap_alloc_new w2 _)) (one_C ⟨iss, acq, cur, am, st, rsn, cl, bk, fee, cop, sta, due⟩) (by unfold maxLen; omega) (by omega) (by simp; have := HSZ.out; omega) ?_; intro v5 w5 o5 g5 _)
        have q5 : Below w.heap.size w w5 := (HB2.out.alloc (by have := HSZ.out; omega) _).grown g5 (by have := HSZ.out; simp; omega) HLT.out
        have HR5 : Hid (w5.ownsRow w.heap.size 57 12 v5 ((cs.take (k + 1)).filter opP).length (cscells ((cs.take (k + 1)).filter opP))) := by
          rw [Hid, HIN.out (by first | rfl | trivial), List.length_append, cscells_append]; exact o5
        clear o5 g5 HC2 z0 z1 z2 z3 z4 z5 z6 z7 z8 z9 z10 z11
        go_wp2
        go_roundw
        case rel => exact ⟨_, k + 1, rfl, by omega, by go_num, HR5.out, q5⟩
        case measure => simp [intOf]; omega
    · have hke : k = cs.length := by omega
      subst hke
      have hki : ¬ (cs.length : Int) < (cs.length : Int) := by omega
      rw [List.take_length] at hown HO
      obtain ⟨va, vk, hva⟩ := own_shapeC hown
      subst hva
      clear hbr hown
      go_wp2
      go_ret
      exact ⟨va, vk, rfl, HO.out, HBR.out⟩
set_option maxHeartbeats 1600000 in
theorem iGiven_any (b : Bk) (p : Bp) (x : Int) (w : World) (hx : BookAt w b p) (hn : bkSm b) :
    Calls Try.prog 20 #[bkv b p, .int .i64 x] w fun e w' => e = .returned (.int .i64 (sumV (curP x) Cs.bk b.cs)) ∧ Below w.heap.size w w' := by
  obtain ⟨W, hW⟩ : ∃ W, W = w.alloc (.cells #[.int .i64 b.today, .slice p.o b.off.length p.oc, .slice p.a b.az.length p.ac, .slice p.c b.cs.length p.cc, .slice p.l b.ls.length p.lc, .slice p.g b.log.length p.gc] 39) := ⟨_, rfl⟩
  have bW : Below w.heap.size w W := by rw [hW]; exact (Below.refl _ _).alloc (Nat.le_refl _) _
  have s6 : S6 w.heap.size b p W := by rw [hW]; exact S6.new w b p _
  have HX : Hid (CasesAt W p.c b.cs) := hx.cs.below bW
  have hcn := hn.2.2.1
  have HW : Hid _ := hW
  have HBW : Hid (Below w.heap.size w W) := bW
  clear hx hn hW bW
  obtain ⟨td, fo, az, cs, ls, lg⟩ := b
  obtain ⟨o, oc, a, ac, c, cc, l, lc, g, gc⟩ := p
  unfold bkv
  simp only at HW HX hcn s6 ⊢
  obtain ⟨x0, x1, x2, x3, x4, x5⟩ := s6
  simp only at x0 x1 x2 x3 x4 x5
  go_enter Try.func20, Try.ntmps20
  go_upto_region 1 with fail
  rw [← HW.out]
  clear HW
  go_wp2_with fail
  refine (sumOfGiven_any _ _ _ _ _ HX.out hcn).mono ?_
  rintro e w1 ⟨rfl, b1⟩
  have HB1 : Hid (Below w.heap.size w w1) := next HBW.out b1
  clear b1 x0 x1 x2 x3 x4 x5
  go_wp2
  go_ret
  exact ⟨rfl, HB1.out⟩
set_option maxHeartbeats 1600000 in
theorem iOpen_any (b : Bk) (p : Bp) (x : Int) (w : World) (hx : BookAt w b p) (hn : bkSm b) :
    Calls Try.prog 18 #[bkv b p, .int .i64 x] w fun e w' => e = .returned (.int .i64 (sumV (fun c => curP x c && opP c) Cs.cl b.cs)) ∧ Below w.heap.size w w' := by
  obtain ⟨W, hW⟩ : ∃ W, W = w.alloc (.cells #[.int .i64 b.today, .slice p.o b.off.length p.oc, .slice p.a b.az.length p.ac, .slice p.c b.cs.length p.cc, .slice p.l b.ls.length p.lc, .slice p.g b.log.length p.gc] 39) := ⟨_, rfl⟩
  have bW : Below w.heap.size w W := by rw [hW]; exact (Below.refl _ _).alloc (Nat.le_refl _) _
  have s6 : S6 w.heap.size b p W := by rw [hW]; exact S6.new w b p _
  have HX : Hid (CasesAt W p.c b.cs) := hx.cs.below bW
  have hcn := hn.2.2.1
  have HW : Hid _ := hW
  have HBW : Hid (Below w.heap.size w W) := bW
  clear hx hn hW bW
  obtain ⟨td, fo, az, cs, ls, lg⟩ := b
  obtain ⟨o, oc, a, ac, c, cc, l, lc, g, gc⟩ := p
  unfold bkv
  simp only at HW HX hcn s6 ⊢
  obtain ⟨x0, x1, x2, x3, x4, x5⟩ := s6
  simp only at x0 x1 x2 x3 x4 x5
  go_enter Try.func18, Try.ntmps18
  go_upto_region 1 with fail
  rw [← HW.out]
  clear HW
  go_wp2_with fail
  refine (keepOpen_any _ _ _ _ HX.out hcn).mono ?_
  rintro e w1 ⟨a1, k1, rfl, o1, b1⟩
  have HB1 : Hid (Below w.heap.size w w1) := next HBW.out b1
  have HC1 : Hid (CasesAt w1 a1 (cs.filter opP)) := cases_own o1
  have HL : Hid ((cs.filter opP).length ≤ 1048576) := Nat.le_trans (List.length_filter_le _ _) hcn
  clear b1 o1 x0 x1 x2 x3 x4 x5
  go_wp2_with fail
  refine (sumOfOpen_any _ _ _ _ _ HC1.out HL.out).mono ?_
  rintro e w2 ⟨rfl, b2⟩
  have HB2 : Hid (Below w.heap.size w w2) := next HB1.out b2
  rw [sumV_filter]
  clear b2
  go_wp2
  go_ret
  exact ⟨rfl, HB2.out⟩
set_option maxHeartbeats 1600000 in
theorem iExpected_any (b : Bk) (p : Bp) (av x : Int) (w : World) (hx : BookAt w b p) (hn : bkSm b) :
    Calls Try.prog 12 #[bkv b p, .int .i64 av, .int .i64 x] w fun e w' => e = .returned (.int .i64 (sumV (curP x) (balV av) b.cs)) ∧ Below w.heap.size w w' := by
  obtain ⟨W, hW⟩ : ∃ W, W = (w.alloc (.cells #[.int .i64 b.today, .slice p.o b.off.length p.oc, .slice p.a b.az.length p.ac, .slice p.c b.cs.length p.cc, .slice p.l b.ls.length p.lc, .slice p.g b.log.length p.gc] 39)).alloc (.cells #[.int .i64 av] 3) := ⟨_, rfl⟩
  have bW : Below w.heap.size w W := by rw [hW]; go_grown
  have s6 : S6 w.heap.size b p W := by rw [hW]; exact (S6.new w b p _).below ((Below.refl _ _).alloc (Nat.le_refl _) _)
  have HCL : Hid (W.cell? ⟨w.heap.size + 1, 0, none⟩ = some (.int .i64 av)) := by rw [Hid, hW]; simp
  have HX : Hid (CasesAt W p.c b.cs) := hx.cs.below bW
  have hcn := hn.2.2.1
  have HW : Hid _ := hW
  have HBW : Hid (Below w.heap.size w W) := bW
  clear hx hn hW bW
  obtain ⟨td, fo, az, cs, ls, lg⟩ := b
  obtain ⟨o, oc, a, ac, c, cc, l, lc, g, gc⟩ := p
  unfold bkv
  simp only at HW HX hcn s6 ⊢
  obtain ⟨x0, x1, x2, x3, x4, x5⟩ := s6
  simp only at x0 x1 x2 x3 x4 x5
  go_enter Try.func12, Try.ntmps12
  go_upto_region 1 with fail
  rw [← HW.out]
  clear HW
  go_wp2_with fail
  refine (sumOfExpected_any _ _ _ _ _ _ _ HX.out hcn HCL.out).mono ?_
  rintro e w1 ⟨rfl, b1⟩
  have HB1 : Hid (Below w.heap.size w w1) := next HBW.out b1
  clear b1 x0 x1 x2 x3 x4 x5
  go_wp2
  go_ret
  exact ⟨rfl, HB1.out⟩

end Go.Proofs.Ytkdodamdjajbiaa
