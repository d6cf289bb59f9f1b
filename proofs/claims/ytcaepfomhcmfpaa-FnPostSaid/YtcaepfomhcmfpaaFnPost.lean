/- Proved: whatever the bytes of the draw, the program's Post answers as the specification's at what is drawn; what is posted leaves the books even, moves just its amount between its two accounts, and is undone by its back; what is refused stays as it was. What it takes: the draw's bytes, of whatever number (beyond 1048576 the law passes by its own first test). No other conditions. -/
import Derived.Test.YtcaepfomhcmfpaaBase
import Derived.Test.YtcaepfomhcmfpaaDrawPo
import Derived.Test.YtcaepfomhcmfpaaPostQ
import Derived.Test.YtcaepfomhcmfpaaOver
import Derived.Test.YtcaepfomhcmfpaaFLed2
namespace Go.Proofs.Ytcaepfomhcmfpaa.fnPost
open Go.ChangeShapes Go.WideShapes Go.ChangeAt Go.RowKit
set_option maxRecDepth 100000

/-- what stands while the law goes on: the ledger and the entry that were drawn, and the ledger that came out -/
structure FP (b3 b4 b5 : Nat) (ao : Option Addr) (k : Nat) (ls : List Ln) (a b c m : Int) (a5 : Option Addr) (k5 : Nat) (L : List Ln) (u : World) : Prop where
  l0 : u.cell? ⟨b3, 0, none⟩ = some (.slice ao ls.length k)
  e0 : u.cell? ⟨b4, 0, none⟩ = some (.int .i64 a)
  e1 : u.cell? ⟨b4, 1, none⟩ = some (.int .i64 b)
  e2 : u.cell? ⟨b4, 2, none⟩ = some (.int .i64 c)
  e3 : u.cell? ⟨b4, 3, none⟩ = some (.int .i64 m)
  c5 : u.cell? ⟨b5, 0, none⟩ = some (.slice a5 L.length k5)
  ll : LinesAt u ao ls
  lm : LinesAt u a5 L
theorem kc {u u' : World} {a : Addr} {v : Value} (h : u.cell? a = some v) (hb : Below u.heap.size u u') : u'.cell? a = some v := (hb.cell (p := a) (World.block_lt_of_cell? u _ h)).trans h
theorem FP.below {b3 b4 b5 : Nat} {ao : Option Addr} {k : Nat} {ls : List Ln} {a b c m : Int} {a5 : Option Addr} {k5 : Nat} {L : List Ln} {u u' : World} (h : FP b3 b4 b5 ao k ls a b c m a5 k5 L u) (hb : Below u.heap.size u u') : FP b3 b4 b5 ao k ls a b c m a5 k5 L u' :=
  ⟨kc h.l0 hb, kc h.e0 hb, kc h.e1 hb, kc h.e2 hb, kc h.e3 hb, kc h.c5 hb, h.ll.below hb, h.lm.below hb⟩
theorem zBack {W u : World} {ob : Option Nat} {K : World → Prop} {a b c m : Int} (z : ZB W u ob K) :
    Calls Try.prog 22 #[.agg #[.int .i64 a, .int .i64 b, .int .i64 c, .int .i64 m]] u fun e u' => e = .returned (.agg #[.int .i64 b, .int .i64 a, .int .i64 c, .int .i64 m]) ∧ ZB W u' ob K :=
  (iBack_any a b c m u).mono fun _ _ ⟨he, hb⟩ => ⟨he, z.call hb⟩
def cur3 (j : Nat) : Int := [840, 978, 392].getD j 0
set_option maxHeartbeats 400000 in
theorem curs_any (w : World) : Calls Try.prog 20 #[] w fun e w' => e = .returned (.slice (some ⟨w.heap.size, 0, none⟩) 3 3) ∧ (∀ j, j < 3 → w'.cell? ⟨w.heap.size, j, none⟩ = some (.int .i64 (cur3 j))) ∧ Below w.heap.size w w' := by
  go_enter Try.func20, Try.ntmps20
  go_wp2
  go_ret
  refine ⟨rfl, fun j hj => ?_, by go_grown⟩
  rcases (show j = 0 ∨ j = 1 ∨ j = 2 by omega) with rfl | rfl | rfl <;> simp [cur3]
theorem s5 {b3 b4 b5 : Nat} {ao : Option Addr} {k : Nat} {ls : List Ln} {a b c m : Int} {a5 : Option Addr} {k5 : Nat} {L : List Ln} {V u : World} (h : FP b3 b4 b5 ao k ls a b c m a5 k5 L V) (hb : Below V.heap.size V u) : u.cell? ⟨b5, 0, none⟩ = some (.slice a5 L.length k5) ∧ u.cell? ⟨b4, 0, none⟩ = some (.int .i64 a) ∧ u.cell? ⟨b4, 1, none⟩ = some (.int .i64 b) ∧ u.cell? ⟨b4, 2, none⟩ = some (.int .i64 c) ∧ u.cell? ⟨b4, 3, none⟩ = some (.int .i64 m) :=
  ⟨(h.below hb).c5, (h.below hb).e0, (h.below hb).e1, (h.below hb).e2, (h.below hb).e3⟩

set_option maxHeartbeats 12800000 in
theorem walk (ra : Option Addr) (len cap : Nat) (zs : List Int) (w : World) (hr : IsRow .u8 w ra len cap zs) :
    Calls Try.prog 3 #[.slice ra len cap] w fun e w' => e = .returned (.bool true) ∧ Below w.heap.size w w' := by
  by_cases hbig : (1048576 : Int) < (len : Int)
  · have hdec : decide ((1048576 : Int) < (len : Int)) = true := decide_eq_true hbig
    go_enter Try.func3, Try.ntmps3
    go_wp2_with fail
    refine (big_any _ _ _ _).mono ?_
    rintro e w1 ⟨rfl, hw1⟩
    rw [hw1, hdec]
    clear hw1
    go_wp2
    go_ret
    exact ⟨rfl, Below.refl _ _⟩
  have hn : len ≤ 1048576 := by omega
  have hdec : decide ((1048576 : Int) < (len : Int)) = false := decide_eq_false hbig
  go_enter Try.func3, Try.ntmps3
  go_wp2_with fail
  refine (big_any _ _ _ _).mono ?_
  rintro e w1 ⟨rfl, hw1⟩
  rw [hw1, hdec]
  clear hw1 w1 hdec hbig
  go_wp2_with fail
  refine (drawPost_any _ _ _ _ _ hr hn).mono ?_
  rintro e u1 ⟨ao, k, ls, a, b, c, m, rfl, hd, hsm, hl, q1⟩
  have HD : Hid (LnD ls) := hd
  have HEB : Hid (enBd (a, b, c, m)) := enSm_bd hsm
  have hdl := hd.1
  obtain ⟨U, hU⟩ : ∃ U, U = (u1.alloc (.cells #[.slice ao ls.length k] 26)).alloc (.cells #[.int .i64 a, .int .i64 b, .int .i64 c, .int .i64 m] 28) := ⟨_, rfl⟩
  have bU : Below u1.heap.size u1 U := by rw [hU]; go_grown
  have l0 : U.cell? ⟨u1.heap.size, 0, none⟩ = some (.slice ao ls.length k) := by rw [hU]; simp [go_sem]
  have e0 : U.cell? ⟨u1.heap.size + 1, 0, none⟩ = some (.int .i64 a) := by rw [hU]; simp [go_sem]
  have e1 : U.cell? ⟨u1.heap.size + 1, 1, none⟩ = some (.int .i64 b) := by rw [hU]; simp [go_sem]
  have e2 : U.cell? ⟨u1.heap.size + 1, 2, none⟩ = some (.int .i64 c) := by rw [hU]; simp [go_sem]
  have e3 : U.cell? ⟨u1.heap.size + 1, 3, none⟩ = some (.int .i64 m) := by rw [hU]; simp [go_sem]
  have qU := next q1 bU
  have HLU : Hid (LinesAt U ao ls) := hl.below bU
  obtain ⟨b3, hb3⟩ : ∃ x, x = u1.heap.size := ⟨_, rfl⟩
  obtain ⟨b4, hb4⟩ : ∃ x, x = u1.heap.size + 1 := ⟨_, rfl⟩
  rw [← hb3] at l0
  rw [← hb4] at e0 e1 e2 e3
  clear hd hsm hl q1 bU hr
  go_upto_region 4 with fail
  rw [← hU, ← hb4, ← hb3]
  clear hU hb3 hb4
  obtain ⟨L, hLE⟩ : ∃ L, postL ls (a, b, c, m) = L := ⟨_, rfl⟩
  obtain ⟨ok, hOE⟩ : ∃ ok, postOk ls (a, b, c, m) = ok := ⟨_, rfl⟩
  have HLE : Hid (postL ls (a, b, c, m) = L) := hLE
  have HOE : Hid (postOk ls (a, b, c, m) = ok) := hOE
  have HLD : Hid (LnD L) := by rw [← hLE]; exact post_lnD HD.out
  have HIP : Hid (Calls Try.prog 13 #[.agg #[.slice ao ls.length k], .agg #[.int .i64 a, .int .i64 b, .int .i64 c, .int .i64 m]] U (PostR U L ok)) := by
    have h := iPost_any ao k ls a b c m U HLU.out (by omega) HD.out.2 HEB.out
    rw [hLE, hOE] at h; exact h
  have HSP : Hid (∀ u, LinesAt u ao ls → Calls Try.prog 14 #[.agg #[.slice ao ls.length k], .agg #[.int .i64 a, .int .i64 b, .int .i64 c, .int .i64 m]] u (PostR u L ok)) := fun u h => by
    have h := sPost_any ao k ls a b c m u h (by omega)
    rw [hLE, hOE] at h; exact h
  have hLl := HLD.out.1
  clear hLE hOE
  go_wp2_with fail
  refine HIP.out.mono ?_
  rintro e u2 ⟨a5, k5, rfl, o2, b2⟩
  obtain ⟨X2, hX⟩ : ∃ V, V = u2.alloc (.cells #[.slice a5 L.length k5] 26) := ⟨_, rfl⟩
  have bX : Below u2.heap.size u2 X2 := by rw [hX]; go_grown
  have c5 : X2.cell? ⟨u2.heap.size, 0, none⟩ = some (.slice a5 L.length k5) := by rw [hX]; simp
  obtain ⟨b5, hb5⟩ : ∃ x, x = u2.heap.size := ⟨_, rfl⟩
  rw [← hb5] at c5
  have HF2 : Hid (FP b3 b4 b5 ao k ls a b c m a5 k5 L X2) := ⟨kc (kc l0 b2) bX, kc (kc e0 b2) bX, kc (kc e1 b2) bX, kc (kc e2 b2) bX, kc (kc e3 b2) bX, c5, (HLU.out.below b2).below bX, (lines_any o2).below bX⟩
  have q2 := next (next qU b2) bX
  clear o2 b2 bX l0 e0 e1 e2 e3 c5 qU HIP HLU
  go_upto_region 5 with fail
  rw [← hX, ← hb5]
  clear hX hb5
  obtain ⟨l0, e0, e1, e2, e3, _, _, _⟩ := HF2.out
  go_wp2_with fail
  refine (HSP.out _ HF2.out.ll).mono ?_
  rintro e u3 ⟨a7, k7, rfl, o3, b3'⟩
  obtain ⟨V, hV⟩ : ∃ V, V = u3.alloc (.cells #[.slice a7 L.length k7] 26) := ⟨_, rfl⟩
  have bV : Below u3.heap.size u3 V := by rw [hV]; go_grown
  have c7 : V.cell? ⟨u3.heap.size, 0, none⟩ = some (.slice a7 L.length k7) := by rw [hV]; simp
  obtain ⟨b7, hb7⟩ : ∃ x, x = u3.heap.size := ⟨_, rfl⟩
  rw [← hb7] at c7
  have HF : Hid (FP b3 b4 b5 ao k ls a b c m a5 k5 L V) := (HF2.out.below b3').below bV
  have HLW : Hid (LinesAt V a7 L) := (lines_any o3).below bV
  have q3 := next (next q2 b3') bV
  clear o3 b3' bV HF2 q2 l0 e0 e1 e2 e3 HSP
  go_upto_region 6 with fail
  rw [← hV, ← hb7]
  clear hV hb7
  obtain ⟨l0, e0, e1, e2, e3, c5, _, _⟩ := HF.out
  have hne := over_ne V
  have g0 := over_cell l0
  have g1 := over_cell e0
  have g2 := over_cell e1
  have g3 := over_cell e2
  have g4 := over_cell e3
  have g5 := over_cell c5
  have g6 := over_cell c7
  obtain ⟨lk, hlk⟩ : ∃ q, ledgerOk ls = q := ⟨_, rfl⟩
  obtain ⟨ek, hek⟩ : ∃ q, entryOk (a, b, c, m) = q := ⟨_, rfl⟩
  have HSM : Hid (∀ z : Over V, Calls Try.prog 15 #[.agg #[.slice a5 L.length k5], .agg #[.slice a7 L.length k7]] z.x fun e w' => e = .returned (.bool true) ∧ Below z.x.heap.size z.x w') := fun z => sameLedger_same _ _ _ _ _ _ (HF.out.lm.below z.h) (HLW.out.below z.h) (by omega)
  have HIL : Hid (∀ z : Over V, Calls Try.prog 16 #[.agg #[.slice ao ls.length k]] z.x fun e w' => e = .returned (.bool lk) ∧ Below z.x.heap.size z.x w') := fun z => by rw [← hlk]; exact iLedgerOk_any _ _ _ _ (HF.out.ll.below z.h) (by omega) HD.out.2
  have HSL : Hid (∀ z : Over V, Calls Try.prog 17 #[.agg #[.slice ao ls.length k]] z.x fun e w' => e = .returned (.bool lk) ∧ Below z.x.heap.size z.x w') := fun z => by rw [← hlk]; exact sLedgerOk_any _ _ _ _ (HF.out.ll.below z.h) (by omega)
  have HIE : Hid (∀ z : Over V, Calls Try.prog 18 #[.agg #[.int .i64 a, .int .i64 b, .int .i64 c, .int .i64 m]] z.x fun e w' => e = .returned (.bool ek) ∧ Below z.x.heap.size z.x w') := fun z => by rw [← hek]; exact iEntryOk_any _ _ _ _ _ HEB.out.2.2.1
  have HSE : Hid (∀ z : Over V, Calls Try.prog 19 #[.agg #[.int .i64 a, .int .i64 b, .int .i64 c, .int .i64 m]] z.x fun e w' => e = .returned (.bool ek) ∧ Below z.x.heap.size z.x w') := fun z => by rw [← hek]; exact sEntryOk_any _ _ _ _ _
  have hq1 : (ok != ok) = false := by simp
  have hq2 : (lk != lk) = false := by simp
  have hq3 : (ek != ek) = false := by simp
  clear hlk hek
  refine wp_region_over (by kernel_rfl) (by kernel_rfl) ?_
  repeat (go_big_quiet_step (first | exact over_of (HSM.out _) | exact over_of (HIL.out _) | exact over_of (HSL.out _) | exact over_of (HIE.out _) | exact over_of (HSE.out _)))
  refine wpQuiet_nil ?_
  rintro u6 ⟨⟨wz, b6⟩, hu6⟩
  subst hu6
  have HF6 : Hid (FP b3 b4 b5 ao k ls a b c m a5 k5 L u6) := HF.out.below b6
  have q6 := next q3 b6
  clear g0 g1 g2 g3 g4 g5 g6 hne HSM HIL HSL HIE HSE b6 q3 HF HLW l0 e0 e1 e2 e3 c5 c7 hq2 hq3
  cases ok
  · have HLs : Hid (L = ls) := by rw [Hid, ← HLE.out]; exact postL_no HOE.out
    have c5 := HF6.out.c5
    have l0 := HF6.out.l0
    have hl : LinesAt u6 a5 ls := by have := HF6.out.lm; rw [HLs.out] at this; exact this
    rw [HLs.out] at c5
    have hLL : L.length = ls.length := by rw [HLs.out]
    clear hq1
    go_wp2_with fail
    refine (sameLedger_same _ _ _ _ _ _ hl HF6.out.ll (by omega)).mono ?_
    rintro e u7 ⟨rfl, b7'⟩
    have q7 := next q6 b7'
    clear b7'
    go_wp2
    go_ret
    exact ⟨rfl, q7⟩
  · have HLT : Hid (L = postTry ls (a, b, c, m)) := by rw [Hid, ← HLE.out]; exact postL_yes HOE.out
    obtain ⟨⟨p1, p2⟩, p3⟩ := posted_parts HOE.out
    obtain ⟨_, _, hab, _, hm1, hm2⟩ := entryOk_parts p2
    simp only at hab hm1 hm2
    have HGAP : Hid (∀ x cu : Int, ∃ d : Int, IntKind.i64.wrap (balL L x cu - balL ls x cu) = d ∧ (((cu == c) = false ∧ d = 0) ∨ ((cu == c) = true ∧ (x == a) = true ∧ (x == b) = false ∧ d = -m) ∨ ((cu == c) = true ∧ (x == a) = false ∧ (x == b) = true ∧ d = m) ∨ ((cu == c) = true ∧ (x == a) = false ∧ (x == b) = false ∧ d = 0))) := fun x cu => by
      have h1 := post_gap HOE.out x cu
      have h2 := bal_bd p3 x cu
      have h3 := bal_bd p1 x cu
      rw [← HLT.out] at h1 h2
      simp only at h1
      have hw : IntKind.i64.wrap (balL L x cu - balL ls x cu) = balL L x cu - balL ls x cu := by simp [IntKind.wrap, IntKind.bits, IntKind.signed]; omega
      refine ⟨_, hw, ?_⟩
      by_cases hc : cu = c
      · by_cases ha : x = a
        · refine .inr (.inl ⟨by simpa using hc, by simpa using ha, by simp; omega, ?_⟩)
          rw [h1, if_pos ⟨ha, hc⟩, if_neg (fun h => hab (ha.symm.trans h.1))]; omega
        · by_cases hb : x = b
          · refine .inr (.inr (.inl ⟨by simpa using hc, by simpa using ha, by simpa using hb, ?_⟩))
            rw [h1, if_neg (fun h => ha h.1), if_pos ⟨hb, hc⟩]; omega
          · refine .inr (.inr (.inr ⟨by simpa using hc, by simpa using ha, by simpa using hb, ?_⟩))
            rw [h1, if_neg (fun h => ha h.1), if_neg (fun h => hb h.1)]; omega
      · refine .inl ⟨by simpa using hc, ?_⟩
        rw [h1, if_neg (fun h => hc h.2), if_neg (fun h => hc h.2)]; omega
    have hwn : IntKind.i64.wrap (-m) = -m := by simp [IntKind.wrap, IntKind.bits, IntKind.signed]; omega
    have HP3 : Hid (ledgerOk L = true) := by rw [Hid, HLT.out]; exact p3
    have HIP2 : Hid (∀ u, LinesAt u a5 L → Calls Try.prog 13 #[.agg #[.slice a5 L.length k5], .agg #[.int .i64 b, .int .i64 a, .int .i64 c, .int .i64 m]] u (PostR u ls true)) := fun u h => by
      have h4 := iPost_any a5 k5 L b a c m u h (by omega) HLD.out.2 ⟨HEB.out.2.1, HEB.out.1, HEB.out.2.2.1, HEB.out.2.2.2⟩
      have e1 : postL L (b, a, c, m) = ls := by rw [HLT.out]; exact back_posts HOE.out
      have e2 : postOk L (b, a, c, m) = true := by rw [HLT.out]; exact back_ok HOE.out
      rw [e1, e2] at h4; exact h4
    have hnm : ((-m) != (-m)) = false := by simp
    have hmm : (m != m) = false := by simp
    clear p1 p2 p3 hab hm1 hm2 HLT hq1
    go_wp2
    go_loopw [9] (fun i wr => ∃ x : Nat, x ≤ 9 ∧ 1 ≤ x ∧ i = .int .i64 x ∧ Below u6.heap.size u6 wr) (fun i _ => 9 - (intOf i).toNat)
    case atStart => exact ⟨1, by omega, by omega, rfl, Below.refl _ _⟩
    case round =>
      obtain ⟨x, hx9, hx1, rfl, hbr⟩ := hrel
      obtain ⟨X, hXe⟩ : ∃ X, X = wr := ⟨_, rfl⟩
      subst hXe
      have HFX : Hid (FP b3 b4 b5 ao k ls a b c m a5 k5 L X) := HF6.out.below hbr
      have HQX : Hid (Below w.heap.size w X) := next q6 hbr
      have HBR : Hid (Below u6.heap.size u6 X) := hbr
      clear hbr
      by_cases hlt : x ≤ 8
      · have hxi : (x : Int) ≤ 8 := by omega
        go_wp2_with fail
        refine (curs_any _).mono ?_
        rintro e y1 ⟨rfl, hcc, by1⟩
        obtain ⟨G, hG⟩ : ∃ G, G = X.heap.size := ⟨_, rfl⟩
        rw [← hG] at hcc ⊢
        have HCC : Hid (∀ j, j < 3 → y1.cell? ⟨G, j, none⟩ = some (.int .i64 (cur3 j))) := hcc
        have HFY : Hid (FP b3 b4 b5 ao k ls a b c m a5 k5 L y1) := HFX.out.below by1
        have HBY : Hid (Below u6.heap.size u6 y1) := next HBR.out by1
        clear hcc by1 hG
        go_wp2
        go_loopw [69] (fun i wr => ∃ j : Nat, j ≤ 3 ∧ i = .int .i64 j ∧ Below y1.heap.size y1 wr) (fun i _ => 3 - (intOf i).toNat)
        case atStart => exact ⟨0, by omega, rfl, Below.refl _ _⟩
        case round =>
          obtain ⟨j, hj, rfl, hb⟩ := hrel
          by_cases hj3 : j < 3
          · have hji : (j : Int) < 3 := by omega
            have cj := kc (HCC.out j hj3) hb
            obtain ⟨cu, hcu⟩ : ∃ cu, cur3 j = cu := ⟨_, rfl⟩
            rw [hcu] at cj
            have HFW : Hid (FP b3 b4 b5 ao k ls a b c m a5 k5 L wr) := HFY.out.below hb
            have HBB : Hid (Below y1.heap.size y1 wr) := hb
            obtain ⟨d, hd, hdc⟩ := HGAP.out (x : Int) cu
            have HDC : Hid _ := hdc
            obtain ⟨p, hp⟩ : ∃ p, balL L (x : Int) cu = p := ⟨_, rfl⟩
            obtain ⟨q, hq⟩ : ∃ q, balL ls (x : Int) cu = q := ⟨_, rfl⟩
            rw [hp, hq] at hd
            have HIA : Hid (∀ z : Over wr, Calls Try.prog 21 #[.agg #[.slice a5 L.length k5], .int .i64 (x : Int), .int .i64 cu] z.x fun e w' => e = .returned (.int .i64 p) ∧ Below z.x.heap.size z.x w') := fun z => by rw [← hp]; exact iBalanceOf_any _ _ _ _ _ _ (HFW.out.lm.below z.h) (by omega)
            have HIB : Hid (∀ z : Over wr, Calls Try.prog 21 #[.agg #[.slice ao ls.length k], .int .i64 (x : Int), .int .i64 cu] z.x fun e w' => e = .returned (.int .i64 q) ∧ Below z.x.heap.size z.x w') := fun z => by rw [← hq]; exact iBalanceOf_any _ _ _ _ _ _ (HFW.out.ll.below z.h) (by omega)
            have hne := over_ne wr
            have g0 := over_cell HFW.out.l0
            have g1 := over_cell HFW.out.c5
            clear hb hdc hp hq hcu
            go_upto_region 16 with fail
            refine wp_region_over (by kernel_rfl) (by kernel_rfl) ?_
            repeat (go_big_quiet_step (first | with_reducible exact over_of (HIA.out _) | with_reducible exact over_of (HIB.out _)))
            refine wpQuiet_nil ?_
            rintro v6 ⟨⟨wz, b6⟩, hu6⟩
            subst hu6
            have HB3 : Hid (Below y1.heap.size y1 v6) := next HBB.out b6
            obtain ⟨_, e0, e1, e2, e3, _, _, _⟩ := HFW.out.below b6
            have hdc := HDC.out
            clear b6 g0 g1 hne HIA HIB HDC hd cj HFW HBB
            rcases hdc with ⟨t1, rfl⟩ | ⟨t1, t2, t3, rfl⟩ | ⟨t1, t2, t3, rfl⟩ | ⟨t1, t2, t3, rfl⟩
            all_goals
              go_wp2
              go_roundw
              case rel => exact ⟨j + 1, by omega, by go_num, HB3.out⟩
              case measure => simp [intOf]; omega
          · have hji : ¬ (j : Int) < 3 := by omega
            have HBZ : Hid (Below u6.heap.size u6 wr) := next HBY.out hb
            clear hb
            go_wp2
            go_roundw
            case rel => exact ⟨x + 1, by omega, by omega, by go_num, HBZ.out⟩
            case measure => simp [intOf]; omega
      · have hxi : ¬ (x : Int) ≤ 8 := by omega
        obtain ⟨l0, e0, e1, e2, e3, c5, _, _⟩ := HFX.out
        have z : ZB X X none (fun v => LinesAt v a5 L) := ZB.start (fun v hv => HFX.out.lm.below hv)
        go_upto_region 25 with fail
        go_cut [14, 15] (fun v6 v7 wc => ∃ B14 a14 k14, v6 = .pointer (some ⟨B14, 0, none⟩) ∧ v7 = .bool true ∧ LB X ls B14 a14 k14 wc)
        case first =>
          go_region_held3 (fun u => u.cell? ⟨b5, 0, none⟩ = some (.slice a5 L.length k5) ∧ u.cell? ⟨b4, 0, none⟩ = some (.int .i64 a) ∧ u.cell? ⟨b4, 1, none⟩ = some (.int .i64 b) ∧ u.cell? ⟨b4, 2, none⟩ = some (.int .i64 c) ∧ u.cell? ⟨b4, 3, none⟩ = some (.int .i64 m)) (first | exact ⟨c5, e0, e1, e2, e3⟩ | exact s5 HFX.out z.bel | exact s5 HFX.out z.drew.bel | exact s5 HFX.out (z.al _).bel | exact s5 HFX.out (z.al _).drew.bel | exact s5 HFX.out (z.drew.al _).bel | exact s5 HFX.out (HF.out _).bel | exact s5 HFX.out HF.out.bel) ((first
            | (go_at_call 22; (first | with_reducible refine (zBack z).mono ?_ | with_reducible refine (zBack z.drew).mono ?_ | with_reducible refine (zBack (z.al _)).mono ?_ | with_reducible refine (zBack (z.al _).drew).mono ?_ | with_reducible refine (zBack (z.drew.al _)).mono ?_); rintro e v2 ⟨rfl, z⟩)
            | (go_at_call 13; (first | with_reducible refine (zPost z (HIP2.out _ z.now)).mono ?_ | with_reducible refine (zPost z.drew (HIP2.out _ z.drew.now)).mono ?_ | with_reducible refine (zPost (z.al _) (HIP2.out _ (z.al _).now)).mono ?_ | with_reducible refine (zPost (z.al _).drew (HIP2.out _ (z.al _).drew.now)).mono ?_ | with_reducible refine (zPost (z.drew.al _) (HIP2.out _ (z.drew.al _).now)).mono ?_); rintro e v3 ⟨a3, k3, rfl, o3, z0, z⟩; (first | (have HF : Hid (∀ t, LB X ls v3.heap.size a3 k3 (v3.alloc (.cells #[.slice a3 ls.length k3] t))) := (fun t => LB.new o3 z0 z)) | (have HF : Hid _ := LB.set o3 z0 z; obtain ⟨_, _, n0, n1⟩ := z.box _ rfl)); clear o3 z0)))
          all_goals
            go_wp2_with fail
            go_meet
            first
              | exact ⟨_, _, _, rfl, rfl, HF.out _⟩
              | exact ⟨_, _, _, rfl, rfl, HF.out⟩
        case rest =>
          obtain ⟨B14, a14, k14, rfl, rfl, P14⟩ := hcut
          obtain ⟨u8, hu⟩ : ∃ x, x = wc := ⟨_, rfl⟩
          subst hu
          have HF8 : Hid (FP b3 b4 b5 ao k ls a b c m a5 k5 L u8) := HFX.out.below P14.bel
          have HL14 : Hid (LinesAt u8 a14 ls) := P14.lc.lines
          have q8 := next HQX.out P14.bel
          have hne := over_ne u8
          have g0 := over_cell HF8.out.l0
          have g1 := over_cell HF8.out.e0
          have g2 := over_cell HF8.out.e1
          have g3 := over_cell HF8.out.e2
          have g4 := over_cell HF8.out.e3
          have g5 := over_cell HF8.out.c5
          have g6 := over_cell P14.c0
          have HIL : Hid (∀ z : Over u8, Calls Try.prog 16 #[.agg #[.slice a5 L.length k5]] z.x fun e w' => e = .returned (.bool true) ∧ Below z.x.heap.size z.x w') := fun z => by rw [← HP3.out]; exact iLedgerOk_any _ _ _ _ (HF8.out.lm.below z.h) (by omega) HLD.out.2
          have HSM : Hid (∀ z : Over u8, Calls Try.prog 15 #[.agg #[.slice a14 ls.length k14], .agg #[.slice ao ls.length k]] z.x fun e w' => e = .returned (.bool true) ∧ Below z.x.heap.size z.x w') := fun z => sameLedger_same _ _ _ _ _ _ (HL14.out.below z.h) (HF8.out.ll.below z.h) (by omega)
          have HBK : Hid (∀ (x y z t : Int) (u : Over u8), Calls Try.prog 22 #[.agg #[.int .i64 x, .int .i64 y, .int .i64 z, .int .i64 t]] u.x fun e w' => e = .returned (.agg #[.int .i64 y, .int .i64 x, .int .i64 z, .int .i64 t]) ∧ Below u.x.heap.size u.x w') := fun x y z t u => iBack_any _ _ _ _ _
          clear P14 l0 e0 e1 e2 e3 c5 z
          go_upto_region 26 with fail
          refine wp_region_over (by kernel_rfl) (by kernel_rfl) ?_
          repeat (go_big_quiet_step (first | with_reducible exact over_of (HIL.out _) | with_reducible exact over_of (HSM.out _) | with_reducible exact over_of (HBK.out _ _ _ _ _)))
          refine wpQuiet_nil ?_
          rintro u9 ⟨⟨wz, b9⟩, hu9⟩
          subst hu9
          have q9 := next q8 b9
          clear b9 g0 g1 g2 g3 g4 g5 g6 hne HIL HSM HBK
          go_wp2
          go_ret
          exact ⟨rfl, q9⟩

set_option maxRecDepth 100000 in
theorem lifted (os : Os) (started : os.Started) (H : Type) (enc : TypeId × Value → H) :
    ReturnsInHanded {} Try.checked os 3 .any (Rows.fnPostSpec.pre6 enc Try.prog Try.f3 Rows.fnPostRow.domain false) (Rows.fnPostSpec.post enc Try.prog Try.f3 false true false false) := by
  refine returnsInHanded_of_change (C := Try.checked) own started (by kernel_rfl) Try.func3
    (ChangeSpec.witness6 (enc := enc) (C := Try.checked) false ⟨#[], #[.slice none 0 0], []⟩ 8 (by kernel_rfl) (by kernel_rfl) (by kernel_rfl) (by kernel_rfl)) ?_
  intro W base args ds gs before hval0 hW hcnd _
  have hval : ∀ (j : Nat) t v, Try.f3.params[j]? = some t → args[j]? = some v → Value.okWide Try.prog W .any base t v := hval0
  have hW' := hW
  obtain ⟨p, q, hA0, hV, rfl, hfz, hnd⟩ := hW
  have hA : DataW.TrodAll enc Try.prog W 0 (fun _ => true) true Try.f3.params.toList args.toList ds p := hA0
  rw [Try.params3] at hA hval
  obtain ⟨v0, vs0, d0, ds0, p0, q0, hargs, rfl, rfl, h0, r0⟩ := trodAll_cons hA
  obtain ⟨rfl, rfl, rfl⟩ := trodAll_nil r0
  obtain rfl : args = #[v0] := by cases args; simp_all
  obtain ⟨rfl, rfl⟩ := trodVars_none hV
  obtain ⟨a0, len0, cap0, rfl⟩ := okWide_slice Try.underlying22 (hval 0 22 v0 rfl rfl)
  have k0 := h0
  have lt0 : ∀ x ∈ p0, x.block < W.heap.size := by obtain ⟨m, hm⟩ := k0; exact DataW.trod_lt m _ _ _ hm
  obtain ⟨z0, w0⟩ : ∃ zs, IsRow .u8 W a0 len0 cap0 zs := is_row Try.underlying22 Try.underlying5 (by kernel_rfl) h0
  clear hA0 hval0
  refine (walk a0 len0 cap0 z0 W w0).mono fun e W' ⟨he, bel⟩ => ?_
  subst he
  exact ⟨_, rfl, _, _, _, [], _, [], hW', trodAll_mk1 (shut_bool Try.underlying4 _), (trodAll_cons_mk (Below.trod laidOut (by kernel_rfl) (of_decide_eq_true (by kernel_rfl)) k0 bel lt0) trodAll_mk0), rfl, bel.frame _, fun h => by cases h⟩

theorem proved : Rows.FnPostSaid :=
  OpenClaim.holds_of_wide 3 Try.f3 rfl rfl rfl rfl rfl rfl rfl ⟨rfl, rfl, rfl, rfl, rfl⟩ rfl rfl rfl rfl rfl (by kernel_rfl) Try.func3 (by kernel_rfl)
    (of_decide_eq_true (by kernel_rfl)) (by unfold Func.isWrapper; first | (rw [if_pos (by decide +kernel)]; kernel_rfl) | (rw [if_neg (by decide +kernel)]; exact ⟨rfl, rfl⟩))
    (fun os started H enc _ => lifted os started H enc)
end Go.Proofs.Ytcaepfomhcmfpaa.fnPost
