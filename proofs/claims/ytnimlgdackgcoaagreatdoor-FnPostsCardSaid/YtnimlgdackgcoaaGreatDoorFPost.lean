/- The contract of the program's Post. -/
import Derived.Test.YtnimlgdackgcoaaGreatDoorSPost2
import Derived.Test.YtnimlgdackgcoaaGreatDoorFCpy
import Derived.Test.YtnimlgdackgcoaaGreatDoorFLedg
import Derived.Test.YtnimlgdackgcoaaGreatDoorFLed3
namespace Go.Proofs.YtnimlgdackgcoaaGreatDoor
open Go.RowKit
set_option maxRecDepth 100000

theorem PB.grown {s : Nat} {ao : Option Addr} {cap n : Nat} {a b c m : Int} {u u' : World} {g : Nat} (h : PB s ao cap n a b c m u) (hg : u.grownBy u' (some g)) (hne : s + 1 + 1 < g) : PB s ao cap n a b c m u' := by
  have h1 := h.sz
  exact ⟨(hg.cell_far ⟨s, 0, none⟩ (by show s < u.heap.size; omega) (by simp; omega)).trans h.l0, (hg.cell_far ⟨s + 1, 0, none⟩ (by show s + 1 < u.heap.size; omega) (by simp; omega)).trans h.e0, (hg.cell_far ⟨s + 1, 1, none⟩ (by show s + 1 < u.heap.size; omega) (by simp; omega)).trans h.e1,
    (hg.cell_far ⟨s + 1, 2, none⟩ (by show s + 1 < u.heap.size; omega) (by simp; omega)).trans h.e2, (hg.cell_far ⟨s + 1, 3, none⟩ (by show s + 1 < u.heap.size; omega) (by simp; omega)).trans h.e3, (hg.cell_far ⟨s + 1 + 1, 0, none⟩ h1 (by simp; omega)).trans h.r0, (hg.frozen_far ⟨s + 1 + 1, 0, none⟩ h1 (by simp; omega)).trans h.rf, Nat.lt_of_lt_of_le h1 hg.size⟩
theorem look_bd4 {ls : List Ln} (h : ∀ x ∈ ls, -4000000000000 ≤ x.2.2 ∧ x.2.2 ≤ 4000000000000) (a c : Int) : -4000000000000 ≤ (look ls a c).getD 0 ∧ (look ls a c).getD 0 ≤ 4000000000000 := by
  cases hl : look ls a c with
  | none => simp
  | some v => have := h _ (look_mem hl); simpa using this
theorem bd_addL {ls : List Ln} {a c m : Int} (h : ∀ x ∈ ls, lnBd x) (hb : ∀ x ∈ ls, -4000000000000 ≤ x.2.2 ∧ x.2.2 ≤ 4000000000000) (ha : wf64 a) (hc : wf64 c) (hm : -1000000000000 ≤ m ∧ m ≤ 1000000000000) : ∀ x ∈ addL ls a c m, lnBd x := by
  intro x hx
  have hk : wf64 x.1 ∧ wf64 x.2.1 := by
    rcases mem_addL hx with h1 | ⟨h1, h2⟩
    · exact ⟨(h x h1).1, (h x h1).2.1⟩
    · rw [h1, h2]; exact ⟨ha, hc⟩
  refine ⟨hk.1, hk.2, WalkArith.wf_i64 ?_⟩
  rcases addL_mem x hx with h1 | h1 | ⟨y, hy, h1⟩
  · have := hb x h1; omega
  · omega
  · have := hb y hy; omega

set_option maxHeartbeats 6400000 in
theorem iPost_any (ao : Option Addr) (cap : Nat) (ls : List Ln) (a b c m : Int) (w : World) (hz : LinesAt w ao ls) (hn : ls.length ≤ 1048576) (hlb : ∀ x ∈ ls, lnBd x) (heb : enBd (a, b, c, m)) :
    Calls Tryz.prog 9 #[.agg #[.slice ao ls.length cap], .agg #[.int .i64 a, .int .i64 b, .int .i64 c, .int .i64 m]] w (PostR w (postL ls (a, b, c, m)) (postOk ls (a, b, c, m))) := by
  obtain ⟨W, hW⟩ : ∃ W, W = ((w.alloc (.cells #[.slice ao ls.length cap] 26)).alloc (.cells #[.int .i64 a, .int .i64 b, .int .i64 c, .int .i64 m] 35)).alloc (.cells #[.slice none 0 0] 26) := ⟨_, rfl⟩
  have bW : Below w.heap.size w W := by rw [hW]; go_grown
  have PW : PB w.heap.size ao cap ls.length a b c m W := by
    rw [hW]; exact ⟨by simp [go_sem], by simp [go_sem], by simp [go_sem], by simp [go_sem], by simp [go_sem], by simp [go_sem], by simp [go_sem], by simp⟩
  have HZ0 : Hid (LinesAt w ao ls) := hz
  have HZ : Hid (LinesAt W ao ls) := hz.below bW
  have HW : Hid _ := hW
  have l0 := PW.l0
  have HPW : Hid (PB w.heap.size ao cap ls.length a b c m W) := PW
  have HLB : Hid (∀ x ∈ ls, lnBd x) := hlb
  have HEB : Hid (enBd (a, b, c, m)) := heb
  clear hz hW PW hlb heb
  cases hL : ledgerOk ls
  · have hno : postOk ls (a, b, c, m) = false := by simp [postOk, hL]
    have HNL : Hid _ := postL_no hno
    rw [hno]
    have HC : Hid (Calls Tryz.prog 23 #[.agg #[.slice ao ls.length cap]] W fun e w' => e = .returned (.bool false) ∧ Below W.heap.size W w') := by
      have h := iLedgerOk_any ao cap ls W HZ.out (by omega) HLB.out
      rw [hL] at h; exact h
    clear hno hL
    go_enter Tryz.func9, Tryz.ntmps9
    go_upto_region 1 with fail
    rw [← HW.out]
    go_wp2_with fail
    refine HC.out.mono ?_
    rintro e w1 ⟨rfl, b1⟩
    have P1 := HPW.out.below b1
    have q1 := next bW b1
    have HZ1 : Hid (LinesAt w1 ao ls) := HZ.out.below b1
    have j0 := P1.l0
    have HP1 : Hid (PB w.heap.size ao cap ls.length a b c m w1) := P1
    clear HC b1 P1 l0
    go_wp2_with fail
    refine (iCopy_any ao cap ls w1 HZ1.out (by omega)).mono ?_
    rintro e w2 ⟨g2, c2, rfl, o2, b2⟩
    have P2 := HP1.out.below b2
    have r0 := P2.r0
    have rf := P2.rf
    have HE : Hid _ := post_end (w := w) (ok := false) HNL.out o2 HP1.out.sz (next q1 b2)
    clear o2 b2 P2 j0
    go_wp2
    refine bodyPost_ret (by simp [results, Tryz.results9, go_sem, r0]; try rfl) rfl ?_
    exact HE.out
  have HCL : Hid (Calls Tryz.prog 23 #[.agg #[.slice ao ls.length cap]] W fun e w' => e = .returned (.bool true) ∧ Below W.heap.size W w') := by
    have h := iLedgerOk_any ao cap ls W HZ.out (by omega) HLB.out
    rw [hL] at h; exact h
  cases hE : entryOk (a, b, c, m)
  · have hno : postOk ls (a, b, c, m) = false := by simp [postOk, hE]
    have HNL : Hid _ := postL_no hno
    rw [hno]
    have HEO : Hid _ := hE
    clear hno hL hE
    go_enter Tryz.func9, Tryz.ntmps9
    go_upto_region 1 with fail
    rw [← HW.out]
    go_wp2_with fail
    refine HCL.out.mono ?_
    rintro e w1 ⟨rfl, b1⟩
    have P1 := HPW.out.below b1
    have q1 := next bW b1
    have HZ1 : Hid (LinesAt w1 ao ls) := HZ.out.below b1
    have k0 := P1.e0
    have k1 := P1.e1
    have k2 := P1.e2
    have k3 := P1.e3
    have HCE : Hid (Calls Tryz.prog 24 #[.agg #[.int .i64 a, .int .i64 b, .int .i64 c, .int .i64 m]] w1 fun e w' => e = .returned (.bool false) ∧ Below w1.heap.size w1 w') := by
      have h := iEntryOk_any a b c m w1 HEB.out.2.2.1
      rw [HEO.out] at h; exact h
    have HP1 : Hid (PB w.heap.size ao cap ls.length a b c m w1) := P1
    clear HCL b1 P1 l0
    go_wp2_with fail
    refine HCE.out.mono ?_
    rintro e w2 ⟨rfl, b2⟩
    have P2 := HP1.out.below b2
    have q2 := next q1 b2
    have HZ2 : Hid (LinesAt w2 ao ls) := HZ1.out.below b2
    have j0 := P2.l0
    have HP2 : Hid (PB w.heap.size ao cap ls.length a b c m w2) := P2
    clear HCE b2 P2 k0 k1 k2 k3
    go_wp2_with fail
    refine (iCopy_any ao cap ls w2 HZ2.out (by omega)).mono ?_
    rintro e w3 ⟨g3, c3, rfl, o3, b3⟩
    have P3 := HP2.out.below b3
    have r0 := P3.r0
    have rf := P3.rf
    have HE : Hid _ := post_end (w := w) (ok := false) HNL.out o3 HP2.out.sz (next q2 b3)
    clear o3 b3 P3 j0
    go_wp2
    refine bodyPost_ret (by simp [results, Tryz.results9, go_sem, r0]; try rfl) rfl ?_
    exact HE.out
  · obtain ⟨hl1, hl2, _⟩ := ledgerOk_parts hL
    obtain ⟨_, _, _, _, hm1, hm2⟩ := entryOk_parts hE
    simp only at hm1 hm2
    have hsrt := srt_of_linesOk hl1
    have hnz := nz_of_linesOk hl1
    have hbd : ∀ x ∈ ls, -1000000000000 ≤ x.2.2 ∧ x.2.2 ≤ 1000000000000 := fun x hx => (lnOk_is (linesOk_mem hl1 x hx)).2.2.1
    have HB1 : Hid (∀ x ∈ ls, -4000000000000 ≤ x.2.2 ∧ x.2.2 ≤ 4000000000000) := fun x hx => by have := hbd x hx; omega
    have HB2 : Hid (∀ x ∈ addL ls a c (-m), -4000000000000 ≤ x.2.2 ∧ x.2.2 ≤ 4000000000000) := fun x hx => by
      rcases addL_mem x hx with h | h | ⟨y, hy, h⟩
      · have := hbd x h; omega
      · omega
      · have := hbd y hy; omega
    have hla := addL_len ls a c (-m)
    have hlb := addL_len (addL ls a c (-m)) b c m
    have HPT : Hid (postTry ls (a, b, c, m) = addL (addL ls a c (-m)) b c m) := rfl
    have HPO : Hid (postOk ls (a, b, c, m) = ledgerOk (addL (addL ls a c (-m)) b c m)) := by rw [Hid, postOk, hL, hE]; rfl
    have HLA1 : Hid _ := look_addL hsrt a c (show -m ≠ 0 by omega)
    have HLA2 : Hid _ := look_addL (srt_addL hsrt a c (-m)) b c (show m ≠ 0 by omega)
    have HSA : Hid (Srt (addL (addL ls a c (-m)) b c m)) := srt_addL (srt_addL hsrt a c (-m)) b c m
    have HBA : Hid (∀ x ∈ addL (addL ls a c (-m)) b c m, lnBd x) := bd_addL (bd_addL HLB.out HB1.out HEB.out.1 HEB.out.2.2.1 ⟨by omega, by omega⟩) HB2.out HEB.out.2.1 HEB.out.2.2.1 ⟨by omega, by omega⟩
    obtain ⟨A1, hA1⟩ : ∃ A1, addL ls a c (-m) = A1 := ⟨_, rfl⟩
    rw [hA1] at HB2 hla hlb HPT HPO HLA1 HLA2 HSA HBA
    obtain ⟨A, hA⟩ : ∃ A, addL A1 b c m = A := ⟨_, rfl⟩
    rw [hA] at hlb HPT HPO HLA2 HSA HBA
    have HEO : Hid _ := hE
    have HS : Hid (Srt ls) := hsrt
    have HNZ : Hid (NZ ls) := hnz
    have HBD : Hid (∀ x ∈ ls, -1000000000000 ≤ x.2.2 ∧ x.2.2 ≤ 1000000000000) := hbd
    have hAb : A.length ≤ 402 := by omega
    clear hL hE hl1 hbd hla hlb hA1 hA hsrt hnz
    have hwn : IntKind.i64.wrap (-m) = -m := by simp [IntKind.wrap, IntKind.bits, IntKind.signed]; omega
    go_enter Tryz.func9, Tryz.ntmps9
    go_upto_region 1 with fail
    rw [← HW.out]
    go_wp2_with fail
    refine HCL.out.mono ?_
    rintro e w1 ⟨rfl, b1⟩
    have P1 := HPW.out.below b1
    have q1 := next bW b1
    have k0 := P1.e0
    have k1 := P1.e1
    have k2 := P1.e2
    have k3 := P1.e3
    have HCE : Hid (Calls Tryz.prog 24 #[.agg #[.int .i64 a, .int .i64 b, .int .i64 c, .int .i64 m]] w1 fun e w' => e = .returned (.bool true) ∧ Below w1.heap.size w1 w') := by
      have h := iEntryOk_any a b c m w1 HEB.out.2.2.1
      rw [HEO.out] at h; exact h
    have HP1 : Hid (PB w.heap.size ao cap ls.length a b c m w1) := P1
    clear HCL b1 P1 l0
    go_wp2_with fail
    refine HCE.out.mono ?_
    rintro e w2 ⟨rfl, b2⟩
    have P2 := HP1.out.below b2
    have q2 := next q1 b2
    have HZ2 : Hid (LinesAt w2 ao ls) := HZ0.out.below q2
    have j0 := P2.l0
    have HP2 : Hid (PB w.heap.size ao cap ls.length a b c m w2) := P2
    clear HCE b2 P2 k0 k1 k2 k3
    go_wp2_with fail
    refine (balances_any ao cap ls w2 HZ2.out hl2 HS.out HNZ.out HBD.out HLB.out).mono ?_
    rintro e w3 ⟨g, rfl, hg, m3, b3⟩
    have P3 := HP2.out.below b3
    have q3 := next q2 b3
    have hgs : w.heap.size + 1 + 1 < g := Nat.lt_of_lt_of_le HP2.out.sz hg
    have HM3 : Hid (MapF w3 g ls.length (look ls)) := m3
    have i0 := P3.e0
    have i2 := P3.e2
    have i3 := P3.e3
    have HP3 : Hid (PB w.heap.size ao cap ls.length a b c m w3) := P3
    have HV1 : Hid _ := look_bd HBD.out a c
    clear m3 b3 P3 j0 hg
    go_wp2_with fail
    refine (add_any g ls.length (look ls) a c (-m) _ w3 HM3.out HEB.out.1 HEB.out.2.2.1 rfl (by have := HV1.out; omega) (by unfold maxLen; omega)).mono ?_
    rintro e w4 ⟨rfl, m4, g4⟩
    have P4 := HP3.out.grown g4 hgs
    have q4 : Below w.heap.size w w4 := q3.grown g4 q3.size (fun j hj => by cases hj; omega)
    have HM4 : Hid (MapF w4 g (ls.length + 1) (look A1)) := by rw [HLA1.out]; exact m4
    have i1 := P4.e1
    have i2 := P4.e2
    have i3 := P4.e3
    have HP4 : Hid (PB w.heap.size ao cap ls.length a b c m w4) := P4
    have HV2 : Hid _ := look_bd4 HB2.out b c
    clear m4 g4 P4 i0 HM3 HP3
    go_wp2_with fail
    refine (add_any g (ls.length + 1) (look A1) b c m _ w4 HM4.out HEB.out.2.1 HEB.out.2.2.1 rfl (by have := HV2.out; omega) (by unfold maxLen; omega)).mono ?_
    rintro e w5 ⟨rfl, m5, g5⟩
    have P5 := HP4.out.grown g5 hgs
    have q5 : Below w.heap.size w w5 := q4.grown g5 q4.size (fun j hj => by cases hj; omega)
    have HM5 : Hid (MapF w5 g (ls.length + 1 + 1) (look A)) := by rw [HLA2.out]; exact m5
    have HP5 : Hid (PB w.heap.size ao cap ls.length a b c m w5) := P5
    clear m5 g5 P5 i1 i2 i3 HM4 HP4 q3 q4
    go_wp2_with fail
    refine (ledger_any g (ls.length + 1 + 1) (look A) w5 HM5.out (by omega)).mono ?_
    rintro e w6 ⟨g6, k6, L, rfl, s6, lk6, _, o6, b6⟩
    have hLA : L = A := eq_of_look s6 HSA.out (fun x y => by rw [lk6])
    subst hLA
    have P6 := HP5.out.below b6
    have q6 := next q5 b6
    obtain ⟨V, hV⟩ : ∃ V, V = w6.alloc (.cells #[.slice g6 L.length k6] 26) := ⟨_, rfl⟩
    have bV : Below w6.heap.size w6 V := by rw [hV]; go_grown
    have v0 : V.cell? ⟨w6.heap.size, 0, none⟩ = some (.slice g6 L.length k6) := by rw [hV]; simp
    have PV := P6.below bV
    have qV := next q6 bV
    have HOV : Hid (V.ownsRow w5.heap.size 49 3 (.slice g6 L.length k6) L.length (lcells L)) := keepL o6 bV
    have HZV : Hid (LinesAt V ao ls) := HZ0.out.below qV
    have HPV : Hid (PB w.heap.size ao cap ls.length a b c m V) := PV
    have HCL2 : Hid (Calls Tryz.prog 23 #[.agg #[.slice g6 L.length k6]] V fun e w' => e = .returned (.bool (ledgerOk L)) ∧ Below V.heap.size V w') := iLedgerOk_any g6 k6 L V (lines_any HOV.out) (by omega) HBA.out
    have hs5 : w.heap.size + 1 + 1 < w5.heap.size := HP5.out.sz
    clear s6 lk6 o6 b6 bV P6 PV q6 HM5 HLA1 HLA2
    go_upto_region 7 with fail
    rw [← hV]
    clear hV
    cases hLA : ledgerOk L
    · have hno : postOk ls (a, b, c, m) = false := HPO.out.trans hLA
      have HNL : Hid _ := postL_no hno
      have HNO : Hid _ := hno
      rw [hLA] at HCL2
      clear hno hLA
      go_wp2_with fail
      refine HCL2.out.mono ?_
      rintro e w7 ⟨rfl, b7⟩
      have P7 := HPV.out.below b7
      have q7 := next qV b7
      have HZ7 : Hid (LinesAt w7 ao ls) := HZV.out.below b7
      have j0 := P7.l0
      have HP7 : Hid (PB w.heap.size ao cap ls.length a b c m w7) := P7
      clear HCL2 b7 P7 v0
      go_wp2_with fail
      refine (iCopy_any ao cap ls w7 HZ7.out (by omega)).mono ?_
      rintro e w8 ⟨g8, c8, rfl, o8, b8⟩
      have P8 := HP7.out.below b8
      have r0 := P8.r0
      have rf := P8.rf
      have HE : Hid _ := post_end (w := w) (ok := false) HNL.out o8 HP7.out.sz (next q7 b8)
      clear o8 b8 P8 j0
      go_wp2
      refine bodyPost_ret (by simp [results, Tryz.results9, go_sem, r0]; try rfl) rfl ?_
      rw [HNO.out]; exact HE.out
    · have hyes : postOk ls (a, b, c, m) = true := HPO.out.trans hLA
      have HNL : Hid (postL ls (a, b, c, m) = L) := (postL_yes hyes).trans HPT.out
      have HNO : Hid _ := hyes
      rw [hLA] at HCL2
      clear hyes hLA
      go_wp2_with fail
      refine HCL2.out.mono ?_
      rintro e w7 ⟨rfl, b7⟩
      have P7 := HPV.out.below b7
      have q7 := next qV b7
      have v7 := (b7.cell (p := ⟨w6.heap.size, 0, none⟩) (World.block_lt_of_cell? V _ v0)).trans v0
      have r0 := P7.r0
      have rf := P7.rf
      have HE : Hid _ := post_end (w := w) (ok := true) HNL.out (keepL HOV.out b7) hs5 q7
      clear HCL2 b7 P7 v0
      go_wp2
      refine bodyPost_ret (by simp [results, Tryz.results9, go_sem, r0]; try rfl) rfl ?_
      rw [HNO.out]; exact HE.out

end Go.Proofs.YtnimlgdackgcoaaGreatDoor
