/- The contract of the specification's Post. -/
import Derived.Test.YtlonjjliochbhaaKE1SPost
import Derived.Deep.DeepCutAuto
import Derived.Deep.RegionHeld3
namespace Go.Proofs.Ytlonjjliochbhaa
open Go.RowKit
set_option maxRecDepth 100000

/-- what Post answers: a ledger whose lines are one's own, and whether it was posted -/
def PostR (w : World) (ls : List Ln) (ok : Bool) (e : Ending) (w' : World) : Prop :=
  ∃ ao cap, e = .returned (.tuple #[.agg #[.slice ao ls.length cap], .bool ok]) ∧ w'.ownsRow w.heap.size 115 3 (.slice ao ls.length cap) ls.length (lcells ls) ∧ Below w.heap.size w w'
/-- the boxes that stand while an entry is posted -/
structure PB (s : Nat) (ao : Option Addr) (cap n : Nat) (a b c m : Int) (u : World) : Prop where
  l0 : u.cell? ⟨s, 0, none⟩ = some (.slice ao n cap)
  e0 : u.cell? ⟨s + 1, 0, none⟩ = some (.int .i64 a)
  e1 : u.cell? ⟨s + 1, 1, none⟩ = some (.int .i64 b)
  e2 : u.cell? ⟨s + 1, 2, none⟩ = some (.int .i64 c)
  e3 : u.cell? ⟨s + 1, 3, none⟩ = some (.int .i64 m)
  r0 : u.cell? ⟨s + 1 + 1, 0, none⟩ = some (.slice none 0 0)
  rf : u.frozen? ⟨s + 1 + 1, 0, none⟩ = false
  sz : s + 1 + 1 < u.heap.size
theorem PB.below {s : Nat} {ao : Option Addr} {cap n : Nat} {a b c m : Int} {u u' : World} (h : PB s ao cap n a b c m u) (hb : Below u.heap.size u u') : PB s ao cap n a b c m u' := by
  have h1 := h.sz
  exact ⟨(hb.cell (p := ⟨s, 0, none⟩) (by show s < u.heap.size; omega)).trans h.l0, (hb.cell (p := ⟨s + 1, 0, none⟩) (by show s + 1 < u.heap.size; omega)).trans h.e0, (hb.cell (p := ⟨s + 1, 1, none⟩) (by show s + 1 < u.heap.size; omega)).trans h.e1,
    (hb.cell (p := ⟨s + 1, 2, none⟩) (by show s + 1 < u.heap.size; omega)).trans h.e2, (hb.cell (p := ⟨s + 1, 3, none⟩) (by show s + 1 < u.heap.size; omega)).trans h.e3, (hb.cell (p := ⟨s + 1 + 1, 0, none⟩) h1).trans h.r0, (hb.frozen (p := ⟨s + 1 + 1, 0, none⟩) h1).trans h.rf, Nat.lt_of_lt_of_le h1 hb.size⟩
theorem post_end {w u : World} {ls gs : List Ln} {ok : Bool} {ao : Option Addr} {cap base : Nat} (hg : gs = ls) (ho : u.ownsRow base 115 3 (.slice ao ls.length cap) ls.length (lcells ls)) (hb : w.heap.size + 1 + 1 < base) (bel : Below w.heap.size w u) :
    PostR w gs ok (.returned (.tuple #[.agg #[.slice ao ls.length cap], .bool ok])) (u.setCell ⟨w.heap.size + 1 + 1, 0, none⟩ (.slice ao ls.length cap)) := by
  subst hg
  exact ⟨ao, cap, rfl, lowerL (keepSetL ho _ _ (fun g hg => by have := (ho.lt g hg).1; simp only; omega)) (by omega), bel.setCell (by show w.heap.size ≤ w.heap.size + 1 + 1; omega) _⟩
theorem postL_no {ls : List Ln} {e : En} (h : postOk ls e = false) : postL ls e = ls := if_neg (by rw [h]; decide)
theorem postL_yes {ls : List Ln} {e : En} (h : postOk ls e = true) : postL ls e = postTry ls e := if_pos h
theorem addL_mem {ls : List Ln} {a c m : Int} : ∀ x ∈ addL ls a c m, x ∈ ls ∨ x.2.2 = m ∨ ∃ y ∈ ls, x.2.2 = y.2.2 + m := by
  induction ls with
  | nil => intro x hx; simp [addL] at hx; subst hx; exact .inr (.inl rfl)
  | cons y r ih =>
    intro x hx
    simp only [addL] at hx
    split at hx
    · split at hx
      · split at hx
        · rcases List.mem_cons.1 hx with rfl | h
          · exact .inr (.inr ⟨y, List.mem_cons_self .., rfl⟩)
          · exact .inl (List.mem_cons_of_mem _ h)
        · exact .inl (List.mem_cons_of_mem _ hx)
      · rcases List.mem_cons.1 hx with rfl | h
        · exact .inr (.inl rfl)
        · exact .inl h
    · rcases List.mem_cons.1 hx with rfl | h
      · exact .inl (List.mem_cons_self ..)
      · rcases ih x h with h | h | ⟨z, hz, h⟩
        · exact .inl (List.mem_cons_of_mem _ h)
        · exact .inr (.inl h)
        · exact .inr (.inr ⟨z, List.mem_cons_of_mem _ hz, h⟩)
theorem ledgerOk_parts {ls : List Ln} (h : ledgerOk ls = true) : linesOk none ls = true ∧ ls.length ≤ 400 ∧ evenL ls = true := by
  simp only [ledgerOk, Bool.and_eq_true, decide_eq_true_eq] at h
  exact ⟨h.1, h.2.1, h.2.2⟩
theorem entryOk_parts {e : En} (h : entryOk e = true) : acctOk e.1 = true ∧ acctOk e.2.1 = true ∧ e.1 ≠ e.2.1 ∧ 0 ≤ digs e.2.2.1 ∧ 1 ≤ e.2.2.2 ∧ e.2.2.2 ≤ 1000000000000 := by
  simp only [entryOk, Bool.and_eq_true, decide_eq_true_eq] at h
  exact ⟨h.1, h.2.1, h.2.2.1, h.2.2.2.1, h.2.2.2.2⟩

set_option maxHeartbeats 6400000 in
theorem sPost_any (ao : Option Addr) (cap : Nat) (ls : List Ln) (a b c m : Int) (w : World) (hz : LinesAt w ao ls) (hn : ls.length ≤ 1048576) :
    Calls Try.prog 59 #[.agg #[.slice ao ls.length cap], .agg #[.int .i64 a, .int .i64 b, .int .i64 c, .int .i64 m]] w (PostR w (postL ls (a, b, c, m)) (postOk ls (a, b, c, m))) := by
  obtain ⟨W, hW⟩ : ∃ W, W = ((w.alloc (.cells #[.slice ao ls.length cap] 29)).alloc (.cells #[.int .i64 a, .int .i64 b, .int .i64 c, .int .i64 m] 99)).alloc (.cells #[.slice none 0 0] 29) := ⟨_, rfl⟩
  have bW : Below w.heap.size w W := by rw [hW]; go_grown
  have PW : PB w.heap.size ao cap ls.length a b c m W := by
    rw [hW]; exact ⟨by simp [go_sem], by simp [go_sem], by simp [go_sem], by simp [go_sem], by simp [go_sem], by simp [go_sem], by simp [go_sem], by simp⟩
  have HZ : Hid (LinesAt W ao ls) := hz.below bW
  have HW : Hid _ := hW
  have l0 := PW.l0
  have HPW : Hid _ := PW
  clear hz hW PW
  cases hL : ledgerOk ls
  · have hno : postOk ls (a, b, c, m) = false := by simp [postOk, hL]
    have HNL : Hid _ := postL_no hno
    rw [hno]
    have HL : Hid _ := hL
    have HC : Hid (Calls Try.prog 69 #[.agg #[.slice ao ls.length cap]] W fun e w' => e = .returned (.bool false) ∧ Below W.heap.size W w') := by
      have h := sLedgerOk_any ao cap ls W HZ.out (by omega)
      rw [hL] at h; exact h
    clear hno hL
    go_enter Try.func59, Try.ntmps59
    go_upto_region 1 with fail
    rw [← HW.out]
    go_wp2_with fail
    refine HC.out.mono ?_
    rintro e w1 ⟨rfl, b1⟩
    have P1 := HPW.out.below b1
    have q1 := next bW b1
    have HZ1 : Hid (LinesAt w1 ao ls) := HZ.out.below b1
    have j0 := P1.l0
    have HP1 : Hid _ := P1
    clear HC b1 P1 l0
    go_wp2_with fail
    refine (sCopy_any ao cap ls w1 HZ1.out (by omega)).mono ?_
    rintro e w2 ⟨g2, c2, rfl, o2, b2⟩
    have P2 := HP1.out.below b2
    have r0 := P2.r0
    have rf := P2.rf
    have HE : Hid _ := post_end (w := w) (ok := false) HNL.out o2 HP1.out.sz (next q1 b2)
    clear o2 b2 P2 j0
    go_wp2
    refine bodyPost_ret (by simp [results, Try.results59, go_sem, r0]; try rfl) rfl ?_
    exact HE.out
  have HCL : Hid (Calls Try.prog 69 #[.agg #[.slice ao ls.length cap]] W fun e w' => e = .returned (.bool true) ∧ Below W.heap.size W w') := by
    have h := sLedgerOk_any ao cap ls W HZ.out (by omega)
    rw [hL] at h; exact h
  cases hE : entryOk (a, b, c, m)
  · have hno : postOk ls (a, b, c, m) = false := by simp [postOk, hE]
    have HNL : Hid _ := postL_no hno
    rw [hno]
    have HEO : Hid _ := hE
    clear hno hL hE
    go_enter Try.func59, Try.ntmps59
    go_upto_region 1 with fail
    rw [← HW.out]
    go_wp2_with fail
    refine HCL.out.mono ?_
    rintro e w1 ⟨rfl, b1⟩
    have P1 := HPW.out.below b1
    have q1 := next bW b1
    have HZ1 : Hid (LinesAt w1 ao ls) := HZ.out.below b1
    have k0 := P1.e0
    have k1 := P1.e1
    have k2 := P1.e2
    have k3 := P1.e3
    have HCE : Hid (Calls Try.prog 70 #[.agg #[.int .i64 a, .int .i64 b, .int .i64 c, .int .i64 m]] w1 fun e w' => e = .returned (.bool false) ∧ Below w1.heap.size w1 w') := by
      have h := sEntryOk_any a b c m w1
      rw [HEO.out] at h; exact h
    have HP1 : Hid _ := P1
    clear HCL b1 P1 l0
    go_wp2_with fail
    refine HCE.out.mono ?_
    rintro e w2 ⟨rfl, b2⟩
    have P2 := HP1.out.below b2
    have q2 := next q1 b2
    have HZ2 : Hid (LinesAt w2 ao ls) := HZ1.out.below b2
    have j0 := P2.l0
    have HP2 : Hid _ := P2
    clear HCE b2 P2 k0 k1 k2 k3
    go_wp2_with fail
    refine (sCopy_any ao cap ls w2 HZ2.out (by omega)).mono ?_
    rintro e w3 ⟨g3, c3, rfl, o3, b3⟩
    have P3 := HP2.out.below b3
    have r0 := P3.r0
    have rf := P3.rf
    have HE : Hid _ := post_end (w := w) (ok := false) HNL.out o3 HP2.out.sz (next q2 b3)
    clear o3 b3 P3 j0
    go_wp2
    refine bodyPost_ret (by simp [results, Try.results59, go_sem, r0]; try rfl) rfl ?_
    exact HE.out
  · obtain ⟨hl1, hl2, _⟩ := ledgerOk_parts hL
    obtain ⟨_, _, _, _, hm1, hm2⟩ := entryOk_parts hE
    simp only at hm1 hm2
    have hbd : ∀ x ∈ ls, -1000000000000 ≤ x.2.2 ∧ x.2.2 ≤ 1000000000000 := fun x hx => (lnOk_is (linesOk_mem hl1 x hx)).2.2.1
    have HB1 : Hid (∀ x ∈ ls, -4000000000000 ≤ x.2.2 ∧ x.2.2 ≤ 4000000000000) := fun x hx => by have := hbd x hx; omega
    have HB2 : Hid (∀ x ∈ addL ls a c (-m), -4000000000000 ≤ x.2.2 ∧ x.2.2 ≤ 4000000000000) := fun x hx => by
      rcases addL_mem x hx with h | h | ⟨y, hy, h⟩
      · have := hbd x h; omega
      · omega
      · have := hbd y hy; omega
    have hla := addL_len ls a c (-m)
    have hlb := addL_len (addL ls a c (-m)) b c m
    have HPT : Hid (postTry ls (a, b, c, m) = addL (addL ls a c (-m)) b c m) := rfl
    have HPO : Hid (postOk ls (a, b, c, m) = ledgerOk (addL (addL ls a c (-m)) b c m)) := by rw [Hid, postOk, hL, hE]; rfl
    obtain ⟨A1, hA1⟩ : ∃ A1, addL ls a c (-m) = A1 := ⟨_, rfl⟩
    rw [hA1] at HB2 hla hlb HPT HPO
    obtain ⟨A, hA⟩ : ∃ A, addL A1 b c m = A := ⟨_, rfl⟩
    rw [hA] at hlb HPT HPO
    have HA1 : Hid _ := hA1
    have HA : Hid _ := hA
    have HEO : Hid _ := hE
    have hAb : A.length ≤ 402 := by omega
    have hA1b : A1.length ≤ 401 := by omega
    clear hL hE hl1 hbd hla hlb hA1 hA
    have hwn : IntKind.i64.wrap (-m) = -m := by simp [IntKind.wrap, IntKind.bits, IntKind.signed]; omega
    go_enter Try.func59, Try.ntmps59
    go_upto_region 1 with fail
    rw [← HW.out]
    go_wp2_with fail
    refine HCL.out.mono ?_
    rintro e w1 ⟨rfl, b1⟩
    have P1 := HPW.out.below b1
    have q1 := next bW b1
    have HZ1 : Hid (LinesAt w1 ao ls) := HZ.out.below b1
    have k0 := P1.e0
    have k1 := P1.e1
    have k2 := P1.e2
    have k3 := P1.e3
    have HCE : Hid (Calls Try.prog 70 #[.agg #[.int .i64 a, .int .i64 b, .int .i64 c, .int .i64 m]] w1 fun e w' => e = .returned (.bool true) ∧ Below w1.heap.size w1 w') := by
      have h := sEntryOk_any a b c m w1
      rw [HEO.out] at h; exact h
    have HP1 : Hid _ := P1
    clear HCL b1 P1 l0
    go_wp2_with fail
    refine HCE.out.mono ?_
    rintro e w2 ⟨rfl, b2⟩
    have P2 := HP1.out.below b2
    have q2 := next q1 b2
    have HZ2 : Hid (LinesAt w2 ao ls) := HZ1.out.below b2
    have j0 := P2.l0
    have i0 := P2.e0
    have i1 := P2.e1
    have i2 := P2.e2
    have i3 := P2.e3
    have HP2 : Hid _ := P2
    have H1 : Hid (Calls Try.prog 71 #[.slice ao ls.length cap, .int .i64 a, .int .i64 c, .int .i64 (-m)] w2.drew fun e w' => ∃ g cap', e = .returned (.slice g A1.length cap') ∧ w'.ownsRow w2.heap.size 115 3 (.slice g A1.length cap') A1.length (lcells A1) ∧ Below w2.heap.size w2 w') := by
      have h := sAddL_any ao cap ls a c (-m) w2.drew (HZ2.out.below ((Below.refl _ _).drew)) hn (by omega) HB1.out
      rw [HA1.out] at h
      refine h.mono ?_
      rintro e w' ⟨g, k, rfl, o, bb⟩
      exact ⟨g, k, rfl, o, ((Below.refl _ _).drew).trans bb⟩
    have HK2 : Hid (∀ (w3 : World) (g3 : Option Addr) (c3 : Nat), w3.ownsRow w2.heap.size 115 3 (.slice g3 A1.length c3) A1.length (lcells A1) → Below w2.heap.size w2 w3 → Calls Try.prog 71 #[.slice g3 A1.length c3, .int .i64 b, .int .i64 c, .int .i64 m] w3 fun e w' => ∃ g cap', e = .returned (.slice g A.length cap') ∧ w'.ownsRow w2.heap.size 115 3 (.slice g A.length cap') A.length (lcells A) ∧ Below w2.heap.size w2 w') := fun w3 g3 c3 o3 b3 => by
      have h := sAddL_any g3 c3 A1 b c m w3 (lines_any o3) (by omega) ⟨by omega, by omega⟩ HB2.out
      rw [HA.out] at h
      refine h.mono ?_
      rintro e w' ⟨g, k, rfl, o, bb⟩
      exact ⟨g, k, rfl, lowerL o b3.size, b3.trans (bb.mono b3.size)⟩
    clear HCE b2 P2 k0 k1 k2 k3 HB1 HB2
    go_upto_region 3 with fail
    go_region_held3 (fun u => u.cell? ⟨w.heap.size, 0, none⟩ = some (.slice ao ls.length cap) ∧ u.cell? ⟨w.heap.size + 1, 0, none⟩ = some (.int .i64 a) ∧ u.cell? ⟨w.heap.size + 1, 1, none⟩ = some (.int .i64 b) ∧ u.cell? ⟨w.heap.size + 1, 2, none⟩ = some (.int .i64 c) ∧ u.cell? ⟨w.heap.size + 1, 3, none⟩ = some (.int .i64 m)) (first | exact ⟨j0, i0, i1, i2, i3⟩ | exact ⟨(HP2.out.below b4).l0, (HP2.out.below b4).e0, (HP2.out.below b4).e1, (HP2.out.below b4).e2, (HP2.out.below b4).e3⟩ | exact ⟨(HP2.out.below b3).l0, (HP2.out.below b3).e0, (HP2.out.below b3).e1, (HP2.out.below b3).e2, (HP2.out.below b3).e3⟩) ((first
      | (go_at_call_of 71 (Value.int .i64 (-m)); refine H1.out.mono ?_; rintro e w3 ⟨g3, c3, rfl, o3, b3⟩; have H2 : Hid (Calls Try.prog 71 #[.slice g3 A1.length c3, .int .i64 b, .int .i64 c, .int .i64 m] w3 fun e w' => ∃ g cap', e = .returned (.slice g A.length cap') ∧ w'.ownsRow w2.heap.size 115 3 (.slice g A.length cap') A.length (lcells A) ∧ Below w2.heap.size w2 w') := HK2.out w3 g3 c3 o3 b3; clear o3)
      | (go_at_call 71; refine H2.out.mono ?_; rintro e w4 ⟨g4, c4, rfl, o4, b4⟩; have HO4 : Hid (w4.ownsRow w2.heap.size 115 3 (.slice g4 A.length c4) A.length (lcells A)) := o4; clear o4)))
    all_goals
      obtain ⟨u, hu⟩ : ∃ x, x = w4 := ⟨_, rfl⟩
      subst hu
      have g := g4
      obtain ⟨g, hg⟩ : ∃ g, g = g4 := ⟨_, rfl⟩
      obtain ⟨k, hk⟩ : ∃ k, k = c4 := ⟨_, rfl⟩
      subst hg hk
      have o5 := HO4.out
      have b5 := b4
      clear b4 HO4 H1 H2 HK2 b3
      have P5 := HP2.out.below b5
      have q5 := next q2 b5
      have HO5 : Hid (u.ownsRow w2.heap.size 115 3 (.slice g A.length k) A.length (lcells A)) := o5
      obtain ⟨V, hV⟩ : ∃ V, V = u.alloc (.cells #[.slice g A.length k] 29) := ⟨_, rfl⟩
      have bV : Below u.heap.size u V := by rw [hV]; go_grown
      have v0 : V.cell? ⟨u.heap.size, 0, none⟩ = some (.slice g A.length k) := by rw [hV]; simp
      have PV := P5.below bV
      have qV := next q5 bV
      have HOV : Hid (V.ownsRow w2.heap.size 115 3 (.slice g A.length k) A.length (lcells A)) := keepL o5 bV
      have HZV : Hid (LinesAt V ao ls) := (HZ2.out.below b5).below bV
      have HPV : Hid _ := PV
      have HCL2 : Hid (Calls Try.prog 69 #[.agg #[.slice g A.length k]] V fun e w' => e = .returned (.bool (ledgerOk A)) ∧ Below V.heap.size V w') := sLedgerOk_any g k A V (lines_any HOV.out) (by omega)
      have hs2 : w.heap.size + 1 + 1 < w2.heap.size := HP2.out.sz
      clear o5 b5 bV P5 PV q5 j0 i0 i1 i2 i3
      go_upto_region 5 with fail
      rw [← hV]
      clear hV
      cases hLA : ledgerOk A
      · have hno : postOk ls (a, b, c, m) = false := HPO.out.trans hLA
        have HNL : Hid _ := postL_no hno
        have HNO : Hid _ := hno
        rw [hLA] at HCL2
        clear hno hLA
        go_wp2_with fail
        refine HCL2.out.mono ?_
        rintro e w6 ⟨rfl, b6⟩
        have P6 := HPV.out.below b6
        have q6 := next qV b6
        have HZ6 : Hid (LinesAt w6 ao ls) := HZV.out.below b6
        have j0 := P6.l0
        have HP6 : Hid _ := P6
        clear HCL2 b6 P6 v0
        go_wp2_with fail
        refine (sCopy_any ao cap ls w6 HZ6.out (by omega)).mono ?_
        rintro e w7 ⟨g7, c7, rfl, o7, b7⟩
        have P7 := HP6.out.below b7
        have r0 := P7.r0
        have rf := P7.rf
        have HE : Hid _ := post_end (w := w) (ok := false) HNL.out o7 HP6.out.sz (next q6 b7)
        clear o7 b7 P7 j0
        go_wp2
        refine bodyPost_ret (by simp [results, Try.results59, go_sem, r0]; try rfl) rfl ?_
        rw [HNO.out]; exact HE.out
      · have hyes : postOk ls (a, b, c, m) = true := HPO.out.trans hLA
        have HNL : Hid (postL ls (a, b, c, m) = A) := (postL_yes hyes).trans HPT.out
        have HNO : Hid _ := hyes
        rw [hLA] at HCL2
        clear hyes hLA
        go_wp2_with fail
        refine HCL2.out.mono ?_
        rintro e w6 ⟨rfl, b6⟩
        have P6 := HPV.out.below b6
        have q6 := next qV b6
        have v6 := (b6.cell (p := ⟨u.heap.size, 0, none⟩) (World.block_lt_of_cell? V _ v0)).trans v0
        have r0 := P6.r0
        have rf := P6.rf
        have HE : Hid _ := post_end (w := w) (ok := true) HNL.out (keepL HOV.out b6) hs2 q6
        clear HCL2 b6 P6 v0
        go_wp2
        refine bodyPost_ret (by simp [results, Try.results59, go_sem, r0]; try rfl) rfl ?_
        rw [HNO.out]; exact HE.out

end Go.Proofs.Ytlonjjliochbhaa
