/- The contract of the program's LedgerOk. -/
import Derived.Test.YtnimlgdackgcoaaGreatDoorSLed2
import Derived.Test.YtnimlgdackgcoaaGreatDoorFEven
import Derived.Test.YtnimlgdackgcoaaGreatDoorFCmp
import Derived.Test.YtnimlgdackgcoaaGreatDoorOver
namespace Go.Proofs.YtnimlgdackgcoaaGreatDoor
open Go.RowKit
set_option maxRecDepth 100000

theorem below_grow (w : World) (q : Nat) (os : Array Obj) : Below w.heap.size w (Go.Sort.grow (w.drewN q) os) :=
  ⟨rfl, rfl, rfl, by simp [Go.Sort.grow, World.drewN], fun k hk => by simp [Go.Sort.grow, World.drewN, Array.getElem?_append, hk]⟩
theorem lineOk_is {a c m : Int} {v : Bool} (h : lnOk (a, c, m) = v) (hc : (Lit.int .i64 c).wf = true) (w : World) :
    Calls Tryz.prog 45 #[.agg #[.int .i64 a, .int .i64 c, .int .i64 m]] w fun e w' => e = .returned (.bool v) ∧ Below w.heap.size w w' := by rw [← h]; exact lineOk_any a c m w hc
theorem cmpLines_is {a b c x y z v : Int} (h : cmpL (a, b, c) (x, y, z) = v) (w : World) :
    Calls Tryz.prog 46 #[.agg #[.int .i64 a, .int .i64 b, .int .i64 c], .agg #[.int .i64 x, .int .i64 y, .int .i64 z]] w fun e w' => e = .returned (.int .i64 v) ∧ Below w.heap.size w w' :=
  (cmpLines_any a b c x y z w).mono fun e w' ⟨he, q, os, hw⟩ => ⟨by rw [he, h], by rw [hw]; exact below_grow w q os⟩
theorem even_of {ls : List Ln} (h : linesOk none ls = true) (hl : ls.length ≤ 400) : ledgerOk ls = evB ls := by
  have he : evenL ls = evB ls := by
    rw [Bool.eq_iff_iff, evenL_iff fun x hx => (lnOk_is (linesOk_mem h x hx)).2.1, evB, List.all_eq_true]
    simp
  simp [ledgerOk, h, hl, he]

set_option maxHeartbeats 6400000 in
theorem iLedgerOk_any (ao : Option Addr) (cap : Nat) (ls : List Ln) (w : World) (hz : LinesAt w ao ls) (hn : ls.length ≤ 1099511627776) (hwf : ∀ x ∈ ls, lnBd x) :
    Calls Tryz.prog 23 #[.agg #[.slice ao ls.length cap]] w fun e w' => e = .returned (.bool (ledgerOk ls)) ∧ Below w.heap.size w w' := by
  obtain ⟨W, hW⟩ : ∃ W, W = w.alloc (.cells #[.slice ao ls.length cap] 26) := ⟨_, rfl⟩
  have bW : Below w.heap.size w W := by rw [hW]; go_grown
  have hWs : w.heap.size < W.heap.size := by rw [hW]; simp
  have k0 : W.cell? ⟨w.heap.size, 0, none⟩ = some (.slice ao ls.length cap) := by rw [hW]; simp
  have HK : Hid (W.cell? ⟨w.heap.size, 0, none⟩ = some (.slice ao ls.length cap)) := k0
  have HZ : Hid (LinesAt W ao ls) := hz.below bW
  have HWF : Hid (∀ x ∈ ls, lnBd x) := hwf
  clear hz hwf
  by_cases h4 : (400 : Int) < (ls.length : Int)
  · have HE : Hid (ledgerOk ls = false) := by
      have : ¬ ls.length ≤ 400 := by omega
      simp [Hid, ledgerOk, this]
    go_enter Tryz.func23, Tryz.ntmps23
    go_wp2
    go_ret
    rw [← hW]
    exact ⟨one_bool HE.out.symm, bW⟩
  have hl4 : ls.length ≤ 400 := by omega
  go_enter Tryz.func23, Tryz.ntmps23
  go_wp2
  rw [← hW]
  clear hW
  go_loopw [12] (fun i wr => ∃ k : Nat, k ≤ ls.length ∧ i = .int .i64 k ∧ linesOk none ls = linesOk (prevL ls k) (ls.drop k) ∧ Below W.heap.size W wr) (fun i _ => ls.length - (intOf i).toNat)
  case atStart => exact ⟨0, Nat.zero_le _, rfl, rfl, Below.refl _ _⟩
  case round =>
    obtain ⟨k, hk, rfl, hok, hbr⟩ := hrel
    have HOK : Hid _ := hok
    have hbs := hbr.size
    have hws : w.heap.size < wr.heap.size := Nat.lt_of_lt_of_le hWs hbs
    clear hok k0
    by_cases hlt : k < ls.length
    · have hki : (k : Int) < (ls.length : Int) := by omega
      obtain ⟨b, off, rfl, hb2, c1, c2, c3⟩ := (HZ.out.below hbr).at hlt
      have hst := linesOk_step ls k hlt
      have hwk := HWF.out _ (lnAt_mem hlt)
      obtain ⟨p, hp⟩ : ∃ p, prevL ls k = p := ⟨_, rfl⟩
      have HP : Hid _ := hp
      rw [hp] at hst HOK
      obtain ⟨⟨x, y, z⟩, hx⟩ : ∃ x, lnAt ls k = x := ⟨_, rfl⟩
      rw [hx] at c1 c2 c3 hst hwk
      simp only at c1 c2 c3
      have HWK : Hid ((Lit.int .i64 y).wf = true) := hwk.2.1
      have HST : Hid _ := HOK.out.trans hst
      obtain ⟨V, hV⟩ : ∃ V, V = wr.alloc (.cells #[.int .i64 x, .int .i64 y, .int .i64 z] 49) := ⟨_, rfl⟩
      have bV : Below W.heap.size W V := by rw [hV]; exact hbr.alloc hbs _
      have hVs : V.heap.size = wr.heap.size + 1 := by rw [hV]; simp
      have v0 : V.cell? ⟨wr.heap.size, 0, none⟩ = some (.int .i64 x) := by rw [hV]; simp
      have v1 : V.cell? ⟨wr.heap.size, 1, none⟩ = some (.int .i64 y) := by rw [hV]; simp
      have v2 : V.cell? ⟨wr.heap.size, 2, none⟩ = some (.int .i64 z) := by rw [hV]; simp
      have l0 := (bV.cell (p := ⟨w.heap.size, 0, none⟩) hWs).trans HK.out
      have HBV : Hid (Below W.heap.size W V) := bV
      have HBW : Hid (Below w.heap.size w W) := bW
      have hVw : W.heap.size ≤ V.heap.size := bV.size
      have hne := over_ne V
      have g0 := over_cell v0
      have g1 := over_cell v1
      have g2 := over_cell v2
      have g3 := over_cell l0
      have HLV : Hid (LinesAt V (some ⟨b, off, none⟩) ls) := HZ.out.below bV
      go_upto_region 6 with fail
      rw [← hV]
      clear hV hst hx hp HOK hwk bV bW hbr c1 c2 c3
      cases h1 : lnOk (x, y, z)
      · have HE : Hid (ledgerOk ls = false) := by
          unfold ledgerOk
          rw [Hid, HST.out, h1]; rfl
        have H1 : Hid _ := h1
        clear h1 HST
        refine wp_region_over (by kernel_rfl) (by kernel_rfl) ?_
        repeat (go_big_quiet_step (exact over_of (lineOk_is H1.out HWK.out _)))
        refine wpQuiet_nil ?_
        rintro _ ⟨⟨u1, q1⟩, hu1⟩
        subst hu1
        go_wp2
        go_ret
        exact ⟨one_bool HE.out.symm, HBW.out.trans ((HBV.out.trans (q1.mono hVw)).mono HBW.out.size)⟩
      have H1 : Hid _ := h1
      have HST2 : Hid (linesOk none ls = (behindP p (x, y, z) && linesOk (prevL ls (k + 1)) (ls.drop (k + 1)))) := by rw [Hid, HST.out, h1]; rfl
      clear h1 HST
      cases k with
      | zero =>
        have HN : Hid (linesOk none ls = linesOk (prevL ls (0 + 1)) (ls.drop (0 + 1))) := by
          have hp0 : p = none := by rw [← HP.out]; rfl
          rw [Hid, HST2.out, hp0]; rfl
        clear HST2 HP
        refine wp_region_over (by kernel_rfl) (by kernel_rfl) ?_
        repeat (go_big_quiet_step (exact over_of (lineOk_is H1.out HWK.out _)))
        refine wpQuiet_nil ?_
        rintro _ ⟨⟨u1, q1⟩, hu1⟩
        subst hu1
        go_wp2
        go_roundw
        case rel => exact ⟨1, by omega, by go_num, HN.out, HBV.out.trans (q1.mono hVw)⟩
        case measure => simp [intOf]; omega
      | succ k =>
        have hpe : p = some (lnAt ls k) := by rw [← HP.out]; simp [prevL]
        obtain ⟨b', off', hao, hb', e1, e2, e3⟩ := HLV.out.at (k := k) (by omega)
        obtain ⟨rfl, rfl⟩ : b = b' ∧ off = off' := by simpa using hao
        obtain ⟨⟨x', y', z'⟩, hx'⟩ : ∃ x, lnAt ls k = x := ⟨_, rfl⟩
        rw [hx'] at e1 e2 e3 hpe
        simp only at e1 e2 e3
        subst hpe
        have HLT : Hid (linesOk none ls = (lnLt (x', y', z') (x, y, z) && linesOk (prevL ls (k + 1 + 1)) (ls.drop (k + 1 + 1)))) := HST2.out
        have hk1 : ((k + 1 : Nat) : Int) - 1 = (k : Int) := by omega
        have hk2 : (0 : Int) < ((k + 1 : Nat) : Int) := by omega
        have hkl : (k : Int) < (ls.length : Int) := by omega
        have g4 := over_cell e1
        have g5 := over_cell e2
        have g6 := over_cell e3
        have hkz : decide (0 < k + 1) = true := by simp
        obtain ⟨v, hv⟩ : ∃ v, cmpL (x', y', z') (x, y, z) = v := ⟨_, rfl⟩
        have hiff := cmpL_lt (x', y', z') (x, y, z)
        rw [hv] at hiff
        have HV : Hid _ := hv
        have HIF : Hid _ := hiff
        clear HST2 HP hx' hao HLV hv hiff
        by_cases h2 : 0 ≤ v
        · have hdn : decide (0 ≤ v) = true := by simpa using h2
          have HE : Hid (ledgerOk ls = false) := by
            have : lnLt (x', y', z') (x, y, z) = false := by
              cases h : lnLt (x', y', z') (x, y, z)
              · rfl
              · have := HIF.out.2 h; omega
            unfold ledgerOk
            rw [Hid, HLT.out, this]; rfl
          clear HLT HIF
          refine wp_region_over (by kernel_rfl) (by kernel_rfl) ?_
          repeat (go_big_quiet_step (first | exact over_of (lineOk_is H1.out HWK.out _) | exact over_of (cmpLines_is HV.out _)))
          refine wpQuiet_nil ?_
          rintro _ ⟨⟨u1, q1⟩, hu1⟩
          subst hu1
          go_wp2
          go_ret
          exact ⟨one_bool HE.out.symm, HBW.out.trans ((HBV.out.trans (q1.mono hVw)).mono HBW.out.size)⟩
        · have hdn : decide (0 ≤ v) = false := by simpa using h2
          have HN : Hid (linesOk none ls = linesOk (prevL ls (k + 1 + 1)) (ls.drop (k + 1 + 1))) := by
            rw [Hid, HLT.out, HIF.out.1 (by omega)]; rfl
          clear HLT HIF
          refine wp_region_over (by kernel_rfl) (by kernel_rfl) ?_
          repeat (go_big_quiet_step (first | exact over_of (lineOk_is H1.out HWK.out _) | exact over_of (cmpLines_is HV.out _)))
          refine wpQuiet_nil ?_
          rintro _ ⟨⟨u1, q1⟩, hu1⟩
          subst hu1
          go_wp2
          go_roundw
          case rel => exact ⟨k + 1 + 1, by omega, by go_num, HN.out, HBV.out.trans (q1.mono hVw)⟩
          case measure => simp [intOf]; omega
    · have hke : k = ls.length := by omega
      subst hke
      have hki : ¬ (ls.length : Int) < (ls.length : Int) := by omega
      have hall : linesOk none ls = true := by rw [HOK.out, linesOk_end]
      have HE : Hid (ledgerOk ls = evB ls) := even_of hall hl4
      have HBD : Hid (∀ x ∈ ls, -1000000000000 ≤ x.2.2 ∧ x.2.2 ≤ 1000000000000) := fun x hx => (lnOk_is (linesOk_mem hall x hx)).2.2.1
      have l0 := (hbr.cell (p := ⟨w.heap.size, 0, none⟩) hWs).trans HK.out
      have q0 := next bW hbr
      have HZR : Hid (LinesAt wr ao ls) := HZ.out.below hbr
      clear HOK hall hbr bW
      go_wp2_with fail
      refine (even_any _ _ _ _ HZR.out hl4 HBD.out (fun x hx => (HWF.out x hx).2.1)).mono ?_
      rintro e u1 ⟨rfl, b1⟩
      have q1 := next q0 b1
      obtain ⟨V, hV⟩ : ∃ V, evB ls = V := ⟨_, rfl⟩
      rw [hV] at HE ⊢
      clear b1 q0 hV
      go_wp2
      go_ret
      exact ⟨one_bool HE.out.symm, q1⟩

end Go.Proofs.YtnimlgdackgcoaaGreatDoor
