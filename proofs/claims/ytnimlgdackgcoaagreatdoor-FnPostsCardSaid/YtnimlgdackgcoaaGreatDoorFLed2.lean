/- The contracts of the program's BalanceOf, lineOk, compareLines and the library's cmp.Compare and cmp.Or at ints. -/
import Derived.Test.YtnimlgdackgcoaaGreatDoorFLed
import Derived.Test.YtnimlgdackgcoaaGreatDoorEvenP
import Derived.Deep.RegionLaw
import Derived.Deep.DeepCutAuto
namespace Go.Proofs.YtnimlgdackgcoaaGreatDoor
open Go.RowKit
set_option maxRecDepth 100000

set_option maxHeartbeats 400000 in
theorem isNaN_any (a : Int) (w : World) : Calls Tryz.prog 82 #[.int .i64 a] w fun e w' => e = .returned (.bool false) ∧ w' = w := by
  go_enter Tryz.func82, Tryz.ntmps82
  go_wp2
  go_ret
  exact ⟨one_bool (by simp), rfl⟩
set_option maxHeartbeats 800000 in
theorem compare_any (a b : Int) (w : World) : Calls Tryz.prog 63 #[.int .i64 a, .int .i64 b] w fun e w' => e = .returned (.int .i64 (cmpI a b)) ∧ w' = w := by
  by_cases h1 : a < b
  · have HE : Hid (cmpI a b = -1) := if_pos h1
    go_enter Tryz.func63, Tryz.ntmps63
    go_wp2_with (go_at_call 82; refine (isNaN_any _ _).mono ?_; rintro e w' ⟨rfl, rfl⟩)
    go_ret
    exact ⟨one_int HE.out.symm, rfl⟩
  · by_cases h2 : b < a
    · have HE : Hid (cmpI a b = 1) := by rw [Hid, cmpI, if_neg h1, if_pos h2]
      go_enter Tryz.func63, Tryz.ntmps63
      go_wp2_with (go_at_call 82; refine (isNaN_any _ _).mono ?_; rintro e w' ⟨rfl, rfl⟩)
      go_ret
      exact ⟨one_int HE.out.symm, rfl⟩
    · have HE : Hid (cmpI a b = 0) := by rw [Hid, cmpI, if_neg h1, if_neg h2]
      go_enter Tryz.func63, Tryz.ntmps63
      go_wp2_with (go_at_call 82; refine (isNaN_any _ _).mono ?_; rintro e w' ⟨rfl, rfl⟩)
      go_ret
      exact ⟨one_int HE.out.symm, rfl⟩

set_option maxHeartbeats 800000 in
theorem or_any (g : Nat) (x y : Int) (w : World) (c0 : w.cell? ⟨g, 0, none⟩ = some (.int .i64 x)) (c1 : w.cell? ⟨g, 1, none⟩ = some (.int .i64 y)) :
    Calls Tryz.prog 62 #[.slice (some ⟨g, 0, none⟩) 2 2] w fun e w' => e = .returned (.int .i64 (orI x y)) ∧ w' = w := by
  by_cases h1 : x = 0
  · have h1' : (x != 0) = false := by simpa using h1
    by_cases h2 : y = 0
    · have h2' : (y != 0) = false := by simpa using h2
      have HE : Hid ((orI x y) = 0) := by rw [Hid, orI, if_neg (fun h => h h1), h2]
      clear h1 h2
      go_enter Tryz.func62, Tryz.ntmps62
      go_wp2
      refine wp_loop_rounds 3 ?_
      rw [rounds_succ]
      go_wp2
      rw [rounds_succ]
      go_wp2
      rw [rounds_succ]
      go_wp2
      go_ret
      exact ⟨one_int HE.out.symm, rfl⟩
    · have h2' : (y != 0) = true := by simpa using h2
      have HE : Hid ((orI x y) = y) := by rw [Hid, orI, if_neg (fun h => h h1)]
      clear h1 h2
      go_enter Tryz.func62, Tryz.ntmps62
      go_wp2
      refine wp_loop_rounds 2 ?_
      rw [rounds_succ]
      go_wp2
      rw [rounds_succ]
      go_wp2
      go_ret
      exact ⟨one_int HE.out.symm, rfl⟩
  · have h1' : (x != 0) = true := by simpa using h1
    have HE : Hid ((orI x y) = x) := if_pos h1
    clear h1
    go_enter Tryz.func62, Tryz.ntmps62
    go_wp2
    refine wp_loop_rounds 1 ?_
    rw [rounds_succ]
    go_wp2
    go_ret
    exact ⟨one_int HE.out.symm, rfl⟩

set_option maxHeartbeats 1600000 in
theorem lineOk_any (a c m : Int) (w : World) (hc : (Lit.int .i64 c).wf = true) :
    Calls Tryz.prog 45 #[.agg #[.int .i64 a, .int .i64 c, .int .i64 m]] w fun e w' => e = .returned (.bool (lnOk (a, c, m))) ∧ Below w.heap.size w w' := by
  have bel : Below w.heap.size w (w.alloc (.cells #[.int .i64 a, .int .i64 c, .int .i64 m] 49)) := by go_grown
  have HC : Hid _ := hc
  clear hc
  cases h1 : acctOk a
  · have HE : Hid (lnOk (a, c, m) = false) := by simp [Hid, lnOk, h1]
    have H1 : Hid _ := h1
    clear h1
    go_enter Tryz.func45, Tryz.ntmps45
    go_wp2_with fail
    refine (iAcct_is H1.out _).mono ?_
    rintro e w1 ⟨rfl, hw⟩
    rw [hw]
    clear hw
    go_wp2
    go_ret
    exact ⟨one_bool HE.out.symm, bel⟩
  have H1 : Hid _ := h1
  obtain ⟨d, hd⟩ : ∃ d, digs c = d := ⟨_, rfl⟩
  have HD : Hid _ := hd
  have HE : Hid (lnOk (a, c, m) = (decide (0 ≤ d) && (mOk m && decide (m ≠ 0)))) := by simp only [Hid, lnOk, h1, hd, Bool.true_and]
  clear h1 hd
  go_enter Tryz.func45, Tryz.ntmps45
  go_wp2_with fail
  refine (iAcct_is H1.out _).mono ?_
  rintro e w1 ⟨rfl, hw⟩
  rw [hw]
  clear hw
  go_wp2_with fail
  refine (iDigs_is _ d HD.out HC.out).mono ?_
  rintro e w3 ⟨rfl, b3⟩
  have x3 := (b3.cell (p := ⟨w.heap.size, 2, none⟩) (by simp)).trans (show _ = some (.int .i64 m) by simp)
  have q3 := bel.trans (b3.mono bel.size)
  clear b3 bel
  by_cases h4 : 0 ≤ d
  · by_cases h5 : m = 0
    · have HX : Hid (lnOk (a, c, m) = false) := by rw [Hid, HE.out]; simp [h5]
      have h5' : (m != 0) = false := by simpa using h5
      clear HE h5
      go_wp2
      go_ret
      exact ⟨one_bool HX.out.symm, q3⟩
    · have HX : Hid (lnOk (a, c, m) = mOk m) := by rw [Hid, HE.out]; simp [h4, h5]
      have h5' : (m != 0) = true := by simpa using h5
      clear HE h5
      go_wp2_with fail
      refine (iMoneyOk_any _ _).mono ?_
      rintro e w4 ⟨rfl, hw⟩
      rw [hw]
      clear hw
      generalize mOk m = q at HX
      go_wp2
      go_ret
      exact ⟨one_bool HX.out.symm, q3⟩
  · have HX : Hid (lnOk (a, c, m) = false) := by rw [Hid, HE.out]; simp [h4]
    clear HE
    go_wp2
    go_ret
    exact ⟨one_bool HX.out.symm, q3⟩

set_option maxHeartbeats 1600000 in
theorem iBalanceOf_any (ao : Option Addr) (cap : Nat) (ls : List Ln) (a c : Int) (w : World) (hz : LinesAt w ao ls) (hn : ls.length ≤ 1099511627776) :
    Calls Tryz.prog 13 #[.agg #[.slice ao ls.length cap], .int .i64 a, .int .i64 c] w fun e w' => e = .returned (.int .i64 (balL ls a c)) ∧ Below w.heap.size w w' := by
  obtain ⟨W, hW⟩ : ∃ W, W = (w.alloc (.cells #[.slice ao ls.length cap] 26)).alloc (.cells #[.int .i64 a, .int .i64 c] 56) := ⟨_, rfl⟩
  have bW : Below w.heap.size w W := by rw [hW]; go_grown
  have hWs : W.heap.size = w.heap.size + 2 := by rw [hW]; simp
  have k0 : W.cell? ⟨w.heap.size, 0, none⟩ = some (.slice ao ls.length cap) := by rw [hW]; simp [go_sem]
  have k1 : W.cell? ⟨w.heap.size + 1, 0, none⟩ = some (.int .i64 a) := by rw [hW]; simp [go_sem]
  have k2 : W.cell? ⟨w.heap.size + 1, 1, none⟩ = some (.int .i64 c) := by rw [hW]; simp [go_sem]
  have HK1 : Hid _ := k1
  have HK2 : Hid _ := k2
  have HZ : Hid (LinesAt W ao ls) := hz.below bW
  clear hz k1 k2
  go_enter Tryz.func13, Tryz.ntmps13
  go_wp2
  rw [← hW]
  clear hW
  go_loopw [16] (fun i wr => ∃ k : Nat, k ≤ ls.length ∧ i = .int .i64 k ∧ balL ls a c = balL (ls.drop k) a c ∧ Below W.heap.size W wr) (fun i _ => ls.length - (intOf i).toNat)
  case atStart => exact ⟨0, Nat.zero_le _, rfl, rfl, Below.refl _ _⟩
  case round =>
    obtain ⟨k, hk, rfl, hb, hbr⟩ := hrel
    have hbs := hbr.size
    by_cases hlt : k < ls.length
    · have hki : (k : Int) < (ls.length : Int) := by omega
      obtain ⟨b, off, rfl, hb2, c1, c2, c3⟩ := (HZ.out.below hbr).at hlt
      have hst := balL_step ls k a c hlt
      obtain ⟨⟨x, y, z⟩, hx⟩ : ∃ x, lnAt ls k = x := ⟨_, rfl⟩
      rw [hx] at c1 c2 c3 hst
      simp only at c1 c2 c3 hst
      have HST : Hid _ := hb.trans hst
      obtain ⟨V, hV⟩ : ∃ V, V = wr.alloc (.cells #[.int .i64 x, .int .i64 y, .int .i64 z] 49) := ⟨_, rfl⟩
      have bV : Below W.heap.size W V := by rw [hV]; exact hbr.alloc hbs _
      have hVs : V.heap.size = wr.heap.size + 1 := by rw [hV]; simp
      have v0 : V.cell? ⟨wr.heap.size, 0, none⟩ = some (.int .i64 x) := by rw [hV]; simp
      have v1 : V.cell? ⟨wr.heap.size, 1, none⟩ = some (.int .i64 y) := by rw [hV]; simp
      have v2 : V.cell? ⟨wr.heap.size, 2, none⟩ = some (.int .i64 z) := by rw [hV]; simp
      have e1 := (bV.cell (p := ⟨w.heap.size + 1, 0, none⟩) (by show w.heap.size + 1 < W.heap.size; omega)).trans HK1.out
      have e2 := (bV.cell (p := ⟨w.heap.size + 1, 1, none⟩) (by show w.heap.size + 1 < W.heap.size; omega)).trans HK2.out
      clear hst hb hx
      go_upto_region 5 with fail
      rw [← hV]
      clear hV
      have hbv := bV.size
      have HBV : Hid _ := bV
      have HBW : Hid _ := bW
      by_cases hq : x = a ∧ y = c
      · have h1' : (x == a) = true := by simpa using hq.1
        have h2' : (y == c) = true := by simpa using hq.2
        have HV : Hid (balL ls a c = z) := by rw [Hid, HST.out, if_pos hq]
        clear HST hq bV bW hbr
        go_region_with (go_at_call 35; refine (iKey_any _ _ _ _).mono ?_; rintro e w2 ⟨rfl, b2⟩; have g1 := (b2.cell (p := ⟨w.heap.size + 1, 0, none⟩) (by show w.heap.size + 1 < V.heap.size; omega)).trans e1; have g2 := (b2.cell (p := ⟨w.heap.size + 1, 1, none⟩) (by show w.heap.size + 1 < V.heap.size; omega)).trans e2; have g3 := (b2.cell (p := ⟨wr.heap.size, 2, none⟩) (by show wr.heap.size < V.heap.size; omega)).trans v2)
        all_goals
          go_wp2
          go_ret
          exact ⟨one_int HV.out.symm, next HBW.out (HBV.out.trans (((Below.refl _ _).drew.trans b2).mono hbv))⟩
      · have HV : Hid (balL ls a c = balL (ls.drop (k + 1)) a c) := by rw [Hid, HST.out, if_neg hq]
        have hs : ((x == a) = false ∧ (y == c) = true) ∨ ((x == a) = false ∧ (y == c) = false) ∨ ((x == a) = true ∧ (y == c) = false) := by
          cases h1 : (x == a) <;> cases h2 : (y == c) <;> simp_all
        clear HST hq bV bW hbr
        rcases hs with ⟨h1', h2'⟩ | ⟨h1', h2'⟩ | ⟨h1', h2'⟩
        all_goals
          go_region_with (go_at_call 35; refine (iKey_any _ _ _ _).mono ?_; rintro e w2 ⟨rfl, b2⟩; have g1 := (b2.cell (p := ⟨w.heap.size + 1, 0, none⟩) (by show w.heap.size + 1 < V.heap.size; omega)).trans e1; have g2 := (b2.cell (p := ⟨w.heap.size + 1, 1, none⟩) (by show w.heap.size + 1 < V.heap.size; omega)).trans e2; have g3 := (b2.cell (p := ⟨wr.heap.size, 2, none⟩) (by show wr.heap.size < V.heap.size; omega)).trans v2)
          all_goals
            go_wp2
            go_roundw
            case rel => exact ⟨k + 1, by omega, by go_num, HV.out, HBV.out.trans (((Below.refl _ _).drew.trans b2).mono hbv)⟩
            case measure => simp [intOf]; omega
    · have hke : k = ls.length := by omega
      subst hke
      have HV : Hid (balL ls a c = 0) := by rw [Hid, hb, List.drop_of_length_le (Nat.le_refl _)]; rfl
      have hki : ¬ (ls.length : Int) < (ls.length : Int) := by omega
      clear hb
      go_wp2
      go_ret
      exact ⟨one_int HV.out.symm, next bW hbr⟩

end Go.Proofs.YtnimlgdackgcoaaGreatDoor
