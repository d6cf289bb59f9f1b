/- The contract of the specification's l09Expire. -/
import Derived.Test.YtjnekdihmchlpaaGreatDoorKTSDo2
namespace Go.Proofs.YtjnekdihmchlpaaGreatDoor
open Go.RowKit
set_option maxRecDepth 100000

set_option maxHeartbeats 6400000 in
theorem sExpire_any (c : Cs) (w : World) (hb : 0 ≤ c.bk ∧ c.bk ≤ 1000000000000) (hc : 0 ≤ c.cl ∧ c.cl ≤ 1000000000000) (hf : 0 ≤ c.fee ∧ c.fee ≤ 1000000) : Calls Tryz.prog 97 #[cv c] w (PairR w (expireC c) (expireE c)) := by
  have HG : Hid (∀ u, Calls Tryz.prog 95 #[cv c, .int .i64 c.cl] u (PairR u (endC c c.cl) (toIss c c.cl))) := fun u => sEnd_any c c.cl u hb hc
  have HG0 : Hid (∀ u, Calls Tryz.prog 95 #[cv c, .int .i64 0] u (PairR u (endC c 0) (toIss c 0))) := fun u => sEnd_any c 0 u hb (by omega)
  have HR : Hid (∀ u, Calls Tryz.prog 96 #[cv c, .int .i64 (c.cl / 2)] u (PairR u (ruleC c (c.cl / 2)) (ruleE c (c.cl / 2)))) := fun u => sRule_any c (c.cl / 2) u hb (by omega) hf
  have HT : Hid (c.cl.tdiv 2 = c.cl / 2) := Int.tdiv_eq_ediv_of_nonneg hc.1
  obtain ⟨W, hW⟩ : ∃ W, W = (w.alloc (.cells #[.int .i64 c.iss, .int .i64 c.acq, .int .i64 c.cur, .int .i64 c.am, .int .i64 c.st, .int .i64 c.rsn, .int .i64 c.cl, .int .i64 c.bk, .int .i64 c.fee, .bool c.cop, .int .i64 c.sta, .int .i64 c.due] 25)).alloc (.cells #[.int .i64 0, .int .i64 0, .int .i64 0, .int .i64 0, .int .i64 0, .int .i64 0, .int .i64 0, .int .i64 0, .int .i64 0, .bool false, .int .i64 0, .int .i64 0] 25) := ⟨_, rfl⟩
  have b1 : Below (w.alloc (.cells #[.int .i64 c.iss, .int .i64 c.acq, .int .i64 c.cur, .int .i64 c.am, .int .i64 c.st, .int .i64 c.rsn, .int .i64 c.cl, .int .i64 c.bk, .int .i64 c.fee, .bool c.cop, .int .i64 c.sta, .int .i64 c.due] 25)).heap.size (w.alloc (.cells #[.int .i64 c.iss, .int .i64 c.acq, .int .i64 c.cur, .int .i64 c.am, .int .i64 c.st, .int .i64 c.rsn, .int .i64 c.cl, .int .i64 c.bk, .int .i64 c.fee, .bool c.cop, .int .i64 c.sta, .int .i64 c.due] 25)) W := by rw [hW]; exact (Below.refl _ _).alloc (Nat.le_refl _) _
  have e1 : (w.alloc (.cells #[.int .i64 c.iss, .int .i64 c.acq, .int .i64 c.cur, .int .i64 c.am, .int .i64 c.st, .int .i64 c.rsn, .int .i64 c.cl, .int .i64 c.bk, .int .i64 c.fee, .bool c.cop, .int .i64 c.sta, .int .i64 c.due] 25)).heap.size = w.heap.size + 1 := by simp
  have HC1 : Hid (CB w.heap.size 0 c W) := (CB.new w c _).below b1
  have HC2 : Hid (CB (w.heap.size + 1) 0 zeroC W) := by
    have h := CB.new (w.alloc (.cells #[.int .i64 c.iss, .int .i64 c.acq, .int .i64 c.cur, .int .i64 c.am, .int .i64 c.st, .int .i64 c.rsn, .int .i64 c.cl, .int .i64 c.bk, .int .i64 c.fee, .bool c.cop, .int .i64 c.sta, .int .i64 c.due] 25)) zeroC 25
    rw [e1] at h
    rw [Hid, hW]; exact h
  have HF2 : Hid (FZ (w.heap.size + 1) 0 W) := by
    have h := FZ.new (w.alloc (.cells #[.int .i64 c.iss, .int .i64 c.acq, .int .i64 c.cur, .int .i64 c.am, .int .i64 c.st, .int .i64 c.rsn, .int .i64 c.cl, .int .i64 c.bk, .int .i64 c.fee, .bool c.cop, .int .i64 c.sta, .int .i64 c.due] 25)) #[.int .i64 0, .int .i64 0, .int .i64 0, .int .i64 0, .int .i64 0, .int .i64 0, .int .i64 0, .int .i64 0, .int .i64 0, .bool false, .int .i64 0, .int .i64 0] 25
    rw [e1] at h
    rw [Hid, hW]; exact h
  have HBW : Hid (Below w.heap.size w W) := by rw [Hid, hW]; go_grown
  have HW : Hid _ := hW
  have HS : Hid (W.heap.size = w.heap.size + 1 + 1) := by rw [Hid, hW]; simp
  clear b1 e1 hW hb hf
  obtain ⟨ex, hex⟩ : ∃ x, expireC c = x := ⟨_, rfl⟩
  obtain ⟨ee, hee⟩ : ∃ x, expireE c = x := ⟨_, rfl⟩
  have HX0 : Hid _ := hex
  have HE0 : Hid _ := hee
  rw [hex, hee]
  clear hex hee
  obtain ⟨iss, acq, cur, am, st, rsn, cl, bk, fee, cop, sta, due⟩ := c
  unfold PairR cv at HG HG0 HR
  unfold cv
  unfold endC at HG HG0
  unfold ruleC at HR
  simp only at HG HG0 HR HT HW hc ⊢
  by_cases h1 : st = 1
  · have HX : Hid (ex = givenC ⟨iss, acq, cur, am, st, rsn, cl, bk, fee, cop, sta, due⟩) := by rw [Hid, ← HX0.out]; simp [expireC, h1]
    have HE : Hid (ee = []) := by rw [Hid, ← HE0.out]; simp [expireE, h1]
    subst h1
    clear HG HG0 HR HT HX0 HE0 HC1 HC2 HF2 HBW HS HW W
    go_enter Tryz.func97, Tryz.ntmps97
    go_wp2
    go_returns
    rw [HX.out, HE.out]
    exact ⟨_, _, rfl, own_none' _ _ _ (by simp) (by simp <;> omega), by go_grown⟩
  have h1' := beq_no h1
  by_cases h5 : st = 5
  · have HX : Hid (ex = endC ⟨iss, acq, cur, am, st, rsn, cl, bk, fee, cop, sta, due⟩ cl) := by rw [Hid, ← HX0.out]; simp [expireC, h5]
    have HE : Hid (ee = toIss ⟨iss, acq, cur, am, st, rsn, cl, bk, fee, cop, sta, due⟩ cl) := by rw [Hid, ← HE0.out]; simp [expireE, h5]
    subst h5
    clear HG0 HR HT HX0 HE0 h1
    go_enter Tryz.func97, Tryz.ntmps97
    go_upto_region 1 with fail
    rw [← HW.out]
    clear HW
    obtain ⟨f0, f1, f2, f3, f4, f5, f6, f7, f8, f9, f10, f11⟩ := HC1.out
    simp only [Nat.zero_add] at f0 f1 f2 f3 f4 f5 f6 f7 f8 f9 f10 f11
    go_wp2_with fail
    refine (HG.out _).mono ?_
    rintro e u ⟨ae, ke, rfl, oe, b⟩
    have HO : Hid (u.ownsRow W.heap.size 134 4 (.slice ae (toIss ⟨iss, acq, cur, am, 5, rsn, cl, bk, fee, cop, sta, due⟩ cl).length ke) (toIss ⟨iss, acq, cur, am, 5, rsn, cl, bk, fee, cop, sta, due⟩ cl).length (ecells (toIss ⟨iss, acq, cur, am, 5, rsn, cl, bk, fee, cop, sta, due⟩ cl))) := oe
    have HB : Hid (Below w.heap.size w u) := next HBW.out b
    have HU2 : Hid (CB (w.heap.size + 1) 0 zeroC u) := HC2.out.below b
    have HV2 : Hid (FZ (w.heap.size + 1) 0 u) := HF2.out.below HC2.out.lt b
    clear b oe f0 f1 f2 f3 f4 f5 f6 f7 f8 f9 f10 f11
    obtain ⟨g0, g1, g2, g3, g4, g5, g6, g7, g8, g9, g10, g11⟩ := HU2.out
    obtain ⟨z0, z1, z2, z3, z4, z5, z6, z7, z8, z9, z10, z11⟩ := HV2.out
    simp only [Nat.zero_add, zeroC] at g0 g1 g2 g3 g4 g5 g6 g7 g8 g9 g10 g11 z0 z1 z2 z3 z4 z5 z6 z7 z8 z9 z10 z11
    obtain ⟨N, hN⟩ : ∃ N, (toIss ⟨iss, acq, cur, am, 5, rsn, cl, bk, fee, cop, sta, due⟩ cl).length = N := ⟨_, rfl⟩
    have HNN : Hid _ := hN
    rw [hN]
    clear hN
    go_wp2
    refine bodyPost_ret (by simp [results, Tryz.results97, go_sem, g0, g1, g2, g3, g4, g5, g6, g7, g8, g9, g10, g11]; try rfl) rfl ?_
    rw [HX.out, HE.out, ← HNN.out]
    exact pair_end (c := endC ⟨iss, acq, cur, am, 5, rsn, cl, bk, fee, cop, sta, due⟩ cl) (h := w.heap.size + 1) (base := W.heap.size) (by omega) (by have := HS.out; omega) HO.out HB.out
  have h5' := beq_no h5
  by_cases h6 : st = 6
  · have HX : Hid (ex = ruleC ⟨iss, acq, cur, am, st, rsn, cl, bk, fee, cop, sta, due⟩ (cl / 2)) := by rw [Hid, ← HX0.out]; simp [expireC, h6]
    have HE : Hid (ee = ruleE ⟨iss, acq, cur, am, st, rsn, cl, bk, fee, cop, sta, due⟩ (cl / 2)) := by rw [Hid, ← HE0.out]; simp [expireE, h6]
    subst h6
    clear HG HG0 HX0 HE0 h1 h5
    go_enter Tryz.func97, Tryz.ntmps97
    go_upto_region 1 with fail
    rw [← HW.out]
    clear HW
    obtain ⟨f0, f1, f2, f3, f4, f5, f6, f7, f8, f9, f10, f11⟩ := HC1.out
    simp only [Nat.zero_add] at f0 f1 f2 f3 f4 f5 f6 f7 f8 f9 f10 f11
    go_wp2_with fail
    try rw [HT.out]
    refine (HR.out _).mono ?_
    rintro e u ⟨ae, ke, rfl, oe, b⟩
    have HO : Hid (u.ownsRow W.heap.size 134 4 (.slice ae (ruleE ⟨iss, acq, cur, am, 6, rsn, cl, bk, fee, cop, sta, due⟩ (cl / 2)).length ke) (ruleE ⟨iss, acq, cur, am, 6, rsn, cl, bk, fee, cop, sta, due⟩ (cl / 2)).length (ecells (ruleE ⟨iss, acq, cur, am, 6, rsn, cl, bk, fee, cop, sta, due⟩ (cl / 2)))) := oe
    have HB : Hid (Below w.heap.size w u) := next HBW.out b
    have HU2 : Hid (CB (w.heap.size + 1) 0 zeroC u) := HC2.out.below b
    have HV2 : Hid (FZ (w.heap.size + 1) 0 u) := HF2.out.below HC2.out.lt b
    clear b oe f0 f1 f2 f3 f4 f5 f6 f7 f8 f9 f10 f11
    obtain ⟨g0, g1, g2, g3, g4, g5, g6, g7, g8, g9, g10, g11⟩ := HU2.out
    obtain ⟨z0, z1, z2, z3, z4, z5, z6, z7, z8, z9, z10, z11⟩ := HV2.out
    simp only [Nat.zero_add, zeroC] at g0 g1 g2 g3 g4 g5 g6 g7 g8 g9 g10 g11 z0 z1 z2 z3 z4 z5 z6 z7 z8 z9 z10 z11
    obtain ⟨N, hN⟩ : ∃ N, (ruleE ⟨iss, acq, cur, am, 6, rsn, cl, bk, fee, cop, sta, due⟩ (cl / 2)).length = N := ⟨_, rfl⟩
    have HNN : Hid _ := hN
    rw [hN]
    clear hN
    go_wp2
    refine bodyPost_ret (by simp [results, Tryz.results97, go_sem, g0, g1, g2, g3, g4, g5, g6, g7, g8, g9, g10, g11]; try rfl) rfl ?_
    rw [HX.out, HE.out, ← HNN.out]
    exact pair_end (c := ruleC ⟨iss, acq, cur, am, 6, rsn, cl, bk, fee, cop, sta, due⟩ (cl / 2)) (h := w.heap.size + 1) (base := W.heap.size) (by omega) (by have := HS.out; omega) HO.out HB.out
  have h6' := beq_no h6
  · have HX : Hid (ex = ⟨iss, acq, cur, am, 7, rsn, 0, bk, fee, cop, sta, -1⟩) := by rw [Hid, ← HX0.out]; simp [expireC, h1, h5, h6, endC]
    rw [Int.add_zero] at HG0
    have HE : Hid (ee = toIss ⟨iss, acq, cur, am, st, rsn, cl, bk, fee, cop, sta, due⟩ 0) := by rw [Hid, ← HE0.out]; simp [expireE, h1, h5, h6, toIss]
    clear HG HR HT HX0 HE0 h1 h5 h6
    go_enter Tryz.func97, Tryz.ntmps97
    go_upto_region 1 with fail
    rw [← HW.out]
    clear HW
    obtain ⟨f0, f1, f2, f3, f4, f5, f6, f7, f8, f9, f10, f11⟩ := HC1.out
    simp only [Nat.zero_add] at f0 f1 f2 f3 f4 f5 f6 f7 f8 f9 f10 f11
    go_wp2_with fail
    refine (HG0.out _).mono ?_
    rintro e u ⟨ae, ke, rfl, oe, b⟩
    have HO : Hid (u.ownsRow W.heap.size 134 4 (.slice ae (toIss ⟨iss, acq, cur, am, st, rsn, cl, bk, fee, cop, sta, due⟩ 0).length ke) (toIss ⟨iss, acq, cur, am, st, rsn, cl, bk, fee, cop, sta, due⟩ 0).length (ecells (toIss ⟨iss, acq, cur, am, st, rsn, cl, bk, fee, cop, sta, due⟩ 0))) := oe
    have HB : Hid (Below w.heap.size w u) := next HBW.out b
    have HU2 : Hid (CB (w.heap.size + 1) 0 zeroC u) := HC2.out.below b
    have HV2 : Hid (FZ (w.heap.size + 1) 0 u) := HF2.out.below HC2.out.lt b
    clear b oe f0 f1 f2 f3 f4 f5 f6 f7 f8 f9 f10 f11
    obtain ⟨g0, g1, g2, g3, g4, g5, g6, g7, g8, g9, g10, g11⟩ := HU2.out
    obtain ⟨z0, z1, z2, z3, z4, z5, z6, z7, z8, z9, z10, z11⟩ := HV2.out
    simp only [Nat.zero_add, zeroC] at g0 g1 g2 g3 g4 g5 g6 g7 g8 g9 g10 g11 z0 z1 z2 z3 z4 z5 z6 z7 z8 z9 z10 z11
    obtain ⟨N, hN⟩ : ∃ N, (toIss ⟨iss, acq, cur, am, st, rsn, cl, bk, fee, cop, sta, due⟩ 0).length = N := ⟨_, rfl⟩
    have HNN : Hid _ := hN
    rw [hN]
    clear hN
    go_wp2
    refine bodyPost_ret (by simp [results, Tryz.results97, go_sem, g0, g1, g2, g3, g4, g5, g6, g7, g8, g9, g10, g11]; try rfl) rfl ?_
    rw [HX.out, HE.out, ← HNN.out]
    exact pair_end (c := ⟨iss, acq, cur, am, 7, rsn, 0, bk, fee, cop, sta, -1⟩) (h := w.heap.size + 1) (base := W.heap.size) (by omega) (by have := HS.out; omega) HO.out HB.out


end Go.Proofs.YtjnekdihmchlpaaGreatDoor
