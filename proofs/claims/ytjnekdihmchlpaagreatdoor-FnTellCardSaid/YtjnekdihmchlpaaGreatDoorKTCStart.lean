/- The contracts of CaseStart, the program's and the specification's. -/
import Derived.Test.YtjnekdihmchlpaaGreatDoorJT3a
import Derived.Test.YtjnekdihmchlpaaGreatDoorKTICaseOk
import Derived.Test.YtjnekdihmchlpaaGreatDoorKTSCaseOk
import Derived.Deep.DeepCutAuto
import Derived.Laws.OwnMore
namespace Go.Proofs.YtjnekdihmchlpaaGreatDoor
open Go.RowKit
set_option maxRecDepth 100000

def zeroC : Cs := ⟨0, 0, 0, 0, 0, 0, 0, 0, 0, false, 0, 0⟩
/-- what a start answers: the case, its entries -/
def startV (iss acq cur am day : Int) : Cs := if caseOk (startC iss acq cur am day) = true then startC iss acq cur am day else zeroC
def startE (iss acq cur am day : Int) : List En := if caseOk (startC iss acq cur am day) = true then [(iss, acq, cur, am)] else []
/-- a case, entries of one's own, and a flag -/
def StartR (w : World) (c : Cs) (es : List En) (ok : Bool) (e : Ending) (w' : World) : Prop :=
  ∃ ao cap, e = .returned (.tuple #[cv c, .slice ao es.length cap, .bool ok]) ∧ w'.ownsRow w.heap.size 134 4 (.slice ao es.length cap) es.length (ecells es) ∧ Below w.heap.size w w'
theorem own_none (w : World) (b : Nat) (hb : b ≤ w.heap.size) : (w.alloc (.cells #[] 134)).ownsRow b 134 4 (.slice (some ⟨w.heap.size, 0, none⟩) 0 0) 0 [] := by
  exact World.ownsRow_lit (size := 4) w #[] 0 hb (by decide) rfl
theorem own_one (w : World) (b : Nat) (x : En) (hb : b ≤ w.heap.size) : (w.alloc (.cells #[.int .i64 x.1, .int .i64 x.2.1, .int .i64 x.2.2.1, .int .i64 x.2.2.2] 134)).ownsRow b 134 4 (.slice (some ⟨w.heap.size, 0, none⟩) 1 1) 1 (ecells [x]) := by
  exact World.ownsRow_lit (size := 4) w #[.int .i64 x.1, .int .i64 x.2.1, .int .i64 x.2.2.1, .int .i64 x.2.2.2] 1 hb (by decide) rfl

theorem own_put12 {u : World} {h base n size : Nat} {t : TypeId} {v : Value} {xs : List Value} (c : Cs) (o : u.ownsRow base t size v n xs) (hne : ∀ g, v.ownBlock = some g → g ≠ h) : (put12 u h c).ownsRow base t size v n xs :=
  keepSetL (keepSetL (keepSetL (keepSetL (keepSetL (keepSetL (keepSetL (keepSetL (keepSetL (keepSetL (keepSetL (keepSetL o _ _ hne) _ _ hne) _ _ hne) _ _ hne) _ _ hne) _ _ hne) _ _ hne) _ _ hne) _ _ hne) _ _ hne) _ _ hne) _ _ hne
theorem start_end {w u : World} {c : Cs} {es : List En} {ok : Bool} {ao : Option Addr} {cap : Nat} (ho : u.ownsRow (w.heap.size + 1) 134 4 (.slice ao es.length cap) es.length (ecells es)) (bel : Below w.heap.size w u) :
    StartR w c es ok (.returned (.tuple #[cv c, .slice ao es.length cap, .bool ok])) (put12 u w.heap.size c) :=
  ⟨ao, cap, rfl, lowerL (own_put12 c ho (fun g hg => by have := (ho.lt g hg).1; omega)) (by omega), put12_below c bel (Nat.le_refl _)⟩

set_option maxHeartbeats 3200000 in
theorem sStart_any (iss acq cur am day : Int) (w : World) :
    Calls Tryz.prog 47 #[.int .i64 iss, .int .i64 acq, .int .i64 cur, .int .i64 am, .int .i64 day] w (StartR w (startV iss acq cur am day) (startE iss acq cur am day) (caseOk (startC iss acq cur am day))) := by
  have HC : Hid (∀ u, Calls Tryz.prog 25 #[.agg #[.int .i64 iss, .int .i64 acq, .int .i64 cur, .int .i64 am, .int .i64 0, .int .i64 0, .int .i64 0, .int .i64 0, .int .i64 0, .bool false, .int .i64 day, .int .i64 (-1)]] u fun e w' => e = .returned (.bool (caseOk (startC iss acq cur am day))) ∧ Below u.heap.size u w') := fun u => sCaseOk_any (startC iss acq cur am day) u
  obtain ⟨W, hW⟩ : ∃ W, W = (w.alloc (.cells #[.int .i64 0, .int .i64 0, .int .i64 0, .int .i64 0, .int .i64 0, .int .i64 0, .int .i64 0, .int .i64 0, .int .i64 0, .bool false, .int .i64 0, .int .i64 0] 25)).alloc (.cells #[.int .i64 iss, .int .i64 acq, .int .i64 cur, .int .i64 am, .int .i64 0, .int .i64 0, .int .i64 0, .int .i64 0, .int .i64 0, .bool false, .int .i64 day, .int .i64 (-1)] 25) := ⟨_, rfl⟩
  have HW : Hid _ := hW
  have HBW : Hid (Below w.heap.size w W) := by rw [Hid, hW]; go_grown
  have HB1 : Hid (CB w.heap.size 0 zeroC W) := by
    rw [Hid, hW]; exact (CB.new w zeroC _).below ((Below.refl _ _).alloc (Nat.le_refl _) _)
  have HF1 : Hid (FZ w.heap.size 0 W) := by
    rw [Hid, hW]; exact (FZ.new w _ _).below (by simp) ((Below.refl _ _).alloc (Nat.le_refl _) _)
  have HB2 : Hid (CB (w.heap.size + 1) 0 (startC iss acq cur am day) W) := by
    have h := CB.new (w.alloc (.cells #[.int .i64 0, .int .i64 0, .int .i64 0, .int .i64 0, .int .i64 0, .int .i64 0, .int .i64 0, .int .i64 0, .int .i64 0, .bool false, .int .i64 0, .int .i64 0] 25)) (startC iss acq cur am day) 25
    have e : (w.alloc (.cells #[.int .i64 0, .int .i64 0, .int .i64 0, .int .i64 0, .int .i64 0, .int .i64 0, .int .i64 0, .int .i64 0, .int .i64 0, .bool false, .int .i64 0, .int .i64 0] 25)).heap.size = w.heap.size + 1 := by simp
    rw [e] at h
    rw [Hid, hW]; exact h
  have HS : Hid (W.heap.size = w.heap.size + 1 + 1) := by rw [Hid, hW]; simp
  clear hW
  go_enter Tryz.func47, Tryz.ntmps47
  go_upto_region 2 with fail
  rw [← HW.out]
  clear HW
  obtain ⟨f0, f1, f2, f3, f4, f5, f6, f7, f8, f9, f10, f11⟩ := HB2.out
  simp only [Nat.zero_add, startC] at f0 f1 f2 f3 f4 f5 f6 f7 f8 f9 f10 f11
  go_wp2_with fail
  refine (HC.out _).mono ?_
  rintro e w1 ⟨rfl, b1⟩
  have HL : Hid (w.heap.size < W.heap.size) := HB1.out.lt
  have HQ1 : Hid (CB w.heap.size 0 zeroC w1) := HB1.out.below b1
  have HQF : Hid (FZ w.heap.size 0 w1) := HF1.out.below HL.out b1
  have HQ2 : Hid (CB (w.heap.size + 1) 0 (startC iss acq cur am day) w1) := HB2.out.below b1
  have HBB : Hid (Below w.heap.size w w1) := next HBW.out b1
  have HSZ : Hid (w.heap.size + 1 + 1 ≤ w1.heap.size) := by rw [Hid, ← HS.out]; exact b1.size
  clear b1 f0 f1 f2 f3 f4 f5 f6 f7 f8 f9 f10 f11
  obtain ⟨z0, z1, z2, z3, z4, z5, z6, z7, z8, z9, z10, z11⟩ := HQF.out
  simp only [Nat.zero_add] at z0 z1 z2 z3 z4 z5 z6 z7 z8 z9 z10 z11
  obtain ⟨f0, f1, f2, f3, f4, f5, f6, f7, f8, f9, f10, f11⟩ := HQ1.out
  simp only [Nat.zero_add, zeroC] at f0 f1 f2 f3 f4 f5 f6 f7 f8 f9 f10 f11
  cases hk : caseOk (startC iss acq cur am day)
  · have HV : Hid (startV iss acq cur am day = zeroC) := if_neg (by rw [hk]; decide)
    have HE : Hid (startE iss acq cur am day = []) := if_neg (by rw [hk]; decide)
    have HK : Hid _ := hk
    clear hk
    have HA : Hid (∀ o, CB w.heap.size 0 zeroC (w1.alloc o)) := fun o => HQ1.out.below ((Below.refl _ _).alloc (Nat.le_refl _) _)
    have HAZ : Hid (∀ o, FZ w.heap.size 0 (w1.alloc o)) := fun o => HQF.out.below HQ1.out.lt ((Below.refl _ _).alloc (Nat.le_refl _) _)
    have a0 : ∀ o, (w1.alloc o).cell? ⟨w.heap.size, 0, none⟩ = some (.int .i64 0) := fun o => (HA.out o).f0
    have y0 : ∀ o, (w1.alloc o).frozen? ⟨w.heap.size, 0, none⟩ = false := fun o => (HAZ.out o).z0
    have a1 : ∀ o, (w1.alloc o).cell? ⟨w.heap.size, 1, none⟩ = some (.int .i64 0) := fun o => (HA.out o).f1
    have y1 : ∀ o, (w1.alloc o).frozen? ⟨w.heap.size, 1, none⟩ = false := fun o => (HAZ.out o).z1
    have a2 : ∀ o, (w1.alloc o).cell? ⟨w.heap.size, 2, none⟩ = some (.int .i64 0) := fun o => (HA.out o).f2
    have y2 : ∀ o, (w1.alloc o).frozen? ⟨w.heap.size, 2, none⟩ = false := fun o => (HAZ.out o).z2
    have a3 : ∀ o, (w1.alloc o).cell? ⟨w.heap.size, 3, none⟩ = some (.int .i64 0) := fun o => (HA.out o).f3
    have y3 : ∀ o, (w1.alloc o).frozen? ⟨w.heap.size, 3, none⟩ = false := fun o => (HAZ.out o).z3
    have a4 : ∀ o, (w1.alloc o).cell? ⟨w.heap.size, 4, none⟩ = some (.int .i64 0) := fun o => (HA.out o).f4
    have y4 : ∀ o, (w1.alloc o).frozen? ⟨w.heap.size, 4, none⟩ = false := fun o => (HAZ.out o).z4
    have a5 : ∀ o, (w1.alloc o).cell? ⟨w.heap.size, 5, none⟩ = some (.int .i64 0) := fun o => (HA.out o).f5
    have y5 : ∀ o, (w1.alloc o).frozen? ⟨w.heap.size, 5, none⟩ = false := fun o => (HAZ.out o).z5
    have a6 : ∀ o, (w1.alloc o).cell? ⟨w.heap.size, 6, none⟩ = some (.int .i64 0) := fun o => (HA.out o).f6
    have y6 : ∀ o, (w1.alloc o).frozen? ⟨w.heap.size, 6, none⟩ = false := fun o => (HAZ.out o).z6
    have a7 : ∀ o, (w1.alloc o).cell? ⟨w.heap.size, 7, none⟩ = some (.int .i64 0) := fun o => (HA.out o).f7
    have y7 : ∀ o, (w1.alloc o).frozen? ⟨w.heap.size, 7, none⟩ = false := fun o => (HAZ.out o).z7
    have a8 : ∀ o, (w1.alloc o).cell? ⟨w.heap.size, 8, none⟩ = some (.int .i64 0) := fun o => (HA.out o).f8
    have y8 : ∀ o, (w1.alloc o).frozen? ⟨w.heap.size, 8, none⟩ = false := fun o => (HAZ.out o).z8
    have a9 : ∀ o, (w1.alloc o).cell? ⟨w.heap.size, 9, none⟩ = some (.bool false) := fun o => (HA.out o).f9
    have y9 : ∀ o, (w1.alloc o).frozen? ⟨w.heap.size, 9, none⟩ = false := fun o => (HAZ.out o).z9
    have a10 : ∀ o, (w1.alloc o).cell? ⟨w.heap.size, 10, none⟩ = some (.int .i64 0) := fun o => (HA.out o).f10
    have y10 : ∀ o, (w1.alloc o).frozen? ⟨w.heap.size, 10, none⟩ = false := fun o => (HAZ.out o).z10
    have a11 : ∀ o, (w1.alloc o).cell? ⟨w.heap.size, 11, none⟩ = some (.int .i64 0) := fun o => (HA.out o).f11
    have y11 : ∀ o, (w1.alloc o).frozen? ⟨w.heap.size, 11, none⟩ = false := fun o => (HAZ.out o).z11
    clear f0 f1 f2 f3 f4 f5 f6 f7 f8 f9 f10 f11 z0 z1 z2 z3 z4 z5 z6 z7 z8 z9 z10 z11
    clear HC
    go_wp2
    refine bodyPost_ret (by simp [results, Tryz.results47, go_sem, a0, a1, a2, a3, a4, a5, a6, a7, a8, a9, a10, a11]; try rfl) rfl ?_
    rw [HV.out, HE.out, HK.out]
    exact start_end (c := zeroC) (es := []) (own_none w1 _ (by have := HSZ.out; omega)) (HBB.out.alloc HBB.out.size _)
  · have HV : Hid (startV iss acq cur am day = startC iss acq cur am day) := if_pos hk
    have HE : Hid (startE iss acq cur am day = [(iss, acq, cur, am)]) := if_pos hk
    have HK : Hid _ := hk
    clear hk
    obtain ⟨g0, g1, g2, g3, g4, g5, g6, g7, g8, g9, g10, g11⟩ := HQ2.out
    simp only [Nat.zero_add, startC] at g0 g1 g2 g3 g4 g5 g6 g7 g8 g9 g10 g11
    have HA : Hid (∀ o, CB w.heap.size 0 zeroC (w1.alloc o)) := fun o => HQ1.out.below ((Below.refl _ _).alloc (Nat.le_refl _) _)
    have HAZ : Hid (∀ o, FZ w.heap.size 0 (w1.alloc o)) := fun o => HQF.out.below HQ1.out.lt ((Below.refl _ _).alloc (Nat.le_refl _) _)
    have a0 : ∀ o, (w1.alloc o).cell? ⟨w.heap.size, 0, none⟩ = some (.int .i64 0) := fun o => (HA.out o).f0
    have y0 : ∀ o, (w1.alloc o).frozen? ⟨w.heap.size, 0, none⟩ = false := fun o => (HAZ.out o).z0
    have a1 : ∀ o, (w1.alloc o).cell? ⟨w.heap.size, 1, none⟩ = some (.int .i64 0) := fun o => (HA.out o).f1
    have y1 : ∀ o, (w1.alloc o).frozen? ⟨w.heap.size, 1, none⟩ = false := fun o => (HAZ.out o).z1
    have a2 : ∀ o, (w1.alloc o).cell? ⟨w.heap.size, 2, none⟩ = some (.int .i64 0) := fun o => (HA.out o).f2
    have y2 : ∀ o, (w1.alloc o).frozen? ⟨w.heap.size, 2, none⟩ = false := fun o => (HAZ.out o).z2
    have a3 : ∀ o, (w1.alloc o).cell? ⟨w.heap.size, 3, none⟩ = some (.int .i64 0) := fun o => (HA.out o).f3
    have y3 : ∀ o, (w1.alloc o).frozen? ⟨w.heap.size, 3, none⟩ = false := fun o => (HAZ.out o).z3
    have a4 : ∀ o, (w1.alloc o).cell? ⟨w.heap.size, 4, none⟩ = some (.int .i64 0) := fun o => (HA.out o).f4
    have y4 : ∀ o, (w1.alloc o).frozen? ⟨w.heap.size, 4, none⟩ = false := fun o => (HAZ.out o).z4
    have a5 : ∀ o, (w1.alloc o).cell? ⟨w.heap.size, 5, none⟩ = some (.int .i64 0) := fun o => (HA.out o).f5
    have y5 : ∀ o, (w1.alloc o).frozen? ⟨w.heap.size, 5, none⟩ = false := fun o => (HAZ.out o).z5
    have a6 : ∀ o, (w1.alloc o).cell? ⟨w.heap.size, 6, none⟩ = some (.int .i64 0) := fun o => (HA.out o).f6
    have y6 : ∀ o, (w1.alloc o).frozen? ⟨w.heap.size, 6, none⟩ = false := fun o => (HAZ.out o).z6
    have a7 : ∀ o, (w1.alloc o).cell? ⟨w.heap.size, 7, none⟩ = some (.int .i64 0) := fun o => (HA.out o).f7
    have y7 : ∀ o, (w1.alloc o).frozen? ⟨w.heap.size, 7, none⟩ = false := fun o => (HAZ.out o).z7
    have a8 : ∀ o, (w1.alloc o).cell? ⟨w.heap.size, 8, none⟩ = some (.int .i64 0) := fun o => (HA.out o).f8
    have y8 : ∀ o, (w1.alloc o).frozen? ⟨w.heap.size, 8, none⟩ = false := fun o => (HAZ.out o).z8
    have a9 : ∀ o, (w1.alloc o).cell? ⟨w.heap.size, 9, none⟩ = some (.bool false) := fun o => (HA.out o).f9
    have y9 : ∀ o, (w1.alloc o).frozen? ⟨w.heap.size, 9, none⟩ = false := fun o => (HAZ.out o).z9
    have a10 : ∀ o, (w1.alloc o).cell? ⟨w.heap.size, 10, none⟩ = some (.int .i64 0) := fun o => (HA.out o).f10
    have y10 : ∀ o, (w1.alloc o).frozen? ⟨w.heap.size, 10, none⟩ = false := fun o => (HAZ.out o).z10
    have a11 : ∀ o, (w1.alloc o).cell? ⟨w.heap.size, 11, none⟩ = some (.int .i64 0) := fun o => (HA.out o).f11
    have y11 : ∀ o, (w1.alloc o).frozen? ⟨w.heap.size, 11, none⟩ = false := fun o => (HAZ.out o).z11
    clear f0 f1 f2 f3 f4 f5 f6 f7 f8 f9 f10 f11 z0 z1 z2 z3 z4 z5 z6 z7 z8 z9 z10 z11
    clear HC
    go_wp2
    refine bodyPost_ret (by simp [results, Tryz.results47, go_sem, a0, a1, a2, a3, a4, a5, a6, a7, a8, a9, a10, a11]; try rfl) rfl ?_
    rw [HV.out, HE.out, HK.out]
    exact start_end (c := startC iss acq cur am day) (es := [(iss, acq, cur, am)]) (own_one w1 _ (iss, acq, cur, am) (by have := HSZ.out; omega)) (HBB.out.alloc HBB.out.size _)

end Go.Proofs.YtjnekdihmchlpaaGreatDoor
