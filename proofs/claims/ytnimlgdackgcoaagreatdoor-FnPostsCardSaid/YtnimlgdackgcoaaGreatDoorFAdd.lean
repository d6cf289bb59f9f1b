/- The contract of the program's balances.add. -/
import Derived.Test.YtnimlgdackgcoaaGreatDoorMapA
import Derived.Deep.RegionHeld3
import Derived.Deep.DeepCutAuto
import Derived.Handy
namespace Go.Proofs.YtnimlgdackgcoaaGreatDoor
open Go.RowKit Go.Maps
set_option maxRecDepth 100000

theorem upd_zero {f : Int → Int → Option Int} {a c m v : Int} (hv : (f a c).getD 0 = v) (h0 : v + m = 0) : upd f a c m = fun a' c' => if a' = a ∧ c' = c then none else if a' = a ∧ c' = c then some (v + m) else f a' c' := by
  funext a' c'
  unfold upd
  by_cases he : a' = a ∧ c' = c
  · rw [if_pos he, if_pos he, hv, if_pos h0]
  · rw [if_neg he, if_neg he, if_neg he]
theorem upd_some {f : Int → Int → Option Int} {a c m v : Int} (hv : (f a c).getD 0 = v) (h0 : v + m ≠ 0) : upd f a c m = fun a' c' => if a' = a ∧ c' = c then some (v + m) else f a' c' := by
  funext a' c'
  unfold upd
  by_cases he : a' = a ∧ c' = c
  · rw [if_pos he, if_pos he, hv, if_neg h0]
  · rw [if_neg he, if_neg he]

set_option maxHeartbeats 1600000 in
theorem add_any (b n : Nat) (f : Int → Int → Option Int) (a c m v : Int) (w : World) (h : MapF w b n f) (ha : wf64 a) (hc : wf64 c) (hv : (f a c).getD 0 = v) (hbd : -9000000000000000000 ≤ v + m ∧ v + m ≤ 9000000000000000000) (hn : n < maxLen) :
    Calls Tryz.prog 26 #[.map (some b), .agg #[.int .i64 a, .int .i64 c], .int .i64 m] w fun e w' => e = .returned (.tuple #[]) ∧ MapF w' b (n + 1) (upd f a c m) ∧ w.grownBy w' (some b) := by
  obtain ⟨W0, hW0⟩ : ∃ W0, W0 = w.alloc (.cells #[.int .i64 a, .int .i64 c] 56) := ⟨_, rfl⟩
  have hbl : b < w.heap.size := h.lt
  have k0 : W0.cell? ⟨w.heap.size, 0, none⟩ = some (.int .i64 a) := by rw [hW0]; simp
  have k1 : W0.cell? ⟨w.heap.size, 1, none⟩ = some (.int .i64 c) := by rw [hW0]; simp
  have hs0 : w.heap.size < W0.heap.size := by rw [hW0]; simp
  have G0 : w.grownBy W0 (some b) := by rw [hW0]; exact World.grownBy_alloc w _ _
  have M0 : MapF W0 b n f := by rw [hW0]; exact h.kept (World.grownBy_alloc w _ none) (by simp)
  have M1 : MapF W0.drew b n f := M0
  obtain ⟨st, W1, W2, hE, hL, hL1, hS, hL2, hg1, hg2, M2⟩ := add_steps (m := m) M1 ha hc hv (WalkArith.wf_i64 (by omega)) hn
  have hwr : IntKind.i64.wrap (v + m) = v + m := by simp [IntKind.wrap, IntKind.bits, IntKind.signed]; omega
  have x0 := (hg1.cell_far ⟨w.heap.size, 0, none⟩ hs0 (by simp; omega)).trans k0
  have x1 := (hg1.cell_far ⟨w.heap.size, 1, none⟩ hs0 (by simp; omega)).trans k1
  have y0 := (hg2.cell_far ⟨w.heap.size, 0, none⟩ hs0 (by simp; omega)).trans k0
  have y1 := (hg2.cell_far ⟨w.heap.size, 1, none⟩ hs0 (by simp; omega)).trans k1
  have G2 : W0.grownBy W2 (some b) := ⟨hg2.os, hg2.tape, hg2.output, hg2.size, hg2.block⟩
  have HG : Hid (w.grownBy W2 (some b)) := G0.trans G2
  have HM : Hid (MapF W2 b (n + 1) (fun a' c' => if a' = a ∧ c' = c then some (v + m) else f a' c')) := M2
  have HKY : Hid _ := keyOf_ac ha hc
  have HA : Hid (wf64 a) := ha
  have HC : Hid (wf64 c) := hc
  clear h M0 M1 M2 hg1 hg2 G0 G2 ha hc
  by_cases h0 : v + m = 0
  · have h0' : (v + m == 0) = true := by simpa using h0
    have HU : Hid _ := upd_zero hv h0
    clear h0 hv
    go_enter Tryz.func26, Tryz.ntmps26
    go_upto_region 1 with fail
    rw [← hW0]
    clear hW0
    go_region
    all_goals
      obtain ⟨D, hown, hview, hwf⟩ := HM.out
      have HO : Hid (W2.ownsMap Tryz.prog 56 (plainElem (H := Unit) Tryz.prog 3) b (n + 1) D) := hown
      have HV : Hid _ := viewF_del hview HA.out HC.out
      have HWF : Hid _ := hwf
      clear hown hview hwf
      go_wp2_with (at_delete; refine wpList_delete_own _ rfl _ _ 52 56 rfl 3 lawK Tryz.underlying52 _ b (n + 1) D rfl HO.out _ _ rfl HKY.out ?_; intro w3 hown3 hturn3)
      have hg3 := hturn3.grown
      go_end0
      refine ⟨rfl, ⟨_, hown3, ?_, ?_⟩, HG.out.trans hg3⟩
      · rw [HU.out]; exact HV.out
      · rw [HU.out]
        intro a' c' hf
        by_cases he : a' = a ∧ c' = c
        · simp only [if_pos he] at hf; exact absurd rfl hf
        · simp only [if_neg he] at hf
          exact HWF.out a' c' (by simp only [if_neg he]; exact hf)
  · have h0' : (v + m == 0) = false := by simpa using h0
    have HU : Hid _ := upd_some hv h0
    clear h0 hv
    go_enter Tryz.func26, Tryz.ntmps26
    go_upto_region 1 with fail
    rw [← hW0]
    clear hW0
    go_region
    all_goals
      go_wp2
      go_end0
      refine ⟨rfl, ?_, HG.out⟩
      rw [HU.out]; exact HM.out

end Go.Proofs.YtnimlgdackgcoaaGreatDoor
