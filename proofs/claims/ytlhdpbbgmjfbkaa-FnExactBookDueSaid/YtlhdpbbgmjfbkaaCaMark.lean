/- The laws' marks in a row of cases: only that row is written, and the count goes on. -/
import Derived.Test.YtlhdpbbgmjfbkaaCaSl
import Derived.Handy
import Derived.OwnWalk
namespace Go.Proofs.Ytlhdpbbgmjfbkaa
open Go.RowKit
set_option maxRecDepth 100000

/-- twelve cells of a row of one's own written: it is still a row of one's own -/
theorem stored12 {w : World} {base n g cap : Nat} {t : TypeId} {xs : List Value} (ho : w.ownsRow base t 12 (.slice (some ⟨g, 0, none⟩) n cap) n xs) (j : Nat) (v0 v1 v2 v3 v4 v5 v6 v7 v8 v9 v10 v11 : Value) :
    ∃ ys, ((((((((((((w.setCell ⟨g, j * 12, none⟩ v0).setCell ⟨g, j * 12 + 1, none⟩ v1).setCell ⟨g, j * 12 + 2, none⟩ v2).setCell ⟨g, j * 12 + 3, none⟩ v3).setCell ⟨g, j * 12 + 4, none⟩ v4).setCell ⟨g, j * 12 + 5, none⟩ v5).setCell ⟨g, j * 12 + 6, none⟩ v6).setCell ⟨g, j * 12 + 7, none⟩ v7).setCell ⟨g, j * 12 + 8, none⟩ v8).setCell ⟨g, j * 12 + 9, none⟩ v9).setCell ⟨g, j * 12 + 10, none⟩ v10).setCell ⟨g, j * 12 + 11, none⟩ v11).ownsRow base t 12 (.slice (some ⟨g, 0, none⟩) n cap) n ys ∧ w.grownBy ((((((((((((w.setCell ⟨g, j * 12, none⟩ v0).setCell ⟨g, j * 12 + 1, none⟩ v1).setCell ⟨g, j * 12 + 2, none⟩ v2).setCell ⟨g, j * 12 + 3, none⟩ v3).setCell ⟨g, j * 12 + 4, none⟩ v4).setCell ⟨g, j * 12 + 5, none⟩ v5).setCell ⟨g, j * 12 + 6, none⟩ v6).setCell ⟨g, j * 12 + 7, none⟩ v7).setCell ⟨g, j * 12 + 8, none⟩ v8).setCell ⟨g, j * 12 + 9, none⟩ v9).setCell ⟨g, j * 12 + 10, none⟩ v10).setCell ⟨g, j * 12 + 11, none⟩ v11) (some g) := by
  obtain ⟨h0, g0⟩ := ho.stored (j * 12) v0
  obtain ⟨h1, g1⟩ := h0.stored (j * 12 + 1) v1
  obtain ⟨h2, g2⟩ := h1.stored (j * 12 + 2) v2
  obtain ⟨h3, g3⟩ := h2.stored (j * 12 + 3) v3
  obtain ⟨h4, g4⟩ := h3.stored (j * 12 + 4) v4
  obtain ⟨h5, g5⟩ := h4.stored (j * 12 + 5) v5
  obtain ⟨h6, g6⟩ := h5.stored (j * 12 + 6) v6
  obtain ⟨h7, g7⟩ := h6.stored (j * 12 + 7) v7
  obtain ⟨h8, g8⟩ := h7.stored (j * 12 + 8) v8
  obtain ⟨h9, g9⟩ := h8.stored (j * 12 + 9) v9
  obtain ⟨h10, g10⟩ := h9.stored (j * 12 + 10) v10
  obtain ⟨h11, g11⟩ := h10.stored (j * 12 + 11) v11
  exact ⟨_, h11, (((((((((((g0.trans g1).trans g2).trans g3).trans g4).trans g5).trans g6).trans g7).trans g8).trans g9).trans g10).trans g11)⟩

set_option maxHeartbeats 12800000 in
theorem markCaseS_any (ao : Option Addr) (cap base k n : Nat) (xs : List Value) (w : World) (ho : w.ownsRow base 53 12 (.slice ao n cap) n xs) (hn : n ≤ 1048576) (k2 : k ≤ 1099511627) :
    Calls Try.prog 42 #[.slice ao n cap, .int .i64 k] w fun e w' => e = .returned (.int .i64 ((k + 12 * n : Nat) : Int)) ∧ (∃ ys, w'.ownsRow base 53 12 (.slice ao n cap) n ys) ∧ w.grownBy w' (Value.slice ao n cap).ownBlock := by
  rcases ho.2 with ⟨hv, h0⟩ | ⟨g, cap', cur, hv, hrest⟩
  · obtain ⟨rfl, rfl, rfl⟩ : ao = none ∧ n = 0 ∧ cap = 0 := by simpa using hv
    clear hv h0
    go_enter Try.func42, Try.ntmps42
    go_wp2
    refine wp_loop_rounds 1 ?_
    rw [rounds_succ]
    go_wp2
    go_ret
    exact ⟨rfl, ⟨xs, ho⟩, World.grownBy.refl _ _⟩
  · obtain ⟨rfl, rfl⟩ : ao = some ⟨g, 0, none⟩ ∧ cap = cap' := by simpa using hv
    clear hv hrest
    have HO0 : Hid (w.ownsRow base 53 12 (.slice (some ⟨g, 0, none⟩) n cap) n xs) := ho
    clear ho
    go_enter Try.func42, Try.ntmps42
    go_wp2
    go_loopw [1, 5] (fun c i wr => ∃ (j : Nat) (ys : List Value), j ≤ n ∧ i = .int .i64 j ∧ c = .int .i64 ((k + 12 * j : Nat) : Int) ∧ wr.ownsRow base 53 12 (.slice (some ⟨g, 0, none⟩) n cap) n ys ∧ w.grownBy wr (some g)) (fun _ i _ => n - (intOf i).toNat)
    case atStart => exact ⟨0, xs, Nat.zero_le _, rfl, by simp, HO0.out, World.grownBy.refl _ _⟩
    case round =>
      obtain ⟨j, ys, hj, rfl, rfl, ho, hg⟩ := hrel
      clear HO0
      have HG : Hid (w.grownBy wr (some g)) := hg
      clear hg
      by_cases hlt : j < n
      · have hji : (j : Int) < (n : Int) := by omega
        obtain ⟨m, hm⟩ : ∃ m : Nat, m = k + 12 * j := ⟨_, rfl⟩
        have hmb : m ≤ 7696581390 := by omega
        have HM : Hid (m = k + 12 * j) := hm
        rw [← hm]
        clear hm
        have hyl : ys.length = n * 12 := by simpa using ho.1
        have hex : ∀ p, p < n * 12 → ∃ v, wr.cell? ⟨g, p, none⟩ = some v := fun p hp => by
          rw [ho.cellAt p (by omega)]
          exact ⟨_, List.getElem?_eq_getElem (by omega)⟩
        obtain ⟨o0, y0⟩ := hex (j * 12) (by omega)
        have z0 : wr.frozen? ⟨g, j * 12, none⟩ = false := ho.frozenAt _
        obtain ⟨o1, y1⟩ := hex (j * 12 + 1) (by omega)
        have z1 : wr.frozen? ⟨g, j * 12 + 1, none⟩ = false := ho.frozenAt _
        obtain ⟨o2, y2⟩ := hex (j * 12 + 2) (by omega)
        have z2 : wr.frozen? ⟨g, j * 12 + 2, none⟩ = false := ho.frozenAt _
        obtain ⟨o3, y3⟩ := hex (j * 12 + 3) (by omega)
        have z3 : wr.frozen? ⟨g, j * 12 + 3, none⟩ = false := ho.frozenAt _
        obtain ⟨o4, y4⟩ := hex (j * 12 + 4) (by omega)
        have z4 : wr.frozen? ⟨g, j * 12 + 4, none⟩ = false := ho.frozenAt _
        obtain ⟨o5, y5⟩ := hex (j * 12 + 5) (by omega)
        have z5 : wr.frozen? ⟨g, j * 12 + 5, none⟩ = false := ho.frozenAt _
        obtain ⟨o6, y6⟩ := hex (j * 12 + 6) (by omega)
        have z6 : wr.frozen? ⟨g, j * 12 + 6, none⟩ = false := ho.frozenAt _
        obtain ⟨o7, y7⟩ := hex (j * 12 + 7) (by omega)
        have z7 : wr.frozen? ⟨g, j * 12 + 7, none⟩ = false := ho.frozenAt _
        obtain ⟨o8, y8⟩ := hex (j * 12 + 8) (by omega)
        have z8 : wr.frozen? ⟨g, j * 12 + 8, none⟩ = false := ho.frozenAt _
        obtain ⟨o9, y9⟩ := hex (j * 12 + 9) (by omega)
        have z9 : wr.frozen? ⟨g, j * 12 + 9, none⟩ = false := ho.frozenAt _
        obtain ⟨o10, y10⟩ := hex (j * 12 + 10) (by omega)
        have z10 : wr.frozen? ⟨g, j * 12 + 10, none⟩ = false := ho.frozenAt _
        obtain ⟨o11, y11⟩ := hex (j * 12 + 11) (by omega)
        have z11 : wr.frozen? ⟨g, j * 12 + 11, none⟩ = false := ho.frozenAt _
        have HO : Hid (wr.ownsRow base 53 12 (.slice (some ⟨g, 0, none⟩) n cap) n ys) := ho
        clear hex hyl ho
        go_wp2
        go_roundw
        case rel =>
          obtain ⟨zs, q1, q2⟩ := stored12 HO.out j _ _ _ _ _ _ _ _ _ _ _ _
          exact ⟨j + 1, zs, by omega, by go_num, by have := HM.out; congr 1; omega, q1, HG.out.trans q2⟩
        case measure => simp [intOf]; omega
      · have hjn : j = n := by omega
        have hji : ¬ (j : Int) < (n : Int) := by omega
        subst hjn
        have HO : Hid (wr.ownsRow base 53 12 (.slice (some ⟨g, 0, none⟩) j cap) j ys) := ho
        clear ho
        go_wp2
        go_ret
        exact ⟨rfl, ⟨ys, HO.out⟩, HG.out⟩

end Go.Proofs.Ytlhdpbbgmjfbkaa
