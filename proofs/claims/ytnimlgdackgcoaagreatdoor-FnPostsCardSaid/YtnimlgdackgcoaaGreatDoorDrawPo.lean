/- What Post's law draws: a ledger and an entry; whether two ledgers are the same. -/
import Derived.Test.YtnimlgdackgcoaaGreatDoorDrawLg
namespace Go.Proofs.YtnimlgdackgcoaaGreatDoor
open Go.RowKit
set_option maxRecDepth 100000

theorem lines_grown {u u' : World} {ao : Option Addr} {ls : List Ln} {row : Option Nat} (h : LinesAt u ao ls) (gr : u.grownBy u' row) (hs : ∀ b off, ao = some ⟨b, off, none⟩ → some b ≠ row) : LinesAt u' ao ls := by
  rcases h with h | ⟨b, off, rfl, hb, hc⟩
  · exact .inl h
  · have hne := hs b off rfl
    refine .inr ⟨b, off, rfl, Nat.lt_of_lt_of_le hb gr.size, fun i hi => ?_⟩
    obtain ⟨x1, x2, x3⟩ := hc i hi
    exact ⟨(gr.cell_far ⟨b, off + i * 3, none⟩ hb hne).trans x1, (gr.cell_far ⟨b, off + i * 3 + 1, none⟩ hb hne).trans x2, (gr.cell_far ⟨b, off + i * 3 + 2, none⟩ hb hne).trans x3⟩
def PoD (w : World) (e : Ending) (w' : World) : Prop :=
  ∃ ao k ls a b c m, e = .returned (.tuple #[.agg #[.slice ao (List.length ls) k], .agg #[.int .i64 a, .int .i64 b, .int .i64 c, .int .i64 m]]) ∧ LnD ls ∧ EnSm (a, b, c, m) ∧ LinesAt w' ao ls ∧ Below w.heap.size w w'


set_option maxHeartbeats 1600000 in
theorem sameLedger_same (ao bo : Option Addr) (c1 c2 : Nat) (ls : List Ln) (w : World) (hx : LinesAt w ao ls) (hy : LinesAt w bo ls) (h1 : ls.length ≤ 1099511627776) :
    Calls Tryz.prog 8 #[.agg #[.slice ao ls.length c1], .agg #[.slice bo ls.length c2]] w fun e w' => e = .returned (.bool true) ∧ Below w.heap.size w w' := by
  obtain ⟨W, hW⟩ : ∃ W, W = (w.alloc (.cells #[.slice ao ls.length c1] 26)).alloc (.cells #[.slice bo ls.length c2] 26) := ⟨_, rfl⟩
  have bW : Below w.heap.size w W := by rw [hW]; go_grown
  have hWs : W.heap.size = w.heap.size + 2 := by rw [hW]; simp
  have k0 : W.cell? ⟨w.heap.size, 0, none⟩ = some (.slice ao ls.length c1) := by rw [hW]; simp [go_sem]
  have k1 : W.cell? ⟨w.heap.size + 1, 0, none⟩ = some (.slice bo ls.length c2) := by rw [hW]; simp [go_sem]
  have HX : Hid (LinesAt W ao ls) := hx.below bW
  have HY : Hid (LinesAt W bo ls) := hy.below bW
  have HBW : Hid (Below w.heap.size w W) := bW
  have HK0 : Hid (W.cell? ⟨w.heap.size, 0, none⟩ = some (.slice ao ls.length c1)) := k0
  have HK1 : Hid (W.cell? ⟨w.heap.size + 1, 0, none⟩ = some (.slice bo ls.length c2)) := k1
  have HWS : Hid _ := hWs
  clear hx hy bW hWs
  go_enter Tryz.func8, Tryz.ntmps8
  go_wp2
  rw [← hW]
  clear hW k0 k1
  go_loopw [5] (fun i wr => ∃ k : Nat, k ≤ ls.length ∧ i = .int .i64 k ∧ Below W.heap.size W wr) (fun i _ => ls.length - (intOf i).toNat)
  case atStart => exact ⟨0, Nat.zero_le _, rfl, Below.refl _ _⟩
  case round =>
    obtain ⟨k, hk, rfl, hbr⟩ := hrel
    have k0 := (hbr.cell (p := ⟨w.heap.size, 0, none⟩) (by have := HWS.out; show w.heap.size < W.heap.size; omega)).trans HK0.out
    have k1 := (hbr.cell (p := ⟨w.heap.size + 1, 0, none⟩) (by have := HWS.out; show w.heap.size + 1 < W.heap.size; omega)).trans HK1.out
    by_cases hlt : k < ls.length
    · obtain ⟨b, off, rfl, hb, e1, e2, e3⟩ := (HX.out.below hbr).at hlt
      obtain ⟨b', off', rfl, hb', e4, e5, e6⟩ := (HY.out.below hbr).at hlt
      have hki : (k : Int) < (ls.length : Int) := by omega
      obtain ⟨⟨x, y, z⟩, hxk⟩ : ∃ x, lnAt ls k = x := ⟨_, rfl⟩
      rw [hxk] at e1 e2 e3 e4 e5 e6
      simp only at e1 e2 e3 e4 e5 e6
      clear hxk
      go_wp2
      go_region
      all_goals
        go_wp2
        go_roundw
        case rel => exact ⟨k + 1, by omega, by go_num, hbr.drew⟩
        case measure => simp [intOf]; omega
    · go_wp2
      go_ret
      exact ⟨rfl, next HBW.out hbr⟩

end Go.Proofs.YtnimlgdackgcoaaGreatDoor
