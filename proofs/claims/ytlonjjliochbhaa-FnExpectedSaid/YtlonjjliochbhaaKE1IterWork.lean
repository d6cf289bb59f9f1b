/- The iterator over the working days behind a day: what it hands to whoever ranges over it. -/
import Derived.RangeFuncNested
import Derived.RangeFuncBound
import Derived.RangeFuncCalls
import Derived.RangeFuncLeaves
import Derived.Shelf.Abstract
import Derived.Shelf.RegionOpen
import Derived.WalkKit
import Derived.OwnWalkIn
import Derived.TacticsInMore
import Derived.LoopNIn
import Derived.LoopIn
import Derived.Test.YtlonjjliochbhaaJE10b
namespace Go.Proofs.Ytlonjjliochbhaa
open Go.RowKit Go.Shelf

/-- The slice at 'ao' reads as 'zs' in w, and lies below block N. -/
def IntsIn (N : Nat) (w : World) (ao : Option Addr) (zs : List Int) : Prop :=
  zs = [] ∨ ∃ b off, ao = some ⟨b, off, none⟩ ∧ b < N ∧ ∀ i, i < zs.length → w.cell? ⟨b, off + i, none⟩ = some (.int .i64 (zs.getD i 0))
theorem IntsIn.keep {N : Nat} {w w' : World} {ao : Option Addr} {zs : List Int} (h : IntsIn N w ao zs) (hb : Below N w w') : IntsIn N w' ao zs := by
  rcases h with h | ⟨b, off, h1, h2, h3⟩
  · exact .inl h
  · exact .inr ⟨b, off, h1, h2, fun i hi => (hb.cell (p := ⟨b, off + i, none⟩) h2).trans (h3 i hi)⟩
theorem IntsIn.at {N : Nat} {w : World} {ao : Option Addr} {zs : List Int} (h : IntsIn N w ao zs) (hN : N ≤ w.heap.size) : IntsAt w ao zs := by
  rcases h with h | ⟨b, off, h1, h2, h3⟩
  · exact .inl h
  · exact .inr ⟨b, off, h1, by omega, h3⟩
theorem IntsAt.in {w : World} {ao : Option Addr} {zs : List Int} (h : IntsAt w ao zs) : IntsIn w.heap.size w ao zs := h

/-- what a round leaves as it was: all below block N, and the box Bo -/
def Keep (N Bo : Nat) (W W' : World) : Prop := Below N W W' ∧ ∀ v, W.cell? ⟨Bo, 0, none⟩ = some v → W'.cell? ⟨Bo, 0, none⟩ = some v
theorem keep_t {N Bo : Nat} {A B C : World} (h : Keep N Bo A B) (k : Keep N Bo B C) : Keep N Bo A C := ⟨h.1.trans k.1, fun v hv => k.2 v (h.2 v hv)⟩
theorem keep_b {N Bo : Nat} {w : World} (hn : N ≤ w.heap.size) (W : World) (l : Nat) (o o' : Obj) (hl : w.heap.size ≤ l) (h : W.heap[l]? = some o) (hc : o.isCells = false) (hw : o.isWalk = false) : Keep N Bo W (W.putObj l o') :=
  ⟨belowK_b hn W l o o' hl h hc hw, fun _ hv => cell_kept hv (grownBy_putObj' W l o') (fun r e => by cases e; exact ⟨o, h, hc⟩)⟩

theorem val_int {k : IntKind} {a b : Int} (h : a = b) : Value.int k a = Value.int k b := by rw [h]
theorem wk_of (zs : List Int) (y : Int) : wk zs y = (decide ((y + 5) % 7 < 5) && !decide (y ∈ zs)) := rfl




end Go.Proofs.Ytlonjjliochbhaa
