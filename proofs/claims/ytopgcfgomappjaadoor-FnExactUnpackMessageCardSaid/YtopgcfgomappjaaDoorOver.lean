/- A region that draws its order and whose callees make memory of their own: walked once, over the class of all worlds in which what was there stands. -/
import Derived.Test.YtopgcfgomappjaaDoorBase
namespace Go.Proofs.YtopgcfgomappjaaDoor
open Go.RowKit

/-- a world in which all that W holds stands -/
structure Over (W : World) where
  x : World
  h : Below W.heap.size W x

theorem over_ne (W : World) : Nonempty (Over W) := ⟨⟨W, Below.refl _ _⟩⟩
theorem over_cell {W : World} {a : Addr} {v : Value} (h : W.cell? a = some v) (z : Over W) : z.x.cell? a = some v := (z.h.cell (p := a) (World.block_lt_of_cell? W _ h)).trans h

theorem wp_region_over {P : Program} {id : Nat} {Q : Exit → Act → World → Prop} {a : Act} {w : World} {l : List Oper} (hm : P.follows .mixedOrders = true) (hB : Region.lexB .any l.toArray = true)
    (h : wpQuiet P l.toArray (fun w' => ∃ z : Over w, w' = z.x) (fun a' => ∀ w', (∃ z : Over w, w' = z.x) → Q .normal a' w') l a) : (Code.region id l.toArray true).wp P Q a w :=
  wp_region_quiet (C := fun w' => ∃ z : Over w, w' = z.x) hm hB ⟨⟨_, (Below.refl _ _).drew⟩, rfl⟩ (by simpa using h)

theorem over_of {P : Program} {f : FuncId} {args : Array Value} {w : World} {z : Over w} {v : Value} (h : Calls P f args z.x fun e w' => e = .returned v ∧ Below z.x.heap.size z.x w') :
    Calls P f args z.x fun e w'' => e = .returned v ∧ ∃ y : Over w, w'' = y.x :=
  h.mono fun _ w' ⟨he, hb⟩ => ⟨he, ⟨w', z.h.trans (hb.mono z.h.size)⟩, rfl⟩

end Go.Proofs.YtopgcfgomappjaaDoor
