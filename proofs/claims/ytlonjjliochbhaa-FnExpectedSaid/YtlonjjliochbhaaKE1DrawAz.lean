/- The first statement of a drawn act: a kind, an amount and a reason in a box, in whatever order. -/
import Derived.Test.YtlonjjliochbhaaKE1DrawAc
namespace Go.Proofs.Ytlonjjliochbhaa
open Go.RowKit
set_option maxRecDepth 100000

def litR : Array Value := #[.int .i64 4837, .int .i64 4855, .int .i64 4834, .int .i64 4831, .int .i64 4853, .int .i64 4841]
/-- a world on the way through that statement: its box and its list, if they are made -/
structure AZ (B g : Nat) (w : World) (k : Cs) (u : World) (ob ol : Option Nat) : Prop where
  cb : CB w.heap.size 0 k u
  rb : AB (w.heap.size + 1) ⟨0, 0, 0⟩ u
  cur : Cursor B u g
  gr : w.grownBy u (some g)
  gl : g < w.heap.size
  bl : B ≤ w.heap.size
  box : ∀ h, ob = some h → w.heap.size + 1 < h ∧ AB h ⟨0, 0, 0⟩ u
  ls : ∀ b, ol = some b → w.heap.size + 1 < b ∧ ∀ i, i < 6 → u.cell? ⟨b, i, none⟩ = some (.int .i64 (rL.getD i 0))
theorem AZ.call {B g : Nat} {w : World} {k : Cs} {u u' : World} {ob ol : Option Nat} (q : AZ B g w k u ob ol) (c : Cursor B u' g) (r : u.grownBy u' (some g)) : AZ B g w k u' ob ol := by
  have gl := q.gl
  refine ⟨q.cb.grown r (by simp; omega), q.rb.grown r (by simp; omega), c, q.gr.trans r, gl, q.bl, fun h hh => ?_, fun b hb => ?_⟩
  · obtain ⟨h1, h2⟩ := q.box h hh
    exact ⟨h1, h2.grown r (by simp; omega)⟩
  · obtain ⟨h1, h2⟩ := q.ls b hb
    exact ⟨h1, fun i hi => (r.cell_far ⟨b, i, none⟩ (World.block_lt_of_cell? u _ (h2 i hi)) (by simp; omega)).trans (h2 i hi)⟩
theorem AZ.drew {B g : Nat} {w : World} {k : Cs} {u : World} {ob ol : Option Nat} (q : AZ B g w k u ob ol) : AZ B g w k u.drew ob ol := q.call (cursor_below q.cur ((Below.refl _ _).drew)) ⟨rfl, rfl, rfl, Nat.le_refl _, fun _ _ _ => rfl⟩
theorem AZ.al {B g : Nat} {w : World} {k : Cs} {u : World} {ol : Option Nat} (q : AZ B g w k u none ol) (t : TypeId) : AZ B g w k (u.alloc (.cells #[.int .i64 0, .int .i64 0, .int .i64 0] t)) (some u.heap.size) ol := by
  have p := q.call (cursor_alloc q.cur (.cells #[.int .i64 0, .int .i64 0, .int .i64 0] t)) (World.grownBy_alloc u _ _)
  refine ⟨p.cb, p.rb, p.cur, p.gr, p.gl, p.bl, fun h hh => ?_, p.ls⟩
  injection hh with hh
  subst hh
  exact ⟨q.rb.lt, AB.new u ⟨0, 0, 0⟩ t⟩
theorem AZ.lit {B g : Nat} {w : World} {k : Cs} {u : World} {ob : Option Nat} (q : AZ B g w k u ob none) (t : TypeId) : AZ B g w k (u.alloc (.cells #[.int .i64 4837, .int .i64 4855, .int .i64 4834, .int .i64 4831, .int .i64 4853, .int .i64 4841] t)) ob (some u.heap.size) := by
  have p := q.call (cursor_alloc q.cur (.cells #[.int .i64 4837, .int .i64 4855, .int .i64 4834, .int .i64 4831, .int .i64 4853, .int .i64 4841] t)) (World.grownBy_alloc u _ _)
  refine ⟨p.cb, p.rb, p.cur, p.gr, p.gl, p.bl, p.box, fun b hb => ?_⟩
  injection hb with hb
  subst hb
  refine ⟨q.rb.lt, fun i hi => ?_⟩
  rcases (show i = 0 ∨ i = 1 ∨ i = 2 ∨ i = 3 ∨ i = 4 ∨ i = 5 by omega) with rfl | rfl | rfl | rfl | rfl | rfl <;> simp [rL]

end Go.Proofs.Ytlonjjliochbhaa
