/- What a region that draws its order, calls and makes a box leaves: the box in whatever order it was made. -/
import Derived.Test.YtlonjjliochbhaaJE10a
import Derived.Test.YtlonjjliochbhaaKE1SPost2
namespace Go.Proofs.Ytlonjjliochbhaa
open Go.RowKit
set_option maxRecDepth 100000

/-- a world on the way through a region that began at W: its box, if it is made, is empty yet; what K says stays -/
structure ZB (W u : World) (ob : Option Nat) (K : World → Prop) : Prop where
  bel : Below W.heap.size W u
  box : ∀ B, ob = some B → W.heap.size ≤ B ∧ B < u.heap.size ∧ u.cell? ⟨B, 0, none⟩ = some (.slice none 0 0) ∧ u.frozen? ⟨B, 0, none⟩ = false
  kept : ∀ v, Below u.heap.size u v → K v
theorem ZB.start {W : World} {K : World → Prop} (h : ∀ v, Below W.heap.size W v → K v) : ZB W W none K := ⟨Below.refl _ _, (fun B h => by cases h), h⟩
theorem ZB.call {W u u' : World} {ob : Option Nat} {K : World → Prop} (z : ZB W u ob K) (b : Below u.heap.size u u') : ZB W u' ob K :=
  ⟨next z.bel b, fun B h => by
    obtain ⟨h1, h2, h3, h4⟩ := z.box B h
    exact ⟨h1, Nat.lt_of_lt_of_le h2 b.size, (b.cell (p := ⟨B, 0, none⟩) h2).trans h3, (b.frozen (p := ⟨B, 0, none⟩) h2).trans h4⟩, fun v hv => z.kept v (b.trans (hv.mono b.size))⟩
theorem ZB.drew {W u : World} {ob : Option Nat} {K : World → Prop} (z : ZB W u ob K) : ZB W u.drew ob K := z.call ((Below.refl _ _).drew)
theorem ZB.al {W u : World} {K : World → Prop} (z : ZB W u none K) (t : TypeId) : ZB W (u.alloc (.cells #[.slice none 0 0] t)) (some u.heap.size) K := by
  have b : Below u.heap.size u (u.alloc (.cells #[.slice none 0 0] t)) := by go_grown
  refine ⟨next z.bel b, fun B h => ?_, fun v hv => z.kept v (b.trans (hv.mono b.size))⟩
  injection h with h
  subst h
  exact ⟨z.bel.size, by simp, by simp, by simp [go_sem]⟩
theorem ZB.and {W u : World} {ob : Option Nat} {K K' : World → Prop} (z : ZB W u ob K) (h : ∀ v, Below u.heap.size u v → K' v) : ZB W u ob (fun v => K v ∧ K' v) := ⟨z.bel, z.box, fun v hv => ⟨z.kept v hv, h v hv⟩⟩

/-- a ledger in a box: its lines are one's own -/
structure LB (W : World) (L : List Ln) (B : Nat) (ao : Option Addr) (cap : Nat) (u : World) : Prop where
  c0 : u.cell? ⟨B, 0, none⟩ = some (.slice ao L.length cap)
  own : u.ownsRow W.heap.size 115 3 (.slice ao L.length cap) L.length (lcells L)
  ge : W.heap.size ≤ B
  ne : ∀ g, (Value.slice ao L.length cap).ownBlock = some g → g ≠ B
  bel : Below W.heap.size W u
theorem LB.new {W u u0 : World} {L : List Ln} {ao : Option Addr} {cap : Nat} {ob : Option Nat} {K : World → Prop} {t : TypeId} (o : u.ownsRow u0.heap.size 115 3 (.slice ao L.length cap) L.length (lcells L)) (z0 : ZB W u0 ob K) (z : ZB W u none K) :
    LB W L u.heap.size ao cap (u.alloc (.cells #[.slice ao L.length cap] t)) := by
  have b : Below u.heap.size u (u.alloc (.cells #[.slice ao L.length cap] t)) := by go_grown
  exact ⟨by simp, lowerL (keepL o b) z0.bel.size, z.bel.size, fun g hg => by have := (o.lt g hg).2; omega, next z.bel b⟩
theorem LB.set {W u u0 : World} {L : List Ln} {B : Nat} {ao : Option Addr} {cap : Nat} {K : World → Prop} (o : u.ownsRow u0.heap.size 115 3 (.slice ao L.length cap) L.length (lcells L)) (z0 : ZB W u0 (some B) K) (z : ZB W u (some B) K) :
    LB W L B ao cap (u.setCell ⟨B, 0, none⟩ (.slice ao L.length cap)) := by
  obtain ⟨h1, h2, _, _⟩ := z0.box B rfl
  obtain ⟨_, _, h3, _⟩ := z.box B rfl
  have hne : ∀ g, (Value.slice ao L.length cap).ownBlock = some g → g ≠ B := fun g hg => by have := (o.lt g hg).1; omega
  exact ⟨by simp [go_sem, h3], lowerL (keepSetL o _ _ hne) z0.bel.size, h1, hne, z.bel.setCell h1 _⟩
/-- a ledger in a box, later on -/
structure LC (base : Nat) (L : List Ln) (B : Nat) (ao : Option Addr) (cap : Nat) (u : World) : Prop where
  c0 : u.cell? ⟨B, 0, none⟩ = some (.slice ao L.length cap)
  own : u.ownsRow base 115 3 (.slice ao L.length cap) L.length (lcells L)
theorem LB.lc {W u : World} {L : List Ln} {B : Nat} {ao : Option Addr} {cap : Nat} (h : LB W L B ao cap u) : LC W.heap.size L B ao cap u := ⟨h.c0, h.own⟩
theorem LC.below {base : Nat} {u u' : World} {L : List Ln} {B : Nat} {ao : Option Addr} {cap : Nat} (h : LC base L B ao cap u) (b : Below u.heap.size u u') : LC base L B ao cap u' :=
  ⟨(b.cell (p := ⟨B, 0, none⟩) (World.block_lt_of_cell? u _ h.c0)).trans h.c0, keepL h.own b⟩
theorem LC.grown {base : Nat} {u u' : World} {L : List Ln} {B : Nat} {ao : Option Addr} {cap : Nat} {row : Option Nat} (h : LC base L B ao cap u) (g : u.grownBy u' row) (hB : some B ≠ row) (hr : ∀ x, (Value.slice ao L.length cap).ownBlock = some x → some x ≠ row) : LC base L B ao cap u' :=
  ⟨(g.cell_far ⟨B, 0, none⟩ (World.block_lt_of_cell? u _ h.c0) hB).trans h.c0, keepG h.own g hr⟩
theorem LC.lines {base : Nat} {u : World} {L : List Ln} {B : Nat} {ao : Option Addr} {cap : Nat} (h : LC base L B ao cap u) : LinesAt u ao L := lines_any h.own

/-- what Post leaves on its way through a region -/
def PostZ (W u : World) (ob : Option Nat) (K : World → Prop) (L : List Ln) (ok : Bool) (e : Ending) (u' : World) : Prop :=
  ∃ ao cap, e = .returned (.tuple #[.agg #[.slice ao L.length cap], .bool ok]) ∧ u'.ownsRow u.heap.size 115 3 (.slice ao L.length cap) L.length (lcells L) ∧ ZB W u ob K ∧ ZB W u' ob K
theorem zPost {W u : World} {ob : Option Nat} {K : World → Prop} {f : FuncId} {args : Array Value} {L : List Ln} {ok : Bool} (z : ZB W u ob K) (h : Calls Try.prog f args u (PostR u L ok)) : Calls Try.prog f args u (PostZ W u ob K L ok) :=
  h.mono fun _ _ ⟨ao, cap, he, ho, hb⟩ => ⟨ao, cap, he, ho, z, z.call hb⟩
theorem ZB.now {W u : World} {ob : Option Nat} {K : World → Prop} (z : ZB W u ob K) : K u := z.kept u (Below.refl _ _)

/-- the law's own boxes: the ledger's and the entry's -/
structure LE (s : Nat) (ao : Option Addr) (cap n : Nat) (a b c m : Int) (u : World) : Prop where
  l0 : u.cell? ⟨s, 0, none⟩ = some (.slice ao n cap)
  e0 : u.cell? ⟨s + 1, 0, none⟩ = some (.int .i64 a)
  e1 : u.cell? ⟨s + 1, 1, none⟩ = some (.int .i64 b)
  e2 : u.cell? ⟨s + 1, 2, none⟩ = some (.int .i64 c)
  e3 : u.cell? ⟨s + 1, 3, none⟩ = some (.int .i64 m)
theorem LE.below {s : Nat} {ao : Option Addr} {cap n : Nat} {a b c m : Int} {u u' : World} (h : LE s ao cap n a b c m u) (hb : Below u.heap.size u u') : LE s ao cap n a b c m u' := by
  have h0 : s < u.heap.size := World.block_lt_of_cell? u _ h.l0
  have h1 : s + 1 < u.heap.size := World.block_lt_of_cell? u _ h.e0
  exact ⟨(hb.cell (p := ⟨s, 0, none⟩) h0).trans h.l0, (hb.cell (p := ⟨s + 1, 0, none⟩) h1).trans h.e0, (hb.cell (p := ⟨s + 1, 1, none⟩) h1).trans h.e1, (hb.cell (p := ⟨s + 1, 2, none⟩) h1).trans h.e2, (hb.cell (p := ⟨s + 1, 3, none⟩) h1).trans h.e3⟩
theorem LE.grown {s : Nat} {ao : Option Addr} {cap n : Nat} {a b c m : Int} {u u' : World} {row : Option Nat} (h : LE s ao cap n a b c m u) (g : u.grownBy u' row) (hr : ∀ x, row = some x → s + 1 < x) : LE s ao cap n a b c m u' := by
  have h0 : s < u.heap.size := World.block_lt_of_cell? u _ h.l0
  have h1 : s + 1 < u.heap.size := World.block_lt_of_cell? u _ h.e0
  have n0 : some s ≠ row := fun e => by have := hr s e.symm; omega
  have n1 : some (s + 1) ≠ row := fun e => by have := hr (s + 1) e.symm; omega
  exact ⟨(g.cell_far ⟨s, 0, none⟩ h0 n0).trans h.l0, (g.cell_far ⟨s + 1, 0, none⟩ h1 n1).trans h.e0, (g.cell_far ⟨s + 1, 1, none⟩ h1 n1).trans h.e1, (g.cell_far ⟨s + 1, 2, none⟩ h1 n1).trans h.e2, (g.cell_far ⟨s + 1, 3, none⟩ h1 n1).trans h.e3⟩

end Go.Proofs.Ytlonjjliochbhaa
