/- What a region that draws its order, calls and makes a box for a case leaves: the box in whatever order it was made. -/
import Derived.Test.YtenbhmmknejcjaaDoorKP9ICaseDo
import Derived.Test.YtenbhmmknejcjaaDoorJP90a
namespace Go.Proofs.YtenbhmmknejcjaaDoor
open Go.RowKit
set_option maxRecDepth 100000

/-- a world on the way through a region that began at W: its box, if it is made, is empty yet; what K says stays -/
structure ZC (W u : World) (ob : Option Nat) (K : World → Prop) : Prop where
  bel : Below W.heap.size W u
  box : ∀ B, ob = some B → W.heap.size ≤ B ∧ CB B 0 zeroC u ∧ FZ B 0 u
  kept : ∀ v, Below u.heap.size u v → K v
theorem ZC.start {W : World} {K : World → Prop} (h : ∀ v, Below W.heap.size W v → K v) : ZC W W none K := ⟨Below.refl _ _, (fun B h => by cases h), h⟩
theorem ZC.call {W u u' : World} {ob : Option Nat} {K : World → Prop} (z : ZC W u ob K) (b : Below u.heap.size u u') : ZC W u' ob K :=
  ⟨next z.bel b, fun B h => by
    obtain ⟨h1, h2, h3⟩ := z.box B h
    exact ⟨h1, h2.below b, h3.below h2.lt b⟩, fun v hv => z.kept v (b.trans (hv.mono b.size))⟩
theorem ZC.drew {W u : World} {ob : Option Nat} {K : World → Prop} (z : ZC W u ob K) : ZC W u.drew ob K := z.call ((Below.refl _ _).drew)
theorem ZC.al {W u : World} {K : World → Prop} (z : ZC W u none K) (t : TypeId) : ZC W (u.alloc (.cells #[.int .i64 0, .int .i64 0, .int .i64 0, .int .i64 0, .int .i64 0, .int .i64 0, .int .i64 0, .int .i64 0, .int .i64 0, .bool false, .int .i64 0, .int .i64 0] t)) (some u.heap.size) K := by
  have b : Below u.heap.size u (u.alloc (.cells #[.int .i64 0, .int .i64 0, .int .i64 0, .int .i64 0, .int .i64 0, .int .i64 0, .int .i64 0, .int .i64 0, .int .i64 0, .bool false, .int .i64 0, .int .i64 0] t)) := (Below.refl _ _).alloc (Nat.le_refl _) _
  refine ⟨next z.bel b, fun B h => ?_, fun v hv => z.kept v (b.trans (hv.mono b.size))⟩
  injection h with h
  subst h
  exact ⟨z.bel.size, CB.new u zeroC t, FZ.new u _ t⟩
theorem ZC.and {W u : World} {ob : Option Nat} {K K' : World → Prop} (z : ZC W u ob K) (h : ∀ v, Below u.heap.size u v → K' v) : ZC W u ob (fun v => K v ∧ K' v) := ⟨z.bel, z.box, fun v hv => ⟨z.kept v hv, h v hv⟩⟩
theorem ZC.now {W u : World} {ob : Option Nat} {K : World → Prop} (z : ZC W u ob K) : K u := z.kept u (Below.refl _ _)

/-- a case in a box, and entries of one's own -/
structure LX (W : World) (n : Cs) (E : List En) (B : Nat) (ao : Option Addr) (cap : Nat) (u : World) : Prop where
  cb : CB B 0 n u
  own : u.ownsRow W.heap.size 36 4 (.slice ao E.length cap) E.length (ecells E)
  ge : W.heap.size ≤ B
  ne : ∀ g, (Value.slice ao E.length cap).ownBlock = some g → g ≠ B
  bel : Below W.heap.size W u
theorem LX.new {W u u0 : World} {n : Cs} {E : List En} {ao : Option Addr} {cap : Nat} {ob : Option Nat} {K : World → Prop} {t : TypeId} (o : u.ownsRow u0.heap.size 36 4 (.slice ao E.length cap) E.length (ecells E)) (z0 : ZC W u0 ob K) (z : ZC W u none K) :
    LX W n E u.heap.size ao cap (u.alloc (.cells #[.int .i64 n.iss, .int .i64 n.acq, .int .i64 n.cur, .int .i64 n.am, .int .i64 n.st, .int .i64 n.rsn, .int .i64 n.cl, .int .i64 n.bk, .int .i64 n.fee, .bool n.cop, .int .i64 n.sta, .int .i64 n.due] t)) := by
  have b : Below u.heap.size u (u.alloc (.cells #[.int .i64 n.iss, .int .i64 n.acq, .int .i64 n.cur, .int .i64 n.am, .int .i64 n.st, .int .i64 n.rsn, .int .i64 n.cl, .int .i64 n.bk, .int .i64 n.fee, .bool n.cop, .int .i64 n.sta, .int .i64 n.due] t)) := (Below.refl _ _).alloc (Nat.le_refl _) _
  exact ⟨CB.new u n t, lowerL (keepL o b) z0.bel.size, z.bel.size, fun g hg => by have := (o.lt g hg).2; omega, next z.bel b⟩
theorem LX.set {W u u0 : World} {n : Cs} {E : List En} {B : Nat} {ao : Option Addr} {cap : Nat} {K : World → Prop} (o : u.ownsRow u0.heap.size 36 4 (.slice ao E.length cap) E.length (ecells E)) (z0 : ZC W u0 (some B) K) (z : ZC W u (some B) K) :
    LX W n E B ao cap (put12 u B n) := by
  obtain ⟨h1, h2, _⟩ := z0.box B rfl
  obtain ⟨_, h3, _⟩ := z.box B rfl
  have hne : ∀ g, (Value.slice ao E.length cap).ownBlock = some g → g ≠ B := fun g hg => by have := (o.lt g hg).1; have := h2.lt; omega
  exact ⟨put12_cb h3, lowerL (own_put12 n o hne) z0.bel.size, h1, hne, put12_below n z.bel h1⟩
theorem LX.drew {W u : World} {n : Cs} {E : List En} {B : Nat} {ao : Option Addr} {cap : Nat} (h : LX W n E B ao cap u) : LX W n E B ao cap u.drew :=
  ⟨h.cb.below ((Below.refl _ _).drew), keepL h.own ((Below.refl _ _).drew), h.ge, h.ne, h.bel.drew⟩
/-- a case in a box and its entries, later on -/
structure LY (base : Nat) (n : Cs) (E : List En) (B : Nat) (ao : Option Addr) (cap : Nat) (u : World) : Prop where
  cb : CB B 0 n u
  own : u.ownsRow base 36 4 (.slice ao E.length cap) E.length (ecells E)
theorem LX.ly {W u : World} {n : Cs} {E : List En} {B : Nat} {ao : Option Addr} {cap : Nat} (h : LX W n E B ao cap u) : LY W.heap.size n E B ao cap u := ⟨h.cb, h.own⟩
theorem LY.below {base : Nat} {u u' : World} {n : Cs} {E : List En} {B : Nat} {ao : Option Addr} {cap : Nat} (h : LY base n E B ao cap u) (b : Below u.heap.size u u') : LY base n E B ao cap u' := ⟨h.cb.below b, keepL h.own b⟩
theorem LY.grown {base : Nat} {u u' : World} {n : Cs} {E : List En} {B : Nat} {ao : Option Addr} {cap : Nat} {row : Option Nat} (h : LY base n E B ao cap u) (g : u.grownBy u' row) (hB : some B ≠ row) (hr : ∀ x, (Value.slice ao E.length cap).ownBlock = some x → some x ≠ row) : LY base n E B ao cap u' := ⟨h.cb.grown g hB, keepE h.own g hr⟩
theorem LY.ents {base : Nat} {u : World} {n : Cs} {E : List En} {B : Nat} {ao : Option Addr} {cap : Nat} (h : LY base n E B ao cap u) : EntsAt u ao E := ents_any h.own
/-- what CaseDo leaves on its way through a region -/
def DoZ (W u : World) (ob : Option Nat) (K : World → Prop) (n : Cs) (E : List En) (r : Int) (e : Ending) (u' : World) : Prop :=
  ∃ ao cap, e = .returned (.tuple #[cv n, .slice ao E.length cap, .int .i64 r]) ∧ u'.ownsRow u.heap.size 36 4 (.slice ao E.length cap) E.length (ecells E) ∧ ZC W u ob K ∧ ZC W u' ob K
theorem zDo {W u : World} {ob : Option Nat} {K : World → Prop} {f : FuncId} {args : Array Value} {n : Cs} {E : List En} {r : Int} (z : ZC W u ob K) (h : Calls Tryd.prog f args u (DoR u n E r)) : Calls Tryd.prog f args u (DoZ W u ob K n E r) :=
  h.mono fun _ _ ⟨ao, cap, he, ho, hb⟩ => ⟨ao, cap, he, ho, z, z.call hb⟩
theorem zCall {W u : World} {ob : Option Nat} {K : World → Prop} {f : FuncId} {args : Array Value} {v : Value} (z : ZC W u ob K) (h : Calls Tryd.prog f args u fun e u' => e = .returned v ∧ Below u.heap.size u u') : Calls Tryd.prog f args u fun e u' => e = .returned v ∧ ZC W u' ob K :=
  h.mono fun _ _ ⟨he, hb⟩ => ⟨he, z.call hb⟩
/-- the law's own boxes: the case's and the act's -/
structure LA (s : Nat) (c : Cs) (a : Ac) (u : World) : Prop where
  cb : CB s 0 c u
  a0 : u.cell? ⟨s + 1, 0, none⟩ = some (.int .i64 a.kind)
  a1 : u.cell? ⟨s + 1, 1, none⟩ = some (.int .i64 a.am)
  a2 : u.cell? ⟨s + 1, 2, none⟩ = some (.int .i64 a.rsn)
theorem LA.below {s : Nat} {c : Cs} {a : Ac} {u u' : World} (h : LA s c a u) (b : Below u.heap.size u u') : LA s c a u' := by
  have l : s + 1 < u.heap.size := World.block_lt_of_cell? u _ h.a0
  exact ⟨h.cb.below b, (b.cell (p := ⟨s + 1, 0, none⟩) l).trans h.a0, (b.cell (p := ⟨s + 1, 1, none⟩) l).trans h.a1, (b.cell (p := ⟨s + 1, 2, none⟩) l).trans h.a2⟩
theorem LA.grown {s : Nat} {c : Cs} {a : Ac} {u u' : World} {row : Option Nat} (h : LA s c a u) (g : u.grownBy u' row) (hr : ∀ x, row = some x → s + 1 < x) : LA s c a u' := by
  have l : s + 1 < u.heap.size := World.block_lt_of_cell? u _ h.a0
  have n0 : some s ≠ row := fun e => by have := hr s e.symm; omega
  have n1 : some (s + 1) ≠ row := fun e => by have := hr (s + 1) e.symm; omega
  exact ⟨h.cb.grown g n0, (g.cell_far ⟨s + 1, 0, none⟩ l n1).trans h.a0, (g.cell_far ⟨s + 1, 1, none⟩ l n1).trans h.a1, (g.cell_far ⟨s + 1, 2, none⟩ l n1).trans h.a2⟩
theorem LA.all {s : Nat} {c : Cs} {a : Ac} {u : World} (h : LA s c a u) : u.cell? ⟨s, 0, none⟩ = some (.int .i64 c.iss) ∧ u.cell? ⟨s, 1, none⟩ = some (.int .i64 c.acq) ∧ u.cell? ⟨s, 2, none⟩ = some (.int .i64 c.cur) ∧ u.cell? ⟨s, 3, none⟩ = some (.int .i64 c.am) ∧ u.cell? ⟨s, 4, none⟩ = some (.int .i64 c.st) ∧ u.cell? ⟨s, 5, none⟩ = some (.int .i64 c.rsn) ∧ u.cell? ⟨s, 6, none⟩ = some (.int .i64 c.cl) ∧ u.cell? ⟨s, 7, none⟩ = some (.int .i64 c.bk) ∧ u.cell? ⟨s, 8, none⟩ = some (.int .i64 c.fee) ∧ u.cell? ⟨s, 9, none⟩ = some (.bool c.cop) ∧ u.cell? ⟨s, 10, none⟩ = some (.int .i64 c.sta) ∧ u.cell? ⟨s, 11, none⟩ = some (.int .i64 c.due) ∧ u.cell? ⟨s + 1, 0, none⟩ = some (.int .i64 a.kind) ∧ u.cell? ⟨s + 1, 1, none⟩ = some (.int .i64 a.am) ∧ u.cell? ⟨s + 1, 2, none⟩ = some (.int .i64 a.rsn) := by
  obtain ⟨⟨f0, f1, f2, f3, f4, f5, f6, f7, f8, f9, f10, f11⟩, k0, k1, k2⟩ := h
  simp only [Nat.zero_add] at f0 f1 f2 f3 f4 f5 f6 f7 f8 f9 f10 f11
  exact ⟨f0, f1, f2, f3, f4, f5, f6, f7, f8, f9, f10, f11, k0, k1, k2⟩

end Go.Proofs.YtenbhmmknejcjaaDoor

