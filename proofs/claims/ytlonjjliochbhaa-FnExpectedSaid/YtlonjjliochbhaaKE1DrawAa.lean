/- The first statement of a drawn act, by itself: whatever the order, the act lies in its box. -/
import Derived.Test.YtlonjjliochbhaaKE1DrawAz
import Derived.Deep.RegionWith
import Derived.Deep.DeepCutAuto
namespace Go.Proofs.Ytlonjjliochbhaa
open Go.RowKit
set_option maxRecDepth 100000

theorem zBelow {B g : Nat} {w : World} {k : Cs} {u : World} {ob ol : Option Nat} (z : AZ B g w k u ob ol) (n : Int) (hn : n ≤ 1099511627776) :
    Calls Try.prog 16 #[.pointer (some ⟨g, 0, none⟩), .int .i64 n] u fun e u' => ∃ x : Int, e = .returned (.int .i64 x) ∧ 0 ≤ x ∧ (1 ≤ n → x < n) ∧ AZ B g w k u' ob ol :=
  (below_any g n u z.cur hn).mono fun _ _ ⟨x, he, h0, h1, hc, hg⟩ => ⟨x, he, h0, h1, z.call hc hg⟩
theorem zPickR {B g : Nat} {w : World} {k : Cs} {u : World} {ob : Option Nat} {b : Nat} (z : AZ B g w k u ob (some b)) :
    Calls Try.prog 10 #[.pointer (some ⟨g, 0, none⟩), .slice (some ⟨b, 0, none⟩) 6 6] u fun e u' => ∃ x : Int, e = .returned (.int .i64 x) ∧ x ∈ rL ∧ AZ B g w k u' ob (some b) := by
  obtain ⟨h1, h2⟩ := z.ls b rfl
  exact (pickInt_any g b 6 rL u z.cur (by have := z.gl; omega) (fun i hi => h2 i (by simpa [rL] using hi)) (by decide) (by decide)).mono fun _ _ ⟨x, he, hx, hc, hg⟩ => ⟨x, he, hx, z.call hc hg⟩
theorem AZ.now3 {B g : Nat} {w : World} {k : Cs} {u : World} {ob ol : Option Nat} (z : AZ B g w k u ob ol) : u.cell? ⟨w.heap.size, 3, none⟩ = some (.int .i64 k.am) := by have := z.cb.f3; simpa using this
theorem AS.new {B g : Nat} {w : World} {k : Cs} {u : World} {ol : Option Nat} (z : AZ B g w k u none ol) (a : Ac) (t : TypeId) : AS B g w k u.heap.size a (u.alloc (.cells #[.int .i64 a.kind, .int .i64 a.am, .int .i64 a.rsn] t)) := by
  have p := z.call (cursor_alloc z.cur (.cells #[.int .i64 a.kind, .int .i64 a.am, .int .i64 a.rsn] t)) (World.grownBy_alloc u _ _)
  exact ⟨p.cb, p.rb, AB.new u a t, p.cur, p.gr, p.gl, z.rb.lt, p.bl⟩
theorem AS.of {B g : Nat} {w : World} {k : Cs} {u : World} {h : Nat} {ol : Option Nat} (z : AZ B g w k u (some h) ol) (a : Ac) : AS B g w k h a (((u.setCell ⟨h, 0, none⟩ (.int .i64 a.kind)).setCell ⟨h, 1, none⟩ (.int .i64 a.am)).setCell ⟨h, 2, none⟩ (.int .i64 a.rsn)) := by
  obtain ⟨h1, h2⟩ := z.box h rfl
  have q : AS B g w k h ⟨0, 0, 0⟩ u := ⟨z.cb, z.rb, h2, z.cur, z.gr, z.gl, h1, z.bl⟩
  have q0 := q.at 0 _ (q.ab.set0 a.kind)
  have q1 := q0.at 1 _ (q0.ab.set1 a.am)
  exact q1.at 2 _ (q1.ab.set2 a.rsn)

end Go.Proofs.Ytlonjjliochbhaa
