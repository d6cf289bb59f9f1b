/- A drawn authorization: whatever the bytes, it comes out, and only the cursor has moved. -/
import Derived.Test.YtpjfigjgamlcdaaDrawn
import Derived.Test.YtpjfigjgamlcdaaSPad
import Derived.Test.YtpjfigjgamlcdaaAuMark
import Derived.Test.YtpjfigjgamlcdaaAuApp
import Derived.Test.YtpjfigjgamlcdaaAuBox
import Derived.Deep.DeepCutAuto
namespace Go.Proofs.Ytpjfigjgamlcdaa
open Go.RowKit
set_option maxRecDepth 100000

/-- six cells of an authorization that may be written -/
structure AuW (b : Nat) (a : Au) (u : World) : Prop where
  c0 : u.cell? ⟨b, 0, none⟩ = some (.string ⟨a.ref.toArray⟩)
  c1 : u.cell? ⟨b, 1, none⟩ = some (.int .i64 a.iss)
  c2 : u.cell? ⟨b, 2, none⟩ = some (.int .i64 a.cur)
  c3 : u.cell? ⟨b, 3, none⟩ = some (.int .i64 a.am)
  c4 : u.cell? ⟨b, 4, none⟩ = some (.int .i64 a.day)
  c5 : u.cell? ⟨b, 5, none⟩ = some (.bool a.used)
  z0 : u.frozen? ⟨b, 0, none⟩ = false
  z1 : u.frozen? ⟨b, 1, none⟩ = false
  z2 : u.frozen? ⟨b, 2, none⟩ = false
  z3 : u.frozen? ⟨b, 3, none⟩ = false
  z4 : u.frozen? ⟨b, 4, none⟩ = false
  z5 : u.frozen? ⟨b, 5, none⟩ = false
theorem AuW.lt {b : Nat} {a : Au} {u : World} (x : AuW b a u) : b < u.heap.size := World.block_lt_of_cell? u _ x.c0
theorem AuW.grown {b : Nat} {a : Au} {u u' : World} {row : Option Nat} (x : AuW b a u) (g : u.grownBy u' row) (hr : some b ≠ row) : AuW b a u' := by
  have l := x.lt
  exact ⟨(g.cell_far ⟨b, 0, none⟩ l hr).trans x.c0, (g.cell_far ⟨b, 1, none⟩ l hr).trans x.c1, (g.cell_far ⟨b, 2, none⟩ l hr).trans x.c2, (g.cell_far ⟨b, 3, none⟩ l hr).trans x.c3, (g.cell_far ⟨b, 4, none⟩ l hr).trans x.c4, (g.cell_far ⟨b, 5, none⟩ l hr).trans x.c5, (g.frozen_far ⟨b, 0, none⟩ l hr).trans x.z0, (g.frozen_far ⟨b, 1, none⟩ l hr).trans x.z1, (g.frozen_far ⟨b, 2, none⟩ l hr).trans x.z2, (g.frozen_far ⟨b, 3, none⟩ l hr).trans x.z3, (g.frozen_far ⟨b, 4, none⟩ l hr).trans x.z4, (g.frozen_far ⟨b, 5, none⟩ l hr).trans x.z5⟩
theorem AuW.new (w : World) (a : Au) (t : TypeId) : AuW w.heap.size a (w.alloc (.cells #[.string ⟨a.ref.toArray⟩, .int .i64 a.iss, .int .i64 a.cur, .int .i64 a.am, .int .i64 a.day, .bool a.used] t)) :=
  ⟨by simp, by simp, by simp, by simp, by simp, by simp, by simp [go_sem], by simp [go_sem], by simp [go_sem], by simp [go_sem], by simp [go_sem], by simp [go_sem]⟩
theorem AuW.set0 {b : Nat} {a : Au} {u : World} (q : AuW b a u) (x : List UInt8) : AuW b ⟨x, a.iss, a.cur, a.am, a.day, a.used⟩ (u.setCell ⟨b, 0, none⟩ (.string ⟨x.toArray⟩)) := by
  obtain ⟨c0, c1, c2, c3, c4, c5, z0, z1, z2, z3, z4, z5⟩ := q
  exact ⟨by simp [go_sem, c0], by simp [go_sem, c1], by simp [go_sem, c2], by simp [go_sem, c3], by simp [go_sem, c4], by simp [go_sem, c5], by simp [go_sem, z0], by simp [go_sem, z1], by simp [go_sem, z2], by simp [go_sem, z3], by simp [go_sem, z4], by simp [go_sem, z5]⟩
theorem AuW.other0 {b b' : Nat} {a : Au} {u : World} {v : Value} (q : AuW b a u) (h : b' ≠ b) : AuW b a (u.setCell ⟨b', 0, none⟩ v) := by
  obtain ⟨c0, c1, c2, c3, c4, c5, z0, z1, z2, z3, z4, z5⟩ := q
  exact ⟨setD_other (fun e => absurd e h) c0, setD_other (fun e => absurd e h) c1, setD_other (fun e => absurd e h) c2, setD_other (fun e => absurd e h) c3, setD_other (fun e => absurd e h) c4, setD_other (fun e => absurd e h) c5, by simp [go_sem, z0], by simp [go_sem, z1], by simp [go_sem, z2], by simp [go_sem, z3], by simp [go_sem, z4], by simp [go_sem, z5]⟩
theorem AuW.set3 {b : Nat} {a : Au} {u : World} (q : AuW b a u) (x : Int) : AuW b ⟨a.ref, a.iss, a.cur, x, a.day, a.used⟩ (u.setCell ⟨b, 3, none⟩ (.int .i64 x)) := by
  obtain ⟨c0, c1, c2, c3, c4, c5, z0, z1, z2, z3, z4, z5⟩ := q
  exact ⟨by simp [go_sem, c0], by simp [go_sem, c1], by simp [go_sem, c2], by simp [go_sem, c3], by simp [go_sem, c4], by simp [go_sem, c5], by simp [go_sem, z0], by simp [go_sem, z1], by simp [go_sem, z2], by simp [go_sem, z3], by simp [go_sem, z4], by simp [go_sem, z5]⟩
theorem AuW.other3 {b b' : Nat} {a : Au} {u : World} {v : Value} (q : AuW b a u) (h : b' ≠ b) : AuW b a (u.setCell ⟨b', 3, none⟩ v) := by
  obtain ⟨c0, c1, c2, c3, c4, c5, z0, z1, z2, z3, z4, z5⟩ := q
  exact ⟨setD_other (fun e => absurd e h) c0, setD_other (fun e => absurd e h) c1, setD_other (fun e => absurd e h) c2, setD_other (fun e => absurd e h) c3, setD_other (fun e => absurd e h) c4, setD_other (fun e => absurd e h) c5, by simp [go_sem, z0], by simp [go_sem, z1], by simp [go_sem, z2], by simp [go_sem, z3], by simp [go_sem, z4], by simp [go_sem, z5]⟩
theorem AuW.set4 {b : Nat} {a : Au} {u : World} (q : AuW b a u) (x : Int) : AuW b ⟨a.ref, a.iss, a.cur, a.am, x, a.used⟩ (u.setCell ⟨b, 4, none⟩ (.int .i64 x)) := by
  obtain ⟨c0, c1, c2, c3, c4, c5, z0, z1, z2, z3, z4, z5⟩ := q
  exact ⟨by simp [go_sem, c0], by simp [go_sem, c1], by simp [go_sem, c2], by simp [go_sem, c3], by simp [go_sem, c4], by simp [go_sem, c5], by simp [go_sem, z0], by simp [go_sem, z1], by simp [go_sem, z2], by simp [go_sem, z3], by simp [go_sem, z4], by simp [go_sem, z5]⟩
theorem AuW.other4 {b b' : Nat} {a : Au} {u : World} {v : Value} (q : AuW b a u) (h : b' ≠ b) : AuW b a (u.setCell ⟨b', 4, none⟩ v) := by
  obtain ⟨c0, c1, c2, c3, c4, c5, z0, z1, z2, z3, z4, z5⟩ := q
  exact ⟨setD_other (fun e => absurd e h) c0, setD_other (fun e => absurd e h) c1, setD_other (fun e => absurd e h) c2, setD_other (fun e => absurd e h) c3, setD_other (fun e => absurd e h) c4, setD_other (fun e => absurd e h) c5, by simp [go_sem, z0], by simp [go_sem, z1], by simp [go_sem, z2], by simp [go_sem, z3], by simp [go_sem, z4], by simp [go_sem, z5]⟩
theorem grown_at {w u : World} {g b k : Nat} {v : Value} (h : w.grownBy u (some g)) (hb : w.heap.size ≤ b) : w.grownBy (u.setCell ⟨b, k, none⟩ v) (some g) :=
  ⟨h.os, h.tape, h.output, by simpa using h.size, fun j hj hne => (Below.heap_setCell u ⟨b, k, none⟩ v j (fun e => by have e : j = b := e; omega)).trans (h.block j hj hne)⟩
theorem cursor_at {B g b k : Nat} {u : World} {v : Value} (h : Cursor B u g) (hb : B ≤ b) : Cursor B (u.setCell ⟨b, k, none⟩ v) g := cursor_keep h ((Below.refl B u).setCell hb _)
/-- what a drawn authorization is -/
structure AuG (a : Au) : Prop where
  ref : a.ref.length ≤ 18
  cur : wf64 a.cur
theorem pad_len (x n : Int) : (padT x n).length ≤ 18 := by
  rcases padT_cases x n with h | ⟨a, m, _, _, h1, h2, h3, h⟩
  · rw [h]; simp
  · rw [h, padN_len h1 h3]; exact h2
theorem cur_wf {z : Int} (h : z ∈ [(840 : Int), 978]) : wf64 z := by
  unfold wf64
  exact fits_wf ((by decide : ∀ z ∈ [(840 : Int), 978], -9223372036854775808 ≤ z ∧ z ≤ 9223372036854775807) z h)

def refs4 : List (List UInt8) := [[], [97, 32, 98], [49, 50, 51, 52, 53, 54, 55, 56, 57, 48, 49, 32], [49, 50, 51, 52, 53, 54, 55, 56, 57, 48, 49, 50, 51]]
set_option maxHeartbeats 800000 in
theorem pickRef_any {B : Nat} (g b cap : Nat) (w : World) (hc : Cursor B w g) (hbg : b ≠ g) (hz : ∀ i, i < 4 → w.cell? ⟨b, i, none⟩ = some (.string ⟨(refs4.getD i []).toArray⟩)) :
    Calls Try.prog 62 #[.pointer (some ⟨g, 0, none⟩), .slice (some ⟨b, 0, none⟩) 4 cap] w fun e w' => ∃ l : List UInt8, e = .returned (.string ⟨l.toArray⟩) ∧ l.length ≤ 18 ∧ Cursor B w' g ∧ w.grownBy w' (some g) := by
  go_enter Try.func62, Try.ntmps62
  go_wp2_with fail
  refine (below_any _ _ _ hc (by omega)).mono ?_
  rintro e w1 ⟨x, rfl, x0, x1, c1, g1⟩
  have hx := x1 (by omega)
  obtain ⟨k, rfl⟩ := Int.eq_ofNat_of_zero_le x0
  have hk : k < 4 := by omega
  have cb : w1.cell? ⟨b, k, none⟩ = some (.string ⟨(refs4.getD k []).toArray⟩) := g1.cell (a := ⟨b, k, none⟩) (hz k hk) (by simpa using hbg)
  have hl : (refs4.getD k []).length ≤ 18 := by
    rcases (show k = 0 ∨ k = 1 ∨ k = 2 ∨ k = 3 by omega) with rfl | rfl | rfl | rfl <;> decide
  generalize refs4.getD k [] = l at cb hl
  clear hz x1
  go_wp2
  go_ret
  exact ⟨l, rfl, hl, c1, g1⟩

set_option maxHeartbeats 6400000 in
theorem auth_any {B : Nat} (g : Nat) (w : World) (hc : Cursor B w g) :
    Calls Try.prog 41 #[.pointer (some ⟨g, 0, none⟩)] w fun e w' => ∃ a : Au, e = .returned (auv a) ∧ AuG a ∧ Cursor B w' g ∧ w.grownBy w' (some g) := by
  have hbd := cursor_bd hc
  obtain ⟨W, hW⟩ : ∃ W, w.alloc (.cells #[.string ⟨#[]⟩, .int .i64 0, .int .i64 0, .int .i64 0, .int .i64 0, .bool false] 30) = W := ⟨_, rfl⟩
  have HR : Hid (AuW w.heap.size zeroAu W) := hW ▸ AuW.new w zeroAu _
  have HG : Hid (w.grownBy W (some g)) := hW ▸ World.grownBy_alloc w _ _
  have hcW : Cursor B W g := hW ▸ cursor_alloc hc _
  have HW : Hid _ := hW
  have hgR : g < w.heap.size := by omega
  have HBR : Hid (B ≤ w.heap.size) := hbd.2
  clear hW hc hbd
  go_enter Try.func41, Try.ntmps41
  go_upto_region 1 with fail
  rw [HW.out]
  clear HW
  go_wp2_with fail
  refine (below_any _ _ _ hcW (by omega)).mono ?_
  rintro e w1 ⟨x1, rfl, -, -, c1, g1⟩
  replace HG : Hid (w.grownBy w1 (some g)) := HG.out.trans g1
  replace HR : Hid (AuW w.heap.size zeroAu w1) := HR.out.grown g1 (by simp; omega)
  clear g1 hcW
  go_wp2_with fail
  refine (sPadNum_any x1 12 _).mono ?_
  rintro e w2 ⟨rfl, b2⟩
  have c2 := cursor_below c1 b2
  replace HG : Hid (w.grownBy w2 (some g)) := HG.out.trans (grown_ofA b2 _)
  replace HR : Hid (AuW w.heap.size zeroAu w2) := HR.out.grown (grown_ofA b2 none) (by simp)
  have hrl := pad_len x1 12
  generalize padT x1 12 = r at hrl
  clear b2 c1
  go_wp2_with fail
  refine (below_any _ _ _ c2 (by omega)).mono ?_
  rintro e w3 ⟨i, rfl, i0, i1, c3, g3⟩
  have hi := i1 (by omega)
  replace HG : Hid (w.grownBy w3 (some g)) := HG.out.trans g3
  replace HR : Hid (AuW w.heap.size zeroAu w3) := HR.out.grown g3 (by simp; omega)
  clear g3 c2 i1
  go_wp2_with fail
  refine (pickInt_any _ _ _ [840, 978] _ (cursor_alloc c3 _) (cursor_ne c3) (lit_cells w3 [840, 978] _ rfl) (by decide) (by decide)).mono ?_
  rintro e w4 ⟨c, rfl, hcu, c4, g4⟩
  replace HG : Hid (w.grownBy w4 (some g)) := (HG.out.trans (World.grownBy_alloc w3 _ _)).trans g4
  replace HR : Hid (AuW w.heap.size zeroAu w4) := (HR.out.grown (World.grownBy_alloc w3 (.cells #[.int .i64 840, .int .i64 978] 3) none) (by simp)).grown g4 (by simp; omega)
  have HCU := cur_wf hcu
  clear g4 c3 hcu
  go_wp2_with fail
  refine (below_any _ _ _ c4 (by omega)).mono ?_
  rintro e w5 ⟨m, rfl, m0, m1, c5, g5⟩
  have hm := m1 (by omega)
  replace HG : Hid (w.grownBy w5 (some g)) := HG.out.trans g5
  replace HR : Hid (AuW w.heap.size zeroAu w5) := HR.out.grown g5 (by simp; omega)
  clear g5 c4 m1
  go_wp2_with fail
  refine (below_any _ _ _ c5 (by omega)).mono ?_
  rintro e w6 ⟨d, rfl, d0, d1, c6, g6⟩
  have hd := d1 (by omega)
  replace HG : Hid (w.grownBy w6 (some g)) := HG.out.trans g6
  replace HR : Hid (AuW w.heap.size zeroAu w6) := HR.out.grown g6 (by simp; omega)
  clear g6 c5 d1
  go_wp2_with fail
  refine (once_any _ _ _ c6 (by omega)).mono ?_
  rintro e w7 ⟨u, rfl, c7, g7⟩
  replace HG : Hid (w.grownBy w7 (some g)) := HG.out.trans g7
  replace HR : Hid (AuW w.heap.size zeroAu w7) := HR.out.grown g7 (by simp; omega)
  clear g7 c6
  go_upto_region 2 with fail
  obtain ⟨i', hi'⟩ : ∃ i', 1 + i = i' := ⟨_, rfl⟩
  obtain ⟨m', hm'⟩ : ∃ m', 100 + m = m' := ⟨_, rfl⟩
  obtain ⟨d', hd'⟩ : ∃ d', 9000 + d = d' := ⟨_, rfl⟩
  rw [hi', hm', hd']
  clear hi' hm' hd' hi hm hd i0 m0 d0
  obtain ⟨V, hV⟩ : ∃ V, w7.alloc (.cells #[.string ⟨r.toArray⟩, .int .i64 i', .int .i64 c, .int .i64 m', .int .i64 d', .bool u] 30) = V := ⟨_, rfl⟩
  have HTB : Hid (AuW w7.heap.size ⟨r, i', c, m', d', u⟩ V) := hV ▸ AuW.new w7 ⟨r, i', c, m', d', u⟩ _
  have cV : Cursor B V g := hV ▸ cursor_alloc c7 _
  have hsz : w.heap.size < w7.heap.size := HR.out.lt
  replace HG : Hid (w.grownBy V (some g)) := hV ▸ HG.out.trans (World.grownBy_alloc w7 _ _)
  replace HR : Hid (AuW w.heap.size zeroAu V) := hV ▸ HR.out.grown (World.grownBy_alloc w7 _ none) (by simp)
  rw [hV]
  clear hV c7
  obtain ⟨t, ht⟩ : ∃ t, w7.heap.size = t := ⟨_, rfl⟩
  rw [ht] at HTB hsz ⊢
  clear ht
  go_wp2_with fail
  refine (below_any _ _ _ cV (by omega)).mono ?_
  rintro e w8 ⟨x, rfl, x0, x1', c8, g8⟩
  replace HG : Hid (w.grownBy w8 (some g)) := HG.out.trans g8
  replace HR : Hid (AuW w.heap.size zeroAu w8) := HR.out.grown g8 (by simp; omega)
  replace HTB : Hid (AuW t ⟨r, i', c, m', d', u⟩ w8) := HTB.out.grown g8 (by simp; omega)
  clear g8 cV x1'
  have hne1 : ¬ w.heap.size = t := by omega
  have hne2 : ¬ t = w.heap.size := by omega
  by_cases hx0 : x = 0
  · subst hx0
    go_wp2_with fail
    refine (pickRef_any _ _ _ _ (cursor_alloc c8 _) (cursor_ne c8) (fun j hj => by rcases (show j = 0 ∨ j = 1 ∨ j = 2 ∨ j = 3 by omega) with rfl | rfl | rfl | rfl <;> simp [refs4])).mono ?_
    rintro e w9 ⟨l, rfl, hl, c9, g9⟩
    replace HG : Hid (w.grownBy w9 (some g)) := (HG.out.trans (World.grownBy_alloc w8 _ _)).trans g9
    replace HR : Hid (AuW w.heap.size zeroAu w9) := (HR.out.grown (World.grownBy_alloc w8 _ none) (by simp)).grown g9 (by simp; omega)
    replace HTB : Hid (AuW t ⟨r, i', c, m', d', u⟩ w9) := (HTB.out.grown (World.grownBy_alloc w8 _ none) (by simp)).grown g9 (by simp; omega)
    clear g9 c8
    have s0 := HTB.out.c0
    have s1 := HTB.out.z0
    simp only at s0
    go_upto_region 9 with fail
    obtain ⟨X, hX⟩ : ∃ X, w9.setCell ⟨t, 0, none⟩ (.string ⟨l.toArray⟩) = X := ⟨_, rfl⟩
    have HTX : Hid (AuW t ⟨l, i', c, m', d', u⟩ X) := hX ▸ HTB.out.set0 l
    have HRX : Hid (AuW w.heap.size zeroAu X) := hX ▸ HR.out.other0 (by omega)
    have HGX : Hid (w.grownBy X (some g)) := hX ▸ grown_at HG.out (by omega)
    have cX : Cursor B X g := hX ▸ cursor_at c9 (by have := HBR.out; omega)
    rw [hX]
    clear hX HTB HR HG c9 s0 s1
    obtain ⟨f0, f1, f2, f3, f4, f5, -, -, -, -, -, -⟩ := HTX.out
    obtain ⟨y0, y1, y2, y3, y4, y5, z0, z1, z2, z3, z4, z5⟩ := HRX.out
    simp only [zeroAu] at f0 f1 f2 f3 f4 f5 y0 y1 y2 y3 y4 y5
    go_wp2
    refine bodyPost_ret (by simp [results, Try.results41, go_sem, y0, y1, y2, y3, y4, y5]; try rfl) rfl ?_
    exact ⟨⟨l, i', c, m', d', u⟩, rfl, ⟨hl, HCU⟩, (cursor_at (cursor_at (cursor_at (cursor_at (cursor_at (cursor_at cX (by have := HBR.out; omega)) (by have := HBR.out; omega)) (by have := HBR.out; omega)) (by have := HBR.out; omega)) (by have := HBR.out; omega)) (by have := HBR.out; omega)), (grown_at (grown_at (grown_at (grown_at (grown_at (grown_at HGX.out (by omega)) (by omega)) (by omega)) (by omega)) (by omega)) (by omega))⟩
  by_cases hx1 : x = 1
  · subst hx1
    go_wp2_with fail
    refine (pickInt_any _ _ _ [0, 100000000001, 100000000000] _ (cursor_alloc c8 _) (cursor_ne c8) (lit_cells w8 [0, 100000000001, 100000000000] _ rfl) (by decide) (by decide)).mono ?_
    rintro e w9 ⟨z, rfl, hz, c9, g9⟩
    replace HG : Hid (w.grownBy w9 (some g)) := (HG.out.trans (World.grownBy_alloc w8 _ _)).trans g9
    replace HR : Hid (AuW w.heap.size zeroAu w9) := (HR.out.grown (World.grownBy_alloc w8 (.cells #[.int .i64 0, .int .i64 100000000001, .int .i64 100000000000] 3) none) (by simp)).grown g9 (by simp; omega)
    replace HTB : Hid (AuW t ⟨r, i', c, m', d', u⟩ w9) := (HTB.out.grown (World.grownBy_alloc w8 (.cells #[.int .i64 0, .int .i64 100000000001, .int .i64 100000000000] 3) none) (by simp)).grown g9 (by simp; omega)
    clear g9 c8 hz
    have s0 := HTB.out.c3
    have s1 := HTB.out.z3
    simp only at s0
    go_upto_region 9 with fail
    obtain ⟨X, hX⟩ : ∃ X, w9.setCell ⟨t, 3, none⟩ (.int .i64 z) = X := ⟨_, rfl⟩
    have HTX : Hid (AuW t ⟨r, i', c, z, d', u⟩ X) := hX ▸ HTB.out.set3 z
    have HRX : Hid (AuW w.heap.size zeroAu X) := hX ▸ HR.out.other3 (by omega)
    have HGX : Hid (w.grownBy X (some g)) := hX ▸ grown_at HG.out (by omega)
    have cX : Cursor B X g := hX ▸ cursor_at c9 (by have := HBR.out; omega)
    rw [hX]
    clear hX HTB HR HG c9 s0 s1
    obtain ⟨f0, f1, f2, f3, f4, f5, -, -, -, -, -, -⟩ := HTX.out
    obtain ⟨y0, y1, y2, y3, y4, y5, z0, z1, z2, z3, z4, z5⟩ := HRX.out
    simp only [zeroAu] at f0 f1 f2 f3 f4 f5 y0 y1 y2 y3 y4 y5
    go_wp2
    refine bodyPost_ret (by simp [results, Try.results41, go_sem, y0, y1, y2, y3, y4, y5]; try rfl) rfl ?_
    exact ⟨⟨r, i', c, z, d', u⟩, rfl, ⟨hrl, HCU⟩, (cursor_at (cursor_at (cursor_at (cursor_at (cursor_at (cursor_at cX (by have := HBR.out; omega)) (by have := HBR.out; omega)) (by have := HBR.out; omega)) (by have := HBR.out; omega)) (by have := HBR.out; omega)) (by have := HBR.out; omega)), (grown_at (grown_at (grown_at (grown_at (grown_at (grown_at HGX.out (by omega)) (by omega)) (by omega)) (by omega)) (by omega)) (by omega))⟩
  by_cases hx2 : x = 2
  · subst hx2
    go_wp2_with fail
    refine (pickInt_any _ _ _ [-1, 80001, 80000] _ (cursor_alloc c8 _) (cursor_ne c8) (lit_cells w8 [-1, 80001, 80000] _ rfl) (by decide) (by decide)).mono ?_
    rintro e w9 ⟨z, rfl, hz, c9, g9⟩
    replace HG : Hid (w.grownBy w9 (some g)) := (HG.out.trans (World.grownBy_alloc w8 _ _)).trans g9
    replace HR : Hid (AuW w.heap.size zeroAu w9) := (HR.out.grown (World.grownBy_alloc w8 (.cells #[.int .i64 (-1), .int .i64 80001, .int .i64 80000] 3) none) (by simp)).grown g9 (by simp; omega)
    replace HTB : Hid (AuW t ⟨r, i', c, m', d', u⟩ w9) := (HTB.out.grown (World.grownBy_alloc w8 (.cells #[.int .i64 (-1), .int .i64 80001, .int .i64 80000] 3) none) (by simp)).grown g9 (by simp; omega)
    clear g9 c8 hz
    have s0 := HTB.out.c4
    have s1 := HTB.out.z4
    simp only at s0
    go_upto_region 9 with fail
    obtain ⟨X, hX⟩ : ∃ X, w9.setCell ⟨t, 4, none⟩ (.int .i64 z) = X := ⟨_, rfl⟩
    have HTX : Hid (AuW t ⟨r, i', c, m', z, u⟩ X) := hX ▸ HTB.out.set4 z
    have HRX : Hid (AuW w.heap.size zeroAu X) := hX ▸ HR.out.other4 (by omega)
    have HGX : Hid (w.grownBy X (some g)) := hX ▸ grown_at HG.out (by omega)
    have cX : Cursor B X g := hX ▸ cursor_at c9 (by have := HBR.out; omega)
    rw [hX]
    clear hX HTB HR HG c9 s0 s1
    obtain ⟨f0, f1, f2, f3, f4, f5, -, -, -, -, -, -⟩ := HTX.out
    obtain ⟨y0, y1, y2, y3, y4, y5, z0, z1, z2, z3, z4, z5⟩ := HRX.out
    simp only [zeroAu] at f0 f1 f2 f3 f4 f5 y0 y1 y2 y3 y4 y5
    go_wp2
    refine bodyPost_ret (by simp [results, Try.results41, go_sem, y0, y1, y2, y3, y4, y5]; try rfl) rfl ?_
    exact ⟨⟨r, i', c, m', z, u⟩, rfl, ⟨hrl, HCU⟩, (cursor_at (cursor_at (cursor_at (cursor_at (cursor_at (cursor_at cX (by have := HBR.out; omega)) (by have := HBR.out; omega)) (by have := HBR.out; omega)) (by have := HBR.out; omega)) (by have := HBR.out; omega)) (by have := HBR.out; omega)), (grown_at (grown_at (grown_at (grown_at (grown_at (grown_at HGX.out (by omega)) (by omega)) (by omega)) (by omega)) (by omega)) (by omega))⟩
  have hb0 : (x == 0) = false := beq_eq_false_iff_ne.2 hx0
  have hb1 : (x == 1) = false := beq_eq_false_iff_ne.2 hx1
  have hb2 : (x == 2) = false := beq_eq_false_iff_ne.2 hx2
  clear hx0 hx1 hx2
  obtain ⟨f0, f1, f2, f3, f4, f5, -, -, -, -, -, -⟩ := HTB.out
  obtain ⟨y0, y1, y2, y3, y4, y5, z0, z1, z2, z3, z4, z5⟩ := HR.out
  simp only [zeroAu] at f0 f1 f2 f3 f4 f5 y0 y1 y2 y3 y4 y5
  go_wp2
  refine bodyPost_ret (by simp [results, Try.results41, go_sem, y0, y1, y2, y3, y4, y5]; try rfl) rfl ?_
  exact ⟨⟨r, i', c, m', d', u⟩, rfl, ⟨hrl, HCU⟩, (cursor_at (cursor_at (cursor_at (cursor_at (cursor_at (cursor_at c8 (by have := HBR.out; omega)) (by have := HBR.out; omega)) (by have := HBR.out; omega)) (by have := HBR.out; omega)) (by have := HBR.out; omega)) (by have := HBR.out; omega)), (grown_at (grown_at (grown_at (grown_at (grown_at (grown_at HG.out (by omega)) (by omega)) (by omega)) (by omega)) (by omega)) (by omega))⟩

end Go.Proofs.Ytpjfigjgamlcdaa
