/- A drawn case: whatever the bytes, one comes out, and only the cursor has moved. -/
import Derived.Test.YtjnekdihmchlpaaGreatDoorJT8a
import Derived.Test.YtjnekdihmchlpaaGreatDoorKTDrawAt
import Derived.Deep.CutBlock
namespace Go.Proofs.YtjnekdihmchlpaaGreatDoor
open Go.RowKit
set_option maxRecDepth 100000

theorem doC_cur (c : Cs) (a : Ac) (t : Int) (zs : List Int) : (doC c a t zs).cur = c.cur := by
  unfold doC
  split
  · exact nextC_cur c a t zs
  · rfl
theorem KZ.c12 {B g : Nat} {w : World} {h : Nat} {iss acq cur am st rsn cl bk fee : Int} {cop : Bool} {sta due : Int} {u : World} {ob : Option Nat} (z : KZ B g w h ⟨iss, acq, cur, am, st, rsn, cl, bk, fee, cop, sta, due⟩ u ob) :
    (u.cell? ⟨h, 0, none⟩ = some (.int .i64 iss) ∧ u.cell? ⟨h, 1, none⟩ = some (.int .i64 acq) ∧ u.cell? ⟨h, 2, none⟩ = some (.int .i64 cur) ∧ u.cell? ⟨h, 3, none⟩ = some (.int .i64 am) ∧ u.cell? ⟨h, 4, none⟩ = some (.int .i64 st) ∧ u.cell? ⟨h, 5, none⟩ = some (.int .i64 rsn) ∧ u.cell? ⟨h, 6, none⟩ = some (.int .i64 cl) ∧ u.cell? ⟨h, 7, none⟩ = some (.int .i64 bk) ∧ u.cell? ⟨h, 8, none⟩ = some (.int .i64 fee) ∧ u.cell? ⟨h, 9, none⟩ = some (.bool cop) ∧ u.cell? ⟨h, 10, none⟩ = some (.int .i64 sta) ∧ u.cell? ⟨h, 11, none⟩ = some (.int .i64 due)) ∧ (∀ o, (u.alloc o).cell? ⟨h, 0, none⟩ = some (.int .i64 iss)) ∧ (∀ o, (u.alloc o).cell? ⟨h, 1, none⟩ = some (.int .i64 acq)) ∧ (∀ o, (u.alloc o).cell? ⟨h, 2, none⟩ = some (.int .i64 cur)) ∧ (∀ o, (u.alloc o).cell? ⟨h, 3, none⟩ = some (.int .i64 am)) ∧ (∀ o, (u.alloc o).cell? ⟨h, 4, none⟩ = some (.int .i64 st)) ∧ (∀ o, (u.alloc o).cell? ⟨h, 5, none⟩ = some (.int .i64 rsn)) ∧ (∀ o, (u.alloc o).cell? ⟨h, 6, none⟩ = some (.int .i64 cl)) ∧ (∀ o, (u.alloc o).cell? ⟨h, 7, none⟩ = some (.int .i64 bk)) ∧ (∀ o, (u.alloc o).cell? ⟨h, 8, none⟩ = some (.int .i64 fee)) ∧ (∀ o, (u.alloc o).cell? ⟨h, 9, none⟩ = some (.bool cop)) ∧ (∀ o, (u.alloc o).cell? ⟨h, 10, none⟩ = some (.int .i64 sta)) ∧ (∀ o, (u.alloc o).cell? ⟨h, 11, none⟩ = some (.int .i64 due)) := by
  have b := z.ks.kb
  have c : ∀ o, CB h 0 ⟨iss, acq, cur, am, st, rsn, cl, bk, fee, cop, sta, due⟩ (u.alloc o) := fun o => b.below ((Below.refl _ _).alloc (Nat.le_refl _) _)
  refine ⟨⟨?_, ?_, ?_, ?_, ?_, ?_, ?_, ?_, ?_, ?_, ?_, ?_⟩, ?_, ?_, ?_, ?_, ?_, ?_, ?_, ?_, ?_, ?_, ?_, ?_⟩
  · simpa using b.f0
  · simpa using b.f1
  · simpa using b.f2
  · simpa using b.f3
  · simpa using b.f4
  · simpa using b.f5
  · simpa using b.f6
  · simpa using b.f7
  · simpa using b.f8
  · simpa using b.f9
  · simpa using b.f10
  · simpa using b.f11
  · intro o; simpa using (c o).f0
  · intro o; simpa using (c o).f1
  · intro o; simpa using (c o).f2
  · intro o; simpa using (c o).f3
  · intro o; simpa using (c o).f4
  · intro o; simpa using (c o).f5
  · intro o; simpa using (c o).f6
  · intro o; simpa using (c o).f7
  · intro o; simpa using (c o).f8
  · intro o; simpa using (c o).f9
  · intro o; simpa using (c o).f10
  · intro o; simpa using (c o).f11

theorem zAct {B g : Nat} {w : World} {h : Nat} {iss acq cur am st rsn cl bk fee : Int} {cop : Bool} {sta due : Int} {u : World} {ob : Option Nat} (z : KZ B g w h ⟨iss, acq, cur, am, st, rsn, cl, bk, fee, cop, sta, due⟩ u ob) :
    Calls Tryz.prog 49 #[.pointer (some ⟨g, 0, none⟩), .agg #[.int .i64 iss, .int .i64 acq, .int .i64 cur, .int .i64 am, .int .i64 st, .int .i64 rsn, .int .i64 cl, .int .i64 bk, .int .i64 fee, .bool cop, .int .i64 sta, .int .i64 due]] u fun e u' => ∃ x y t : Int, e = .returned (.agg #[.int .i64 x, .int .i64 y, .int .i64 t]) ∧ KZ B g w h ⟨iss, acq, cur, am, st, rsn, cl, bk, fee, cop, sta, due⟩ u' ob :=
  (act_any g ⟨iss, acq, cur, am, st, rsn, cl, bk, fee, cop, sta, due⟩ u z.ks.cur).mono fun _ _ ⟨a, he, hc, hg⟩ => ⟨a.kind, a.am, a.rsn, he, z.call hc hg⟩
theorem zDoK {B g : Nat} {w : World} {h : Nat} {iss acq cur am st rsn cl bk fee : Int} {cop : Bool} {sta due : Int} {u : World} {ob : Option Nat} {ao : Option Addr} {cp : Nat} {zs : List Int} (hx : IntsAt w ao zs) (hne : ∀ a, ao = some a → a.block ≠ g) (hn : zs.length ≤ 1099511627776) (z : KZ B g w h ⟨iss, acq, cur, am, st, rsn, cl, bk, fee, cop, sta, due⟩ u ob) (x y r t : Int) :
    Calls Tryz.prog 48 #[.agg #[.int .i64 iss, .int .i64 acq, .int .i64 cur, .int .i64 am, .int .i64 st, .int .i64 rsn, .int .i64 cl, .int .i64 bk, .int .i64 fee, .bool cop, .int .i64 sta, .int .i64 due], .agg #[.int .i64 x, .int .i64 y, .int .i64 r], .int .i64 t, .slice ao zs.length cp] u fun e u' => ∃ (d : Cs) (eo : Option Addr) (el ec : Nat) (v : Int), e = .returned (.tuple #[cv d, .slice eo el ec, .int .i64 v]) ∧ d.cur = cur ∧ KZ B g w h ⟨iss, acq, cur, am, st, rsn, cl, bk, fee, cop, sta, due⟩ u' ob :=
  (sDo_any ⟨iss, acq, cur, am, st, rsn, cl, bk, fee, cop, sta, due⟩ ⟨x, y, r⟩ t ao cp zs u (ints_far hx z.ks.gr hne) hn).mono fun _ _ ⟨eo, ec, he, _, hb⟩ => ⟨_, eo, _, ec, _, he, doC_cur _ _ _ _, z.below hb⟩
theorem NB.set8 {h : Nat} {c : Cs} {u : World} (q : NB h c u) (x : Int) : NB h ⟨c.iss, c.acq, c.cur, c.am, c.st, c.rsn, c.cl, c.bk, x, c.cop, c.sta, c.due⟩ (u.setCell ⟨h, 8, none⟩ (.int .i64 x)) := by
  obtain ⟨⟨f0, f1, f2, f3, f4, f5, f6, f7, f8, f9, f10, f11⟩, ⟨z0, z1, z2, z3, z4, z5, z6, z7, z8, z9, z10, z11⟩⟩ := q
  simp only [Nat.zero_add] at f0 f1 f2 f3 f4 f5 f6 f7 f8 f9 f10 f11 z0 z1 z2 z3 z4 z5 z6 z7 z8 z9 z10 z11
  exact ⟨⟨by simp [go_sem, f0], by simp [go_sem, f1], by simp [go_sem, f2], by simp [go_sem, f3], by simp [go_sem, f4], by simp [go_sem, f5], by simp [go_sem, f6], by simp [go_sem, f7], by simp [go_sem, f8], by simp [go_sem, f9], by simp [go_sem, f10], by simp [go_sem, f11]⟩,
    ⟨by simp [go_sem, z0], by simp [go_sem, z1], by simp [go_sem, z2], by simp [go_sem, z3], by simp [go_sem, z4], by simp [go_sem, z5], by simp [go_sem, z6], by simp [go_sem, z7], by simp [go_sem, z8], by simp [go_sem, z9], by simp [go_sem, z10], by simp [go_sem, z11]⟩⟩
theorem kPick {B g : Nat} {w : World} {h : Nat} {k : Cs} {u : World} (q : KS B g w h k u) {b' : Nat} (e : b' = u.heap.size) :
    Calls Tryz.prog 19 #[.pointer (some ⟨g, 0, none⟩), .slice (some ⟨b', 0, none⟩) 6 6] (u.alloc (.cells #[.int .i64 0, .int .i64 1, .int .i64 10, .int .i64 45, .int .i64 100, .int .i64 (-200)] 3)) fun e u' => ∃ y : Int, e = .returned (.int .i64 y) ∧ KS B g w h k u' := by
  subst e
  exact (pickInt_any _ _ _ [0, 1, 10, 45, 100, -200] _ (cursor_alloc q.cur _) (cursor_ne q.cur) (lit_cells u [0, 1, 10, 45, 100, -200] _ rfl) (by decide) (by decide)).mono fun _ _ ⟨y, he, _, hc, hg⟩ => ⟨y, he, (q.alloc _).call hc hg⟩
theorem kPickD {B g : Nat} {w : World} {h : Nat} {k : Cs} {u : World} (q : KS B g w h k u) {b' : Nat} (e : b' = u.heap.size) :
    Calls Tryz.prog 19 #[.pointer (some ⟨g, 0, none⟩), .slice (some ⟨b', 0, none⟩) 6 6] (u.alloc (.cells #[.int .i64 0, .int .i64 1, .int .i64 10, .int .i64 45, .int .i64 100, .int .i64 (-200)] 3)).drew fun e u' => ∃ y : Int, e = .returned (.int .i64 y) ∧ KS B g w h k u' := by
  subst e
  have c := lit_cells u [0, 1, 10, 45, 100, -200] _ rfl
  exact (pickInt_any _ _ _ [0, 1, 10, 45, 100, -200] _ (q.alloc _).drew.cur (cursor_ne q.cur) (fun i hi => (by simpa using c i hi)) (by decide) (by decide)).mono fun _ _ ⟨y, he, _, hc, hg⟩ => ⟨y, he, (q.alloc _).drew.call hc hg⟩
theorem KS.fin {B g : Nat} {w : World} {h : Nat} {k : Cs} {u : World} (q : KS B g w h k u) (d : Cs) : CB w.heap.size 0 d (put12 u w.heap.size d) ∧ Cursor B (put12 u w.heap.size d) g ∧ w.grownBy (put12 u w.heap.size d) (some g) := by
  have b : Below w.heap.size u (put12 u w.heap.size d) := put12_below d (Below.refl _ _) (Nat.le_refl _)
  exact ⟨put12_cb q.rb, cursor_keep q.cur (b.mono q.bl), ⟨b.os.trans q.gr.os, b.tape.trans q.gr.tape, b.output.trans q.gr.output, Nat.le_trans q.gr.size b.size, fun j hj hne => (b.block j hj).trans (q.gr.block j hj hne)⟩⟩
theorem KN.puq {B g : Nat} {w : World} {h : Nat} {k : Cs} {u : World} {b b' : Nat} (z : KZ B g w h k u (some b)) (n : Cs) (e : b' = b) : KN B g w h k b' n ((((((((((((u.setCell ⟨b', 0, none⟩ (.int .i64 n.iss)).setCell ⟨b', 1, none⟩ (.int .i64 n.acq)).setCell ⟨b', 2, none⟩ (.int .i64 n.cur)).setCell ⟨b', 3, none⟩ (.int .i64 n.am)).setCell ⟨b', 4, none⟩ (.int .i64 n.st)).setCell ⟨b', 5, none⟩ (.int .i64 n.rsn)).setCell ⟨b', 6, none⟩ (.int .i64 n.cl)).setCell ⟨b', 7, none⟩ (.int .i64 n.bk)).setCell ⟨b', 8, none⟩ (.int .i64 n.fee)).setCell ⟨b', 9, none⟩ (.bool n.cop)).setCell ⟨b', 10, none⟩ (.int .i64 n.sta)).setCell ⟨b', 11, none⟩ (.int .i64 n.due)) := by
  subst e
  exact KN.put z n
theorem KS.of {B g : Nat} {w u : World} {t : TypeId} (hc : Cursor B u g) (gr : (w.alloc (.cells #[.int .i64 0, .int .i64 0, .int .i64 0, .int .i64 0, .int .i64 0, .int .i64 0, .int .i64 0, .int .i64 0, .int .i64 0, .bool false, .int .i64 0, .int .i64 0] t)).grownBy u (some g)) (gl : g < w.heap.size) (bl : B ≤ w.heap.size) (k : Cs) (t' : TypeId) :
    KS B g w u.heap.size k (u.alloc (.cells #[.int .i64 k.iss, .int .i64 k.acq, .int .i64 k.cur, .int .i64 k.am, .int .i64 k.st, .int .i64 k.rsn, .int .i64 k.cl, .int .i64 k.bk, .int .i64 k.fee, .bool k.cop, .int .i64 k.sta, .int .i64 k.due] t')) := by
  have b0 := CB.new w zeroC t
  have f0 := FZ.new w #[.int .i64 0, .int .i64 0, .int .i64 0, .int .i64 0, .int .i64 0, .int .i64 0, .int .i64 0, .int .i64 0, .int .i64 0, .bool false, .int .i64 0, .int .i64 0] t
  have hne : some w.heap.size ≠ some g := by simp; omega
  have s := gr.size
  simp only [World.size_alloc] at s
  have q := b0.grown gr hne
  have p : Below u.heap.size u (u.alloc (.cells #[.int .i64 k.iss, .int .i64 k.acq, .int .i64 k.cur, .int .i64 k.am, .int .i64 k.st, .int .i64 k.rsn, .int .i64 k.cl, .int .i64 k.bk, .int .i64 k.fee, .bool k.cop, .int .i64 k.sta, .int .i64 k.due] t')) := (Below.refl _ _).alloc (Nat.le_refl _) _
  exact ⟨q.below p, (f0.grown b0.lt gr hne).below q.lt p, CB.new u k t', FZ.new u _ t', cursor_alloc hc _, ((World.grownBy_alloc w _ _).trans gr).trans (World.grownBy_alloc u _ _), gl, by omega, bl⟩

set_option maxHeartbeats 40000000 in
theorem case_any {B : Nat} (g : Nat) (ao : Option Addr) (cp : Nat) (zs : List Int) (w : World) (hc : Cursor B w g) (hx : IntsAt w ao zs) (hne : ∀ a, ao = some a → a.block ≠ g) (hn : zs.length ≤ 1099511627776) :
    Calls Tryz.prog 18 #[.pointer (some ⟨g, 0, none⟩), .slice ao zs.length cp] w fun e w' => ∃ (c : Cs) (d : Int), e = .returned (.tuple #[cv c, .int .i64 d]) ∧ wf64 c.cur ∧ Cursor B w' g ∧ w.grownBy w' (some g) := by
  obtain ⟨gl, bl⟩ := cursor_bd hc
  have HX : Hid (IntsAt w ao zs) := hx
  have HN : Hid (zs.length ≤ 1099511627776) := hn
  have HE : Hid (∀ a, ao = some a → a.block ≠ g) := hne
  have HL : Hid (g < w.heap.size) := by rw [Hid]; omega
  have HB : Hid (B ≤ w.heap.size) := bl
  clear hx hn hne gl bl
  go_enter Tryz.func18, Tryz.ntmps18
  go_wp2_with fail
  refine (below_any _ _ _ (cursor_alloc hc _) (by omega)).mono ?_
  rintro e w1 ⟨x1, rfl, -, -, c1, g1⟩
  clear hc
  go_wp2_with fail
  refine (below_any _ _ _ c1 (by omega)).mono ?_
  rintro e w2 ⟨x2, rfl, -, -, c2, g2⟩
  replace g2 := g1.trans g2
  clear c1 g1
  go_wp2_with fail
  refine (below_any _ _ _ c2 (by omega)).mono ?_
  rintro e w3 ⟨x3, rfl, -, -, c3, g3⟩
  replace g3 := g2.trans g3
  clear c2 g2
  go_wp2_with fail
  refine (pickInt_any _ _ _ [840, 978, 392] _ (cursor_alloc c3 _) (cursor_ne c3) (lit_cells w3 [840, 978, 392] _ rfl) (by decide) (by decide)).mono ?_
  rintro e w4 ⟨x4, rfl, m4, c4, g4⟩
  replace g4 := (g3.trans (World.grownBy_alloc w3 _ _)).trans g4
  clear c3 g3
  go_wp2_with fail
  refine (below_any _ _ _ c4 (by omega)).mono ?_
  rintro e w5 ⟨x5, rfl, -, -, c5, g5⟩
  replace g5 := g4.trans g5
  clear c4 g4
  go_wp2_with fail
  refine (sStart_any _ _ _ _ _ _).mono ?_
  rintro e w6 ⟨eo, ec, rfl, -, b6⟩
  have hcu : wf64 (startV (wrap64 (1 + x2)) (wrap64 (4 + x3)) x4 (wrap64 (100 + x5)) (wrap64 (9000 + x1))).cur := by
    unfold startV
    split
    · simp at m4
      rcases m4 with rfl | rfl | rfl <;> exact WalkArith.wf_i64 (by simp [startC])
    · exact WalkArith.wf_i64 (by simp [zeroC])
  generalize startV (wrap64 (1 + x2)) (wrap64 (4 + x3)) x4 (wrap64 (100 + x5)) (wrap64 (9000 + x1)) = k0 at hcu ⊢
  have c6 := cursor_below c5 b6
  have g6 := g5.trans (grown_ofK b6 (some g))
  clear c5 g5 b6 m4
  obtain ⟨iss, acq, cur, am, st, rsn, cl, bk, fee, cop, sta, due⟩ := k0
  unfold cv
  simp only at hcu ⊢
  have g6' : Hid _ := g6
  go_wp2_with fail
  have q7 := KS.of c6 g6'.out HL.out HB.out ⟨iss, acq, cur, am, st, rsn, cl, bk, fee, cop, sta, due⟩ 25
  simp only at q7
  refine (below_any _ _ _ q7.cur (by omega)).mono ?_
  rintro e w8 ⟨x8, rfl, x80, x81, c8, g8⟩
  have x82 := x81 (by omega)
  obtain ⟨m, rfl⟩ := Int.eq_ofNat_of_zero_le x80
  have q8 := q7.call c8 g8
  obtain ⟨h, hh⟩ : ∃ h, h = w6.heap.size := ⟨_, rfl⟩
  rw [← hh] at q8 ⊢
  have HQ : Hid (KS B g w h ⟨iss, acq, cur, am, st, rsn, cl, bk, fee, cop, sta, due⟩ w8) := q8
  have HC : Hid (wf64 cur) := hcu
  clear q7 q8 c6 g6 g6' c8 g8 x80 x81 hh hcu
  go_upto_block 0 with fail
  go_cut [6] (fun v wc => ∃ (d : Int) (k : Cs), v = .int .i64 d ∧ wf64 k.cur ∧ KS B g w h k wc)
  case first =>
    go_wp2_with fail
    go_loopw [6, 11] (fun v i wr => ∃ (n : Nat) (d : Int) (k : Cs), n ≤ m ∧ v = .int .i64 d ∧ i = .int .i64 n ∧ wf64 k.cur ∧ KS B g w h k wr) (fun _ i _ => m - (intOf i).toNat)
    case atStart => exact ⟨0, _, _, Nat.zero_le _, rfl, rfl, HC.out, HQ.out⟩
    case round =>
      clear HQ HC
      obtain ⟨n, d, k, hn, rfl, rfl, hcu, q⟩ := hrel
      by_cases hlt : n < m
      · have hni : (n : Int) < (m : Int) := by omega
        go_wp2_with fail
        refine (pickInt_any _ _ _ [0, 1, 5, 20, 50] _ (cursor_alloc q.cur _) (cursor_ne q.cur) (lit_cells wr [0, 1, 5, 20, 50] _ rfl) (by decide) (by decide)).mono ?_
        rintro e w9 ⟨y, rfl, -, c9, g9⟩
        have q9 := (q.alloc _).call c9 g9
        clear c9 g9 q
        obtain ⟨iss, acq, cur, am, st, rsn, cl, bk, fee, cop, sta, due⟩ := k
        simp only at hcu
        go_upto_region 8 with fail
        generalize wrap64 (d + y) = d9
        have z : KZ B g w h ⟨iss, acq, cur, am, st, rsn, cl, bk, fee, cop, sta, due⟩ w9 none := ⟨q9, fun b hb => by cases hb⟩
        have HCU : Hid (wf64 cur) := hcu
        clear q9 hcu
        go_cut [12] (fun v wc => ∃ (b : Nat) (n : Cs), v = .pointer (some ⟨b, 0, none⟩) ∧ wf64 n.cur ∧ KN B g w h ⟨iss, acq, cur, am, st, rsn, cl, bk, fee, cop, sta, due⟩ b n wc)
        case first =>
          obtain ⟨⟨c0, c1, c2, c3, c4, c5, c6, c7, c8, c9, c10, c11⟩, d0, d1, d2, d3, d4, d5, d6, d7, d8, d9, d10, d11⟩ := z.c12
          go_region_with (first
            | (go_at_call 49; (first | with_reducible refine (zAct z).mono ?_ | with_reducible refine (zAct z.drew).mono ?_ | with_reducible refine (zAct (z.al _)).mono ?_ | with_reducible refine (zAct (z.al _).drew).mono ?_ | with_reducible refine (zAct (z.drew.al _)).mono ?_); rintro e v1 ⟨x1, y1, t1, rfl, z⟩; obtain ⟨⟨p0, p1, p2, p3, p4, p5, p6, p7, p8, p9, p10, p11⟩, q0, q1, q2, q3, q4, q5, q6, q7, q8, q9, q10, q11⟩ := z.c12)
            | (go_at_call 48; (first | with_reducible refine (zDoK HX.out HE.out HN.out z _ _ _ _).mono ?_ | with_reducible refine (zDoK HX.out HE.out HN.out z.drew _ _ _ _).mono ?_ | with_reducible refine (zDoK HX.out HE.out HN.out (z.al _) _ _ _ _).mono ?_ | with_reducible refine (zDoK HX.out HE.out HN.out (z.al _).drew _ _ _ _).mono ?_ | with_reducible refine (zDoK HX.out HE.out HN.out (z.drew.al _) _ _ _ _).mono ?_); rintro e v2 ⟨⟨n0, n1, n2, n3, n4, n5, n6, n7, n8, n9, n10, n11⟩, eo2, el2, ec2, r2, rfl, hn2, z⟩; simp only at hn2; subst hn2; simp only [cv]; (first | (obtain ⟨_, ⟨bg0, bg1, bg2, bg3, bg4, bg5, bg6, bg7, bg8, bg9, bg10, bg11⟩, ⟨by0, by1, by2, by3, by4, by5, by6, by7, by8, by9, by10, by11⟩⟩ := z.box _ rfl; simp only [Nat.zero_add, zeroC] at bg0 bg1 bg2 bg3 bg4 bg5 bg6 bg7 bg8 bg9 bg10 bg11 by0 by1 by2 by3 by4 by5 by6 by7 by8 by9 by10 by11; (try simp at bg0 bg1 bg2 bg3 bg4 bg5 bg6 bg7 bg8 bg9 bg10 bg11 by0 by1 by2 by3 by4 by5 by6 by7 by8 by9 by10 by11)) | skip)))
          all_goals
            go_wp2_with fail
            go_meet
            refine ⟨_, ⟨n0, n1, n2, n3, n4, n5, n6, n7, n8, n9, n10, n11⟩, rfl, HCU.out, ?_⟩
            first
              | with_reducible exact KN.new z ⟨n0, n1, n2, n3, n4, n5, n6, n7, n8, n9, n10, n11⟩ _
              | with_reducible exact KN.puq z ⟨n0, n1, n2, n3, n4, n5, n6, n7, n8, n9, n10, n11⟩ (by first | rfl | simp)
        case rest =>
          clear HCU z
          obtain ⟨b, nc, rfl, hn2, q⟩ := hcut
          obtain ⟨wk, hwk⟩ : ∃ x, x = wc := ⟨_, rfl⟩
          subst hwk
          obtain ⟨n0, n1, n2, n3, n4, n5, n6, n7, n8, n9, n10, n11⟩ := nc
          simp only at hn2
          obtain ⟨bg0, bg1, bg2, bg3, bg4, bg5, bg6, bg7, bg8, bg9, bg10, bg11⟩ := q.cb
          obtain ⟨hg0, hg1, hg2, hg3, hg4, hg5, hg6, hg7, hg8, hg9, hg10, hg11⟩ := q.ks.kb
          obtain ⟨hy0, hy1, hy2, hy3, hy4, hy5, hy6, hy7, hy8, hy9, hy10, hy11⟩ := q.ks.kz
          simp only [Nat.zero_add] at bg0 hg0 hy0 bg1 hg1 hy1 bg2 hg2 hy2 bg3 hg3 hy3 bg4 hg4 hy4 bg5 hg5 hy5 bg6 hg6 hy6 bg7 hg7 hy7 bg8 hg8 hy8 bg9 hg9 hy9 bg10 hg10 hy10 bg11 hg11 hy11
          have HR : Hid (KS B g w h ⟨n0, n1, n2, n3, n4, n5, n6, n7, n8, n9, n10, n11⟩ (put12 wk h ⟨n0, n1, n2, n3, n4, n5, n6, n7, n8, n9, n10, n11⟩)) := q.ks.set (put12_below _ (Below.refl _ _) (Nat.le_refl _)) q.ks.nb.put
          clear q
          go_wp2
          go_roundw
          case rel => exact ⟨n + 1, _, ⟨n0, n1, n2, n3, n4, n5, n6, n7, n8, n9, n10, n11⟩, by omega, rfl, by go_num, hn2, HR.out⟩
          case measure => simp [intOf]; omega
      · have hni : ¬ (n : Int) < (m : Int) := by omega
        go_wp2
        go_meet
        exact ⟨_, _, rfl, hcu, q⟩
  case rest =>
    clear HQ HC
    obtain ⟨d, k, rfl, hcu, q⟩ := hcut
    obtain ⟨wk, hwk⟩ : ∃ x, x = wc := ⟨_, rfl⟩
    subst hwk
    go_wp2_with fail
    refine (below_any _ _ _ q.cur (by omega)).mono ?_
    rintro e w9 ⟨x9, rfl, -, -, c9, g9⟩
    have q9 := q.call c9 g9
    clear q c9 g9
    obtain ⟨iss, acq, cur, am, st, rsn, cl, bk, fee, cop, sta, due⟩ := k
    simp only at hcu
    have HCU : Hid (wf64 cur) := hcu
    clear hcu
    go_upto_block 2 with fail
    go_cut [10] (fun _ wc => ∃ k : Cs, wf64 k.cur ∧ KS B g w h k wc)
    case first =>
      by_cases e0 : x9 = 0
      · subst e0
        go_wp2_with fail
        refine (pickInt_any _ _ _ [-1, 3, 5, 8] _ (cursor_alloc q9.cur _) (cursor_ne q9.cur) (lit_cells w9 [-1, 3, 5, 8] _ rfl) (by decide) (by decide)).mono ?_
        rintro e wa ⟨y, rfl, -, ca, ga⟩
        have qa := (q9.alloc _).call ca ga
        have f4 := qa.kb.f4
        have z4 := qa.kz.z4
        simp only [Nat.zero_add] at f4 z4
        have HA : Hid (KS B g w h ⟨iss, acq, cur, am, st, rsn, cl, bk, fee, cop, sta, due⟩ wa) := qa
        clear qa q9 ca ga
        go_wp2
        go_meet
        exact ⟨_, HCU.out, HA.out.at 4 _ (HA.out.nb.set4 y)⟩
      · by_cases e1 : x9 = 1
        · subst e1
          have f3 := q9.kb.f3
          simp only [Nat.zero_add] at f3
          go_wp2_with fail
          refine (pickInt_any _ _ _ [-1, am, wrap64 (am + 1)] _ (cursor_alloc q9.cur _) (cursor_ne q9.cur) (lit_cells w9 [-1, am, wrap64 (am + 1)] _ rfl) (by simp) (by simp)).mono ?_
          rintro e wa ⟨y, rfl, -, ca, ga⟩
          have qa := (q9.alloc _).call ca ga
          have f6 := qa.kb.f6
          have z6 := qa.kz.z6
          simp only [Nat.zero_add] at f6 z6
          have HA : Hid (KS B g w h ⟨iss, acq, cur, am, st, rsn, cl, bk, fee, cop, sta, due⟩ wa) := qa
          clear qa q9 ca ga f3
          go_wp2
          go_meet
          exact ⟨_, HCU.out, HA.out.at 6 _ (HA.out.nb.set6 y)⟩
        · by_cases e2 : x9 = 2
          · subst e2
            have f3 := q9.kb.f3
            simp only [Nat.zero_add] at f3
            go_wp2_with fail
            refine (pickInt_any _ _ _ [-1, 0, am] _ (cursor_alloc q9.cur _) (cursor_ne q9.cur) (lit_cells w9 [-1, 0, am] _ rfl) (by simp) (by simp)).mono ?_
            rintro e wa ⟨y, rfl, -, ca, ga⟩
            have qa := (q9.alloc _).call ca ga
            have f7 := qa.kb.f7
            have z7 := qa.kz.z7
            simp only [Nat.zero_add] at f7 z7
            have HA : Hid (KS B g w h ⟨iss, acq, cur, am, st, rsn, cl, bk, fee, cop, sta, due⟩ wa) := qa
            clear qa q9 ca ga f3
            go_wp2
            go_meet
            exact ⟨_, HCU.out, HA.out.at 7 _ (HA.out.nb.set7 y)⟩
          · by_cases e3 : x9 = 3
            · subst e3
              go_wp2_with fail
              refine (pickInt_any _ _ _ [500000, 500001, 480000] _ (cursor_alloc q9.cur _) (cursor_ne q9.cur) (lit_cells w9 [500000, 500001, 480000] _ rfl) (by simp) (by simp)).mono ?_
              rintro e wa ⟨y, rfl, -, ca, ga⟩
              have qa := (q9.alloc _).call ca ga
              have f8 := qa.kb.f8
              have z8 := qa.kz.z8
              simp only [Nat.zero_add] at f8 z8
              have HA : Hid (KS B g w h ⟨iss, acq, cur, am, st, rsn, cl, bk, fee, cop, sta, due⟩ wa) := qa
              clear qa q9 ca ga
              go_wp2
              go_meet
              exact ⟨_, HCU.out, HA.out.at 8 _ (NB.set8 HA.out.nb y)⟩
            · go_wp2
              go_meet
              exact ⟨_, HCU.out, q9⟩
    case rest =>
      clear q9 HCU
      obtain ⟨k, hcu, q⟩ := hcut
      obtain ⟨wl, hwl⟩ : ∃ x, x = wc := ⟨_, rfl⟩
      subst hwl
      obtain ⟨iss, acq, cur, am, st, rsn, cl, bk, fee, cop, sta, due⟩ := k
      simp only at hcu
      have HCU : Hid (wf64 cur) := hcu
      clear hcu
      obtain ⟨⟨c0, c1, c2, c3, c4, c5, c6, c7, c8, c9, c10, c11⟩, d0, d1, d2, d3, d4, d5, d6, d7, d8, d9, d10, d11⟩ := KZ.c12 (⟨q, fun b hb => by cases hb⟩ : KZ B g w h ⟨iss, acq, cur, am, st, rsn, cl, bk, fee, cop, sta, due⟩ wl none)
      go_upto_region 19 with fail
      go_cut [5] (fun v wc => ∃ (d : Int) (k : Cs), v = .int .i64 d ∧ wf64 k.cur ∧ CB w.heap.size 0 k wc ∧ Cursor B wc g ∧ w.grownBy wc (some g))
      case first =>
        go_region_with (go_at_call 19; (first | with_reducible refine (kPick q (by first | rfl | simp)).mono ?_ | with_reducible refine (kPick q.drew (by first | rfl | simp)).mono ?_ | with_reducible refine (kPickD q (by first | rfl | simp)).mono ?_); rintro e v1 ⟨y1, rfl, q⟩; obtain ⟨⟨p0, p1, p2, p3, p4, p5, p6, p7, p8, p9, p10, p11⟩, q0, q1, q2, q3, q4, q5, q6, q7, q8, q9, q10, q11⟩ := KZ.c12 (⟨q, fun b hb => by cases hb⟩ : KZ B g w h ⟨iss, acq, cur, am, st, rsn, cl, bk, fee, cop, sta, due⟩ v1 none); obtain ⟨rg0, rg1, rg2, rg3, rg4, rg5, rg6, rg7, rg8, rg9, rg10, rg11⟩ := q.rb; obtain ⟨ry0, ry1, ry2, ry3, ry4, ry5, ry6, ry7, ry8, ry9, ry10, ry11⟩ := q.rz; simp only [Nat.zero_add, zeroC] at rg0 ry0 rg1 ry1 rg2 ry2 rg3 ry3 rg4 ry4 rg5 ry5 rg6 ry6 rg7 ry7 rg8 ry8 rg9 ry9 rg10 ry10 rg11 ry11)
        all_goals
          go_wp2_with fail
          go_meet
          exact ⟨_, ⟨iss, acq, cur, am, st, rsn, cl, bk, fee, cop, sta, due⟩, rfl, HCU.out, q.fin _⟩
      case rest =>
        clear HCU q c0 d0 c1 d1 c2 d2 c3 d3 c4 d4 c5 d5 c6 d6 c7 d7 c8 d8 c9 d9 c10 d10 c11 d11
        obtain ⟨d, k, rfl, hcu, kb, kc, kg⟩ := hcut
        obtain ⟨wm, hwm⟩ : ∃ x, x = wc := ⟨_, rfl⟩
        subst hwm
        obtain ⟨iss, acq, cur, am, st, rsn, cl, bk, fee, cop, sta, due⟩ := k
        obtain ⟨rg0, rg1, rg2, rg3, rg4, rg5, rg6, rg7, rg8, rg9, rg10, rg11⟩ := kb
        simp only [Nat.zero_add] at rg0 rg1 rg2 rg3 rg4 rg5 rg6 rg7 rg8 rg9 rg10 rg11
        go_wp2
        refine bodyPost_ret (by simp [results, Tryz.results18, go_sem, rg0, rg1, rg2, rg3, rg4, rg5, rg6, rg7, rg8, rg9, rg10, rg11]; try rfl) rfl ?_
        first | exact ⟨⟨iss, acq, cur, am, st, rsn, cl, bk, fee, cop, sta, due⟩, ⟨d, rfl⟩, hcu, kc, kg⟩ | exact ⟨⟨iss, acq, cur, am, st, rsn, cl, bk, fee, cop, sta, due⟩, d, rfl, hcu, kc, kg⟩

end Go.Proofs.YtjnekdihmchlpaaGreatDoor
