/- What FnTell draws: a case and a number. -/
import Derived.Test.YtjnekdihmchlpaaGreatDoorKTDrawCs
namespace Go.Proofs.YtjnekdihmchlpaaGreatDoor
open Go.RowKit
set_option maxRecDepth 100000

def TlD (w : World) (e : Ending) (w' : World) : Prop :=
  ∃ (c : Cs) (n : Int), e = .returned (.tuple #[cv c, .int .i64 n]) ∧ wf64 c.cur ∧ (n = 0 ∨ n = 1 ∨ n = 77 ∨ n = 9999 ∨ n = 10000 ∨ n = -1) ∧ Below w.heap.size w w'

/-- on the way: the drawn case in its box, the answer's box, the cursor -/
structure TZ (B g : Nat) (w : World) (h : Nat) (k : Cs) (u : World) : Prop where
  rb : CB w.heap.size 0 zeroC u
  rz : FZ w.heap.size 0 u
  kb : CB h 0 k u
  cur : Cursor B u g
  bel : Below w.heap.size w u
  gl : w.heap.size < g
  hl : g < h
theorem TZ.call {B g : Nat} {w : World} {h : Nat} {k : Cs} {u u' : World} (q : TZ B g w h k u) (c : Cursor B u' g) (r : u.grownBy u' (some g)) : TZ B g w h k u' := by
  have g1 := q.gl
  have g2 := q.hl
  have s := r.size
  have s1 := q.bel.size
  exact ⟨q.rb.grown r (by simp; omega), q.rz.grown q.rb.lt r (by simp; omega), q.kb.grown r (by simp; omega), c, q.bel.grown r (by omega) (fun j hj => by injection hj with hj; omega), g1, g2⟩
theorem TZ.drew {B g : Nat} {w : World} {h : Nat} {k : Cs} {u : World} (q : TZ B g w h k u) : TZ B g w h k u.drew :=
  q.call (cursor_below q.cur ((Below.refl _ _).drew)) (grown_ofK ((Below.refl _ _).drew) _)
theorem TZ.alloc {B g : Nat} {w : World} {h : Nat} {k : Cs} {u : World} (q : TZ B g w h k u) (o : Obj) : TZ B g w h k (u.alloc o) :=
  q.call (cursor_alloc q.cur _) (grown_alloc u o _)
theorem tPick {B g : Nat} {w : World} {h : Nat} {k : Cs} {u : World} (q : TZ B g w h k u) {b' : Nat} (e : b' = u.heap.size) :
    Calls Tryz.prog 19 #[.pointer (some ⟨g, 0, none⟩), .slice (some ⟨b', 0, none⟩) 6 6] (u.alloc (.cells #[.int .i64 0, .int .i64 1, .int .i64 77, .int .i64 9999, .int .i64 10000, .int .i64 (-1)] 3)) fun e u' => ∃ y : Int, e = .returned (.int .i64 y) ∧ y ∈ [0, 1, 77, 9999, 10000, -1] ∧ TZ B g w h k u' := by
  subst e
  exact (pickInt_any _ _ _ [0, 1, 77, 9999, 10000, -1] _ (cursor_alloc q.cur _) (cursor_ne q.cur) (lit_cells u [0, 1, 77, 9999, 10000, -1] _ rfl) (by decide) (by decide)).mono fun _ _ ⟨y, he, hm, hc, hg⟩ => ⟨y, he, hm, (q.alloc _).call hc hg⟩
theorem tPickD {B g : Nat} {w : World} {h : Nat} {k : Cs} {u : World} (q : TZ B g w h k u) {b' : Nat} (e : b' = u.heap.size) :
    Calls Tryz.prog 19 #[.pointer (some ⟨g, 0, none⟩), .slice (some ⟨b', 0, none⟩) 6 6] (u.alloc (.cells #[.int .i64 0, .int .i64 1, .int .i64 77, .int .i64 9999, .int .i64 10000, .int .i64 (-1)] 3)).drew fun e u' => ∃ y : Int, e = .returned (.int .i64 y) ∧ y ∈ [0, 1, 77, 9999, 10000, -1] ∧ TZ B g w h k u' := by
  subst e
  have c := lit_cells u [0, 1, 77, 9999, 10000, -1] _ rfl
  exact (pickInt_any _ _ _ [0, 1, 77, 9999, 10000, -1] _ (q.alloc _).drew.cur (cursor_ne q.cur) (fun i hi => (by simpa using c i hi)) (by decide) (by decide)).mono fun _ _ ⟨y, he, hm, hc, hg⟩ => ⟨y, he, hm, (q.alloc _).drew.call hc hg⟩
theorem TZ.fin {B g : Nat} {w : World} {h : Nat} {k : Cs} {u : World} (q : TZ B g w h k u) (d : Cs) : CB w.heap.size 0 d (put12 u w.heap.size d) ∧ Below w.heap.size w (put12 u w.heap.size d) :=
  ⟨put12_cb q.rb, put12_below d q.bel (Nat.le_refl _)⟩

set_option maxHeartbeats 12800000 in
theorem drawTell_any (a : Option Addr) (len cap : Nat) (zs : List Int) (w : World) (hr : IsRow .u8 w a len cap zs) (hn : len ≤ 1048576) : Calls Tryz.prog 5 #[.slice a len cap] w (TlD w) := by
  obtain ⟨W, hW⟩ : ∃ W, W = w.alloc (.cells #[.int .i64 0, .int .i64 0, .int .i64 0, .int .i64 0, .int .i64 0, .int .i64 0, .int .i64 0, .int .i64 0, .int .i64 0, .bool false, .int .i64 0, .int .i64 0] 25) := ⟨_, rfl⟩
  have bW : Below w.heap.size w W := by rw [hW]; go_grown
  have hWs : W.heap.size = w.heap.size + 1 := by rw [hW]; simp
  have k0 : CB w.heap.size 0 zeroC W := by rw [hW]; exact CB.new w zeroC _
  have kz : FZ w.heap.size 0 W := by rw [hW]; exact FZ.new w _ _
  have hr1 := row_below hr bW
  have HBW : Hid (Below w.heap.size w W) := bW
  have HK0 : Hid (CB w.heap.size 0 zeroC W) := k0
  have HKZ : Hid (FZ w.heap.size 0 W) := kz
  have HWS : Hid (W.heap.size = w.heap.size + 1) := hWs
  clear bW k0 kz hWs
  go_enter Tryz.func5, Tryz.ntmps5
  go_upto_region 1 with fail
  rw [← hW]
  clear hW
  go_wp2_with fail
  refine (new_any _ _ _ _ _ hr1 hn).mono ?_
  rintro e w1 ⟨rfl, c1, b1⟩
  have HB1 : Hid (Below W.heap.size W w1) := b1
  obtain ⟨g, hg⟩ : ∃ g, g = W.heap.size := ⟨_, rfl⟩
  rw [← hg] at c1 ⊢
  have HG : Hid (g = W.heap.size) := hg
  obtain ⟨L, hL⟩ : ∃ L, L = w1.alloc (.cells #[] 3) := ⟨_, rfl⟩
  have HC1 : Hid (Cursor (g + 1) L g) := by rw [Hid, hL]; exact cursor_alloc c1 _
  have HBL : Hid (Below w1.heap.size w1 L) := by rw [Hid, hL]; exact (Below.refl _ _).alloc (Nat.le_refl _) _
  have HLL : Hid _ := hL
  have HEM : Hid (IntsAt L (some ⟨w1.heap.size, 0, none⟩) []) := .inl rfl
  have HGL : Hid (g < w1.heap.size) := by have := cursor_bd c1; rw [Hid]; omega
  clear b1 hr1 hr hg c1 hL
  have HCS : Hid (Calls Tryz.prog 18 #[.pointer (some ⟨g, 0, none⟩), .slice (some ⟨w1.heap.size, 0, none⟩) 0 0] L fun e w' => ∃ (c : Cs) (d : Int), e = .returned (.tuple #[cv c, .int .i64 d]) ∧ wf64 c.cur ∧ Cursor (g + 1) w' g ∧ L.grownBy w' (some g)) := case_any g (some ⟨w1.heap.size, 0, none⟩) 0 [] L HC1.out HEM.out (fun a ha => by injection ha with ha; subst ha; have := HGL.out; simp; omega) (by simp)
  go_wp2_with fail
  rw [← HLL.out]
  refine Calls.mono HCS.out ?_
  rintro e w3 ⟨k, d, rfl, hcu, c3, g3⟩
  have q3 : TZ (g + 1) g w w3.heap.size k (w3.alloc (.cells #[.int .i64 k.iss, .int .i64 k.acq, .int .i64 k.cur, .int .i64 k.am, .int .i64 k.st, .int .i64 k.rsn, .int .i64 k.cl, .int .i64 k.bk, .int .i64 k.fee, .bool k.cop, .int .i64 k.sta, .int .i64 k.due] 25)) := by
    have e1 := HG.out
    have e2 := HWS.out
    have l1 : Below g W L := (e1 ▸ HB1.out : Below g W w1).trans (HBL.out.mono (by have := HGL.out; omega))
    have s3 := g3.size
    have s2 := l1.size
    have cb3 := cursor_bd c3
    have b3 : Below w.heap.size w w3 := ((HBW.out.trans (l1.mono (by omega))).grown g3 (by omega) (fun j hj => by injection hj with hj; omega))
    have p : Below w3.heap.size w3 (w3.alloc (.cells #[.int .i64 k.iss, .int .i64 k.acq, .int .i64 k.cur, .int .i64 k.am, .int .i64 k.st, .int .i64 k.rsn, .int .i64 k.cl, .int .i64 k.bk, .int .i64 k.fee, .bool k.cop, .int .i64 k.sta, .int .i64 k.due] 25)) := (Below.refl _ _).alloc (Nat.le_refl _) _
    have r2 := HK0.out.under l1 (by omega)
    have z2 := HKZ.out.under l1 (by omega)
    have r3 := r2.grown g3 (by simp; omega)
    exact ⟨r3.below p, (z2.grown r2.lt g3 (by simp; omega)).below r3.lt p, CB.new w3 k _, cursor_alloc c3 _, next b3 p, by omega, by omega⟩
  obtain ⟨iss, acq, cur, am, st, rsn, cl, bk, fee, cop, sta, due⟩ := k
  unfold cv
  simp only at hcu q3 ⊢
  have HCU : Hid (wf64 cur) := hcu
  clear hcu c3 g3 HCS HC1 HBL HLL HEM
  go_upto_region 3 with fail
  generalize hw4 : w3.alloc (.cells #[.int .i64 iss, .int .i64 acq, .int .i64 cur, .int .i64 am, .int .i64 st, .int .i64 rsn, .int .i64 cl, .int .i64 bk, .int .i64 fee, .bool cop, .int .i64 sta, .int .i64 due] 25) = w4 at q3 ⊢
  clear hw4
  go_cut [3] (fun v wc => ∃ n : Int, v = .int .i64 n ∧ n ∈ ([0, 1, 77, 9999, 10000, -1] : List Int) ∧ CB w.heap.size 0 ⟨iss, acq, cur, am, st, rsn, cl, bk, fee, cop, sta, due⟩ wc ∧ Below w.heap.size w wc)
  case first =>
    have A := fun o => (q3.alloc o).kb
    obtain ⟨c0, c1, c2, c3, c4, c5, c6, c7, c8, c9, c10, c11⟩ := q3.kb
    obtain ⟨rg0, rg1, rg2, rg3, rg4, rg5, rg6, rg7, rg8, rg9, rg10, rg11⟩ := q3.rb
    have a0 := fun o => (A o).f0
    have a1 := fun o => (A o).f1
    have a2 := fun o => (A o).f2
    have a3 := fun o => (A o).f3
    have a4 := fun o => (A o).f4
    have a5 := fun o => (A o).f5
    have a6 := fun o => (A o).f6
    have a7 := fun o => (A o).f7
    have a8 := fun o => (A o).f8
    have a9 := fun o => (A o).f9
    have a10 := fun o => (A o).f10
    have a11 := fun o => (A o).f11
    simp only [Nat.zero_add] at c0 c1 c2 c3 c4 c5 c6 c7 c8 c9 c10 c11 a0 a1 a2 a3 a4 a5 a6 a7 a8 a9 a10 a11
    clear A
    go_region_law (first
      | (go_simp; go_at_call 19; (first | with_reducible refine (tPick q3 (by first | rfl | simp)).mono ?_ | with_reducible refine (tPickD q3 (by first | rfl | simp)).mono ?_ | with_reducible refine (tPick q3.drew (by first | rfl | simp)).mono ?_ | with_reducible refine (tPickD q3.drew (by first | rfl | simp)).mono ?_); rintro e v1 ⟨y, rfl, hy, q5⟩; have HY : Hid (y ∈ ([0, 1, 77, 9999, 10000, -1] : List Int)) := hy; clear hy; have HQ5 : Hid _ := q5; obtain ⟨p0, p1, p2, p3, p4, p5, p6, p7, p8, p9, p10, p11⟩ := q5.kb; simp only [Nat.zero_add] at p0 p1 p2 p3 p4 p5 p6 p7 p8 p9 p10 p11; obtain ⟨rg0, rg1, rg2, rg3, rg4, rg5, rg6, rg7, rg8, rg9, rg10, rg11⟩ := q5.rb; obtain ⟨ry0, ry1, ry2, ry3, ry4, ry5, ry6, ry7, ry8, ry9, ry10, ry11⟩ := q5.rz; simp only [Nat.zero_add, zeroC] at rg0 rg1 rg2 rg3 rg4 rg5 rg6 rg7 rg8 rg9 rg10 rg11 ry0 ry1 ry2 ry3 ry4 ry5 ry6 ry7 ry8 ry9 ry10 ry11; clear q5)
      | fail)
    all_goals
      go_wp2_with fail
      go_meet
      exact ⟨y, rfl, HY.out, HQ5.out.fin ⟨iss, acq, cur, am, st, rsn, cl, bk, fee, cop, sta, due⟩⟩
  case rest =>
    clear q3
    obtain ⟨n, rfl, hn, h1, h4⟩ := hcut
    obtain ⟨wm, hwm⟩ : ∃ x, x = wc := ⟨_, rfl⟩
    subst hwm
    have HN : Hid (n ∈ ([0, 1, 77, 9999, 10000, -1] : List Int)) := hn
    have HB : Hid (Below w.heap.size w wm) := h4
    clear hn h4
    obtain ⟨rg0, rg1, rg2, rg3, rg4, rg5, rg6, rg7, rg8, rg9, rg10, rg11⟩ := h1
    simp only [Nat.zero_add] at rg0 rg1 rg2 rg3 rg4 rg5 rg6 rg7 rg8 rg9 rg10 rg11
    go_wp2
    refine bodyPost_ret (by simp [results, Tryz.results5, go_sem, rg0, rg1, rg2, rg3, rg4, rg5, rg6, rg7, rg8, rg9, rg10, rg11]; try rfl) rfl ?_
    exact ⟨⟨iss, acq, cur, am, st, rsn, cl, bk, fee, cop, sta, due⟩, n, rfl, HCU.out, by simpa using HN.out, HB.out⟩

end Go.Proofs.YtjnekdihmchlpaaGreatDoor
