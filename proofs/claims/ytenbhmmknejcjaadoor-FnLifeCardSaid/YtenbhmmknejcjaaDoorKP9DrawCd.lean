/- What the laws on CaseDo draw: a case, an act, a day and a list of days. -/
import Derived.Test.YtenbhmmknejcjaaDoorKP9DrawCs
namespace Go.Proofs.YtenbhmmknejcjaaDoor
open Go.RowKit
set_option maxRecDepth 100000

theorem put12_grown (u : World) (R : Nat) (c : Cs) : u.grownBy (put12 u R c) (some R) :=
  (((((((((((grown_set _ _ _ _).trans (grown_set _ _ _ _)).trans (grown_set _ _ _ _)).trans (grown_set _ _ _ _)).trans (grown_set _ _ _ _)).trans (grown_set _ _ _ _)).trans (grown_set _ _ _ _)).trans (grown_set _ _ _ _)).trans (grown_set _ _ _ _)).trans (grown_set _ _ _ _)).trans (grown_set _ _ _ _)).trans (grown_set _ _ _ _)
def put3 (u : World) (R : Nat) (a : Ac) : World := ((u.setCell ⟨R, 0, none⟩ (.int .i64 a.kind)).setCell ⟨R, 1, none⟩ (.int .i64 a.am)).setCell ⟨R, 2, none⟩ (.int .i64 a.rsn)
theorem put3_grown (u : World) (R : Nat) (a : Ac) : u.grownBy (put3 u R a) (some R) := ((grown_set _ _ _ _).trans (grown_set _ _ _ _)).trans (grown_set _ _ _ _)
theorem put3_ab {u : World} {R : Nat} {a b : Ac} (h : AB R b u) : AB R a (put3 u R a) := ((h.set0 a.kind).set1 a.am).set2 a.rsn
/-- what is drawn for CaseDo -/
def CdD (w : World) (e : Ending) (w' : World) : Prop :=
  ∃ (c : Cs) (a : Ac) (d : Int) (ao : Option Addr) (cp : Nat) (xs : List Int), e = .returned (.tuple #[cv c, av a, .int .i64 d, .slice ao xs.length cp]) ∧ wf64 c.cur ∧ xs.length ≤ 13 ∧ IntsAt w' ao xs ∧ Below w.heap.size w w'

/-- on the way through the last statement: the drawn case in its box, the answers' boxes, the cursor, the list -/
structure KQ (B g : Nat) (w : World) (h : Nat) (k : Cs) (ao : Option Addr) (xs : List Int) (u : World) : Prop where
  rb : CB w.heap.size 0 zeroC u
  rz : FZ w.heap.size 0 u
  ab : AB (w.heap.size + 1) ⟨0, 0, 0⟩ u
  kb : CB h 0 k u
  cur : Cursor B u g
  bel : Below w.heap.size w u
  ia : IntsAt u ao xs
  gl : w.heap.size + 1 < g
  hl : g < h
  ne : ∀ a, ao = some a → g < a.block
theorem KQ.call {B g : Nat} {w : World} {h : Nat} {k : Cs} {ao : Option Addr} {xs : List Int} {u u' : World} (q : KQ B g w h k ao xs u) (c : Cursor B u' g) (r : u.grownBy u' (some g)) : KQ B g w h k ao xs u' := by
  have g1 := q.gl
  have g2 := q.hl
  have s := r.size
  have s1 := q.bel.size
  exact ⟨q.rb.grown r (by simp; omega), q.rz.grown q.rb.lt r (by simp; omega), q.ab.grown r (by simp; omega), q.kb.grown r (by simp; omega), c, q.bel.grown r (by omega) (fun j hj => by injection hj with hj; omega), ints_far q.ia r (fun a ha => by have := q.ne a ha; omega), g1, g2, q.ne⟩
theorem KQ.drew {B g : Nat} {w : World} {h : Nat} {k : Cs} {ao : Option Addr} {xs : List Int} {u : World} (q : KQ B g w h k ao xs u) : KQ B g w h k ao xs u.drew :=
  q.call (cursor_below q.cur ((Below.refl _ _).drew)) (grown_ofK ((Below.refl _ _).drew) _)
theorem qAct {B g : Nat} {w : World} {h : Nat} {iss acq cur am st rsn cl bk fee : Int} {cop : Bool} {sta due : Int} {ao : Option Addr} {xs : List Int} {u : World} (q : KQ B g w h ⟨iss, acq, cur, am, st, rsn, cl, bk, fee, cop, sta, due⟩ ao xs u) :
    Calls Tryd.prog 27 #[.pointer (some ⟨g, 0, none⟩), .agg #[.int .i64 iss, .int .i64 acq, .int .i64 cur, .int .i64 am, .int .i64 st, .int .i64 rsn, .int .i64 cl, .int .i64 bk, .int .i64 fee, .bool cop, .int .i64 sta, .int .i64 due]] u fun e u' => ∃ x y t : Int, e = .returned (.agg #[.int .i64 x, .int .i64 y, .int .i64 t]) ∧ KQ B g w h ⟨iss, acq, cur, am, st, rsn, cl, bk, fee, cop, sta, due⟩ ao xs u' :=
  (act_any g ⟨iss, acq, cur, am, st, rsn, cl, bk, fee, cop, sta, due⟩ u q.cur).mono fun _ _ ⟨a, he, hc, hg⟩ => ⟨a.kind, a.am, a.rsn, he, q.call hc hg⟩
theorem KQ.fin {B g : Nat} {w : World} {h : Nat} {k : Cs} {ao : Option Addr} {xs : List Int} {u : World} (q : KQ B g w h k ao xs u) (c : Cs) (a : Ac) :
    CB w.heap.size 0 c (put3 (put12 u w.heap.size c) (w.heap.size + 1) a) ∧ AB (w.heap.size + 1) a (put3 (put12 u w.heap.size c) (w.heap.size + 1) a) ∧ IntsAt (put3 (put12 u w.heap.size c) (w.heap.size + 1) a) ao xs ∧ Below w.heap.size w (put3 (put12 u w.heap.size c) (w.heap.size + 1) a) := by
  have g1 := put12_grown u w.heap.size c
  have h1 : CB w.heap.size 0 c (put12 u w.heap.size c) := put12_cb q.rb
  have b1 : Below w.heap.size w (put12 u w.heap.size c) := put12_below c q.bel (Nat.le_refl _)
  generalize put12 u w.heap.size c = P at g1 h1 b1 ⊢
  have g2 := put3_grown P (w.heap.size + 1) a
  have h2 : AB (w.heap.size + 1) ⟨0, 0, 0⟩ P → AB (w.heap.size + 1) a (put3 P (w.heap.size + 1) a) := fun h => put3_ab h
  generalize put3 P (w.heap.size + 1) a = Q at g2 h2 ⊢
  have l := q.gl
  have s1 := q.bel.size
  have s2 := b1.size
  exact ⟨h1.grown g2 (by simp), h2 (q.ab.grown g1 (by simp)), ints_far (ints_far q.ia g1 (fun a ha => by have := q.ne a ha; omega)) g2 (fun a ha => by have := q.ne a ha; omega), b1.grown g2 (by omega) (fun j hj => by injection hj with hj; omega)⟩
theorem KQ.c12 {B g : Nat} {w : World} {h : Nat} {iss acq cur am st rsn cl bk fee : Int} {cop : Bool} {sta due : Int} {ao : Option Addr} {xs : List Int} {u : World} (q : KQ B g w h ⟨iss, acq, cur, am, st, rsn, cl, bk, fee, cop, sta, due⟩ ao xs u) :
    u.cell? ⟨h, 0, none⟩ = some (.int .i64 iss) ∧ u.cell? ⟨h, 1, none⟩ = some (.int .i64 acq) ∧ u.cell? ⟨h, 2, none⟩ = some (.int .i64 cur) ∧ u.cell? ⟨h, 3, none⟩ = some (.int .i64 am) ∧ u.cell? ⟨h, 4, none⟩ = some (.int .i64 st) ∧ u.cell? ⟨h, 5, none⟩ = some (.int .i64 rsn) ∧ u.cell? ⟨h, 6, none⟩ = some (.int .i64 cl) ∧ u.cell? ⟨h, 7, none⟩ = some (.int .i64 bk) ∧ u.cell? ⟨h, 8, none⟩ = some (.int .i64 fee) ∧ u.cell? ⟨h, 9, none⟩ = some (.bool cop) ∧ u.cell? ⟨h, 10, none⟩ = some (.int .i64 sta) ∧ u.cell? ⟨h, 11, none⟩ = some (.int .i64 due) := by
  have b := q.kb
  exact ⟨by simpa using b.f0, by simpa using b.f1, by simpa using b.f2, by simpa using b.f3, by simpa using b.f4, by simpa using b.f5, by simpa using b.f6, by simpa using b.f7, by simpa using b.f8, by simpa using b.f9, by simpa using b.f10, by simpa using b.f11⟩

set_option maxHeartbeats 20000000 in
theorem drawCaseDo_any (a : Option Addr) (len cap : Nat) (zs : List Int) (w : World) (hr : IsRow .u8 w a len cap zs) (hn : len ≤ 1048576) : Calls Tryd.prog 9 #[.slice a len cap] w (CdD w) := by
  obtain ⟨W, hW⟩ : ∃ W, W = (w.alloc (.cells #[.int .i64 0, .int .i64 0, .int .i64 0, .int .i64 0, .int .i64 0, .int .i64 0, .int .i64 0, .int .i64 0, .int .i64 0, .bool false, .int .i64 0, .int .i64 0] 25)).alloc (.cells #[.int .i64 0, .int .i64 0, .int .i64 0] 27) := ⟨_, rfl⟩
  have bW : Below w.heap.size w W := by rw [hW]; go_grown
  have hWs : W.heap.size = w.heap.size + 2 := by rw [hW]; simp
  have k0 : CB w.heap.size 0 zeroC W := by rw [hW]; exact (CB.new w zeroC _).below ((Below.refl _ _).alloc (Nat.le_refl _) _)
  have kz : FZ w.heap.size 0 W := by rw [hW]; exact (FZ.new w _ _).below (CB.new w zeroC 25).lt ((Below.refl _ _).alloc (Nat.le_refl _) _)
  have ka : AB (w.heap.size + 1) ⟨0, 0, 0⟩ W := by
    rw [hW]
    have r1 := AB.new (w.alloc (.cells #[.int .i64 0, .int .i64 0, .int .i64 0, .int .i64 0, .int .i64 0, .int .i64 0, .int .i64 0, .int .i64 0, .int .i64 0, .bool false, .int .i64 0, .int .i64 0] 25)) ⟨0, 0, 0⟩ 27
    simpa using r1
  have hr1 := row_below hr bW
  have HBW : Hid (Below w.heap.size w W) := bW
  have HK0 : Hid (CB w.heap.size 0 zeroC W) := k0
  have HKZ : Hid (FZ w.heap.size 0 W) := kz
  have HKA : Hid (AB (w.heap.size + 1) ⟨0, 0, 0⟩ W) := ka
  have HWS : Hid (W.heap.size = w.heap.size + 2) := hWs
  clear bW k0 kz ka hWs
  go_enter Tryd.func9, Tryd.ntmps9
  go_upto_region 1 with fail
  rw [← hW]
  clear hW
  go_wp2_with fail
  refine (new_any _ _ _ _ _ hr1 hn).mono ?_
  rintro e w1 ⟨rfl, c1, b1⟩
  have HB1 : Hid (Below W.heap.size W w1) := b1
  obtain ⟨g, hg⟩ : ∃ g, g = W.heap.size := ⟨_, rfl⟩
  rw [← hg] at c1 ⊢
  have HG : Hid (g = W.heap.size) := hg
  clear b1 hr1 hr hg
  go_wp2_with fail
  refine (listC_any _ _ c1).mono ?_
  rintro e w2 ⟨ao, cp, xs, rfl, hxl, o2, c2, b2, s2⟩
  have HB2 : Hid (Below g w1 w2) := b2
  have cb1 := cursor_bd c1
  have HNE : Hid (∀ a, ao = some a → g < a.block) := by
    rw [Hid]
    intro a ha
    subst ha
    have := (o2.lt a.block (by simp [Value.ownBlock])).1
    omega
  have HI2 : Hid (IntsAt w2 ao xs) := ints_own o2
  have HXL : Hid (xs.length ≤ 13) := hxl
  clear b2 o2 c1 cb1 s2 hxl
  go_wp2_with fail
  refine (case_any g ao cp xs w2 c2 HI2.out (fun a ha => by have := HNE.out a ha; omega) (by have := HXL.out; omega)).mono ?_
  rintro e w3 ⟨k, d, rfl, hcu, c3, g3⟩
  have q3 : KQ (g + 1) g w w3.heap.size k ao xs (w3.alloc (.cells #[.int .i64 k.iss, .int .i64 k.acq, .int .i64 k.cur, .int .i64 k.am, .int .i64 k.st, .int .i64 k.rsn, .int .i64 k.cl, .int .i64 k.bk, .int .i64 k.fee, .bool k.cop, .int .i64 k.sta, .int .i64 k.due] 25)) := by
    have e1 := HG.out
    have e2 := HWS.out
    have l1 := HB1.out
    have l2 : Below g W w2 := (e1 ▸ HB1.out : Below g W w1).trans HB2.out
    have s3 := g3.size
    have s2 := l2.size
    have cb2 := cursor_bd c2
    have b3 : Below w.heap.size w w3 := ((HBW.out.trans (l2.mono (by omega))).grown g3 (by omega) (fun j hj => by injection hj with hj; omega))
    have p : Below w3.heap.size w3 (w3.alloc (.cells #[.int .i64 k.iss, .int .i64 k.acq, .int .i64 k.cur, .int .i64 k.am, .int .i64 k.st, .int .i64 k.rsn, .int .i64 k.cl, .int .i64 k.bk, .int .i64 k.fee, .bool k.cop, .int .i64 k.sta, .int .i64 k.due] 25)) := (Below.refl _ _).alloc (Nat.le_refl _) _
    have r2 := HK0.out.under l2 (by omega)
    have z2 := HKZ.out.under l2 (by omega)
    have a2 : AB (w.heap.size + 1) ⟨0, 0, 0⟩ w2 := by
      obtain ⟨x0, x1, x2, y0, y1, y2⟩ := HKA.out
      have l : w.heap.size + 1 < g := by omega
      exact ⟨(l2.cell (p := ⟨w.heap.size + 1, 0, none⟩) l).trans x0, (l2.cell (p := ⟨w.heap.size + 1, 1, none⟩) l).trans x1, (l2.cell (p := ⟨w.heap.size + 1, 2, none⟩) l).trans x2, (l2.frozen (p := ⟨w.heap.size + 1, 0, none⟩) l).trans y0, (l2.frozen (p := ⟨w.heap.size + 1, 1, none⟩) l).trans y1, (l2.frozen (p := ⟨w.heap.size + 1, 2, none⟩) l).trans y2⟩
    have r3 := r2.grown g3 (by simp; omega)
    have a3 := a2.grown g3 (by simp; omega)
    exact ⟨r3.below p, (z2.grown r2.lt g3 (by simp; omega)).below r3.lt p, a3.below p, CB.new w3 k _, cursor_alloc c3 _, next b3 p, (ints_far HI2.out g3 (fun a ha => by have := HNE.out a ha; omega)).below p, by omega, by omega, HNE.out⟩
  obtain ⟨iss, acq, cur, am, st, rsn, cl, bk, fee, cop, sta, due⟩ := k
  unfold cv
  simp only at hcu q3 ⊢
  have HCU : Hid (wf64 cur) := hcu
  clear hcu c2 c3 g3
  go_upto_region 4 with fail
  generalize hw4 : w3.alloc (.cells #[.int .i64 iss, .int .i64 acq, .int .i64 cur, .int .i64 am, .int .i64 st, .int .i64 rsn, .int .i64 cl, .int .i64 bk, .int .i64 fee, .bool cop, .int .i64 sta, .int .i64 due] 25) = w4 at q3 ⊢
  clear hw4
  go_cut [4, 5] (fun v x wc => ∃ a : Ac, v = .int .i64 d ∧ x = .slice ao xs.length cp ∧ CB w.heap.size 0 ⟨iss, acq, cur, am, st, rsn, cl, bk, fee, cop, sta, due⟩ wc ∧ AB (w.heap.size + 1) a wc ∧ IntsAt wc ao xs ∧ Below w.heap.size w wc)
  case first =>
    obtain ⟨c0, c1, c2, c3, c4, c5, c6, c7, c8, c9, c10, c11⟩ := q3.c12
    obtain ⟨rg0, rg1, rg2, rg3, rg4, rg5, rg6, rg7, rg8, rg9, rg10, rg11⟩ := q3.rb
    go_region_with (go_at_call 27; (first | with_reducible refine (qAct q3).mono ?_ | with_reducible refine (qAct q3.drew).mono ?_); rintro e v1 ⟨x1, z1, t1, rfl, q3⟩; obtain ⟨p0, p1, p2, p3, p4, p5, p6, p7, p8, p9, p10, p11⟩ := q3.c12; obtain ⟨rg0, rg1, rg2, rg3, rg4, rg5, rg6, rg7, rg8, rg9, rg10, rg11⟩ := q3.rb; obtain ⟨ry0, ry1, ry2, ry3, ry4, ry5, ry6, ry7, ry8, ry9, ry10, ry11⟩ := q3.rz; obtain ⟨s0, s1, s2, y0, y1, y2⟩ := q3.ab; simp only [Nat.zero_add, zeroC] at rg0 ry0 rg1 ry1 rg2 ry2 rg3 ry3 rg4 ry4 rg5 ry5 rg6 ry6 rg7 ry7 rg8 ry8 rg9 ry9 rg10 ry10 rg11 ry11 s0 s1 s2 y0 y1 y2)
    all_goals
      go_wp2_with fail
      go_meet
      exact ⟨⟨x1, z1, t1⟩, rfl, rfl, q3.fin ⟨iss, acq, cur, am, st, rsn, cl, bk, fee, cop, sta, due⟩ ⟨x1, z1, t1⟩⟩
  case rest =>
    clear q3
    obtain ⟨⟨ka, kb, kc⟩, rfl, rfl, h1, h2, h3, h4⟩ := hcut
    obtain ⟨wm, hwm⟩ : ∃ x, x = wc := ⟨_, rfl⟩
    subst hwm
    obtain ⟨rg0, rg1, rg2, rg3, rg4, rg5, rg6, rg7, rg8, rg9, rg10, rg11⟩ := h1
    obtain ⟨s0, s1, s2, -, -, -⟩ := h2
    simp only [Nat.zero_add] at rg0 rg1 rg2 rg3 rg4 rg5 rg6 rg7 rg8 rg9 rg10 rg11 s0 s1 s2
    go_wp2
    refine bodyPost_ret (by simp [results, Tryd.results9, go_sem, rg0, rg1, rg2, rg3, rg4, rg5, rg6, rg7, rg8, rg9, rg10, rg11, s0, s1, s2]; try rfl) rfl ?_
    exact ⟨⟨iss, acq, cur, am, st, rsn, cl, bk, fee, cop, sta, due⟩, ⟨ka, kb, kc⟩, d, ao, cp, xs, rfl, HCU.out, HXL.out, h3, h4⟩

end Go.Proofs.YtenbhmmknejcjaaDoor
