/- A book and a currency that are drawn, whatever the bytes. -/
import Derived.Test.YtlonjjliochbhaaBkDrG
namespace Go.Proofs.Ytlonjjliochbhaa
open Go.RowKit
set_option maxRecDepth 100000

set_option maxHeartbeats 800000 in
theorem sizeT_any (a : Option Addr) (len cap : Nat) (m : Int) (w : World) (hn : len ≤ 1048576) (hm : 2 ≤ m ∧ m ≤ 100) :
    Calls Try.prog 17 #[.slice a len cap, .int .i64 m] w fun e w' => ∃ k : Nat, e = .returned (.int .i64 k) ∧ (1 ≤ (k : Int) ∧ (k : Int) ≤ m) ∧ w' = w := by
  have hd : ((len : Int).tdiv 20) = ((len / 20 : Nat) : Int) := by have := Int.tdiv_eq_ediv_of_nonneg (a := (len : Int)) (b := 20) (by omega); omega
  obtain ⟨q, hq⟩ : ∃ q, len / 20 = q := ⟨_, rfl⟩
  have hqb : q ≤ 1048576 := by omega
  rw [hq] at hd
  by_cases h : m < 2 + (q : Int)
  · obtain ⟨k, rfl⟩ := Int.eq_ofNat_of_zero_le (show 0 ≤ m by omega)
    go_enter Try.func17, Try.ntmps17
    go_wp2
    go_ret
    exact ⟨k, rfl, by omega, rfl⟩
  · go_enter Try.func17, Try.ntmps17
    go_wp2
    go_ret
    exact ⟨2 + q, by simp, by omega, rfl⟩

/-- what stands while a drawn book is handed on: the result's box R, the book's box T, the cursor g -/
structure TW (B g R T : Nat) (w : World) (b : Bk) (p : Bp) (u : World) : Prop where
  cu : Cursor B u g
  be : Below w.heap.size w u
  r : Z6 R (.int .i64 0) (.slice none 0 0) (.slice none 0 0) (.slice none 0 0) (.slice none 0 0) (.slice none 0 0) u
  z : Z6b T b p u
  bk : BookAt u b p
  og : OffB p g
  oR : OffB p R
  hg : w.heap.size ≤ g
  hR : R ≠ g
  hT : T ≠ g
  hRw : w.heap.size ≤ R
theorem TW.call {B g R T : Nat} {w : World} {b : Bk} {p : Bp} {u u' : World} (q : TW B g R T w b p u) (c : Cursor B u' g) (r : u.grownBy u' (some g)) : TW B g R T w b p u' :=
  ⟨c, q.be.grown r q.be.size (fun k hk => by cases hk; exact q.hg), q.r.grown r (by have := q.hR; simp; omega), Z6.grown q.z r (by have := q.hT; simp; omega), q.bk.farB r q.og, q.og, q.oR, q.hg, q.hR, q.hT, q.hRw⟩
theorem TW.below {B g R T : Nat} {w : World} {b : Bk} {p : Bp} {u u' : World} (q : TW B g R T w b p u) (h : Below u.heap.size u u') : TW B g R T w b p u' := q.call (cursor_below q.cu h) (grown_ofL h _)
theorem TW.drew {B g R T : Nat} {w : World} {b : Bk} {p : Bp} {u : World} (q : TW B g R T w b p u) : TW B g R T w b p u.drew := q.below ((Below.refl _ _).drew)
theorem TW.al {B g R T : Nat} {w : World} {b : Bk} {p : Bp} {u : World} (q : TW B g R T w b p u) (o : Obj) : TW B g R T w b p (u.alloc o) := q.below ((Below.refl _ _).alloc (Nat.le_refl _) _)
theorem qPick3 {B g R T : Nat} {w : World} {b : Bk} {p : Bp} {u : World} (q : TW B g R T w b p u) :
    Calls Try.prog 10 #[.pointer (some ⟨g, 0, none⟩), .slice (some ⟨u.heap.size, 0, none⟩) 3 3] (u.alloc (.cells #[.int .i64 840, .int .i64 978, .int .i64 392] 3)) fun e u' => ∃ x : Int, e = .returned (.int .i64 x) ∧ TW B g R T w b p u' :=
  (pickInt_any g u.heap.size 3 [840, 978, 392] (u.alloc (.cells #[.int .i64 840, .int .i64 978, .int .i64 392] 3)) (q.al _).cu (cursor_ne q.cu) (lit_cells u [840, 978, 392] #[.int .i64 840, .int .i64 978, .int .i64 392] rfl) (by decide) (by decide)).mono (by rintro e u' ⟨x, h1, -, c, r⟩; exact ⟨x, h1, (q.al _).call c r⟩)
theorem qPick3d {B g R T : Nat} {w : World} {b : Bk} {p : Bp} {u : World} (q : TW B g R T w b p u) :
    Calls Try.prog 10 #[.pointer (some ⟨g, 0, none⟩), .slice (some ⟨u.heap.size, 0, none⟩) 3 3] (u.alloc (.cells #[.int .i64 840, .int .i64 978, .int .i64 392] 3)).drew fun e u' => ∃ x : Int, e = .returned (.int .i64 x) ∧ TW B g R T w b p u' :=
  (pickInt_any g u.heap.size 3 [840, 978, 392] (u.alloc (.cells #[.int .i64 840, .int .i64 978, .int .i64 392] 3)).drew (q.al _).drew.cu (cursor_ne q.cu) (fun i hi => lit_cells u [840, 978, 392] #[.int .i64 840, .int .i64 978, .int .i64 392] rfl i hi) (by decide) (by decide)).mono (by rintro e u' ⟨x, h1, -, c, r⟩; exact ⟨x, h1, (q.al _).drew.call c r⟩)
/-- the answer is written -/
theorem tw_end {B g R T : Nat} {w : World} {b : Bk} {p : Bp} {u : World} (q : TW B g R T w b p u) (x0 x1 x2 x3 x4 x5 : Value) : BookAt ((((((u.setCell ⟨R, 0, none⟩ x0).setCell ⟨R, 1, none⟩ x1).setCell ⟨R, 2, none⟩ x2).setCell ⟨R, 3, none⟩ x3).setCell ⟨R, 4, none⟩ x4).setCell ⟨R, 5, none⟩ x5) b p ∧
    Below w.heap.size w ((((((u.setCell ⟨R, 0, none⟩ x0).setCell ⟨R, 1, none⟩ x1).setCell ⟨R, 2, none⟩ x2).setCell ⟨R, 3, none⟩ x3).setCell ⟨R, 4, none⟩ x4).setCell ⟨R, 5, none⟩ x5) :=
  ⟨q.bk.put6 q.oR _ _ _ _ _ _, put6_below q.hRw q.be _ _ _ _ _ _⟩
def TwR (w : World) (e : Ending) (w' : World) : Prop := ∃ b p cur, e = .returned (.tuple #[bkv b p, .int .i64 cur]) ∧ InvP 100 b ∧ BookAt w' b p ∧ Below w.heap.size w w' ∧ FrB p w.heap.size

set_option maxHeartbeats 3200000 in
theorem two_any (a : Option Addr) (len cap : Nat) (zs : List Int) (w : World) (hr : IsRow .u8 w a len cap zs) (hn : len ≤ 1048576) :
    Calls Try.prog 9 #[.slice a len cap] w (TwR w) := by
  have bel : Below w.heap.size w (w.alloc (.cells #[.int .i64 0, .slice none 0 0, .slice none 0 0, .slice none 0 0, .slice none 0 0, .slice none 0 0] 32)) := by go_grown
  have hr1 := row_below hr bel
  have zR := Z6.new w (.int .i64 0) (.slice none 0 0) (.slice none 0 0) (.slice none 0 0) (.slice none 0 0) (.slice none 0 0) 32
  have hs0 : (w.alloc (.cells #[.int .i64 0, .slice none 0 0, .slice none 0 0, .slice none 0 0, .slice none 0 0, .slice none 0 0] 32)).heap.size = w.heap.size + 1 := by simp
  go_enter Try.func9, Try.ntmps9
  go_wp2_with fail
  refine (new_any _ _ _ _ _ hr1 hn).mono ?_
  rintro e u1 ⟨rfl, c1, b1⟩
  have zR1 := zR.below b1
  have q1 := next bel b1
  simp only [World.size_alloc] at c1 b1 ⊢
  clear hr hr1 bel b1 zR
  go_wp2_with fail
  refine (sizeT_any a len cap 40 u1 hn (by omega)).mono ?_
  rintro e w' ⟨k, rfl, hk, hw'⟩
  subst hw'
  go_wp2_with fail
  refine (below_any _ _ _ c1 (by omega)).mono ?_
  rintro e u2 ⟨x, rfl, x0, x1, c2, g2⟩
  obtain ⟨n, rfl⟩ := Int.eq_ofNat_of_zero_le x0
  have hn40 : n ≤ 100 := by
    have := x1 hk.1; omega
  have zR2 := zR1.grown g2 (by simp)
  have q2 : Below w.heap.size w u2 := q1.grown g2 q1.size (fun k hk => by cases hk; omega)
  clear c1 zR1 q1 x1 x0 g2
  go_wp2_with fail
  refine (bookD_any (w.heap.size + 1) n u2 c2 hn40).mono ?_
  rintro e u3 ⟨b, p, rfl, hI, hb, hog, hfr, c3, g3⟩
  have lR := zR2.lt
  have zR3 := zR2.grown g3 (by simp)
  have q3 : Below w.heap.size w u3 := q2.grown g3 q2.size (fun k hk => by cases hk; omega)
  have HI : Hid (InvP 100 b) := hI
  have HFR : Hid (FrB p w.heap.size) := hfr.mono q2.size
  have cb := cursor_bd c3
  have HT : Hid (TW (w.heap.size + 1 + 1) (w.heap.size + 1) w.heap.size u3.heap.size w b p (u3.alloc (.cells #[.int .i64 b.today, .slice p.o b.off.length p.oc, .slice p.a b.az.length p.ac, .slice p.c b.cs.length p.cc, .slice p.l b.ls.length p.lc, .slice p.g b.log.length p.gc] 32))) := by
    have bA : Below u3.heap.size u3 (u3.alloc (.cells #[.int .i64 b.today, .slice p.o b.off.length p.oc, .slice p.a b.az.length p.ac, .slice p.c b.cs.length p.cc, .slice p.l b.ls.length p.lc, .slice p.g b.log.length p.gc] 32)) := (Below.refl _ _).alloc (Nat.le_refl _) _
    exact ⟨cursor_alloc c3 _, next q3 bA, zR3.below bA, Z6.new u3 _ _ _ _ _ _ _, hb.below bA, hog, offB_fresh hfr lR, by omega, by omega, by omega, Nat.le_refl _⟩
  unfold bkv
  clear c2 q2 zR2 hI hb hog hfr c3 g3 zR3 q3 lR
  go_upto_region 3 with fail
  obtain ⟨U, hU⟩ : ∃ U, U = u3.alloc (.cells #[.int .i64 b.today, .slice p.o b.off.length p.oc, .slice p.a b.az.length p.ac, .slice p.c b.cs.length p.cc, .slice p.l b.ls.length p.lc, .slice p.g b.log.length p.gc] 32) := ⟨_, rfl⟩
  rw [← hU] at HT ⊢
  obtain ⟨T, hT⟩ : ∃ T, T = u3.heap.size := ⟨_, rfl⟩
  rw [← hT] at HT ⊢
  clear hU hT cb
  obtain ⟨t0, t1, t2, t3, t4, t5, -, -, -, -, -, -⟩ := HT.out.z
  obtain ⟨r0, r1, r2, r3, r4, r5, s0, s1, s2, s3, s4, s5⟩ := HT.out.r
  have lT : T < U.heap.size := Z6.lt HT.out.z
  have nT : ¬ T = U.heap.size := by omega
  have a0 := fun o => (HT.out.al o).z.c0
  have a1 := fun o => (HT.out.al o).z.c1
  have a2 := fun o => (HT.out.al o).z.c2
  have a3 := fun o => (HT.out.al o).z.c3
  have a4 := fun o => (HT.out.al o).z.c4
  have a5 := fun o => (HT.out.al o).z.c5
  go_region_with (go_at_call 10; (first | with_reducible refine Calls.mono (qPick3 HT.out) ?_ | with_reducible refine Calls.mono (qPick3 HT.out.drew) ?_ | with_reducible refine Calls.mono (qPick3d HT.out) ?_); rintro e u6 ⟨cur, rfl, q6⟩; have zr6 := q6.r; have zz6 := q6.z; obtain ⟨t0, t1, t2, t3, t4, t5, -, -, -, -, -, -⟩ := zz6; obtain ⟨r0, r1, r2, r3, r4, r5, s0, s1, s2, s3, s4, s5⟩ := zr6)
  all_goals
    clear a0 a1 a2 a3 a4 a5 lT nT
    have HE : Hid _ := tw_end q6 (.int .i64 b.today) (.slice p.o b.off.length p.oc) (.slice p.a b.az.length p.ac) (.slice p.c b.cs.length p.cc) (.slice p.l b.ls.length p.lc) (.slice p.g b.log.length p.gc)
    clear q6 HT
    go_wp2
    refine bodyPost_ret (by simp [results, Try.results9, go_sem, r0, r1, r2, r3, r4, r5]; try rfl) rfl ?_
    exact ⟨b, p, cur, rfl, HI.out, HE.out.1, HE.out.2, HFR.out⟩

end Go.Proofs.Ytlonjjliochbhaa
