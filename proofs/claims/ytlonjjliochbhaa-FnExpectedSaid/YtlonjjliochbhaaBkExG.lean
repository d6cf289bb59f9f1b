/- What is drawn for the laws of Expected: a book, an account, a currency. -/
import Derived.Test.YtlonjjliochbhaaBkTwG
namespace Go.Proofs.Ytlonjjliochbhaa
open Go.RowKit
set_option maxRecDepth 100000

theorem qPick7 {B g R T : Nat} {w : World} {b : Bk} {p : Bp} {u : World} (q : TW B g R T w b p u) :
    Calls Try.prog 10 #[.pointer (some ⟨g, 0, none⟩), .slice (some ⟨u.heap.size, 0, none⟩) 7 7] (u.alloc (.cells #[.int .i64 1, .int .i64 2, .int .i64 3, .int .i64 4, .int .i64 5, .int .i64 6, .int .i64 9999] 3)) fun e u' => ∃ x : Int, e = .returned (.int .i64 x) ∧ x ∈ ([1, 2, 3, 4, 5, 6, 9999] : List Int) ∧ TW B g R T w b p u' :=
  (pickInt_any g u.heap.size 7 [1, 2, 3, 4, 5, 6, 9999] (u.alloc (.cells #[.int .i64 1, .int .i64 2, .int .i64 3, .int .i64 4, .int .i64 5, .int .i64 6, .int .i64 9999] 3)) (q.al _).cu (cursor_ne q.cu) (lit_cells u [1, 2, 3, 4, 5, 6, 9999] #[.int .i64 1, .int .i64 2, .int .i64 3, .int .i64 4, .int .i64 5, .int .i64 6, .int .i64 9999] rfl) (by decide) (by decide)).mono (by rintro e u' ⟨x, h1, h2, c, r⟩; exact ⟨x, h1, h2, (q.al _).call c r⟩)
theorem qPick7d {B g R T : Nat} {w : World} {b : Bk} {p : Bp} {u : World} (q : TW B g R T w b p u) :
    Calls Try.prog 10 #[.pointer (some ⟨g, 0, none⟩), .slice (some ⟨u.heap.size, 0, none⟩) 7 7] (u.alloc (.cells #[.int .i64 1, .int .i64 2, .int .i64 3, .int .i64 4, .int .i64 5, .int .i64 6, .int .i64 9999] 3)).drew fun e u' => ∃ x : Int, e = .returned (.int .i64 x) ∧ x ∈ ([1, 2, 3, 4, 5, 6, 9999] : List Int) ∧ TW B g R T w b p u' :=
  (pickInt_any g u.heap.size 7 [1, 2, 3, 4, 5, 6, 9999] (u.alloc (.cells #[.int .i64 1, .int .i64 2, .int .i64 3, .int .i64 4, .int .i64 5, .int .i64 6, .int .i64 9999] 3)).drew (q.al _).drew.cu (cursor_ne q.cu) (fun i hi => lit_cells u [1, 2, 3, 4, 5, 6, 9999] #[.int .i64 1, .int .i64 2, .int .i64 3, .int .i64 4, .int .i64 5, .int .i64 6, .int .i64 9999] rfl i hi) (by decide) (by decide)).mono (by rintro e u' ⟨x, h1, h2, c, r⟩; exact ⟨x, h1, h2, (q.al _).drew.call c r⟩)
def ExR (w : World) (e : Ending) (w' : World) : Prop := ∃ b p ac cur, e = .returned (.tuple #[bkv b p, .int .i64 ac, .int .i64 cur]) ∧ InvP 100 b ∧ BookAt w' b p ∧ Below w.heap.size w w'

set_option maxHeartbeats 3200000 in
theorem exp_any (a : Option Addr) (len cap : Nat) (zs : List Int) (w : World) (hr : IsRow .u8 w a len cap zs) (hn : len ≤ 1048576) :
    Calls Try.prog 5 #[.slice a len cap] w (ExR w) := by
  have bel : Below w.heap.size w (w.alloc (.cells #[.int .i64 0, .slice none 0 0, .slice none 0 0, .slice none 0 0, .slice none 0 0, .slice none 0 0] 32)) := by go_grown
  have hr1 := row_below hr bel
  have zR := Z6.new w (.int .i64 0) (.slice none 0 0) (.slice none 0 0) (.slice none 0 0) (.slice none 0 0) (.slice none 0 0) 32
  have hs0 : (w.alloc (.cells #[.int .i64 0, .slice none 0 0, .slice none 0 0, .slice none 0 0, .slice none 0 0, .slice none 0 0] 32)).heap.size = w.heap.size + 1 := by simp
  go_enter Try.func5, Try.ntmps5
  go_wp2_with fail
  refine (new_any _ _ _ _ _ hr1 hn).mono ?_
  rintro e u1 ⟨rfl, c1, b1⟩
  have zR1 := zR.below b1
  have hr2 := row_below hr1 b1
  have q1 := next bel b1
  simp only [World.size_alloc] at c1 b1 ⊢
  clear hr hr1 bel b1 zR
  go_wp2_with fail
  refine (two_any _ _ _ _ _ hr2 hn).mono ?_
  rintro e u3 ⟨b, p, cur, rfl, hI, hb, b3, hfr⟩
  have lR := zR1.lt
  have zR3 := zR1.below b3
  have q3 := next q1 b3
  have c3 := cursor_below c1 b3
  have HI : Hid (InvP 100 b) := hI
  have cb := cursor_bd c1
  have hb3 := b3.size
  have HT : Hid (TW (w.heap.size + 1 + 1) (w.heap.size + 1) w.heap.size u3.heap.size w b p (u3.alloc (.cells #[.int .i64 b.today, .slice p.o b.off.length p.oc, .slice p.a b.az.length p.ac, .slice p.c b.cs.length p.cc, .slice p.l b.ls.length p.lc, .slice p.g b.log.length p.gc] 32))) := by
    have bA : Below u3.heap.size u3 (u3.alloc (.cells #[.int .i64 b.today, .slice p.o b.off.length p.oc, .slice p.a b.az.length p.ac, .slice p.c b.cs.length p.cc, .slice p.l b.ls.length p.lc, .slice p.g b.log.length p.gc] 32)) := (Below.refl _ _).alloc (Nat.le_refl _) _
    exact ⟨cursor_alloc c3 _, next q3 bA, zR3.below bA, Z6.new u3 _ _ _ _ _ _ _, hb.below bA, offB_fresh hfr (by omega), offB_fresh hfr lR, by omega, by omega, by omega, Nat.le_refl _⟩
  unfold bkv
  clear c1 q1 zR1 hI hb hfr c3 b3 zR3 q3 lR hr2
  go_upto_region 3 with fail
  obtain ⟨U, hU⟩ : ∃ U, U = u3.alloc (.cells #[.int .i64 b.today, .slice p.o b.off.length p.oc, .slice p.a b.az.length p.ac, .slice p.c b.cs.length p.cc, .slice p.l b.ls.length p.lc, .slice p.g b.log.length p.gc] 32) := ⟨_, rfl⟩
  rw [← hU] at HT ⊢
  obtain ⟨T, hT⟩ : ∃ T, T = u3.heap.size := ⟨_, rfl⟩
  rw [← hT] at HT ⊢
  clear hU hT cb hb3
  obtain ⟨t0, t1, t2, t3, t4, t5, -, -, -, -, -, -⟩ := HT.out.z
  obtain ⟨r0, r1, r2, r3, r4, r5, s0, s1, s2, s3, s4, s5⟩ := HT.out.r
  have lT : T < U.heap.size := Z6.lt HT.out.z
  have nT : ¬ T = U.heap.size := by omega
  have a0 := fun o => (HT.out.al o).z.c0
  have a1 := fun o => (HT.out.al o).z.c1
  have a2 := fun o => (HT.out.al o).z.c2
  have a3 := fun o => (HT.out.al o).z.c3
  have a4 := fun o => (HT.out.al o).z.c4
  have a5 := fun o => (HT.out.al o).z.c5
  go_region_with (go_at_call 10; (first | with_reducible refine Calls.mono (qPick7 HT.out) ?_ | with_reducible refine Calls.mono (qPick7 HT.out.drew) ?_ | with_reducible refine Calls.mono (qPick7d HT.out) ?_); rintro e u6 ⟨ac, rfl, hac, q6⟩; have zr6 := q6.r; have zz6 := q6.z; obtain ⟨t0, t1, t2, t3, t4, t5, -, -, -, -, -, -⟩ := zz6; obtain ⟨r0, r1, r2, r3, r4, r5, s0, s1, s2, s3, s4, s5⟩ := zr6)
  all_goals
    clear a0 a1 a2 a3 a4 a5 lT nT hac
    have HE : Hid _ := tw_end q6 (.int .i64 b.today) (.slice p.o b.off.length p.oc) (.slice p.a b.az.length p.ac) (.slice p.c b.cs.length p.cc) (.slice p.l b.ls.length p.lc) (.slice p.g b.log.length p.gc)
    clear q6 HT
    go_wp2
    refine bodyPost_ret (by simp [results, Try.results5, go_sem, r0, r1, r2, r3, r4, r5]; try rfl) rfl ?_
    exact ⟨b, p, ac, cur, rfl, HI.out, HE.out.1, HE.out.2⟩

end Go.Proofs.Ytlonjjliochbhaa
