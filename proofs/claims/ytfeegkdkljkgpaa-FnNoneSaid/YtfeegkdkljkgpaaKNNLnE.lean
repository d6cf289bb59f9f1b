/- A line that is drawn for a book: the walk. -/
import Derived.Test.YtfeegkdkljkgpaaKNNLnD
namespace Go.Proofs.Ytfeegkdkljkgpaa
open Go.RowKit
set_option maxRecDepth 100000

structure LT (B g : Nat) (w : World) (b : Bk) (p : Bp) (T : Nat) (v1 v2 v3 : Value) (u : World) : Prop where
  ls : LS B g w b p u
  s : u.cell? ⟨T, 1, none⟩ = some v1 ∧ u.cell? ⟨T, 2, none⟩ = some v2 ∧ u.cell? ⟨T, 3, none⟩ = some v3
  ne : T ≠ g
theorem LT.call {B g : Nat} {w : World} {b : Bk} {p : Bp} {T : Nat} {v1 v2 v3 : Value} {u u' : World} (q : LT B g w b p T v1 v2 v3 u) (c : Cursor B u' g) (r : u.grownBy u' (some g)) : LT B g w b p T v1 v2 v3 u' :=
  ⟨q.ls.call c r, ⟨r.cell (a := ⟨T, 1, none⟩) q.s.1 (by have := q.ne; simp; omega), r.cell (a := ⟨T, 2, none⟩) q.s.2.1 (by have := q.ne; simp; omega), r.cell (a := ⟨T, 3, none⟩) q.s.2.2 (by have := q.ne; simp; omega)⟩, q.ne⟩
theorem LT.below {B g : Nat} {w : World} {b : Bk} {p : Bp} {T : Nat} {v1 v2 v3 : Value} {u u' : World} (q : LT B g w b p T v1 v2 v3 u) (h : Below u.heap.size u u') : LT B g w b p T v1 v2 v3 u' := q.call (cursor_below q.ls.cu h) (grown_ofL h _)
theorem LT.drew {B g : Nat} {w : World} {b : Bk} {p : Bp} {T : Nat} {v1 v2 v3 : Value} {u : World} (q : LT B g w b p T v1 v2 v3 u) : LT B g w b p T v1 v2 v3 u.drew := q.below ((Below.refl _ _).drew)
theorem qLTBelow {B g : Nat} {w : World} {b : Bk} {p : Bp} {T : Nat} {v1 v2 v3 : Value} {u : World} (q : LT B g w b p T v1 v2 v3 u) (n : Int) (hn : n ≤ 1099511627776) :
    Calls Try.prog 23 #[.pointer (some ⟨g, 0, none⟩), .int .i64 n] u fun e u' => ∃ x : Int, e = .returned (.int .i64 x) ∧ LT B g w b p T v1 v2 v3 u' :=
  (below_any g n u q.ls.cu hn).mono (by rintro e u' ⟨x, h1, h2, h3, c, r⟩; exact ⟨x, h1, q.call c r⟩)
theorem qLTOnce {B g : Nat} {w : World} {b : Bk} {p : Bp} {T : Nat} {v1 v2 v3 : Value} {u : World} (q : LT B g w b p T v1 v2 v3 u) (n : Int) (hn : n ≤ 1099511627776) :
    Calls Try.prog 50 #[.pointer (some ⟨g, 0, none⟩), .int .i64 n] u fun e u' => ∃ x : Bool, e = .returned (.bool x) ∧ LT B g w b p T v1 v2 v3 u' :=
  (once_any g n u q.ls.cu hn).mono (by rintro e u' ⟨x, h1, c, r⟩; exact ⟨x, h1, q.call c r⟩)
structure LA (B g : Nat) (w : World) (T : Nat) (v0 v1 v2 : Value) (u : World) : Prop where
  cu : Cursor B u g
  gr : w.grownBy u (some g)
  s : u.cell? ⟨T, 0, none⟩ = some v0 ∧ u.cell? ⟨T, 1, none⟩ = some v1 ∧ u.cell? ⟨T, 2, none⟩ = some v2
  z : u.frozen? ⟨T, 0, none⟩ = false ∧ u.frozen? ⟨T, 1, none⟩ = false ∧ u.frozen? ⟨T, 2, none⟩ = false
  hT : B ≤ T
  hw : w.heap.size ≤ T
theorem LA.below {B g : Nat} {w : World} {T : Nat} {v0 v1 v2 : Value} {u u' : World} (q : LA B g w T v0 v1 v2 u) (h : Below u.heap.size u u') : LA B g w T v0 v1 v2 u' := by
  have l := World.block_lt_of_cell? u _ q.s.1
  exact ⟨cursor_below q.cu h, q.gr.trans (grown_ofL h _), ⟨(h.cell l).trans q.s.1, (h.cell (p := ⟨T, 1, none⟩) l).trans q.s.2.1, (h.cell (p := ⟨T, 2, none⟩) l).trans q.s.2.2⟩, ⟨(h.frozen (p := ⟨T, 0, none⟩) l).trans q.z.1, (h.frozen (p := ⟨T, 1, none⟩) l).trans q.z.2.1, (h.frozen (p := ⟨T, 2, none⟩) l).trans q.z.2.2⟩, q.hT, q.hw⟩
theorem LA.drew {B g : Nat} {w : World} {T : Nat} {v0 v1 v2 : Value} {u : World} (q : LA B g w T v0 v1 v2 u) : LA B g w T v0 v1 v2 u.drew := q.below ((Below.refl _ _).drew)
theorem LA.at {B g : Nat} {w : World} {T : Nat} {v0 v1 v2 y0 y1 y2 : Value} {u : World} (q : LA B g w T v0 v1 v2 u) (i : Nat) (x : Value) (e : (u.setCell ⟨T, i, none⟩ x).cell? ⟨T, 0, none⟩ = some y0 ∧ (u.setCell ⟨T, i, none⟩ x).cell? ⟨T, 1, none⟩ = some y1 ∧ (u.setCell ⟨T, i, none⟩ x).cell? ⟨T, 2, none⟩ = some y2) : LA B g w T y0 y1 y2 (u.setCell ⟨T, i, none⟩ x) := by
  have hw := q.hw
  refine ⟨cursor_keep q.cu ((Below.refl B u).setCell q.hT _), ⟨q.gr.os, q.gr.tape, q.gr.output, by simpa using q.gr.size, fun k hk hne => (Below.heap_setCell _ _ _ _ (by simp only; omega)).trans (q.gr.block k hk hne)⟩, e, ⟨?_, ?_, ?_⟩, q.hT, q.hw⟩
  · rw [World.frozen?_setCell]; exact q.z.1
  · rw [World.frozen?_setCell]; exact q.z.2.1
  · rw [World.frozen?_setCell]; exact q.z.2.2
theorem LA.zero {B g : Nat} {w : World} {T : Nat} {v0 v1 v2 : Value} {u : World} (q : LA B g w T v0 v1 v2 u) (x0 x1 x2 : Value) : LA B g w T x0 x1 x2 (((u.setCell ⟨T, 0, none⟩ x0).setCell ⟨T, 1, none⟩ x1).setCell ⟨T, 2, none⟩ x2) := by
  have q0 := q.at (y0 := x0) (y1 := v1) (y2 := v2) 0 x0 ⟨World.cell?_setCell_same _ _ _ q.s.1, by rw [World.cell?_setCell_other _ _ _ _ (by simp)]; exact q.s.2.1, by rw [World.cell?_setCell_other _ _ _ _ (by simp)]; exact q.s.2.2⟩
  have q1 := q0.at (y0 := x0) (y1 := x1) (y2 := v2) 1 x1 ⟨by rw [World.cell?_setCell_other _ _ _ _ (by simp)]; exact q0.s.1, World.cell?_setCell_same _ _ _ q0.s.2.1, by rw [World.cell?_setCell_other _ _ _ _ (by simp)]; exact q0.s.2.2⟩
  exact q1.at (y0 := x0) (y1 := x1) (y2 := x2) 2 x2 ⟨by rw [World.cell?_setCell_other _ _ _ _ (by simp)]; exact q1.s.1, by rw [World.cell?_setCell_other _ _ _ _ (by simp)]; exact q1.s.2.1, World.cell?_setCell_same _ _ _ q1.s.2.2⟩
theorem la_end {B g : Nat} {w : World} {T : Nat} {v0 v1 v2 : Value} {u : World} {s : ByteArray} (q : LA B g w T v0 v1 v2 u) (h : s.size ≤ 400) : LnR B g w (.returned (.string s)) u :=
  ⟨s.data.toList, by cases s; simp, by cases s; simpa [ByteArray.size] using h, q.cu, q.gr⟩
theorem cat2 (A D : ByteArray) (n : Nat) (hA : A.size ≤ n) (hn : n ≤ 1000) (hD : D.size ≤ 30) : ∃ C E : ByteArray, (∀ w, (Op.stringOp .add A D).run Try.prog w = .ok (.string C) w) ∧ (∀ w, (Op.stringOp .add C ⟨#[32]⟩).run Try.prog w = .ok (.string E) w) ∧ C.size ≤ n + 30 ∧ E.size ≤ n + 31 :=
  ⟨A ++ D, (A ++ D) ++ ⟨#[32]⟩, fun w => run_string_add_sum w A D (by omega), fun w => run_string_add_sum w _ _ (by rw [ba_cat]; have : (⟨#[32]⟩ : ByteArray).size = 1 := rfl; omega), by rw [ba_cat]; omega, by rw [ba_cat, ba_cat]; have : (⟨#[32]⟩ : ByteArray).size = 1 := rfl; omega⟩
theorem actsW_len (k : Nat) : (nth actsW k).length ≤ 10 := by
  by_cases h : k < 10
  · rcases (show k = 0 ∨ k = 1 ∨ k = 2 ∨ k = 3 ∨ k = 4 ∨ k = 5 ∨ k = 6 ∨ k = 7 ∨ k = 8 ∨ k = 9 by omega) with rfl | rfl | rfl | rfl | rfl | rfl | rfl | rfl | rfl | rfl <;> decide
  · have : nth actsW k = [] := by simp [nth, actsW, List.getD_eq_getElem?_getD]; rw [List.getElem?_eq_none (by simp; omega)]; rfl
    rw [this]; simp
set_option maxHeartbeats 6400000 in
theorem lineD_any {B : Nat} (g : Nat) (b : Bk) (p : Bp) (w : World) (hc : Cursor B w g) (hx : BookAt w b p) (ho : OffB p g) (hn : bkSm b) :
    Calls Try.prog 31 #[.pointer (some ⟨g, 0, none⟩), bkv b p] w (LnR B g w) := by
  have hq0 := LS.new (b := b) hc hx ho 32
  have hna : b.az.length ≤ 1048576 := hn.2.1
  have hnc : b.cs.length ≤ 1048576 := hn.2.2.1
  have HBW : Hid (B ≤ w.heap.size) := (cursor_bd hc).2
  unfold bkv
  clear hc hx ho hn
  go_enter Try.func31, Try.ntmps31
  go_wp2_with fail
  refine (qBelow hq0 10 (by omega)).mono ?_
  rintro e u1 ⟨x, rfl, hx0, hx1, q1⟩
  have HQ : Hid (LS B g w b p u1) := q1
  clear hq0
  go_upto_block 0 with fail
  go_cut [10] (fun _ wz => LS B g w b p wz)
  case first =>
    by_cases e0 : x = 0
    · subst e0
      have c0 := q1.z0
      clear q1
      go_upto_region 3 with fail
      go_region_with (first | (go_at_call 23; (first | with_reducible refine (qBelow HQ.out _ (by omega)).mono ?_ | with_reducible refine (qBelow HQ.out.drew _ (by omega)).mono ?_); rintro e u2 ⟨y, rfl, hy0, hy1, q2⟩; have c2 := q2.z0) | (go_at_call 48; refine (dec_tot _ _).mono ?_; rintro e u2 ⟨l, rfl, hl, rfl⟩))
      all_goals
        go_wp2
        go_ret
        exact ln_end (by assumption) (by simp only [ba_cat, ba_size, List.length_cons, List.length_nil]; omega)
    by_cases e12 : x = 1 ∨ x = 2
    · clear hx0 hx1
      rcases e12 with rfl | rfl
      all_goals
        go_wp2_with (first | (go_at_call 23; refine (qBelow (by assumption) _ (by omega)).mono ?_; rintro e u2 ⟨y, rfl, hy0, hy1, q2⟩) | (go_at_call 49; refine (qPad (by assumption) _ _).mono ?_; rintro e u2 ⟨l, rfl, hl, q2⟩) | (go_at_call 48; refine (dec_tot _ _).mono ?_; rintro e u2 ⟨l, rfl, hl, rfl⟩) | (go_at_call 14; refine (qPick2 (by assumption)).mono ?_; rintro e u2 ⟨y, rfl, q2⟩))
        go_ret
        exact ln_end (by assumption) (by simp only [ba_cat, ba_size, List.length_cons, List.length_nil]; omega)
    by_cases e34 : x = 3 ∨ x = 4
    · clear hx0 hx1 q1 e0 e12
      rcases e34 with rfl | rfl
      all_goals
        go_wp2
        go_loopw [5] (fun i wr => ∃ k : Nat, k ≤ b.az.length ∧ i = .int .i64 k ∧ LS B g w b p wr) (fun i _ => b.az.length - (intOf i).toNat)
        case atStart => exact ⟨0, Nat.zero_le _, rfl, HQ.out⟩
        case round =>
          obtain ⟨k, hk, rfl, qr⟩ := hrel
          have HR : Hid (LS B g w b p wr) := qr
          have z2 := qr.z2
          by_cases hlt : k < b.az.length
          · have hki : (k : Int) < (b.az.length : Int) := by omega
            rcases qr.az with hE | ⟨ab, off, hpa, hal, hac⟩
            · rw [hE] at hlt; simp at hlt
            rw [hpa] at z2
            obtain ⟨f0, f1, f2, f3, f4, f5⟩ := hac k hlt
            obtain ⟨A, hA⟩ : ∃ A, auAt b.az k = A := ⟨_, rfl⟩
            rw [hA] at f0 f1 f2 f3 f4 f5
            obtain ⟨ref, iss, cur, am, day, used⟩ := A
            simp only at f0 f1 f2 f3 f4 f5
            have hne := cursor_ne qr.cu
            have HL : Hid (LT B g w b p wr.heap.size (.int .i64 iss) (.int .i64 cur) (.int .i64 am) (wr.alloc (.cells #[.string ⟨ref.toArray⟩, .int .i64 iss, .int .i64 cur, .int .i64 am, .int .i64 day, .bool used] 85))) := ⟨qr.alloc _, ⟨by simp, by simp, by simp⟩, hne⟩
            clear hac hA qr
            cases used
            · go_wp2_with fail
              refine (qLTOnce HL.out _ (by omega)).mono ?_
              rintro e u3 ⟨x3, rfl, q3⟩
              have HT : Hid (LT B g w b p wr.heap.size (.int .i64 iss) (.int .i64 cur) (.int .i64 am) u3) := q3
              obtain ⟨d1, d2, d3⟩ := q3.s
              clear HL f0 f1 f2 f3 f4 f5 z2 q3
              cases x3
              · go_upto_region 14 with fail
                go_region_held3 (fun u => u.cell? ⟨wr.heap.size, 1, none⟩ = some (.int .i64 iss) ∧ u.cell? ⟨wr.heap.size, 2, none⟩ = some (.int .i64 cur) ∧ u.cell? ⟨wr.heap.size, 3, none⟩ = some (.int .i64 am)) (first | with_reducible exact HT.out.s | with_reducible exact HT.out.drew.s | with_reducible exact q5.s | with_reducible exact q5.drew.s) ((first
                  | (go_at_call 23; (first | with_reducible refine (qLTBelow HT.out _ (by omega)).mono ?_ | with_reducible refine (qLTBelow HT.out.drew _ (by omega)).mono ?_); rintro e u5 ⟨y, rfl, q5⟩)
                  | (first | (revert y3; intro y3; go_at_call 48; (with_reducible refine Calls.mono (dec_tot _ _) ?_); rintro e u2 ⟨l, rfl, hl, rfl⟩; obtain ⟨D4, hD⟩ : ∃ D : ByteArray, D = ⟨l.toArray⟩ := ⟨_, rfl⟩; have hd4 : D4.size ≤ 30 := (by rw [hD, ba_size]; omega); rw [← hD]; clear hD hl; obtain ⟨C4, E4, r4, s4, z4, y4⟩ := cat2 E3 D4 97 y3 (by omega) hd4) | (revert y2; intro y2; go_at_call 48; (with_reducible refine Calls.mono (dec_tot _ _) ?_); rintro e u2 ⟨l, rfl, hl, rfl⟩; obtain ⟨D3, hD⟩ : ∃ D : ByteArray, D = ⟨l.toArray⟩ := ⟨_, rfl⟩; have hd3 : D3.size ≤ 30 := (by rw [hD, ba_size]; omega); rw [← hD]; clear hD hl; obtain ⟨C3, E3, r3, s3, z3, y3⟩ := cat2 E2 D3 66 y2 (by omega) hd3) | (revert y1; intro y1; go_at_call 48; (with_reducible refine Calls.mono (dec_tot _ _) ?_); rintro e u2 ⟨l, rfl, hl, rfl⟩; obtain ⟨D2, hD⟩ : ∃ D : ByteArray, D = ⟨l.toArray⟩ := ⟨_, rfl⟩; have hd2 : D2.size ≤ 30 := (by rw [hD, ba_size]; omega); rw [← hD]; clear hD hl; obtain ⟨C2, E2, r2, s2, z2, y2⟩ := cat2 E1 D2 35 y1 (by omega) hd2) | (go_at_call 48; (with_reducible refine Calls.mono (dec_tot _ _) ?_); rintro e u2 ⟨l, rfl, hl, rfl⟩; obtain ⟨D1, hD⟩ : ∃ D : ByteArray, D = ⟨l.toArray⟩ := ⟨_, rfl⟩; have hd1 : D1.size ≤ 30 := (by rw [hD, ba_size]; omega); rw [← hD]; clear hD hl; obtain ⟨C1, E1, r1, s1, z1, y1⟩ := cat2 ⟨#[112, 97, 121, 32]⟩ D1 4 (by decide) (by omega) hd1))))
                all_goals
                  go_wp2
                  go_ret
                  exact ln_end q5.ls (by omega)
              · clear d1 d2 d3
                go_wp2
                go_simp
                exact ⟨⟨k + 1, by omega, by omega, HT.out.ls⟩, by simp [intOf]; omega⟩
            · go_wp2
              go_roundw
              case rel => exact ⟨k + 1, by omega, by go_num, HL.out.ls⟩
              case measure => simp [intOf]; omega
          · have hki : ¬ (k : Int) < (b.az.length : Int) := by omega
            clear qr
            go_wp2
            go_ret
            exact ln_end HR.out (by decide)
    have h0 : (x == 0) = false := by simpa using e0
    have h1 : (x == 1) = false := by simp; omega
    have h2 : (x == 2) = false := by simp; omega
    have h3 : (x == 3) = false := by simp; omega
    have h4 : (x == 4) = false := by simp; omega
    clear e0 e12 e34 hx0 hx1 q1
    by_cases e5 : x = 5
    · subst e5
      clear h0 h1 h2 h3 h4
      go_wp2_with fail
      refine (qOnce HQ.out _ (by omega)).mono ?_
      rintro e u2 ⟨x2, rfl, q2⟩
      have HQ2 : Hid (LS B g w b p u2) := q2
      clear HQ q2
      cases x2
      · go_wp2
        go_meet
        exact HQ2.out
      · go_wp2_with fail
        refine (qPickS HQ2.out _).mono ?_
        rintro e u3 ⟨l, rfl, hl, q3⟩
        have HL : Hid (LnR B g w (.returned (.string ⟨l.toArray⟩)) u3) := ⟨l, rfl, by omega, q3.cu, q3.gr⟩
        clear q3 hl
        go_wp2
        go_ret
        exact HL.out
    · have h5 : (x == 5) = false := by simpa using e5
      clear e5
      go_wp2
      go_meet
      exact HQ.out
  case rest =>
    clear HQ q1 hx0 hx1
    obtain ⟨u1, hu1⟩ : ∃ x, x = wc := ⟨_, rfl⟩
    subst hu1
    obtain ⟨q1, hq1⟩ : ∃ _q : LS B g w b p u1, True := ⟨hcut, trivial⟩
    clear hq1 hcut
    have c3 := q1.z3
    by_cases hcs : b.cs.length = 0
    · have hcb : ((b.cs.length : Int) == 0) = true := beq_iff_eq.2 (by omega)
      clear hcs
      go_wp2_with (first | (go_at_call 23; refine (qBelow (by assumption) _ (by omega)).mono ?_; rintro e u2 ⟨y, rfl, hy0, hy1, q2⟩) | (go_at_call 49; refine (qPad (by assumption) _ _).mono ?_; rintro e u2 ⟨l, rfl, hl, q2⟩))
      go_ret
      exact ln_end (by assumption) (by simp only [ba_cat, ba_size, List.length_cons, List.length_nil]; omega)
    · have hcb : ((b.cs.length : Int) == 0) = false := beq_eq_false_iff_ne.2 (by omega)
      go_wp2_with fail
      refine (qBelow q1 _ (by omega)).mono ?_
      rintro e u3 ⟨y, rfl, hy0, hy1, q3⟩
      have hy := hy1 (by omega)
      obtain ⟨i, rfl⟩ := Int.eq_ofNat_of_zero_le hy0
      have hi : i < b.cs.length := by omega
      have hii : (i : Int) < (b.cs.length : Int) := by omega
      have z3 := q3.z3
      rcases q3.cs with hE | ⟨cb, off, hpc, hcl, hcc⟩
      · rw [hE] at hi; simp at hi
      rw [hpc] at z3
      obtain ⟨f0, f1, f2, f3, f4, f5, f6, f7, f8, f9, f10, f11⟩ := hcc i hi
      have HCV : Hid _ := qAct q3 (csAt b.cs i)
      obtain ⟨K, hK⟩ : ∃ K, csAt b.cs i = K := ⟨_, rfl⟩
      rw [hK] at f0 f1 f2 f3 f4 f5 f6 f7 f8 f9 f10 f11 HCV
      obtain ⟨iss, acq, cur, am, st, rsn, cl, bk, fee, cop, sta, due⟩ := K
      simp only at f0 f1 f2 f3 f4 f5 f6 f7 f8 f9 f10 f11
      unfold cv at HCV
      simp only at HCV
      clear hcc hK c3 hcb hcs q3
      go_upto_region 22 with fail
      go_cut [8] (fun v wz => ∃ T kd m rs, v = .pointer (some ⟨T, 0, none⟩) ∧ LA B g w T (.int .i64 kd) (.int .i64 m) (.int .i64 rs) wz)
      case first =>
        go_wp2_with fail
        refine Calls.mono HCV.out ?_
        rintro e u4 ⟨⟨kd, m, rs⟩, rfl, q4⟩
        unfold av
        simp only
        have HA : Hid (LA B g w u4.heap.size (.int .i64 kd) (.int .i64 m) (.int .i64 rs) (u4.alloc (.cells #[.int .i64 kd, .int .i64 m, .int .i64 rs] 89))) := ⟨(q4.alloc _).cu, (q4.alloc _).gr, ⟨by simp, by simp, by simp⟩, ⟨by simp, by simp, by simp⟩, (cursor_bd q4.cu).2, q4.gr.size⟩
        clear f0 f1 f2 f3 f4 f5 f6 f7 f8 f9 f10 f11 HCV q4 z3
        go_wp2
        go_meet
        exact ⟨u4.heap.size, kd, m, rs, rfl, HA.out⟩
      case rest =>
        obtain ⟨T, kd, m, rs, rfl, q8⟩ := hcut
        obtain ⟨u4, hu4⟩ : ∃ x, x = wc := ⟨_, rfl⟩
        subst hu4
        have HA : Hid (LA B g w T (.int .i64 kd) (.int .i64 m) (.int .i64 rs) u4) := q8
        obtain ⟨a0, a1, a2⟩ := q8.s
        obtain ⟨b0, b1, b2⟩ := q8.z
        clear f0 f1 f2 f3 f4 f5 f6 f7 f8 f9 f10 f11 HCV z3 q8
        go_upto_region 23 with fail
        go_cut [124] (fun v wz => ∃ q, v = .bool q ∧ wz = u4 ∧ (q = false → 0 ≤ kd ∧ kd ≤ 9))
        case first =>
          by_cases hm : m < 0
          · go_wp2
            go_meet
            exact ⟨true, rfl, rfl, fun h => by cases h⟩
          · go_wp2_with (go_at_call 53; refine (in_any _ _ _ _).mono ?_; rintro e u5 ⟨rfl, rfl⟩; obtain ⟨ib, hib⟩ : ∃ x, inB kd 0 9 = x := ⟨_, rfl⟩; have HIB : Hid (inB kd 0 9 = ib) := hib; rw [hib]; clear hib; cases ib)
            · go_meet
              exact ⟨true, rfl, rfl, fun h => by cases h⟩
            · go_meet
              exact ⟨false, rfl, rfl, fun _ => of_decide_eq_true HIB.out⟩
        case rest =>
        obtain ⟨qb, rfl, hwz, hqb⟩ := hcut
        replace hwz := hwz.symm
        subst hwz
        go_upto_if 124 with fail
        go_cut [8] (fun v wz => v = .pointer (some ⟨T, 0, none⟩) ∧ ∃ (kn : Nat) (m r : Int), kn < 10 ∧ LA B g w T (.int .i64 kn) (.int .i64 m) (.int .i64 r) wz)
        case first =>
          cases qb
          · have h9 := hqb rfl
            go_wp2
            go_meet
            exact ⟨rfl, kd.toNat, m, rs, by omega, by rw [Int.toNat_of_nonneg h9.1]; exact HA.out⟩
          · go_wp2
            go_meet
            exact ⟨rfl, 0, 0, 0, by omega, HA.out.zero _ _ _⟩
        case rest =>
          obtain ⟨rfl, kn, m2, r2, hkn, qa⟩ := hcut
          obtain ⟨u5, hu5⟩ : ∃ x, x = wc := ⟨_, rfl⟩
          subst hu5
          clear a0 a1 a2 b0 b1 b2
          have HT : Hid (LA B g w T (.int .i64 kn) (.int .i64 m2) (.int .i64 r2) u5) := qa
          have hki : (kn : Int) < 10 := by omega
          obtain ⟨d0, d1, d2⟩ := qa.s
          clear qa HA
          go_upto_region 25 with fail
          refine wp_region_held_drew (S := (fun u => u.cell? ⟨T, 0, none⟩ = some (.int .i64 kn) ∧ u.cell? ⟨T, 1, none⟩ = some (.int .i64 m2) ∧ u.cell? ⟨T, 2, none⟩ = some (.int .i64 r2))) (by kernel_rfl) HT.out.drew.s (fun hHeld => ?_)
          (refine wpAnyH_take (i := 0) (oi := _) (v := ?vq1) (by simp only [List.getElem?_toArray, List.getElem?_cons_zero]; rfl) (by kernel_rfl) (by kernel_rfl) (by kernel_rfl) ?hq1 (Or.inl ⟨by rfl, ?yq1⟩) (by assumption) ?rq1; (case hq1 => exact (fun _ _ _ h => h)); (case yq1 => (intro w hSw; (try dsimp only at hSw); go_simp; (try with_reducible rfl))))
          (refine wpAnyH_take (i := 5) (oi := _) (v := ?vq2) (by simp only [List.getElem?_toArray, List.getElem?_cons_succ, List.getElem?_cons_zero]; rfl) (by kernel_rfl) (by kernel_rfl) (by kernel_rfl) ?hq2 (Or.inl ⟨by rfl, ?yq2⟩) (by assumption) ?rq2; (case hq2 => exact (fun _ _ _ h => h)); (case yq2 => (intro w hSw; (try dsimp only at hSw); go_simp; (try with_reducible rfl))))
          (refine wpAnyH_take (i := 6) (oi := _) (v := ?vq3) (by simp only [List.getElem?_toArray, List.getElem?_cons_succ, List.getElem?_cons_zero]; rfl) (by kernel_rfl) (by kernel_rfl) (by kernel_rfl) ?hq3 (Or.inl ⟨by rfl, ?yq3⟩) (by assumption) ?rq3; (case hq3 => exact (fun _ _ _ h => h)); (case yq3 => (intro w hSw; (try dsimp only at hSw); go_simp; (try with_reducible rfl))))
          (refine wpAnyH_take (i := 11) (oi := _) (v := ?vq4) (by simp only [List.getElem?_toArray, List.getElem?_cons_succ, List.getElem?_cons_zero]; rfl) (by kernel_rfl) (by kernel_rfl) (by kernel_rfl) ?hq4 (Or.inl ⟨by rfl, ?yq4⟩) (by assumption) ?rq4; (case hq4 => exact (fun _ _ _ h => h)); (case yq4 => (intro w hSw; (try dsimp only at hSw); go_simp; (try with_reducible rfl))))
          (refine wpAnyH_take (i := 12) (oi := _) (v := ?vq5) (by simp only [List.getElem?_toArray, List.getElem?_cons_succ, List.getElem?_cons_zero]; rfl) (by kernel_rfl) (by kernel_rfl) (by kernel_rfl) ?hq5 (Or.inl ⟨by rfl, ?yq5⟩) (by assumption) ?rq5; (case hq5 => exact (fun _ _ _ h => h)); (case yq5 => (intro w hSw; (try dsimp only at hSw); go_simp; (try with_reducible rfl))))
          (refine wpAnyH_take (i := 16) (oi := _) (v := ?vq6) (by simp only [List.getElem?_toArray, List.getElem?_cons_succ, List.getElem?_cons_zero]; rfl) (by kernel_rfl) (by kernel_rfl) (by kernel_rfl) ?hq6 (Or.inl ⟨by rfl, ?yq6⟩) (by assumption) ?rq6; (case hq6 => exact (fun _ _ _ h => h)); (case yq6 => (intro w hSw; (try dsimp only at hSw); go_simp; (try with_reducible rfl))))
          (refine wpAnyH_take (i := 17) (oi := _) (v := ?vq7) (by simp only [List.getElem?_toArray, List.getElem?_cons_succ, List.getElem?_cons_zero]; rfl) (by kernel_rfl) (by kernel_rfl) (by kernel_rfl) ?hq7 (Or.inl ⟨by rfl, ?yq7⟩) (by assumption) ?rq7; (case hq7 => exact (fun _ _ _ h => h)); (case yq7 => (intro w hSw; (try dsimp only at hSw); go_simp; (try with_reducible rfl))))
          simp only [Act.put, List.setIfInBounds_toArray]
          refine wpAnyH_ready (rs := [1]) (by kernel_rfl) (by simp) ?_
          refine AllReadyH.cons (o := _) rfl (fun K hK => ?_) AllReadyH.nil
          go_simp
          (refine Calls.mono (dec_tot _ _) ?_; rintro e uu ⟨l, rfl, hl, rfl⟩; obtain ⟨D1, hD⟩ : ∃ D : ByteArray, D = ⟨l.toArray⟩ := ⟨_, rfl⟩; have hd1 : D1.size ≤ 30 := (by rw [hD, ba_size]; omega); rw [← hD]; clear hD hl; obtain ⟨C1, E1, r1, s1, z1, y1⟩ := cat2 ⟨#[97, 99, 116, 32]⟩ D1 4 (by decide) (by omega) hd1)
          go_wp2_with fail
          refine hK.out _ _ HT.out.drew.s (fun hHeld => ?_)
          clear hK K
          (refine wpAnyH_take (i := 2) (oi := _) (v := ?vq8) (by simp only [List.getElem?_toArray, List.getElem?_cons_succ, List.getElem?_cons_zero]; rfl) (by kernel_rfl) (by kernel_rfl) (by kernel_rfl) ?hq8 (Or.inl ⟨by rfl, ?yq8⟩) (by assumption) ?rq8; (case hq8 => exact (fun _ _ _ h => h)); (case yq8 => (intro w hSw; (try dsimp only at hSw); go_simp; (try with_reducible rfl))))
          (refine wpAnyH_take (i := 3) (oi := _) (v := ?vq9) (by simp only [List.getElem?_toArray, List.getElem?_cons_succ, List.getElem?_cons_zero]; rfl) (by kernel_rfl) (by kernel_rfl) (by kernel_rfl) ?hq9 (Or.inl ⟨by rfl, ?yq9⟩) (by assumption) ?rq9; (case hq9 => exact (fun _ _ _ h => h)); (case yq9 => (intro w hSw; (try dsimp only at hSw); go_simp; (try with_reducible rfl))))
          simp only [Act.put, List.setIfInBounds_toArray]
          refine wpAnyH_ready (rs := [4]) (by kernel_rfl) (by simp) ?_
          refine AllReadyH.cons (o := _) rfl (fun K hK => ?_) AllReadyH.nil
          go_simp
          (refine Calls.mono (sActs_any _) ?_; rintro e u6 ⟨rfl, hk6, b6⟩; have q6 : LA B g w T (.int .i64 kn) (.int .i64 m2) (.int .i64 r2) u6 := HT.out.drew.below b6; obtain ⟨KB, hK⟩ : ∃ K : ByteArray, K = ⟨(nth actsW kn).toArray⟩ := ⟨_, rfl⟩; have hk : KB.size ≤ 30 := (by have := actsW_len kn; rw [hK, ba_size]; omega); have k6 : u6.cell? ⟨u5.heap.size, kn, none⟩ = some (.string KB) := (by rw [hK]; first | exact hk6 kn hkn | simpa using hk6 kn hkn); clear hk6 b6 hK; obtain ⟨C2, E2, r2', s2, z2, y2⟩ := cat2 E1 KB 35 y1 (by omega) hk)
          go_wp2_with fail
          refine hK.out _ _ q6.s (fun hHeld => ?_)
          clear hK K
          (refine wpAnyH_take (i := 7) (oi := _) (v := ?vq10) (by simp only [List.getElem?_toArray, List.getElem?_cons_succ, List.getElem?_cons_zero]; rfl) (by kernel_rfl) (by kernel_rfl) (by kernel_rfl) ?hq10 (Or.inl ⟨by rfl, ?yq10⟩) (by assumption) ?rq10; (case hq10 => exact (fun _ _ _ h => h)); (case yq10 => (intro w hSw; (try dsimp only at hSw); go_simp; (try with_reducible rfl))))
          simp only [Act.put, List.setIfInBounds_toArray]
          refine wpAnyH_ready (rs := [8, 13]) (by kernel_rfl) (by simp) ?_
          refine AllReadyH.cons (o := _) rfl (fun K hK => ?_) (AllReadyH.cons (o := _) rfl (fun K hK => ?_) AllReadyH.nil)
          · go_simp
            refine hK.out _ _ q6.s (fun hHeld => ?_)
            clear hK K
            (refine wpAnyH_take (i := 9) (oi := _) (v := ?vq11) (by simp only [List.getElem?_toArray, List.getElem?_cons_succ, List.getElem?_cons_zero]; rfl) (by kernel_rfl) (by kernel_rfl) (by kernel_rfl) ?hq11 (Or.inl ⟨by rfl, ?yq11⟩) (by assumption) ?rq11; (case hq11 => exact (fun _ _ _ h => h)); (case yq11 => (intro w hSw; (try dsimp only at hSw); go_simp; (try with_reducible rfl))))
            (refine wpAnyH_take (i := 10) (oi := _) (v := ?vq12) (by simp only [List.getElem?_toArray, List.getElem?_cons_succ, List.getElem?_cons_zero]; rfl) (by kernel_rfl) (by kernel_rfl) (by kernel_rfl) ?hq12 (Or.inl ⟨by rfl, ?yq12⟩) (by assumption) ?rq12; (case hq12 => exact (fun _ _ _ h => h)); (case yq12 => (intro w hSw; (try dsimp only at hSw); go_simp; (try with_reducible rfl))))
            simp only [Act.put, List.setIfInBounds_toArray]
            refine wpAnyH_ready (rs := [13]) (by kernel_rfl) (by simp) ?_
            refine AllReadyH.cons (o := _) rfl (fun K hK => ?_) AllReadyH.nil
            go_simp
            (refine Calls.mono (dec_tot _ _) ?_; rintro e uu ⟨l, rfl, hl, rfl⟩; obtain ⟨D3, hD⟩ : ∃ D : ByteArray, D = ⟨l.toArray⟩ := ⟨_, rfl⟩; have hd3 : D3.size ≤ 30 := (by rw [hD, ba_size]; omega); rw [← hD]; clear hD hl; obtain ⟨C3, E3, r3, s3, z3, y3⟩ := cat2 E2 D3 66 y2 (by omega) hd3)
            go_wp2_with fail
            refine hK.out _ _ q6.s (fun hHeld => ?_)
            clear hK K
            (refine wpAnyH_take (i := 14) (oi := _) (v := ?vq13) (by simp only [List.getElem?_toArray, List.getElem?_cons_succ, List.getElem?_cons_zero]; rfl) (by kernel_rfl) (by kernel_rfl) (by kernel_rfl) ?hq13 (Or.inl ⟨by rfl, ?yq13⟩) (by assumption) ?rq13; (case hq13 => exact (fun _ _ _ h => h)); (case yq13 => (intro w hSw; (try dsimp only at hSw); go_simp; (try with_reducible rfl))))
            (refine wpAnyH_take (i := 15) (oi := _) (v := ?vq14) (by simp only [List.getElem?_toArray, List.getElem?_cons_succ, List.getElem?_cons_zero]; rfl) (by kernel_rfl) (by kernel_rfl) (by kernel_rfl) ?hq14 (Or.inl ⟨by rfl, ?yq14⟩) (by assumption) ?rq14; (case hq14 => exact (fun _ _ _ h => h)); (case yq14 => (intro w hSw; (try dsimp only at hSw); go_simp; (try with_reducible rfl))))
            simp only [Act.put, List.setIfInBounds_toArray]
            refine wpAnyH_ready (rs := [18]) (by kernel_rfl) (by simp) ?_
            refine AllReadyH.cons (o := _) rfl (fun K hK => ?_) AllReadyH.nil
            go_simp
            (refine Calls.mono (dec_tot _ _) ?_; rintro e uu ⟨l, rfl, hl, rfl⟩; obtain ⟨D4, hD⟩ : ∃ D : ByteArray, D = ⟨l.toArray⟩ := ⟨_, rfl⟩; have hd4 : D4.size ≤ 30 := (by rw [hD, ba_size]; omega); rw [← hD]; clear hD hl; obtain ⟨C4, E4, r4, s4, z4, y4⟩ := cat2 E3 D4 97 y3 (by omega) hd4)
            go_wp2_with fail
            refine hK.out _ _ q6.s (fun hHeld => ?_)
            clear hK K
            (refine wpAnyH_take (i := 19) (oi := _) (v := ?vq15) (by simp only [List.getElem?_toArray, List.getElem?_cons_succ, List.getElem?_cons_zero]; rfl) (by kernel_rfl) (by kernel_rfl) (by kernel_rfl) ?hq15 (Or.inl ⟨by rfl, ?yq15⟩) (by assumption) ?rq15; (case hq15 => exact (fun _ _ _ h => h)); (case yq15 => (intro w hSw; (try dsimp only at hSw); go_simp; (try with_reducible rfl))))
            (refine wpAnyH_take (i := 20) (oi := _) (v := ?vq16) (by simp only [List.getElem?_toArray, List.getElem?_cons_succ, List.getElem?_cons_zero]; rfl) (by kernel_rfl) (by kernel_rfl) (by kernel_rfl) ?hq16 (Or.inl ⟨by rfl, ?yq16⟩) (by assumption) ?rq16; (case hq16 => exact (fun _ _ _ h => h)); (case yq16 => (intro w hSw; (try dsimp only at hSw); go_simp; (try with_reducible rfl))))
            simp only [Act.put, List.setIfInBounds_toArray]
            refine wpAnyH_done (by kernel_rfl) ?_ _
            go_wp2
            go_ret
            exact la_end (s := C4) q6 (Nat.le_trans z4 (by decide))
          · go_simp
            (refine Calls.mono (dec_tot _ _) ?_; rintro e uu ⟨l, rfl, hl, rfl⟩; obtain ⟨D3, hD⟩ : ∃ D : ByteArray, D = ⟨l.toArray⟩ := ⟨_, rfl⟩; have hd3 : D3.size ≤ 30 := (by rw [hD, ba_size]; omega); rw [← hD]; clear hD hl; obtain ⟨C3, E3, r3, s3, z3, y3⟩ := cat2 E2 D3 66 y2 (by omega) hd3)
            go_wp2_with fail
            refine hK.out _ _ q6.s (fun hHeld => ?_)
            clear hK K
            refine wpAnyH_ready (rs := [8, 18]) (by kernel_rfl) (by simp) ?_
            refine AllReadyH.cons (o := _) rfl (fun K hK => ?_) (AllReadyH.cons (o := _) rfl (fun K hK => ?_) AllReadyH.nil)
            · go_simp
              refine hK.out _ _ q6.s (fun hHeld => ?_)
              clear hK K
              (refine wpAnyH_take (i := 9) (oi := _) (v := ?vq17) (by simp only [List.getElem?_toArray, List.getElem?_cons_succ, List.getElem?_cons_zero]; rfl) (by kernel_rfl) (by kernel_rfl) (by kernel_rfl) ?hq17 (Or.inl ⟨by rfl, ?yq17⟩) (by assumption) ?rq17; (case hq17 => exact (fun _ _ _ h => h)); (case yq17 => (intro w hSw; (try dsimp only at hSw); go_simp; (try with_reducible rfl))))
              (refine wpAnyH_take (i := 10) (oi := _) (v := ?vq18) (by simp only [List.getElem?_toArray, List.getElem?_cons_succ, List.getElem?_cons_zero]; rfl) (by kernel_rfl) (by kernel_rfl) (by kernel_rfl) ?hq18 (Or.inl ⟨by rfl, ?yq18⟩) (by assumption) ?rq18; (case hq18 => exact (fun _ _ _ h => h)); (case yq18 => (intro w hSw; (try dsimp only at hSw); go_simp; (try with_reducible rfl))))
              (refine wpAnyH_take (i := 14) (oi := _) (v := ?vq19) (by simp only [List.getElem?_toArray, List.getElem?_cons_succ, List.getElem?_cons_zero]; rfl) (by kernel_rfl) (by kernel_rfl) (by kernel_rfl) ?hq19 (Or.inl ⟨by rfl, ?yq19⟩) (by assumption) ?rq19; (case hq19 => exact (fun _ _ _ h => h)); (case yq19 => (intro w hSw; (try dsimp only at hSw); go_simp; (try with_reducible rfl))))
              (refine wpAnyH_take (i := 15) (oi := _) (v := ?vq20) (by simp only [List.getElem?_toArray, List.getElem?_cons_succ, List.getElem?_cons_zero]; rfl) (by kernel_rfl) (by kernel_rfl) (by kernel_rfl) ?hq20 (Or.inl ⟨by rfl, ?yq20⟩) (by assumption) ?rq20; (case hq20 => exact (fun _ _ _ h => h)); (case yq20 => (intro w hSw; (try dsimp only at hSw); go_simp; (try with_reducible rfl))))
              simp only [Act.put, List.setIfInBounds_toArray]
              refine wpAnyH_ready (rs := [18]) (by kernel_rfl) (by simp) ?_
              refine AllReadyH.cons (o := _) rfl (fun K hK => ?_) AllReadyH.nil
              go_simp
              (refine Calls.mono (dec_tot _ _) ?_; rintro e uu ⟨l, rfl, hl, rfl⟩; obtain ⟨D4, hD⟩ : ∃ D : ByteArray, D = ⟨l.toArray⟩ := ⟨_, rfl⟩; have hd4 : D4.size ≤ 30 := (by rw [hD, ba_size]; omega); rw [← hD]; clear hD hl; obtain ⟨C4, E4, r4, s4, z4, y4⟩ := cat2 E3 D4 97 y3 (by omega) hd4)
              go_wp2_with fail
              refine hK.out _ _ q6.s (fun hHeld => ?_)
              clear hK K
              (refine wpAnyH_take (i := 19) (oi := _) (v := ?vq21) (by simp only [List.getElem?_toArray, List.getElem?_cons_succ, List.getElem?_cons_zero]; rfl) (by kernel_rfl) (by kernel_rfl) (by kernel_rfl) ?hq21 (Or.inl ⟨by rfl, ?yq21⟩) (by assumption) ?rq21; (case hq21 => exact (fun _ _ _ h => h)); (case yq21 => (intro w hSw; (try dsimp only at hSw); go_simp; (try with_reducible rfl))))
              (refine wpAnyH_take (i := 20) (oi := _) (v := ?vq22) (by simp only [List.getElem?_toArray, List.getElem?_cons_succ, List.getElem?_cons_zero]; rfl) (by kernel_rfl) (by kernel_rfl) (by kernel_rfl) ?hq22 (Or.inl ⟨by rfl, ?yq22⟩) (by assumption) ?rq22; (case hq22 => exact (fun _ _ _ h => h)); (case yq22 => (intro w hSw; (try dsimp only at hSw); go_simp; (try with_reducible rfl))))
              simp only [Act.put, List.setIfInBounds_toArray]
              refine wpAnyH_done (by kernel_rfl) ?_ _
              go_wp2
              go_ret
              exact la_end (s := C4) q6 (Nat.le_trans z4 (by decide))
            · go_simp
              (refine Calls.mono (dec_tot _ _) ?_; rintro e uu ⟨l, rfl, hl, rfl⟩; obtain ⟨D4, hD⟩ : ∃ D : ByteArray, D = ⟨l.toArray⟩ := ⟨_, rfl⟩; have hd4 : D4.size ≤ 30 := (by rw [hD, ba_size]; omega); rw [← hD]; clear hD hl; obtain ⟨C4, E4, r4, s4, z4, y4⟩ := cat2 E3 D4 97 y3 (by omega) hd4)
              go_wp2_with fail
              refine hK.out _ _ q6.s (fun hHeld => ?_)
              clear hK K
              refine wpAnyH_ready (rs := [8]) (by kernel_rfl) (by simp) ?_
              refine AllReadyH.cons (o := _) rfl (fun K hK => ?_) AllReadyH.nil
              go_simp
              refine hK.out _ _ q6.s (fun hHeld => ?_)
              clear hK K
              (refine wpAnyH_take (i := 9) (oi := _) (v := ?vq23) (by simp only [List.getElem?_toArray, List.getElem?_cons_succ, List.getElem?_cons_zero]; rfl) (by kernel_rfl) (by kernel_rfl) (by kernel_rfl) ?hq23 (Or.inl ⟨by rfl, ?yq23⟩) (by assumption) ?rq23; (case hq23 => exact (fun _ _ _ h => h)); (case yq23 => (intro w hSw; (try dsimp only at hSw); go_simp; (try with_reducible rfl))))
              (refine wpAnyH_take (i := 10) (oi := _) (v := ?vq24) (by simp only [List.getElem?_toArray, List.getElem?_cons_succ, List.getElem?_cons_zero]; rfl) (by kernel_rfl) (by kernel_rfl) (by kernel_rfl) ?hq24 (Or.inl ⟨by rfl, ?yq24⟩) (by assumption) ?rq24; (case hq24 => exact (fun _ _ _ h => h)); (case yq24 => (intro w hSw; (try dsimp only at hSw); go_simp; (try with_reducible rfl))))
              (refine wpAnyH_take (i := 14) (oi := _) (v := ?vq25) (by simp only [List.getElem?_toArray, List.getElem?_cons_succ, List.getElem?_cons_zero]; rfl) (by kernel_rfl) (by kernel_rfl) (by kernel_rfl) ?hq25 (Or.inl ⟨by rfl, ?yq25⟩) (by assumption) ?rq25; (case hq25 => exact (fun _ _ _ h => h)); (case yq25 => (intro w hSw; (try dsimp only at hSw); go_simp; (try with_reducible rfl))))
              (refine wpAnyH_take (i := 15) (oi := _) (v := ?vq26) (by simp only [List.getElem?_toArray, List.getElem?_cons_succ, List.getElem?_cons_zero]; rfl) (by kernel_rfl) (by kernel_rfl) (by kernel_rfl) ?hq26 (Or.inl ⟨by rfl, ?yq26⟩) (by assumption) ?rq26; (case hq26 => exact (fun _ _ _ h => h)); (case yq26 => (intro w hSw; (try dsimp only at hSw); go_simp; (try with_reducible rfl))))
              (refine wpAnyH_take (i := 19) (oi := _) (v := ?vq27) (by simp only [List.getElem?_toArray, List.getElem?_cons_succ, List.getElem?_cons_zero]; rfl) (by kernel_rfl) (by kernel_rfl) (by kernel_rfl) ?hq27 (Or.inl ⟨by rfl, ?yq27⟩) (by assumption) ?rq27; (case hq27 => exact (fun _ _ _ h => h)); (case yq27 => (intro w hSw; (try dsimp only at hSw); go_simp; (try with_reducible rfl))))
              (refine wpAnyH_take (i := 20) (oi := _) (v := ?vq28) (by simp only [List.getElem?_toArray, List.getElem?_cons_succ, List.getElem?_cons_zero]; rfl) (by kernel_rfl) (by kernel_rfl) (by kernel_rfl) ?hq28 (Or.inl ⟨by rfl, ?yq28⟩) (by assumption) ?rq28; (case hq28 => exact (fun _ _ _ h => h)); (case yq28 => (intro w hSw; (try dsimp only at hSw); go_simp; (try with_reducible rfl))))
              simp only [Act.put, List.setIfInBounds_toArray]
              refine wpAnyH_done (by kernel_rfl) ?_ _
              go_wp2
              go_ret
              exact la_end (s := C4) q6 (Nat.le_trans z4 (by decide))

end Go.Proofs.Ytfeegkdkljkgpaa
