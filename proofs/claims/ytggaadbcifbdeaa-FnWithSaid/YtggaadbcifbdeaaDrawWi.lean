/- What is drawn for the law of With, whatever the bytes: a message, a number, a text. -/
import Derived.Test.YtggaadbcifbdeaaDrawMw
import Derived.Test.YtggaadbcifbdeaaFWithY
import Derived.Test.YtggaadbcifbdeaaSWith
namespace Go.Proofs.Ytggaadbcifbdeaa
open Go.RowKit
set_option maxRecDepth 100000

theorem flds_set {w : World} {ao : Option Addr} {fs : List Fld} {b k : Nat} {v : Value} (h : FldsAt w ao fs) (hb : ∀ x, ao = some x → x.block ≠ b) : FldsAt (w.setCell ⟨b, k, none⟩ v) ao fs := by
  rcases h with h | ⟨c, off, h1, h2, h3⟩
  · exact .inl h
  · have hne := hb _ h1
    simp only at hne
    refine .inr ⟨c, off, h1, by simpa using h2, fun i hi => ⟨?_, ?_⟩⟩
    · rw [World.cell?_setCell_other _ _ _ _ (by first | (simp; done) | (simp; omega))]; exact (h3 i hi).1
    · rw [World.cell?_setCell_other _ _ _ _ (by first | (simp; done) | (simp; omega))]; exact (h3 i hi).2
theorem sumM_le {fs : List Fld} (hn : fs.length ≤ 17) (hd : ∀ f ∈ fs, f.2.length ≤ 999) : sumF fs ≤ 20000 := by
  have h : ∀ gs : List Fld, (∀ f ∈ gs, f.2.length ≤ 999) → sumF gs ≤ 999 * gs.length := by
    intro gs
    induction gs with
    | nil => intro _; simp [sumF]
    | cons f r ih =>
      intro hg
      have h1 := hg f (List.mem_cons_self ..)
      have h2 := ih (fun x hx => hg x (List.mem_cons_of_mem _ hx))
      simp only [sumF, List.map_cons, List.sum_cons, List.length_cons] at h2 ⊢
      omega
  have := h fs hd
  omega
/-- a message whose fields lie somewhere, or that has none -/
def GoodM (ao : Option Addr) (cap : Nat) (fs : List Fld) : Prop := (ao = none ∧ fs = [] ∧ cap = 0) ∨ ∃ b off, ao = some ⟨b, off, none⟩ ∧ fs.length ≤ cap ∧ cap ≤ 9223372036854775807
theorem iWithM {kd : Int} {ao : Option Addr} {cap : Nat} {fs : List Fld} {num : Int} {d : List UInt8} {w : World} (hg : GoodM ao cap fs) (hz : FldsAt w ao fs) (hn : fs.length ≤ 1048576) (hd : sumF fs ≤ 1048576) (hl : d.length ≤ 1099511627776) :
    Calls Try.prog 6 #[.agg #[.int .i64 kd, .slice ao fs.length cap], .int .i64 num, .string ⟨d.toArray⟩] w (Withs w kd (withL kd fs num d) (withOk kd fs num d)) := by
  rcases hg with ⟨h1, h2, h3⟩ | ⟨b, off, h1, h2, h3⟩
  · subst h1; subst h2; subst h3
    exact iWith_none kd num d w hl
  · subst h1
    exact iWith_any kd b off cap fs num d w hz hn hd hl h2 h3
theorem good_own {w : World} {base n : Nat} {t : TypeId} {ao : Option Addr} {cap : Nat} {fs : List Fld} (h : w.ownsRow base t 2 (.slice ao n cap) n (fcells fs)) : GoodM ao cap fs := by
  have hn : n = fs.length := by have := h.1; rw [fcells_len] at this; omega
  rcases h.2 with ⟨hv, h0⟩ | ⟨g, c, cur, hv, _, _, h1, h2, _⟩
  · have e : ao = none ∧ cap = 0 := by
      simp at hv; exact ⟨hv.1, hv.2.2⟩
    have e0 : fs.length = 0 := by omega
    exact .inl ⟨e.1, List.eq_nil_of_length_eq_zero e0, e.2⟩
  · obtain ⟨rfl, rfl⟩ : ao = some ⟨g, 0, none⟩ ∧ cap = c := by simpa using hv
    refine .inr ⟨g, 0, rfl, ?_, ?_⟩
    · omega
    · unfold maxLen at h2; omega

set_option maxHeartbeats 1600000 in
theorem dataG_0 {B : Nat} (g : Nat) (w1 : World) (hc : Cursor B w1 g) :
    Calls Try.prog 16 #[.pointer (some ⟨g, 0, none⟩), .int .i64 5] w1 fun e w' => ∃ l : List UInt8, e = .returned (.string ⟨l.toArray⟩) ∧ l.length ≤ 999 ∧ Cursor B w' g ∧ w1.grownBy w' (some g) := by
  have hF : fK 5 = 0 := by decide
  have hS : fS 5 = 0 := by decide
  go_enter Try.func16, Try.ntmps16
  go_wp2_with fail
  refine (l04Form_any _ _).mono ?_
  rintro e w ⟨rfl, hw⟩
  rw [hF, hS, hw]
  clear hw hF hS
  go_wp2
  refine wp_loop_rounds 1 ?_
  rw [rounds_succ]
  have own : (w1.alloc (.cells #[] 5)).ownsRow w1.heap.size 5 1 (.slice (some ⟨w1.heap.size, 0, none⟩) 0 0) 0 [] := World.ownsRow_lit w1 #[] 0 (Nat.le_refl _) (by unfold maxLen; omega) rfl
  have ht := text_own (l := []) own
  clear own
  go_wp2
  go_ret
  exact ⟨[], rfl, by simp, cursor_alloc hc _, (grown_alloc w1 _ _)⟩
theorem dataW_any {B : Nat} (g : Nat) (n : Int) (w1 : World) (hc : Cursor B w1 g) (hn : n ∈ knowns ∨ n = 5) :
    Calls Try.prog 16 #[.pointer (some ⟨g, 0, none⟩), .int .i64 n] w1 fun e w' => ∃ l : List UInt8, e = .returned (.string ⟨l.toArray⟩) ∧ l.length ≤ 999 ∧ Cursor B w' g ∧ w1.grownBy w' (some g) := by
  rcases hn with h | h
  · exact dataG_any g n w1 hc h
  · subst h; exact dataG_0 g w1 hc
theorem flds_far {w w' : World} {ao : Option Addr} {fs : List Fld} {g : Nat} (h : FldsAt w ao fs) (hg : w.grownBy w' (some g)) (hb : ∀ x, ao = some x → x.block ≠ g) : FldsAt w' ao fs := by
  rcases h with h | ⟨c, off, h1, h2, h3⟩
  · exact .inl h
  · have hne := hb _ h1
    simp only at hne
    exact .inr ⟨c, off, h1, Nat.lt_of_lt_of_le h2 hg.size, fun i hi => ⟨far_cell (h3 i hi).1 hg hne, far_cell (h3 i hi).2 hg hne⟩⟩

def DrewW (w : World) (e : Ending) (w' : World) : Prop :=
  ∃ (kd : Int) (ao : Option Addr) (c : Nat) (fs : List Fld) (num : Int) (d : List UInt8), e = .returned (.tuple #[.agg #[.int .i64 kd, .slice ao fs.length c], .int .i64 num, .string ⟨d.toArray⟩]) ∧ fs.length ≤ 16 ∧ (∀ f ∈ fs, f.2.length ≤ 999) ∧ FldsAt w' ao fs ∧ GoodM ao c fs ∧ d.length ≤ 999 ∧ Below w.heap.size w w'

set_option maxHeartbeats 3200000 in
theorem drawW_any (a : Option Addr) (len cap : Nat) (zs : List Int) (w : World) (hr : IsRow .u8 w a len cap zs) (hn : len ≤ 1048576) :
    Calls Try.prog 5 #[.slice a len cap] w (DrewW w) := by
  have bel : Below w.heap.size w (w.alloc (.cells #[.int .i64 0, .slice none 0 0] 26)) := by go_grown
  have hr1 := row_below hr bel
  go_enter Try.func5, Try.ntmps5
  go_wp2_with fail
  refine (new_any _ _ _ _ _ hr1 hn).mono ?_
  rintro e w1 ⟨rfl, c1, b1⟩
  have x0 := (b1.cell (p := ⟨w.heap.size, 0, none⟩) (by simp)).trans (show _ = some (.int .i64 0) by simp)
  have x1 := (b1.cell (p := ⟨w.heap.size, 1, none⟩) (by simp)).trans (show _ = some (.slice none 0 0) by simp)
  have z0 := (b1.frozen (p := ⟨w.heap.size, 0, none⟩) (by simp)).trans (show _ = false by simp)
  have z1 := (b1.frozen (p := ⟨w.heap.size, 1, none⟩) (by simp)).trans (show _ = false by simp)
  have q1 := next bel b1
  simp only [World.size_alloc] at c1 b1 ⊢
  clear hr hr1 bel b1
  go_wp2_with fail
  refine (msgD_any _ _ c1).mono ?_
  rintro e w2 ⟨kd, ao, c, fs, rfl, h1, h2, h3, c2, g2, hb, ow⟩
  have y0 := far_cell x0 g2 (by omega)
  have y1 := far_cell x1 g2 (by omega)
  have l2 : w.heap.size + 1 < w2.heap.size := by have := World.block_lt_of_cell? w1 _ x0; have := cursor_bd c2; omega
  have u0 := far_froz z0 (World.block_lt_of_cell? w1 _ x0) g2 (by omega)
  have u1 := far_froz z1 (World.block_lt_of_cell? w1 _ x0) g2 (by omega)
  have q2 : Below w.heap.size w w2 := q1.grown g2 q1.size (fun k hk => by cases hk; omega)
  have HG : Hid (GoodM ao c fs) := good_own ow
  have HB : Hid (∀ x, ao = some x → w.heap.size + 1 < x.block) := hb
  clear x0 x1 z0 z1 c1 g2 q1 ow hb
  have bA : Below w2.heap.size w2 (w2.alloc (.cells #[.int .i64 kd, .slice ao fs.length c] 26)) := by go_grown
  have m0 : (w2.alloc (.cells #[.int .i64 kd, .slice ao fs.length c] 26)).cell? ⟨w2.heap.size, 0, none⟩ = some (.int .i64 kd) := by simp
  have m1 : (w2.alloc (.cells #[.int .i64 kd, .slice ao fs.length c] 26)).cell? ⟨w2.heap.size, 1, none⟩ = some (.slice ao fs.length c) := by simp
  go_wp2_with fail
  refine (numsM_any _).mono ?_
  rintro e w3 ⟨rfl, hls, b3, hs3, -⟩
  have bb := next bA b3
  have c3 := cursor_below c2 bb
  have h3' := h3.below bb
  have y0 := (bb.cell (p := ⟨w.heap.size, 0, none⟩) (by show w.heap.size < w2.heap.size; omega)).trans y0
  have y1 := (bb.cell (p := ⟨w.heap.size, 1, none⟩) (by show w.heap.size < w2.heap.size; omega)).trans y1
  have u0 := (bb.frozen (p := ⟨w.heap.size, 0, none⟩) (by show w.heap.size < w2.heap.size; omega)).trans u0
  have u1 := (bb.frozen (p := ⟨w.heap.size, 1, none⟩) (by show w.heap.size < w2.heap.size; omega)).trans u1
  have m0 := (b3.cell (p := ⟨w2.heap.size, 0, none⟩) (by simp)).trans m0
  have m1 := (b3.cell (p := ⟨w2.heap.size, 1, none⟩) (by simp)).trans m1
  have q3 := next q2 bb
  have hs3' : w3.heap.size = w2.heap.size + 2 := by rw [hs3]; simp
  simp only [World.size_alloc] at hls
  simp only [World.size_alloc]
  clear c2 h3 q2 bA b3 bb hs3
  go_wp2_with fail
  refine (below_any _ _ _ c3 (by omega)).mono ?_
  rintro e w4 ⟨x, rfl, hx0, hx1, c4, g4⟩
  obtain ⟨k, rfl⟩ := Int.eq_ofNat_of_zero_le hx0
  have hk : k < 15 := by have := hx1 (by omega); omega
  have hki : (k : Int) < 15 := by omega
  have hkn : knowns.getD k 0 ∈ knowns := by
    have e : knowns.length = 15 := rfl
    rw [List.getD_eq_getElem?_getD, List.getElem?_eq_getElem (by omega)]
    exact List.getElem_mem _
  have n4 := far_cell (hls k hk) g4 (by omega)
  obtain ⟨num, hnum⟩ : ∃ n, knowns.getD k 0 = n := ⟨_, rfl⟩
  rw [hnum] at n4 hkn
  have y0 := far_cell y0 g4 (by omega)
  have y1 := far_cell y1 g4 (by omega)
  have u0 := far_froz u0 (by omega) g4 (by omega)
  have u1 := far_froz u1 (by omega) g4 (by omega)
  have m0 := far_cell m0 g4 (by omega)
  have m1 := far_cell m1 g4 (by omega)
  have h4 := flds_far h3' g4 (fun x hx => by have := HB.out x hx; omega)
  have q4 : Below w.heap.size w w4 := q3.grown g4 q3.size (fun k hk => by cases hk; omega)
  have s4 := g4.size
  clear hls c3 h3' q3 g4 hnum hx0 hx1
  go_wp2_with fail
  refine (once_any _ _ _ c4 (by omega)).mono ?_
  rintro e w5 ⟨q, rfl, c5, g5⟩
  have y0 := far_cell y0 g5 (by omega)
  have y1 := far_cell y1 g5 (by omega)
  have u0 := far_froz u0 (by omega) g5 (by omega)
  have u1 := far_froz u1 (by omega) g5 (by omega)
  have m0 := far_cell m0 g5 (by omega)
  have m1 := far_cell m1 g5 (by omega)
  have h5 := flds_far h4 g5 (fun x hx => by have := HB.out x hx; omega)
  have q5 : Below w.heap.size w w5 := q4.grown g5 q4.size (fun k hk => by cases hk; omega)
  have s5 := g5.size
  have H5 : Hid (FldsAt w5 ao fs) := h5
  have Q5 : Hid (Below w.heap.size w w5) := q5
  have C5 : Hid (Cursor (w.heap.size + 1 + 1) w5 (w.heap.size + 1)) := c5
  have H1 : Hid _ := h1
  have H2 : Hid _ := h2
  have HKN : Hid (num ∈ knowns) := hkn
  have Y5 : Hid _ := And.intro y0 (And.intro y1 (And.intro u0 (And.intro u1 (And.intro m0 m1))))
  clear c4 h4 q4 g5 n4 h5 q5 c5 h1 h2 hkn hk hki
  cases q
  all_goals
    go_upto_region 6 with fail
    go_region_with (go_at_call 16; refine (dataW_any _ _ _ (by first | exact C5.out | exact cursor_below C5.out (Below.refl _ _).drew) (by first | exact .inl HKN.out | exact .inr rfl)).mono ?_; rintro e w6 ⟨d, rfl, hd, c6, g6'⟩; have g6 : w5.grownBy w6 (some (w.heap.size + 1)) := ⟨g6'.os, g6'.tape, g6'.output, g6'.size, g6'.block⟩; obtain ⟨a0, a1, f0, f1, e0, e1⟩ := Y5.out; have a0 := far_cell a0 g6 (by omega); have a1 := far_cell a1 g6 (by omega); have f0 := far_froz f0 (by omega) g6 (by omega); have f1 := far_froz f1 (by omega) g6 (by omega); have e0 := far_cell e0 g6 (by omega); have e1 := far_cell e1 g6 (by omega))
    all_goals
      have hf6 := flds_set (k := 1) (v := .slice ao fs.length c) (flds_set (k := 0) (v := .int .i64 kd) (flds_far H5.out g6 (fun x hx => by have := HB.out x hx; omega)) (b := w.heap.size) (fun x hx => by have := HB.out x hx; omega)) (b := w.heap.size) (fun x hx => by have := HB.out x hx; omega)
      have q6 : Below w.heap.size w w6 := Q5.out.grown g6 Q5.out.size (fun k hk => by cases hk; omega)
      have HQ : Hid _ := (q6.setCell (p := ⟨w.heap.size, 0, none⟩) (Nat.le_refl _) (.int .i64 kd)).setCell (p := ⟨w.heap.size, 1, none⟩) (Nat.le_refl _) (.slice ao fs.length c)
      have F0 : Hid _ := end0 (v1 := .slice ao fs.length c) a0 (.int .i64 kd)
      have F1 : Hid _ := end1 a1 (.int .i64 kd) (.slice ao fs.length c)
      have HF6 : Hid _ := hf6
      clear hf6 q6 c6 g6 g6'
      go_wp2
      have f0' := F0.out
      have f1' := F1.out
      refine bodyPost_ret (by simp [results, Try.results5, go_sem, f0', f1']; try rfl) rfl ?_
      exact ⟨kd, ao, c, fs, _, d, rfl, H1.out, H2.out, HF6.out, HG.out, hd, HQ.out⟩

end Go.Proofs.Ytggaadbcifbdeaa
