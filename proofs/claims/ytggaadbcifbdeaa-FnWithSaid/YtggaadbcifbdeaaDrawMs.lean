/- What is drawn as a message, whatever the bytes. -/
import Derived.Test.YtggaadbcifbdeaaDrawMd
import Derived.Test.YtggaadbcifbdeaaMsgOwn
import Derived.Deep.AppendLies
import Derived.Deep.RegionLaw
namespace Go.Proofs.Ytggaadbcifbdeaa
open Go.RowKit

theorem step_app_own {P : Program} {ops : Array Oper} {o : Oper} {a : Act} {w : World} {K : Act → World → Prop} {Q : Exit → Act → World → Prop} {E : Prop}
    (hg : o.guard = none) (s x : Operand) (t : TypeId) (ho : o.op = Op.call { callee := Callee.builtin Builtin.append, args := #[s, x], argTypes := #[t, t] })
    (base : Nat) (e : TypeId) (i : TypeInfo) (z : Value) (size bytes : Nat) (ht : P.underlying t = some (.slice e)) (hi : P.info? e = some i) (hz : i.zero = some z)
    (hsize : i.size = size) (hby : i.bytes = bytes) (hzs : z.cells.size = size) (hsz : 0 < size)
    (v : Value) (n : Nat) (xs : List Value) (hs : a.eval s = v) (hown : w.ownsRow base e size v n xs)
    (ad : Addr) (m c : Nat) (news : List Value) (hx : a.eval x = .slice (some ad) m c) (hl : news.length = m * size) (hnews : ∀ j u, news[j]? = some u → w.cell? (ad.add j) = some u) (h1 : ∀ u ∈ news, u.oneCell' = true)
    (h63 : n + m ≤ maxLen) (hbytes : (n + m) * bytes ≤ 140737488355328) (hbase : base ≤ w.heap.size)
    (h : ∀ v' w', w'.ownsRow base e size v' (n + m) (xs ++ news) → w.grownBy w' v.ownBlock → (v' = .slice none 0 0 ↔ v = .slice none 0 0 ∧ m = 0) → K (a.put o.dst v') w') :
    if Region.wanted o (yielded ops a.tmps) = true then Oper.wp P o a w K Q else E := by
  rw [if_pos (by simp [Region.wanted, hg])]
  exact wp_append_own w s x t ho base e i z size bytes ht hi hz hsize hby hzs hsz v n xs hs hown ad m c news hx hl hnews h1 h63 hbytes hbase h
theorem curM_app {B : Nat} {g : Nat} {w w4 : World} {o : Obj} {row : Option Nat} (c3 : Cursor B w g) (hg4 : (w.alloc o).grownBy w4 row) (h : ∀ j, row = some j → B ≤ j) : Cursor B w4 g :=
  cursor_keep c3 (((Below.refl _ w).alloc (cursor_bd c3).2 _).grown hg4 (by have := (cursor_bd c3).2; simp; omega) h)
theorem ownM_ne {w : World} {base g n : Nat} {v : Value} {xs : List Value} (h : w.ownsRow base 35 2 v n xs) (hg : g < base) : v.ownBlock = none ∨ v.ownBlock ≠ some g := by
  right; intro e; have := (h.lt g e).1; omega
theorem oneM (n : Int) (s : List UInt8) : ∀ u ∈ [Value.int .i64 n, .string ⟨s.toArray⟩], u.oneCell' = true := by
  intro u hu
  simp at hu
  rcases hu with rfl | rfl <;> rfl
theorem mem_snocM {fs : List Fld} {x : Fld} {m : Nat} (h : ∀ f ∈ fs, f.2.length ≤ m) (hx : x.2.length ≤ m) : ∀ f ∈ fs ++ [x], f.2.length ≤ m := by
  intro f hf
  rcases List.mem_append.1 hf with h1 | h1
  · exact h f h1
  · obtain rfl : f = x := by simpa using h1
    exact hx
/-- a block's cells under a draw that moves only the cursor -/
theorem far_cell {w w' : World} {g b o : Nat} {v : Value} (h : w.cell? ⟨b, o, none⟩ = some v) (hg : w.grownBy w' (some g)) (hb : b ≠ g) : w'.cell? ⟨b, o, none⟩ = some v := hg.cell (a := ⟨b, o, none⟩) h (by simpa using hb)
theorem far_froz {w w' : World} {g b o : Nat} (h : w.frozen? ⟨b, o, none⟩ = false) (hl : b < w.heap.size) (hg : w.grownBy w' (some g)) (hb : b ≠ g) : w'.frozen? ⟨b, o, none⟩ = false := (hg.frozen_far ⟨b, o, none⟩ hl (by simpa using hb)).trans h

set_option maxRecDepth 100000 in
set_option maxHeartbeats 800000 in
theorem numsM_any (w : World) :
    Calls Try.prog 13 #[] w fun e w' => e = .returned (.slice (some ⟨w.heap.size, 0, none⟩) 15 15) ∧ (∀ i, i < 15 → w'.cell? ⟨w.heap.size, i, none⟩ = some (.int .i64 (knowns.getD i 0))) ∧ Below w.heap.size w w' ∧ w'.heap.size = w.heap.size + 1 ∧ w.grownBy w' none := by
  have hz := lit_cells w knowns #[.int .i64 2, .int .i64 3, .int .i64 4, .int .i64 12, .int .i64 24, .int .i64 25, .int .i64 31, .int .i64 37, .int .i64 38, .int .i64 42, .int .i64 48, .int .i64 49, .int .i64 71, .int .i64 72, .int .i64 93] rfl
  go_enter Try.func13, Try.ntmps13
  go_wp2
  go_ret
  exact ⟨rfl, fun i hi => hz i hi, by go_grown, by simp, grown_alloc _ _ _⟩

/-- what such a draw hands back -/
def DrewM (B g : Nat) (w : World) (e : Ending) (w' : World) : Prop :=
  ∃ (kd : Int) (ao : Option Addr) (c : Nat) (fs : List Fld), e = .returned (.agg #[.int .i64 kd, .slice ao fs.length c]) ∧ fs.length ≤ 16 ∧ (∀ f ∈ fs, f.2.length ≤ 999) ∧ FldsAt w' ao fs ∧ Cursor B w' g ∧ w.grownBy w' (some g) ∧ (∀ x, ao = some x → g < x.block) ∧ w'.ownsRow w.heap.size 35 2 (.slice ao fs.length c) fs.length (fcells fs)

theorem two_cells {W : World} {x y : Value} {b : Nat} (h0 : W.cell? ⟨b, 0, none⟩ = some x) (h1 : W.cell? ⟨b, 1, none⟩ = some y) : ∀ (j : Nat) (u : Value), [x, y][j]? = some u → W.cell? ((⟨b, 0, none⟩ : Addr).add j) = some u := by
  intro j u h
  match j with
  | 0 => simp at h; subst h; simpa [Addr.add] using h0
  | 1 => simp at h; subst h; simpa [Addr.add] using h1
  | j + 2 => simp at h
/-- what stands while a message is drawn: the result's box M, the message's box T, the numbers L, the fields in a row of their own, the cursor -/
structure MI (B g M T L base : Nat) (w : World) (kd : Int) (va : Option Addr) (vc : Nat) (fs : List Fld) (wr : World) : Prop where
  a0 : wr.cell? ⟨M, 0, none⟩ = some (.int .i64 0)
  a1 : wr.cell? ⟨M, 1, none⟩ = some (.slice none 0 0)
  z0 : wr.frozen? ⟨M, 0, none⟩ = false
  z1 : wr.frozen? ⟨M, 1, none⟩ = false
  t0 : wr.cell? ⟨T, 0, none⟩ = some (.int .i64 kd)
  t1 : wr.cell? ⟨T, 1, none⟩ = some (.slice va fs.length vc)
  y0 : wr.frozen? ⟨T, 0, none⟩ = false
  y1 : wr.frozen? ⟨T, 1, none⟩ = false
  ls : ∀ i, i < 15 → wr.cell? ⟨L, i, none⟩ = some (.int .i64 (knowns.getD i 0))
  ow : wr.ownsRow base 35 2 (.slice va fs.length vc) fs.length (fcells fs)
  cu : Cursor B wr g
  gr : w.grownBy wr (some g)
  sz : base ≤ wr.heap.size
theorem MI.draw {B g M T L base : Nat} {w : World} {kd : Int} {va : Option Addr} {vc : Nat} {fs : List Fld} {wr w5 : World} (h : MI B g M T L base w kd va vc fs wr) (hM : g < M) (hT : g < T) (hL : g < L) (hb : g < base) (hg : wr.grownBy w5 (some g)) (hc : Cursor B w5 g) : MI B g M T L base w kd va vc fs w5 :=
  ⟨far_cell h.a0 hg (by omega), far_cell h.a1 hg (by omega), far_froz h.z0 (World.block_lt_of_cell? wr _ h.a0) hg (by omega), far_froz h.z1 (World.block_lt_of_cell? wr _ h.a0) hg (by omega), far_cell h.t0 hg (by omega), far_cell h.t1 hg (by omega),
    far_froz h.y0 (World.block_lt_of_cell? wr _ h.t0) hg (by omega), far_froz h.y1 (World.block_lt_of_cell? wr _ h.t0) hg (by omega), fun i hi => far_cell (h.ls i hi) hg (by omega), h.ow.kept hg (ownM_ne h.ow hb), hc, h.gr.trans hg, Nat.le_trans h.sz hg.size⟩
end Go.Proofs.Ytggaadbcifbdeaa
