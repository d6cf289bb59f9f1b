/- Bytes that lie in a block of one's own, from its head on: cuts of it, copies into it, its text. -/
import Derived.Test.YtggaadbcifbdeaaFileP
import Derived.Test.YtggaadbcifbdeaaFBytes
import Derived.Lib.SlBuf
import Derived.Laws.CopyOwn
import Derived.Deep.RegionLaw
namespace Go.Proofs.Ytggaadbcifbdeaa
open Go.RowKit
set_option maxRecDepth 100000

/-- block g of w holds the bytes l from its head on, and they may be written -/
structure Row (w : World) (g : Nat) (l : List UInt8) : Prop where
  cell : ∀ j x, l[j]? = some x → w.cell? ⟨g, j, none⟩ = some (.int .u8 (x.toNat : Int))
  free : ∀ j, j < l.length → w.frozen? ⟨g, j, none⟩ = false
  lt : g < w.heap.size
theorem Row.below {w w' : World} {g : Nat} {l : List UInt8} (h : Row w g l) (hb : Below w.heap.size w w') : Row w' g l :=
  ⟨fun j x hx => (hb.cell (p := ⟨g, j, none⟩) h.lt).trans (h.cell j x hx), fun j hj => (hb.frozen (p := ⟨g, j, none⟩) h.lt).trans (h.free j hj), Nat.lt_of_lt_of_le h.lt hb.size⟩
theorem Row.keep {w w' : World} {g B : Nat} {l : List UInt8} (h : Row w g l) (hb : Below B w w') (hg : g < B) : Row w' g l :=
  ⟨fun j x hx => (hb.cell (p := ⟨g, j, none⟩) hg).trans (h.cell j x hx), fun j hj => (hb.frozen (p := ⟨g, j, none⟩) hg).trans (h.free j hj), Nat.lt_of_lt_of_le h.lt hb.size⟩
theorem Row.at {w : World} {g : Nat} {l : List UInt8} (h : Row w g l) {k : Nat} (hk : k < l.length) : w.cell? ⟨g, k, none⟩ = some (.int .u8 ((l.getD k 0).toNat : Int)) := by
  refine h.cell k _ ?_
  rw [List.getD_eq_getElem?_getD, List.getElem?_eq_getElem hk]; rfl

theorem add_at (g o j : Nat) : (⟨g, o, none⟩ : Addr).add j = ⟨g, o + j, none⟩ := by unfold Addr.add; split <;> simp_all
theorem size8 (w : World) : (sizeOf 5).run Try.prog w = .ok 1 w := by
  obtain ⟨i0, hi, hz0, hz1, hz2⟩ := info_parts info5
  simp [sizeOf, typeInfo, hi, hz1]
theorem elem8 : Try.prog.elem 22 = 5 := by simp [Program.elem, Try.underlying22]
theorem under8 : Try.prog.underlying 22 = some (.slice (Try.prog.elem 22)) := by rw [elem8]; exact Try.underlying22
theorem one8 : (Try.prog.info? 5).map (·.size) = some 1 := by kernel_rfl

/-- cuts of a slice, by one name each -/
theorem sl_l {g o n c : Nat} {x : Int} (k : Nat) (hx : x = k) (hk : k ≤ n) (hc : k < c) (W : World) :
    (Instr.slice 22 (.slice (some ⟨g, o, none⟩) n c) (some (.int .i64 x)) none none).run Try.prog W = .ok (.slice (some ⟨g, o + k, none⟩) (n - k) (c - k)) W := by
  subst hx
  rw [run_slice_l W _ _ _ _ under8 .i64 _ (by omega) (by omega), elem8, size8]
  simp [Result.andThen, sliced, add_at, show ¬ c = k by omega]
theorem sl_h {g o n c : Nat} {x : Int} (k : Nat) (hx : x = k) (hk : k ≤ c) (hc : 0 < c) (W : World) :
    (Instr.slice 22 (.slice (some ⟨g, o, none⟩) n c) none (some (.int .i64 x)) none).run Try.prog W = .ok (.slice (some ⟨g, o, none⟩) k c) W := by
  subst hx
  rw [run_slice_h W _ _ _ _ under8 .i64 _ (by omega) (by omega), elem8, size8]
  simp [Result.andThen, sliced, add_at, show ¬ c = 0 by omega]
theorem sl_lh {g o n c : Nat} {x y : Int} (k m : Nat) (hx : x = k) (hy : y = m) (hk : k ≤ m) (hm : m ≤ c) (hc : k < c) (W : World) :
    (Instr.slice 22 (.slice (some ⟨g, o, none⟩) n c) (some (.int .i64 x)) (some (.int .i64 y)) none).run Try.prog W = .ok (.slice (some ⟨g, o + k, none⟩) (m - k) (c - k)) W := by
  subst hx; subst hy
  rw [run_slice_lh W _ _ _ _ under8 .i64 .i64 _ _ (by omega) (by omega) (by omega), elem8, size8]
  simp [Result.andThen, sliced, add_at, show ¬ c = k by omega]
theorem sl_lhm {g o n c : Nat} {x y z : Int} (k m q : Nat) (hx : x = k) (hy : y = m) (hz : z = q) (hk : k ≤ m) (hm : m ≤ q) (hq : q ≤ c) (hc : k < q) (W : World) :
    (Instr.slice 22 (.slice (some ⟨g, o, none⟩) n c) (some (.int .i64 x)) (some (.int .i64 y)) (some (.int .i64 z))).run Try.prog W = .ok (.slice (some ⟨g, o + k, none⟩) (m - k) (q - k)) W := by
  subst hx; subst hy; subst hz
  rw [run_slice_lhm W _ _ _ _ under8 .i64 .i64 .i64 _ _ _ (by omega) (by omega) (by omega) (by omega), elem8, size8]
  simp [Result.andThen, sliced, add_at, show ¬ q = k by omega]
theorem sl_hm {g o n c : Nat} {y z : Int} (m q : Nat) (hy : y = m) (hz : z = q) (hm : m ≤ q) (hq : q ≤ c) (hc : 0 < q) (W : World) :
    (Instr.slice 22 (.slice (some ⟨g, o, none⟩) n c) none (some (.int .i64 y)) (some (.int .i64 z))).run Try.prog W = .ok (.slice (some ⟨g, o, none⟩) m q) W := by
  subst hy; subst hz
  rw [run_slice_hm W _ _ _ _ under8 .i64 .i64 _ _ (by omega) (by omega) (by omega), elem8, size8]
  simp [Result.andThen, sliced, add_at, show ¬ q = 0 by omega]

/-- the text of bytes that lie anywhere -/
theorem text_at {w : World} {g o c : Nat} {l : List UInt8} (h : ∀ j x, l[j]? = some x → w.cell? ⟨g, o + j, none⟩ = some (.int .u8 (x.toNat : Int))) :
    (convert 22 9 (.slice (some ⟨g, o, none⟩) l.length c)).run Try.prog w = .ok (.string ⟨l.toArray⟩) w := by
  refine run_convert_bytes_back w _ _ _ _ _ _ Try.underlying22 Try.underlying5 Try.underlying9 fun j hj => ?_
  rw [add_at]
  exact h j _ (List.getElem?_eq_getElem hj)

/-- copy into such bytes -/
theorem run_copy_into {w : World} {g o dLen dCap : Nat} {l cs : List UInt8} {a : Addr} {sLen sCap : Nat} (ty : TypeId) (hr : Row w g l) (hn : cs.length = Nat.min sLen dLen) (hfit : o + cs.length ≤ l.length)
    (hsrc : ∀ j x, cs[j]? = some x → w.cell? (a.add j) = some (.int .u8 (x.toNat : Int))) :
    ∃ w', (Builtin.copy_ #[22, 22] ty #[.slice (some ⟨g, o, none⟩) dLen dCap, .slice (some a) sLen sCap]).run Try.prog w = .ok (.int .i64 (cs.length : Int)) w' ∧ Row w' g (splice l o cs) ∧ Below g w w' := by
  have hget : ∀ j, j < l.length → (w.cell? ⟨g, j, none⟩).isSome = true := fun j hj => by rw [hr.cell j _ (List.getElem?_eq_getElem hj)]; rfl
  have hl : (cs.map fun x => Value.int .u8 (x.toNat : Int)).length = cs.length := List.length_map ..
  have hrun := run_copy_cells (P := Try.prog) w 22 22 ty 5 g o dLen dCap a sLen sCap (cs.map fun x => Value.int .u8 (x.toNat : Int)) Try.underlying22 one8 (by rw [hl]; exact hn)
    (fun j u hj => by
      rw [List.getElem?_map] at hj
      obtain ⟨x, hx, rfl⟩ := Option.map_eq_some_iff.1 hj
      exact hsrc j x hx)
    (fun j hj => by rw [hl] at hj; exact hget _ (by omega)) (fun j hj => by rw [hl] at hj; exact hr.free _ (by omega))
    (fun u hu' => by obtain ⟨x, _, rfl⟩ := List.mem_map.1 hu'; rfl)
  rw [hl] at hrun
  have hbel : Below g w (w.setCells g o (cs.map fun x => Value.int .u8 (x.toNat : Int))) := Lib.below_setCells g (Nat.le_refl _) _ _ (Below.refl _ _)
  have hin := World.cell?_setCells_in g (cs.map fun x => Value.int .u8 (x.toNat : Int)) o w (fun j hj => by rw [hl] at hj; exact hget _ (by omega))
  have hout := World.cell?_setCells_out g (cs.map fun x => Value.int .u8 (x.toNat : Int)) o w
  have hsl := length_splice l o cs hfit
  refine ⟨_, hrun, ⟨fun j x hx => ?_, fun j hj => ?_, Nat.lt_of_lt_of_le hr.lt hbel.size⟩, hbel⟩
  · have hj : j < l.length := by rw [← hsl]; exact (List.getElem?_eq_some_iff.1 hx).1
    by_cases h1 : j < o
    · rw [hout ⟨g, j, none⟩ (fun _ _ => Or.inl h1)]
      refine hr.cell j x ?_
      rw [← hx, splice, List.getElem?_append_left (by rw [List.length_take]; omega), List.getElem?_take, if_pos h1]
    · by_cases h2 : j < o + cs.length
      · obtain ⟨d, rfl⟩ : ∃ d, j = o + d := ⟨j - o, by omega⟩
        rw [hin d (by rw [hl]; omega)]
        rw [splice, List.getElem?_append_right (by rw [List.length_take]; omega), List.length_take, Nat.min_eq_left (by omega), Nat.add_sub_cancel_left, List.getElem?_append_left (by omega)] at hx
        simp [List.getElem_map, (List.getElem?_eq_some_iff.1 hx).2]
      · rw [hout ⟨g, j, none⟩ (fun _ _ => Or.inr (by rw [hl]; show o + cs.length ≤ j; omega))]
        refine hr.cell j x ?_
        rw [splice, List.getElem?_append_right (by rw [List.length_take]; omega), List.length_take, Nat.min_eq_left (by omega), List.getElem?_append_right (by omega), List.getElem?_drop] at hx
        rw [← hx]; congr 1; omega
  · rw [World.frozen?_setCells]
    exact hr.free j (by rw [← hsl]; exact hj)

theorem step_copy_row {ops : Array Oper} {o : Oper} {a : Act} {w : World} {K : Act → World → Prop} {Q : Exit → Act → World → Prop} {E : Prop} (hgd : o.guard = none) (d s : Operand)
    (ho : o.op = .call { callee := .builtin .copy, args := #[d, s], argTypes := #[22, 22] }) (g off dLen dCap : Nat) (l cs : List UInt8) (ad : Addr) (sLen sCap : Nat)
    (hd : a.eval d = .slice (some ⟨g, off, none⟩) dLen dCap) (hs : a.eval s = .slice (some ad) sLen sCap) (hr : Row w g l) (hn : cs.length = Nat.min sLen dLen) (hfit : off + cs.length ≤ l.length)
    (hsrc : ∀ j x, cs[j]? = some x → w.cell? (ad.add j) = some (.int .u8 (x.toNat : Int)))
    (h : ∀ w', Row w' g (splice l off cs) → Below g w w' → K (a.put o.dst (.int .i64 (cs.length : Int))) w') :
    if Region.wanted o (yielded ops a.tmps) = true then Oper.wp Try.prog o a w K Q else E := by
  rw [if_pos (by simp [Region.wanted, hgd])]
  obtain ⟨w', hrun, h1, h2⟩ := run_copy_into o.type hr hn hfit hsrc (dLen := dLen) (dCap := dCap) (sCap := sCap)
  exact Lib.wp_copy_run w d s _ _ ho _ _ hd hs hrun (h w' h1 h2)

/-- a row that one owns is such a row -/
theorem row_of_own {w : World} {base n g c : Nat} {l : List UInt8} (h : w.ownsRow base 5 1 (.slice (some ⟨g, 0, none⟩) n c) n (l.map cell)) : Row w g l := by
  have hl : l.length = n := by simpa using h.1
  subst hl
  refine ⟨fun j x hx => ?_, fun j _ => h.frozenAt j, (h.lt g rfl).2⟩
  have hj := (List.getElem?_eq_some_iff.1 hx).1
  rw [h.cellAt j (by omega), List.getElem?_map, hx]; rfl

/-- bytes that can be read at a slice -/
def BytesIn (w : World) (v : Value) (l : List UInt8) : Prop := ∃ g o c, v = .slice (some ⟨g, o, none⟩) l.length c ∧ l.length ≤ c ∧ g < w.heap.size ∧ ∀ j x, l[j]? = some x → w.cell? ⟨g, o + j, none⟩ = some (.int .u8 (x.toNat : Int))

end Go.Proofs.Ytggaadbcifbdeaa
