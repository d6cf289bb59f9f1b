import Derived.Test.YtpenkpiffdbdmaaGreatDoorKSSwT
/- The table of the acts' words, out of what the row lists; a message that comes in, its kind an int. -/
namespace Go.Proofs.YtpenkpiffdbdmaaGreatDoor
open Go.ChangeShapes Go.WideShapes Go.ChangeAt Go.RowKit
set_option maxRecDepth 100000
def wdL : List (List UInt8) := [[97, 115, 107], [103, 105, 118, 101], [99, 104, 97, 114, 103, 101], [97, 110, 115, 119, 101, 114], [115, 101, 99, 111, 110, 100], [97, 99, 99, 101, 112, 116], [114, 101, 102, 117, 115, 101], [114, 117, 108, 101], [101, 120, 112, 105, 114, 101], [99, 108, 111, 115, 101]]
def wdVals : Array Value := #[.string ⟨(nthW 0).toArray⟩, .string ⟨(nthW 1).toArray⟩, .string ⟨(nthW 2).toArray⟩, .string ⟨(nthW 3).toArray⟩, .string ⟨(nthW 4).toArray⟩, .string ⟨(nthW 5).toArray⟩, .string ⟨(nthW 6).toArray⟩, .string ⟨(nthW 7).toArray⟩, .string ⟨(nthW 8).toArray⟩, .string ⟨(nthW 9).toArray⟩]
/-- an array of texts that reads as the table holds the table's texts, cell for cell -/
theorem sw_cells {H : Type} {enc : TypeId × Value → H} {P : Program} {w : World} {base : Nat} {sp : Nat → Bool} {held : Bool} {fuel : Nat} {t e : TypeId} {n : Nat} {cs : List Value} {zs : List (List UInt8)} {p : List MemPlace}
    (ht : P.underlying t = some (.array n e)) (he : P.underlying e = some .string) (hce : P.cellsOf e = 1) (hct : P.cellsOf t = n)
    (h : DataW.trod enc P w base sp held fuel t cs = some (DataW.agg (zs.map fun z => .lit (.string z)), p)) : cs = zs.map fun z => Value.string ⟨z.toArray⟩ := by
  cases fuel with
  | zero => simp [DataW.trod] at h
  | succ fuel =>
    simp only [DataW.trod, ht, hce, hct, Nat.mul_one] at h
    split at h
    · rename_i hl
      obtain ⟨xs, hm, hx⟩ := Option.map_eq_some_iff.1 h
      have hxs : xs.map (·.1) = zs.map fun z => (DataW.lit (.string z) : DataW H) := by
        have := congrArg Prod.fst hx
        simpa using this
      have hxl : xs.length = n := by simpa using Lib.mapM_length hm
      have hzl : zs.length = n := by
        have := congrArg List.length hxs
        simp at this
        omega
      apply List.ext_getElem?
      intro i
      by_cases hi : i < n
      · obtain ⟨b, hb, hf⟩ := Lib.mapM_at hm i i (by simp [hi])
        obtain ⟨z, hc, rfl, _⟩ := DataW.trod_string he hf
        have h1 : cs[i]? = some (.string z) := by
          have := congrArg (·[0]?) hc
          simpa [List.getElem?_take, List.getElem?_drop] using this
        have h2 : (xs.map (·.1))[i]? = some (DataW.lit (.string z.data.toList) : DataW H) := by simp [hb]
        rw [hxs] at h2
        simp only [List.getElem?_map, Option.map_eq_some_iff, DataW.lit.injEq, Lit.string.injEq] at h2
        obtain ⟨z', hz', e⟩ := h2
        subst e
        simp [h1, hz']
      · rw [List.getElem?_eq_none (by omega), List.getElem?_eq_none (by simp; omega)]
    · cases h
def WordTab (w : World) : Prop := w.var? Tryz.prog "loop.example/g00126/impl.actWords" = some wdVals
theorem sw_keep {w w' : World} {n : String} {cs : Array Value} (h : w.var? Tryz.prog n = some cs) (hb : Below w.heap.size w w') : w'.var? Tryz.prog n = some cs := by
  unfold World.var? at *
  cases hg : Tryz.prog.globalNamed n with
  | none => simp [hg] at h
  | some g =>
    simp only [hg, Option.bind_some] at h ⊢
    have hlt : g < w.heap.size := by
      rcases Nat.lt_or_ge g w.heap.size with h' | h'
      · exact h'
      · rw [Array.getElem?_eq_none h'] at h; simp at h
    rw [hb.block g hlt]
    exact h
theorem WordTab.below {w w' : World} (h : WordTab w) (hb : Below w.heap.size w w') : WordTab w' := sw_keep h hb
theorem wd_g : Tryz.prog.globalNamed "loop.example/g00126/impl.actWords" = some 0 := by kernel_rfl
theorem wd_t : (Tryz.prog.globals[0]?).map (·.type) = some 88 := by kernel_rfl
theorem WordTab.cell {w : World} (h : WordTab w) (i : Nat) (hi : i < 10) : w.cell? ⟨0, i, none⟩ = some (.string ⟨(nthW i).toArray⟩) := by
  have := World.var?_cell wd_g h i
  rw [this]
  rcases (show i = 0 ∨ i = 1 ∨ i = 2 ∨ i = 3 ∨ i = 4 ∨ i = 5 ∨ i = 6 ∨ i = 7 ∨ i = 8 ∨ i = 9 by omega) with rfl | rfl | rfl | rfl | rfl | rfl | rfl | rfl | rfl | rfl <;> rfl
theorem wdEq : (Rows.laid_loop_example_g00126_impl_actWords : DataW Unit) = DataW.agg (wdL.map fun z => .lit (.string z)) := by kernel_rfl
theorem wd_head {rest : List (String × DataW Unit)} {w : World} (h : laidMet Tryz.prog (("loop.example/g00126/impl.actWords", Rows.laid_loop_example_g00126_impl_actWords) :: rest) w) : WordTab w := by
  rw [wdEq] at h
  obtain ⟨ps, ⟨g', t', cs, fuel, p, q, hg', ht', hvar, hd, _, _⟩, _⟩ := h
  obtain rfl := Option.some.inj (wd_g.symm.trans hg')
  obtain rfl := Option.some.inj (wd_t.symm.trans ht')
  unfold WordTab
  rw [hvar, show cs = wdVals from by
    have := sw_cells Tryz.underlying88 Tryz.underlying9 (by kernel_rfl) (by kernel_rfl) hd
    obtain ⟨l⟩ := cs
    simp only at this
    subst this
    rfl]
theorem one_vars {H : Type} {enc : TypeId × Value → H} {W W' : World} {gv : Nat} {tv : TypeId} {cs : Array Value} {fv : Nat} {dv : DataW H} {pv : List MemPlace}
    (hg : Tryz.prog.globalNamed "loop.example/g00126/impl.actWords" = some gv) (ht : (Tryz.prog.globals[gv]?).map (·.type) = some tv) (hvar : W.var? Tryz.prog "loop.example/g00126/impl.actWords" = some cs)
    (hd : DataW.trod enc Tryz.prog W 0 (fun _ => true) true fv tv cs.toList = some (dv, pv)) (hm : WordTab W) (hb : Below W.heap.size W W') :
    DataW.TrodVars enc Tryz.prog W' (fun b => decide (b < W.heap.size)) ["loop.example/g00126/impl.actWords"] [dv] (MemPlace.row ⟨gv, 0, none⟩ cs.size ++ pv) := by
  obtain rfl := Option.some.inj (wd_g.symm.trans hg)
  obtain rfl := Option.some.inj (wd_t.symm.trans ht)
  have hcs : cs = wdVals := by
    unfold WordTab at hm
    rw [hm] at hvar
    injection hvar with h
    exact h.symm
  subst hcs
  have hlt : ∀ x ∈ pv, x.block < W.heap.size := DataW.trod_lt fv _ _ _ hd
  obtain ⟨f', hd'⟩ := Below.trod laidOut (by kernel_rfl) (of_decide_eq_true (by kernel_rfl)) (v := .agg wdVals)
    (⟨fv, hd⟩ : DataW.Trod enc Tryz.prog W 0 (fun _ => true) true 88 (.agg wdVals) dv pv) hb hlt
  exact trodVars_mk1 hg ht (sw_keep hvar hb) hd'
theorem is_messageW {P : Program} {H : Type} {enc : TypeId × Value → H} {W : World} {r : Reach} {base : Nat} {t e : TypeId} {f0 f1 g0 g1 : Field} {v : Value} {d : DataW H} {p : List MemPlace}
    (ht : P.underlying t = some (.struct #[f0, f1])) (hc : P.cellsOf t = 2) (o0 : f0.offset = 0) (o1 : f1.offset = 1) (c0 : P.cellsOf f0.type = 1) (c1 : P.cellsOf f1.type = 1)
    (t0 : P.underlying f0.type = some (.int .i64)) (t1 : P.underlying f1.type = some (.slice e))
    (he : P.underlying e = some (.struct #[g0, g1])) (ce : P.cellsOf e = 2) (p0 : g0.offset = 0) (p1 : g1.offset = 1) (d0 : P.cellsOf g0.type = 1) (d1 : P.cellsOf g1.type = 1)
    (u0 : P.underlying g0.type = some (.int .i64)) (u1 : P.underlying g1.type = some .string)
    (hv : Value.okWide P W r base t v) (h : DataW.Trod enc P W 0 (fun _ => true) true t v d p) :
    ∃ n a cap fs, v = .agg #[.int .i64 n, .slice a (List.length fs) cap] ∧ (FldsAt W a fs ∧ FldsBd fs) ∧ wfI n := by
  obtain ⟨n, a, cap, fs, rfl, h1⟩ := is_message ht hc o0 o1 c0 c1 t0 t1 he ce p0 p1 d0 d1 u0 u1 hv h
  refine ⟨n, a, cap, fs, rfl, h1, ?_⟩
  obtain ⟨fuel, hf⟩ := h
  obtain ⟨y0, y1, m, _, hl, h0, _⟩ := trod_struct2 ht hf
  simp only [Value.cells] at hl h0
  simp [o0, c0] at h0
  obtain ⟨n', e0, _, hw⟩ := DataW.trod_int t0 h0
  simp at e0
  subst e0
  exact hw
end Go.Proofs.YtpenkpiffdbdmaaGreatDoor
