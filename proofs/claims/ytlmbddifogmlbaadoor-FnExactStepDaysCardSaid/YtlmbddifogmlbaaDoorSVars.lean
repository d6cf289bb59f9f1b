/- The table of the steps' days, as the rows list it, and behind a call. -/
import Derived.Test.YtlmbddifogmlbaaDoorCards
import Derived.Test.YtlmbddifogmlbaaDoorTie
import Derived.Test.YtlmbddifogmlbaaDoorBase
import Derived.Test.YtlmbddifogmlbaaDoorRStep
import Derived.LaidMore
import Derived.Deep.DeepHandedRow
import Derived.JoinedCond
import Derived.Lay
import Derived.SevenTiedAt
import Derived.Stop.Joined
import Derived.Stop.LaidErr
import Derived.Lib.LaidTab
import Derived.ChangeVars
namespace Go.Proofs.YtlmbddifogmlbaaDoor
open Go.ChangeShapes Go.WideShapes Go.ChangeAt Go.RowKit

theorem stepEq : (Rows.laid_loop_example_g00126_impl_stepDays : DataW Unit) = Lib.tabData .i64 stepL := by kernel_rfl
theorem step_g : Tryd.prog.globalNamed "loop.example/g00126/impl.stepDays" = some 0 := by kernel_rfl
theorem step_t : (Tryd.prog.globals[0]?).map (·.type) = some 26 := by kernel_rfl
theorem step_head {rest : List (String × DataW Unit)} {w : World} (h : laidMet Tryd.prog (("loop.example/g00126/impl.stepDays", Rows.laid_loop_example_g00126_impl_stepDays) :: rest) w) : StepTab w := by
  rw [stepEq] at h
  exact Lib.tabIs_of_head step_g step_t Tryd.underlying26 Tryd.underlying3 (by kernel_rfl) (by kernel_rfl) h

theorem var_keep {w w' : World} {n : String} {cs : Array Value} (h : w.var? Tryd.prog n = some cs) (hb : Below w.heap.size w w') : w'.var? Tryd.prog n = some cs := by
  unfold World.var? at *
  cases hg : Tryd.prog.globalNamed n with
  | none => simp [hg] at h
  | some g =>
    simp only [hg, Option.bind_some] at h ⊢
    have hlt : g < w.heap.size := by
      rcases Nat.lt_or_ge g w.heap.size with h' | h'
      · exact h'
      · rw [Array.getElem?_eq_none h'] at h; simp at h
    rw [hb.block g hlt]
    exact h

theorem step_vars {H : Type} {enc : TypeId × Value → H} {W W' : World} {gv : Nat} {tv : TypeId} {cs : Array Value} {fv : Nat} {dv : DataW H} {pv : List MemPlace}
    (hg : Tryd.prog.globalNamed "loop.example/g00126/impl.stepDays" = some gv) (ht : (Tryd.prog.globals[gv]?).map (·.type) = some tv) (hvar : W.var? Tryd.prog "loop.example/g00126/impl.stepDays" = some cs)
    (hd : DataW.trod enc Tryd.prog W 0 (fun _ => true) true fv tv cs.toList = some (dv, pv)) (hm : StepTab W) (hb : Below W.heap.size W W') :
    DataW.TrodVars enc Tryd.prog W' (fun b => decide (b < W.heap.size)) ["loop.example/g00126/impl.stepDays"] [dv] (MemPlace.row ⟨gv, 0, none⟩ cs.size ++ pv) := by
  obtain rfl := Option.some.inj (step_g.symm.trans hg)
  obtain rfl := Option.some.inj (step_t.symm.trans ht)
  have hcs : cs = (stepL.map fun z => Value.int .i64 z).toArray := by
    unfold StepTab Lib.TabIs at hm
    rw [hm] at hvar
    injection hvar with h
    exact h.symm
  subst hcs
  have hlt : ∀ x ∈ pv, x.block < W.heap.size := DataW.trod_lt fv _ _ _ hd
  obtain ⟨f', hd'⟩ := Below.trod laidOut (by kernel_rfl) (of_decide_eq_true (by kernel_rfl)) (v := .agg (stepL.map fun z => Value.int .i64 z).toArray)
    (⟨fv, by simpa [Value.cells, stepL] using hd⟩ : DataW.Trod enc Tryd.prog W 0 (fun _ => true) true 26 (.agg (stepL.map fun z => Value.int .i64 z).toArray) dv pv) hb hlt
  exact trodVars_mk1 hg ht (var_keep hvar hb) (by simpa [Value.cells, stepL] using hd')

end Go.Proofs.YtlmbddifogmlbaaDoor
