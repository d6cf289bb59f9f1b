/- The table of the months' days, as the rows list it, and behind a call. -/
import Derived.Test.YtddffpihacolkaaDoorCards
import Derived.Test.YtddffpihacolkaaDoorTie
import Derived.Test.YtddffpihacolkaaDoorBase
import Derived.Test.YtddffpihacolkaaDoorDCal
import Derived.LaidMore
import Derived.Deep.DeepHandedRow
import Derived.JoinedCond
import Derived.Lay
import Derived.SevenTiedAt
import Derived.Stop.Joined
import Derived.Stop.LaidErr
import Derived.Lib.LaidTab
import Derived.ChangeVars
namespace Go.Proofs.YtddffpihacolkaaDoor
open Go.ChangeShapes Go.WideShapes Go.ChangeAt Go.RowKit

theorem monthEq : (Rows.laid_loop_example_g00126_impl_monthDays : DataW Unit) = Lib.tabData .i64 mdays := by kernel_rfl
theorem month_g : Tryd.prog.globalNamed "loop.example/g00126/impl.monthDays" = some 1 := by kernel_rfl
theorem month_t : (Tryd.prog.globals[1]?).map (·.type) = some 63 := by kernel_rfl
theorem month_head {rest : List (String × DataW Unit)} {w : World} (h : laidMet Tryd.prog (("loop.example/g00126/impl.monthDays", Rows.laid_loop_example_g00126_impl_monthDays) :: rest) w) : MonthTab w := by
  rw [monthEq] at h
  exact Lib.tabIs_of_head month_g month_t Tryd.underlying63 Tryd.underlying3 (by kernel_rfl) (by kernel_rfl) h

theorem var_keep {w w' : World} {n : String} {cs : Array Value} (h : w.var? Tryd.prog n = some cs) (hb : Below w.heap.size w w') : w'.var? Tryd.prog n = some cs := by
  unfold World.var? at *
  cases hg : Tryd.prog.globalNamed n with
  | none => simp [hg] at h
  | some g =>
    simp only [hg, Option.bind_some] at h ⊢
    have hlt : g < w.heap.size := by
      rcases Nat.lt_or_ge g w.heap.size with h' | h'
      · exact h'
      · rw [Array.getElem?_eq_none h'] at h; simp at h
    rw [hb.block g hlt]
    exact h

theorem month_vars {H : Type} {enc : TypeId × Value → H} {W W' : World} {gv : Nat} {tv : TypeId} {cs : Array Value} {fv : Nat} {dv : DataW H} {pv : List MemPlace}
    (hg : Tryd.prog.globalNamed "loop.example/g00126/impl.monthDays" = some gv) (ht : (Tryd.prog.globals[gv]?).map (·.type) = some tv) (hvar : W.var? Tryd.prog "loop.example/g00126/impl.monthDays" = some cs)
    (hd : DataW.trod enc Tryd.prog W 0 (fun _ => true) true fv tv cs.toList = some (dv, pv)) (hm : MonthTab W) (hb : Below W.heap.size W W') :
    DataW.TrodVars enc Tryd.prog W' (fun b => decide (b < W.heap.size)) ["loop.example/g00126/impl.monthDays"] [dv] (MemPlace.row ⟨gv, 0, none⟩ cs.size ++ pv) := by
  obtain rfl := Option.some.inj (month_g.symm.trans hg)
  obtain rfl := Option.some.inj (month_t.symm.trans ht)
  have hcs : cs = (mdays.map fun z => Value.int .i64 z).toArray := by
    unfold MonthTab Lib.TabIs at hm
    rw [hm] at hvar
    injection hvar with h
    exact h.symm
  subst hcs
  have hlt : ∀ x ∈ pv, x.block < W.heap.size := DataW.trod_lt fv _ _ _ hd
  obtain ⟨f', hd'⟩ := Below.trod laidOut (by kernel_rfl) (of_decide_eq_true (by kernel_rfl)) (v := .agg (mdays.map fun z => Value.int .i64 z).toArray)
    (⟨fv, by simpa [Value.cells, mdays] using hd⟩ : DataW.Trod enc Tryd.prog W 0 (fun _ => true) true 63 (.agg (mdays.map fun z => Value.int .i64 z).toArray) dv pv) hb hlt
  exact trodVars_mk1 hg ht (var_keep hvar hb) (by simpa [Value.cells, mdays] using hd')

end Go.Proofs.YtddffpihacolkaaDoor
