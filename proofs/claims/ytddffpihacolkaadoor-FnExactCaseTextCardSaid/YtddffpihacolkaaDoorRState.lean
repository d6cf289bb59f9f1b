/- Chapter 9: StateText, the program's and the specification's; the table of the states' texts, as the row lists it, and behind a call. -/
import Derived.Test.YtddffpihacolkaaDoorCards
import Derived.Test.YtddffpihacolkaaDoorTie
import Derived.Test.YtddffpihacolkaaDoorBase
import Derived.Test.YtddffpihacolkaaDoorICaseOk
import Derived.Test.YtddffpihacolkaaDoorSCaseOk
import Derived.LaidMore
import Derived.Deep.DeepHandedRow
import Derived.JoinedCond
import Derived.Lay
import Derived.SevenTiedAt
import Derived.Stop.Joined
import Derived.Stop.LaidErr
import Derived.Lib.LaidTab
import Derived.Lib.AppendIntMem
import Derived.ChangeVars
namespace Go.Proofs.YtddffpihacolkaaDoor
open Go.ChangeShapes Go.WideShapes Go.ChangeAt Go.RowKit
set_option maxRecDepth 100000

def stL : List (List UInt8) := [[111, 112, 101, 110], [97, 115, 107, 101, 100], [103, 105, 118, 101, 110], [99, 104, 97, 114, 103, 101, 100], [97, 110, 115, 119, 101, 114, 101, 100], [115, 101, 99, 111, 110, 100], [114, 117, 108, 105, 110, 103], [99, 108, 111, 115, 101, 100]]
def stAt (k : Nat) : ByteArray := ⟨(stL.getD k []).toArray⟩
/-- a state's text; the empty one for another -/
def stV (x : Int) : ByteArray := if stOk x = true then stAt x.toNat else ⟨#[]⟩
def stVals : Array Value := #[.string (stAt 0), .string (stAt 1), .string (stAt 2), .string (stAt 3), .string (stAt 4), .string (stAt 5), .string (stAt 6), .string (stAt 7)]

/-- an array of texts that reads as the table holds the table's texts, cell for cell -/
theorem cells_of_texts {H : Type} {enc : TypeId × Value → H} {P : Program} {w : World} {base : Nat} {sp : Nat → Bool} {held : Bool} {fuel : Nat} {t e : TypeId} {n : Nat} {cs : List Value} {zs : List (List UInt8)} {p : List MemPlace}
    (ht : P.underlying t = some (.array n e)) (he : P.underlying e = some .string) (hce : P.cellsOf e = 1) (hct : P.cellsOf t = n)
    (h : DataW.trod enc P w base sp held fuel t cs = some (DataW.agg (zs.map fun z => .lit (.string z)), p)) : cs = zs.map fun z => Value.string ⟨z.toArray⟩ := by
  cases fuel with
  | zero => simp [DataW.trod] at h
  | succ fuel =>
    simp only [DataW.trod, ht, hce, hct, Nat.mul_one] at h
    split at h
    · rename_i hl
      obtain ⟨xs, hm, hx⟩ := Option.map_eq_some_iff.1 h
      have hxs : xs.map (·.1) = zs.map fun z => (DataW.lit (.string z) : DataW H) := by
        have := congrArg Prod.fst hx
        simpa using this
      have hxl : xs.length = n := by simpa using Lib.mapM_length hm
      have hzl : zs.length = n := by
        have := congrArg List.length hxs
        simp at this
        omega
      apply List.ext_getElem?
      intro i
      by_cases hi : i < n
      · obtain ⟨b, hb, hf⟩ := Lib.mapM_at hm i i (by simp [hi])
        obtain ⟨z, hc, rfl, _⟩ := DataW.trod_string he hf
        have h1 : cs[i]? = some (.string z) := by
          have := congrArg (·[0]?) hc
          simpa [List.getElem?_take, List.getElem?_drop] using this
        have h2 : (xs.map (·.1))[i]? = some (DataW.lit (.string z.data.toList) : DataW H) := by simp [hb]
        rw [hxs] at h2
        simp only [List.getElem?_map, Option.map_eq_some_iff, DataW.lit.injEq, Lit.string.injEq] at h2
        obtain ⟨z', hz', e⟩ := h2
        subst e
        simp [h1, hz']
      · rw [List.getElem?_eq_none (by omega), List.getElem?_eq_none (by simp; omega)]
    · cases h

def StateTab (w : World) : Prop := w.var? Tryd.prog "loop.example/g00126/impl.stateTexts" = some stVals
theorem state_keep {w w' : World} {n : String} {cs : Array Value} (h : w.var? Tryd.prog n = some cs) (hb : Below w.heap.size w w') : w'.var? Tryd.prog n = some cs := by
  unfold World.var? at *
  cases hg : Tryd.prog.globalNamed n with
  | none => simp [hg] at h
  | some g =>
    simp only [hg, Option.bind_some] at h ⊢
    have hlt : g < w.heap.size := by
      rcases Nat.lt_or_ge g w.heap.size with h' | h'
      · exact h'
      · rw [Array.getElem?_eq_none h'] at h; simp at h
    rw [hb.block g hlt]
    exact h
theorem StateTab.below {w w' : World} (h : StateTab w) (hb : Below w.heap.size w w') : StateTab w' := state_keep h hb
theorem state_g : Tryd.prog.globalNamed "loop.example/g00126/impl.stateTexts" = some 0 := by kernel_rfl
theorem state_t : (Tryd.prog.globals[0]?).map (·.type) = some 47 := by kernel_rfl
theorem StateTab.cell {w : World} (h : StateTab w) (i : Nat) (hi : i < 8) : w.cell? ⟨0, i, none⟩ = some (.string (stAt i)) := by
  have := World.var?_cell state_g h i
  rw [this]
  rcases below8 hi with rfl | rfl | rfl | rfl | rfl | rfl | rfl | rfl <;> rfl
theorem stateEq : (Rows.laid_loop_example_g00126_impl_stateTexts : DataW Unit) = DataW.agg (stL.map fun z => .lit (.string z)) := by kernel_rfl
theorem state_head {rest : List (String × DataW Unit)} {w : World} (h : laidMet Tryd.prog (("loop.example/g00126/impl.stateTexts", Rows.laid_loop_example_g00126_impl_stateTexts) :: rest) w) : StateTab w := by
  rw [stateEq] at h
  obtain ⟨ps, ⟨g', t', cs, fuel, p, q, hg', ht', hvar, hd, _, _⟩, _⟩ := h
  obtain rfl := Option.some.inj (state_g.symm.trans hg')
  obtain rfl := Option.some.inj (state_t.symm.trans ht')
  unfold StateTab
  rw [hvar, show cs = stVals from by
    have := cells_of_texts Tryd.underlying47 Tryd.underlying9 (by kernel_rfl) (by kernel_rfl) hd
    obtain ⟨l⟩ := cs
    simp only at this
    subst this
    rfl]
theorem state_vars {H : Type} {enc : TypeId × Value → H} {W W' : World} {gv : Nat} {tv : TypeId} {cs : Array Value} {fv : Nat} {dv : DataW H} {pv : List MemPlace}
    (hg : Tryd.prog.globalNamed "loop.example/g00126/impl.stateTexts" = some gv) (ht : (Tryd.prog.globals[gv]?).map (·.type) = some tv) (hvar : W.var? Tryd.prog "loop.example/g00126/impl.stateTexts" = some cs)
    (hd : DataW.trod enc Tryd.prog W 0 (fun _ => true) true fv tv cs.toList = some (dv, pv)) (hm : StateTab W) (hb : Below W.heap.size W W') :
    DataW.TrodVars enc Tryd.prog W' (fun b => decide (b < W.heap.size)) ["loop.example/g00126/impl.stateTexts"] [dv] (MemPlace.row ⟨gv, 0, none⟩ cs.size ++ pv) := by
  obtain rfl := Option.some.inj (state_g.symm.trans hg)
  obtain rfl := Option.some.inj (state_t.symm.trans ht)
  have hcs : cs = stVals := by
    unfold StateTab at hm
    rw [hm] at hvar
    injection hvar with h
    exact h.symm
  subst hcs
  have hlt : ∀ x ∈ pv, x.block < W.heap.size := DataW.trod_lt fv _ _ _ hd
  obtain ⟨f', hd'⟩ := Below.trod laidOut (by kernel_rfl) (of_decide_eq_true (by kernel_rfl)) (v := .agg stVals)
    (⟨fv, hd⟩ : DataW.Trod enc Tryd.prog W 0 (fun _ => true) true 47 (.agg stVals) dv pv) hb hlt
  exact trodVars_mk1 hg ht (state_keep hvar hb) hd'

set_option maxHeartbeats 1600000 in
theorem iState_any (x : Int) (w : World) (ht : StateTab w) :
    Calls Tryd.prog 15 #[.int .i64 x] w fun e w' => e = .returned (.string (stV x)) ∧ w' = w := by
  cases h : stOk x
  · have HV : Hid (stV x = ⟨#[]⟩) := if_neg (by rw [h]; decide)
    clear ht
    go_enter Tryd.func15, Tryd.ntmps15
    go_wp2_with fail
    refine (iStOk_any x _).mono ?_
    rintro e w1 ⟨rfl, hw⟩
    rw [hw, h]
    clear hw
    go_wp2
    go_ret
    exact ⟨one_str HV.out.symm, rfl⟩
  · have hb : 0 ≤ x ∧ x ≤ 7 := of_decide_eq_true h
    obtain ⟨k, hk, rfl⟩ : ∃ k : Nat, k < 8 ∧ x = (k : Int) := ⟨x.toNat, by omega, by omega⟩
    have hc := ht.cell k hk
    have HV : Hid (stV (k : Int) = stAt k) := by rw [Hid, stV, if_pos h]; rfl
    obtain ⟨v, hv⟩ : ∃ v, stAt k = v := ⟨_, rfl⟩
    rw [hv] at hc HV
    clear ht hv
    go_enter Tryd.func15, Tryd.ntmps15
    go_wp2_with fail
    refine (iStOk_any _ _).mono ?_
    rintro e w1 ⟨rfl, hw⟩
    rw [hw, h]
    clear hw
    go_wp2
    go_ret
    exact ⟨one_str HV.out.symm, rfl⟩
set_option maxHeartbeats 1600000 in
theorem sState_any (x : Int) (w : World) :
    Calls Tryd.prog 9 #[.int .i64 x] w fun e w' => e = .returned (.string (stV x)) ∧ Below w.heap.size w w' := by
  cases h : inB x 0 7
  · have HV : Hid (stV x = ⟨#[]⟩) := if_neg (by rw [show stOk x = false from h]; decide)
    go_enter Tryd.func9, Tryd.ntmps9
    go_wp2_with fail
    refine (in_is h _).mono ?_
    rintro e w1 ⟨rfl, hw⟩
    rw [hw]
    clear hw
    go_wp2
    go_ret
    exact ⟨one_str HV.out.symm, Below.refl _ _⟩
  · have hb : 0 ≤ x ∧ x ≤ 7 := of_decide_eq_true h
    obtain ⟨k, hk, rfl⟩ : ∃ k : Nat, k < 8 ∧ x = (k : Int) := ⟨x.toNat, by omega, by omega⟩
    have HV : Hid (stV (k : Int) = stAt k) := by rw [Hid, stV, if_pos (show stOk (k : Int) = true from h)]; rfl
    have HB : Hid (Below w.heap.size w (w.alloc (.cells stVals 9))) := (Below.refl _ _).alloc (Nat.le_refl _) _
    have hc : (w.alloc (.cells stVals 9)).cell? ⟨w.heap.size, k, none⟩ = some (.string (stAt k)) := by
      rcases below8 hk with rfl | rfl | rfl | rfl | rfl | rfl | rfl | rfl <;> simp [stVals]
    obtain ⟨v, hv⟩ : ∃ v, stAt k = v := ⟨_, rfl⟩
    rw [hv] at hc HV
    unfold stVals stAt stL at HB hc
    simp only [List.getD_cons_zero, List.getD_cons_succ] at HB hc
    clear hv
    go_enter Tryd.func9, Tryd.ntmps9
    go_wp2_with fail
    refine (in_is h _).mono ?_
    rintro e w1 ⟨rfl, hw⟩
    rw [hw]
    clear hw
    go_wp2
    go_ret
    exact ⟨one_str HV.out.symm, HB.out⟩

end Go.Proofs.YtddffpihacolkaaDoor
