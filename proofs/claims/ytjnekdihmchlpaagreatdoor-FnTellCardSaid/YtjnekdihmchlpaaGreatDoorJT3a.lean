import Derived.Test.YtjnekdihmchlpaaGreatDoorKTLnLaw2
import Derived.Test.YtjnekdihmchlpaaGreatDoorRows
import Derived.Test.YtjnekdihmchlpaaGreatDoorCards
import Derived.Test.YtjnekdihmchlpaaGreatDoorTie
import Derived.Test.YtjnekdihmchlpaaGreatDoorKTBase
import Derived.Test.YtjnekdihmchlpaaGreatDoorKTICaseOk
import Derived.Test.YtjnekdihmchlpaaGreatDoorKTSCaseOk
import Derived.LaidMore
import Derived.Deep.DeepHandedRow
import Derived.JoinedCond
import Derived.Lay
import Derived.SevenTiedAt
import Derived.Stop.Joined
import Derived.Stop.LaidErr
import Derived.Lib.LaidTab
import Derived.Lib.AppendIntMem
import Derived.ChangeVars
/- The laws' own functions over slices of entries: how much one takes, its copy, whether two are the same, marks in one's own. -/
namespace Go.Proofs.YtjnekdihmchlpaaGreatDoor
open Go.RowKit
set_option maxRecDepth 100000
def ecell (x : En) : List Value := [.int .i64 x.1, .int .i64 x.2.1, .int .i64 x.2.2.1, .int .i64 x.2.2.2]
def ecells (es : List En) : List Value := es.flatMap ecell
theorem ecells_cons (x : En) (r : List En) : ecells (x :: r) = .int .i64 x.1 :: .int .i64 x.2.1 :: .int .i64 x.2.2.1 :: .int .i64 x.2.2.2 :: ecells r := rfl
theorem ecells_len (es : List En) : (ecells es).length = es.length * 4 := by
  induction es with
  | nil => rfl
  | cons f r ih => rw [ecells_cons]; simp [ih]; omega
theorem ecells_at (es : List En) : ∀ k, k < es.length → (ecells es)[k * 4]? = some (.int .i64 (enAt es k).1) ∧ (ecells es)[k * 4 + 1]? = some (.int .i64 (enAt es k).2.1) ∧ (ecells es)[k * 4 + 2]? = some (.int .i64 (enAt es k).2.2.1) ∧ (ecells es)[k * 4 + 3]? = some (.int .i64 (enAt es k).2.2.2) := by
  induction es with
  | nil => intro k h; simp at h
  | cons f r ih =>
    intro k h
    rw [ecells_cons]
    cases k with
    | zero => exact ⟨rfl, rfl, rfl, rfl⟩
    | succ k =>
      have := ih k (by simpa using h)
      rw [show (k + 1) * 4 = k * 4 + 1 + 1 + 1 + 1 by omega]
      simp only [List.getElem?_cons_succ]
      exact this
theorem ecells_set (es : List En) (x : En) : ∀ k, k < es.length → ((((ecells es).set (k * 4) (.int .i64 x.1)).set (k * 4 + 1) (.int .i64 x.2.1)).set (k * 4 + 2) (.int .i64 x.2.2.1)).set (k * 4 + 3) (.int .i64 x.2.2.2) = ecells (es.set k x) := by
  induction es with
  | nil => intro k h; simp at h
  | cons g r ih =>
    intro k h
    rw [ecells_cons]
    cases k with
    | zero => rfl
    | succ k =>
      have := ih k (by simpa using h)
      rw [show (k + 1) * 4 = k * 4 + 1 + 1 + 1 + 1 by omega]
      simp only [List.set_cons_succ]
      rw [this]
      rfl
theorem ents_of_own {w : World} {base n : Nat} {t : TypeId} {v : Value} {es : List En} (h : w.ownsRow base t 4 v n (ecells es)) : ∃ ao cap, v = .slice ao es.length cap ∧ EntsAt w ao es ∧ n = es.length := by
  have hn : n = es.length := by have := h.1; rw [ecells_len] at this; omega
  subst hn
  rcases h.2 with ⟨rfl, hn⟩ | ⟨g, cap, cur, rfl, _⟩
  · have : es = [] := List.eq_nil_of_length_eq_zero hn
    subst this
    exact ⟨none, 0, rfl, .inl rfl, rfl⟩
  · refine ⟨_, cap, rfl, ?_, rfl⟩
    by_cases h0 : es = []
    · exact .inl h0
    · refine .inr ⟨g, 0, rfl, (h.lt g rfl).2, fun i hi => ?_⟩
      have := ecells_at es i hi
      rw [Nat.zero_add, h.cellAt (i * 4) (by omega), h.cellAt (i * 4 + 1) (by omega), h.cellAt (i * 4 + 2) (by omega), h.cellAt (i * 4 + 3) (by omega)]
      exact this
theorem ents_any {w : World} {base n : Nat} {t : TypeId} {ao : Option Addr} {cap : Nat} {es : List En} (h : w.ownsRow base t 4 (.slice ao es.length cap) n (ecells es)) : EntsAt w ao es := by
  obtain ⟨ao', cap', hv, hf, _⟩ := ents_of_own h
  obtain ⟨rfl, _⟩ : ao = ao' ∧ cap = cap' := by simpa using hv
  exact hf
theorem take_enAt (es : List En) (k : Nat) (h : k < es.length) : es.take (k + 1) = es.take k ++ [enAt es k] := by rw [List.take_succ_eq_append_getElem h, enAt_is h]
/-- what a copy holds behind k rounds -/
def halfE (es : List En) (k : Nat) : List En := es.take k ++ List.replicate (es.length - k) (0, 0, 0, 0)
theorem halfE_all (es : List En) : halfE es es.length = es := by simp [halfE]
theorem halfE_len (es : List En) (k : Nat) (h : k ≤ es.length) : (halfE es k).length = es.length := by simp [halfE]; omega
theorem halfE_succ (es : List En) (k : Nat) (h : k < es.length) : (halfE es k).set k (enAt es k) = halfE es (k + 1) := by
  unfold halfE
  rw [List.set_append, if_neg (by simp; omega), List.length_take, Nat.min_eq_left (Nat.le_of_lt h), Nat.sub_self, show es.length - k = es.length - (k + 1) + 1 by omega, List.replicate_succ, List.set_cons_zero, take_enAt es k h, List.append_assoc]
  rfl
theorem halfE_at (es : List En) (k : Nat) (h : k < es.length) : enAt (halfE es k) k = (0, 0, 0, 0) := by
  simp [enAt, halfE, List.getD_eq_getElem?_getD, List.getElem?_append, Nat.min_eq_left (Nat.le_of_lt h), List.getElem?_replicate]
  split <;> rfl
theorem infoE : (Tryz.prog.info? 134).map (fun i => (i.zero, i.size, i.bytes)) = some (some (.agg #[.int .i64 0, .int .i64 0, .int .i64 0, .int .i64 0]), 4, 32) := by kernel_rfl
theorem cells_repE (m : Nat) : (madeCells (Value.agg #[.int .i64 0, .int .i64 0, .int .i64 0, .int .i64 0]).cells (m * 4)).toList = ecells (List.replicate m (0, 0, 0, 0)) := by
  apply List.ext_getElem?
  intro j
  by_cases hj : j < m * 4
  · have hq : j / 4 < (List.replicate m ((0 : Int), (0 : Int), (0 : Int), (0 : Int))).length := by simp; omega
    have ha : enAt (List.replicate m ((0 : Int), (0 : Int), (0 : Int), (0 : Int))) (j / 4) = (0, 0, 0, 0) := by
      simp [enAt, List.getD_eq_getElem?_getD, List.getElem?_replicate]; split <;> rfl
    have h := ecells_at _ _ hq
    rw [ha] at h
    have hl : (madeCells (Value.agg #[.int .i64 0, .int .i64 0, .int .i64 0, .int .i64 0]).cells (m * 4)).toList[j]? = some ((#[Value.int .i64 0, .int .i64 0, .int .i64 0, .int .i64 0] : Array Value)[j % 4]!) := by
      simp [madeCells, hj, Value.cells]
    rcases (show j % 4 = 0 ∨ j % 4 = 1 ∨ j % 4 = 2 ∨ j % 4 = 3 by omega) with e | e | e | e
    · rw [hl, e, show j = j / 4 * 4 by omega, h.1]; rfl
    · rw [hl, e, show j = j / 4 * 4 + 1 by omega, h.2.1]; rfl
    · rw [hl, e, show j = j / 4 * 4 + 2 by omega, h.2.2.1]; rfl
    · rw [hl, e, show j = j / 4 * 4 + 3 by omega, h.2.2.2]; rfl
  · rw [List.getElem?_eq_none (by rw [Array.length_toList, size_madeCells]; omega), List.getElem?_eq_none (by rw [ecells_len]; simp; omega)]
end Go.Proofs.YtjnekdihmchlpaaGreatDoor
/- Chapter 9: StateText, the program's and the specification's; the table of the states' texts, as the row lists it, and behind a call. -/
namespace Go.Proofs.YtjnekdihmchlpaaGreatDoor
open Go.ChangeShapes Go.WideShapes Go.ChangeAt Go.RowKit
set_option maxRecDepth 100000
def stL : List (List UInt8) := [[111, 112, 101, 110], [97, 115, 107, 101, 100], [103, 105, 118, 101, 110], [99, 104, 97, 114, 103, 101, 100], [97, 110, 115, 119, 101, 114, 101, 100], [115, 101, 99, 111, 110, 100], [114, 117, 108, 105, 110, 103], [99, 108, 111, 115, 101, 100]]
def stAt (k : Nat) : ByteArray := ⟨(stL.getD k []).toArray⟩
/-- a state's text; the empty one for another -/
def stV (x : Int) : ByteArray := if stOk x = true then stAt x.toNat else ⟨#[]⟩
def stVals : Array Value := #[.string (stAt 0), .string (stAt 1), .string (stAt 2), .string (stAt 3), .string (stAt 4), .string (stAt 5), .string (stAt 6), .string (stAt 7)]
/-- an array of texts that reads as the table holds the table's texts, cell for cell -/
theorem cells_of_texts {H : Type} {enc : TypeId × Value → H} {P : Program} {w : World} {base : Nat} {sp : Nat → Bool} {held : Bool} {fuel : Nat} {t e : TypeId} {n : Nat} {cs : List Value} {zs : List (List UInt8)} {p : List MemPlace}
    (ht : P.underlying t = some (.array n e)) (he : P.underlying e = some .string) (hce : P.cellsOf e = 1) (hct : P.cellsOf t = n)
    (h : DataW.trod enc P w base sp held fuel t cs = some (DataW.agg (zs.map fun z => .lit (.string z)), p)) : cs = zs.map fun z => Value.string ⟨z.toArray⟩ := by
  cases fuel with
  | zero => simp [DataW.trod] at h
  | succ fuel =>
    simp only [DataW.trod, ht, hce, hct, Nat.mul_one] at h
    split at h
    · rename_i hl
      obtain ⟨xs, hm, hx⟩ := Option.map_eq_some_iff.1 h
      have hxs : xs.map (·.1) = zs.map fun z => (DataW.lit (.string z) : DataW H) := by
        have := congrArg Prod.fst hx
        simpa using this
      have hxl : xs.length = n := by simpa using Lib.mapM_length hm
      have hzl : zs.length = n := by
        have := congrArg List.length hxs
        simp at this
        omega
      apply List.ext_getElem?
      intro i
      by_cases hi : i < n
      · obtain ⟨b, hb, hf⟩ := Lib.mapM_at hm i i (by simp [hi])
        obtain ⟨z, hc, rfl, _⟩ := DataW.trod_string he hf
        have h1 : cs[i]? = some (.string z) := by
          have := congrArg (·[0]?) hc
          simpa [List.getElem?_take, List.getElem?_drop] using this
        have h2 : (xs.map (·.1))[i]? = some (DataW.lit (.string z.data.toList) : DataW H) := by simp [hb]
        rw [hxs] at h2
        simp only [List.getElem?_map, Option.map_eq_some_iff, DataW.lit.injEq, Lit.string.injEq] at h2
        obtain ⟨z', hz', e⟩ := h2
        subst e
        simp [h1, hz']
      · rw [List.getElem?_eq_none (by omega), List.getElem?_eq_none (by simp; omega)]
    · cases h
def StateTab (w : World) : Prop := w.var? Tryz.prog "loop.example/g00126/impl.stateTexts" = some stVals
theorem state_keep {w w' : World} {n : String} {cs : Array Value} (h : w.var? Tryz.prog n = some cs) (hb : Below w.heap.size w w') : w'.var? Tryz.prog n = some cs := by
  unfold World.var? at *
  cases hg : Tryz.prog.globalNamed n with
  | none => simp [hg] at h
  | some g =>
    simp only [hg, Option.bind_some] at h ⊢
    have hlt : g < w.heap.size := by
      rcases Nat.lt_or_ge g w.heap.size with h' | h'
      · exact h'
      · rw [Array.getElem?_eq_none h'] at h; simp at h
    rw [hb.block g hlt]
    exact h
theorem StateTab.below {w w' : World} (h : StateTab w) (hb : Below w.heap.size w w') : StateTab w' := state_keep h hb
theorem state_g : Tryz.prog.globalNamed "loop.example/g00126/impl.stateTexts" = some 0 := by kernel_rfl
theorem state_t : (Tryz.prog.globals[0]?).map (·.type) = some 80 := by kernel_rfl
theorem StateTab.cell {w : World} (h : StateTab w) (i : Nat) (hi : i < 8) : w.cell? ⟨0, i, none⟩ = some (.string (stAt i)) := by
  have := World.var?_cell state_g h i
  rw [this]
  rcases below8 hi with rfl | rfl | rfl | rfl | rfl | rfl | rfl | rfl <;> rfl
theorem stateEq : (Rows.laid_loop_example_g00126_impl_stateTexts : DataW Unit) = DataW.agg (stL.map fun z => .lit (.string z)) := by kernel_rfl
theorem state_head {rest : List (String × DataW Unit)} {w : World} (h : laidMet Tryz.prog (("loop.example/g00126/impl.stateTexts", Rows.laid_loop_example_g00126_impl_stateTexts) :: rest) w) : StateTab w := by
  rw [stateEq] at h
  obtain ⟨ps, ⟨g', t', cs, fuel, p, q, hg', ht', hvar, hd, _, _⟩, _⟩ := h
  obtain rfl := Option.some.inj (state_g.symm.trans hg')
  obtain rfl := Option.some.inj (state_t.symm.trans ht')
  unfold StateTab
  rw [hvar, show cs = stVals from by
    have := cells_of_texts Tryz.underlying80 Tryz.underlying9 (by kernel_rfl) (by kernel_rfl) hd
    obtain ⟨l⟩ := cs
    simp only at this
    subst this
    rfl]
theorem state_vars {H : Type} {enc : TypeId × Value → H} {W W' : World} {gv : Nat} {tv : TypeId} {cs : Array Value} {fv : Nat} {dv : DataW H} {pv : List MemPlace}
    (hg : Tryz.prog.globalNamed "loop.example/g00126/impl.stateTexts" = some gv) (ht : (Tryz.prog.globals[gv]?).map (·.type) = some tv) (hvar : W.var? Tryz.prog "loop.example/g00126/impl.stateTexts" = some cs)
    (hd : DataW.trod enc Tryz.prog W 0 (fun _ => true) true fv tv cs.toList = some (dv, pv)) (hm : StateTab W) (hb : Below W.heap.size W W') :
    DataW.TrodVars enc Tryz.prog W' (fun b => decide (b < W.heap.size)) ["loop.example/g00126/impl.stateTexts"] [dv] (MemPlace.row ⟨gv, 0, none⟩ cs.size ++ pv) := by
  obtain rfl := Option.some.inj (state_g.symm.trans hg)
  obtain rfl := Option.some.inj (state_t.symm.trans ht)
  have hcs : cs = stVals := by
    unfold StateTab at hm
    rw [hm] at hvar
    injection hvar with h
    exact h.symm
  subst hcs
  have hlt : ∀ x ∈ pv, x.block < W.heap.size := DataW.trod_lt fv _ _ _ hd
  obtain ⟨f', hd'⟩ := Below.trod laidOut (by kernel_rfl) (of_decide_eq_true (by kernel_rfl)) (v := .agg stVals)
    (⟨fv, hd⟩ : DataW.Trod enc Tryz.prog W 0 (fun _ => true) true 80 (.agg stVals) dv pv) hb hlt
  exact trodVars_mk1 hg ht (state_keep hvar hb) hd'
set_option maxHeartbeats 1600000 in
theorem iState_any (x : Int) (w : World) (ht : StateTab w) :
    Calls Tryz.prog 15 #[.int .i64 x] w fun e w' => e = .returned (.string (stV x)) ∧ w' = w := by
  cases h : stOk x
  · have HV : Hid (stV x = ⟨#[]⟩) := if_neg (by rw [h]; decide)
    clear ht
    go_enter Tryz.func15, Tryz.ntmps15
    go_wp2_with fail
    refine (iStOk_any x _).mono ?_
    rintro e w1 ⟨rfl, hw⟩
    rw [hw, h]
    clear hw
    go_wp2
    go_ret
    exact ⟨one_str HV.out.symm, rfl⟩
  · have hb : 0 ≤ x ∧ x ≤ 7 := of_decide_eq_true h
    obtain ⟨k, hk, rfl⟩ : ∃ k : Nat, k < 8 ∧ x = (k : Int) := ⟨x.toNat, by omega, by omega⟩
    have hc := ht.cell k hk
    have HV : Hid (stV (k : Int) = stAt k) := by rw [Hid, stV, if_pos h]; rfl
    obtain ⟨v, hv⟩ : ∃ v, stAt k = v := ⟨_, rfl⟩
    rw [hv] at hc HV
    clear ht hv
    go_enter Tryz.func15, Tryz.ntmps15
    go_wp2_with fail
    refine (iStOk_any _ _).mono ?_
    rintro e w1 ⟨rfl, hw⟩
    rw [hw, h]
    clear hw
    go_wp2
    go_ret
    exact ⟨one_str HV.out.symm, rfl⟩
set_option maxHeartbeats 1600000 in
theorem sState_any (x : Int) (w : World) :
    Calls Tryz.prog 29 #[.int .i64 x] w fun e w' => e = .returned (.string (stV x)) ∧ Below w.heap.size w w' := by
  cases h : inB x 0 7
  · have HV : Hid (stV x = ⟨#[]⟩) := if_neg (by rw [show stOk x = false from h]; decide)
    go_enter Tryz.func29, Tryz.ntmps29
    go_wp2_with fail
    refine (in_is h _).mono ?_
    rintro e w1 ⟨rfl, hw⟩
    rw [hw]
    clear hw
    go_wp2
    go_ret
    exact ⟨one_str HV.out.symm, Below.refl _ _⟩
  · have hb : 0 ≤ x ∧ x ≤ 7 := of_decide_eq_true h
    obtain ⟨k, hk, rfl⟩ : ∃ k : Nat, k < 8 ∧ x = (k : Int) := ⟨x.toNat, by omega, by omega⟩
    have HV : Hid (stV (k : Int) = stAt k) := by rw [Hid, stV, if_pos (show stOk (k : Int) = true from h)]; rfl
    have HB : Hid (Below w.heap.size w (w.alloc (.cells stVals 9))) := (Below.refl _ _).alloc (Nat.le_refl _) _
    have hc : (w.alloc (.cells stVals 9)).cell? ⟨w.heap.size, k, none⟩ = some (.string (stAt k)) := by
      rcases below8 hk with rfl | rfl | rfl | rfl | rfl | rfl | rfl | rfl <;> simp [stVals]
    obtain ⟨v, hv⟩ : ∃ v, stAt k = v := ⟨_, rfl⟩
    rw [hv] at hc HV
    unfold stVals stAt stL at HB hc
    simp only [List.getD_cons_zero, List.getD_cons_succ] at HB hc
    clear hv
    go_enter Tryz.func29, Tryz.ntmps29
    go_wp2_with fail
    refine (in_is h _).mono ?_
    rintro e w1 ⟨rfl, hw⟩
    rw [hw]
    clear hw
    go_wp2
    go_ret
    exact ⟨one_str HV.out.symm, HB.out⟩
end Go.Proofs.YtjnekdihmchlpaaGreatDoor
