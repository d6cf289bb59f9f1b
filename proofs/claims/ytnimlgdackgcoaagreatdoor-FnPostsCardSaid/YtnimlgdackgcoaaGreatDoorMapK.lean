/- Maps whose keys are structs of account and currency: how a key reads; amounts by account and currency. -/
import Derived.Test.YtnimlgdackgcoaaGreatDoorBase
import Derived.Test.YtnimlgdackgcoaaGreatDoorLns
import Derived.Test.YtnimlgdackgcoaaGreatDoorPostP
import Derived.DeepKeys4
import Derived.Maps.OwnSet
import Derived.Maps.RangeWalk
import Derived.WideKeyEntry
namespace Go.Proofs.YtnimlgdackgcoaaGreatDoor
open Go.RowKit Go.Maps
set_option maxRecDepth 100000

/-- what a key of an account and a currency reads as -/
def keyL (a c : Int) : Lit := .string (keyBytes [.int .i64 a, .int .i64 c])
section
variable {P : Program} {k : TypeId} {f0 f1 : Field}
theorem keyOf_mkP {n : Nat} (hu : P.underlying k = some (.struct #[f0, f1])) (hkt : P.keyType k = true) (ck : P.cellsOf k = 2) (o0 : f0.offset = 0) (o1 : f1.offset = 1) (n0 : (f0.name != "_") = true) (n1 : (f1.name != "_") = true)
    (c0 : P.cellsOf f0.type = 1) (c1 : P.cellsOf f1.type = 1) (u0 : P.underlying f0.type = some (.int .i64)) (u1 : P.underlying f1.type = some (.int .i64)) (hn : P.types.size = n + 1) {a c : Int} (ha : wf64 a) (hc : wf64 c) : keyOf P k (.agg #[.int .i64 a, .int .i64 c]) = some (keyL a c) := by
  have ha' : (Lit.int .i64 a).wf = true := ha
  have hc' : (Lit.int .i64 c).wf = true := hc
  simp only [bne_iff_ne, ne_eq] at n0 n1
  simp [keyOf, hu, hkt, Value.formed, ck, hn, Program.keyLits, Value.cells, o0, o1, c0, c1, u0, u1, n0, n1, ha', hc', keyL]
theorem keyLits_int {d : Nat} {t : TypeId} (u0 : P.underlying t = some (.int .i64)) {u : Value} {l : List Lit} (h : P.keyLits (d + 1) t [u] = some l) : ∃ x, u = .int .i64 x ∧ l = [.int .i64 x] ∧ wf64 x := by
  cases u <;> simp [Program.keyLits, u0] at h
  obtain ⟨⟨rfl, hw⟩, rfl⟩ := h
  exact ⟨_, rfl, rfl, hw⟩
theorem keyOf_invP {n : Nat} (hu : P.underlying k = some (.struct #[f0, f1])) (hkt : P.keyType k = true) (ck : P.cellsOf k = 2) (o0 : f0.offset = 0) (o1 : f1.offset = 1)
    (c0 : P.cellsOf f0.type = 1) (c1 : P.cellsOf f1.type = 1) (u0 : P.underlying f0.type = some (.int .i64)) (u1 : P.underlying f1.type = some (.int .i64)) (hn : P.types.size = n + 1) {key : Value} {kl : Lit} (h : keyOf P k key = some kl) :
    ∃ a c, key = .agg #[.int .i64 a, .int .i64 c] ∧ kl = keyL a c ∧ wf64 a ∧ wf64 c := by
  cases key <;> simp [keyOf, hu, hkt, Value.formed, ck] at h
  rename_i cs
  obtain ⟨l⟩ := cs
  obtain ⟨hl, ls, hk, rfl⟩ := h
  match l, hl with
  | [u, v], _ =>
    rw [hn] at hk
    unfold Program.keyLits at hk
    simp only [hu] at hk
    split at hk
    · simp only [List.mapM_cons, List.mapM_nil, o0, o1, c0, c1, List.drop_zero] at hk
      have e1 : (List.take 1 (Value.agg { toList := [u, v] }).cells.toList) = [u] := rfl
      have e2 : (List.take 1 (List.drop 1 (Value.agg { toList := [u, v] }).cells.toList)) = [v] := rfl
      rw [e1, e2] at hk
      cases h0 : P.keyLits (n + 1) f0.type [u] with
      | none => rw [h0] at hk; cases hk
      | some l0 =>
        cases h1 : P.keyLits (n + 1) f1.type [v] with
        | none => rw [h0, h1] at hk; cases hk
        | some l1 =>
          rw [h0, h1] at hk
          have hk' : ([l0, l1] : List (List Lit)).flatten = ls := by simpa using hk
          obtain ⟨x, rfl, rfl, hx⟩ := keyLits_int u0 h0
          obtain ⟨y, rfl, rfl, hy⟩ := keyLits_int u1 h1
          exact ⟨x, y, rfl, by rw [← hk']; rfl, hx, hy⟩
    · cases hk
end

theorem rowK : (56 : TypeId) < Tryz.prog.types.size := of_decide_eq_true (by kernel_rfl)
theorem cellsK : Tryz.prog.cellsOf 56 = 2 := by kernel_rfl
theorem deepK : Tryz.prog.keyType 56 = true := by kernel_rfl
theorem wideK : (match Tryz.prog.underlying 56 with | some (.array _ _) | some (.struct _) => true | _ => false) = true := by kernel_rfl
theorem klawK : WideMaps.KeyLaw Tryz.prog 56 := deep_law_laid laidOut (m := 3) (by omega) rowK (by kernel_rfl) wideK
theorem lawK : Keyed Tryz.prog 56 := Keyed.of_law klawK
theorem cells3 : Tryz.prog.cellsOf 3 = 1 := by kernel_rfl
theorem typesN : ∃ n, Tryz.prog.types.size = n + 1 := ⟨Tryz.prog.types.size - 1, (Nat.succ_pred_eq_of_pos (Nat.lt_of_le_of_lt (Nat.zero_le _) rowK)).symm⟩
theorem keyOf_ac {a c : Int} (ha : wf64 a) (hc : wf64 c) : keyOf Tryz.prog 56 (.agg #[.int .i64 a, .int .i64 c]) = some (keyL a c) :=
  let ⟨_, hn⟩ := typesN
  keyOf_mkP Tryz.underlying56 deepK cellsK rfl rfl (by decide) (by decide) cells3 cells3 Tryz.underlying3 Tryz.underlying3 hn ha hc
theorem keyOf_inv {key : Value} {kl : Lit} (h : keyOf Tryz.prog 56 key = some kl) : ∃ a c, key = .agg #[.int .i64 a, .int .i64 c] ∧ kl = keyL a c ∧ wf64 a ∧ wf64 c :=
  let ⟨_, hn⟩ := typesN
  keyOf_invP Tryz.underlying56 deepK cellsK rfl rfl cells3 cells3 Tryz.underlying3 Tryz.underlying3 hn h
theorem keyL_inj {a c a' c' : Int} (ha : wf64 a) (hc : wf64 c) (ha' : wf64 a') (hc' : wf64 c') (h : keyL a c = keyL a' c') : a = a' ∧ c = c' := by
  have := lawK.inj (keyOf_ac ha hc) (h ▸ keyOf_ac ha' hc')
  simpa using this

/-- block b is a map of at most n entries that holds just these amounts by account and currency -/
def MapF (w : World) (b n : Nat) (f : Int → Int → Option Int) : Prop :=
  ∃ D : DataW Unit, w.ownsMap Tryz.prog 56 (plainElem (H := Unit) Tryz.prog 3) b n D ∧
    (∀ a c, wf64 a → wf64 c → Maps.has D (keyL a c) = (f a c).isSome ∧ D.atKey (keyL a c) (.lit (.int .i64 0)) = .lit (.int .i64 ((f a c).getD 0))) ∧ ∀ a c, f a c ≠ none → wf64 a ∧ wf64 c
theorem keyL_is (a c : Int) : WideAt.IsKeyLit (keyL a c) := trivial
theorem viewF_put {D : DataW Unit} {f : Int → Int → Option Int} (hm : IsMap D) (h : ∀ a c, wf64 a → wf64 c → Maps.has D (keyL a c) = (f a c).isSome ∧ D.atKey (keyL a c) (.lit (.int .i64 0)) = .lit (.int .i64 ((f a c).getD 0))) {a c v : Int} (ha : wf64 a) (hc : wf64 c) :
    ∀ a' c', wf64 a' → wf64 c' → Maps.has (D.put (keyL a c) (.lit (.int .i64 v))) (keyL a' c') = (if a' = a ∧ c' = c then some v else f a' c').isSome ∧ (D.put (keyL a c) (.lit (.int .i64 v))).atKey (keyL a' c') (.lit (.int .i64 0)) = .lit (.int .i64 ((if a' = a ∧ c' = c then some v else f a' c').getD 0)) := by
  intro a' c' ha' hc'
  by_cases he : a' = a ∧ c' = c
  · obtain ⟨rfl, rfl⟩ := he
    rw [if_pos ⟨rfl, rfl⟩, Maps.has_put_same hm (keyL_is _ _), Maps.atKey_put_same hm (keyL_is _ _)]
    exact ⟨rfl, rfl⟩
  · have hne : keyL a' c' ≠ keyL a c := fun e => he (keyL_inj ha' hc' ha hc e)
    rw [if_neg he, Maps.has_put_other hne, Maps.atKey_put_other hne]
    exact h a' c' ha' hc'
theorem viewF_del {D : DataW Unit} {f : Int → Int → Option Int} (h : ∀ a c, wf64 a → wf64 c → Maps.has D (keyL a c) = (f a c).isSome ∧ D.atKey (keyL a c) (.lit (.int .i64 0)) = .lit (.int .i64 ((f a c).getD 0))) {a c : Int} (ha : wf64 a) (hc : wf64 c) :
    ∀ a' c', wf64 a' → wf64 c' → Maps.has (D.del (keyL a c)) (keyL a' c') = (if a' = a ∧ c' = c then none else f a' c').isSome ∧ (D.del (keyL a c)).atKey (keyL a' c') (.lit (.int .i64 0)) = .lit (.int .i64 ((if a' = a ∧ c' = c then none else f a' c').getD 0)) := by
  intro a' c' ha' hc'
  by_cases he : a' = a ∧ c' = c
  · obtain ⟨rfl, rfl⟩ := he
    rw [if_pos ⟨rfl, rfl⟩, Maps.has_del_same, Maps.atKey_del_same]
    exact ⟨rfl, rfl⟩
  · have hne : keyL a' c' ≠ keyL a c := fun e => he (keyL_inj ha' hc' ha hc e)
    rw [if_neg he, Maps.has_del_other hne, Maps.atKey_del_other hne]
    exact h a' c' ha' hc'
theorem MapF.kept {w w' : World} {b n : Nat} {f : Int → Int → Option Int} {row : Option Nat} (h : MapF w b n f) (hg : w.grownBy w' row) (hne : some b ≠ row) : MapF w' b n f := by
  obtain ⟨D, h1, h2, h3⟩ := h
  exact ⟨D, h1.kept hg hne, h2, h3⟩
theorem MapF.lt {w : World} {b n : Nat} {f : Int → Int → Option Int} (h : MapF w b n f) : b < w.heap.size := by
  obtain ⟨D, h1, _⟩ := h
  exact h1.lt
theorem MapF.below {w w' : World} {b n : Nat} {f : Int → Int → Option Int} (h : MapF w b n f) (hb : Below w.heap.size w w') : MapF w' b n f := by
  have hl := h.lt
  obtain ⟨D, ⟨es, clock, h1, r⟩, h2, h3⟩ := h
  exact ⟨D, ⟨es, clock, (hb.block b hl).trans h1, r⟩, h2, h3⟩

end Go.Proofs.YtnimlgdackgcoaaGreatDoor
