/- A map of amounts with more at one key: the look-up, the entry and the store into it, in whatever order of the first two. -/
import Derived.Test.YtnimlgdackgcoaaGreatDoorMapK
import Derived.Test.YtnimlgdackgcoaaGreatDoorCur
namespace Go.Proofs.YtnimlgdackgcoaaGreatDoor
open Go.RowKit Go.Maps Go.MapKept Go.ChangeMaps
open Go.WideElems (Fit)
open Go.WideMaps (KeyLaw)
set_option maxRecDepth 100000

section
variable {H : Type} {P : Program} {w : World} {t k e : TypeId} {R : Value → Option (DataW H × List MemPlace)} {b : Nat} {es : Array MapEntry} {clock : Nat}
theorem set_sameK {α : Type} : ∀ (l : List α) (j : Nat) (x : α), l[j]? = some x → l.set j x = l
  | [], _, _, h => by simp at h
  | y :: r, 0, x, h => by simp at h; subst h; rfl
  | y :: r, j + 1, x, h => by simp at h; simp [set_sameK r j x h]
/-- an entry taken is a store of what stood there, and a look-up gives just that -/
theorem entry_is (K : KeyLaw P k) (ht : P.underlying t = some (.map k e)) {z : Value} (hz : ∀ u : World, (zeroValue e).run P u = .ok z u) (hb : w.heap[b]? = some (.map es clock)) (F : Fit P k R es clock) {key : Value} {kl : Lit} (hkey : keyOf P k key = some kl) :
    ∃ (v0 : Value) (st : Nat) (es1 : Array MapEntry) (clock1 : Nat), (Instr.mapEntry t (.map (some b)) key).run P w = .ok (.tuple #[v0, goInt st]) (setBlock w b (.map es1 clock1)) ∧
      (Instr.mapUpdate t (.map (some b)) key v0).run P w = .ok () (setBlock w b (.map es1 clock1)) ∧ (Instr.lookup t (.map (some b)) key false).run P w = .ok v0 w := by
  rcases K.find w hkey es.toList F.keys with ⟨h1, h2⟩ | ⟨j, e0, h1, h2, h3⟩
  · refine ⟨z, clock, es.push ⟨key, z, clock⟩, clock + 1, ?_, ?_, ?_⟩
    · simp [Instr.mapEntry, run_underlying ht, MapKept.run_getObj_map hb, K.check w false hkey, h1, hz, MapKept.run_setObj_map _ hb, Result.andThen, setBlock]
    · simp [Instr.mapUpdate, run_underlying ht, MapKept.run_getObj_map hb, K.check w false hkey, h1, MapKept.run_setObj_map _ hb, Result.andThen, setBlock]
    · simp [Instr.lookup, run_underlying ht, MapKept.run_getObj_map hb, K.check w _ hkey, h1, hz, Result.andThen]
  · have hj : es[j]? = some e0 := by simpa using h2
    have m1 : es.modify j (fun e => { e with key := key }) = es := by
      apply Array.ext'
      rw [Array.toList_modify, modify_eq_set _ _ _ _ h2, show ({ e0 with key := key } : MapEntry) = e0 by rw [← h3]]
      exact set_sameK _ _ _ h2
    have m2 : es.modify j (fun e => { e with key := key, val := e0.val }) = es := by
      apply Array.ext'
      rw [Array.toList_modify, modify_eq_set _ _ _ _ h2, show ({ e0 with key := key, val := e0.val } : MapEntry) = e0 by rw [← h3]]
      exact set_sameK _ _ _ h2
    refine ⟨e0.val, e0.born, es, clock, ?_, ?_, ?_⟩
    · simp [Instr.mapEntry, run_underlying ht, MapKept.run_getObj_map hb, K.check w false hkey, h1, hj, h3, K.stays w hkey, m1, MapKept.run_setObj_map _ hb, Result.andThen, setBlock]
    · simp [Instr.mapUpdate, run_underlying ht, MapKept.run_getObj_map hb, K.check w false hkey, h1, hj, h3, K.stays w hkey, m2, MapKept.run_setObj_map _ hb, Result.andThen, setBlock]
    · simp [Instr.lookup, run_underlying ht, MapKept.run_getObj_map hb, K.check w _ hkey, h1, Result.andThen]
end

/-- the steps of 'm[key] += change', each as a run of its operation -/
theorem add_steps {W : World} {b n : Nat} {f : Int → Int → Option Int} (h : MapF W b n f) {a c v m : Int} (ha : wf64 a) (hc : wf64 c) (hv : (f a c).getD 0 = v) (hw : wf64 (v + m)) (hn : n < maxLen) :
    ∃ (st : Nat) (W1 W2 : World), (Instr.mapEntry 52 (.map (some b)) (.agg #[.int .i64 a, .int .i64 c])).run Tryz.prog W = .ok (.tuple #[.int .i64 v, .int .i64 st]) W1 ∧
      (Instr.lookup 52 (.map (some b)) (.agg #[.int .i64 a, .int .i64 c]) false).run Tryz.prog W = .ok (.int .i64 v) W ∧
      (Instr.lookup 52 (.map (some b)) (.agg #[.int .i64 a, .int .i64 c]) false).run Tryz.prog W1 = .ok (.int .i64 v) W1 ∧
      (Instr.entryStore 52 (.map (some b)) (.int .i64 st) (.int .i64 (v + m))).run Tryz.prog W1 = .ok () W2 ∧
      (Instr.lookup 52 (.map (some b)) (.agg #[.int .i64 a, .int .i64 c]) false).run Tryz.prog W2 = .ok (.int .i64 (v + m)) W2 ∧
      W.grownBy W1 (some b) ∧ W.grownBy W2 (some b) ∧ MapF W2 b (n + 1) (fun a' c' => if a' = a ∧ c' = c then some (v + m) else f a' c') := by
  obtain ⟨D, hown, hview, hwf⟩ := h
  have hkey := keyOf_ac ha hc
  obtain ⟨es, clock, hb, F, hs, hD⟩ := hown
  have hown : W.ownsMap Tryz.prog 56 (plainElem (H := Unit) Tryz.prog 3) b n D := ⟨es, clock, hb, F, hs, hD⟩
  obtain ⟨v0, st, es1, clock1, hE, hU, hL⟩ := entry_is klawK Tryz.underlying52 zero3 hb F hkey
  obtain ⟨c0, hL', hat, hwc⟩ := hown.lookup_int lawK Tryz.underlying52 Tryz.underlying3 (zero3 _) hkey
  have hc0 : c0 = v := by
    have e := hat.symm.trans (hview a c ha hc).2
    rw [hv] at e
    injection e with e1; injection e1
  have hv0 : v0 = .int .i64 v := by
    rw [hL] at hL'
    rw [← hc0]
    injection hL'
  subst hv0
  rw [hc0] at hwc
  obtain ⟨w1, hU', hown1, hg1⟩ := hown.update lawK Tryz.underlying52 hn hkey (plainElem_int Tryz.underlying3 hwc)
  have hw1 : w1 = setBlock W b (.map es1 clock1) := by
    rw [hU] at hU'
    injection hU' with _ e; exact e.symm
  subst hw1
  obtain ⟨c1, hL1, hat1, _⟩ := hown1.lookup_int lawK Tryz.underlying52 Tryz.underlying3 (zero3 _) hkey
  have hc1 : c1 = v := by
    rw [Maps.atKey_put_same hown.isMap (keyL_is _ _)] at hat1
    injection hat1 with e1; injection e1 with _ e2; exact e2.symm
  subst hc1
  obtain ⟨v0', st', es1', clock1', hE', _, hS⟩ := WideElems.entry_then_store klawK Tryz.underlying52 zero3 hb F hkey
  have hE2 := hE.symm.trans hE'
  have hst : st = st' ∧ setBlock W b (.map es1 clock1) = setBlock W b (.map es1' clock1') := by
    simp only [Result.ok.injEq, Value.tuple.injEq, goInt] at hE2
    refine ⟨?_, hE2.2⟩
    have := hE2.1
    simp at this
    exact Int.natCast_inj.1 this.2
  obtain ⟨rfl, hbe⟩ := hst
  have hb1 : (setBlock W b (.map es1 clock1)).heap[b]? = some (.map es1' clock1') := by rw [hbe]; exact heap_setBlock_same hb _
  obtain ⟨es2, clock2, hS1, hU2⟩ := hS (setBlock W b (.map es1 clock1)) (.int .i64 (c1 + m)) hb1
  obtain ⟨w2, hU2', hown2, hg2⟩ := hown.update lawK Tryz.underlying52 hn hkey (plainElem_int Tryz.underlying3 hw)
  have hw2 : w2 = setBlock W b (.map es2 clock2) := by
    rw [hU2] at hU2'
    injection hU2' with _ e; exact e.symm
  subst hw2
  have hbb : setBlock (setBlock W b (.map es1 clock1)) b (.map es2 clock2) = setBlock W b (.map es2 clock2) := by simp [setBlock]
  rw [hbb] at hS1
  obtain ⟨c2, hL2, hat2, _⟩ := hown2.lookup_int lawK Tryz.underlying52 Tryz.underlying3 (zero3 _) hkey
  have hc2 : c2 = c1 + m := by
    rw [Maps.atKey_put_same hown.isMap (keyL_is _ _)] at hat2
    injection hat2 with e1; injection e1 with _ e2; exact e2.symm
  subst hc2
  refine ⟨st, _, _, hE, hL, hL1, hS1, hL2, hg1, hg2, _, hown2, viewF_put hown.isMap hview ha hc, fun a' c' hf => ?_⟩
  by_cases he : a' = a ∧ c' = c
  · obtain ⟨rfl, rfl⟩ := he; exact ⟨ha, hc⟩
  · simp only [if_neg he] at hf; exact hwf a' c' hf

end Go.Proofs.YtnimlgdackgcoaaGreatDoor
