/- The methods of a heap of candidates that lengthen and shorten it. -/
import Derived.Test.YtpjfigjgamlcdaaHpOps
namespace Go.Proofs.Ytpjfigjgamlcdaa
open Go.RowKit
set_option maxRecDepth 100000

theorem run_append_c (w : World) (base : Nat) (ty : TypeId) (v : Value) (n : Nat) (xs : List Value) (hown : w.ownsRow base 61 2 v n xs) (gs c : Nat) (x : Cd) (h0 : w.cell? ⟨gs, 0, none⟩ = some (.int .i64 x.1)) (h1 : w.cell? ⟨gs, 1, none⟩ = some (.int .i64 x.2))
    (hn : n + 1 ≤ 5000000) (hbase : base ≤ w.heap.size) :
    ∃ v' w', (Builtin.append_ #[58, 58] ty #[v, .slice (some ⟨gs, 0, none⟩) 1 c]).run Try.prog w = .ok v' w' ∧ w'.ownsRow base 61 2 v' (n + 1) (xs ++ ccell x) ∧ w.grownBy w' v.ownBlock := by
  obtain ⟨i0, hi, hz0, hz1, hz2⟩ := info_parts infoC
  have hnews : ∀ j u, (ccell x)[j]? = some u → w.cell? ((⟨gs, 0, none⟩ : Addr).add j) = some u := by
    intro j u hj
    have hlt : j < 2 := by have := (List.getElem?_eq_some_iff.1 hj).1; simpa [ccell] using this
    rcases (show j = 0 ∨ j = 1 by omega) with rfl | rfl
    · simp [ccell] at hj; subst hj; simpa [Addr.add] using h0
    · simp [ccell] at hj; subst hj; simpa [Addr.add] using h1
  obtain ⟨v', w', h1, h2, h3, _⟩ := run_append_own_at (P := Try.prog) w base 58 ty 61 i0 _ 2 16 Try.underlying58 hi hz0 hz1 hz2 rfl (by decide) v n xs hown ⟨gs, 0, none⟩ 1 c (ccell x) rfl hnews (ccells_one [x]) (by unfold maxLen; omega) (by omega) hbase
  exact ⟨v', w', h1, h2, h3⟩
theorem step_append_c {ops : Array Oper} {o : Oper} {a : Act} {w : World} {K : Act → World → Prop} {Q : Exit → Act → World → Prop} {E : Prop} (hgd : o.guard = none) (s x : Operand)
    (ho : o.op = .call { callee := .builtin .append, args := #[s, x], argTypes := #[58, 58] }) (base : Nat) (v : Value) (n : Nat) (xs : List Value) (hs : a.eval s = v) (hown : w.ownsRow base 61 2 v n xs)
    (gs c : Nat) (y : Cd) (hx : a.eval x = .slice (some ⟨gs, 0, none⟩) 1 c) (h0 : w.cell? ⟨gs, 0, none⟩ = some (.int .i64 y.1)) (h1 : w.cell? ⟨gs, 1, none⟩ = some (.int .i64 y.2)) (hn : n + 1 ≤ 5000000) (hbase : base ≤ w.heap.size)
    (h : ∀ v' w', w'.ownsRow base 61 2 v' (n + 1) (xs ++ ccell y) → w.grownBy w' v.ownBlock → K (a.put o.dst v') w') :
    if Region.wanted o (yielded ops a.tmps) = true then Oper.wp Try.prog o a w K Q else E := by
  have hw : Region.wanted o (yielded ops a.tmps) = true := by simp [Region.wanted, hgd]
  rw [if_pos hw]
  obtain ⟨v', w', hr, h1, h2⟩ := run_append_c w base o.type v n xs hown gs c y h0 h1 hn hbase
  unfold Oper.wp execOp
  simp only [ho, resolve, invoke, builtin, Sem.run_bind, Sem.run_pure, Result.andThen_ok, List.map_toArray, List.map_cons, List.map_nil, hs, hx, hr]
  exact h v' w' h1 h2
theorem cShape {w : World} {base n : Nat} {v : Value} {xs : List Value} (h : w.ownsRow base 61 2 v (n + 1) xs) : ∃ g cap, v = .slice (some ⟨g, 0, none⟩) (n + 1) cap := by
  rcases h.2 with ⟨_, h0⟩ | ⟨g, c, cur, rfl, _⟩
  · omega
  · exact ⟨g, c, rfl⟩
theorem keepSetC {w : World} {base n size : Nat} {t : TypeId} {v : Value} {xs : List Value} (h : w.ownsRow base t size v n xs) (p : Addr) (u : Value) (hp : ∀ g, v.ownBlock = some g → g ≠ p.block) : (w.setCell p u).ownsRow base t size v n xs := by
  obtain ⟨h1, h2⟩ := h
  refine ⟨h1, ?_⟩
  rcases h2 with h | ⟨g, cap, cur, hv, hg, hh, a1, a2, a3, a4⟩
  · exact .inl h
  · exact .inr ⟨g, cap, cur, hv, hg, (Below.heap_setCell w p u g (hp g (by rw [hv]; rfl))).trans hh, a1, a2, a3, a4⟩
theorem taC (s p : Int) (W : World) : (Instr.typeAssert (.iface 61 (.agg #[.int .i64 s, .int .i64 p])) 20 61 false).run Try.prog W = .ok (.agg #[.int .i64 s, .int .i64 p]) W := by kernel_rfl
theorem taC2 (s p : Int) (W : World) : (Instr.typeAssert (.iface 61 (.agg #[.int .i64 s, .int .i64 p])) 20 61 true).run Try.prog W = .ok (.tuple #[.agg #[.int .i64 s, .int .i64 p], .bool true]) W := by kernel_rfl

set_option maxHeartbeats 3200000 in
theorem pushm_any {w u : World} {H : List Cd} {ao : Option Addr} {cap : Nat} (h : HP none w H ao cap u) (s p : Int) (hn : H.length ≤ 1000) :
    Calls Try.prog 107 #[.pointer (some ⟨w.heap.size, 0, none⟩), .iface 61 (.agg #[.int .i64 s, .int .i64 p])] u fun e u' => e = .returned (.tuple #[]) ∧ ∃ g c, HP none w (H ++ [(s, p)]) (some ⟨g, 0, none⟩) c u' := by
  have HH : Hid (HP none w H ao cap u) := h
  have k0 := h.box
  have f0 := h.fz
  have hlt := h.lt
  have ta := taC s p
  clear h
  go_enter Try.func107, Try.ntmps107
  have k1 : ∀ o, (u.alloc o).cell? ⟨w.heap.size, 0, none⟩ = some (.slice ao H.length cap) := fun o => by rw [World.cell?_alloc_lt _ _ _ hlt]; exact k0
  go_region_law ((refine step_append_c rfl (.tmp 7) (.tmp 10) rfl (w.heap.size + 1) (.slice ao H.length cap) H.length (ccells H) (by rfl) (keepC HH.out.own (by go_grown)) u.heap.size 1 (s, p) (by rfl) (by simp [go_sem]) (by simp [go_sem]) (by omega) (by simp; omega) ?_; intro v5 w5 o5 g5; obtain ⟨h5, k5, rfl⟩ := cShape o5; have c5 : w5.cell? ⟨w.heap.size, 0, none⟩ = some (.slice ao H.length cap) := (g5.cell_far ⟨w.heap.size, 0, none⟩ (by simp; omega) HH.out.apart).trans (by simp [go_sem, World.cell?_alloc_some, k0]); have z5 : w5.frozen? ⟨w.heap.size, 0, none⟩ = false := (g5.frozen_far ⟨w.heap.size, 0, none⟩ (by simp; omega) HH.out.apart).trans (by have := ((Below.refl u.heap.size u).alloc (Nat.le_refl _) (.cells #[.int .i64 s, .int .i64 p] 61)).frozen (p := ⟨w.heap.size, 0, none⟩) hlt; simpa [f0] using this)))
  all_goals
    have HO : Hid (w5.ownsRow (w.heap.size + 1) 61 2 (.slice (some ⟨h5, 0, none⟩) (H ++ [(s, p)]).length k5) (H ++ [(s, p)]).length (ccells (H ++ [(s, p)]))) := by rw [Hid, List.length_append, ccells_append]; exact o5
    have HB : Hid (Below w.heap.size w w5) := Below.grown (HP.below HH.out (by go_grown)).bel g5 (by simp; omega) (fun j hj => by have := (HH.out.own.lt j hj).1; omega)
    have hh5 := (o5.lt h5 rfl).1
    clear o5 g5
    go_wp2
    go_end0
    refine ⟨rfl, h5, k5, HB.out.setCell (Nat.le_refl _) _, ?_, by simp [z5], ?_, fun _ _ e => by cases e⟩
    · rw [List.length_append]; exact World.cell?_setCell_same w5 ⟨w.heap.size, 0, none⟩ _ c5
    · exact keepSetC HO.out ⟨w.heap.size, 0, none⟩ _ (fun x hx => by have e : h5 = x := Option.some.inj hx; show x ≠ w.heap.size; omega)

theorem underC : Try.prog.underlying 58 = some (.slice (Try.prog.elem 58)) := by
  have e : Try.prog.elem 58 = 61 := by simp [Program.elem, Try.underlying58]
  rw [e]; exact Try.underlying58
theorem elemC : Try.prog.elem 58 = 61 := by simp [Program.elem, Try.underlying58]
theorem sizeC (w : World) : (sizeOf 61).run Try.prog w = .ok 2 w := by
  obtain ⟨i0, hi, hz0, hz1, hz2⟩ := info_parts infoC
  simp [sizeOf, typeInfo, hi, hz1]
theorem sliceC {g n c s : Nat} (hs : s ≤ c) (W : World) : (Instr.slice 58 (.slice (some ⟨g, 0, none⟩) n c) none (some (.int .i64 s)) none).run Try.prog W = .ok (.slice (some ⟨g, 0, none⟩) s c) W := by
  rw [run_slice_h W _ _ _ _ underC .i64 _ (by omega) (by omega), elemC, sizeC]
  simp [Result.andThen, sliced, Addr.add]
theorem HP.cap {q : Option (Nat × Obj)} {w u : World} {H : List Cd} {g cap : Nat} (h : HP q w H (some ⟨g, 0, none⟩) cap u) : H.length ≤ cap := by
  rcases h.own.2 with ⟨hv, _⟩ | ⟨g', c, cur, hv, _, _, hc, _⟩
  · cases hv
  · obtain ⟨rfl, rfl⟩ : g = g' ∧ cap = c := by simpa using hv
    exact hc

set_option maxHeartbeats 3200000 in
theorem popm_any {q : Option (Nat × Obj)} {w u : World} {H : List Cd} {g cap : Nat} (h : HP q w H (some ⟨g, 0, none⟩) cap u) (m : Nat) (hm : H.length = m + 1) (hn : H.length ≤ 1000) :
    Calls Try.prog 106 #[.pointer (some ⟨w.heap.size, 0, none⟩)] u fun e u' => e = .returned (.iface 61 (.agg #[.int .i64 (cdAt H m).1, .int .i64 (cdAt H m).2])) ∧ Below w.heap.size w u' ∧ ∀ x o, q = some (x, o) → u'.heap[x]? = some o := by
  have HK : Hid (∀ x o, q = some (x, o) → u.heap[x]? = some o ∧ w.heap.size < x) := fun x o e => ⟨(h.kp x o e).1, (h.kp x o e).2.1⟩
  have HB : Hid (Below w.heap.size w u) := h.bel
  have k0 := h.box
  have f0 := h.fz
  have hlt := h.lt
  obtain ⟨k1, k2⟩ := h.at (k := m) (by omega)
  have hcap := h.cap
  have hgu := h.row (by omega)
  obtain ⟨g', e, hg1, hg2⟩ := hgu
  obtain rfl : g = g' := by simpa using e
  obtain ⟨⟨a, b⟩, hab⟩ : ∃ x, cdAt H m = x := ⟨_, rfl⟩
  rw [hab] at k1 k2 ⊢
  simp only at k1 k2 ⊢
  rw [hm] at k0 hcap hn
  have hsl := sliceC (g := g) (n := m + 1) (c := cap) (s := m) (by omega)
  clear hab h e
  go_enter Try.func106, Try.ntmps106
  go_upto_region 3 with fail
  obtain ⟨W, hW⟩ : ∃ W, u.alloc (.cells #[.int .i64 a, .int .i64 b] 61) = W := ⟨_, rfl⟩
  have j0 : W.cell? ⟨u.heap.size, 0, none⟩ = some (.int .i64 a) := by rw [← hW]; simp
  have j1 : W.cell? ⟨u.heap.size, 1, none⟩ = some (.int .i64 b) := by rw [← hW]; simp
  have j2 : W.cell? ⟨w.heap.size, 0, none⟩ = some (.slice (some ⟨g, 0, none⟩) (m + 1) cap) := by rw [← hW, World.cell?_alloc_lt _ _ _ hlt]; exact k0
  have j3 : W.frozen? ⟨w.heap.size, 0, none⟩ = false := by rw [← hW]; have := ((Below.refl u.heap.size u).alloc (Nat.le_refl _) (.cells #[.int .i64 a, .int .i64 b] 61)).frozen (p := ⟨w.heap.size, 0, none⟩) hlt; rw [this]; exact f0
  have HKW : Hid (∀ x o, q = some (x, o) → W.heap[x]? = some o ∧ w.heap.size < x) := fun x o e => by
    obtain ⟨h1, h2⟩ := HK.out x o e
    refine ⟨?_, h2⟩
    rw [← hW]
    exact (((Below.refl u.heap.size u).alloc (Nat.le_refl _) _).block x (Array.getElem?_eq_some_iff.1 h1).1).trans h1
  have HBW : Hid (Below w.heap.size w W) := by rw [Hid, ← hW]; exact HB.out.alloc HB.out.size _
  rw [hW]
  have hne : ¬ w.heap.size = u.heap.size := by omega
  have hne2 : ¬ u.heap.size = w.heap.size := by omega
  clear hW k0 f0 k1 k2
  go_wp2
  go_ret
  refine ⟨rfl, HBW.out.setCell (Nat.le_refl _) _, fun x o e => ?_⟩
  obtain ⟨h1, h2⟩ := HKW.out x o e
  rw [Below.heap_setCell _ _ _ _ (fun e => by have e : x = w.heap.size := e; omega)]
  exact h1

end Go.Proofs.Ytpjfigjgamlcdaa
