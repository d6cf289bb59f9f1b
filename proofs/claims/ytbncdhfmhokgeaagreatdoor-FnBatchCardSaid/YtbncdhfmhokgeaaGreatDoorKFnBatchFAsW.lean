/- errors.As at a fault of the message and a variable of that type: the walk. -/
import Derived.Test.YtbncdhfmhokgeaaGreatDoorKFnBatchFAs
namespace Go.Proofs.YtbncdhfmhokgeaaGreatDoor
open Go.RowKit Go.Extern.Stop Go.Stop Go.Extern

theorem as_load (B : Nat) (c a : Int) (W : World) (h0 : W.cell? ⟨B, 0, none⟩ = some (.int .i64 c)) (h1 : W.cell? ⟨B, 1, none⟩ = some (.int .i64 a)) :
    (loadVar 70 ⟨B, 0, none⟩).run Tryz.prog W = .ok (.agg #[.int .i64 c, .int .i64 a]) W := by
  simp [loadVar, isAgg, underlying, Tryz.underlying70, loadCells, loadCellsFrom, Addr.add, h0, h1, Result.andThen]
theorem as_store (T : Nat) (c a : Int) (o0 o1 : Value) (W : World) (h0 : W.cell? ⟨T, 0, none⟩ = some o0) (h1 : W.cell? ⟨T, 1, none⟩ = some o1) (f0 : W.frozen? ⟨T, 0, none⟩ = false) (f1 : W.frozen? ⟨T, 1, none⟩ = false) :
    (storeVar 70 ⟨T, 0, none⟩ (.agg #[.int .i64 c, .int .i64 a])).run Tryz.prog W = .ok () ((W.setCell ⟨T, 0, none⟩ (.int .i64 c)).setCell ⟨T, 1, none⟩ (.int .i64 a)) := by
  simp [storeVar, Value.cells, storeCells, Addr.add, Result.andThen, h0, h1, f0, f1, go_sem]
theorem as_setS (T B : Nat) (c a : Int) (o0 o1 : Value) (W : World) (hb0 : W.cell? ⟨B, 0, none⟩ = some (.int .i64 c)) (hb1 : W.cell? ⟨B, 1, none⟩ = some (.int .i64 a)) (h0 : W.cell? ⟨T, 0, none⟩ = some o0) (h1 : W.cell? ⟨T, 1, none⟩ = some o1) (f0 : W.frozen? ⟨T, 0, none⟩ = false) (f1 : W.frozen? ⟨T, 1, none⟩ = false) :
    (ReflectliteValue.set #[.agg #[.pointer (some ⟨7, 70, none⟩), .pointer (some ⟨T, 0, none⟩), .int .u64 409], .agg #[.pointer (some ⟨7, 70, none⟩), .pointer (some ⟨B, 0, none⟩), .int .u64 153]]).run Tryz.prog W
      = .ok (.tuple #[]) ((W.setCell ⟨T, 0, none⟩ (.int .i64 c)).setCell ⟨T, 1, none⟩ (.int .i64 a)) := by
  rw [as_rls]
  simp only [Sem.run_bind, as_partsA, as_partsS, Result.andThen]
  simp [ReflectliteValue.flagAddr, as_load B c a W hb0 hb1, as_directS, as_store T c a o0 o1 W h0 h1 f0 f1, Result.andThen]

/-- the variable errors.errorType, as Go's own text lays it -/
def ErrTy (w : World) : Prop := w.cell? ⟨0, 0, none⟩ = some (.iface 198 (.agg #[.pointer (some ⟨7, 124, none⟩)]))
theorem ErrTy.below {w w' : World} (h : ErrTy w) (hb : Below w.heap.size w w') : ErrTy w' := (hb.cell (p := ⟨0, 0, none⟩) (World.block_lt_of_cell? w _ h)).trans h

set_option maxRecDepth 100000 in
set_option maxHeartbeats 4000000 in
theorem as_hit (c a : Int) (T : Nat) (o0 o1 : Value) (w : World) (hg : ErrTy w) (h0 : w.cell? ⟨T, 0, none⟩ = some o0) (h1 : w.cell? ⟨T, 1, none⟩ = some o1) (f0 : w.frozen? ⟨T, 0, none⟩ = false) (f1 : w.frozen? ⟨T, 1, none⟩ = false) :
    Calls Tryz.prog 96 #[faultV c a, .iface 127 (.pointer (some ⟨T, 0, none⟩))] w fun ev w' => ev = .returned (.bool true) ∧
      ∃ w4, Below w.heap.size w w4 ∧ w' = (w4.setCell ⟨T, 0, none⟩ (.int .i64 c)).setCell ⟨T, 1, none⟩ (.int .i64 a) := by
  have h76 := @run_callFunc_extern Tryz.prog 134 _ (fun args => ReflectliteValue.unpack (args.getD 0 (.tuple #[]))) Tryz.func134 (by kernel_rfl) (by kernel_rfl) (by kernel_rfl) (by kernel_rfl)
  have h77 := @run_callFunc_extern Tryz.prog 135 _ (ReflectliteValue.methodAny (ReflectliteValue.valueError "reflectlite.Value.Type" 0) (fun t _ _ _ => ReflectliteType.toType t)) Tryz.func135 (by kernel_rfl) (by kernel_rfl) (by kernel_rfl) (by kernel_rfl)
  have h78 := @run_callFunc_extern Tryz.prog 136 _ (ReflectliteValue.method (ReflectliteValue.valueError "reflectlite.Value.IsNil" 0) ReflectliteValue.isNil) Tryz.func136 (by kernel_rfl) (by kernel_rfl) (by kernel_rfl) (by kernel_rfl)
  have hKd := @run_callFunc_extern Tryz.prog 201 _ (ReflectliteType.abiMethod fun t => do pure (.int .u8 (← Rtype.kind t))) Tryz.func201 (by kernel_rfl) (by kernel_rfl) (by kernel_rfl) (by kernel_rfl)
  have hEl := @run_callFunc_extern Tryz.prog 217 _ (ReflectliteType.method ReflectliteType.elem) Tryz.func217 (by kernel_rfl) (by kernel_rfl) (by kernel_rfl) (by kernel_rfl)
  have hIm := @run_callFunc_extern Tryz.prog 218 _ (ReflectliteType.relation "Implements" ReflectliteType.implements_) Tryz.func218 (by kernel_rfl) (by kernel_rfl) (by kernel_rfl) (by kernel_rfl)
  have hTO := @run_callFunc_extern Tryz.prog 161 _ ReflectliteType.typeOf Tryz.func161 (by kernel_rfl) (by kernel_rfl) (by kernel_rfl) (by kernel_rfl)
  have hAs := @run_callFunc_extern Tryz.prog 215 _ (ReflectliteType.relation "AssignableTo" ReflectliteType.assignableTo) Tryz.func215 (by kernel_rfl) (by kernel_rfl) (by kernel_rfl) (by kernel_rfl)
  have hVE := @run_callFunc_extern Tryz.prog 162 _ (ReflectliteValue.method (ReflectliteValue.valueError "reflectlite.Value.Elem" 0) ReflectliteValue.elem) Tryz.func162 (by kernel_rfl) (by kernel_rfl) (by kernel_rfl) (by kernel_rfl)
  have hVS := @run_callFunc_extern Tryz.prog 163 _ ReflectliteValue.set Tryz.func163 (by kernel_rfl) (by kernel_rfl) (by kernel_rfl) (by kernel_rfl)
  have tO := as_typeOfS
  have mA := as_methodAssignableTo
  have aS := as_asgnS
  have vS := as_valueOfS
  have vP := as_valueOfP
  have tP := as_typeP
  have mK := as_methodKind
  have mE := as_methodElem
  have mI := as_methodImplements
  have kP := as_kindP
  have kS := as_kindS
  have eP := as_elemP
  have iS := as_implS
  obtain ⟨W1, hW1⟩ : ∃ W, (w.alloc (.cells #[.pointer (some ⟨T, 0, none⟩)] 127)).alloc (.cells #[.pointer (some ⟨7, 127, none⟩), .pointer (some ⟨w.heap.size, 0, none⟩), .int .u64 150] 166) = W := ⟨_, rfl⟩
  have hT : T < w.heap.size := World.block_lt_of_cell? w _ h0
  have hG : 0 < w.heap.size := World.block_lt_of_cell? w _ hg
  have n8 := as_isNilP ⟨w.heap.size, 0, none⟩ ⟨T, 0, none⟩ W1 (by rw [← hW1]; simp)
  have hg2 : W1.cell? ⟨0, 0, none⟩ = some (.iface 198 (.agg #[.pointer (some ⟨7, 124, none⟩)])) := by
    rw [← hW1, World.cell?_alloc_lt _ _ ⟨0, 0, none⟩ (by simp), World.cell?_alloc_lt _ _ ⟨0, 0, none⟩ hG]; exact hg
  have el := as_elemVP ⟨w.heap.size, 0, none⟩ ⟨T, 0, none⟩ (W1.alloc (.cells #[.pointer (some ⟨7, 127, none⟩), .pointer (some ⟨w.heap.size, 0, none⟩), .int .u64 150] 166)) (by rw [World.cell?_alloc_lt _ _ ⟨w.heap.size, 0, none⟩ (by rw [← hW1]; simp; omega), ← hW1]; simp)
  subst hW1
  have st := as_setS T (w.heap.size + 1 + 1 + 1) c a o0 o1 ((((w.alloc (.cells #[.pointer (some ⟨T, 0, none⟩)] 127)).alloc (.cells #[.pointer (some ⟨7, 127, none⟩), .pointer (some ⟨w.heap.size, 0, none⟩), .int .u64 150] 166)).alloc (.cells #[.pointer (some ⟨7, 127, none⟩), .pointer (some ⟨w.heap.size, 0, none⟩), .int .u64 150] 166)).alloc (.cells #[.int .i64 c, .int .i64 a] 70))
    (by rw [World.cell?_alloc_at _ _ _ _ (by simp)]; rfl)
    (by rw [World.cell?_alloc_at _ _ _ _ (by simp)]; rfl)
    (by rw [World.cell?_alloc_lt _ _ ⟨T, 0, none⟩ (by simp; omega), World.cell?_alloc_lt _ _ ⟨T, 0, none⟩ (by simp; omega), World.cell?_alloc_lt _ _ ⟨T, 0, none⟩ (by simp; omega), World.cell?_alloc_lt _ _ ⟨T, 0, none⟩ hT]; exact h0)
    (by rw [World.cell?_alloc_lt _ _ ⟨T, 1, none⟩ (by simp; omega), World.cell?_alloc_lt _ _ ⟨T, 1, none⟩ (by simp; omega), World.cell?_alloc_lt _ _ ⟨T, 1, none⟩ (by simp; omega), World.cell?_alloc_lt _ _ ⟨T, 1, none⟩ hT]; exact h1)
    (by rw [World.frozen?_alloc_old _ _ ⟨T, 0, none⟩ (by simp; omega), World.frozen?_alloc_old _ _ ⟨T, 0, none⟩ (by simp; omega), World.frozen?_alloc_old _ _ ⟨T, 0, none⟩ (by simp; omega), World.frozen?_alloc_old _ _ ⟨T, 0, none⟩ (Nat.ne_of_lt hT)]; exact f0)
    (by rw [World.frozen?_alloc_old _ _ ⟨T, 1, none⟩ (by simp; omega), World.frozen?_alloc_old _ _ ⟨T, 1, none⟩ (by simp; omega), World.frozen?_alloc_old _ _ ⟨T, 1, none⟩ (by simp; omega), World.frozen?_alloc_old _ _ ⟨T, 1, none⟩ (Nat.ne_of_lt hT)]; exact f1)
  have HB : Hid (Below w.heap.size w ((((w.alloc (.cells #[.pointer (some ⟨T, 0, none⟩)] 127)).alloc (.cells #[.pointer (some ⟨7, 127, none⟩), .pointer (some ⟨w.heap.size, 0, none⟩), .int .u64 150] 166)).alloc (.cells #[.pointer (some ⟨7, 127, none⟩), .pointer (some ⟨w.heap.size, 0, none⟩), .int .u64 150] 166)).alloc (.cells #[.int .i64 c, .int .i64 a] 70))) :=
    ((((Below.refl _ _).alloc (Nat.le_refl _) _).alloc (by simp) _).alloc (by simp; omega) _).alloc (by simp; omega) _
  unfold faultV
  go_enter Tryz.func96, Tryz.ntmps96
  go_wp2
  refine wp_loop_rounds 1 ?_
  rw [rounds_succ]
  go_wp2
  go_ret
  exact ⟨rfl, _, HB.out, rfl⟩

end Go.Proofs.YtbncdhfmhokgeaaGreatDoor
