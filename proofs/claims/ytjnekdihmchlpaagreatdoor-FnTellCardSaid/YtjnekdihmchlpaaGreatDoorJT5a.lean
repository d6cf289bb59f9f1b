import Derived.Test.YtjnekdihmchlpaaGreatDoorKTFAs
import Derived.Defers
import Derived.Recover
import Derived.Tactics2
import Derived.Laws.Pointers
import Derived.Test.YtjnekdihmchlpaaGreatDoorRows
import Derived.Test.YtjnekdihmchlpaaGreatDoorJT1a
import Derived.LaidHandle
import Derived.LaidLaws
/- errors.As at a fault of the message and a variable of that type: the walk. -/
namespace Go.Proofs.YtjnekdihmchlpaaGreatDoor
open Go.RowKit Go.Extern.Stop Go.Stop Go.Extern
theorem as_load (B : Nat) (c a : Int) (W : World) (h0 : W.cell? ⟨B, 0, none⟩ = some (.int .i64 c)) (h1 : W.cell? ⟨B, 1, none⟩ = some (.int .i64 a)) :
    (loadVar 68 ⟨B, 0, none⟩).run Tryz.prog W = .ok (.agg #[.int .i64 c, .int .i64 a]) W := by
  simp [loadVar, isAgg, underlying, Tryz.underlying68, loadCells, loadCellsFrom, Addr.add, h0, h1, Result.andThen]
theorem as_store (T : Nat) (c a : Int) (o0 o1 : Value) (W : World) (h0 : W.cell? ⟨T, 0, none⟩ = some o0) (h1 : W.cell? ⟨T, 1, none⟩ = some o1) (f0 : W.frozen? ⟨T, 0, none⟩ = false) (f1 : W.frozen? ⟨T, 1, none⟩ = false) :
    (storeVar 68 ⟨T, 0, none⟩ (.agg #[.int .i64 c, .int .i64 a])).run Tryz.prog W = .ok () ((W.setCell ⟨T, 0, none⟩ (.int .i64 c)).setCell ⟨T, 1, none⟩ (.int .i64 a)) := by
  simp [storeVar, Value.cells, storeCells, Addr.add, Result.andThen, h0, h1, f0, f1, go_sem]
theorem as_setS (T B : Nat) (c a : Int) (o0 o1 : Value) (W : World) (hb0 : W.cell? ⟨B, 0, none⟩ = some (.int .i64 c)) (hb1 : W.cell? ⟨B, 1, none⟩ = some (.int .i64 a)) (h0 : W.cell? ⟨T, 0, none⟩ = some o0) (h1 : W.cell? ⟨T, 1, none⟩ = some o1) (f0 : W.frozen? ⟨T, 0, none⟩ = false) (f1 : W.frozen? ⟨T, 1, none⟩ = false) :
    (ReflectliteValue.set #[.agg #[.pointer (some ⟨10, 68, none⟩), .pointer (some ⟨T, 0, none⟩), .int .u64 409], .agg #[.pointer (some ⟨10, 68, none⟩), .pointer (some ⟨B, 0, none⟩), .int .u64 153]]).run Tryz.prog W
      = .ok (.tuple #[]) ((W.setCell ⟨T, 0, none⟩ (.int .i64 c)).setCell ⟨T, 1, none⟩ (.int .i64 a)) := by
  rw [as_rls]
  simp only [Sem.run_bind, as_partsA, as_partsS, Result.andThen]
  simp [ReflectliteValue.flagAddr, as_load B c a W hb0 hb1, as_directS, as_store T c a o0 o1 W h0 h1 f0 f1, Result.andThen]
/-- the variable errors.errorType, as Go's own text lays it -/
def ErrTy (w : World) : Prop := w.cell? ⟨1, 0, none⟩ = some (.iface 198 (.agg #[.pointer (some ⟨10, 75, none⟩)]))
theorem ErrTy.below {w w' : World} (h : ErrTy w) (hb : Below w.heap.size w w') : ErrTy w' := (hb.cell (p := ⟨1, 0, none⟩) (World.block_lt_of_cell? w _ h)).trans h
set_option maxRecDepth 100000 in
set_option maxHeartbeats 4000000 in
theorem as_hit (c a : Int) (T : Nat) (o0 o1 : Value) (w : World) (hg : ErrTy w) (h0 : w.cell? ⟨T, 0, none⟩ = some o0) (h1 : w.cell? ⟨T, 1, none⟩ = some o1) (f0 : w.frozen? ⟨T, 0, none⟩ = false) (f1 : w.frozen? ⟨T, 1, none⟩ = false) :
    Calls Tryz.prog 72 #[faultV c a, .iface 112 (.pointer (some ⟨T, 0, none⟩))] w fun ev w' => ev = .returned (.bool true) ∧
      ∃ w4, Below w.heap.size w w4 ∧ w' = (w4.setCell ⟨T, 0, none⟩ (.int .i64 c)).setCell ⟨T, 1, none⟩ (.int .i64 a) := by
  have h76 := @run_callFunc_extern Tryz.prog 115 _ (fun args => ReflectliteValue.unpack (args.getD 0 (.tuple #[]))) Tryz.func115 (by kernel_rfl) (by kernel_rfl) (by kernel_rfl) (by kernel_rfl)
  have h77 := @run_callFunc_extern Tryz.prog 116 _ (ReflectliteValue.methodAny (ReflectliteValue.valueError "reflectlite.Value.Type" 0) (fun t _ _ _ => ReflectliteType.toType t)) Tryz.func116 (by kernel_rfl) (by kernel_rfl) (by kernel_rfl) (by kernel_rfl)
  have h78 := @run_callFunc_extern Tryz.prog 117 _ (ReflectliteValue.method (ReflectliteValue.valueError "reflectlite.Value.IsNil" 0) ReflectliteValue.isNil) Tryz.func117 (by kernel_rfl) (by kernel_rfl) (by kernel_rfl) (by kernel_rfl)
  have hKd := @run_callFunc_extern Tryz.prog 192 _ (ReflectliteType.abiMethod fun t => do pure (.int .u8 (← Rtype.kind t))) Tryz.func192 (by kernel_rfl) (by kernel_rfl) (by kernel_rfl) (by kernel_rfl)
  have hEl := @run_callFunc_extern Tryz.prog 210 _ (ReflectliteType.method ReflectliteType.elem) Tryz.func210 (by kernel_rfl) (by kernel_rfl) (by kernel_rfl) (by kernel_rfl)
  have hIm := @run_callFunc_extern Tryz.prog 211 _ (ReflectliteType.relation "Implements" ReflectliteType.implements_) Tryz.func211 (by kernel_rfl) (by kernel_rfl) (by kernel_rfl) (by kernel_rfl)
  have hTO := @run_callFunc_extern Tryz.prog 146 _ ReflectliteType.typeOf Tryz.func146 (by kernel_rfl) (by kernel_rfl) (by kernel_rfl) (by kernel_rfl)
  have hAs := @run_callFunc_extern Tryz.prog 208 _ (ReflectliteType.relation "AssignableTo" ReflectliteType.assignableTo) Tryz.func208 (by kernel_rfl) (by kernel_rfl) (by kernel_rfl) (by kernel_rfl)
  have hVE := @run_callFunc_extern Tryz.prog 147 _ (ReflectliteValue.method (ReflectliteValue.valueError "reflectlite.Value.Elem" 0) ReflectliteValue.elem) Tryz.func147 (by kernel_rfl) (by kernel_rfl) (by kernel_rfl) (by kernel_rfl)
  have hVS := @run_callFunc_extern Tryz.prog 148 _ ReflectliteValue.set Tryz.func148 (by kernel_rfl) (by kernel_rfl) (by kernel_rfl) (by kernel_rfl)
  have tO := as_typeOfS
  have mA := as_methodAssignableTo
  have aS := as_asgnS
  have vS := as_valueOfS
  have vP := as_valueOfP
  have tP := as_typeP
  have mK := as_methodKind
  have mE := as_methodElem
  have mI := as_methodImplements
  have kP := as_kindP
  have kS := as_kindS
  have eP := as_elemP
  have iS := as_implS
  obtain ⟨W1, hW1⟩ : ∃ W, (w.alloc (.cells #[.pointer (some ⟨T, 0, none⟩)] 112)).alloc (.cells #[.pointer (some ⟨10, 112, none⟩), .pointer (some ⟨w.heap.size, 0, none⟩), .int .u64 150] 160) = W := ⟨_, rfl⟩
  have hT : T < w.heap.size := World.block_lt_of_cell? w _ h0
  have hG : 1 < w.heap.size := World.block_lt_of_cell? w _ hg
  have n8 := as_isNilP ⟨w.heap.size, 0, none⟩ ⟨T, 0, none⟩ W1 (by rw [← hW1]; simp)
  have hg2 : W1.cell? ⟨1, 0, none⟩ = some (.iface 198 (.agg #[.pointer (some ⟨10, 75, none⟩)])) := by
    rw [← hW1, World.cell?_alloc_lt _ _ ⟨1, 0, none⟩ (by have := hG; simp only [World.size_alloc]; omega), World.cell?_alloc_lt _ _ ⟨1, 0, none⟩ hG]; exact hg
  have el := as_elemVP ⟨w.heap.size, 0, none⟩ ⟨T, 0, none⟩ (W1.alloc (.cells #[.pointer (some ⟨10, 112, none⟩), .pointer (some ⟨w.heap.size, 0, none⟩), .int .u64 150] 160)) (by rw [World.cell?_alloc_lt _ _ ⟨w.heap.size, 0, none⟩ (by rw [← hW1]; simp; omega), ← hW1]; simp)
  subst hW1
  have st := as_setS T (w.heap.size + 1 + 1 + 1) c a o0 o1 ((((w.alloc (.cells #[.pointer (some ⟨T, 0, none⟩)] 112)).alloc (.cells #[.pointer (some ⟨10, 112, none⟩), .pointer (some ⟨w.heap.size, 0, none⟩), .int .u64 150] 160)).alloc (.cells #[.pointer (some ⟨10, 112, none⟩), .pointer (some ⟨w.heap.size, 0, none⟩), .int .u64 150] 160)).alloc (.cells #[.int .i64 c, .int .i64 a] 68))
    (by rw [World.cell?_alloc_at _ _ _ _ (by simp)]; rfl)
    (by rw [World.cell?_alloc_at _ _ _ _ (by simp)]; rfl)
    (by rw [World.cell?_alloc_lt _ _ ⟨T, 0, none⟩ (by simp; omega), World.cell?_alloc_lt _ _ ⟨T, 0, none⟩ (by simp; omega), World.cell?_alloc_lt _ _ ⟨T, 0, none⟩ (by simp; omega), World.cell?_alloc_lt _ _ ⟨T, 0, none⟩ hT]; exact h0)
    (by rw [World.cell?_alloc_lt _ _ ⟨T, 1, none⟩ (by simp; omega), World.cell?_alloc_lt _ _ ⟨T, 1, none⟩ (by simp; omega), World.cell?_alloc_lt _ _ ⟨T, 1, none⟩ (by simp; omega), World.cell?_alloc_lt _ _ ⟨T, 1, none⟩ hT]; exact h1)
    (by rw [World.frozen?_alloc_old _ _ ⟨T, 0, none⟩ (by simp; omega), World.frozen?_alloc_old _ _ ⟨T, 0, none⟩ (by simp; omega), World.frozen?_alloc_old _ _ ⟨T, 0, none⟩ (by simp; omega), World.frozen?_alloc_old _ _ ⟨T, 0, none⟩ (Nat.ne_of_lt hT)]; exact f0)
    (by rw [World.frozen?_alloc_old _ _ ⟨T, 1, none⟩ (by simp; omega), World.frozen?_alloc_old _ _ ⟨T, 1, none⟩ (by simp; omega), World.frozen?_alloc_old _ _ ⟨T, 1, none⟩ (by simp; omega), World.frozen?_alloc_old _ _ ⟨T, 1, none⟩ (Nat.ne_of_lt hT)]; exact f1)
  have HB : Hid (Below w.heap.size w ((((w.alloc (.cells #[.pointer (some ⟨T, 0, none⟩)] 112)).alloc (.cells #[.pointer (some ⟨10, 112, none⟩), .pointer (some ⟨w.heap.size, 0, none⟩), .int .u64 150] 160)).alloc (.cells #[.pointer (some ⟨10, 112, none⟩), .pointer (some ⟨w.heap.size, 0, none⟩), .int .u64 150] 160)).alloc (.cells #[.int .i64 c, .int .i64 a] 68))) :=
    ((((Below.refl _ _).alloc (Nat.le_refl _) _).alloc (by simp) _).alloc (by simp; omega) _).alloc (by simp; omega) _
  unfold faultV
  go_enter Tryz.func72, Tryz.ntmps72
  go_wp2
  refine wp_loop_rounds 1 ?_
  rw [rounds_succ]
  go_wp2
  go_ret
  exact ⟨rfl, _, HB.out, rfl⟩
end Go.Proofs.YtjnekdihmchlpaaGreatDoor
/- The contract of the program's reading of a fault out of what was caught. -/
namespace Go.Proofs.YtjnekdihmchlpaaGreatDoor
open Go.RowKit
theorem ta_err (c a : Int) (w : World) : (Instr.typeAssert (faultV c a) 20 75 true).run Tryz.prog w = .ok (.tuple #[faultV c a, .bool true]) w := by kernel_rfl
set_option maxRecDepth 100000 in
set_option maxHeartbeats 1600000 in
theorem faultOf_any (c a : Int) (w : World) (hg : ErrTy w) :
    Calls Tryz.prog 38 #[faultV c a] w fun e w' => e = .returned (.agg #[.int .i64 c, .int .i64 a]) ∧ Below w.heap.size w w' := by
  have ht := ta_err c a
  obtain ⟨V, hV⟩ : ∃ V, faultV c a = V := ⟨_, rfl⟩
  have hh := fun T o0 o1 w => as_hit c a T o0 o1 w
  rw [hV] at ht hh ⊢
  have hgA : ErrTy ((w.alloc (.cells #[.int .i64 0, .int .i64 0] 68)).alloc (.cells #[.int .i64 0, .int .i64 0] 68)) := hg.below (((Below.refl _ _).alloc (Nat.le_refl _) _).alloc (by simp) _)
  go_enter Tryz.func38, Tryz.ntmps38
  go_wp2_with fail
  refine (hh (w.heap.size + 1) (.int .i64 0) (.int .i64 0) _ hgA (by simp [go_sem]) (by simp [go_sem]) (by simp [go_sem]) (by simp [go_sem])).mono ?_
  rintro e w5 ⟨rfl, w4, b4, hw5⟩
  have x0 : w4.cell? ⟨w.heap.size, 0, none⟩ = some (.int .i64 0) := (b4.cell (p := ⟨w.heap.size, 0, none⟩) (by simp; omega)).trans (by simp [go_sem])
  have x1 : w4.cell? ⟨w.heap.size, 1, none⟩ = some (.int .i64 0) := (b4.cell (p := ⟨w.heap.size, 1, none⟩) (by simp; omega)).trans (by simp [go_sem])
  have x2 : w4.cell? ⟨w.heap.size + 1, 0, none⟩ = some (.int .i64 0) := (b4.cell (p := ⟨w.heap.size + 1, 0, none⟩) (by simp)).trans (by simp [go_sem])
  have x3 : w4.cell? ⟨w.heap.size + 1, 1, none⟩ = some (.int .i64 0) := (b4.cell (p := ⟨w.heap.size + 1, 1, none⟩) (by simp)).trans (by simp [go_sem])
  have f0 : w4.frozen? ⟨w.heap.size, 0, none⟩ = false := (b4.frozen (p := ⟨w.heap.size, 0, none⟩) (by simp; omega)).trans (by simp [go_sem])
  have f1 : w4.frozen? ⟨w.heap.size, 1, none⟩ = false := (b4.frozen (p := ⟨w.heap.size, 1, none⟩) (by simp; omega)).trans (by simp [go_sem])
  have HB : Hid (Below w.heap.size w w4) := (((Below.refl _ _).alloc (Nat.le_refl _) _).alloc (by simp) _).trans (b4.mono (by simp; omega))
  subst hw5
  clear b4 hgA hh ht
  go_wp2
  refine bodyPost_ret (by simp [results, Tryz.results38, go_sem, x0, x1]; try rfl) rfl ?_
  exact ⟨rfl, (((HB.out.setCell (Nat.le_succ _) _).setCell (Nat.le_succ _) _).setCell (Nat.le_refl _) _).setCell (Nat.le_refl _) _⟩
end Go.Proofs.YtjnekdihmchlpaaGreatDoor
/- The contracts of the function that UnpackMessage defers: in a frame that panics with a fault, and in one that returns. -/
namespace Go.Proofs.YtjnekdihmchlpaaGreatDoor
open Go.RowKit
set_option maxRecDepth 100000 in
set_option maxHeartbeats 1600000 in
theorem catch_idle (p q r : Addr) (w : World) :
    CallsD Tryz.prog 37 #[.pointer (some p), .pointer (some q), .pointer (some r)] .returning w fun e u' w' => e = .returned (.tuple #[]) ∧ u' = .returning ∧ w' = w := by
  refine callsD_of_wpS Tryz.func37 rfl fun c₀ cs hu => ?_
  apply wpS_seq
  apply wpS_region
  simp [wpOpsS, go_sem, recoverD, hu, Tryz.ntmps37, Exit.thenS]
  apply wpS_seq
  apply wpS_region
  simp [wpOpsS, go_sem, recoverD, hu, Exit.thenS]
  refine wpS_cond (t := false) (by simp [Act.eval, Array.replicate]) ?_
  simp only [Bool.false_eq_true, if_false]
  refine wpS_of_wp (wp_skip ?_)
  cases c₀
  simp_all [bodyPostS, results, Tryz.results37]
set_option maxRecDepth 100000 in
set_option maxHeartbeats 1600000 in
theorem catch_fault (B : Nat) (c a : Int) (older : List PanicEntry) (x0 x1 x2 x3 : Value) (w : World) (hg : ErrTy w)
    (h0 : w.cell? ⟨B, 0, none⟩ = some x0) (h1 : w.cell? ⟨B, 1, none⟩ = some x1) (h2 : w.cell? ⟨B + 1, 0, none⟩ = some x2) (h3 : w.cell? ⟨B + 1 + 1, 0, none⟩ = some x3)
    (f0 : w.frozen? ⟨B, 0, none⟩ = false) (f1 : w.frozen? ⟨B, 1, none⟩ = false) (f2 : w.frozen? ⟨B + 1, 0, none⟩ = false) (f3 : w.frozen? ⟨B + 1 + 1, 0, none⟩ = false) :
    CallsD Tryz.prog 37 #[.pointer (some ⟨B, 0, none⟩), .pointer (some ⟨B + 1, 0, none⟩), .pointer (some ⟨B + 1 + 1, 0, none⟩)] (.panicking ({ v := faultV c a, recovered := false } :: older)) w fun e u' w' =>
      e = .returned (.tuple #[]) ∧ u' = .panicking ({ v := faultV c a, recovered := true } :: older) ∧ Below B w w' ∧
        w'.cell? ⟨B, 0, none⟩ = some (.int .i64 0) ∧ w'.cell? ⟨B, 1, none⟩ = some (.slice none 0 0) ∧ w'.cell? ⟨B + 1, 0, none⟩ = some (.int .i64 c) ∧ w'.cell? ⟨B + 1 + 1, 0, none⟩ = some (.int .i64 a) := by
  refine callsD_of_wpS Tryz.func37 rfl fun c₀ cs hu => ?_
  apply wpS_seq
  apply wpS_region
  simp [wpOpsS, go_sem, recoverD, hu, Tryz.ntmps37, Exit.thenS, faultV, Array.replicate, List.replicate]
  refine wpS_of_wp ?_
  go_wp2_with fail
  refine (faultOf_any c a _ hg).mono ?_
  rintro e w1 ⟨rfl, b1⟩
  have hlt : B + 1 + 1 < w.heap.size := World.block_lt_of_cell? w _ h3
  have y0 : w1.cell? ⟨B, 0, none⟩ = some x0 := (b1.cell (p := ⟨B, 0, none⟩) (by show B < w.heap.size; omega)).trans h0
  have y1 : w1.cell? ⟨B, 1, none⟩ = some x1 := (b1.cell (p := ⟨B, 1, none⟩) (by show B < w.heap.size; omega)).trans h1
  have y2 : w1.cell? ⟨B + 1, 0, none⟩ = some x2 := (b1.cell (p := ⟨B + 1, 0, none⟩) (by show B + 1 < w.heap.size; omega)).trans h2
  have y3 : w1.cell? ⟨B + 1 + 1, 0, none⟩ = some x3 := (b1.cell (p := ⟨B + 1 + 1, 0, none⟩) hlt).trans h3
  have g0 : w1.frozen? ⟨B, 0, none⟩ = false := (b1.frozen (p := ⟨B, 0, none⟩) (by show B < w.heap.size; omega)).trans f0
  have g1 : w1.frozen? ⟨B, 1, none⟩ = false := (b1.frozen (p := ⟨B, 1, none⟩) (by show B < w.heap.size; omega)).trans f1
  have g2 : w1.frozen? ⟨B + 1, 0, none⟩ = false := (b1.frozen (p := ⟨B + 1, 0, none⟩) (by show B + 1 < w.heap.size; omega)).trans f2
  have g3 : w1.frozen? ⟨B + 1 + 1, 0, none⟩ = false := (b1.frozen (p := ⟨B + 1 + 1, 0, none⟩) hlt).trans f3
  have hs := b1.size
  have n0 : ¬ w1.heap.size = B := by omega
  have n1 : ¬ w1.heap.size = B + 1 := by omega
  have n2 : ¬ w1.heap.size = B + 1 + 1 := by omega
  have m0 : ¬ B = w1.heap.size := by omega
  have m1 : ¬ B + 1 = w1.heap.size := by omega
  have m2 : ¬ B + 1 + 1 = w1.heap.size := by omega
  have HB : Hid (Below B w w1) := b1.mono (by omega)
  clear h0 h1 h2 h3 f0 f1 f2 f3 b1
  go_wp2
  obtain ⟨W, hW⟩ : ∃ W, w1.alloc (.cells #[.int .i64 c, .int .i64 a] 68) = W := ⟨_, rfl⟩
  rw [hW]
  have u0 : W.cell? ⟨B, 0, none⟩ = some x0 := by rw [← hW]; exact (World.cell?_alloc_lt _ _ ⟨B, 0, none⟩ (by show B < w1.heap.size; omega)).trans y0
  have u1 : W.cell? ⟨B, 1, none⟩ = some x1 := by rw [← hW]; exact (World.cell?_alloc_lt _ _ ⟨B, 1, none⟩ (by show B < w1.heap.size; omega)).trans y1
  have u2 : W.cell? ⟨B + 1, 0, none⟩ = some x2 := by rw [← hW]; exact (World.cell?_alloc_lt _ _ ⟨B + 1, 0, none⟩ (by show B + 1 < w1.heap.size; omega)).trans y2
  have u3 : W.cell? ⟨B + 1 + 1, 0, none⟩ = some x3 := by rw [← hW]; exact (World.cell?_alloc_lt _ _ ⟨B + 1 + 1, 0, none⟩ (by show B + 1 + 1 < w1.heap.size; omega)).trans y3
  have v0 : W.frozen? ⟨B, 0, none⟩ = false := by rw [← hW]; exact (World.frozen?_alloc_old _ _ ⟨B, 0, none⟩ (by show B ≠ w1.heap.size; omega)).trans g0
  have v1 : W.frozen? ⟨B, 1, none⟩ = false := by rw [← hW]; exact (World.frozen?_alloc_old _ _ ⟨B, 1, none⟩ (by show B ≠ w1.heap.size; omega)).trans g1
  have v2 : W.frozen? ⟨B + 1, 0, none⟩ = false := by rw [← hW]; exact (World.frozen?_alloc_old _ _ ⟨B + 1, 0, none⟩ (by show B + 1 ≠ w1.heap.size; omega)).trans g2
  have v3 : W.frozen? ⟨B + 1 + 1, 0, none⟩ = false := by rw [← hW]; exact (World.frozen?_alloc_old _ _ ⟨B + 1 + 1, 0, none⟩ (by show B + 1 + 1 ≠ w1.heap.size; omega)).trans g3
  have k0 : W.cell? ⟨w1.heap.size, 0, none⟩ = some (.int .i64 c) := by rw [← hW]; simp [go_sem]
  have k1 : W.cell? ⟨w1.heap.size, 1, none⟩ = some (.int .i64 a) := by rw [← hW]; simp [go_sem]
  have HBW : Hid (Below B w W) := by rw [Hid, ← hW]; exact HB.out.alloc (by omega) _
  clear y0 y1 y2 y3 g0 g1 g2 g3 hW
  go_region
  all_goals go_wp2
  all_goals
    refine ⟨rfl, _, rfl, .tuple #[], by simp [results, Tryz.results37], rfl, rfl, ?_, ?_, ?_, ?_, ?_⟩
    · exact ((((HBW.out.drew).setCell (Nat.le_refl _) _).setCell (Nat.le_refl _) _).setCell (Nat.le_succ _) _).setCell (by show B ≤ B + 1 + 1; omega) _
    · simp [go_sem, *]
    · simp [go_sem, *]
    · simp [go_sem, *]
    · simp [go_sem, *]
end Go.Proofs.YtjnekdihmchlpaaGreatDoor
/- The contract of UnpackMessage, the program's. -/
namespace Go.Proofs.YtjnekdihmchlpaaGreatDoor
open Go.RowKit
theorem unp_ok {l : List UInt8} (h : (unp l).1 = 0) : (unp l).2.1 = 0 := by
  unfold unp at h ⊢
  split at h
  · simp at h
  · rename_i h1; rw [if_neg h1]
    split at h
    · simp at h
    · rename_i h2; rw [if_neg h2]
      split at h
      · rename_i h3; rw [if_pos h3]
      · rename_i h3; exact absurd h h3
theorem unp_no {l : List UInt8} (h : (unp l).1 ≠ 0) : (unp l).2.2 = (0, []) := by
  unfold unp at h ⊢
  split at h
  · rename_i h1; rw [if_pos h1]
  · rename_i h1; rw [if_neg h1]
    split at h
    · rename_i h2; rw [if_pos h2]
    · rename_i h2; rw [if_neg h2]
      split at h
      · simp at h
      · rename_i h3; rw [if_neg h3]
/-- what UnpackMessage answers: a message of one's own, a code, a place -/
def UnpR (w : World) (l : List UInt8) (e : Ending) (w' : World) : Prop :=
  Below w.heap.size w w' ∧ ∃ ao cap, e = .returned (.tuple #[.agg #[.int .i64 (unp l).2.2.1, .slice ao (unp l).2.2.2.length cap], .int .i64 (unp l).1, .int .i64 (unp l).2.1]) ∧
    w'.ownsRow w.heap.size 57 2 (.slice ao (unp l).2.2.2.length cap) (unp l).2.2.2.length (fcells (unp l).2.2.2)
set_option maxRecDepth 100000 in
set_option maxHeartbeats 1600000 in
theorem iUnpack_any (l : List UInt8) (w : World) (hl : l.length ≤ 1048576) (hg : ErrTy w) :
    Calls Tryz.prog 10 #[.string ⟨l.toArray⟩] w fun e w' => UnpR w l e w' := by
  have hmf : ∀ (fn : Fn) (first cap : Array Value) (w : World), (Instr.makeFunc fn first cap).run Tryz.prog w = .ok (.func fn first cap) w := fun _ _ _ _ => rfl
  obtain ⟨W, hW⟩ : ∃ W, ((w.alloc (.cells #[.int .i64 0, .slice none 0 0] 30)).alloc (.cells #[.int .i64 0] 3)).alloc (.cells #[.int .i64 0] 3) = W := ⟨_, rfl⟩
  have x0 : W.cell? ⟨w.heap.size, 0, none⟩ = some (.int .i64 0) := by rw [← hW]; simp [go_sem]
  have x1 : W.cell? ⟨w.heap.size, 1, none⟩ = some (.slice none 0 0) := by rw [← hW]; simp [go_sem]
  have x2 : W.cell? ⟨w.heap.size + 1, 0, none⟩ = some (.int .i64 0) := by rw [← hW]; simp [go_sem]
  have x3 : W.cell? ⟨w.heap.size + 1 + 1, 0, none⟩ = some (.int .i64 0) := by rw [← hW]; simp [go_sem]
  have f0 : W.frozen? ⟨w.heap.size, 0, none⟩ = false := by rw [← hW]; simp [go_sem]
  have f1 : W.frozen? ⟨w.heap.size, 1, none⟩ = false := by rw [← hW]; simp [go_sem]
  have f2 : W.frozen? ⟨w.heap.size + 1, 0, none⟩ = false := by rw [← hW]; simp [go_sem]
  have f3 : W.frozen? ⟨w.heap.size + 1 + 1, 0, none⟩ = false := by rw [← hW]; simp [go_sem]
  have hs : W.heap.size = w.heap.size + 3 := by rw [← hW]; simp
  have bel : Below w.heap.size w W := by rw [← hW]; exact (((Below.refl _ _).alloc (Nat.le_refl _) _).alloc (by simp) _).alloc (by simp; omega) _
  have HW : Hid _ := hW
  clear hW
  go_enter_defers Tryz.func10, Tryz.ntmps10
  go_wp2_with fail
  rw [HW.out]
  refine (readMessage_any l _ hl).mono ?_
  rintro e w1 ⟨b1, hcase⟩
  have y0 := (b1.cell (p := ⟨w.heap.size, 0, none⟩) (by show w.heap.size < W.heap.size; omega)).trans x0
  have y1 := (b1.cell (p := ⟨w.heap.size, 1, none⟩) (by show w.heap.size < W.heap.size; omega)).trans x1
  have y2 := (b1.cell (p := ⟨w.heap.size + 1, 0, none⟩) (by show w.heap.size + 1 < W.heap.size; omega)).trans x2
  have y3 := (b1.cell (p := ⟨w.heap.size + 1 + 1, 0, none⟩) (by show w.heap.size + 1 + 1 < W.heap.size; omega)).trans x3
  have g0 := (b1.frozen (p := ⟨w.heap.size, 0, none⟩) (by show w.heap.size < W.heap.size; omega)).trans f0
  have g1 := (b1.frozen (p := ⟨w.heap.size, 1, none⟩) (by show w.heap.size < W.heap.size; omega)).trans f1
  have g2 := (b1.frozen (p := ⟨w.heap.size + 1, 0, none⟩) (by show w.heap.size + 1 < W.heap.size; omega)).trans f2
  have g3 := (b1.frozen (p := ⟨w.heap.size + 1 + 1, 0, none⟩) (by show w.heap.size + 1 + 1 < W.heap.size; omega)).trans f3
  have B1 : Below w.heap.size w w1 := bel.trans (b1.mono (by omega))
  clear x0 x1 x2 x3 f0 f1 f2 f3 HW
  rcases hcase with ⟨h0, ao, cap, rfl, ho⟩ | ⟨h1, he⟩
  · have HZ : Hid _ := unp_ok h0
    have H0 : Hid _ := h0
    obtain ⟨n, hn⟩ : ∃ n, (unp l).2.2.2.length = n := ⟨_, rfl⟩
    obtain ⟨kd, hkd⟩ : ∃ n, (unp l).2.2.1 = n := ⟨_, rfl⟩
    rw [hn] at ho
    rw [hn, hkd]
    have HO : Hid (w1.ownsRow W.heap.size 57 2 (.slice ao n cap) n (fcells (unp l).2.2.2)) := ho
    have HN : Hid _ := hn
    have HK : Hid _ := hkd
    clear hn hkd h0 ho
    go_wp2
    refine leaves_cons (f := 37) (args := #[.pointer (some ⟨w.heap.size, 0, none⟩), .pointer (some ⟨w.heap.size + 1, 0, none⟩), .pointer (some ⟨w.heap.size + 1 + 1, 0, none⟩)]) (by simp) (by simp [go_sem]) ?_
    refine (catch_idle _ _ _ _).mono ?_
    rintro e u' w'' ⟨rfl, rfl, rfl⟩
    simp [Leaves, settle, results, Tryz.results10, go_sem, y0, y1, y2, y3]
    unfold UnpR
    rw [HN.out, HK.out, H0.out, HZ.out]
    have hne : ∀ g, (Value.slice ao n cap).ownBlock = some g → W.heap.size ≤ g := fun g hg => (World.ownsRow.lt HO.out g hg).1
    refine ⟨(((B1.setCell (Nat.le_refl _) _).setCell (Nat.le_refl _) _).setCell (Nat.le_succ _) _).setCell (by show w.heap.size ≤ w.heap.size + 1 + 1; omega) _, ao, cap, rfl, lowerRow (keepSet (keepSet (keepSet (keepSet HO.out _ _ ?_) _ _ ?_) _ _ ?_) _ _ ?_) (by omega)⟩
    · intro g hg; have := hne g hg; show g ≠ w.heap.size; omega
    · intro g hg; have := hne g hg; show g ≠ w.heap.size; omega
    · intro g hg; have := hne g hg; show g ≠ w.heap.size + 1; omega
    · intro g hg; have := hne g hg; show g ≠ w.heap.size + 1 + 1; omega
  · rw [faultE] at he
    subst he
    have HZ : Hid _ := unp_no h1
    obtain ⟨c, hc⟩ : ∃ n, (unp l).1 = n := ⟨_, rfl⟩
    obtain ⟨a, ha⟩ : ∃ n, (unp l).2.1 = n := ⟨_, rfl⟩
    rw [hc, ha]
    have HC : Hid _ := hc
    have HA : Hid _ := ha
    clear hc ha h1
    go_wp2
    refine leaves_cons (f := 37) (args := #[.pointer (some ⟨w.heap.size, 0, none⟩), .pointer (some ⟨w.heap.size + 1, 0, none⟩), .pointer (some ⟨w.heap.size + 1 + 1, 0, none⟩)]) (by simp) (by simp [go_sem]) ?_
    refine (catch_fault w.heap.size c a [] _ _ _ _ _ (hg.below B1) y0 y1 y2 y3 g0 g1 g2 g3).mono ?_
    rintro e u' w'' ⟨rfl, rfl, b2, z0, z1, z2, z3⟩
    simp [Leaves, settle, results, Tryz.results10, go_sem, z0, z1, z2, z3]
    unfold UnpR
    rw [HZ.out, HC.out, HA.out]
    exact ⟨B1.trans b2, none, 0, rfl, World.ownsRow_nil _ _ _ _⟩
end Go.Proofs.YtjnekdihmchlpaaGreatDoor
/- From what a row lists of Go's library's tables, a type's handle among them, to what the contracts ask of them. -/
namespace Go.Proofs.YtjnekdihmchlpaaGreatDoor
open Go.ChangeShapes Go.WideShapes Go.ChangeAt Go.RowKit
theorem etM : Tryz.prog.globalNamed "errors.errorType" = some 1 := by kernel_rfl
theorem rtM : (Tryz.prog.cutTypes.find? (·.1 == "internal/reflectlite.rtype")).map (·.2) = some 198 := by kernel_rfl
theorem oneRowM : ((List.range 262).filter fun t => Tryz.prog.rowNamed t [101, 114, 114, 111, 114]) = [75] := by kernel_rfl
theorem sizeM : Tryz.prog.types.size = 262 := by kernel_rfl
theorem handle_of {W : World} (h : handlesMet Tryz.prog [("errors.errorType", Rows.laid_errors_errorType)] W) : ErrTy W := by
  obtain ⟨name, u, ty, e1, e2, e3, e4, e5⟩ := h _ (List.mem_singleton.2 rfl)
  have en : name = [101, 114, 114, 111, 114] := (Option.some.inj e1).symm
  subst en
  obtain rfl := Option.some.inj (rtM.symm.trans e2)
  have hm : ty ∈ (List.range 262).filter fun t => Tryz.prog.rowNamed t [101, 114, 114, 111, 114] := List.mem_filter.2 ⟨List.mem_range.2 (by rw [← sizeM]; exact e3), e4⟩
  rw [oneRowM] at hm
  obtain rfl := List.mem_singleton.1 hm
  have hh : typeHandle Tryz.prog 75 = .pointer (some ⟨10, 75, none⟩) := by kernel_rfl
  rw [hh] at e5
  unfold ErrTy
  simpa using World.var?_cell etM e5 0
/-- tables laid over a world of one's own -/
theorem laidMet_over {P : Program} {w0 : World} {laid : List (String × DataW Unit)} (args : Array Value) (hf : w0.layFits P laid [] = true) (hi : w0.layIfaces P laid (w0.layVars P laid) = true) :
    laidMet P laid ((w0.layVars P laid).forCall (fun _ _ => 0) ⟨#[], args, []⟩).memory := by
  have e1 : (laid.filter fun x => (laid.map (·.1)).contains x.1) = laid := List.filter_eq_self.2 fun x hx => List.contains_iff_mem.2 (List.mem_map.2 ⟨x, hx, rfl⟩)
  have e2 : (laid.filter fun x => !(laid.map (·.1)).contains x.1) = [] := List.filter_eq_nil_iff.2 fun x hx => by rw [List.contains_iff_mem.2 (List.mem_map.2 ⟨x, hx, rfl⟩)]; simp
  have h : laidMet P laid (w0.layVars P laid) := laidMet_layVars (w0 := w0) (laid.map (·.1)) [] (by rw [e1]) (by rw [e1]; exact hf) (by rw [e1]; exact hi) (by rw [e2]; exact LaidIn.none)
  exact h.of_heap (by simp [World.memory, World.forCall, Input.heap])
end Go.Proofs.YtjnekdihmchlpaaGreatDoor
