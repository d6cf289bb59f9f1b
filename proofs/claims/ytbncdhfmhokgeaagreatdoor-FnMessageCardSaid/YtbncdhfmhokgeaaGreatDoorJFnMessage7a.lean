/- Joined: FUnp, MHand. -/
import Derived.Test.YtbncdhfmhokgeaaGreatDoorKFnMessageFCatch
import Derived.Tactics2
import Derived.Laws.Pointers
import Derived.Test.YtbncdhfmhokgeaaGreatDoorJFnMessage1a
import Derived.LaidHandle
import Derived.LaidLaws
/- The contract of UnpackMessage, the program's. -/
namespace Go.Proofs.YtbncdhfmhokgeaaGreatDoor
open Go.RowKit

theorem unp_ok {l : List UInt8} (h : (unp l).1 = 0) : (unp l).2.1 = 0 := by
  unfold unp at h ⊢
  split at h
  · simp at h
  · rename_i h1; rw [if_neg h1]
    split at h
    · simp at h
    · rename_i h2; rw [if_neg h2]
      split at h
      · rename_i h3; rw [if_pos h3]
      · rename_i h3; exact absurd h h3
theorem unp_no {l : List UInt8} (h : (unp l).1 ≠ 0) : (unp l).2.2 = (0, []) := by
  unfold unp at h ⊢
  split at h
  · rename_i h1; rw [if_pos h1]
  · rename_i h1; rw [if_neg h1]
    split at h
    · rename_i h2; rw [if_pos h2]
    · rename_i h2; rw [if_neg h2]
      split at h
      · simp at h
      · rename_i h3; rw [if_neg h3]

/-- what UnpackMessage answers: a message of one's own, a code, a place -/
def UnpR (w : World) (l : List UInt8) (e : Ending) (w' : World) : Prop :=
  Below w.heap.size w w' ∧ ∃ ao cap, e = .returned (.tuple #[.agg #[.int .i64 (unp l).2.2.1, .slice ao (unp l).2.2.2.length cap], .int .i64 (unp l).1, .int .i64 (unp l).2.1]) ∧
    w'.ownsRow w.heap.size 60 2 (.slice ao (unp l).2.2.2.length cap) (unp l).2.2.2.length (fcells (unp l).2.2.2)

set_option maxRecDepth 100000 in
set_option maxHeartbeats 1600000 in
theorem iUnpack_any (l : List UInt8) (w : World) (hl : l.length ≤ 1048576) (hg : ErrTy w) :
    Calls Tryz.prog 13 #[.string ⟨l.toArray⟩] w fun e w' => UnpR w l e w' := by
  have hmf : ∀ (fn : Fn) (first cap : Array Value) (w : World), (Instr.makeFunc fn first cap).run Tryz.prog w = .ok (.func fn first cap) w := fun _ _ _ _ => rfl
  obtain ⟨W, hW⟩ : ∃ W, ((w.alloc (.cells #[.int .i64 0, .slice none 0 0] 26)).alloc (.cells #[.int .i64 0] 3)).alloc (.cells #[.int .i64 0] 3) = W := ⟨_, rfl⟩
  have x0 : W.cell? ⟨w.heap.size, 0, none⟩ = some (.int .i64 0) := by rw [← hW]; simp [go_sem]
  have x1 : W.cell? ⟨w.heap.size, 1, none⟩ = some (.slice none 0 0) := by rw [← hW]; simp [go_sem]
  have x2 : W.cell? ⟨w.heap.size + 1, 0, none⟩ = some (.int .i64 0) := by rw [← hW]; simp [go_sem]
  have x3 : W.cell? ⟨w.heap.size + 1 + 1, 0, none⟩ = some (.int .i64 0) := by rw [← hW]; simp [go_sem]
  have f0 : W.frozen? ⟨w.heap.size, 0, none⟩ = false := by rw [← hW]; simp [go_sem]
  have f1 : W.frozen? ⟨w.heap.size, 1, none⟩ = false := by rw [← hW]; simp [go_sem]
  have f2 : W.frozen? ⟨w.heap.size + 1, 0, none⟩ = false := by rw [← hW]; simp [go_sem]
  have f3 : W.frozen? ⟨w.heap.size + 1 + 1, 0, none⟩ = false := by rw [← hW]; simp [go_sem]
  have hs : W.heap.size = w.heap.size + 3 := by rw [← hW]; simp
  have bel : Below w.heap.size w W := by rw [← hW]; exact (((Below.refl _ _).alloc (Nat.le_refl _) _).alloc (by simp) _).alloc (by simp; omega) _
  have HW : Hid _ := hW
  clear hW
  go_enter_defers Tryz.func13, Tryz.ntmps13
  go_wp2_with fail
  rw [HW.out]
  refine (readMessage_any l _ hl).mono ?_
  rintro e w1 ⟨b1, hcase⟩
  have y0 := (b1.cell (p := ⟨w.heap.size, 0, none⟩) (by show w.heap.size < W.heap.size; omega)).trans x0
  have y1 := (b1.cell (p := ⟨w.heap.size, 1, none⟩) (by show w.heap.size < W.heap.size; omega)).trans x1
  have y2 := (b1.cell (p := ⟨w.heap.size + 1, 0, none⟩) (by show w.heap.size + 1 < W.heap.size; omega)).trans x2
  have y3 := (b1.cell (p := ⟨w.heap.size + 1 + 1, 0, none⟩) (by show w.heap.size + 1 + 1 < W.heap.size; omega)).trans x3
  have g0 := (b1.frozen (p := ⟨w.heap.size, 0, none⟩) (by show w.heap.size < W.heap.size; omega)).trans f0
  have g1 := (b1.frozen (p := ⟨w.heap.size, 1, none⟩) (by show w.heap.size < W.heap.size; omega)).trans f1
  have g2 := (b1.frozen (p := ⟨w.heap.size + 1, 0, none⟩) (by show w.heap.size + 1 < W.heap.size; omega)).trans f2
  have g3 := (b1.frozen (p := ⟨w.heap.size + 1 + 1, 0, none⟩) (by show w.heap.size + 1 + 1 < W.heap.size; omega)).trans f3
  have B1 : Below w.heap.size w w1 := bel.trans (b1.mono (by omega))
  clear x0 x1 x2 x3 f0 f1 f2 f3 HW
  rcases hcase with ⟨h0, ao, cap, rfl, ho⟩ | ⟨h1, he⟩
  · have HZ : Hid _ := unp_ok h0
    have H0 : Hid _ := h0
    obtain ⟨n, hn⟩ : ∃ n, (unp l).2.2.2.length = n := ⟨_, rfl⟩
    obtain ⟨kd, hkd⟩ : ∃ n, (unp l).2.2.1 = n := ⟨_, rfl⟩
    rw [hn] at ho
    rw [hn, hkd]
    have HO : Hid (w1.ownsRow W.heap.size 60 2 (.slice ao n cap) n (fcells (unp l).2.2.2)) := ho
    have HN : Hid _ := hn
    have HK : Hid _ := hkd
    clear hn hkd h0 ho
    go_wp2
    refine leaves_cons (f := 46) (args := #[.pointer (some ⟨w.heap.size, 0, none⟩), .pointer (some ⟨w.heap.size + 1, 0, none⟩), .pointer (some ⟨w.heap.size + 1 + 1, 0, none⟩)]) (by simp) (by simp [go_sem]) ?_
    refine (catch_idle _ _ _ _).mono ?_
    rintro e u' w'' ⟨rfl, rfl, rfl⟩
    simp [Leaves, settle, results, Tryz.results13, go_sem, y0, y1, y2, y3]
    unfold UnpR
    rw [HN.out, HK.out, H0.out, HZ.out]
    have hne : ∀ g, (Value.slice ao n cap).ownBlock = some g → W.heap.size ≤ g := fun g hg => (World.ownsRow.lt HO.out g hg).1
    refine ⟨(((B1.setCell (Nat.le_refl _) _).setCell (Nat.le_refl _) _).setCell (Nat.le_succ _) _).setCell (by show w.heap.size ≤ w.heap.size + 1 + 1; omega) _, ao, cap, rfl, lowerRow (keepSet (keepSet (keepSet (keepSet HO.out _ _ ?_) _ _ ?_) _ _ ?_) _ _ ?_) (by omega)⟩
    · intro g hg; have := hne g hg; show g ≠ w.heap.size; omega
    · intro g hg; have := hne g hg; show g ≠ w.heap.size; omega
    · intro g hg; have := hne g hg; show g ≠ w.heap.size + 1; omega
    · intro g hg; have := hne g hg; show g ≠ w.heap.size + 1 + 1; omega
  · rw [faultE] at he
    subst he
    have HZ : Hid _ := unp_no h1
    obtain ⟨c, hc⟩ : ∃ n, (unp l).1 = n := ⟨_, rfl⟩
    obtain ⟨a, ha⟩ : ∃ n, (unp l).2.1 = n := ⟨_, rfl⟩
    rw [hc, ha]
    have HC : Hid _ := hc
    have HA : Hid _ := ha
    clear hc ha h1
    go_wp2
    refine leaves_cons (f := 46) (args := #[.pointer (some ⟨w.heap.size, 0, none⟩), .pointer (some ⟨w.heap.size + 1, 0, none⟩), .pointer (some ⟨w.heap.size + 1 + 1, 0, none⟩)]) (by simp) (by simp [go_sem]) ?_
    refine (catch_fault w.heap.size c a [] _ _ _ _ _ (hg.below B1) y0 y1 y2 y3 g0 g1 g2 g3).mono ?_
    rintro e u' w'' ⟨rfl, rfl, b2, z0, z1, z2, z3⟩
    simp [Leaves, settle, results, Tryz.results13, go_sem, z0, z1, z2, z3]
    unfold UnpR
    rw [HZ.out, HC.out, HA.out]
    exact ⟨B1.trans b2, none, 0, rfl, World.ownsRow_nil _ _ _ _⟩

end Go.Proofs.YtbncdhfmhokgeaaGreatDoor

/- From what a row lists of Go's library's tables, a type's handle among them, to what the contracts ask of them. -/
namespace Go.Proofs.YtbncdhfmhokgeaaGreatDoor
open Go.ChangeShapes Go.WideShapes Go.ChangeAt Go.RowKit

theorem etM : Tryz.prog.globalNamed "errors.errorType" = some 0 := by kernel_rfl
theorem rtM : (Tryz.prog.cutTypes.find? (·.1 == "internal/reflectlite.rtype")).map (·.2) = some 198 := by kernel_rfl
theorem oneRowM : ((List.range 255).filter fun t => Tryz.prog.rowNamed t [101, 114, 114, 111, 114]) = [124] := by kernel_rfl
theorem sizeM : Tryz.prog.types.size = 255 := by kernel_rfl
theorem handle_of {W : World} (h : handlesMet Tryz.prog [("errors.errorType", Rows.laid_errors_errorType)] W) : ErrTy W := by
  obtain ⟨name, u, ty, e1, e2, e3, e4, e5⟩ := h _ (List.mem_singleton.2 rfl)
  have en : name = [101, 114, 114, 111, 114] := (Option.some.inj e1).symm
  subst en
  obtain rfl := Option.some.inj (rtM.symm.trans e2)
  have hm : ty ∈ (List.range 255).filter fun t => Tryz.prog.rowNamed t [101, 114, 114, 111, 114] := List.mem_filter.2 ⟨List.mem_range.2 (by rw [← sizeM]; exact e3), e4⟩
  rw [oneRowM] at hm
  obtain rfl := List.mem_singleton.1 hm
  have hh : typeHandle Tryz.prog 124 = .pointer (some ⟨7, 124, none⟩) := by kernel_rfl
  rw [hh] at e5
  unfold ErrTy
  simpa using World.var?_cell etM e5 0
/-- tables laid over a world of one's own -/
theorem laidMet_over {P : Program} {w0 : World} {laid : List (String × DataW Unit)} (args : Array Value) (hf : w0.layFits P laid [] = true) (hi : w0.layIfaces P laid (w0.layVars P laid) = true) :
    laidMet P laid ((w0.layVars P laid).forCall (fun _ _ => 0) ⟨#[], args, []⟩).memory := by
  have e1 : (laid.filter fun x => (laid.map (·.1)).contains x.1) = laid := List.filter_eq_self.2 fun x hx => List.contains_iff_mem.2 (List.mem_map.2 ⟨x, hx, rfl⟩)
  have e2 : (laid.filter fun x => !(laid.map (·.1)).contains x.1) = [] := List.filter_eq_nil_iff.2 fun x hx => by rw [List.contains_iff_mem.2 (List.mem_map.2 ⟨x, hx, rfl⟩)]; simp
  have h : laidMet P laid (w0.layVars P laid) := laidMet_layVars (w0 := w0) (laid.map (·.1)) [] (by rw [e1]) (by rw [e1]; exact hf) (by rw [e1]; exact hi) (by rw [e2]; exact LaidIn.none)
  exact h.of_heap (by simp [World.memory, World.forCall, Input.heap])

end Go.Proofs.YtbncdhfmhokgeaaGreatDoor
