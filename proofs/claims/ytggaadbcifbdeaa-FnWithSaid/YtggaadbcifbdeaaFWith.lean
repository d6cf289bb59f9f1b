/- The contract of the program's With. -/
import Derived.Test.YtggaadbcifbdeaaFMsgOk
import Derived.Test.YtggaadbcifbdeaaFCopy
import Derived.Test.YtggaadbcifbdeaaFConcat
import Derived.Test.YtggaadbcifbdeaaWithP
namespace Go.Proofs.Ytggaadbcifbdeaa
open Go.RowKit
set_option maxRecDepth 100000

def withOk (kd : Int) (fs : List Fld) (num : Int) (d : List UInt8) : Bool := fieldOk num d && msgOk kd fs
def withL (kd : Int) (fs : List Fld) (num : Int) (d : List UInt8) : List Fld := if withOk kd fs num d = true then withF fs num d else fs
theorem withL_no {kd : Int} {fs : List Fld} {num : Int} {d : List UInt8} (h : withOk kd fs num d = false) : withL kd fs num d = fs := if_neg (by rw [h]; decide)
theorem withL_yes {kd : Int} {fs : List Fld} {num : Int} {d : List UInt8} (h : withOk kd fs num d = true) : withL kd fs num d = withF fs num d := if_pos h
theorem withL_len (kd : Int) (fs : List Fld) (num : Int) (d : List UInt8) : (withL kd fs num d).length ≤ fs.length + 1 := by
  unfold withL; split
  · exact withF_len fs num d
  · omega
/-- what With answers: a message whose fields are its own -/
def Withs (w : World) (kd : Int) (gs : List Fld) (ok : Bool) (e : Ending) (w' : World) : Prop :=
  ∃ ao cap, e = .returned (.tuple #[.agg #[.int .i64 kd, .slice ao gs.length cap], .bool ok]) ∧ w'.ownsRow w.heap.size 35 2 (.slice ao gs.length cap) gs.length (fcells gs) ∧ Below w.heap.size w w'

theorem threebox {w u : World} {x y x' y' x'' y'' : Value} {t t' t'' : TypeId} (b : Below (((w.alloc (.cells #[x, y] t)).alloc (.cells #[x', y'] t')).alloc (.cells #[x'', y''] t'')).heap.size (((w.alloc (.cells #[x, y] t)).alloc (.cells #[x', y'] t')).alloc (.cells #[x'', y''] t'')) u) :
    u.cell? ⟨w.heap.size, 0, none⟩ = some x ∧ u.cell? ⟨w.heap.size, 1, none⟩ = some y ∧ u.cell? ⟨w.heap.size + 1, 0, none⟩ = some x' ∧ u.cell? ⟨w.heap.size + 1, 1, none⟩ = some y' ∧
      u.frozen? ⟨w.heap.size + 1, 0, none⟩ = false ∧ u.frozen? ⟨w.heap.size + 1, 1, none⟩ = false ∧ u.cell? ⟨w.heap.size + 1 + 1, 0, none⟩ = some x'' ∧ u.cell? ⟨w.heap.size + 1 + 1, 1, none⟩ = some y'' ∧ Below w.heap.size w u ∧ w.heap.size + 1 + 1 < u.heap.size :=
  ⟨(b.cell (p := ⟨w.heap.size, 0, none⟩) (by simp; omega)).trans (by simp [go_sem]), (b.cell (p := ⟨w.heap.size, 1, none⟩) (by simp; omega)).trans (by simp [go_sem]),
    (b.cell (p := ⟨w.heap.size + 1, 0, none⟩) (by simp)).trans (by simp [go_sem]), (b.cell (p := ⟨w.heap.size + 1, 1, none⟩) (by simp)).trans (by simp [go_sem]),
    (b.frozen (p := ⟨w.heap.size + 1, 0, none⟩) (by simp)).trans (by simp [go_sem]), (b.frozen (p := ⟨w.heap.size + 1, 1, none⟩) (by simp)).trans (by simp [go_sem]),
    (b.cell (p := ⟨w.heap.size + 1 + 1, 0, none⟩) (by simp)).trans (by simp [go_sem]), (b.cell (p := ⟨w.heap.size + 1 + 1, 1, none⟩) (by simp)).trans (by simp [go_sem]),
    ((((Below.refl _ _).alloc (Nat.le_refl _) _).alloc (by simp) _).alloc (by simp; omega) _).trans (b.mono (by simp; omega)), by have := b.size; simp at this; omega⟩

theorem with_end {kd : Int} {g n : Nat} {w u : World} {ok : Bool} {gs fs : List Fld} (hg : gs = fs) (hn : n = fs.length) (ho : u.ownsRow w.heap.size 35 2 (.slice (some ⟨g, 0, none⟩) n n) n (fcells fs)) (hb : Below w.heap.size w u) (hlt : w.heap.size + 1 < g) :
    Withs w kd gs ok (.returned (.tuple #[.agg #[.int .i64 kd, .slice (some ⟨g, 0, none⟩) n n], .bool ok])) ((u.setCell ⟨w.heap.size + 1, 0, none⟩ (.int .i64 kd)).setCell ⟨w.heap.size + 1, 1, none⟩ (.slice (some ⟨g, 0, none⟩) n n)) := by
  subst hg; subst hn
  have hne : ∀ (x : Nat), (Value.slice (some ⟨g, 0, none⟩) gs.length gs.length).ownBlock = some x → x ≠ w.heap.size + 1 := by
    intro x h
    simp [Value.ownBlock] at h
    omega
  exact ⟨_, _, rfl, keepSet (keepSet ho _ _ hne) _ _ hne, (hb.setCell (by show w.heap.size ≤ w.heap.size + 1; omega) _).setCell (by show w.heap.size ≤ w.heap.size + 1; omega) _⟩

theorem iMessageOk_is {kd : Int} {ao : Option Addr} {cap : Nat} {fs : List Fld} {w : World} {q : Bool} (hq : msgOk kd fs = q) (hz : FldsAt w ao fs) (hn : fs.length ≤ 1048576) (hd : sumF fs ≤ 1048576) :
    Calls Try.prog 10 #[.agg #[.int .i64 kd, .slice ao fs.length cap]] w fun e w' => e = .returned (.bool q) ∧ Below w.heap.size w w' := by
  rw [← hq]; exact iMessageOk_any kd ao cap fs w hz hn hd

set_option maxHeartbeats 1600000 in
theorem iWith_no (kd : Int) (ao : Option Addr) (cap : Nat) (fs : List Fld) (num : Int) (d : List UInt8) (w : World) (hz : FldsAt w ao fs) (hn : fs.length ≤ 1048576) (hd : sumF fs ≤ 1048576) (hl : d.length ≤ 1099511627776) (hno : withOk kd fs num d = false) :
    Calls Try.prog 6 #[.agg #[.int .i64 kd, .slice ao fs.length cap], .int .i64 num, .string ⟨d.toArray⟩] w (Withs w kd (withL kd fs num d) (withOk kd fs num d)) := by
  have HL : Hid _ := withL_no hno
  have hds : ∀ f ∈ fs, f.2.length ≤ 1099511627776 := fun f hf => by have := sumF_mem hf; omega
  rw [hno]
  have hno' := hno
  unfold withOk at hno'
  cases hf : fieldOk num d
  · have HF : Hid _ := hf
    clear hno hno' hf
    go_enter Try.func6, Try.ntmps6
    go_wp2_with fail
    refine (iFieldOk_is HF.out _ hl).mono ?_
    rintro e w1 ⟨rfl, b1⟩
    obtain ⟨x0, x1, x2, x3, f2, f3, _, _, bel, hsz⟩ := threebox b1
    clear b1
    go_wp2_with fail
    refine (copyMessage_any _ _ _ _ _ (hz.below bel) (by omega) hds).mono ?_
    rintro e w2 ⟨g, rfl, o2, b2⟩
    have y2 := (b2.cell (p := ⟨w.heap.size + 1, 0, none⟩) (by show w.heap.size + 1 < w1.heap.size; omega)).trans x2
    have y3 := (b2.cell (p := ⟨w.heap.size + 1, 1, none⟩) (by show w.heap.size + 1 < w1.heap.size; omega)).trans x3
    have z2 := (b2.frozen (p := ⟨w.heap.size + 1, 0, none⟩) (by show w.heap.size + 1 < w1.heap.size; omega)).trans f2
    have z3 := (b2.frozen (p := ⟨w.heap.size + 1, 1, none⟩) (by show w.heap.size + 1 < w1.heap.size; omega)).trans f3
    have hgl : w.heap.size + 1 < g := by have := (o2.lt g rfl).1; omega
    have HE : Hid _ := with_end (kd := kd) (ok := false) HL.out rfl (lowerRow o2 bel.size) (next bel b2) hgl
    clear x0 x1 x2 x3 f2 f3 bel hsz o2 b2 hz
    go_wp2
    refine bodyPost_ret (by simp [results, Try.results6, go_sem, y2, y3]; try rfl) rfl ?_
    exact HE.out
  · rw [hf, Bool.true_and] at hno'
    have HF : Hid _ := hf
    have HM : Hid _ := hno'
    clear hno hno' hf
    go_enter Try.func6, Try.ntmps6
    go_wp2_with fail
    refine (iFieldOk_is HF.out _ hl).mono ?_
    rintro e w1 ⟨rfl, b1⟩
    obtain ⟨x0, x1, x2, x3, f2, f3, _, _, bel, hsz⟩ := threebox b1
    clear b1
    go_wp2_with fail
    refine (iMessageOk_is HM.out (hz.below bel) hn hd).mono ?_
    rintro e w1' ⟨rfl, b1'⟩
    have x0 := (b1'.cell (p := ⟨w.heap.size, 0, none⟩) (by show w.heap.size < w1.heap.size; omega)).trans x0
    have x1 := (b1'.cell (p := ⟨w.heap.size, 1, none⟩) (by show w.heap.size < w1.heap.size; omega)).trans x1
    have x2 := (b1'.cell (p := ⟨w.heap.size + 1, 0, none⟩) (by show w.heap.size + 1 < w1.heap.size; omega)).trans x2
    have x3 := (b1'.cell (p := ⟨w.heap.size + 1, 1, none⟩) (by show w.heap.size + 1 < w1.heap.size; omega)).trans x3
    have f2 := (b1'.frozen (p := ⟨w.heap.size + 1, 0, none⟩) (by show w.heap.size + 1 < w1.heap.size; omega)).trans f2
    have f3 := (b1'.frozen (p := ⟨w.heap.size + 1, 1, none⟩) (by show w.heap.size + 1 < w1.heap.size; omega)).trans f3
    have bel := next bel b1'
    have hsz' := b1'.size
    clear b1'
    go_wp2_with fail
    refine (copyMessage_any _ _ _ _ _ (hz.below bel) (by omega) hds).mono ?_
    rintro e w2 ⟨g, rfl, o2, b2⟩
    have y2 := (b2.cell (p := ⟨w.heap.size + 1, 0, none⟩) (by show w.heap.size + 1 < w1'.heap.size; omega)).trans x2
    have y3 := (b2.cell (p := ⟨w.heap.size + 1, 1, none⟩) (by show w.heap.size + 1 < w1'.heap.size; omega)).trans x3
    have z2 := (b2.frozen (p := ⟨w.heap.size + 1, 0, none⟩) (by show w.heap.size + 1 < w1'.heap.size; omega)).trans f2
    have z3 := (b2.frozen (p := ⟨w.heap.size + 1, 1, none⟩) (by show w.heap.size + 1 < w1'.heap.size; omega)).trans f3
    have hgl : w.heap.size + 1 < g := by have := (o2.lt g rfl).1; omega
    have HE : Hid _ := with_end (kd := kd) (ok := false) HL.out rfl (lowerRow o2 bel.size) (next bel b2) hgl
    clear x0 x1 x2 x3 f2 f3 bel hsz o2 b2 hz
    go_wp2
    refine bodyPost_ret (by simp [results, Try.results6, go_sem, y2, y3]; try rfl) rfl ?_
    exact HE.out

end Go.Proofs.Ytggaadbcifbdeaa
