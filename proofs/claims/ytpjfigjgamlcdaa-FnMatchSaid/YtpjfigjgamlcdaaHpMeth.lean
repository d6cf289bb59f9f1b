/- The methods of a heap of candidates, found through its interface. -/
import Derived.Test.YtpjfigjgamlcdaaAid
import Derived.Test.YtpjfigjgamlcdaaBase
import Derived.Handy
namespace Go.Proofs.Ytpjfigjgamlcdaa
open Go.RowKit
set_option maxRecDepth 100000

theorem methPush (a : Value) (w : World) : (method 228 82 a "Push").run Try.prog w = .ok (107, a) w := by kernel_rfl
theorem methPop (a : Value) (w : World) : (method 228 82 a "Pop").run Try.prog w = .ok (106, a) w := by kernel_rfl
theorem nilchk (a : Addr) (nm : String) (w : World) : (Builtin.ssaWrapNilChk_ #[82] 82 #[.pointer (some a), strVal "", strVal nm]).run Try.prog w = .ok (.pointer (some a)) w := rfl
theorem recv_at (nm : String) {a : Addr} {v : Value} {w : World} (h : w.cell? a = some v) : (receiverAt 82 (.val (.pointer (some a))) false (some nm)).run Try.prog w = .ok v w := by
  simp [receiverAt, run_underlying Try.underlying82, Place.get, nilchk, asAddr, loadVar, Try.isAgg58, h]
theorem meth_found {t : TypeId} {nm : String} {f : FuncId} (im : (Try.prog.info? t).map (fun i => (i.methods.find? (·.name == nm)).map fun m => (m.path, m.func)) = some (some (#[], some (f, false)))) (n : Nat) (x : Value) (w : World) {v : Value}
    (hr : ∀ s, (receiverAt t (.val x) false (some s)).run Try.prog w = .ok v w) : (method (n + 1) t x nm).run Try.prog w = .ok (f, v) w := by
  cases hq : Try.prog.info? t with
  | none => rw [hq] at im; cases im
  | some i =>
    rw [hq] at im
    cases hm : i.methods.find? (·.name == nm) with
    | none => simp [hm] at im
    | some m =>
      simp [hm] at im
      obtain ⟨h1, h2⟩ := im
      rw [method]
      simp [typeInfo, hq, hm, follow, h1, h2]
      rw [hr]
      rfl
theorem methLen {a : Addr} {v : Value} {w : World} (h : w.cell? a = some v) : (method 228 82 (.pointer (some a)) "Len").run Try.prog w = .ok (60, v) w :=
  meth_found (by kernel_rfl) _ _ w (fun _ => recv_at _ h)
theorem methLess {a : Addr} {v : Value} {w : World} (h : w.cell? a = some v) : (method 228 82 (.pointer (some a)) "Less").run Try.prog w = .ok (101, v) w :=
  meth_found (by kernel_rfl) _ _ w (fun _ => recv_at _ h)
theorem methSwap {a : Addr} {v : Value} {w : World} (h : w.cell? a = some v) : (method 228 82 (.pointer (some a)) "Swap").run Try.prog w = .ok (102, v) w :=
  meth_found (by kernel_rfl) _ _ w (fun _ => recv_at _ h)

end Go.Proofs.Ytpjfigjgamlcdaa
