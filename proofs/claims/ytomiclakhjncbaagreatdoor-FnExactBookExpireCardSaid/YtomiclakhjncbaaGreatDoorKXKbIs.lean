import Derived.Test.YtomiclakhjncbaaGreatDoorJX0a
import Derived.Test.YtomiclakhjncbaaGreatDoorKXKbDo
import Derived.LaidEql
import Derived.Stop.Asserts
import Derived.RowKitTokens
namespace Go.Proofs.YtomiclakhjncbaaGreatDoor.Kb
open Go.RowKit Go.Extern.Stop Go.Stop Go.Extern Go.Proofs.Tryz
set_option maxRecDepth 100000
set_option maxHeartbeats 12800000
def kQ : TypeId → Sem Value := fun t => do Rtype.noPackHeld "Comparable" t; pure (.bool (← typeInfo t).comparable)
theorem So (v:Value) (w:World):(Extern.ReflectliteType.typeOf #[.iface 372 v]).run prog w=.ok (.iface 247 (.agg #[.pointer (some ⟨17,372,none⟩)])) w:=by kernel_rfl
theorem Ll (w:World):((Extern.ReflectliteType.method kQ) #[.agg #[.pointer (some ⟨17,372,none⟩)]]).run prog w=.ok (.bool true) w:=by kernel_rfl
theorem Qd (v : Value) (w : World) : (Go.method 501 247 v "Comparable").run prog w = .ok (390, v) w := by kernel_rfl
theorem dJ:(prog.info? 372).map (·.comparable)=some true:=by kernel_rfl
theorem cQ:(prog.info? 390).map (·.size)=some 1:=by kernel_rfl
theorem Wy (v:Value) (xT:TypeId) (w:World):(Instr.typeAssert (.iface 372 v) xT 249 true).run prog w=.ok (.tuple #[.nilIface,.bool false]) w:=run_typeAssert_lacksB underlying249 (by kernel_rfl) (by kernel_rfl) v xT w
theorem Xj (v:Value) (xT:TypeId) (w:World):(Instr.typeAssert (.iface 372 v) xT 252 true).run prog w=.ok (.tuple #[.nilIface,.bool false]) w:=run_typeAssert_lacksB underlying252 (by kernel_rfl) (by kernel_rfl) v xT w
theorem Wl (v:Value) (xT:TypeId) (w:World):(Instr.typeAssert (.iface 372 v) xT 254 true).run prog w=.ok (.tuple #[.nilIface,.bool false]) w:=run_typeAssert_lacksB underlying254 (by kernel_rfl) (by kernel_rfl) v xT w
theorem We (v:Value) (xT:TypeId) (w:World):(Instr.typeAssert (.iface 170 v) xT 249 true).run prog w=.ok (.tuple #[.nilIface,.bool false]) w:=run_typeAssert_lacksB underlying249 (by kernel_rfl) (by kernel_rfl) v xT w
theorem Ta (v:Value) (xT:TypeId) (w:World):(Instr.typeAssert (.iface 170 v) xT 252 true).run prog w=.ok (.tuple #[.iface 170 v,.bool true]) w:=run_typeAssert_hasB underlying252 (by kernel_rfl) v xT w
theorem Qa (v : Value) (w : World) : (Go.method 501 170 v "Unwrap").run prog w = .ok (381, v) w := by kernel_rfl
theorem kO (y:Value) (c:Int) (w:World):Calls prog 381 #[.agg #[y,.int .i64 c]] w fun e w'=>e=.returned y∧BW w w':=by
 go_enter func381,ntmps381
 go_wp2;go_ret
 exact ⟨by simp,by go_grown⟩
theorem qM (b:Addr) (w:World) :
  Calls prog 128 #[.nilIface,.iface 372 (.pointer (some b))] w fun e w'=>e=.returned (.bool false)∧w'=w:=by
 have hn:=run_eql_iface_nil_left (P:=prog) w 372 (.pointer (some b)) underlying104
 go_enter func128,ntmps128
 go_wp2;go_ret;exact ⟨rfl,rfl⟩
theorem qD (c:Int) (b:Addr) (w:World) :
  Calls prog 128 #[.iface 170 (.agg #[.iface 372 (.pointer (some b)),.int .i64 c]),.iface 372 (.pointer (some b))] w fun e w'=>e=.returned (.bool true)∧BW w w':=by
 obtain ⟨i,hi,hcmp⟩:=Option.map_eq_some_iff.1 dJ;obtain ⟨j,hj,hjs⟩:=Option.map_eq_some_iff.1 cQ
 have h8:=@run_callFunc_extern prog 164 _ Extern.ReflectliteType.typeOf func164 (by kernel_rfl) (by kernel_rfl) (by kernel_rfl) (by kernel_rfl)
 have h32:=@run_callFunc_extern prog 390 _ (Extern.ReflectliteType.method kQ) func390 (by kernel_rfl) (by kernel_rfl) (by kernel_rfl) (by kernel_rfl)
 have tT:=So;have cT:=Ll;have mR:=Qd;have nE:=Wy;have uE:=Xj;have vE:=Wl;have nW:=We;have uW:=Ta;have mU:=Qa
 have heq:=fun W=>run_eql_iface_ptr_same (P:=prog) W b underlying104 underlying372 hi hcmp hj
 have hty:=run_eql_iface_types (P:=prog) 170 372 (.agg #[.iface 372 (.pointer (some b)),.int .i64 c]) (.pointer (some b)) underlying104 (by decide) w
 go_enter func128,ntmps128
 go_wp2;refine wp_loop_rounds 2 ?_;rw [rounds_succ]
 go_wp2_with (go_at_call 381;refine Calls.mono (kO _ _ _) ?_;rintro e w1 ⟨rfl,b1⟩;have HB1:Hid (BW w w1):=next (by go_grown) b1;clear b1)
 rw [rounds_succ];go_wp2;go_ret;exact ⟨rfl,HB1.o⟩
theorem nA (c:Int) (a b:Addr) (ca cb:Array Value) (ta tb:TypeId) (w:World) (hne:a≠b) (ha:w.heap[a.block]?=some (.cells ca ta (0,0))) (hb:w.heap[b.block]?=some (.cells cb tb (0,0))) :
  Calls prog 128 #[.iface 170 (.agg #[.iface 372 (.pointer (some a)),.int .i64 c]),.iface 372 (.pointer (some b))] w fun e w'=>e=.returned (.bool false)∧BW w w':=by
 obtain ⟨i,hi,hcmp⟩:=Option.map_eq_some_iff.1 dJ;obtain ⟨j,hj,hjs⟩:=Option.map_eq_some_iff.1 cQ
 have h8:=@run_callFunc_extern prog 164 _ Extern.ReflectliteType.typeOf func164 (by kernel_rfl) (by kernel_rfl) (by kernel_rfl) (by kernel_rfl)
 have h32:=@run_callFunc_extern prog 390 _ (Extern.ReflectliteType.method kQ) func390 (by kernel_rfl) (by kernel_rfl) (by kernel_rfl) (by kernel_rfl)
 have tT:=So;have cT:=Ll;have mR:=Qd;have nE:=Wy;have uE:=Xj;have vE:=Wl;have nW:=We;have uW:=Ta;have mU:=Qa
 have hty:=run_eql_iface_types (P:=prog) 170 372 (.agg #[.iface 372 (.pointer (some a)),.int .i64 c]) (.pointer (some b)) underlying104 (by decide) w
 have HA:Hid (w.heap[a.block]?=some (.cells ca ta (0,0))):=ha;have HB:Hid (w.heap[b.block]?=some (.cells cb tb (0,0))):=hb;clear ha hb
 go_enter func128,ntmps128
 go_wp2;refine wp_loop_rounds 2 ?_;rw [rounds_succ]
 go_wp2_with (go_at_call 381;refine Calls.mono (kO _ _ _) ?_;rintro e w1 ⟨rfl,b1⟩;have HB1:Hid (BW w w1):=next (by go_grown) b1;clear b1)
 have heq:=run_eql_iface_ptr_other (P:=prog) w1 underlying104 underlying372 hi hcmp hj (by rw [hjs];decide) hne ((HB1.o.block _ (Ed HA.o)).trans HA.o) ((HB1.o.block _ (Ed HB.o)).trans HB.o)
 rw [rounds_succ];go_wp2;go_ret;exact ⟨rfl,HB1.o⟩
end Go.Proofs.YtomiclakhjncbaaGreatDoor.Kb
