import Derived.Test.YtomiclakhjncbaaGreatDoorJL0a
import Derived.Test.YtomiclakhjncbaaGreatDoorRows
import Derived.Test.YtomiclakhjncbaaGreatDoorKLKbEnv
import Derived.Test.YtomiclakhjncbaaGreatDoorJL6a
import Derived.LaidHandle
import Derived.LaidLaws
namespace Go.Proofs.YtomiclakhjncbaaGreatDoor.Kb
open Go.RowKit Go.Proofs.Tryz
set_option maxRecDepth 100000
set_option maxHeartbeats 12800000
theorem etM : prog.globalNamed "errors.errorType" = some 2 := by kernel_rfl
theorem rtM : (prog.cutTypes.find? (·.1 == "internal/reflectlite.rtype")).map (·.2) = some 247 := by kernel_rfl
theorem zF:((List.range 401).filter fun t=>prog.rowNamed t [101,114,114,111,114])=[104]:=by kernel_rfl
theorem Aa0:prog.types.size=401:=by kernel_rfl
theorem wV {W : World} (h : handlesMet prog [("errors.errorType", Rows.laid_errors_errorType)] W) : R4 W := by
 obtain ⟨name,u,ty,e1,e2,e3,e4,e5⟩:=h _ (List.mem_singleton.2 rfl);have en:name=[101,114,114,111,114]:=(Option.some.inj e1).symm;subst en;obtain rfl:=Option.some.inj (rtM.symm.trans e2)
 have hm:ty ∈ (List.range 401).filter fun t=>prog.rowNamed t [101,114,114,111,114]:=List.mem_filter.2 ⟨List.mem_range.2 (by rw [← Aa0];exact e3),e4⟩
 rw [zF] at hm;obtain rfl:=List.mem_singleton.1 hm
 have hh:typeHandle prog 104=.pointer (some ⟨17,104,none⟩):=by kernel_rfl
 rw [hh] at e5;unfold R4
 simpa using World.var?_cell etM e5 0
theorem uV {P:Program} {w0:World} {laid:List (String×DataW Unit)} (args:Array Value) (hf:w0.layFits P laid []=true) (hi:w0.layIfaces P laid (w0.layVars P laid)=true) :
  laidMet P laid ((w0.layVars P laid).forCall (fun _ _=>0) ⟨#[],args,[]⟩).memory:=by
 have e1:(laid.filter fun x=>(laid.map (·.1)).contains x.1)=laid:=List.filter_eq_self.2 fun x hx=>List.contains_iff_mem.2 (List.mem_map.2 ⟨x,hx,rfl⟩)
 have e2:(laid.filter fun x=>!(laid.map (·.1)).contains x.1)=[]:=List.filter_eq_nil_iff.2 fun x hx=>by rw [List.contains_iff_mem.2 (List.mem_map.2 ⟨x,hx,rfl⟩)];simp
 have h:laidMet P laid (w0.layVars P laid):=laidMet_layVars (w0:=w0) (laid.map (·.1)) [] (by rw [e1]) (by rw [e1];exact hf) (by rw [e1];exact hi) (by rw [e2];exact LaidIn.none)
 exact h.of_heap (by simp [World.memory,World.forCall,Input.heap])
theorem yU {w : World} (h : laidMet prog [("math/bits.deBruijn32tab", Rows.laid_math_bits_deBruijn32tab), ("math/bits.deBruijn64tab", Rows.laid_math_bits_deBruijn64tab), ("internal/strconv.uint64pow10", Rows.laid_internal_strconv_uint64pow10), ("unicode/utf8.acceptRanges", Rows.laid_unicode_utf8_acceptRanges), ("loop.example/g00126/impl.stepDays", Rows.laid_loop_example_g00126_impl_stepDays), ("loop.example/g00126/impl.errLine", Rows.laid_loop_example_g00126_impl_errLine), ("loop.example/g00126/impl.errLogFull", Rows.laid_loop_example_g00126_impl_errLogFull), ("loop.example/g00126/impl.errCasesFull", Rows.laid_loop_example_g00126_impl_errCasesFull), ("loop.example/g00126/impl.errAuth", Rows.laid_loop_example_g00126_impl_errAuth), ("loop.example/g00126/impl.errDay", Rows.laid_loop_example_g00126_impl_errDay), ("loop.example/g00126/impl.errCase", Rows.laid_loop_example_g00126_impl_errCase), ("loop.example/g00126/impl.errMoney", Rows.laid_loop_example_g00126_impl_errMoney), ("loop.example/g00126/impl.errAct", Rows.laid_loop_example_g00126_impl_errAct), ("loop.example/g00126/impl.actWords", Rows.laid_loop_example_g00126_impl_actWords), ("unicode/utf8.first", Rows.laid_unicode_utf8_first)] w ∧ handlesMet prog [("errors.errorType", Rows.laid_errors_errorType)] w) (hsh : w.ShapedOpen prog) : E0 w ∧ R4 w :=
 ⟨pH h.1.tail.tail h.1.tail.tail.tail.tail hsh,wV h.2⟩
end Go.Proofs.YtomiclakhjncbaaGreatDoor.Kb
