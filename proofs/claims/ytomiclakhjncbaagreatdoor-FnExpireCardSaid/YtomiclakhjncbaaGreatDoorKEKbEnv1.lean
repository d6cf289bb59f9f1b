import Derived.Test.YtomiclakhjncbaaGreatDoorJE5a
namespace Go.Proofs.YtomiclakhjncbaaGreatDoor.Kb
open Go.RowKit Go.Proofs.Tryz
set_option maxRecDepth 100000
set_option maxHeartbeats 12800000
theorem J2 {n : String} {text : List UInt8} {r : List (String × DataW Unit)} {W : World} {g : Nat} (h : laidMet prog ((n, .iface "*errors.errorString" (.ptr (.agg [.lit (.string text)]))) :: r) W) (hg : prog.globalNamed n = some g) (ht : (prog.globals[g]?).map (·.type) = some 104) :
  ∃ (a:Addr) (s:ByteArray) (c:Array Value) (t:TypeId),W.cell? ⟨g,0,none⟩=some (.iface 372 (.pointer (some a)))∧W.cell? a=some (.string s)∧s.data.toList=text∧W.heap[a.block]?=some (.cells c t (0,0)):=by
 obtain ⟨ps,⟨g0,t0,cs0,f0,p0,q0,hg0,ht0,hv0,hd0,hrest,e0⟩,hnd,hrows⟩:=h;obtain rfl:=Option.some.inj (hg.symm.trans hg0);obtain rfl:=Option.some.inj (ht.symm.trans ht0);subst e0;obtain ⟨l0⟩:=cs0
 have ok0:∀ u v,l0=[.iface u v]→Value.okWide prog W .any 0 u v:=fun u v e=>by
  subst e
  exact (hrows g 0 (by simp [MemPlace.row])).2 u v (by simpa using World.var?_cell hg0 hv0 0)
 obtain ⟨a0,s0,rfl,hc0,hs0,hz0,rfl⟩:=errorString_of_trod underlying104 bD underlying372 underlying390 rfl rfl underlying9 Se Tn hd0 ok0
 obtain ⟨c0,t0,hb0⟩:=(hrows a0.block a0.off (by simp [MemPlace.row])).1
 exact ⟨a0,s0,c0,t0,by rw [World.var?_cell hg hv0 0];rfl,hc0,hs0,hb0⟩
theorem L8 {W:World} {a b:Addr} {s u:ByteArray} {x y:List UInt8} (ha:W.cell? a=some (.string s)) (hb:W.cell? b=some (.string u)) (hs:s.data.toList=x) (hu:u.data.toList=y) (h:x≠y):a≠b:=by
 rintro rfl;rw [ha] at hb
 injection hb with hb
 injection hb with hb
 subst hb;exact h (hs.symm.trans hu)
theorem jL {rest r2 : List (String × DataW Unit)} {w : World} (hp : laidMet prog (("internal/strconv.uint64pow10", Rows.laid_internal_strconv_uint64pow10) :: r2) w) (h : laidMet prog (("loop.example/g00126/impl.stepDays", Rows.laid_loop_example_g00126_impl_stepDays) :: ("loop.example/g00126/impl.errLine", Rows.laid_loop_example_g00126_impl_errLine) :: ("loop.example/g00126/impl.errLogFull", Rows.laid_loop_example_g00126_impl_errLogFull) :: ("loop.example/g00126/impl.errCasesFull", Rows.laid_loop_example_g00126_impl_errCasesFull) :: ("loop.example/g00126/impl.errAuth", Rows.laid_loop_example_g00126_impl_errAuth) :: ("loop.example/g00126/impl.errDay", Rows.laid_loop_example_g00126_impl_errDay) :: ("loop.example/g00126/impl.errCase", Rows.laid_loop_example_g00126_impl_errCase) :: ("loop.example/g00126/impl.errMoney", Rows.laid_loop_example_g00126_impl_errMoney) :: ("loop.example/g00126/impl.errAct", Rows.laid_loop_example_g00126_impl_errAct) :: ("loop.example/g00126/impl.actWords", Rows.laid_loop_example_g00126_impl_actWords) :: rest) w) (hsh : w.ShapedOpen prog) : ∃ A : Nat → Addr, E1 w.heap.size A w := by
 obtain ⟨a_errLogFull,s_errLogFull,c_errLogFull,t_errLogFull,p_errLogFull,q_errLogFull,x_errLogFull,b_errLogFull⟩:=J2 (g:=1) (h.tail.tail) (by kernel_rfl) (by kernel_rfl)
 obtain ⟨a_errLine,s_errLine,c_errLine,t_errLine,p_errLine,q_errLine,x_errLine,b_errLine⟩:=J2 (g:=3) (h.tail) (by kernel_rfl) (by kernel_rfl)
 obtain ⟨a_errDay,s_errDay,c_errDay,t_errDay,p_errDay,q_errDay,x_errDay,b_errDay⟩:=J2 (g:=4) (h.tail.tail.tail.tail.tail) (by kernel_rfl) (by kernel_rfl)
 obtain ⟨a_errAuth,s_errAuth,c_errAuth,t_errAuth,p_errAuth,q_errAuth,x_errAuth,b_errAuth⟩:=J2 (g:=5) (h.tail.tail.tail.tail) (by kernel_rfl) (by kernel_rfl)
 obtain ⟨a_errCasesFull,s_errCasesFull,c_errCasesFull,t_errCasesFull,p_errCasesFull,q_errCasesFull,x_errCasesFull,b_errCasesFull⟩:=J2 (g:=6) (h.tail.tail.tail) (by kernel_rfl) (by kernel_rfl)
 obtain ⟨a_errCase,s_errCase,c_errCase,t_errCase,p_errCase,q_errCase,x_errCase,b_errCase⟩:=J2 (g:=7) (h.tail.tail.tail.tail.tail.tail) (by kernel_rfl) (by kernel_rfl)
 obtain ⟨a_errMoney,s_errMoney,c_errMoney,t_errMoney,p_errMoney,q_errMoney,x_errMoney,b_errMoney⟩:=J2 (g:=8) (h.tail.tail.tail.tail.tail.tail.tail) (by kernel_rfl) (by kernel_rfl)
 obtain ⟨a_errAct,s_errAct,c_errAct,t_errAct,p_errAct,q_errAct,x_errAct,b_errAct⟩:=J2 (g:=9) (h.tail.tail.tail.tail.tail.tail.tail.tail) (by kernel_rfl) (by kernel_rfl)
 have e0:=pH hp h hsh
 refine ⟨fun g=>if g=1 then a_errLogFull else if g=3 then a_errLine else if g=4 then a_errDay else if g=5 then a_errAuth else if g=6 then a_errCasesFull else if g=7 then a_errCase else if g=8 then a_errMoney else a_errAct,e0,e0.size,nL,fun g hg=>?_,fun g hg=>?_⟩
 ·have hg':g=1∨g=3∨g=4∨g=5∨g=6∨g=7∨g=8∨g=9:=by simpa [It,aL] using hg
  rcases hg' with rfl | rfl | rfl | rfl | rfl | rfl | rfl | rfl
  ·exact ⟨p_errLogFull,Ed b_errLogFull,_,_,b_errLogFull⟩
  ·exact ⟨p_errLine,Ed b_errLine,_,_,b_errLine⟩
  ·exact ⟨p_errDay,Ed b_errDay,_,_,b_errDay⟩
  ·exact ⟨p_errAuth,Ed b_errAuth,_,_,b_errAuth⟩
  ·exact ⟨p_errCasesFull,Ed b_errCasesFull,_,_,b_errCasesFull⟩
  ·exact ⟨p_errCase,Ed b_errCase,_,_,b_errCase⟩
  ·exact ⟨p_errMoney,Ed b_errMoney,_,_,b_errMoney⟩
  ·exact ⟨p_errAct,Ed b_errAct,_,_,b_errAct⟩
 ·have hg':g=3∨g=4∨g=5∨g=6∨g=7∨g=8∨g=9:=by simpa [aL] using hg
  rcases hg' with rfl | rfl | rfl | rfl | rfl | rfl | rfl
  ·exact L8 q_errLine q_errLogFull x_errLine x_errLogFull (by decide)
  ·exact L8 q_errDay q_errLogFull x_errDay x_errLogFull (by decide)
  ·exact L8 q_errAuth q_errLogFull x_errAuth x_errLogFull (by decide)
  ·exact L8 q_errCasesFull q_errLogFull x_errCasesFull x_errLogFull (by decide)
  ·exact L8 q_errCase q_errLogFull x_errCase x_errLogFull (by decide)
  ·exact L8 q_errMoney q_errLogFull x_errMoney x_errLogFull (by decide)
  ·exact L8 q_errAct q_errLogFull x_errAct x_errLogFull (by decide)
end Go.Proofs.YtomiclakhjncbaaGreatDoor.Kb
