import Derived.Test.YtomiclakhjncbaaGreatDoorCards
import Derived.Test.YtomiclakhjncbaaGreatDoorTie
import Derived.LaidMore
import Derived.Deep.DeepHandedRow
import Derived.JoinedCond
import Derived.Lay
import Derived.SevenTiedAt
import Derived.Stop.Joined
import Derived.Stop.LaidErr
import Derived.Lib.LaidTab
import Derived.ChangeVars
import Derived.Test.YtomiclakhjncbaaGreatDoorJR3
import Derived.Shelf.Vars
import Derived.Carry
namespace Go.Proofs.YtomiclakhjncbaaGreatDoor
open Go.ChangeShapes Go.WideShapes Go.ChangeAt Go.RowKit
set_option maxRecDepth 100000
set_option maxHeartbeats 12800000
theorem stepEq:(Rows.laid_loop_example_g00126_impl_stepDays:DataW Unit)=Lib.tabData .i64 stepL:=by kernel_rfl
theorem step_g : Tryz.prog.globalNamed "loop.example/g00126/impl.stepDays" = some 16 := by kernel_rfl
theorem step_t:(Tryz.prog.globals[16]?).map (·.type)=some 352:=by kernel_rfl
theorem step_head {rest : List (String × DataW Unit)} {w : World} (h : laidMet Tryz.prog (("loop.example/g00126/impl.stepDays", Rows.laid_loop_example_g00126_impl_stepDays) :: rest) w) : StepTab w := by
 rw [stepEq] at h
 exact Lib.tabIs_of_head step_g step_t Tryz.underlying352 Tryz.underlying3 (by kernel_rfl) (by kernel_rfl) h
theorem var_keep {w w':World} {n:String} {cs:Array Value} (h:w.var? Tryz.prog n=some cs) (hb:Below w.heap.size w w'):w'.var? Tryz.prog n=some cs:=by
 unfold World.var? at *
 cases hg:Tryz.prog.globalNamed n with
 | none=>simp [hg] at h
 | some g =>
  simp only [hg,Option.bind_some] at h ⊢
  have hlt:g<w.heap.size:=by
   rcases Nat.lt_or_ge g w.heap.size with h' | h'
   ·exact h'
   ·rw [Array.getElem?_eq_none h'] at h;simp at h
  rw [hb.block g hlt]
  exact h
end Go.Proofs.YtomiclakhjncbaaGreatDoor
namespace Go.Proofs.YtomiclakhjncbaaGreatDoor.Kb
open Go.RowKit Go.Proofs.Tryz
set_option maxRecDepth 100000
set_option maxHeartbeats 12800000
theorem Cc {H:Type} {enc:TypeId×Value→H} {P:Program} {w:World} {base:Nat} {sp:Nat→Bool} {held:Bool} {fuel:Nat} {t e:TypeId} {n:Nat} {cs:List Value} {zs:List (List UInt8)} {p:List MemPlace}
  (ht:P.underlying t=some (.array n e)) (he:P.underlying e=some .string) (hce:P.cellsOf e=1) (hct:P.cellsOf t=n)
  (h:DataW.trod enc P w base sp held fuel t cs=some (DataW.agg (zs.map λz=>.lit (.string z)),p)):cs=zs.map λz=>Value.string ⟨z.toArray⟩:=by
 cases fuel with
 | zero=>simp [DataW.trod] at h
 | succ fuel =>
  simp only [DataW.trod,ht,hce,hct,Nat.mul_one] at h
  split at h
  ·rename_i hl
   obtain ⟨xs,hm,hx⟩:=Option.map_eq_some_iff.1 h
   have hxs:xs.map (·.1)=zs.map λz=>(DataW.lit (.string z):DataW H):=by
    have:=congrArg Prod.fst hx
    simpa using this
   have hxl:xs.length=n:=by simpa using Lib.mapM_length hm
   have hzl:zs.length=n:=by
    have:=congrArg List.length hxs
    simp at this
    omega
   apply List.ext_getElem?;intro i
   by_cases hi:i<n
   ·obtain ⟨b,hb,hf⟩:=Lib.mapM_at hm i i (by simp [hi])
    obtain ⟨z,hc,rfl,_⟩:=DataW.trod_string he hf
    have h1:cs[i]?=some (.string z):=by
     have:=congrArg (·[0]?) hc
     simpa [List.getElem?_take,List.getElem?_drop] using this
    have h2:(xs.map (·.1))[i]?=some (DataW.lit (.string z.data.toList):DataW H):=by simp [hb]
    rw [hxs] at h2
    simp only [List.getElem?_map,Option.map_eq_some_iff,DataW.lit.injEq,Lit.string.injEq] at h2
    obtain ⟨z',hz',e⟩:=h2;subst e
    simp [h1,hz']
   ·rw [List.getElem?_eq_none (by omega),List.getElem?_eq_none (by simp;omega)]
  ·cases h
theorem Do:(Rows.laid_loop_example_g00126_impl_actWords:DataW Unit)=DataW.agg (actsW.map λz=>.lit (.string z)):=by kernel_rfl
theorem C8 : prog.globalNamed "loop.example/g00126/impl.actWords" = some 0 := by kernel_rfl
theorem Dq:(prog.globals[0]?).map (·.type)=some 156:=by kernel_rfl
theorem Cq {rest : List (String × DataW Unit)} {w : World} (h : laidMet prog (("loop.example/g00126/impl.actWords", Rows.laid_loop_example_g00126_impl_actWords) :: rest) w) : ∀ k, k < 10 → w.cell? ⟨0, k, none⟩ = some (.string ⟨(nth actsW k).toArray⟩) := by
 rw [Do] at h;obtain ⟨ps,⟨g',t',cs,fuel,p,q,hg',ht',hvar,hd,_,_⟩,_⟩:=h;obtain rfl:=Option.some.inj (C8.symm.trans hg');obtain rfl:=Option.some.inj (Dq.symm.trans ht')
 have hc:=Cc underlying156 underlying9 (by kernel_rfl) (by kernel_rfl) hd
 obtain ⟨l⟩:=cs
 simp only at hc
 subst hc;intro k hk;rw [World.var?_cell C8 hvar k]
 have:k=0∨k=1∨k=2∨k=3∨k=4∨k=5∨k=6∨k=7∨k=8∨k=9:=by omega
 rcases this with rfl | rfl | rfl | rfl | rfl | rfl | rfl | rfl | rfl | rfl <;> rfl
theorem Dn : "*" ++ "errors.errorString" = "*errors.errorString" := by decide
theorem Dj (u : TypeId) (h : prog.typeName? 3 u = some "*errors.errorString") : u = 372 :=
 typeName_ptr_named (nm := "errors.errorString") (by rw [Dn]; kernel_rfl) (by kernel_rfl) (by decide) u (by rw [Dn]; exact h)
theorem Cv:prog.cellsOf 390=1:=by kernel_rfl
theorem Cr:prog.cellsOf 9=1:=by kernel_rfl
theorem Ah {n : String} {text : List UInt8} {r : List (String × DataW Unit)} {W : World} {g : Nat} (h : laidMet prog ((n, .iface "*errors.errorString" (.ptr (.agg [.lit (.string text)]))) :: r) W) (hg : prog.globalNamed n = some g) (ht : (prog.globals[g]?).map (·.type) = some 104) :
  ∃ t a,W.cell? ⟨g,0,none⟩=some (.iface t (.pointer (some a))):=by
 obtain ⟨a,_,hr,_⟩:=laid_sentinel h hg ht underlying104 Dj underlying372 underlying390 rfl rfl underlying9 Cv Cr
 exact ⟨_,a,by rw [World.var?_cell hg hr 0];rfl⟩
theorem Dt:(Rows.laid_internal_strconv_uint64pow10:DataW Unit)=Lib.tabData .u64 Lib.pow10Tab:=by kernel_rfl
theorem Dc {w : World} {r : List (String × DataW Unit)} (h1 : laidMet prog (("internal/strconv.uint64pow10", Rows.laid_internal_strconv_uint64pow10) :: r) w) : Lib.TabIs prog w "internal/strconv.uint64pow10" .u64 Lib.pow10Tab := by
 rw [Dt] at h1
 exact Lib.tabIs_of_head (g:=13) (t:=316) (by kernel_rfl) (by kernel_rfl) underlying316 underlying282 (by kernel_rfl) (by kernel_rfl) h1
theorem Cm {w:World} (h:StepTab w):17≤w.heap.size:=by
 have hg : prog.globalNamed "loop.example/g00126/impl.stepDays" = some 16 := by kernel_rfl
 unfold StepTab Lib.TabIs World.var? at h
 simp only [hg,Option.bind_some] at h
 rcases Nat.lt_or_ge 16 w.heap.size with h' | h'
 ·omega
 ·rw [Array.getElem?_eq_none h'] at h;simp at h
theorem Df {rest r2 : List (String × DataW Unit)} {w : World} (hp : laidMet prog (("internal/strconv.uint64pow10", Rows.laid_internal_strconv_uint64pow10) :: r2) w) (h : laidMet prog (("loop.example/g00126/impl.stepDays", Rows.laid_loop_example_g00126_impl_stepDays) :: ("loop.example/g00126/impl.errLine", Rows.laid_loop_example_g00126_impl_errLine) :: ("loop.example/g00126/impl.errLogFull", Rows.laid_loop_example_g00126_impl_errLogFull) :: ("loop.example/g00126/impl.errCasesFull", Rows.laid_loop_example_g00126_impl_errCasesFull) :: ("loop.example/g00126/impl.errAuth", Rows.laid_loop_example_g00126_impl_errAuth) :: ("loop.example/g00126/impl.errDay", Rows.laid_loop_example_g00126_impl_errDay) :: ("loop.example/g00126/impl.errCase", Rows.laid_loop_example_g00126_impl_errCase) :: ("loop.example/g00126/impl.errMoney", Rows.laid_loop_example_g00126_impl_errMoney) :: ("loop.example/g00126/impl.errAct", Rows.laid_loop_example_g00126_impl_errAct) :: ("loop.example/g00126/impl.actWords", Rows.laid_loop_example_g00126_impl_actWords) :: rest) w) (hsh : w.ShapedOpen prog) : E0 w := by
 have hst:=step_head h
 have kerrLine:=Ah (g:=3) (h.tail) (by kernel_rfl) (by kernel_rfl)
 have kerrLogFull:=Ah (g:=1) (h.tail.tail) (by kernel_rfl) (by kernel_rfl)
 have kerrCasesFull:=Ah (g:=6) (h.tail.tail.tail) (by kernel_rfl) (by kernel_rfl)
 have kerrAuth:=Ah (g:=5) (h.tail.tail.tail.tail) (by kernel_rfl) (by kernel_rfl)
 have kerrDay:=Ah (g:=4) (h.tail.tail.tail.tail.tail) (by kernel_rfl) (by kernel_rfl)
 have kerrCase:=Ah (g:=7) (h.tail.tail.tail.tail.tail.tail) (by kernel_rfl) (by kernel_rfl)
 have kerrMoney:=Ah (g:=8) (h.tail.tail.tail.tail.tail.tail.tail) (by kernel_rfl) (by kernel_rfl)
 have kerrAct:=Ah (g:=9) (h.tail.tail.tail.tail.tail.tail.tail.tail) (by kernel_rfl) (by kernel_rfl)
 exact ⟨Cm hst,hst,Dc hp,cell_of_shapedOpen_int (zero:=#[.int .i64 0]) (t:=3) hsh (of_decide_eq_true (by kernel_rfl)) (by kernel_rfl) rfl (by kernel_rfl) (by kernel_rfl) underlying3,kerrLogFull,kerrLine,kerrDay,kerrAuth,kerrCasesFull,kerrCase,kerrMoney,kerrAct,Cq h.tail.tail.tail.tail.tail.tail.tail.tail.tail⟩
def Ci (P:Program) (ns:List String):Bool:=ns.all λn=>((P.globalNamed n).bind λg=>(P.globals[g]?).map λx=>P.readableRec x.type && decide (x.type<P.types.size)) == some true
theorem Bc {H:Type} {enc:TypeId×Value→H} {W W':World} (hb:BW W W'):∀ (ns:List String) (gs:List (DataW H)) (q:List MemPlace),Ci prog ns=true→DataW.TrodVars enc prog W (λ_=>true) ns gs q→DataW.TrodVars enc prog W' (λb=>decide (b<W.heap.size)) ns gs q
 | [],[],q,_,h=>h
 | n::ns,d::ds,ps,hr,h=>by
  obtain ⟨g,t,cs,fuel,p,q,hg,ht,hv,hd,hrest,hps⟩:=h
  simp only [Ci,List.all_cons,Bool.and_eq_true] at hr
  obtain ⟨h1,h2⟩:=hr;obtain ⟨x,hx,hxt⟩:=Option.map_eq_some_iff.1 ht;rw [hg] at h1
  simp only [Option.bind_some,hx,Option.map_some] at h1
  have h3:(prog.readableRec x.type && decide (x.type<prog.types.size))=true:=by simpa using h1
  rw [hxt] at h3
  simp only [Bool.and_eq_true,decide_eq_true_eq] at h3
  have hlt:∀ y ∈ p,y.block<W.heap.size:=DataW.trod_lt fuel _ _ _ hd
  obtain ⟨f',hd'⟩:=Below.trod laidOut h3.1 h3.2 (v:=.agg cs) (⟨fuel,hd⟩:DataW.Trod enc prog W 0 (λ_=>true) true t (.agg cs) d p) hb hlt
  refine ⟨g,t,cs,f',p,q,hg,ht,?_,hd',Bc hb ns ds q h2 hrest,hps⟩;exact var_keep hv hb
theorem Bj {H:Type} {enc:TypeId×Value→H} {w:World} {sp:Nat→Bool} {n1 n2 n3 n4 n5 n6 n7 n8 n9 n10:String} {gs:List (DataW H)} {ps:List MemPlace} (h:DataW.TrodVars enc prog w sp [n1,n2,n3,n4,n5,n6,n7,n8,n9,n10] gs ps) :
  ∃ y1 y2 y3 y4 y5 y6 y7 y8 y9 y10,gs=[y1,y2,y3,y4,y5,y6,y7,y8,y9,y10]:=by
 have len:∀ (ns:List String) (gs:List (DataW H)) (ps:List MemPlace),DataW.TrodVars enc prog w sp ns gs ps→gs.length=ns.length:=by
  intro ns
  induction ns with
  | nil=>intro gs ps h;cases gs with
   | nil=>rfl
   | cons a b=>simp [DataW.TrodVars] at h
  | cons n ns ih=>intro gs ps h;cases gs with
   | nil=>simp [DataW.TrodVars] at h
   | cons a b =>
    obtain ⟨g,t,cs,fuel,p,q,_,_,_,_,hrest,_⟩:=h
    simp [ih _ _ hrest]
 have hl:=len _ _ _ h
 match gs,hl with
 | [y1,y2,y3,y4,y5,y6,y7,y8,y9,y10],_=>exact ⟨y1,y2,y3,y4,y5,y6,y7,y8,y9,y10,rfl⟩
end Go.Proofs.YtomiclakhjncbaaGreatDoor.Kb
