import Derived.Test.YtfpafnefpmmofaaGreatDoorJW2a
import Derived.Test.YtfpafnefpmmofaaGreatDoorKWHpOps
import Derived.Test.YtfpafnefpmmofaaGreatDoorKWSLed2
import Derived.Test.YtfpafnefpmmofaaGreatDoorJW1e
set_option maxRecDepth 100000
set_option maxHeartbeats 12800000
namespace Go.Proofs.YtfpafnefpmmofaaGreatDoor
open Go.RowKit Go.Proofs.Tryz
def useOk (az:List Au) (i:Int):Bool:=decide (0<=i/\i<az.length) && !(Ch az i.toNat).used
def Yk (a:Au):Au:=⟨a.ref,a.iss,a.cur,a.am,a.day,true⟩
def Q3 (az:List Au) (i:Int):List Au:=if useOk az i=true then az.set i.toNat (Yk (Ch az i.toNat)) else az
theorem zF (az:List Au) (i:Int):(Q3 az i).length=az.length:=by unfold Q3;split <;> simp
theorem R8 {az:List Au} {i:Int} (h:useOk az i=false):Q3 az i=az:=by rw [Q3,if_neg (by rw [h];decide)]
theorem Ac9 (ao:qm) (cap:Nat) (az:List Au) (i:Int) (w:ql) (r:Ba w ao az) (hn:az.length<=4194304) (hd:∀ a ∈ az,a.ref.length<=1099511627776) :
  qi 221 #[qf ao az.length cap,qzI i] w (Wv w (Q3 az i) (useOk az i)):=by
 by_cases h0:i<0
 ·have d:qj (useOk az i=false):=by rw [qj,useOk,decide_eq_false (by omega)];rfl
  go_enter func221,ntmps221
  go_wp2_with fail
  refine (Fe _ _ _ _ r hn hd).m ?_;rintro e L ⟨rfl,s,y⟩;have f:=Aa (And.intro s y);clear s y r;go_wp2;go_ret2;rw [d.o,R8 d.o];exact ⟨_,_,rfl,f.o.1,f.o.2⟩
 by_cases h1:(az.length:Int)<=i
 ·have d:qj (useOk az i=false):=by rw [qj,useOk,decide_eq_false (by omega)];rfl
  go_enter func221,ntmps221
  go_wp2_with fail
  refine (Fe _ _ _ _ r hn hd).m ?_;rintro e L ⟨rfl,s,y⟩;have f:=Aa (And.intro s y);clear s y r;go_wp2;go_ret2;rw [d.o,R8 d.o];exact ⟨_,_,rfl,f.o.1,f.o.2⟩
 obtain ⟨k,rfl⟩:=jj (show 0<=i by omega)
 have hk:k<az.length:=by omega
 have S:(k:Int)<(az.length:Int):=by omega
 have n:=Aa ((Ff az k hk).2.2.2.2.2);have z:=Aa (Ub az true k hk)
 have A:qj (useOk az (k:Int) = !(Ch az k).used):=by rw [qj,useOk,decide_eq_true (show 0<=(k:Int)/\(k:Int)<az.length by omega),ja,Int.toNat_natCast]
 have B:qj (useOk az (k:Int)=true->Q3 az (k:Int)=az.set k (Yk (Ch az k))):=λh=>by rw [Q3,if_pos h,Int.toNat_natCast]
 obtain ⟨J,q⟩:=Ae ((Ch az k).used);rw [q] at n A;clear q
 go_enter func221,ntmps221
 go_wp2_with fail
 refine (Fe _ _ _ _ r hn hd).m ?_;rintro e L ⟨rfl,s,y⟩
 have W:L.cell? ⟨w.heap.size,k*6+5,none⟩=some (.bool J):=by rw [s.cellAt (k*6+5) (by omega)];exact n.o
 have z5:L.frozen? ⟨w.heap.size,k*6+5,none⟩=false:=s.frozenAt _;have f:=Aa (And.intro s y);clear s y r
 cases J
 ·have d:=Aa A.o
  have N:qj ((L.setCell ⟨w.heap.size,k*6+5,none⟩ (.bool true)).ownsRow w.heap.size 108 6 (qf (some ⟨w.heap.size,0,none⟩) az.length az.length) az.length (Ap (az.set k (Yk (Ch az k))))):=by
   have R:=(f.o.1.stored (k*6+5) (.bool true)).1;rw [z.o] at R;exact R
  go_wp2;go_ret2;rw [d.o,B.o d.o]
  exact ⟨some ⟨w.heap.size,0,none⟩,az.length,by rw [List.length_set];rfl,by rw [List.length_set];exact N.o,f.o.2.setCell nL _⟩
 ·have d:=Aa A.o
  go_wp2;go_ret2;rw [d.o,R8 d.o];exact ⟨_,_,rfl,f.o.1,f.o.2⟩
theorem Ada (ao:qm) (cap:Nat) (az:List Au) (i:Int) (w:ql) (r:Ba w ao az) (hn:az.length<=4194304) :
  qi 123 #[qf ao az.length cap,qzI i] w (Wv w (Q3 az i) (useOk az i)):=by
 have H:Below w.heap.size w (w.alloc (.cells #[] 108)):=bR.alloc nL _;have G:=Aa (r.below H);have x:=Afr w
 have v:qj (∀ u,qi 89 #[qzI i,qzI 0,qzI ((az.length:Int) - 1)] u (qr (.bool (decide (0<=i/\i<az.length))) u)):=λu=>by
  have:=Cg i 0 ((az.length:Int) - 1) u
  rwa [show Gb i 0 ((az.length:Int) - 1)=decide (0<=i/\i<az.length) by unfold Gb;exact decide_eq_decide.2 (by omega)] at this
 by_cases hin:0<=i/\i<az.length
 ·obtain ⟨k,rfl⟩:=jj hin.1
  have hk:k<az.length:=by omega
  have S:(k:Int)<(az.length:Int):=by omega
  rw [decide_eq_true hin] at v;have n:=Aa ((Ff az k hk).2.2.2.2.2);have z:=Aa (Ub az true k hk)
  have A:qj (useOk az (k:Int) = !(Ch az k).used):=by rw [qj,useOk,decide_eq_true (show 0<=(k:Int)/\(k:Int)<az.length by omega),ja,Int.toNat_natCast]
  have B:qj (useOk az (k:Int)=true->Q3 az (k:Int)=az.set k (Yk (Ch az k))):=λh=>by rw [Q3,if_pos h,Int.toNat_natCast]
  rcases r with rfl|⟨b,off,rfl,hb,p⟩
  ·simp at hk
  have F:=Aa ((p k hk).2.2.2.2.2);obtain ⟨J,q⟩:=Ae ((Ch az k).used);rw [q] at n A F;clear q p hin
  go_enter func123,ntmps123
  go_wp2_with (at_builtin;refine Cn _ rfl (.tmp 7) (.tmp 8) rfl w.heap.size (qf (some ⟨w.heap.size,0,none⟩) 0 0) 0 [] rfl x _ cap az rfl G.o (by omega) (by simp) ?_;intro V T l I n2)
  obtain ⟨g,cc,rfl⟩:=Th l (n2 (by simp))
  simp only [qu,List.nil_append] at l ⊢
  have D:=H.grown I (by simp) (λj hj=>by cases hj;exact nL)
  have W:T.cell? (qzA g (k*6+5))=some (.bool J):=by rw [l.cellAt (k*6+5) (by omega)];exact n.o
  have z5:T.frozen? (qzA g (k*6+5))=false:=l.frozenAt _;have X:=(D.c b (off+k*6+5) hb).t F.o;have M:=Aa D;have f:=Aa l;have O:=(l.lt g rfl).1;clear l D I n2 x H;go_wp2_with fail
  refine (v.o _).m ?_;rintro e U ⟨rfl,C⟩;subst C
  cases J
  ·have d:=Aa A.o
   have N:qj ((U.setCell (qzA g (k*6+5)) (.bool true)).ownsRow w.heap.size 108 6 (qf (some (qzA g 0)) az.length cc) az.length (Ap (az.set k (Yk (Ch az k))))):=by
    have R:=(f.o.stored (k*6+5) (.bool true)).1;rw [z.o] at R;exact R
   go_wp2;go_ret2;rw [d.o,B.o d.o]
   exact ⟨some (qzA g 0),cc,by rw [List.length_set];rfl,by rw [List.length_set];exact N.o,M.o.setCell O _⟩
  ·have d:=Aa A.o
   go_wp2;go_ret2;rw [d.o,R8 d.o];exact ⟨_,_,rfl,f.o,M.o⟩
 ·have d:qj (useOk az i=false):=by rw [qj,useOk,decide_eq_false hin];rfl
  rw [decide_eq_false hin] at v;clear hin
  go_enter func123,ntmps123
  go_wp2_with (at_builtin;refine Cn _ rfl (.tmp 7) (.tmp 8) rfl w.heap.size (qf (some ⟨w.heap.size,0,none⟩) 0 0) 0 [] rfl x ao cap az rfl G.o (by omega) (by simp) ?_;intro V T l I n2)
  obtain ⟨g,cc,rfl⟩:=Th l (n2 (by simp))
  simp only [qu,List.nil_append] at l ⊢
  have D:=H.grown I (by simp) (λj hj=>by cases hj;exact nL)
  have M:=Aa D;have f:=Aa l;clear l D I n2 x H r;go_wp2_with fail
  refine (v.o _).m ?_;rintro e U ⟨rfl,C⟩;subst C;go_wp2;go_ret2;rw [d.o,R8 d.o];exact ⟨_,_,rfl,f.o,M.o⟩
theorem bZ (w:ql) (base:Nat) (ty:TypeId) (v:Value) (n:Nat) (i:List Value) (l:w.ownsRow base 314 2 v n i) (gs c:Nat) (x:Cd) (T:w.cell? (qzA gs 0)=some (qzI x.1)) (d:w.cell? (qzA gs 1)=some (qzI x.2))
  (hn:n+1<=5000000) (hbase:base<=w.heap.size) :
  ∃ r w',(Builtin.append_ #[311,311] ty #[v,qf (some (qzA gs 0)) 1 c]).run prog w=.ok r w'/\w'.ownsRow base 314 2 r (n+1) (i++Rm x)/\w.grownBy w' v.ownBlock:=by
 obtain ⟨i0,hi,M,D,N⟩:=info_parts zS
 have C:∀ j u,(Rm x)[j]?=some u->w.cell? (((qzA gs 0):Addr).add j)=some u:=by
  intro j u B
  have f:j<2:=by have:=(List.getElem?_eq_some_iff.1 B).1;simpa [Rm] using this
  rcases (show j=0\/j=1 by omega) with rfl|rfl
  ·simp [Rm] at B;subst B;simpa [Addr.add] using T
  ·simp [Rm] at B;subst B;simpa [Addr.add] using d
 obtain ⟨r,w',d,z,h3,_⟩:=run_append_own_at (P:=prog) w base 311 ty 314 i0 _ 2 16 underlying311 hi M D N rfl (by decide) v n i l (qzA gs 0) 1 c (Rm x) rfl C (kI [x]) (by unfold maxLen;omega) (by omega) hbase
 exact ⟨r,w',d,z,h3⟩
theorem Y0 {O:Array Oper} {o:Oper} {a:Act} {w:ql} {K:Act->ql->Prop} {Q:Exit->Act->ql->Prop} {E:Prop} (a6:o.guard=none) (s x:Operand)
  (ho:o.op=.call { callee:=.builtin .append,args:=#[s,x],argTypes:=#[311,311] }) (base:Nat) (v:Value) (n:Nat) (i:List Value) (hs:a.eval s=v) (l:w.ownsRow base 314 2 v n i)
  (gs c:Nat) (y:Cd) (hx:a.eval x=qf (some (qzA gs 0)) 1 c) (T:w.cell? (qzA gs 0)=some (qzI y.1)) (d:w.cell? (qzA gs 1)=some (qzI y.2)) (hn:n+1<=5000000) (hbase:base<=w.heap.size)
  (h:∀ r w',w'.ownsRow base 314 2 r (n+1) (i++Rm y)->w.grownBy w' v.ownBlock->K (a.put o.dst r) w') :
  if Region.wanted o (yielded O a.tmps)=true then Oper.wp prog o a w K Q else E:=by
 have hw:Region.wanted o (yielded O a.tmps)=true:=by simp [Region.wanted,a6]
 rw [if_pos hw];obtain ⟨r,w',hr,d,z⟩:=bZ w base o.type v n i l gs c y T d hn hbase;unfold Oper.wp execOp
 simp only [ho,resolve,invoke,builtin,Sem.run_bind,Sem.run_pure,Result.andThen_ok,List.map_toArray,List.map_cons,List.map_nil,hs,hx,hr]
 exact h r w' d z
theorem Ahp {w:ql} {base n:Nat} {v:Value} {i:List Value} (h:w.ownsRow base 314 2 v (n+1) i):∃ g cap,v=qf (some (qzA g 0)) (n+1) cap:=by
 rcases h.2 with ⟨_,T⟩|⟨g,c,cw,rfl,_⟩
 ·omega
 ·exact ⟨g,c,rfl⟩
theorem Aab {w:ql} {base n size:Nat} {t:TypeId} {v:Value} {i:List Value} (h:w.ownsRow base t size v n i) (p:Addr) (u:Value) (hp:∀ g,v.ownBlock=some g->g≠p.block):(w.setCell p u).ownsRow base t size v n i:=by
 obtain ⟨d,z⟩:=h;refine ⟨d,?_⟩
 rcases z with h|⟨g,cap,cw,F,hg,hh,a1,a2,a3,a4⟩
 ·exact .inl h
 ·exact .inr ⟨g,cap,cw,F,hg,(Below.heap_setCell w p u g (hp g (by rw [F];rfl))).t hh,a1,a2,a3,a4⟩
theorem taC (s p:Int) (W:ql):(Instr.typeAssert (.iface 314 (.agg #[qzI s,qzI p])) 20 314 false).run prog W=.ok (.agg #[qzI s,qzI p]) W:=by kernel_rfl
theorem Ai2 (s p:Int) (W:ql):(Instr.typeAssert (.iface 314 (.agg #[qzI s,qzI p])) 20 314 true).run prog W=.ok (.tuple #[.agg #[qzI s,qzI p],.bool true]) W:=by kernel_rfl
theorem vN {w u:ql} {H:List Cd} {ao:qm} {cap:Nat} (h:HP none w H ao cap u) (s p:Int) (hn:H.length<=1000) :
  qi 438 #[.pointer (some ⟨w.heap.size,0,none⟩),.iface 314 (.agg #[qzI s,qzI p])] u λe u'=>e=.returned (.tuple #[])/\∃ g c,HP none w (H++[(s,p)]) (some (qzA g 0)) c u':=by
 have I:=Aa h;have G:=h.box;have f0:=h.fz;have f:=h.lt;have ta:=taC s p;clear h
 go_enter func438,ntmps438
 have V:∀ o,(u.alloc o).cell? ⟨w.heap.size,0,none⟩=some (qf ao H.length cap):=λo=>by rw [jg _ _ _ f];exact G
 go_region_law ((refine Y0 rfl (.tmp 7) (.tmp 10) rfl (w.heap.size+1) (qf ao H.length cap) H.length (G8 H) (by rfl) (Afw I.o.own (by go_grown)) u.heap.size 1 (s,p) (by rfl) (by simp [go_sem]) (by simp [go_sem]) (by omega) (by simp;omega) ?_;intro v5 Y X S;obtain ⟨U,k5,rfl⟩:=Ahp X;have c5:Y.cell? ⟨w.heap.size,0,none⟩=some (qf ao H.length cap):=(S.cell_far ⟨w.heap.size,0,none⟩ (by simp;omega) I.o.apart).t (by simp [go_sem,World.cell?_alloc_some,G]);have z5:Y.frozen? ⟨w.heap.size,0,none⟩=false:=(S.frozen_far ⟨w.heap.size,0,none⟩ (by simp;omega) I.o.apart).t (by have:=((Below.refl u.heap.size u).alloc nL (.cells #[qzI s,qzI p] 314)).frozen (p:=⟨w.heap.size,0,none⟩) f;simpa [f0] using this)))
 all_goals
  have HO:qj (Y.ownsRow (w.heap.size+1) 314 2 (qf (some (qzA U 0)) (H++[(s,p)]).length k5) (H++[(s,p)]).length (G8 (H++[(s,p)]))):=by rw [qj,qv,Y7];exact X
  have R:=Aa (Below.grown (HP.below I.o (by go_grown)).bel S (by simp;omega) (λj B=>by have:=(I.o.own.lt j B).1;omega))
  have b1:=(X.lt U rfl).1;clear X S;go_wp2;go_end0
  refine ⟨rfl,U,k5,R.o.setCell nL _,?_,by simp [z5],?_,λ_ _ e=>by cases e⟩
  ·rw [qv];exact World.cell?_setCell_same Y ⟨w.heap.size,0,none⟩ _ c5
  ·exact Aab HO.o ⟨w.heap.size,0,none⟩ _ (λx hx=>by have e:U=x:=Option.some.inj hx;show x≠w.heap.size;omega)
theorem Ag6:prog.underlying 311=some (.slice (prog.elem 311)):=by
 have e:prog.elem 311=314:=by simp [Program.elem,underlying311]
 rw [e];exact underlying311
theorem Aii:prog.elem 311=314:=by simp [Program.elem,underlying311]
theorem Aic (w:ql):(sizeOf 314).run prog w=.ok 2 w:=by
 obtain ⟨i0,hi,M,D,N⟩:=info_parts zS
 simp [sizeOf,typeInfo,hi,D]
theorem Agy {g n c s:Nat} (hs:s<=c) (W:ql):(Instr.slice 311 (qf (some (qzA g 0)) n c) none (some (qzI s)) none).run prog W=.ok (qf (some (qzA g 0)) s c) W:=by
 rw [run_slice_h W _ _ _ _ Ag6 .i64 _ (by omega) (by omega),Aii,Aic]
 simp [Result.andThen,sliced,Addr.add]
theorem HP.cap {q:Option (Nat×Obj)} {w u:ql} {H:List Cd} {g cap:Nat} (h:HP q w H (some (qzA g 0)) cap u):H.length<=cap:=by
 rcases h.own.2 with ⟨F,_⟩|⟨g',c,cw,F,_,_,hc,_⟩
 ·cases F
 ·obtain ⟨rfl,rfl⟩:g=g'/\cap=c:=by simpa using F
  exact hc
theorem Abc {q:Option (Nat×Obj)} {w u:ql} {H:List Cd} {g cap:Nat} (h:HP q w H (some (qzA g 0)) cap u) (m:Nat) (hm:H.length=m+1) (hn:H.length<=1000) :
  qi 437 #[.pointer (some ⟨w.heap.size,0,none⟩)] u λe u'=>e=.returned (.iface 314 (.agg #[qzI (Bq H m).1,qzI (Bq H m).2]))/\BW w u'/\∀ x o,q=some (x,o)->u'.heap[x]?=some o:=by
 have HK:qj (∀ x o,q=some (x,o)->u.heap[x]?=some o/\w.heap.size<x):=λx o e=>⟨(h.kp x o e).1,(h.kp x o e).2.1⟩
 have R:=Aa h.bel;have G:=h.box;have f0:=h.fz;have f:=h.lt
 obtain ⟨V,k2⟩:=h.at (k:=m) (by omega)
 have L:=h.cap
 have a7:=h.row (by omega)
 obtain ⟨g',e,a9,b0⟩:=a7
 obtain rfl:g=g':=by simpa using e
 obtain ⟨⟨a,b⟩,J⟩:∃ x,Bq H m=x:=⟨_,rfl⟩;rw [J] at V k2 ⊢
 simp only at V k2 ⊢
 rw [hm] at G L hn
 have b3:=Agy (g:=g) (n:=m+1) (c:=cap) (s:=m) (by omega)
 clear J h e
 go_enter func437,ntmps437
 go_upto_region 3 with fail
 obtain ⟨W,A⟩:=Ae (u.alloc (.cells #[qzI a,qzI b] 314))
 have j0:W.cell? ⟨u.heap.size,0,none⟩=some (qzI a):=by rw [<- A];simp
 have j1:W.cell? ⟨u.heap.size,1,none⟩=some (qzI b):=by rw [<- A];simp
 have j2:W.cell? ⟨w.heap.size,0,none⟩=some (qf (some (qzA g 0)) (m+1) cap):=by rw [<- A,jg _ _ _ f];exact G
 have j3:W.frozen? ⟨w.heap.size,0,none⟩=false:=by rw [<- A];have:=((Below.refl u.heap.size u).alloc nL (.cells #[qzI a,qzI b] 314)).frozen (p:=⟨w.heap.size,0,none⟩) f;rw [this];exact f0
 have a5:qj (∀ x o,q=some (x,o)->W.heap[x]?=some o/\w.heap.size<x):=λx o e=>by
  obtain ⟨d,z⟩:=HK.o x o e;refine ⟨?_,z⟩;rw [<- A];exact (((Below.refl u.heap.size u).alloc nL _).block x (Array.getElem?_eq_some_iff.1 d).1).t d
 have Z:qj (BW w W):=by rw [qj,<- A];exact R.o.alloc R.o.size _
 rw [A]
 have b2:¬ w.heap.size=u.heap.size:=by omega
 have a8:¬ u.heap.size=w.heap.size:=by omega
 clear A G f0 V k2;go_wp2;go_ret
 refine ⟨rfl,Z.o.setCell nL _,λx o e=>?_⟩
 obtain ⟨d,z⟩:=a5.o x o e
 rw [Below.heap_setCell _ _ _ _ (λe=>by have e:x=w.heap.size:=e;omega)]
 exact d
def hpV (w:ql):Value:=.iface 340 (.pointer (some ⟨w.heap.size,0,none⟩))
theorem Qz (ao:qm) (n cap:Nat) (u:ql):qi 284 #[qf ao n cap] u λe u'=>e=.returned (qzI n)/\u'=u:=by
 go_enter func284,ntmps284
 go_wp2;go_ret;exact ⟨rfl,rfl⟩
theorem xM {H:List Cd} {j:Nat} (h:iU H j) (U:0<j) (N:j<H.length) (d:Qa (Bq H j) (Bq H (P9 j))=true):iU (Dw H (P9 j) j) (P9 j):=by
 unfold iU;have hp:=N2 U
 rw [sM (show P9 j<H.length by omega) N,Je]
 exact wV h U N d
theorem Agf {w u:ql} {H:List Cd} {g cap:Nat} (h:HP none w H (some (qzA g 0)) cap u) (j:Nat) (N:j<H.length) (hn:H.length<=1000) (c:iU H j) :
  qi 311 #[hpV w,qzI j] u λe u'=>e=.returned (.tuple #[])/\∃ G,HP none w G (some (qzA g 0)) cap u'/\Kx G/\J0 H G:=by
 have S:=Aa h;have T:=Aa c;clear h c;unfold hpV
 go_enter func311,ntmps311
 go_wp2
 go_loopw [1,4] (λv _ wr=>∃ (k:Nat) (G:List Cd),k<=j/\v=qzI k/\HP none w G (some (qzA g 0)) cap wr/\iU G k/\J0 H G) (λv _ _=>(intOf v).toNat)
 case atStart=>exact ⟨j,H,nL,rfl,S.o,T.o,J0.refl H⟩
 case round =>
  obtain ⟨k,G,hk,rfl,hp,y,hs⟩:=hrel;have C:=Aa hs.1
  have b:k<G.length:=by have:=C.o;omega
  have a:=Aa hp;have i:=Aa y;have J:=Aa hs;have f:=hp.box;have O:=He f;have R:=Li f;clear S T hp y hs
  by_cases hk0:k=0
  ·subst hk0
   have X:(-1:Int).tdiv 2=0:=by decide
   go_wp2;go_end0;exact ⟨rfl,G,a.o,Zl i.o (.inl rfl),J.o⟩
  ·have X:((k:Int) - 1).tdiv 2=((P9 k:Nat):Int):=by
     unfold P9
     rw [Int.tdiv_eq_ediv_of_nonneg (by omega)]
     omega
   have B:=N2 (show 0<k by omega)
   obtain ⟨p,A⟩:=Ae (P9 k)
   have s:qj (Qa (Bq G k) (Bq G (P9 k))=true->iU (Dw G (P9 k) k) (P9 k)):=λd=>xM i.o (by omega) b d
   have r:qj (Qa (Bq G k) (Bq G (P9 k))=false->Kx G):=λd=>Zl i.o (.inr d)
   rw [A] at X B s r
   have W:((p:Int) == (k:Int))=false:=by simp;omega
   have Z:(0:Int)<(k:Int):=by omega
   clear A
   cases d:Qa (Bq G k) (Bq G p)
   ·have F:qj (∀ v,HP none w G (some (qzA g 0)) cap v->qi 435 #[qf (some (qzA g 0)) G.length cap,qzI k,qzI p] v λe u'=>e=.returned (.bool false)/\BW v u'):=λv hv=>by rw [<- d];exact Eg hv k p b (by omega)
    have D:=Aa (r.o d);go_wp2_with fail
    refine (F.o _ a.o).m ?_;rintro e Y ⟨rfl,x⟩;have l:=Aa (a.o.below x);clear x;go_wp2;go_end0;exact ⟨rfl,G,l.o,D.o,J.o⟩
   ·have F:qj (∀ v,HP none w G (some (qzA g 0)) cap v->qi 435 #[qf (some (qzA g 0)) G.length cap,qzI k,qzI p] v λe u'=>e=.returned (.bool true)/\BW v u'):=λv hv=>by rw [<- d];exact Eg hv k p b (by omega)
    have L:qj (iU (Dw G p k) p):=s.o d
    have M:qj (J0 H (Dw G p k)):=J.o.t (wJ (by omega) b)
    go_wp2_with fail
    refine (F.o _ a.o).m ?_;rintro e Y ⟨rfl,x⟩;have q:=a.o.below x;have l:qj (HP none w G (some (qzA g 0)) cap Y):=q;have V:=Li q.box;clear x R O q;go_wp2_with fail
    refine (Nx l.o p k B b).m ?_;rintro e u3 ⟨rfl,z⟩;have I:qj (HP none w (Dw G p k) (some (qzA g 0)) cap u3):=z;clear z;go_wp2
    go_roundw
    case rel=>exact ⟨p,Dw G p k,by omega,rfl,I.o,L.o,M.o⟩
    case measure=>simp [intOf];omega
theorem below_grow (w:ql) (q:Nat) (os:Array Obj):Below w.heap.size w (Go.Sort.grow (w.drewN q) os) :=
 ⟨rfl,rfl,rfl,by simp [Go.Sort.grow,World.drewN],λk hk=>by simp [Go.Sort.grow,World.drewN,Array.getElem?_append,hk]⟩
theorem Ov {a c m:Int} {v:Bool} (h:I3 (a,c,m)=v) (hc:(Lit.int .i64 c).wf=true) (w:ql) :
  qi 339 #[.agg #[qzI a,qzI c,qzI m]] w (qp (.bool v) w):=by rw [<- h];exact pS a c m w hc
theorem Up {a b c x y z v:Int} (h:Xt (a,b,c) (x,y,z)=v) (w:ql) :
  qi 340 #[.agg #[qzI a,qzI b,qzI c],.agg #[qzI x,qzI y,qzI z]] w (qp (qzI v) w) :=
 (Rl a b c x y z w).m λe w' ⟨he,q,os,hw⟩=>⟨by rw [he,h],by rw [hw];exact below_grow w q os⟩
theorem Aeu {ls:List Ln} (h:Bc none ls=true) (hl:ls.length<=400):A6 ls=evB ls:=by
 have he:eR ls=evB ls:=by
  rw [Bool.eq_iff_iff,tU λx L=>(Ks (Ew h x L)).2.1,evB,List.all_eq_true]
  simp
 simp [A6,h,hl,he]
theorem Lc (ao:qm) (cap:Nat) (ls:List Ln) (w:ql) (hz:Ar w ao ls) (hn:ls.length<=1099511627776) (a6:∀ x ∈ ls,N3 x) :
  qi 314 #[.agg #[qf ao ls.length cap]] w (qp (.bool (A6 ls)) w):=by
 obtain ⟨W,R⟩:=A0 (w.alloc (.cells #[qf ao ls.length cap] 38))
 have O:BW w W:=by rw [R];go_grown
 have M:w.heap.size<W.heap.size:=by rw [R];simp
 have k0:W.cell? ⟨w.heap.size,0,none⟩=some (qf ao ls.length cap):=by rw [R];simp
 have HK:=Aa k0;have HZ:=Aa (hz.below O);have U:=Aa a6;clear hz a6
 by_cases h4:(400:Int)<(ls.length:Int)
 ·have J:qj (A6 ls=false):=by
    have:¬ ls.length<=400:=by omega
    simp [qj,A6,this]
  go_enter func314,ntmps314
  go_wp2;go_ret;rw [<- R];exact ⟨Ab J.o.s,O⟩
 have a3:ls.length<=400:=by omega
 go_enter func314,ntmps314
 go_wp2;rw [<- R];clear R
 go_loopw [12] (λi wr=>∃ k:Nat,k<=ls.length/\i=qzI k/\Bc none ls=Bc (Gq ls k) (ls.drop k)/\BW W wr) (λi _=>ls.length - (intOf i).toNat)
 case atStart=>exact ⟨0,qw _,rfl,rfl,bR⟩
 case round =>
  obtain ⟨k,hk,rfl,a4,d⟩:=hrel;have j:=Aa a4;have Z:=d.size;have d2:=jd M Z;clear a4 k0
  by_cases hlt:k<ls.length
  ·have b4:(k:Int)<(ls.length:Int):=by omega
   obtain ⟨b,off,rfl,b8,c1,c2,c3⟩:=(HZ.o.below d).at hlt;have H:=Sb ls k hlt;have N:=U.o _ (F8 hlt);obtain ⟨p,hp⟩:=Ae (Gq ls k);have HP:=Aa hp;rw [hp] at H j;obtain ⟨⟨x,y,z⟩,L⟩:∃ x,Cw ls k=x:=⟨_,rfl⟩;rw [L] at c1 c2 c3 H N
   simp only at c1 c2 c3
   have F:=Aa N.2.1;have D:=Aa (j.o.t H);obtain ⟨V,r⟩:=A0 (wr.alloc (.cells #[qzI x,qzI y,qzI z] 151))
   have X:BW W V:=by rw [r];exact d.alloc Z _
   have b6:V.heap.size=wr.heap.size+1:=by rw [r];simp
   have v0:V.cell? ⟨wr.heap.size,0,none⟩=some (qzI x):=by rw [r];simp
   have v1:V.cell? ⟨wr.heap.size,1,none⟩=some (qzI y):=by rw [r];simp
   have v2:V.cell? ⟨wr.heap.size,2,none⟩=some (qzI z):=by rw [r];simp
   have l0:=(X.cell (p:=⟨w.heap.size,0,none⟩) M).t HK.o;have u:=Aa X;have A:qj (BW w W):=O;have G:=X.size;have d1:=Ec V;have g0:=Ai v0;have g1:=Ai v1;have g2:=Ai v2;have g3:=Ai l0;have T:qj (Ar V (some (qzA b off)) ls):=HZ.o.below X;go_upto_region 6 with fail
   rw [<- r];clear r H L hp j N X O d c1 c2 c3
   cases h1:I3 (x,y,z)
   ·have J:qj (A6 ls=false):=by
      unfold A6
      rw [qj,D.o,h1];rfl
    have S:=Aa h1;clear h1 D
    refine Aj (by kernel_rfl) (by kernel_rfl) ?_
    repeat (go_big_quiet_step (exact Bi (Ov S.o F.o _)))
    refine wpQuiet_nil ?_;rintro _ ⟨⟨u1,I⟩,f⟩;subst f;go_wp2;go_ret;exact ⟨Ab J.o.s,A.o.t ((u.o.t (I.m G)).m A.o.size)⟩
   have S:=Aa h1
   have g:qj (Bc none ls=(Rq p (x,y,z) && Bc (Gq ls (k+1)) (ls.drop (k+1)))):=by rw [qj,D.o,h1];rfl
   clear h1 D
   cases k with
   | zero =>
    have HN:qj (Bc none ls=Bc (Gq ls (0+1)) (ls.drop (0+1))):=by
     have b5:p=none:=by rw [<- HP.o];rfl
     rw [qj,g.o,b5];rfl
    clear g HP
    refine Aj (by kernel_rfl) (by kernel_rfl) ?_
    repeat (go_big_quiet_step (exact Bi (Ov S.o F.o _)))
    refine wpQuiet_nil ?_;rintro _ ⟨⟨u1,I⟩,f⟩;subst f;go_wp2
    go_roundw
    case rel=>exact ⟨1,by omega,by go_num,HN.o,u.o.t (I.m G)⟩
    case measure=>simp [intOf];omega
   | succ k =>
    have a5:p=some (Cw ls k):=by rw [<- HP.o];simp [Gq]
    obtain ⟨b',a8,Y,b7,e1,e2,e3⟩:=T.o.at (k:=k) (by omega)
    obtain ⟨rfl,rfl⟩:b=b'/\off=a8:=by simpa using Y
    obtain ⟨⟨x',y',z'⟩,a7⟩:∃ x,Cw ls k=x:=⟨_,rfl⟩;rw [a7] at e1 e2 e3 a5
    simp only at e1 e2 e3
    subst a5;have C:qj (Bc none ls=(Gi (x',y',z') (x,y,z) && Bc (Gq ls (k+1+1)) (ls.drop (k+1+1)))):=g.o
    have b9:((k+1:Nat):Int) - 1=(k:Int):=by omega
    have c8:(0:Int)<((k+1:Nat):Int):=by omega
    have c9:(k:Int)<(ls.length:Int):=by omega
    have g4:=Ai e1;have g5:=Ai e2;have g6:=Ai e3
    have d0:decide (0<k+1)=true:=by simp
    obtain ⟨v,hv⟩:∃ v,Xt (x',y',z') (x,y,z)=v:=⟨_,rfl⟩;have n:=qA (x',y',z') (x,y,z);rw [hv] at n;have HV:=Aa hv;have B:=Aa n;clear g HP a7 Y T hv n
    by_cases h2:0<=v
    ·have b2:decide (0<=v)=true:=by simpa using h2
     have J:qj (A6 ls=false):=by
      have:Gi (x',y',z') (x,y,z)=false:=by
       cases h:Gi (x',y',z') (x,y,z)
       ·rfl
       ·have:=B.o.2 h;omega
      unfold A6
      rw [qj,C.o,this];rfl
     clear C B
     refine Aj (by kernel_rfl) (by kernel_rfl) ?_
     repeat (go_big_quiet_step (first|exact Bi (Ov S.o F.o _)|exact Bi (Up HV.o _)))
     refine wpQuiet_nil ?_;rintro _ ⟨⟨u1,I⟩,f⟩;subst f;go_wp2;go_ret;exact ⟨Ab J.o.s,A.o.t ((u.o.t (I.m G)).m A.o.size)⟩
    ·have b2:decide (0<=v)=false:=by simpa using h2
     have HN:qj (Bc none ls=Bc (Gq ls (k+1+1)) (ls.drop (k+1+1))):=by
      rw [qj,C.o,B.o.1 (by omega)];rfl
     clear C B
     refine Aj (by kernel_rfl) (by kernel_rfl) ?_
     repeat (go_big_quiet_step (first|exact Bi (Ov S.o F.o _)|exact Bi (Up HV.o _)))
     refine wpQuiet_nil ?_;rintro _ ⟨⟨u1,I⟩,f⟩;subst f;go_wp2
     go_roundw
     case rel=>exact ⟨k+1+1,by omega,by go_num,HN.o,u.o.t (I.m G)⟩
     case measure=>simp [intOf];omega
  ·have b3:k=ls.length:=by omega
   subst b3
   have b4:¬ (ls.length:Int)<(ls.length:Int):=by omega
   have l:Bc none ls=true:=by rw [j.o,Uf]
   have J:=Aa (Aeu l a3)
   have a9:qj (∀ x ∈ ls,-1000000000000<=x.2.2/\x.2.2<=1000000000000):=λx L=>(Ks (Ew l x L)).2.2.1
   have l0:=(d.cell (p:=⟨w.heap.size,0,none⟩) M).t HK.o;have q0:=next O d;have b0:=Aa (HZ.o.below d);clear j l d O;go_wp2_with fail
   refine (Acj _ _ _ _ b0.o a3 a9.o (λx L=>(U.o x L).2.1)).m ?_
   rintro e u1 ⟨rfl,b1⟩;have I:=next q0 b1;obtain ⟨V,r⟩:=Ae (evB ls);rw [r] at J ⊢;clear b1 q0 r;go_wp2;go_ret;exact ⟨Ab J.o.s,I⟩
structure fJ (V:ql) (ao:qm) (fs:List Av) (c:qm) (tg:List Av):Prop where
 hm:Aw V ao fs
 hn:fs.length<=1048576
 hd:Gs fs<=1048576
 ht:Aw V c tg
 hk:tg.length<=1000
 he:∀ f ∈ tg,f.2.length<=1000
 hp : Lib.TabIs prog V "internal/strconv.uint64pow10" .u64 Lib.pow10Tab
 hw:∀ k,k<10->V.cell? (qzA 3 k)=some (qd (xH k))
structure Me (V:ql) (kd:Int) (ao:qm) (cap:Nat) (fs:List Av) (c:qm) (d:Nat) (tg:List Av) (nf nt:Bool) (u:ql):Prop where
 m0:u.cell? ⟨V.heap.size,0,none⟩=some (qzI kd)
 m1:u.cell? ⟨V.heap.size,1,none⟩=some (qf ao fs.length cap)
 m2:u.cell? ⟨V.heap.size,2,none⟩=some (qf c tg.length d)
 m3:u.cell? ⟨V.heap.size,3,none⟩=some (.bool nf)
 m4:u.cell? ⟨V.heap.size,4,none⟩=some (.bool nt)
 z3:u.frozen? ⟨V.heap.size,3,none⟩=false
 z4:u.frozen? ⟨V.heap.size,4,none⟩=false
 hb:BW V u
section
variable {V:ql} {kd:Int} {ao:qm} {cap:Nat} {fs:List Av} {c:qm} {d:Nat} {tg:List Av} {nf nt:Bool} {u u':ql}
theorem Me.lt (h:Me V kd ao cap fs c d tg nf nt u):V.heap.size<u.heap.size:=qs u _ h.m0
theorem Me.below (h:Me V kd ao cap fs c d tg nf nt u) (k:BW u u'):Me V kd ao cap fs c d tg nf nt u':=by
 have l:=h.lt
 exact ⟨(k.cell (p:=⟨V.heap.size,0,none⟩) l).t h.m0,(k.cell (p:=⟨V.heap.size,1,none⟩) l).t h.m1,(k.cell (p:=⟨V.heap.size,2,none⟩) l).t h.m2,(k.cell (p:=⟨V.heap.size,3,none⟩) l).t h.m3,(k.cell (p:=⟨V.heap.size,4,none⟩) l).t h.m4,
  (k.frozen (p:=⟨V.heap.size,3,none⟩) l).t h.z3,(k.frozen (p:=⟨V.heap.size,4,none⟩) l).t h.z4,h.hb.t (k.m h.hb.size)⟩
theorem Me.set3 (h:Me V kd ao cap fs c d tg nf nt u) (x:Bool):Me V kd ao cap fs c d tg x nt (u.setCell ⟨V.heap.size,3,none⟩ (.bool x)):=by
 obtain ⟨m0,m1,m2,m3,m4,z3,z4,hb⟩:=h
 exact ⟨by simp [go_sem,m0],by simp [go_sem,m1],by simp [go_sem,m2],by simp [go_sem,m3],by simp [go_sem,m4],by simp [go_sem,z3],by simp [go_sem,z4],hb.setCell nL _⟩
theorem Me.set4 (h:Me V kd ao cap fs c d tg nf nt u) (x:Bool):Me V kd ao cap fs c d tg nf x (u.setCell ⟨V.heap.size,4,none⟩ (.bool x)):=by
 obtain ⟨m0,m1,m2,m3,m4,z3,z4,hb⟩:=h
 exact ⟨by simp [go_sem,m0],by simp [go_sem,m1],by simp [go_sem,m2],by simp [go_sem,m3],by simp [go_sem,m4],by simp [go_sem,z3],by simp [go_sem,z4],hb.setCell nL _⟩
end
theorem J6 {V:ql} {kd:Int} {ao:qm} {cap:Nat} {fs:List Av} {c:qm} {d:Nat} {tg:List Av} {a b A B:Bool} {u:ql} (h:Me V kd ao cap fs c d tg a b u) (e:a=A) (g:b=B):Me V kd ao cap fs c d tg A B u:=by subst e;subst g;exact h
theorem Ww {a b:qn} (h:b=a):Ending.returned (qd a)=.returned (qd b):=by rw [h]
theorem Aed (w:ql) (q:Nat) (os:Array Obj):Below w.heap.size w (Go.Sort.grow (w.drewN q) os) :=
 ⟨rfl,rfl,rfl,by simp [Go.Sort.grow,World.drewN],λk hk=>by simp [Go.Sort.grow,World.drewN,Array.getElem?_append,hk]⟩
theorem O8 {n : Int} {w : ql} (M : -1 <= n) (O : n < 1000000000000000000) (ht : Lib.TabIs prog w "internal/strconv.uint64pow10" .u64 Lib.pow10Tab) :
  qi 240 #[qzI n] w λe w'=>e=.returned (qd (Lib.itoa n))/\BW w w':=by
 refine (strconv_Itoa n (by omega) (by omega) w ht).m ?_
 rintro e w' ⟨rfl,k,os,rfl⟩;exact ⟨rfl,Aed w k os⟩
theorem J4 {l:qn} : -1<=A9 l/\A9 l<1000000000000000000:=Ee l
theorem Is {fs:List Av} {n:Int} (h:Gs fs<=1048576):(Cb fs n).length<=1048576:=by
 unfold Cb
 induction fs with
 | nil=>simp [fOf]
 | cons f r ih =>
  have hs:Gs (f::r)=f.2.length+Gs r:=rfl;unfold fOf
  split
  ·simp;omega
  ·exact ih (by omega)
theorem U9 {tg:List Av} {n:Int} (h:∀ f ∈ tg,f.2.length<=1000):(Jt tg n).length<=1000:=by
 unfold Jt
 induction tg with
 | nil=>simp [Tg.fOf]
 | cons f r ih =>
  unfold Tg.fOf
  split
  ·simpa using h f (by simp)
  ·exact ih λg hg=>h g (by simp [hg])
theorem cI {V:ql} {kd:Int} {ao:qm} {cap:Nat} {fs:List Av} {c:qm} {d:Nat} {tg:List Av} {nf nt:Bool} (E:fJ V ao fs c tg) (n:Int) (u:ql) (R:Me V kd ao cap fs c d tg nf nt u) :
  qi 207 #[.pointer (some ⟨V.heap.size,0,none⟩),qzI n] u λe u'=>e=.returned (qd (Lib.itoa (Kd fs n)))/\Me V kd ao cap fs c d tg nf nt u':=by
 have z:qj _:=R;have I:qj _:=E;obtain ⟨m0,m1,m2,m3,m4,z3,z4,hb⟩:=R
 have j:qj (qi 167 #[.agg #[qzI kd,qf ao fs.length cap],qzI n] u λe w'=>e=.returned (.tuple #[qd (Cb fs n),.bool (Du fs n)])/\BW u w'):=Fs kd ao cap fs n u (E.hm.below hb) E.hn E.hd
 have G:(Cb fs n).length<=1099511627776:=by have:=Is (n:=n) E.hd;omega
 have s:qj (A9 (Cb fs n)=Kd fs n):=rfl;obtain ⟨N,y⟩:∃ x,Kd fs n=x:=⟨_,rfl⟩;have i:=@J4 (Cb fs n);rw [s.o,y] at i;rw [y] at s ⊢;obtain ⟨D,v⟩:∃ x,Cb fs n=x:=⟨_,rfl⟩;obtain ⟨H,F⟩:∃ x,Du fs n=x:=⟨_,rfl⟩;rw [v,F] at j;rw [v] at s G;clear y v F m2 m3 m4 z3 z4 hb E
 go_enter func207,ntmps207
 go_wp2_with fail
 refine j.o.m ?_;rintro e S ⟨rfl,C⟩;go_wp2_with fail
 refine (iNumOf_any _ _ G).m ?_;rintro e T ⟨rfl,L⟩;subst L;rw [s.o];go_wp2_with fail
 refine (O8 i.1 i.2 (Lib.tabBelow_of_tabIs I.o.hp _ (z.o.below C).hb)).m ?_;rintro e U ⟨rfl,J⟩;go_wp2;go_ret;exact ⟨rfl,(z.o.below C).below J⟩
theorem oX {kd:Int} {fs:List Av} (h:Du fs 24=false):D7 kd fs = -1:=if_pos (.inl h)
theorem kZ {kd:Int} {fs:List Av} (h:kd=1100):D7 kd fs = -1:=if_pos (.inr h)
theorem mR {kd:Int} {fs:List Av} (h:Du fs 24=true) (g:kd≠1100):D7 kd fs=A9 (Cb fs 24):=if_neg (by rw [h];simp [g])
theorem cY {a b c:Int} (h:b=c):Ending.returned (.agg #[qzI a,qzI b])=.returned (.agg #[qzI a,qzI c]):=by rw [h]
theorem cE (kd:Int) (ao:qm) (cap:Nat) (fs:List Av) (w:ql) (F:Aw w ao fs) (hn:fs.length<=1048576) (hd:Gs fs<=1048576) :
  qi 128 #[.agg #[qzI kd,qf ao fs.length cap]] w (qp (.agg #[qzI kd,qzI (D7 kd fs)]) w):=by
 obtain ⟨V,l⟩:∃ V,V=(w.alloc (.cells #[qzI kd,qf ao fs.length cap] 68)).alloc (.cells #[qzI 0,qzI 0] 192):=⟨_,rfl⟩
 have i:BW w V:=by rw [l];exact (bR.alloc nL _).alloc (by simp) _
 have W:qj (V.heap.size=w.heap.size+2):=by rw [l];simp [qj]
 have v0:V.cell? ⟨w.heap.size,0,none⟩=some (qzI kd):=by rw [l];simp [go_sem]
 have v1:V.cell? ⟨w.heap.size,1,none⟩=some (qf ao fs.length cap):=by rw [l];simp [go_sem]
 have r0:V.cell? ⟨w.heap.size+1,0,none⟩=some (qzI 0):=by rw [l];simp [go_sem]
 have r1:V.cell? ⟨w.heap.size+1,1,none⟩=some (qzI 0):=by rw [l];simp [go_sem]
 have f0:V.frozen? ⟨w.heap.size+1,0,none⟩=false:=by rw [l];simp [go_sem]
 have f1:V.frozen? ⟨w.heap.size+1,1,none⟩=false:=by rw [l];simp [go_sem]
 have O:qj (qi 167 #[.agg #[qzI kd,qf ao fs.length cap],qzI 24] V (qp (.tuple #[qd (Cb fs 24),.bool (Du fs 24)]) V)):=Fs kd ao cap fs 24 _ (F.below i) hn hd;have J:qj (Du fs 24=false->D7 kd fs = -1):=oX;have L:qj (kd=1100->D7 kd fs = -1):=kZ;have M:qj (Du fs 24=true->kd≠1100->D7 kd fs=A9 (Cb fs 24)):=mR
 have C:(Cb fs 24).length<=1099511627776:=by have:=Is (n:=24) hd;omega
 obtain ⟨S,Z⟩:∃ x,D7 kd fs=x:=⟨_,rfl⟩;obtain ⟨D,z⟩:∃ x,Cb fs 24=x:=⟨_,rfl⟩;obtain ⟨H,B⟩:∃ x,Du fs 24=x:=⟨_,rfl⟩;rw [z,B] at O;rw [Z,B] at J;rw [Z] at L ⊢;rw [Z,B,z] at M;rw [z] at C;have a3:=Aa i;clear Z z B F hd hn i
 go_enter func128,ntmps128
 go_wp2_with fail
 rw [<- l];refine O.o.m ?_;rintro e u1 ⟨rfl,j⟩
 have h0:w.heap.size<V.heap.size:=by have:=W.o;omega
 have X:w.heap.size+1<V.heap.size:=by have:=W.o;omega
 have c0:=(j.cell (p:=⟨w.heap.size,0,none⟩) h0).t v0;have q0:=(j.cell (p:=⟨w.heap.size+1,0,none⟩) X).t r0;have G:=(j.cell (p:=⟨w.heap.size+1,1,none⟩) X).t r1;have g0:=(j.frozen (p:=⟨w.heap.size+1,0,none⟩) X).t f0;have g1:=(j.frozen (p:=⟨w.heap.size+1,1,none⟩) X).t f1;have HB:=Aa (next a3.o (j.m nL)) ;clear j v0 v1 r0 r1 f0 f1 h0 X l
 cases H
 ·have N:=Aa (J.o rfl)
  go_wp2
  refine bodyPost_ret (by simp [results,results128,go_sem,q0,G];try rfl) rfl ?_
  exact ⟨cY N.o.s,(HB.o.setCell (by simp) _).setCell (by simp) _⟩
 ·by_cases hk:kd=1100
  ·have N:=Aa (L.o hk)
   subst hk;go_wp2
   refine bodyPost_ret (by simp [results,results128,go_sem,q0,G];try rfl) rfl ?_
   exact ⟨cY N.o.s,(HB.o.setCell (by simp) _).setCell (by simp) _⟩
  ·have N:=Aa (M.o rfl hk)
   have a4:(kd == 1100)=false:=by simpa using hk
   clear hk;go_wp2
   go_region_with (go_at_call 168;refine (iNumOf_any _ _ C).m ?_;rintro e u2 ⟨rfl,hu⟩;subst hu)
   all_goals
    go_wp2
    refine bodyPost_ret (by simp [results,results128,go_sem,q0,G];try rfl) rfl ?_
    exact ⟨cY N.o.s,(HB.o.drew.setCell (by simp) _).setCell (by simp) _⟩
theorem mG {V:ql} {kd:Int} {ao:qm} {cap:Nat} {fs:List Av} {v:qm} {tc:Nat} {tg:List Av} {nf nt:Bool} {u:ql} (R:Me V kd ao cap fs v tc tg nf nt u) :
  qi 132 #[.pointer (some ⟨V.heap.size,0,none⟩)] u (qr (qzI (if nf=true then 2 else if nt=true then 3 else 0)) u):=by
 have m3:=R.m3;have m4:=R.m4;clear R
 cases nf
 ·cases nt
  ·go_enter func132,ntmps132
   go_wp2;go_ret;exact ⟨rfl,rfl⟩
  ·go_enter func132,ntmps132
   go_wp2;go_ret;exact ⟨rfl,rfl⟩
 ·go_enter func132,ntmps132
  go_wp2;go_ret;exact ⟨rfl,rfl⟩
theorem vR (kd:Int) (ao:qm) (cap:Nat) (fs:List Av) (w:ql) (F:Aw w ao fs) (hn:fs.length<=1048576) (hd:Gs fs<=1048576) (hT:Tg.Pow10 w)
  (hp : Lib.TabIs prog w "internal/strconv.uint64pow10" .u64 Lib.pow10Tab) (hw : ∀ k, k < 10 -> w.cell? ⟨3, k, none⟩ = some (qd (xH k))) :
  qi 130 #[.agg #[qzI kd,qf ao fs.length cap]] w λe w'=>∃ V v tc,e=.returned (.pointer (some ⟨V.heap.size,0,none⟩))/\fJ V ao fs v (Cq fs)/\Me V kd ao cap fs v tc (Cq fs) false false w'/\BW w V:=by
 have y:Below w.heap.size w (w.alloc (.cells #[qzI kd,qf ao fs.length cap] 68)):=bR.alloc nL _
 have O:qj (qi 167 #[.agg #[qzI kd,qf ao fs.length cap],qzI 48] (w.alloc (.cells #[qzI kd,qf ao fs.length cap] 68)) λe w'=>e=.returned (.tuple #[qd (Cb fs 48),.bool (Du fs 48)])/\Below (w.alloc (.cells #[qzI kd,qf ao fs.length cap] 68)).heap.size (w.alloc (.cells #[qzI kd,qf ao fs.length cap] 68)) w'):=Fs kd ao cap fs 48 _ (F.below y) hn hd
 have C:=Is (n:=48) hd;have r:qj ((Tg.gotT (Cb fs 48)).getD []=Cq fs):=rfl;have A:=Sn (Cb fs 48);rw [r.o] at A;have d:=Aa A;have HZ:qj (Aw w ao fs):=F;have U:qj (fs.length<=1048576/\Gs fs<=1048576):=⟨hn,hd⟩;have HT:qj (Tg.Pow10 w):=hT;have HP:=Aa hp;have HW:qj (∀ k,k<10->w.cell? (qzA 3 k)=some (qd (xH k))):=hw;obtain ⟨T,Y⟩:∃ x,Cq fs=x:=⟨_,rfl⟩;rw [Y] at r d ⊢;obtain ⟨D,z⟩:∃ x,Cb fs 48=x:=⟨_,rfl⟩;obtain ⟨H,B⟩:∃ x,Du fs 48=x:=⟨_,rfl⟩;rw [z,B] at O;rw [z] at C r;clear Y z B F hd hn y hT hp hw A
 go_enter func130,ntmps130
 go_wp2_with fail
 refine O.o.m ?_;rintro e u1 ⟨rfl,j⟩;obtain ⟨c0,c1,G,-⟩:=Pr j;have I:=Aa G;clear j G;have HG:=Aa (Tg.iGetTags_any D u1 C (HT.o.below I.o));go_wp2_with fail
 refine HG.o.m ?_;rintro e u2 ⟨a,c,rfl,ho,b2⟩;rw [r.o] at ho ⊢;obtain ⟨d0,d1⟩:=Xh c0 c1 b2;have q:=Aa (next I.o b2);have HO:=Aa (Tg.flds_any ho);clear c0 c1 b2 ho C;go_wp2;go_ret
 refine ⟨u2,a,c,rfl,⟨HZ.o.below q.o,U.o.1,U.o.2,HO.o,by have:=d.o.1;omega,λf hf=>by have:=d.o.2 f hf;omega,Lib.tabBelow_of_tabIs HP.o _ q.o,λk hk=>?_⟩,⟨by simp [go_sem],by simp [go_sem],by simp [go_sem],by simp [go_sem],by simp [go_sem],by simp [go_sem],by simp [go_sem],bR.alloc nL _⟩,q.o⟩
 have h:=HW.o k hk;rw [q.o.c 3 k (qs w _ h)];exact h
end Go.Proofs.YtfpafnefpmmofaaGreatDoor
namespace Go.Proofs.YtfpafnefpmmofaaGreatDoor
open Go.RowKit Go.Maps Go.Proofs.Tryz
def aD (n:Int):Prop:=(Lit.int .i64 n).wf=true
def Pw (a c:Int):Lit:=.string (keyBytes [.int .i64 a,.int .i64 c])
theorem rI:(192:TypeId)<prog.types.size:=of_decide_eq_true (by kernel_rfl)
theorem uV:prog.cellsOf 192=2:=by kernel_rfl
theorem sZ:prog.cellsOf 3=1:=by kernel_rfl
theorem Aat:prog.keyType 192=true:=by kernel_rfl
theorem Acc:(match prog.underlying 192 with|some (.array _ _)|some (.struct _)=>true|_=>false)=true:=by kernel_rfl
theorem Aci:WideMaps.KeyLaw prog 192:=deep_law_laid Sc (m:=3) (by omega) rI (by kernel_rfl) Acc
theorem dT:Keyed prog 192:=Keyed.of_law Aci
theorem wC:∃ n,prog.types.size=n+1:=⟨prog.types.size - 1,(Nat.succ_pred_eq_of_pos (Nat.lt_of_le_of_lt (qw _) rI)).s⟩
theorem Ru {a c:Int} (l:aD a) (o:aD c):keyOf prog 192 (.agg #[.int .i64 a,.int .i64 c])=some (Pw a c):=by
 obtain ⟨n,hn⟩:=wC;have p:(Lit.int .i64 a).wf=true:=l;have q:(Lit.int .i64 c).wf=true:=o
 simp [keyOf,underlying192,Aat,Value.formed,uV,hn,Program.keyLits,Value.cells,sZ,underlying3,p,q,Pw,List.range,List.range.loop]
theorem sR {a c A B:Int} (l:aD a) (o:aD c) (p:aD A) (q:aD B) (h:Pw a c=Pw A B):a=A/\c=B:=by
 have:=dT.inj (Ru l o) (h ▸ Ru p q)
 simpa using this
theorem fC (a c:Int):WideAt.IsKeyLit (Pw a c):=trivial
def Abu (v:Value):Option (DataW Unit×List MemPlace) :=
 match v with
 | .nilFunc=>some (.nil,[])
 | .func (.func f) a b=>if a=#[]/\b=#[] then some (.lit (.int .i64 (f:Nat)),[]) else none
 | _=>none
theorem tX (f:Nat):Abu (.func (.func f) #[] #[])=some (.lit (.int .i64 (f:Nat)),[]):=by simp [Abu]
theorem Acx {v:Value} {n:Int} {J:List MemPlace} (h:Abu v=some (.lit (.int .i64 n),J)):∃ f:Nat,v=.func (.func f) #[] #[]/\n=f:=by
 unfold Abu at h
 split at h
 ·cases h
 ·rename_i f a b
  split at h
  ·rename_i G
   obtain ⟨rfl,rfl⟩:=G
   simp at h
   exact ⟨f,rfl,h.1.s⟩
  ·cases h
 ·cases h
def swF (k:Nat):Nat:=[159,160,161,162,163,164,165,166].getD k 0
def Si (w:ql) (b n:Nat) (done:Nat->Bool):Prop :=
 ∃ (D:DataW Unit),w.ownsMap prog 192 Abu b n D /\
  ∀ a c,aD a->aD c->Maps.has D (Pw a c)=(match Do a c with|some k=>done k|none=>false) /\
   ∀ k,Do a c=some k->done k=true->D.atKey (Pw a c) .nil=.lit (.int .i64 (swF k:Nat))
theorem Gg {a c:Int} {k:Nat} (h:Do a c=some k):k<8/\a=(Kg k).1/\c=(Kg k).2:=by
 unfold Do at h
 repeat' split at h
 all_goals first|(rename_i H;simp only [Option.some.injEq] at h;subst h;simp only [Prod.mk.injEq] at H;exact ⟨by decide,H.1,H.2⟩)|cases h
theorem pQ {k:Nat} (h:k<8):Do (Kg k).1 (Kg k).2=some k:=by
 rcases (show k=0\/k=1\/k=2\/k=3\/k=4\/k=5\/k=6\/k=7 by omega) with rfl|rfl|rfl|rfl|rfl|rfl|rfl|rfl <;> decide
theorem Abv {k:Nat} (h:k<8):aD (Kg k).1/\aD (Kg k).2:=by
 rcases (show k=0\/k=1\/k=2\/k=3\/k=4\/k=5\/k=6\/k=7 by omega) with rfl|rfl|rfl|rfl|rfl|rfl|rfl|rfl <;> exact ⟨rfl,rfl⟩
theorem wZ (w:ql):Si (w.alloc (.map #[] 0)) w.heap.size 0 λ_=>false:=by
 refine ⟨.map [],World.ownsMap_made w _ _ _,λa c _ _=>⟨?_,λk _ h=>by cases h⟩⟩
 cases Do a c <;> rfl
theorem Si.put {w:ql} {b n:Nat} {done:Nat->Bool} (h:Si w b n done) {k:Nat} (hk:k<8) (hn:n<100) :
  ∃ w',(Instr.mapUpdate 228 (.map (some b)) (.agg #[.int .i64 (Kg k).1,.int .i64 (Kg k).2]) (.func (.func (swF k)) #[] #[])).run prog w=.ok () w' /\
   Si w' b (n+1) (λj=>if j=k then true else done j)/\w.grownBy w' (some b):=by
 obtain ⟨D,d,g⟩:=h;obtain ⟨x,y⟩:=Abv hk
 obtain ⟨w',i,t,M⟩:=d.update dT underlying228 (by unfold maxLen;omega) (Ru x y) (tX (swF k))
 refine ⟨w',i,⟨_,t,λa c l o=>?_⟩,M⟩
 by_cases he:a=(Kg k).1/\c=(Kg k).2
 ·obtain ⟨rfl,rfl⟩:=he
  rw [pQ hk,Maps.has_put_same d.isMap (fC _ _),Maps.atKey_put_same d.isMap (fC _ _)]
  refine ⟨by simp,λj hj _=>?_⟩
  simp only [Option.some.injEq] at hj
  subst hj
  rfl
 ·have u:Pw a c≠Pw (Kg k).1 (Kg k).2:=λe=>he (sR l o x y e)
  rw [Maps.has_put_other u,Maps.atKey_put_other u];obtain ⟨C,F⟩:=g a c l o
  refine ⟨?_,λj hj hd=>?_⟩
  ·rw [C]
   cases hs:Do a c with
   | none=>rfl
   | some j =>
    have r:j≠k:=λe=>he (by subst e;exact ⟨(Gg hs).2.1,(Gg hs).2.2⟩)
    simp [r]
  ·have r:j≠k:=λe=>he (by subst e;exact ⟨(Gg hj).2.1,(Gg hj).2.2⟩)
   exact F j hj (by simpa [r] using hd)
theorem Si.look {w:ql} {b n:Nat} {done:Nat->Bool} (h:Si w b n done) (hd:∀ k,k<8->done k=true) {a c:Int} (l:aD a) (o:aD c) :
  ∃ v,(Instr.lookup 228 (.map (some b)) (.agg #[.int .i64 a,.int .i64 c]) true).run prog w=.ok (.tuple #[v,.bool (Do a c).isSome]) w/\∀ k,Do a c=some k->v=.func (.func (swF k)) #[] #[]:=by
 obtain ⟨D,d,g⟩:=h;obtain ⟨C,F⟩:=g a c l o
 obtain ⟨v,J,i,I⟩:=d.look_ok dT underlying228 (z:=.nilFunc) (by rfl) (zd:=.nil) (zp:=[]) rfl (Ru l o)
 have e:Maps.has D (Pw a c)=(Do a c).isSome:=by
  rw [C]
  cases hs:Do a c with
  | none=>rfl
  | some j=>exact hd j (Gg hs).1
 rw [e] at i
 refine ⟨v,i,λk hk=>?_⟩
 rw [F k hk (hd k (Gg hk).1)] at I;obtain ⟨f,rfl,L⟩:=Acx I;rw [Int.ofNat_inj.1 L]
end Go.Proofs.YtfpafnefpmmofaaGreatDoor
namespace Go.Proofs.YtfpafnefpmmofaaGreatDoor
open Go.RowKit Go.Proofs.Tryz
theorem xQ (l:qn):decide (0<=Lib.indexByte l 32)=l.any (λc=>c == 32):=by
 induction l with
 | nil=>rfl
 | cons b l ih =>
  have r:=Lib.indexByte_ge l 32
  by_cases hb:b=32
  ·have a:(b == 32)=true:=by simp [hb]
   have f:Lib.indexByte (b::l) 32=0:=by rw [Lib.indexByte,if_pos a]
   rw [f,List.any_cons,a];rfl
  ·have a:(b == 32)=false:=by simp [hb]
   rw [List.any_cons,a,Bool.false_or,<- ih]
   by_cases h:Lib.indexByte l 32 = -1
   ·have f:Lib.indexByte (b::l) 32 = -1:=by rw [Lib.indexByte,if_neg (by rw [a];decide),if_pos (by simp [h])]
    rw [f,h]
   ·have f:Lib.indexByte (b::l) 32=Lib.indexByte l 32+1:=by rw [Lib.indexByte,if_neg (by rw [a];decide),if_neg (by simp [h])]
    rw [f,decide_eq_true (show 0<=Lib.indexByte l 32+1 by omega),decide_eq_true (show 0<=Lib.indexByte l 32 by omega)]
theorem nW (l:qn):Ag 33 126 l=(Ag 32 126 l && !decide (0<=Lib.indexByte l 32)):=by
 rw [xQ]
 induction l with
 | nil=>rfl
 | cons b l ih =>
  simp only [Ag,List.all_cons,List.any_cons] at ih ⊢
  rw [ih]
  by_cases hb:b.toNat=32
  ·have a:(b == 32)=true:=by
     have:b=32:=UInt8.toNat_inj.1 hb
     simp [this]
   have i:decide (33<=b.toNat)=false:=by simp [hb]
   rw [a,i]
   simp
  ·have a:(b == 32)=false:=by
     cases h:(b == 32)
     ·rfl
     ·have:b=32:=by simpa using h
      subst this;exact absurd rfl hb
   have i:decide (33<=b.toNat)=decide (32<=b.toNat):=by
    by_cases h:33<=b.toNat
    ·rw [decide_eq_true h,decide_eq_true (show 32<=b.toNat by omega)]
    ·rw [decide_eq_false h,decide_eq_false (show ¬ 32<=b.toNat by omega)]
   rw [a,i,Bool.false_or]
   cases decide (32<=b.toNat) <;> cases decide (b.toNat<=126) <;> simp
theorem xK (l:qn) (w:ql) (j:l.length<=1099511627776) :
  qi 237 #[qd l] w λe w'=>e=.returned (.bool (Kv l))/\w'=w:=by
 by_cases h12:l.length=12
 ·have p:((l.length:Int) == 12)=true:=by simp [h12]
  have g:qj (Kv l=(Ag 32 126 l && !decide (0<=Lib.indexByte l 32))):=by rw [qj,Kv,nW,decide_eq_true h12,ja]
  clear h12
  cases hp:Ag 32 126 l
  ·go_enter func237,ntmps237
   go_wp2_with fail
   refine (E7 l _ j).m ?_;rintro e k ⟨rfl,hw⟩;subst hw;rw [hp];go_wp2;go_ret
   exact ⟨Ab (by rw [g.o,hp];rfl),rfl⟩
  ·go_enter func237,ntmps237
   go_wp2_with fail
   refine (E7 l _ j).m ?_;rintro e k ⟨rfl,hw⟩;subst hw;rw [hp];go_wp2_with fail
   refine (strings_Contains_one ⟨l.toArray⟩ 32 _).m ?_;rintro e k ⟨rfl,hw⟩;subst hw;obtain ⟨q,d⟩:=Ae (decide (0<=Lib.indexByte (⟨l.toArray⟩:ByteArray).data.toList 32));rw [d];have n:=Aa d;clear d;go_wp2;go_ret
   exact ⟨Ab (by rw [g.o,hp,n.o];rfl),rfl⟩
 ·have p:((l.length:Int) == 12)=false:=by simp;omega
  have g:qj (Kv l=false):=by rw [qj,Kv,decide_eq_false h12];rfl
  clear h12
  go_enter func237,ntmps237
  go_wp2;go_ret;exact ⟨Ab g.o.s,rfl⟩
theorem mU (x:Int) (w:ql):qi 239 #[qzI x] w (qr (.bool (Gw x)) w):=by
 unfold Gw
 by_cases h1:1<=x
 ·by_cases h2:x<=9999
  ·go_enter func239,ntmps239
   go_wp2;go_ret
   exact ⟨Ab (by rw [decide_eq_true (show 1<=x by omega),decide_eq_true (show x<=9999 by omega)];rfl),rfl⟩
  ·go_enter func239,ntmps239
   go_wp2;go_ret
   exact ⟨Ab (by first|rw [decide_eq_false (show ¬ x<=9999 by omega),Bool.and_false]|rw [decide_eq_false (show ¬ x<=9999 by omega)]),rfl⟩
 ·go_enter func239,ntmps239
  go_wp2;go_ret
  exact ⟨Ab (by rw [decide_eq_false (show ¬ 1<=x by omega),Bool.false_and]),rfl⟩
theorem Cv {V:ql} {kd:Int} {ao:qm} {cap:Nat} {fs:List Av} {c:qm} {q:Nat} {tg:List Av} {nf nt:Bool} (E:fJ V ao fs c tg) (n:Int) (u:ql) (R:Me V kd ao cap fs c q tg nf nt u) :
  qi 204 #[.pointer (some ⟨V.heap.size,0,none⟩),qzI n] u λe u'=>e=.returned (qd (Lib.itoa (Kd fs n)))/\Me V kd ao cap fs c q tg (nf || !Du fs n) nt u':=by
 have A:=Aa R;have z:=Aa E;obtain ⟨m0,m1,m2,m3,m4,z3,z4,hb⟩:=R;have d:qj (qi 167 #[.agg #[qzI kd,qf ao fs.length cap],qzI n] u (qp (.tuple #[qd (Cb fs n),.bool (Du fs n)]) u)):=Fs kd ao cap fs n u (E.hm.below hb) E.hn E.hd
 have k:(Cb fs n).length<=1099511627776:=by have:=Is (n:=n) E.hd;omega
 have g:qj (A9 (Cb fs n)=Kd fs n):=rfl;obtain ⟨N,t⟩:∃ x,Kd fs n=x:=⟨_,rfl⟩;have b:=@J4 (Cb fs n);rw [g.o,t] at b;rw [t] at g ⊢;obtain ⟨D,h⟩:∃ x,Cb fs n=x:=⟨_,rfl⟩;obtain ⟨H,j⟩:∃ x,Du fs n=x:=⟨_,rfl⟩;rw [h,j] at d;rw [h] at g k;rw [j];clear t h j m2 m3 m4 z3 z4 hb E
 go_enter func204,ntmps204
 go_wp2_with fail
 refine d.o.m ?_;rintro e I ⟨rfl,p⟩;have a:=Aa (A.o.below p);clear p m0 m1
 cases H
 ·have f:=Aa (a.o.set3 true)
  have c3:=a.o.m3;have f3:=a.o.z3;go_wp2_with fail
  refine (iNumOf_any _ _ k).m ?_;rintro e B ⟨rfl,i⟩;subst i;rw [g.o];clear c3 f3;go_wp2_with fail
  refine (O8 b.1 b.2 (Lib.tabBelow_of_tabIs z.o.hp _ f.o.hb)).m ?_;rintro e G ⟨rfl,s⟩;go_wp2;go_ret
  exact ⟨rfl,J6 (f.o.below s) (by simp) (by simp)⟩
 ·go_wp2_with fail
  refine (iNumOf_any _ _ k).m ?_;rintro e B ⟨rfl,i⟩;subst i;rw [g.o];go_wp2_with fail
  refine (O8 b.1 b.2 (Lib.tabBelow_of_tabIs z.o.hp _ a.o.hb)).m ?_;rintro e G ⟨rfl,s⟩;go_wp2;go_ret
  exact ⟨rfl,J6 (a.o.below s) (by simp) (by simp)⟩
theorem Kz {V:ql} {kd:Int} {ao:qm} {cap:Nat} {fs:List Av} {c:qm} {q:Nat} {tg:List Av} {nf nt:Bool} (E:fJ V ao fs c tg) (n:Int) (u:ql) (R:Me V kd ao cap fs c q tg nf nt u) :
  qi 203 #[.pointer (some ⟨V.heap.size,0,none⟩),qzI n] u λe u'=>e=.returned (qd (Lib.itoa (Qy fs n)))/\Me V kd ao cap fs c q tg (nf || !Gw (Qy fs n)) nt u':=by
 have A:=Aa R;have z:=Aa E;obtain ⟨m0,m1,m2,m3,m4,z3,z4,hb⟩:=R;have d:qj (qi 167 #[.agg #[qzI kd,qf ao fs.length cap],qzI n] u (qp (.tuple #[qd (Cb fs n),.bool (Du fs n)]) u)):=Fs kd ao cap fs n u (E.hm.below hb) E.hn E.hd
 have k:(Cb fs n).length<=1099511627776:=by have:=Is (n:=n) E.hd;omega
 have g:qj (A9 (Lib.trimLeftB (Cb fs n) 48)=Qy fs n):=rfl;obtain ⟨N,t⟩:∃ x,Qy fs n=x:=⟨_,rfl⟩;have b:=@J4 (Lib.trimLeftB (Cb fs n) 48)
 have y:(Lib.trimLeftB (Cb fs n) 48).length<=1099511627776:=by
  have:=(List.dropWhile_suffix (· == (48:UInt8)) (l:=Cb fs n)).length_le
  unfold Lib.trimLeftB;omega
 rw [g.o,t] at b;rw [t] at g ⊢;obtain ⟨D,h⟩:∃ x,Cb fs n=x:=⟨_,rfl⟩;obtain ⟨H,j⟩:∃ x,Du fs n=x:=⟨_,rfl⟩;rw [h,j] at d;rw [h] at g y;obtain ⟨M,F⟩:=Ae (Lib.trimLeftB D 48)
 have C:qj (∀ v,qi 238 #[qd D,.string ⟨#[48]⟩] v (qr (qd M) v)):=λv=>by
  have:=strings_TrimLeft_one ⟨D.toArray⟩ 48 (by decide) v
  rw [show (⟨D.toArray⟩:ByteArray).data.toList=D from rfl,F] at this
  exact this
 rw [F] at g y;obtain ⟨Q,hQ⟩:=Ae (Gw N)
 have r:qj (∀ v,qi 239 #[qzI N] v (qr (.bool Q) v)):=λv=>by rw [<- hQ];exact mU N v
 rw [hQ];clear t h j F hQ m2 m3 m4 z3 z4 hb E k
 go_enter func203,ntmps203
 go_wp2_with fail
 refine d.o.m ?_;rintro e I ⟨rfl,p⟩;have a:=Aa (A.o.below p);clear p m0 m1;go_wp2_with fail
 refine (C.o _).m ?_;rintro e B ⟨rfl,i⟩;subst i;go_wp2_with fail
 refine (iNumOf_any _ _ y).m ?_;rintro e B ⟨rfl,i⟩;subst i;rw [g.o];go_wp2_with fail
 refine (r.o _).m ?_;rintro e B ⟨rfl,i⟩;subst i
 cases Q
 ·have f:=Aa (a.o.set3 true)
  have c3:=a.o.m3;have f3:=a.o.z3;go_wp2_with fail
  refine (O8 b.1 b.2 (Lib.tabBelow_of_tabIs z.o.hp _ f.o.hb)).m ?_;rintro e G ⟨rfl,s⟩;clear c3 f3;go_wp2;go_ret
  exact ⟨rfl,J6 (f.o.below s) (by simp) (by simp)⟩
 ·go_wp2_with fail
  refine (O8 b.1 b.2 (Lib.tabBelow_of_tabIs z.o.hp _ a.o.hb)).m ?_;rintro e G ⟨rfl,s⟩;go_wp2;go_ret
  exact ⟨rfl,J6 (a.o.below s) (by simp) (by simp)⟩
theorem nH {V:ql} {kd:Int} {ao:qm} {cap:Nat} {fs:List Av} {c:qm} {q:Nat} {tg:List Av} {nf nt:Bool} (E:fJ V ao fs c tg) (u:ql) (R:Me V kd ao cap fs c q tg nf nt u) :
  qi 202 #[.pointer (some ⟨V.heap.size,0,none⟩)] u λe u'=>e=.returned (qd (Cb fs 37))/\Me V kd ao cap fs c q tg (nf || !Kv (Cb fs 37)) nt u':=by
 have A:=Aa R;have z:=Aa E;obtain ⟨m0,m1,m2,m3,m4,z3,z4,hb⟩:=R;have d:qj (qi 167 #[.agg #[qzI kd,qf ao fs.length cap],qzI 37] u (qp (.tuple #[qd (Cb fs 37),.bool (Du fs 37)]) u)):=Fs kd ao cap fs 37 u (E.hm.below hb) E.hn E.hd
 have k:(Cb fs 37).length<=1099511627776:=by have:=Is (n:=37) E.hd;omega
 obtain ⟨D,h⟩:∃ x,Cb fs 37=x:=⟨_,rfl⟩;obtain ⟨H,j⟩:∃ x,Du fs 37=x:=⟨_,rfl⟩;rw [h,j] at d;rw [h] at k ⊢;obtain ⟨Q,hQ⟩:=Ae (Kv D)
 have r:qj (∀ v,qi 237 #[qd D] v (qr (.bool Q) v)):=λv=>by rw [<- hQ];exact xK D v k
 rw [hQ];clear h j hQ m2 m3 m4 z3 z4 hb E k
 go_enter func202,ntmps202
 go_wp2_with fail
 refine d.o.m ?_;rintro e I ⟨rfl,p⟩;have a:=Aa (A.o.below p);clear p m0 m1;go_wp2_with fail
 refine (r.o _).m ?_;rintro e B ⟨rfl,i⟩;subst i
 cases Q
 ·have f:=Aa (a.o.set3 true)
  have c3:=a.o.m3;have f3:=a.o.z3;go_wp2;go_ret
  exact ⟨rfl,J6 f.o (by simp) (by simp)⟩
 ·go_wp2
  go_ret
  exact ⟨rfl,J6 a.o (by simp) (by simp)⟩
theorem lF {V:ql} {kd:Int} {ao:qm} {cap:Nat} {fs:List Av} {i:qm} {w:Nat} {tg:List Av} {nf nt:Bool} (E:fJ V ao fs i tg) (u:ql) (R:Me V kd ao cap fs i w tg nf nt u) :
  qi 241 #[.pointer (some ⟨V.heap.size,0,none⟩)] u λe u'=>e=.returned (qd (Lib.itoa (Y6 tg)))/\Me V kd ao cap fs i w tg nf (nt || Fa tg) u':=by
 have L:=Aa R;have J:=Aa E;obtain ⟨m0,m1,m2,m3,m4,z3,z4,hb⟩:=R
 have q:qj (qi 242 #[qf i tg.length w,qzI 1] u (qp (.tuple #[qd (Jt tg 1),.bool (Tg.fOf tg 1).isSome]) u)):=Tg.iTagOf_any i w tg 1 u (E.ht.below hb) (by have:=E.hk;omega) λf hf=>by have:=E.he f hf;omega
 have I:(Jt tg 1).length<=1000:=U9 E.he;have x:qj (A9 (Jt tg 1)=Y6 tg):=rfl
 have p:qj (Fa tg=((Jt tg 1 == []) || (decide (9<(Jt tg 1).length) || decide (Y6 tg<0)))):=rfl
 obtain ⟨B,hB⟩:=Ae (Fa tg);obtain ⟨N,O⟩:=Ae (Y6 tg);have t:=@J4 (Jt tg 1);rw [x.o,O] at t;rw [O] at x p ⊢;rw [hB] at p ⊢;obtain ⟨D,z⟩:=Ae (Jt tg 1);obtain ⟨H,F⟩:=Ae ((Tg.fOf tg 1).isSome);rw [z,F] at q;rw [z] at x p I;clear O z F hB m0 m1 m3 m4 z3 z4 hb E
 go_enter func241,ntmps241
 go_wp2_with fail
 refine q.o.m ?_;rintro e A ⟨rfl,C⟩;have a:=Aa (L.o.below C);clear C m2;go_wp2_with fail
 refine (iNumOf_any _ _ (by omega)).m ?_
 rintro e u2 ⟨rfl,hu⟩;subst hu;rw [x.o]
 have T:=λ(v:ql) (b:BW V v)=>O8 t.1 t.2 (Lib.tabBelow_of_tabIs J.o.hp v b)
 have r:=Aa T;clear T t
 by_cases h1:D=[]
 ·have s:(D == [])=true:=by simp [h1]
  have d:qj (B=true):=by rw [qj,p.o,s,Bool.true_or]
  have j:=Aa (a.o.set4 true);have c3:=a.o.m4;have f3:=a.o.z4;clear p x I;subst h1;go_wp2_with fail
  refine (r.o _ j.o.hb).m ?_;rintro e S ⟨rfl,y⟩;clear c3 f3;go_wp2;go_ret
  exact ⟨rfl,J6 (j.o.below y) rfl (by rw [d.o,Bool.or_true])⟩
 have s:(D == [])=false:=by simp [h1]
 by_cases h2:9<D.length
 ·have M:(9:Int)<(D.length:Int):=by omega
  have d:qj (B=true):=by rw [qj,p.o,s,decide_eq_true h2];rfl
  have j:=Aa (a.o.set4 true);have c3:=a.o.m4;have f3:=a.o.z4;clear p x h2;go_wp2_with fail
  refine (r.o _ j.o.hb).m ?_;rintro e S ⟨rfl,y⟩;clear c3 f3;go_wp2;go_ret
  exact ⟨rfl,J6 (j.o.below y) rfl (by rw [d.o,Bool.or_true])⟩
 have M:¬ (9:Int)<(D.length:Int):=by omega
 by_cases h3:N<0
 ·have d:qj (B=true):=by rw [qj,p.o,decide_eq_true h3,Bool.or_true,Bool.or_true]
  have j:=Aa (a.o.set4 true);have c3:=a.o.m4;have f3:=a.o.z4;clear p x h2;go_wp2_with fail
  refine (r.o _ j.o.hb).m ?_;rintro e S ⟨rfl,y⟩;clear c3 f3;go_wp2;go_ret
  exact ⟨rfl,J6 (j.o.below y) rfl (by rw [d.o,Bool.or_true])⟩
 have d:qj (B=false):=by rw [qj,p.o,s,decide_eq_false h2,decide_eq_false h3];rfl
 clear p x h2;go_wp2_with fail
 refine (r.o _ a.o.hb).m ?_;rintro e S ⟨rfl,y⟩;go_wp2;go_ret
 exact ⟨rfl,J6 (a.o.below y) rfl (by rw [d.o,Bool.or_false])⟩
theorem pN {V:ql} {kd:Int} {ao:qm} {cap:Nat} {fs:List Av} {i:qm} {w:Nat} {tg:List Av} {nf nt:Bool} (E:fJ V ao fs i tg) (u:ql) (R:Me V kd ao cap fs i w tg nf nt u) :
  qi 206 #[.pointer (some ⟨V.heap.size,0,none⟩)] u λe u'=>e=.returned (qd (qZ tg))/\Me V kd ao cap fs i w tg nf (nt || !Ib (Jt tg 2)) u':=by
 have L:=Aa R;have J:=Aa E;obtain ⟨m0,m1,m2,m3,m4,z3,z4,hb⟩:=R
 have q:qj (qi 242 #[qf i tg.length w,qzI 2] u (qp (.tuple #[qd (Jt tg 2),.bool (Tg.fOf tg 2).isSome]) u)):=Tg.iTagOf_any i w tg 2 u (E.ht.below hb) (by have:=E.hk;omega) λf hf=>by have:=E.he f hf;omega
 have I:(Jt tg 2).length<=1000:=U9 E.he
 have l:qj (qZ tg=if Ib (Jt tg 2)=true then Jt tg 2 else []):=rfl
 have n:qj (Ib (Jt tg 2)=((Jt tg 2 == [97,99,99,101,112,116]) || ((Jt tg 2 == [114,101,102,117,115,101]) || ((Jt tg 2 == [114,117,108,101]) || (Jt tg 2 == [99,108,111,115,101]))))):=rfl
 obtain ⟨B,hB⟩:=Ae (Ib (Jt tg 2));obtain ⟨W,U⟩:=Ae (qZ tg);rw [hB] at n l ⊢;rw [U] at l ⊢;obtain ⟨D,z⟩:=Ae (Jt tg 2);obtain ⟨H,F⟩:=Ae ((Tg.fOf tg 2).isSome);rw [z,F] at q;rw [z] at n l I;clear z F hB U m0 m1 m3 m4 z3 z4 hb E
 go_enter func206,ntmps206
 go_wp2_with fail
 refine q.o.m ?_;rintro e A ⟨rfl,C⟩;have a:=Aa (L.o.below C);clear C m2
 have G:qj (∀ k,k<10->A.cell? (qzA 3 k)=some (qd (xH k))):=λk hk=>by
  have h:=J.o.hw k hk;rw [a.o.hb.c 3 k (qs V _ h)];exact h
 have g5:A.cell? (qzA 3 5)=some (.string ⟨#[97,99,99,101,112,116]⟩):=G.o 5 (by decide)
 have g6:A.cell? (qzA 3 6)=some (.string ⟨#[114,101,102,117,115,101]⟩):=G.o 6 (by decide)
 have g7:A.cell? (qzA 3 7)=some (.string ⟨#[114,117,108,101]⟩):=G.o 7 (by decide)
 have g9:A.cell? (qzA 3 9)=some (.string ⟨#[99,108,111,115,101]⟩):=G.o 9 (by decide)
 by_cases h5:D=[97,99,99,101,112,116]
 ·subst h5
  have d:B=true:=n.o;subst d;have g:qj _:=l.o;rw [if_pos rfl] at g;clear l n;go_wp2;go_ret
  exact ⟨Ww g.o,J6 a.o (by simp) (by simp)⟩
 by_cases h6:D=[114,101,102,117,115,101]
 ·subst h6
  have d:B=true:=n.o;subst d;have g:qj _:=l.o;rw [if_pos rfl] at g;clear l n;go_wp2;go_ret
  exact ⟨Ww g.o,J6 a.o (by simp) (by simp)⟩
 by_cases h7:D=[114,117,108,101]
 ·subst h7
  have d:B=true:=n.o;subst d;have g:qj _:=l.o;rw [if_pos rfl] at g;clear l n;go_wp2;go_ret
  exact ⟨Ww g.o,J6 a.o (by simp) (by simp)⟩
 by_cases h9:D=[99,108,111,115,101]
 ·subst h9
  have d:B=true:=n.o;subst d;have g:qj _:=l.o;rw [if_pos rfl] at g;clear l n;go_wp2;go_ret
  exact ⟨Ww g.o,J6 a.o (by simp) (by simp)⟩
 have X:(D == [97,99,99,101,112,116])=false:=by simpa using h5
 have Y:(D == [114,101,102,117,115,101])=false:=by simpa using h6
 have Z:(D == [114,117,108,101])=false:=by simpa using h7
 have d9:(D == [99,108,111,115,101])=false:=by simpa using h9
 have d:B=false:=by rw [n.o,X,Y,Z,d9];rfl
 subst d;have g:qj _:=l.o
 rw [if_neg (by decide)] at g
 have j:qj _:=a.o.set4 true;have c3:=a.o.m4;have f3:=a.o.z4;clear l n;go_wp2;go_ret
 exact ⟨Ww g.o,J6 j.o (by simp) (by simp)⟩
def Yp (V:ql) (kd:Int) (ao:qm) (cap:Nat) (fs:List Av) (i:qm) (j:Nat) (tg:List Av) (nf nt:Bool) (a b c d f:qn) (e:Ending) (u:ql):Prop :=
 ∃ g,e=.returned (qf (some (qzA g 0)) 5 5)/\(u.cell? (qzA g 0)=some (qd a)/\u.cell? (qzA g 1)=some (qd b)/\u.cell? (qzA g 2)=some (qd c)/\u.cell? (qzA g 3)=some (qd d)/\u.cell? (qzA g 4)=some (qd f)) /\
  Me V kd ao cap fs i j tg nf nt u
theorem cO {V:ql} {kd:Int} {ao:qm} {cap:Nat} {fs:List Av} {i:qm} {j:Nat} {tg:List Av} {nf nt p q:Bool} {u:ql} (h:Me V kd ao cap fs i j tg nf nt u) (a b c d f:qn) (t:TypeId) (F:nf=p) (ht:nt=q) :
  Yp V kd ao cap fs i j tg p q a b c d f (.returned (qf (some ⟨u.heap.size,0,none⟩) 5 5)) (u.alloc (.cells #[qd a,qd b,qd c,qd d,qd f] t)):=by
 subst F;subst ht
 exact ⟨u.heap.size,rfl,⟨by simp [go_sem],by simp [go_sem],by simp [go_sem],by simp [go_sem],by simp [go_sem]⟩,h.below (bR.alloc nL _)⟩
theorem Yp.flags {V:ql} {kd:Int} {ao:qm} {cap:Nat} {fs:List Av} {i:qm} {j:Nat} {tg:List Av} {nf nt p q:Bool} {a b c d f:qn} {e:Ending} {u:ql} (h:Yp V kd ao cap fs i j tg nf nt a b c d f e u) (F:nf=p) (ht:nt=q):Yp V kd ao cap fs i j tg p q a b c d f e u:=by
 subst F;subst ht;exact h
theorem Jg {V:ql} {kd:Int} {ao:qm} {cap:Nat} {fs:List Av} {i:qm} {j:Nat} {tg:List Av} {nf nt:Bool} (E:fJ V ao fs i tg) (wd sm rs:qn) (u:ql) (R:Me V kd ao cap fs i j tg nf nt u) :
  qi 205 #[.pointer (some ⟨V.heap.size,0,none⟩),qd wd,qd sm,qd rs] u (Yp V kd ao cap fs i j tg (nf) (nt || Fa tg) ([97,99,116]) (Lib.itoa (Y6 tg)) (wd) (sm) (rs)):=by
 have k:=Aa E;have n:=Aa R;clear R E
 go_enter func205,ntmps205
 go_wp2_with fail
 refine (lF k.o _ n.o).m ?_;rintro e y ⟨rfl,l⟩;have x:=Aa l;clear l;go_wp2;go_ret;exact cO x.o _ _ _ _ _ _ rfl rfl
theorem lB {V:ql} {kd:Int} {ao:qm} {cap:Nat} {fs:List Av} {i:qm} {j:Nat} {tg:List Av} {nf nt:Bool} (E:fJ V ao fs i tg) (u:ql) (R:Me V kd ao cap fs i j tg nf nt u) :
  qi 159 #[.pointer (some ⟨V.heap.size,0,none⟩)] u (Yp V kd ao cap fs i j tg (nf || (((!Kv (Cb fs 37) || !Gw (Qy fs 2)) || !Du fs 49) || !Du fs 4)) (nt) ([97,117,116,104]) (Cb fs 37) (Lib.itoa (Qy fs 2)) (Lib.itoa (Kd fs 49)) (Lib.itoa (Kd fs 4))):=by
 have k:=Aa E;have n:=Aa R;clear R E
 go_enter func159,ntmps159
 go_wp2_with fail
 refine (nH k.o _ n.o).m ?_;rintro e y ⟨rfl,l⟩;have x:=Aa l;clear l;go_wp2_with fail
 refine (Kz k.o 2 _ x.o).m ?_;rintro e I ⟨rfl,s⟩;have z:=Aa s;clear s;go_wp2_with fail
 refine (Cv k.o 49 _ z.o).m ?_;rintro e H ⟨rfl,v⟩;have C:=Aa v;clear v;go_wp2_with fail
 refine (Cv k.o 4 _ C.o).m ?_;rintro e J ⟨rfl,B⟩;have D:=Aa B;clear B;go_wp2;go_ret
 exact cO D.o _ _ _ _ _ _ (by simp only [Bool.or_assoc]) rfl
theorem xX {V:ql} {kd:Int} {ao:qm} {cap:Nat} {fs:List Av} {i:qm} {j:Nat} {tg:List Av} {nf nt:Bool} (E:fJ V ao fs i tg) (u:ql) (R:Me V kd ao cap fs i j tg nf nt u) :
  qi 160 #[.pointer (some ⟨V.heap.size,0,none⟩)] u (Yp V kd ao cap fs i j tg (nf || (((!Gw (Qy fs 2) || !Gw (Qy fs 93)) || !Du fs 49) || !Du fs 4)) (nt) ([112,97,121]) (Lib.itoa (Qy fs 2)) (Lib.itoa (Qy fs 93)) (Lib.itoa (Kd fs 49)) (Lib.itoa (Kd fs 4))):=by
 have k:=Aa E;have n:=Aa R;clear R E
 go_enter func160,ntmps160
 go_wp2_with fail
 refine (Kz k.o 2 _ n.o).m ?_;rintro e y ⟨rfl,l⟩;have x:=Aa l;clear l;go_wp2_with fail
 refine (Kz k.o 93 _ x.o).m ?_;rintro e I ⟨rfl,s⟩;have z:=Aa s;clear s;go_wp2_with fail
 refine (Cv k.o 49 _ z.o).m ?_;rintro e H ⟨rfl,v⟩;have C:=Aa v;clear v;go_wp2_with fail
 refine (Cv k.o 4 _ C.o).m ?_;rintro e J ⟨rfl,B⟩;have D:=Aa B;clear B;go_wp2;go_ret
 exact cO D.o _ _ _ _ _ _ (by simp only [Bool.or_assoc]) rfl
theorem uN {V:ql} {kd:Int} {ao:qm} {cap:Nat} {fs:List Av} {i:qm} {j:Nat} {tg:List Av} {nf nt:Bool} (E:fJ V ao fs i tg) (u:ql) (R:Me V kd ao cap fs i j tg nf nt u) :
  qi 164 #[.pointer (some ⟨V.heap.size,0,none⟩)] u (Yp V kd ao cap fs i j tg (nf) (nt || Fa tg) ([97,99,116]) (Lib.itoa (Y6 tg)) ([97,115,107]) ([48]) ([48])):=by
 have r:=E.hw 0 (by decide)
 rw [<- R.hb.c 3 0 (qs V _ r)] at r;have G:=r;have k:=Aa E;have n:=Aa R;clear r R E
 go_enter func164,ntmps164
 go_wp2_with fail
 refine (Jg k.o [97,115,107] [48] [48] _ n.o).m ?_;rintro e y ⟨g,rfl,w,l⟩
 have A:=Aa ((⟨g,rfl,w,l⟩:Yp V kd ao cap fs i j tg nf (nt || Fa tg) _ _ _ _ _ _ y))
 clear w l;go_wp2;go_ret;exact A.o
theorem mL {V:ql} {kd:Int} {ao:qm} {cap:Nat} {fs:List Av} {i:qm} {j:Nat} {tg:List Av} {nf nt:Bool} (E:fJ V ao fs i tg) (u:ql) (R:Me V kd ao cap fs i j tg nf nt u) :
  qi 165 #[.pointer (some ⟨V.heap.size,0,none⟩)] u (Yp V kd ao cap fs i j tg (nf) (nt || Fa tg) ([97,99,116]) (Lib.itoa (Y6 tg)) ([103,105,118,101]) ([48]) ([48])):=by
 have r:=E.hw 1 (by decide)
 rw [<- R.hb.c 3 1 (qs V _ r)] at r;have G:=r;have k:=Aa E;have n:=Aa R;clear r R E
 go_enter func165,ntmps165
 go_wp2_with fail
 refine (Jg k.o [103,105,118,101] [48] [48] _ n.o).m ?_;rintro e y ⟨g,rfl,w,l⟩
 have A:=Aa ((⟨g,rfl,w,l⟩:Yp V kd ao cap fs i j tg nf (nt || Fa tg) _ _ _ _ _ _ y))
 clear w l;go_wp2;go_ret;exact A.o
theorem Y4 {V:ql} {kd:Int} {ao:qm} {cap:Nat} {fs:List Av} {i:qm} {j:Nat} {tg:List Av} {nf nt:Bool} (E:fJ V ao fs i tg) (u:ql) (R:Me V kd ao cap fs i j tg nf nt u) :
  qi 166 #[.pointer (some ⟨V.heap.size,0,none⟩)] u (Yp V kd ao cap fs i j tg (nf) (nt || (!Ib (Jt tg 2) || Fa tg)) ([97,99,116]) (Lib.itoa (Y6 tg)) (qZ tg) (Lib.itoa (Kd fs 4)) ([48])):=by
 have k:=Aa E;have n:=Aa R;clear R E
 go_enter func166,ntmps166
 go_wp2_with fail
 refine (pN k.o _ n.o).m ?_;rintro e y ⟨rfl,l⟩;have x:=Aa l;clear l;go_wp2_with fail
 refine (cI k.o 4 _ x.o).m ?_;rintro e I ⟨rfl,s⟩;have z:=Aa s;clear s;go_wp2_with fail
 refine (Jg k.o (qZ tg) (Lib.itoa (Kd fs 4)) [48] _ z.o).m ?_;rintro e H ⟨g,rfl,w,v⟩
 have A:=Aa ((⟨g,rfl,w,v⟩:Yp V kd ao cap fs i j tg nf ((nt || !Ib (Jt tg 2)) || Fa tg) _ _ _ _ _ _ H))
 clear w v;go_wp2;go_ret
 exact Yp.flags A.o rfl (by simp only [Bool.or_assoc])
theorem bI {V:ql} {kd:Int} {ao:qm} {cap:Nat} {fs:List Av} {a:qm} {q:Nat} {tg:List Av} {nf nt:Bool} (E:fJ V ao fs a tg) (u:ql) (R:Me V kd ao cap fs a q tg nf nt u) :
  qi 161 #[.pointer (some ⟨V.heap.size,0,none⟩)] u (Yp V kd ao cap fs a q tg (nf || !Du fs 4) (nt || Fa tg) ([97,99,116]) (Lib.itoa (Y6 tg)) ([97,110,115,119,101,114]) (Lib.itoa (Kd fs 4)) ([48])):=by
 have f:=E.hw 3 (by decide)
 rw [<- R.hb.c 3 3 (qs V _ f)] at f;have p:=f;have j:=Aa E;have l:=Aa R
 have k:qj (∀ v,BW V v->v.cell? (qzA 3 3)=some (.string ⟨#[97,110,115,119,101,114]⟩)):=λv b=>by
  have h:=E.hw 3 (by decide)
  rw [b.c 3 3 (qs V _ h)];exact h
 clear f R E
 go_enter func161,ntmps161
 go_upto_region 1 with fail
 go_region_held3 (λv=>v.cell? (qzA 3 3)=some (.string ⟨#[97,110,115,119,101,114]⟩)) (first|with_reducible exact p|with_reducible exact k.o _ l.o.hb.drew|(revert i;intro i;exact k.o _ i.o.hb)|(revert d;intro d;exact k.o _ d.o.hb)) ((first
  | (go_at_call 204;(first|with_reducible refine (Cv j.o 4 _ l.o).m ?_|refine (Cv j.o 4 _ (l.o.below bR.drew)).m ?_);rintro e x ⟨rfl,r⟩;have d:=Aa r;clear r)
  | (go_at_call 205;refine (Jg j.o [97,110,115,119,101,114] (Lib.itoa (Kd fs 4)) [48] _ d.o).m ?_;rintro e w ⟨g,rfl,s,n⟩;have t:=Aa ((⟨g,rfl,s,n⟩:Yp V kd ao cap fs a q tg (nf || !Du fs 4) (nt || Fa tg) _ _ _ _ _ _ w));have i:=Aa n;clear s n)))
 all_goals
  go_wp2;go_ret;exact t.o
theorem cW {V:ql} {kd:Int} {ao:qm} {cap:Nat} {fs:List Av} {a:qm} {q:Nat} {tg:List Av} {nf nt:Bool} (E:fJ V ao fs a tg) (u:ql) (R:Me V kd ao cap fs a q tg nf nt u) :
  qi 163 #[.pointer (some ⟨V.heap.size,0,none⟩)] u (Yp V kd ao cap fs a q tg (nf || !Du fs 4) (nt || Fa tg) ([97,99,116]) (Lib.itoa (Y6 tg)) ([115,101,99,111,110,100]) (Lib.itoa (Kd fs 4)) ([48])):=by
 have f:=E.hw 4 (by decide)
 rw [<- R.hb.c 3 4 (qs V _ f)] at f;have p:=f;have j:=Aa E;have l:=Aa R
 have k:qj (∀ v,BW V v->v.cell? (qzA 3 4)=some (.string ⟨#[115,101,99,111,110,100]⟩)):=λv b=>by
  have h:=E.hw 4 (by decide)
  rw [b.c 3 4 (qs V _ h)];exact h
 clear f R E
 go_enter func163,ntmps163
 go_upto_region 1 with fail
 go_region_held3 (λv=>v.cell? (qzA 3 4)=some (.string ⟨#[115,101,99,111,110,100]⟩)) (first|with_reducible exact p|with_reducible exact k.o _ l.o.hb.drew|(revert i;intro i;exact k.o _ i.o.hb)|(revert d;intro d;exact k.o _ d.o.hb)) ((first
  | (go_at_call 204;(first|with_reducible refine (Cv j.o 4 _ l.o).m ?_|refine (Cv j.o 4 _ (l.o.below bR.drew)).m ?_);rintro e x ⟨rfl,r⟩;have d:=Aa r;clear r)
  | (go_at_call 205;refine (Jg j.o [115,101,99,111,110,100] (Lib.itoa (Kd fs 4)) [48] _ d.o).m ?_;rintro e w ⟨g,rfl,s,n⟩;have t:=Aa ((⟨g,rfl,s,n⟩:Yp V kd ao cap fs a q tg (nf || !Du fs 4) (nt || Fa tg) _ _ _ _ _ _ w));have i:=Aa n;clear s n)))
 all_goals
  go_wp2;go_ret;exact t.o
theorem cC {V:ql} {kd:Int} {ao:qm} {cap:Nat} {fs:List Av} {a:qm} {r:Nat} {tg:List Av} {nf nt:Bool} (E:fJ V ao fs a tg) (u:ql) (R:Me V kd ao cap fs a r tg nf nt u) :
  qi 162 #[.pointer (some ⟨V.heap.size,0,none⟩)] u (Yp V kd ao cap fs a r tg (nf || (!Du fs 4 || !Du fs 25)) (nt || Fa tg) ([97,99,116]) (Lib.itoa (Y6 tg)) ([99,104,97,114,103,101]) (Lib.itoa (Kd fs 4)) (Lib.itoa (Kd fs 25))):=by
 have k:=E.hw 2 (by decide)
 rw [<- R.hb.c 3 2 (qs V _ k)] at k;have q:u.cell? (qzA 3 2)=some (.string ⟨#[99,104,97,114,103,101]⟩):=k;have i:qj _:=E;have n:qj _:=R
 have j:qj (∀ v,BW V v->v.cell? (qzA 3 2)=some (.string ⟨#[99,104,97,114,103,101]⟩)):=λv b=>by
  have h:=E.hw 2 (by decide)
  rw [b.c 3 2 (qs V _ h)];exact h
 clear k R E
 go_enter func162,ntmps162
 go_upto_region 1 with fail
 go_region_held3 (λv=>v.cell? (qzA 3 2)=some (.string ⟨#[99,104,97,114,103,101]⟩)) (first|with_reducible exact q|with_reducible exact j.o _ n.o.hb.drew|(revert l;intro l;exact j.o _ l.o.hb)|(revert f;intro f;exact j.o _ f.o.hb)|(revert d;intro d;exact j.o _ d.o.hb)) ((first
  | (go_at_call_of 204 (Value.int .i64 4);(first|with_reducible refine (Cv i.o 4 _ n.o).m ?_|refine (Cv i.o 4 _ (n.o.below bR.drew)).m ?_);rintro e z ⟨rfl,s⟩;have d:qj _:=s;clear s)
  | (go_at_call_of 204 (Value.int .i64 25);refine (Cv i.o 25 _ d.o).m ?_;rintro e A ⟨rfl,t⟩;have f:qj _:=t;clear t)
  | (go_at_call 205;refine (Jg i.o [99,104,97,114,103,101] (Lib.itoa (Kd fs 4)) (Lib.itoa (Kd fs 25)) _ f.o).m ?_;rintro e y ⟨g,rfl,w,p⟩;have x:qj _:=(⟨g,rfl,w,p⟩:Yp V kd ao cap fs a r tg ((nf || !Du fs 4) || !Du fs 25) (nt || Fa tg) _ _ _ _ _ _ y);have l:=Aa p;clear w p)))
 all_goals
  go_wp2;go_ret
  exact Yp.flags x.o (by simp only [Bool.or_assoc]) rfl
theorem eG {kd:Int} {fs:List Av} (h:Xb 1 fs=false):Cx kd fs=false:=by unfold Cx;rw [h,Bool.and_false]
theorem gD {kd:Int} {fs:List Av} (h:¬ (0<=kd/\kd<=9999)):Cx kd fs=false:=by unfold Cx;rw [decide_eq_false h,Bool.false_and]
theorem Aae {kd:Int} {fs:List Av} (h:0<=kd/\kd<=9999):Cx kd fs=Xb 1 fs:=by unfold Cx;rw [decide_eq_true h,ja]
theorem Kt {n:Int} {d:qn} {q:Bool} (G:Ay n d=q) (w:ql) (I:d.length<=1099511627776) :
  qi 170 #[.agg #[qzI n,qd d]] w (qp (.bool q) w):=by
 rw [<- G];exact cM n d w I
theorem W7 (kd:Int) (ao:qm) (cap:Nat) (fs:List Av) (w:ql) (hz:Aw w ao fs) (hn:fs.length<=1048576) (hd:Gs fs<=1048576) :
  qi 129 #[.agg #[qzI kd,qf ao fs.length cap]] w λe w'=>e=.returned (.bool (Cx kd fs))/\BW w w':=by
 by_cases hk0:kd<0
 ·have F:qj (Cx kd fs=false):=gD (by omega)
  have N:decide (kd<0)=true:=by simpa using hk0
  go_enter func129,ntmps129
  go_wp2
  go_quiet (exact Calls.quiet_of_same (Er 4 _ (by omega)))
  go_wp2;go_ret
  exact ⟨Ab F.o.s,below_drewN (by go_grown) _⟩
 ·have N:decide (kd<0)=false:=by simpa using hk0
  by_cases hk9:10000<=kd
  ·have F:qj (Cx kd fs=false):=gD (by omega)
   have O:decide (10000<=kd)=true:=by simpa using hk9
   go_enter func129,ntmps129
   go_wp2
   go_quiet (exact Calls.quiet_of_same (Er 4 _ (by omega)))
   go_wp2;go_ret
   exact ⟨Ab F.o.s,below_drewN (by go_grown) _⟩
  ·have O:decide (10000<=kd)=false:=by simpa using hk9
   have F:qj (Cx kd fs=Xb 1 fs):=Aae (by omega)
   rcases hz with rfl|⟨b,off,rfl,hb,z⟩
   ·go_enter func129,ntmps129
    go_wp2
    go_quiet (exact Calls.quiet_of_same (Er 4 _ (by omega)))
    go_wp2;refine wp_loop_rounds 1 ?_;rw [rounds_succ];go_wp2;go_ret
    exact ⟨Ab F.o.s,below_drewN (by go_grown) _⟩
   ·have L:=Aa z
    clear z
    go_enter func129,ntmps129
    go_wp2
    go_quiet (exact Calls.quiet_of_same (Er 4 _ (by omega)))
    go_wp2
    go_loopw [17] (λi wr=>∃ k:Nat,k<=fs.length/\i=qzI k/\Xb 1 fs=Xb (Kn fs k) (fs.drop k)/\BW w wr/\wr.cell? ⟨w.heap.size,1,none⟩=some (qf (some (qzA b off)) fs.length cap)) (λi _=>fs.length - (intOf i).toNat)
    case atStart=>exact ⟨0,qw _,rfl,rfl,below_drewN (by go_grown) _,by simp [go_sem]⟩
    case round =>
     obtain ⟨k,hk,rfl,l,r,y⟩:=hrel;have x:w.heap.size<wr.heap.size:=qs wr _ y
     by_cases hlt:k<fs.length
     ·have c1:wr.cell? (qzA b (off+k*2))=some (qzI (Dn fs k).1):=(r.c b (off+k*2) hb).t (L.o k hlt).1
      have c2:wr.cell? (qzA b (off+k*2+1))=some (qd (Dn fs k).2):=(r.c b (off+k*2+1) hb).t (L.o k hlt).2
      have a4:(k:Int)<(fs.length:Int):=by omega
      have g:=fZ fs k (Kn fs k) hlt;have J:=kU hlt hd;have C:qj (Kn fs (k+1)=(Dn fs k).1):=rfl;obtain ⟨⟨n,s⟩,X⟩:∃ f,Dn fs k=f:=⟨_,rfl⟩;rw [X] at c1 c2 g J C
      simp only at c1 c2 g J C
      have I:s.length<=1099511627776:=by omega
      clear X
      cases G:Ay n s
      ·have B:qj (Cx kd fs=false):=by rw [qj,F.o,l,g,G];rfl
       have H:qj _:=G;clear G g l;have U:=Ec (wr.alloc (.cells #[qzI n,qd s] 136))
       have Y:=Ai (W:=wr.alloc (.cells #[qzI n,qd s] 136)) (a:=⟨wr.heap.size,0,none⟩) (v:=qzI n) (by simp)
       have Z:=Ai (W:=wr.alloc (.cells #[qzI n,qd s] 136)) (a:=⟨wr.heap.size,1,none⟩) (v:=qd s) (by simp)
       go_wp2
       refine Aj (by kernel_rfl) (by kernel_rfl) ?_
       repeat (go_big_quiet_step (exact Bi (Kt H.o _ I)))
       refine wpQuiet_nil ?_;rintro _ ⟨⟨V,D⟩,u⟩;subst u;go_wp2;go_ret
       exact ⟨Ab B.o.s,(r.alloc (jb x) _).t (D.m (by simp;omega))⟩
      ·have H:qj _:=G
       rw [G,ja] at g;clear G;have U:=Ec (wr.alloc (.cells #[qzI n,qd s] 136))
       have Y:=Ai (W:=wr.alloc (.cells #[qzI n,qd s] 136)) (a:=⟨wr.heap.size,0,none⟩) (v:=qzI n) (by simp)
       have Z:=Ai (W:=wr.alloc (.cells #[qzI n,qd s] 136)) (a:=⟨wr.heap.size,1,none⟩) (v:=qd s) (by simp)
       by_cases hk0':k=0
       ·have S:decide (0<k)=false:=by simp [hk0']
        have T:1<n:=by have:=Vj (eW H.o);omega
        have B:qj (Xb 1 fs=Xb (Kn fs (k+1)) (fs.drop (k+1))):=by
         rw [qj,l,g,C.o,show Kn fs k=1 from by rw [hk0'];rfl,decide_eq_true T,ja]
        clear g l hk0';go_wp2
        refine Aj (by kernel_rfl) (by kernel_rfl) ?_
        repeat (go_big_quiet_step (exact Bi (Kt H.o _ I)))
        refine wpQuiet_nil ?_;rintro _ ⟨⟨V,D⟩,u⟩;subst u;go_wp2
        go_roundw
        case rel=>exact ⟨k+1,by omega,by go_num,B.o,(r.alloc (jb x) _).t (D.m (by simp;omega)),(D.cell (p:=⟨w.heap.size,1,none⟩) (by simp;omega)).t (by rw [jg _ _ _ x];exact y)⟩
        case measure=>simp [intOf];omega
       ·obtain ⟨j,rfl⟩:∃ j,k=j+1:=⟨k - 1,by omega⟩
        have S:decide (0<j+1)=true:=by simp
        have c3:wr.cell? (qzA b (off+j*2))=some (qzI (Dn fs j).1):=(r.c b (off+j*2) hb).t (L.o j (by omega)).1
        have a3:(j:Int)<(fs.length:Int):=by omega
        have A:Kn fs (j+1)=(Dn fs j).1:=rfl;obtain ⟨p,hp⟩:=Ae ((Dn fs j).1);rw [hp] at c3 A
        have g3:=Ai (W:=wr.alloc (.cells #[qzI n,qd s] 136)) (a:=⟨w.heap.size,1,none⟩) (v:=qf (some (qzA b off)) fs.length cap) (by rw [jg _ _ _ x];exact y)
        have g4:=Ai (W:=wr.alloc (.cells #[qzI n,qd s] 136)) (a:=(qzA b (off+j*2))) (v:=qzI p) (by rw [jg _ _ _ (jd hb r.size)];exact c3)
        by_cases hpn:n<=p
        ·have M:decide (n<=p)=true:=by simpa using hpn
         have B:qj (Cx kd fs=false):=by rw [qj,F.o,l,g,A,decide_eq_false (by omega)];rfl
         clear g l hp A hpn;go_wp2
         refine Aj (by kernel_rfl) (by kernel_rfl) ?_
         repeat (go_big_quiet_step (exact Bi (Kt H.o _ I)))
         refine wpQuiet_nil ?_;rintro _ ⟨⟨V,D⟩,u⟩;subst u;go_wp2;go_ret
         exact ⟨Ab B.o.s,(r.alloc (jb x) _).t (D.m (by simp;omega))⟩
        ·have M:decide (n<=p)=false:=by simpa using hpn
         have B:qj (Xb 1 fs=Xb (Kn fs (j+1+1)) (fs.drop (j+1+1))):=by
          rw [qj,l,g,C.o,A,decide_eq_true (by omega),ja]
         clear g l hp A hpn;go_wp2
         refine Aj (by kernel_rfl) (by kernel_rfl) ?_
         repeat (go_big_quiet_step (exact Bi (Kt H.o _ I)))
         refine wpQuiet_nil ?_;rintro _ ⟨⟨V,D⟩,u⟩;subst u;go_wp2
         go_roundw
         case rel=>exact ⟨j+1+1,by omega,by go_num,B.o,(r.alloc (jb x) _).t (D.m (by simp;omega)),(D.cell (p:=⟨w.heap.size,1,none⟩) (by simp;omega)).t (by rw [jg _ _ _ x];exact y)⟩
         case measure=>simp [intOf];omega
     ·have R:k=fs.length:=by omega
      subst R
      have B:qj (Cx kd fs=true):=by rw [qj,F.o,l,pT]
      clear l;go_wp2;go_ret;exact ⟨Ab B.o.s,r⟩
end Go.Proofs.YtfpafnefpmmofaaGreatDoor
