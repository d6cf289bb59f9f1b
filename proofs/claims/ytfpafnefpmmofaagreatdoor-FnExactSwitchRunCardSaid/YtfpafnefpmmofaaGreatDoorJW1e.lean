import Derived.Test.YtfpafnefpmmofaaGreatDoorJW1d
import Derived.Test.YtfpafnefpmmofaaGreatDoorKWFForm
import Derived.Test.YtfpafnefpmmofaaGreatDoorCards
import Derived.Test.YtfpafnefpmmofaaGreatDoorTie
import Derived.LaidMore
import Derived.Deep.DeepHandedRow
import Derived.Lay
import Derived.Stop.LaidErr
set_option maxRecDepth 100000
set_option maxHeartbeats 12800000
namespace Go.Proofs.YtfpafnefpmmofaaGreatDoor
namespace Tg
open Go.RowKit Go.Proofs.Tryz
theorem fD:(prog.info? 211).map (λi=>(i.zero,i.size,i.bytes))=some (some (.agg #[qzI 0,.string ⟨#[]⟩]),2,24):=by kernel_rfl
theorem Ai3 (n:Int) (s:qn):∀ u ∈ [Value.int .i64 n,qd s],u.oneCell'=true:=by
 intro u hu
 simp at hu
 rcases hu with rfl|rfl <;> rfl
theorem Ae5 (W:ql) (x y:Value) (t:TypeId) (b:Nat) (hb:b=W.heap.size):∀ (j:Nat) (u:Value),[x,y][j]?=some u->(W.alloc (.cells #[x,y] t)).cell? (((qzA b 0):Addr).add j)=some u:=by
 subst hb;intro j u h
 match j with
 | 0=>simp at h;subst h;simp [Addr.add,go_sem]
 | 1=>simp at h;subst h;simp [Addr.add,go_sem]
 | j+2=>simp at h
def Afl (w:ql) (o:Option (List Av)) (e:Ending) (w':ql):Prop :=
 ∃ a c,e=.returned (.tuple #[qf a (o.getD []).length c,.bool o.isSome])/\w'.ownsRow w.heap.size 211 2 (qf a (o.getD []).length c) (o.getD []).length (Bt (o.getD []))/\BW w w'
theorem qF {l:qn} {a:Nat} (h:Nj l.length a 4=false):Sr l a=(0,[])/\On l a = -1:=⟨if_neg (by rw [h];decide),if_neg (by rw [h];decide)⟩
theorem fB {l:qn} {a:Nat} (h:Nj l.length a 4=true):Sr l a=(A9 ((l.drop a).take 4),bQ l (a+4) 3)/\On l a=nF l (a+4) 3:=⟨if_pos h,if_pos h⟩
theorem sC (l:qn) (i n:Int):(bQ l i n).length<=l.length:=by
 unfold bQ;split
 ·rw [List.length_take,List.length_drop];omega
 ·simp
theorem Aey {l:qn} {a:Nat} (h:¬ On l a<0):a+7<=(On l a).toNat/\(On l a).toNat<=l.length:=by
 cases hb:Nj l.length a 4
 ·rw [(qF hb).2] at h;omega
 ·rw [(fB hb).2] at h ⊢
  cases J:L8 l (a+4) 3
  ·rw [(Wo J).2] at h;omega
  ·rw [(cN J).2] at h ⊢
   unfold L8 at J
   simp at J
   omega
theorem Yn (l:qn) (a:Nat) (w:ql) (hl:l.length<=999) (_ha:a<l.length) :
  qi 210 #[qd l,qzI a] w λe w'=>e=.returned (.tuple #[.agg #[qzI (Sr l a).1,qd (Sr l a).2],qzI (On l a)])/\BW w w':=by
 have G:Below w.heap.size w (w.alloc (.cells #[qzI 0,.string ⟨#[]⟩] 211)):=by go_grown
 cases hb:Nj l.length a 4
 ·obtain ⟨e1,e2⟩:=qF hb
  rw [e1,e2]
  go_enter func210,ntmps210
  go_wp2_with fail
  refine (Fv l _ _ _ (by omega)).m ?_
  rintro e S ⟨rfl,R⟩;subst R;rw [hb];clear e1 e2 hb;go_wp2
  refine bodyPost_ret (by simp [results,results210,go_sem];try rfl) rfl ?_
  exact ⟨rfl,by go_grown⟩
 ·obtain ⟨e1,e2⟩:=fB hb
  have b8:=dD hb;have F:=sC l (a+4) 3;rw [e1,e2];clear e1 e2;have HB:qj _:=hb;have N:=Jz l a 4;obtain ⟨P,hP⟩:=Ae ((l.drop a).take 4)
  have b5:P.length<=4:=by rw [<- hP,List.length_take];omega
  rw [hP] at N ⊢
  have h4:a+4<=l.length:=by omega
  clear hb hP
  go_enter func210,ntmps210
  go_wp2_with fail
  refine (Fv l _ _ _ (by omega)).m ?_
  rintro e S ⟨rfl,R⟩;subst R;rw [HB.o];go_wp2_with fail
  refine (gH l _ _ _ (by omega)).m ?_
  rintro e w2 ⟨rfl,T⟩;obtain ⟨V,hV⟩:=Ae (bQ l (a+4) 3);obtain ⟨I,hI⟩:=Ae (nF l (a+4) 3);rw [hV] at F ⊢;rw [hI];have HV:qj _:=hV;have HI:qj _:=hI;clear hV hI
  have x0:=(T.cell (p:=⟨w.heap.size,0,none⟩) (by simp)).t (show _=some (qzI 0) by simp)
  have x1:=(T.cell (p:=⟨w.heap.size,1,none⟩) (by simp)).t (show _=some (.string ⟨#[]⟩) by simp)
  have y0:=(T.frozen (p:=⟨w.heap.size,0,none⟩) (by simp)).t (show _=false by simp)
  have y1:=(T.frozen (p:=⟨w.heap.size,1,none⟩) (by simp)).t (show _=false by simp)
  have q2:=next G T;clear T G;go_wp2_with fail
  rw [N]
  refine (iNumOf_any P _ (by omega)).m ?_
  rintro e w3 ⟨rfl,a9⟩;subst a9;have HX:qj _:=q2;clear N q2;go_wp2
  refine bodyPost_ret (by simp [results,results210,go_sem,x0,x1];try rfl) rfl ?_
  rw [HV.o,HI.o];exact ⟨rfl,(HX.o.setCell nL _).setCell nL _⟩
theorem O9 (w w':ql) (l:qn) (h:gotT l=none) (hb:BW w w'):Afl w (gotT l) (.returned (.tuple #[qe,.bool false])) w':=by
 rw [h];exact ⟨none,0,rfl,jh _ _ _ _,hb⟩
theorem iGetTags_any (l:qn) (w:ql) (hl:l.length<=1048576) (ht:Pow10 w) :
  qi 171 #[qd l] w (Afl w (gotT l)):=by
 obtain ⟨i0,hi,b0,b3,b4⟩:=info_parts fD;have HT:=Aa ht;clear ht
 by_cases hbig:999<l.length
 ·have a5:(999:Int)<(l.length:Int):=by omega
  have L:qj _:=Ade hbig
  go_enter func171,ntmps171
  go_wp2;go_ret2;exact O9 _ _ _ L.o bR
 have a5:¬ (999:Int)<(l.length:Int):=by omega
 have Y:l.length<=999:=by omega
 clear hl hbig
 go_enter func171,ntmps171
 go_wp2
 go_loopw [4,5] (λv i wr=>∃ (f a:Nat) (d:List Av),a<=l.length/\i=qzI a/\rdI l (l.length+1) 0 []=rdI l f a d/\l.length<a+f/\d.length*7<=a/\(∀ g ∈ d,g.2.length<=999)/\wr.ownsRow w.heap.size 211 2 v d.length (Bt d)/\BW w wr) (λ_ i _=>l.length - (intOf i).toNat)
 case atStart=>exact ⟨l.length+1,0,[],qw _,rfl,rfl,by omega,by simp,(λg hg=>by cases hg),jh _ _ _ _,bR⟩
 case round =>
  obtain ⟨f,a,d,ha,rfl,A,hf,b7,H,ho,r⟩:=hrel;obtain ⟨va,vc,J,-,-⟩:=I6 ho;subst J;have HO:=Aa ho;have HM:=Aa H;clear ho H
  by_cases hlt:a<l.length
  ·have b6:(a:Int)<(l.length:Int):=by omega
   by_cases hneg:On l a<0
   ·have L:qj (gotT l=none):=by unfold gotT;rw [qj,A,Ahb hlt hneg];rfl
    clear A;go_wp2_with fail
    refine (Yn l a _ Y hlt).m ?_;rintro e S ⟨rfl,k⟩;have C:=next r k;obtain ⟨E,hE⟩:=Ae (On l a);obtain ⟨⟨n,s⟩,U⟩:∃ t,Sr l a=t:=⟨_,rfl⟩;rw [hE] at hneg ⊢;rw [U];clear hE U k;go_wp2;go_ret2;exact O9 _ _ _ L.o (C.alloc C.size _)
   ·obtain ⟨g,rfl⟩:∃ g,f=g+1:=⟨f - 1,by omega⟩
    have Z:=Aey hneg
    have D:rdI l (l.length+1) 0 []=rdI l g (On l a).toNat (d++[Sr l a]):=by rw [A,Aan hlt hneg]
    have F:(Sr l a).2.length<=999:=by
     have:=sC l (a+4) 3
     unfold Sr;split
     ·simp only;omega
     ·simp
    clear A;go_wp2_with fail
    refine (Yn l a _ Y hlt).m ?_;rintro e S ⟨rfl,k⟩;have C:=next r k
    obtain ⟨q,hq⟩:∃ q:Nat,On l a=q:=⟨_,(Int.toNat_of_nonneg (by omega)).s⟩
    obtain ⟨⟨n,s⟩,U⟩:∃ t,Sr l a=t:=⟨_,rfl⟩;rw [hq] at D Z ⊢;rw [U] at D F ⊢
    simp only [Int.toNat_natCast] at D Z F
    have c8:¬ (q:Int)<0:=by omega
    have a3:qj _:=D;have B:=Aa (Ja HO.o k);have a6:=C.size;clear hq U D k HO hneg
    go_wp2_with (at_builtin;refine wpList_append_own _ rfl (.tmp 25) (.tmp 27) 170 rfl w.heap.size 211 i0 _ 2 24 underlying170 hi b0 b3 b4 rfl (by decide) _ _ _ rfl ((B.o.alloc _).alloc _) ⟨S.heap.size+1,0,none⟩ 1 1 [qzI n,qd s] rfl rfl (Ae5 _ _ _ _ _ (by simp)) (Ai3 n s) (by unfold maxLen <;> omega) (by omega) (by simp <;> omega) ?_;intro v5 w5 o5 g5 _)
    have a4:BW w w5:=((C.alloc a6 _).alloc (by simp;omega) _).grown g5 (by simp;omega) (λj hj=>(B.o.lt j hj).1)
    have HR:qj (w5.ownsRow w.heap.size 211 2 v5 (d++[(n,s)]).length (Bt (d++[(n,s)]))):=by rw [qj,Qe,qv];exact o5
    clear o5 g5 B;go_wp2
    go_roundw
    case rel =>
     refine ⟨g,q,d++[(n,s)],by omega,rfl,a3.o,by omega,by simp;omega,λx hx=>?_,HR.o,a4⟩
     rcases List.mem_append.1 hx with h|h
     ·exact HM.o x h
     ·obtain rfl:x=(n,s):=by simpa using h
      exact F
    case measure=>simp [intOf];omega
  ·have X:a=l.length:=by omega
   subst X
   have z:gotT l=N7 l (some d):=by unfold gotT;rw [A,rA (by omega) (by omega)]
   have O:Pow10 wr:=HT.o.below r
   have M:Aw wr va d:=by
    obtain ⟨a',c',J,a7,-⟩:=I6 HO.o
    obtain ⟨rfl,_⟩:va=a'/\vc=c':=by simpa using J
    exact a7
   clear A
   cases hpo:Ek d
   ·have L:qj (gotT l=none):=by rw [qj,z];exact Vd (λh=>by rw [hpo] at h;exact absurd h.1 (by decide))
    go_wp2_with fail
    refine (Ml _ _ _ _ M (by omega) (λg hg=>by have:=HM.o g hg;omega) O).m ?_
    rintro e S ⟨rfl,k⟩;rw [hpo];have C:=next r k
    generalize Nf d=pl
    clear hpo z k;go_wp2;go_ret2;exact O9 _ _ _ L.o C
   ·by_cases heq:Bl d=l
    ·have HY:qj (gotT l=some d):=by rw [qj,z];exact Vg hpo heq
     have HP:qj (Nf d=l):=by rw [qj,Lz hpo,heq]
     go_wp2_with fail
     refine (Ml _ _ _ _ M (by omega) (λg hg=>by have:=HM.o g hg;omega) O).m ?_
     rintro e S ⟨rfl,k⟩;rw [hpo,HP.o];have C:=next r k;have B:=Aa (Ja HO.o k)
     have b9:(l == l)=true:=by simp
     clear hpo z k heq;go_wp2;go_ret2;rw [HY.o];exact ⟨_,_,rfl,B.o,C⟩
    ·have L:qj (gotT l=none):=by rw [qj,z];exact Vd (λh=>heq h.2)
     have a8:(Nf d == l)=false:=by rw [Lz hpo];simpa using heq
     go_wp2_with fail
     refine (Ml _ _ _ _ M (by omega) (λg hg=>by have:=HM.o g hg;omega) O).m ?_
     rintro e S ⟨rfl,k⟩;rw [hpo];have C:=next r k
     generalize Nf d=pl at a8
     clear hpo z k heq;go_wp2;go_ret2;exact O9 _ _ _ L.o C
theorem xD {w:ql} {b off:Nat} {f:List Av} (h:Aw w (some (qzA b off)) f):∀ j u,(Bt f)[j]?=some u->w.cell? (((qzA b off):Addr).add j)=some u:=by
 intro j u p
 have J:j<f.length*2:=by
  rw [<- Jw];exact (List.getElem?_eq_some_iff.1 p).1
 rcases h with rfl|⟨W,A,M,hb,H⟩
 ·simp at J
 ·obtain ⟨rfl,rfl⟩:b=W/\off=A:=by simpa using M
  have e:(((qzA b off):Addr).add j)=(qzA b (off+j)):=by unfold Addr.add;split <;> simp_all
  have hk:=H (j / 2) (by omega)
  have r:=Lr f (j / 2) (by omega)
  rw [e]
  rcases Nat.mod_two_eq_zero_or_one j with m|m
  ·have k:j=j / 2*2:=by omega
   rw [k,r.1] at p
   rw [k,hk.1];exact p
  ·have k:j=j / 2*2+1:=by omega
   rw [k,r.2] at p
   rw [k,<- Nat.add_assoc,hk.2];exact p
theorem flds_any {w:ql} {base n:Nat} {t:TypeId} {ao:qm} {cap:Nat} {fs:List Av} (h:w.ownsRow base t 2 (qf ao fs.length cap) n (Bt fs)):Aw w ao fs:=by
 obtain ⟨D,y,hv,r,_⟩:=I6 h
 obtain ⟨rfl,_⟩:ao=D/\cap=y:=by simpa using hv
 exact r
theorem Uw (w:ql) (base:Nat) (V:TypeId) (v:Value) (n:Nat) (f:List Value) (d:w.ownsRow base 211 2 v n f) (ao:qm) (c:Nat) (fs:List Av) (C:Aw w ao fs)
  (hn:n+fs.length<=5000000) (hbase:base<=w.heap.size) :
  ∃ l w',(Builtin.append_ #[170,170] V #[v,qf ao fs.length c]).run prog w=.ok l w'/\w'.ownsRow base 211 2 l (n+fs.length) (f++Bt fs)/\w.grownBy w' v.ownBlock /\
   (v≠qe->l≠qe):=by
 obtain ⟨i0,hi,O,R,S⟩:=info_parts fD
 cases ao with
 | none =>
  have r:fs=[]:=by
   rcases C with h|⟨b,off,h,_⟩
   ·exact h
   ·cases h
  subst r
  refine ⟨v,w,?_,by simpa [Bt] using d,⟨rfl,rfl,rfl,nL,λ_ _ _=>rfl⟩,id⟩
  have U:=underlying170
  rcases d.2 with ⟨rfl,rfl⟩|⟨g,cap,cw,rfl,Y,hg,L,Z,a3,N⟩
  ·simp [Builtin.append_,run_underlying U,sizeOf,typeInfo,hi,Builtin.lenOf,Builtin.firstCells]
  ·simp [Builtin.append_,run_underlying U,sizeOf,typeInfo,hi,Builtin.lenOf,Builtin.firstCells,loadCells,L,storeCells]
 | some a =>
  have q:∀ j u,(Bt fs)[j]?=some u->w.cell? (a.add j)=some u:=by
   rcases C with rfl|⟨b,off,M,hb,H⟩
   ·intro j u p;simp [Bt] at p
   ·obtain rfl:a=(qzA b off):=by simpa using M
    exact xD (.inr ⟨b,off,rfl,hb,H⟩)
  obtain ⟨l,w',z,F,G,X,_⟩:=run_append_own_at (P:=prog) w base 170 V 211 i0 _ 2 24 underlying170 hi O R S rfl (by decide) v n f d a fs.length c (Bt fs) (Jw fs) q (kF fs) (by unfold maxLen;omega) (by omega) hbase
  exact ⟨l,w',z,F,G,λhne h=>hne (X.1 h).1⟩
theorem S0 {B:Array Oper} {o:Oper} {a:Act} {w:ql} {K:Act->ql->Prop} {Q:Exit->Act->ql->Prop} {E:Prop} (I:o.guard=none) (s x:Operand)
  (ho:o.op=.call { callee:=.builtin .append,args:=#[s,x],argTypes:=#[170,170] }) (base:Nat) (v:Value) (n:Nat) (f:List Value) (hs:a.eval s=v) (d:w.ownsRow base 211 2 v n f)
  (ao:qm) (c:Nat) (fs:List Av) (hx:a.eval x=qf ao fs.length c) (C:Aw w ao fs) (hn:n+fs.length<=5000000) (hbase:base<=w.heap.size)
  (h:∀ l w',w'.ownsRow base 211 2 l (n+fs.length) (f++Bt fs)->w.grownBy w' v.ownBlock->(v≠qe->l≠qe)->K (a.put o.dst l) w') :
  if Region.wanted o (yielded B a.tmps)=true then Oper.wp prog o a w K Q else E:=by
 have hw:Region.wanted o (yielded B a.tmps)=true:=by simp [Region.wanted,I]
 rw [if_pos hw];obtain ⟨l,w',hr,z,F,G⟩:=Uw w base o.type v n f d ao c fs C hn hbase;unfold Oper.wp execOp
 simp only [ho,resolve,invoke,builtin,Sem.run_bind,Sem.run_pure,Result.andThen_ok,List.map_toArray,List.map_cons,List.map_nil,hs,hx,hr]
 exact h l w' z F G
theorem rF (w:ql):(w.alloc (.cells #[] 211)).ownsRow w.heap.size 211 2 (qf (some ⟨w.heap.size,0,none⟩) 0 0) 0 []:=World.ownsRow_lit w #[] 0 nL (by unfold maxLen;omega) rfl
theorem Ago {w:ql} {g:Nat} {n:Int} {s:qn} (T:w.cell? (qzA g 0)=some (qzI n)) (z:w.cell? (qzA g 1)=some (qd s)):Aw w (some (qzA g 0)) [(n,s)] :=
 .inr ⟨g,0,rfl,qs w _ T,λi hi=>by
  obtain rfl:i=0:=by simpa using hi
  exact ⟨T,z⟩⟩
end Tg
end Go.Proofs.YtfpafnefpmmofaaGreatDoor
namespace Go.Proofs.YtfpafnefpmmofaaGreatDoor
open Go.RowKit Go.Proofs.Tryz
theorem dA {d:qn} {s:Int} (h:¬ (d.length:Int)=s):((d.length:Int) == s)=false:=by simpa using h
theorem cU {d:qn} {s:Int} (h:(d.length:Int)=s):((d.length:Int) == s)=true:=by simpa using h
theorem vG (s:Int) (d:qn) (w:ql) (c:d.length<=1099511627776) :
  qi 432 #[.agg #[qzI s],qd d] w λe w'=>e=.returned (.bool (Be 1 s d))/\BW w w':=by
 by_cases h:(d.length:Int)=s
 ·have a:qj (Be 1 s d=Ag 48 57 d):=by rw [qj,Be,if_pos rfl,decide_eq_true h,ja]
  have k:=cU h;clear h
  go_enter func432,ntmps432
  go_wp2_with fail
  refine (Kk d _ c).m ?_;rintro e b ⟨rfl,hw⟩;subst hw;go_wp2;go_ret;exact ⟨Ab a.o.s,bR.alloc nL _⟩
 ·have a:qj (Be 1 s d=false):=by rw [qj,Be,if_pos rfl,decide_eq_false h,Bool.false_and]
  have k:=dA h
  go_enter func432,ntmps432
  go_wp2;go_ret;exact ⟨Ab a.o.s,bR.alloc nL _⟩
theorem wD (s:Int) (d:qn) (w:ql) (c:d.length<=1099511627776) :
  qi 431 #[.agg #[qzI s],qd d] w λe w'=>e=.returned (.bool (Be 2 s d))/\BW w w':=by
 by_cases h:(d.length:Int)<=s
 ·have a:qj (Be 2 s d=Ag 48 57 d):=by rw [qj,Be,if_neg (by decide),if_pos rfl,decide_eq_true h,ja]
  go_enter func431,ntmps431
  go_wp2_with fail
  refine (Kk d _ c).m ?_;rintro e b ⟨rfl,hw⟩;subst hw;go_wp2;go_ret;exact ⟨Ab a.o.s,bR.alloc nL _⟩
 ·have a:qj (Be 2 s d=false):=by rw [qj,Be,if_neg (by decide),if_pos rfl,decide_eq_false h,Bool.false_and]
  go_enter func431,ntmps431
  go_wp2;go_ret;exact ⟨Ab a.o.s,bR.alloc nL _⟩
theorem sT (s:Int) (d:qn) (w:ql) (c:d.length<=1099511627776) :
  qi 434 #[.agg #[qzI s],qd d] w λe w'=>e=.returned (.bool (Be 3 s d))/\BW w w':=by
 by_cases h:(d.length:Int)=s
 ·have a:qj (Be 3 s d=Ag 32 126 d):=by rw [qj,Be,if_neg (by decide),if_neg (by decide),if_pos rfl,decide_eq_true h,ja]
  have k:=cU h;clear h
  go_enter func434,ntmps434
  go_wp2_with fail
  refine (E7 d _ c).m ?_;rintro e b ⟨rfl,hw⟩;subst hw;go_wp2;go_ret;exact ⟨Ab a.o.s,bR.alloc nL _⟩
 ·have a:qj (Be 3 s d=false):=by rw [qj,Be,if_neg (by decide),if_neg (by decide),if_pos rfl,decide_eq_false h,Bool.false_and]
  have k:=dA h
  go_enter func434,ntmps434
  go_wp2;go_ret;exact ⟨Ab a.o.s,bR.alloc nL _⟩
theorem bB (s q:Int) (d:qn) (w:ql) (c:d.length<=1099511627776) :
  qi 433 #[.agg #[qzI s,qzI q],qd d] w λe w'=>e=.returned (.bool (Be 4 s d))/\BW w w':=by
 by_cases h:(d.length:Int)<=s
 ·have a:qj (Be 4 s d=Ag 32 126 d):=by rw [qj,Be,if_neg (by decide),if_neg (by decide),if_neg (by decide),if_pos (.inl rfl),decide_eq_true h,ja]
  go_enter func433,ntmps433
  go_wp2_with fail
  refine (E7 d _ c).m ?_;rintro e b ⟨rfl,hw⟩;subst hw;go_wp2;go_ret;exact ⟨Ab a.o.s,bR.alloc nL _⟩
 ·have a:qj (Be 4 s d=false):=by rw [qj,Be,if_neg (by decide),if_neg (by decide),if_neg (by decide),if_pos (.inl rfl),decide_eq_false h,Bool.false_and]
  go_enter func433,ntmps433
  go_wp2;go_ret;exact ⟨Ab a.o.s,bR.alloc nL _⟩
theorem Ahj (s:Int) (d:qn):Be 5 s d=Be 4 s d:=by
 unfold Be;simp
theorem Afi (v : Value) (w : ql) : (method 552 298 v "loop.example/g00126/impl.fits").run prog w = .ok (432, v) w := by kernel_rfl
theorem Adh (v : Value) (w : ql) : (method 552 296 v "loop.example/g00126/impl.fits").run prog w = .ok (431, v) w := by kernel_rfl
theorem Aen (v : Value) (w : ql) : (method 552 301 v "loop.example/g00126/impl.fits").run prog w = .ok (434, v) w := by kernel_rfl
theorem rW (v : Value) (w : ql) : (method 552 300 v "loop.example/g00126/impl.fits").run prog w = .ok (433, v) w := by kernel_rfl
theorem cM (n:Int) (d:qn) (w:ql) (c:d.length<=1099511627776) :
  qi 170 #[.agg #[qzI n,qd d]] w λe w'=>e=.returned (.bool (Ay n d))/\BW w w':=by
 by_cases h:n ∈ Fr
 ·have j:qj _:=Ad1 h
  rcases (Vj h).1 with hk|hk|hk|hk|hk
  ·have g:qj (L9 n=.iface 298 (.agg #[qzI (fS n)])):=by rw [qj,L9,if_pos hk]
   have f:qj (Ay n d=Be 1 (fS n) d):=by rw [qj,Ay,hk]
   have hm:=Afi (.agg #[qzI (fS n)]);clear hk h
   go_enter func170,ntmps170
   go_wp2_with fail
   refine (Hx _ _).m ?_;rintro e b ⟨rfl,hw⟩;subst hw;rw [g.o,j.o];go_wp2_with fail
   refine (vG _ d _ c).m ?_;rintro e b ⟨rfl,i⟩;go_wp2;go_ret
   exact ⟨Ab f.o.s,(bR.alloc nL _).t (i.m (by simp))⟩
  ·have g:qj (L9 n=.iface 296 (.agg #[qzI (fS n)])):=by rw [qj,L9,if_neg (by rw [hk];decide),if_pos hk]
   have f:qj (Ay n d=Be 2 (fS n) d):=by rw [qj,Ay,hk]
   have hm:=Adh (.agg #[qzI (fS n)]);clear hk h
   go_enter func170,ntmps170
   go_wp2_with fail
   refine (Hx _ _).m ?_;rintro e b ⟨rfl,hw⟩;subst hw;rw [g.o,j.o];go_wp2_with fail
   refine (wD _ d _ c).m ?_;rintro e b ⟨rfl,i⟩;go_wp2;go_ret
   exact ⟨Ab f.o.s,(bR.alloc nL _).t (i.m (by simp))⟩
  ·have g:qj (L9 n=.iface 301 (.agg #[qzI (fS n)])):=by rw [qj,L9,if_neg (by rw [hk];decide),if_neg (by rw [hk];decide),if_pos hk]
   have f:qj (Ay n d=Be 3 (fS n) d):=by rw [qj,Ay,hk]
   have hm:=Aen (.agg #[qzI (fS n)]);clear hk h
   go_enter func170,ntmps170
   go_wp2_with fail
   refine (Hx _ _).m ?_;rintro e b ⟨rfl,hw⟩;subst hw;rw [g.o,j.o];go_wp2_with fail
   refine (sT _ d _ c).m ?_;rintro e b ⟨rfl,i⟩;go_wp2;go_ret
   exact ⟨Ab f.o.s,(bR.alloc nL _).t (i.m (by simp))⟩
  ·have g:qj (L9 n=.iface 300 (.agg #[qzI (fS n),qzI 2])):=by rw [qj,L9,if_neg (by rw [hk];decide),if_neg (by rw [hk];decide),if_neg (by rw [hk];decide),if_pos hk]
   have f:qj (Ay n d=Be 4 (fS n) d):=by rw [qj,Ay,hk]
   have hm:=rW (.agg #[qzI (fS n),qzI 2]);clear hk h
   go_enter func170,ntmps170
   go_wp2_with fail
   refine (Hx _ _).m ?_;rintro e b ⟨rfl,hw⟩;subst hw;rw [g.o,j.o];go_wp2_with fail
   refine (bB _ _ d _ c).m ?_;rintro e b ⟨rfl,i⟩;go_wp2;go_ret
   exact ⟨Ab f.o.s,(bR.alloc nL _).t (i.m (by simp))⟩
  ·have g:qj (L9 n=.iface 300 (.agg #[qzI (fS n),qzI 3])):=by rw [qj,L9,if_neg (by rw [hk];decide),if_neg (by rw [hk];decide),if_neg (by rw [hk];decide),if_neg (by rw [hk];decide),if_pos hk]
   have f:qj (Ay n d=Be 4 (fS n) d):=by rw [qj,Ay,hk,Ahj]
   have hm:=rW (.agg #[qzI (fS n),qzI 3]);clear hk h
   go_enter func170,ntmps170
   go_wp2_with fail
   refine (Hx _ _).m ?_;rintro e b ⟨rfl,hw⟩;subst hw;rw [g.o,j.o];go_wp2_with fail
   refine (bB _ _ d _ c).m ?_;rintro e b ⟨rfl,i⟩;go_wp2;go_ret
   exact ⟨Ab f.o.s,(bR.alloc nL _).t (i.m (by simp))⟩
 ·have j:qj _:=Acy h
  have f:qj _:=Xk (d:=d) h;clear h
  go_enter func170,ntmps170
  go_wp2_with fail
  refine (Hx _ _).m ?_;rintro e b ⟨rfl,hw⟩;subst hw;rw [j.o];go_wp2;go_ret;exact ⟨Ab f.o.s,bR.alloc nL _⟩
namespace Kb
def Oa (l:List (Int×Int)):List Value:=l.flatMap λx=>[qzI x.1,qzI x.2]
def Ts (l:List (Int×Int)) (k:Nat):Int×Int:=l.getD k (0,0)
theorem X1 (x:Int×Int) (r:List (Int×Int)):Oa (x::r)=qzI x.1::qzI x.2::Oa r:=rfl
theorem Qt (a b:List (Int×Int)):Oa (a++b)=Oa a++Oa b:=by simp [Oa]
theorem Aex (l:List (Int×Int)):(Oa l).length=l.length*2:=by
 induction l with
 | nil=>rfl
 | cons f r ih=>rw [X1];simp [ih];omega
theorem zE (l:List (Int×Int)):∀ k,k<l.length->(Oa l)[k*2]?=some (qzI (Ts l k).1)/\(Oa l)[k*2+1]?=some (qzI (Ts l k).2):=by
 induction l with
 | nil=>intro k h;simp at h
 | cons f r ih =>
  intro k h;rw [X1]
  cases k with
  | zero=>exact ⟨rfl,rfl⟩
  | succ k =>
   have:=ih k (by simpa using h)
   rw [show (k+1) * 2=k*2+1+1 by omega]
   simp only [je]
   exact this
theorem Ad8 (l:List (Int×Int)) (x:Int×Int):∀ k,k<l.length->((Oa l).set (k*2) (qzI x.1)).set (k*2+1) (qzI x.2)=Oa (l.set k x):=by
 induction l with
 | nil=>intro k h;simp at h
 | cons g r ih =>
  intro k h;rw [X1]
  cases k with
  | zero=>rfl
  | succ k =>
   have:=ih k (by simpa using h)
   rw [show (k+1) * 2=k*2+1+1 by omega]
   simp only [List.set_cons_succ]
   rw [this]
   rfl
theorem kH (x y:Int):∀ u ∈ [Value.int .i64 x,qzI y],u.oneCell'=true:=by
 intro u hu
 simp at hu
 rcases hu with rfl|rfl <;> rfl
theorem Afp:(prog.info? 70).map (λi=>(i.zero,i.size,i.bytes))=some (some (.agg #[qzI 0,qzI 0]),2,16):=by kernel_rfl
def Iy (w:ql) (ao:qm) (l:List (Int×Int)):Prop :=
 l=[]\/∃ b off,ao=some (qzA b off)/\b<w.heap.size/\∀ i,i<l.length->w.cell? (qzA b (off+i*2))=some (qzI (Ts l i).1)/\w.cell? (qzA b (off+i*2+1))=some (qzI (Ts l i).2)
theorem Iy.below {w w':ql} {ao:qm} {l:List (Int×Int)} (h:Iy w ao l) (hb:BW w w'):Iy w' ao l :=
 h.imp id λ⟨b,off,e,D,I⟩=>⟨b,off,e,jd D hb.size,λi hi=>⟨(hb.c b (off+i*2) D).t (I i hi).1,(hb.c b (off+i*2+1) D).t (I i hi).2⟩⟩
theorem Iy.at {w:ql} {ao:qm} {l:List (Int×Int)} (h:Iy w ao l) {k:Nat} (hk:k<l.length):∃ b off,ao=some (qzA b off)/\b<w.heap.size/\w.cell? (qzA b (off+k*2))=some (qzI (Ts l k).1)/\w.cell? (qzA b (off+k*2+1))=some (qzI (Ts l k).2):=by
 rcases h with h|⟨b,off,e,D,I⟩
 ·rw [h] at hk;simp at hk
 ·exact ⟨b,off,e,D,I k hk⟩
theorem Mv {w:ql} {base n:Nat} {t:TypeId} {v:Value} {l:List (Int×Int)} (h:w.ownsRow base t 2 v n (Oa l)):∃ ao cap,v=qf ao l.length cap/\Iy w ao l/\n=l.length:=by
 have hn:n=l.length:=by have:=h.1;rw [Aex] at this;omega
 subst hn
 rcases h.2 with ⟨rfl,hn⟩|⟨g,cap,cw,rfl,_⟩
 ·have:l=[]:=qz hn
  subst this;exact ⟨none,0,rfl,.inl rfl,rfl⟩
 ·refine ⟨_,cap,rfl,?_,rfl⟩
  by_cases H:l=[]
  ·exact .inl H
  ·refine .inr ⟨g,0,rfl,(h.lt g rfl).2,λi hi=>?_⟩
   have:=zE l i hi
   rw [qu,h.cellAt (i*2) (by omega),h.cellAt (i*2+1) (by omega)]
   exact this
theorem bH {w:ql} {base n:Nat} {t:TypeId} {ao:qm} {cap:Nat} {l:List (Int×Int)} (h:w.ownsRow base t 2 (qf ao l.length cap) n (Oa l)):Iy w ao l:=by
 obtain ⟨O,p,C,hf,_⟩:=Mv h
 obtain ⟨rfl,_⟩:ao=O/\cap=p:=by simpa using C
 exact hf
theorem Yv (x y:Int) (w:ql):qi 41 #[.agg #[qzI x,qzI y],.agg #[qzI x,qzI y]] w (qp (.bool true) w):=by
 go_enter func41,ntmps41
 go_wp2;go_ret
 exact ⟨rfl,(bR.alloc nL _).alloc (by simp) _⟩
theorem Wl (ao Y:qm) (c1 c2:Nat) (l:List (Int×Int)) (w:ql) (hx:Iy w ao l) (hy:Iy w Y l) (S:l.length<=1099511627776) :
  qi 11 #[qf ao l.length c1,qf Y l.length c2] w (qp (.bool true) w):=by
 have HX:=Aa hx;have HY:=Aa hy;clear hx hy
 go_enter func11,ntmps11
 go_wp2
 go_loopw [5] (λi wr=>∃ k:Nat,k<=l.length/\i=qzI k/\BW w wr) (λi _=>l.length - (intOf i).toNat)
 case atStart=>exact ⟨0,qw _,rfl,bR⟩
 case round =>
  obtain ⟨k,hk,rfl,q⟩:=hrel
  by_cases hlt:k<l.length
  ·obtain ⟨b,off,rfl,hb,e1,e2⟩:=(HX.o.below q).at hlt
   obtain ⟨b',a3,rfl,a4,Z,e6⟩:=(HY.o.below q).at hlt
   have V:(k:Int)<(l.length:Int):=by omega
   obtain ⟨⟨x,y⟩,F⟩:∃ x,Ts l k=x:=⟨_,rfl⟩;rw [F] at e1 e2 Z e6
   simp only at e1 e2 Z e6
   clear F;go_wp2
   go_region_with (go_at_call 41;refine (Yv _ _ _).m ?_;rintro e w2 ⟨rfl,b2⟩)
   all_goals
    go_wp2
    go_roundw
    case rel=>exact ⟨k+1,by omega,by go_num,(q.drew).t (b2.m q.size)⟩
    case measure=>simp [intOf];omega
  ·have V:¬ (k:Int)<(l.length:Int):=by omega
   go_wp2;go_ret;exact ⟨rfl,q⟩
def pY (k n:Nat):List (Int×Int):=(List.range n).map λi=>(((k+2*i:Nat):Int),((k+2*i+1:Nat):Int))
theorem Sa (k n:Nat):(pY k n).length=n:=by simp [pY]
theorem Age (k n i:Nat) (h:i<n):Ts (pY k n) i=(((k+2*i:Nat):Int),((k+2*i+1:Nat):Int)):=by simp [Ts,pY,h]
def Iv (l:List (Int×Int)) (k j:Nat):List (Int×Int):=pY k j++l.drop j
theorem Zp (l:List (Int×Int)) (k j:Nat) (h:j<=l.length):(Iv l k j).length=l.length:=by simp [Iv,Sa];omega
theorem oM (l:List (Int×Int)) (k:Nat):Iv l k 0=l:=by simp [Iv,pY]
theorem wP (l:List (Int×Int)) (k:Nat):Iv l k l.length=pY k l.length:=by simp [Iv]
theorem lD (l:List (Int×Int)) (k j:Nat) (h:j<l.length):(Iv l k j).set j (((k+2*j:Nat):Int),((k+2*j+1:Nat):Int))=Iv l k (j+1):=by
 unfold Iv
 rw [List.set_append,if_neg (by rw [Sa];omega),Sa,Nat.sub_self,jc h,List.set_cons_zero]
 simp [pY,List.range_succ]
theorem wF (ao:qm) (cap base k:Nat) (es:List (Int×Int)) (w:ql) (ho:w.ownsRow base 70 2 (qf ao es.length cap) es.length (Oa es)) (hn:es.length<=1099511627) (k2:k<=1099511627) :
  qi 15 #[qf ao es.length cap,qzI k] w λe w'=>e=.returned (qzI (k+2*es.length:Nat)) /\
   w'.ownsRow base 70 2 (qf ao es.length cap) es.length (Oa (pY k es.length))/\w.grownBy w' (Value.slice ao es.length cap).ownBlock:=by
 rcases ho.2 with ⟨C,H⟩|⟨g,p,cw,C,B⟩
 ·obtain rfl:es=[]:=qz H
  obtain ⟨rfl,rfl⟩:ao=none/\cap=0:=by simpa using C
  clear C H
  go_enter func15,ntmps15
  go_wp2;refine wp_loop_rounds 1 ?_;rw [rounds_succ];go_wp2;go_ret
  exact ⟨Af (by simp),jh _ _ _ _,jm _ _⟩
 ·obtain ⟨rfl,rfl⟩:ao=some (qzA g 0)/\cap=p:=by simpa using C
  clear C B
  go_enter func15,ntmps15
  go_wp2
  go_loopw [1,5] (λc i wr=>∃ j:Nat,j<=es.length/\i=qzI j/\c=qzI (k+2*j:Nat)/\wr.ownsRow base 70 2 (qf (some (qzA g 0)) es.length cap) es.length (Oa (Iv es k j))/\w.grownBy wr (some g)) (λ_ i _=>es.length - (intOf i).toNat)
  case atStart=>exact ⟨0,qw _,rfl,rfl,by rw [oM];exact ho,jm _ _⟩
  case round =>
   obtain ⟨j,T,rfl,rfl,d,z⟩:=hrel;clear ho
   by_cases hlt:j<es.length
   ·have U:(j:Int)<(es.length:Int):=by omega
    have s:=zE (Iv es k j) j (by rw [Zp es k j T];exact hlt)
    have c1:wr.cell? (qzA g (j*2))=some (qzI (Ts (Iv es k j) j).1):=by rw [d.cellAt (j*2) (by omega)];exact s.1
    have c2:wr.cell? (qzA g (j*2+1))=some (qzI (Ts (Iv es k j) j).2):=by rw [d.cellAt (j*2+1) (by omega)];exact s.2
    have d1:wr.frozen? (qzA g (j*2))=false:=d.frozenAt _;have d2:wr.frozen? (qzA g (j*2+1))=false:=d.frozenAt _;have M:=d.stored (j*2) (qzI (k+2*j:Nat));have N:=M.1.stored (j*2+1) (qzI (k+2*j+1:Nat))
    have L:=Ad8 (Iv es k j) (((k+2*j:Nat):Int),((k+2*j+1:Nat):Int)) j (by rw [Zp es k j T];exact hlt)
    simp only at L
    have R:=N.1;rw [L,lD es k j hlt] at R;have G:=(z.t M.2).t N.2;obtain ⟨m,hm⟩:∃ m:Nat,k+2*j=m:=⟨_,rfl⟩;obtain ⟨o1,S⟩:=Ae ((Ts (Iv es k j) j).1);obtain ⟨o2,h2⟩:=Ae ((Ts (Iv es k j) j).2);rw [hm] at R G ⊢;rw [S] at c1;rw [h2] at c2
    have e1:((m+1:Nat):Int)=(m:Int)+1:=by omega
    rw [e1] at R G;have HR:=Aa R;have HG:=Aa G
    have W:m<=6000000000:=by omega
    have J:qj (k+2 * (j+1)=m+1+1):=by rw [qj];omega
    clear M N R G d z s hm S h2 L e1;go_wp2
    go_roundw
    case rel=>exact ⟨j+1,by omega,by go_num,by rw [J.o];go_num,HR.o,HG.o⟩
    case measure=>simp [intOf];omega
   ·have A:j=es.length:=by omega
    subst A;rw [wP] at d;have HO:=Aa d;clear d;go_wp2;go_ret;exact ⟨rfl,HO.o,z⟩
theorem yA (ao:qm) (cap n k:Nat) (w:ql) (hz:Iy w ao (pY k n)) (hn:n<=1099511627) (k2:k<=1099511627) :
  qi 17 #[qf ao n cap,qzI k] w (qp (qzI (k+2*n:Nat)) w):=by
 have HZ:=Aa hz;clear hz
 go_enter func17,ntmps17
 go_wp2
 go_loopw [1,5] (λc i wr=>∃ j:Nat,j<=n/\i=qzI j/\c=qzI (k+2*j:Nat)/\wr=w) (λ_ i _=>n - (intOf i).toNat)
 case atStart=>exact ⟨0,qw _,rfl,rfl,rfl⟩
 case round =>
  obtain ⟨j,T,rfl,rfl,X⟩:=hrel;subst X
  by_cases hlt:j<n
  ·have U:(j:Int)<(n:Int):=by omega
   obtain ⟨b,off,rfl,hb,c1,c2⟩:=HZ.o.at (k:=j) (by rw [Sa];exact hlt)
   rw [Age k n j hlt] at c1 c2
   simp only at c1 c2
   obtain ⟨m,hm⟩:∃ m:Nat,k+2*j=m:=⟨_,rfl⟩;rw [hm] at c1 c2 ⊢
   rw [show ((m+1:Nat):Int)=(m:Int)+1 by omega] at c2
   have W:m<=6000000000:=by omega
   have J:qj (k+2 * (j+1)=m+1+1):=by rw [qj];omega
   clear hm;go_wp2
   go_roundw
   case rel=>exact ⟨j+1,by omega,by go_num,by rw [J.o];go_num,trivial⟩
   case measure=>simp [intOf];omega
  ·have A:j=n:=by omega
   subst A;go_wp2;go_ret;exact ⟨rfl,bR⟩
end Kb
theorem zH {w:ql} {base n g cap:Nat} {t:TypeId} {r:List Value} (ho:w.ownsRow base t 12 (qf (some (qzA g 0)) n cap) n r) (j:Nat) (F G H I J L M N O R d f:Value) :
  ∃ a,((((((((((((w.setCell (qzA g (j*12)) F).setCell (qzA g (j*12+1)) G).setCell (qzA g (j*12+2)) H).setCell (qzA g (j*12+3)) I).setCell (qzA g (j*12+4)) J).setCell (qzA g (j*12+5)) L).setCell (qzA g (j*12+6)) M).setCell (qzA g (j*12+7)) N).setCell (qzA g (j*12+8)) O).setCell (qzA g (j*12+9)) R).setCell (qzA g (j*12+10)) d).setCell (qzA g (j*12+11)) f).ownsRow base t 12 (qf (some (qzA g 0)) n cap) n a/\w.grownBy ((((((((((((w.setCell (qzA g (j*12)) F).setCell (qzA g (j*12+1)) G).setCell (qzA g (j*12+2)) H).setCell (qzA g (j*12+3)) I).setCell (qzA g (j*12+4)) J).setCell (qzA g (j*12+5)) L).setCell (qzA g (j*12+6)) M).setCell (qzA g (j*12+7)) N).setCell (qzA g (j*12+8)) O).setCell (qzA g (j*12+9)) R).setCell (qzA g (j*12+10)) d).setCell (qzA g (j*12+11)) f) (some g):=by
 obtain ⟨y,V⟩:=ho.stored (j*12) F;obtain ⟨h1,W⟩:=y.stored (j*12+1) G;obtain ⟨h2,X⟩:=h1.stored (j*12+2) H;obtain ⟨h3,Y⟩:=h2.stored (j*12+3) I;obtain ⟨h4,Z⟩:=h3.stored (j*12+4) J;obtain ⟨h5,g5⟩:=h4.stored (j*12+5) L;obtain ⟨h6,g6⟩:=h5.stored (j*12+6) M;obtain ⟨h7,g7⟩:=h6.stored (j*12+7) N;obtain ⟨h8,g8⟩:=h7.stored (j*12+8) O;obtain ⟨h9,g9⟩:=h8.stored (j*12+9) R;obtain ⟨z,u⟩:=h9.stored (j*12+10) d;obtain ⟨A,x⟩:=z.stored (j*12+11) f;exact ⟨_,A,(((((((((((V.t W).t X).t Y).t Z).t g5).t g6).t g7).t g8).t g9).t u).t x)⟩
theorem Yq (ao:qm) (cap base k n:Nat) (r:List Value) (w:ql) (ho:w.ownsRow base 111 12 (qf ao n cap) n r) (hn:n<=1048576) (k2:k<=1099511627) :
  qi 45 #[qf ao n cap,qzI k] w λe w'=>e=.returned (qzI ((k+12*n:Nat):Int))/\(∃ a,w'.ownsRow base 111 12 (qf ao n cap) n a)/\w.grownBy w' (Value.slice ao n cap).ownBlock:=by
 rcases ho.2 with ⟨q,y⟩|⟨g,l,cw,q,b⟩
 ·obtain ⟨rfl,rfl,rfl⟩:ao=none/\n=0/\cap=0:=by simpa using q
  clear q y
  go_enter func45,ntmps45
  go_wp2;refine wp_loop_rounds 1 ?_;rw [rounds_succ];go_wp2;go_ret;exact ⟨rfl,⟨r,ho⟩,jm _ _⟩
 ·obtain ⟨rfl,rfl⟩:ao=some (qzA g 0)/\cap=l:=by simpa using q
  clear q b;have h:=Aa ho;clear ho
  go_enter func45,ntmps45
  go_wp2
  go_loopw [1,5] (λc i wr=>∃ (j:Nat) (a:List Value),j<=n/\i=qzI j/\c=qzI ((k+12*j:Nat):Int)/\wr.ownsRow base 111 12 (qf (some (qzA g 0)) n cap) n a/\w.grownBy wr (some g)) (λ_ i _=>n - (intOf i).toNat)
  case atStart=>exact ⟨0,r,qw _,rfl,by simp,h.o,jm _ _⟩
  case round =>
   obtain ⟨j,a,hj,rfl,rfl,ho,T⟩:=hrel;clear h;have S:=Aa T;clear T
   by_cases hlt:j<n
   ·have B:(j:Int)<(n:Int):=by omega
    obtain ⟨m,hm⟩:∃ m:Nat,m=k+12*j:=⟨_,rfl⟩
    have a3:m<=7696581390:=by omega
    have U:=Aa hm;rw [<- hm];clear hm
    have D:a.length=n*12:=by simpa using ho.1
    have hex:∀ p,p<n*12->∃ v,wr.cell? (qzA g p)=some v:=λp hp=>by
     rw [ho.cellAt p (by omega)]
     exact ⟨_,List.getElem?_eq_getElem (by omega)⟩
    obtain ⟨o0,y0⟩:=hex (j*12) (by omega)
    have z0:wr.frozen? (qzA g (j*12))=false:=ho.frozenAt _
    obtain ⟨o1,y1⟩:=hex (j*12+1) (by omega)
    have z1:wr.frozen? (qzA g (j*12+1))=false:=ho.frozenAt _
    obtain ⟨o2,y2⟩:=hex (j*12+2) (by omega)
    have z2:wr.frozen? (qzA g (j*12+2))=false:=ho.frozenAt _
    obtain ⟨o3,y3⟩:=hex (j*12+3) (by omega)
    have z3:wr.frozen? (qzA g (j*12+3))=false:=ho.frozenAt _
    obtain ⟨o4,y4⟩:=hex (j*12+4) (by omega)
    have z4:wr.frozen? (qzA g (j*12+4))=false:=ho.frozenAt _
    obtain ⟨o5,y5⟩:=hex (j*12+5) (by omega)
    have z5:wr.frozen? (qzA g (j*12+5))=false:=ho.frozenAt _
    obtain ⟨o6,y6⟩:=hex (j*12+6) (by omega)
    have z6:wr.frozen? (qzA g (j*12+6))=false:=ho.frozenAt _
    obtain ⟨o7,y7⟩:=hex (j*12+7) (by omega)
    have z7:wr.frozen? (qzA g (j*12+7))=false:=ho.frozenAt _
    obtain ⟨o8,y8⟩:=hex (j*12+8) (by omega)
    have z8:wr.frozen? (qzA g (j*12+8))=false:=ho.frozenAt _
    obtain ⟨o9,y9⟩:=hex (j*12+9) (by omega)
    have z9:wr.frozen? (qzA g (j*12+9))=false:=ho.frozenAt _
    obtain ⟨a4,a6⟩:=hex (j*12+10) (by omega)
    have z10:wr.frozen? (qzA g (j*12+10))=false:=ho.frozenAt _
    obtain ⟨a5,a7⟩:=hex (j*12+11) (by omega)
    have z11:wr.frozen? (qzA g (j*12+11))=false:=ho.frozenAt _;have s:=Aa ho;clear hex D ho;go_wp2
    go_roundw
    case rel =>
     obtain ⟨zs,q1,q2⟩:=zH s.o j _ _ _ _ _ _ _ _ _ _ _ _
     exact ⟨j+1,zs,by omega,by go_num,by have:=U.o;congr 1;omega,q1,S.o.t q2⟩
    case measure=>simp [intOf];omega
   ·have C:j=n:=by omega
    have B:¬ (j:Int)<(n:Int):=by omega
    subst C;have s:=Aa ho;clear ho;go_wp2;go_ret;exact ⟨rfl,⟨a,s.o⟩,S.o⟩
def Hs (f:Nat->Int) (a:List Value) (j:Nat):List Value:=((List.range j).map λi=>Value.int .i64 (f i))++a.drop j
theorem jL (f:Nat->Int) (a:List Value):Hs f a 0=a:=by simp [Hs]
theorem pJ (f:Nat->Int) (a:List Value):Hs f a a.length=(List.range a.length).map λi=>Value.int .i64 (f i):=by simp [Hs]
theorem vT (f:Nat->Int) (a:List Value) (j:Nat):(Hs f a j)[j]?=a[j]?:=by simp [Hs,List.getElem?_append]
theorem jC (f:Nat->Int) (a:List Value) (j:Nat) (h:j<a.length):Hs f a (j+1)=(Hs f a j).set j (qzI (f j)):=by
 unfold Hs
 rw [List.range_succ,List.map_append,List.set_append_right _ _ (by simp)]
 simp
 rw [jc h,List.set_cons_zero]
def Wu (k:Int) (n:Nat):List Int:=(List.range n).map λi:Nat=>k+(i:Int)
theorem qH (k:Int) (n:Nat):(Wu k n).length=n:=by simp [Wu]
theorem Ag8 (k:Int) (n i:Nat) (h:i<n):(Wu k n).getD i 0=k+(i:Int):=by simp [Wu,h]
theorem Aco (k:Int) (a:List Value) (n:Nat) (h:a.length=n):Hs (λi:Nat=>k+(i:Int)) a n=(Wu k n).map (Value.int .i64):=by
 subst h;rw [pJ];simp [Wu]
theorem Ro (ao:qm) (cap n base:Nat) (k:Int) (a:List Value) (w:ql) (ho:w.ownsRow base 3 1 (qf ao n cap) n a) (hn:n<=1099511627776) (H:0<=k) (I:k<=1099511627776) :
  qi 43 #[qf ao n cap,qzI k] w λe w'=>e=.returned (qzI (k+n)) /\
   w'.ownsRow base 3 1 (qf ao n cap) n ((Wu k n).map (Value.int .i64))/\w.grownBy w' (Value.slice ao n cap).ownBlock:=by
 have A:a.length=n:=by simpa using ho.1
 rcases ho.2 with ⟨u,x⟩|⟨g,r,J,u,q⟩
 ·obtain ⟨rfl,rfl,rfl⟩:ao=none/\n=0/\cap=0:=by simpa using u
  clear u x
  go_enter func43,ntmps43
  go_wp2;refine wp_loop_rounds 1 ?_;rw [rounds_succ];go_wp2;go_ret
  exact ⟨Af (by simp),jh _ _ _ _,jm _ _⟩
 ·obtain ⟨rfl,rfl⟩:ao=some (qzA g 0)/\cap=r:=by simpa using u
  clear u q
  go_enter func43,ntmps43
  go_wp2
  go_loopw [1,5] (λc i wr=>∃ j:Nat,j<=n/\i=qzI j/\c=qzI (k+j)/\wr.ownsRow base 3 1 (qf (some (qzA g 0)) n cap) n (Hs (λi:Nat=>k+(i:Int)) a j)/\w.grownBy wr (some g)) (λ_ i _=>n - (intOf i).toNat)
  case atStart=>exact ⟨0,qw _,rfl,by simp,by rw [jL];exact ho,jm _ _⟩
  case round =>
   obtain ⟨j,F,rfl,rfl,l,m⟩:=hrel;clear ho
   by_cases hlt:j<n
   ·have y:(j:Int)<(n:Int):=by omega
    have c2:∃ v,wr.cell? (qzA g j)=some v:=by rw [l.cellAt j (by omega),vT];exact ⟨_,List.getElem?_eq_getElem (by omega)⟩
    obtain ⟨old,c2⟩:=c2;have c3:wr.frozen? (qzA g j)=false:=l.frozenAt j;have R:=l.stored j (qzI (k+j))
    rw [show (Hs (λi:Nat=>k+(i:Int)) a j).set j (qzI (k+(j:Int)))=Hs (λi:Nat=>k+(i:Int)) a (j+1) from (jC _ _ j (by omega)).s] at R
    have D:qj _:=R.1;have B:=Aa (m.t R.2);clear R l m;go_wp2
    go_roundw
    case rel=>exact ⟨j+1,by omega,by go_num,by congr 1;omega,D.o,B.o⟩
    case measure=>simp [intOf];omega
   ·have p:j=n:=by omega
    subst p;rw [Aco k a j A] at l;have C:qj _:=l;clear l;go_wp2;go_ret;exact ⟨rfl,C.o,m⟩
theorem cQ (ao:qm) (cap n:Nat) (k:Int) (w:ql) (G:Bg w ao (Wu k n)) (hn:n<=1099511627776) (H:0<=k) (I:k<=1099511627776) :
  qi 49 #[qf ao n cap,qzI k] w λe w'=>e=.returned (qzI (k+n))/\w'=w:=by
 rcases G with x|⟨b,off,rfl,hb,d⟩
 ·have z:n=0:=by have:=qH k n;rw [x] at this;simpa using this.s
  subst z;clear x
  go_enter func49,ntmps49
  go_wp2;refine wp_loop_rounds 1 ?_;rw [rounds_succ];go_wp2;go_ret
  exact ⟨Af (by simp),rfl⟩
 ·rw [qH] at d
  go_enter func49,ntmps49
  go_wp2
  go_loop [1,5] (λc i=>∃ j:Nat,j<=n/\i=qzI j/\c=qzI (k+j)) (λ_ i=>n - (intOf i).toNat)
  case atStart=>exact ⟨0,qw _,rfl,by simp⟩
  case round =>
   obtain ⟨j,F,rfl,rfl⟩:=hrel
   by_cases hlt:j<n
   ·have y:(j:Int)<(n:Int):=by omega
    have c2:=d j hlt;rw [Ag8 k n j hlt] at c2;clear d;go_wp2
    go_round
    case rel=>exact ⟨j+1,by omega,by go_num,by congr 1;omega⟩
    case measure=>simp [intOf];omega
   ·have p:j=n:=by omega
    subst p;clear d;go_wp2;go_ret;exact ⟨rfl,rfl⟩
namespace Tg
theorem wrapI {x:Int} (h0:0<=x) (h1:x<=1000000000):IntKind.i64.wrap x=x:=by
 simp [IntKind.wrap,IntKind.bits,IntKind.signed];omega
theorem zG {l:qn} {a:Nat} (h7:a+7<=l.length) (hw:Ag 48 57 ((l.drop a).take 7)=true):A9 ((l.drop (a+4)).take 3)=(U0 l a:Int)/\U0 l a<1000:=by
 have hs:(l.drop (a+4)).take 3=(((l.drop a).take 7).drop 4):=by rw [List.drop_take,List.drop_drop]
 have a4:Ag 48 57 ((l.drop (a+4)).take 3)=true:=by
  rw [hs]
  exact Md λc hc=>E6 hw c (List.mem_of_mem_drop hc)
 have d1:((l.drop (a+4)).take 3).length=3:=by rw [List.length_take,List.length_drop];omega
 have hb:=Hv _ a4 3 (by omega)
 rw [List.take_of_length_le (by omega)] at hb
 have hn:=Fu (l:=(l.drop (a+4)).take 3) (by omega) a4
 have b3:(A9 ((l.drop (a+4)).take 3)).toNat=val 0 ((l.drop (a+4)).take 3):=by rw [hn,Int.toNat_natCast]
 unfold U0;rw [b3,hn]
 exact ⟨rfl,by omega⟩
theorem yV {l:qn} {a:Nat} (h:¬ a+7<=l.length):Ki l a=false:=by unfold Ki;rw [decide_eq_false h,Bool.false_and]
theorem Aa0 {l:qn} {a:Nat} (h:Ag 48 57 ((l.drop a).take 7)=false):Ki l a=false:=by unfold Ki;rw [h,Bool.false_and,Bool.and_false]
theorem zB {l:qn} {a:Nat} (h:¬ A9 ((l.drop (a+4)).take 3)<=(l.length:Int) - a - 7):Ki l a=false:=by unfold Ki;rw [decide_eq_false h,Bool.and_false,Bool.and_false]
theorem yN {l:qn} {a:Nat} (h1:a+7<=l.length) (h2:Ag 48 57 ((l.drop a).take 7)=true) (h3:A9 ((l.drop (a+4)).take 3)<=(l.length:Int) - a - 7):Ki l a=true:=by
 unfold Ki;rw [decide_eq_true h1,h2,decide_eq_true h3];rfl
theorem X4 {l:qn} {f a:Nat} {b:List Av} (d:nQ l (l.length+1) 0 []=nQ l f a b) (h:a<l.length) (he:Ki l a=false):gotT l=none:=by
 rw [Af4,d,Agl h he];rfl
theorem Kc (w w':ql) (l:qn) (h:gotT l=none) (g:Nat) (ho:w'.ownsRow w.heap.size 211 2 (qf (some (qzA g 0)) 0 0) 0 []) (hb:BW w w'):Afl w (gotT l) (.returned (.tuple #[qf (some (qzA g 0)) 0 0,.bool false])) w':=by
 rw [h];exact ⟨_,_,rfl,ho,hb⟩
theorem cA {w w':ql} (hb:BW w w'):(w'.alloc (.cells #[] 211)).ownsRow w.heap.size 211 2 (qf (some ⟨w'.heap.size,0,none⟩) 0 0) 0 []:=Yj (rF w') hb.size
theorem sGetTags_any (l:qn) (w:ql) (hl:l.length<=1048576) :
  qi 115 #[qd l] w (Afl w (gotT l)):=by
 obtain ⟨i0,hi,d3,d4,d5⟩:=info_parts fD;have V:=Aa (rF w)
 go_enter func115,ntmps115
 go_wp2
 go_loopw [4,5] (λv i wr=>∃ (f a:Nat) (b:List Av),a<=l.length/\i=qzI a/\nQ l (l.length+1) 0 []=nQ l f a b/\l.length<a+f/\b.length*7<=a/\(∀ g ∈ b,g.2.length<=1048576)/\wr.ownsRow w.heap.size 211 2 v b.length (Bt b)/\BW w wr) (λ_ i _=>l.length - (intOf i).toNat)
 case atStart=>exact ⟨l.length+1,0,[],qw _,rfl,rfl,by omega,by simp,(λg hg=>by cases hg),V.o,by go_grown⟩
 case round =>
  obtain ⟨f,a,b,ha,rfl,d,hf,c9,I,ho,n⟩:=hrel;obtain ⟨va,vc,hv,-,-⟩:=I6 ho;subst hv;have U:=Aa ho;have HM:=Aa I;have u:=Aa (cA n);have y:Below w.heap.size w (wr.alloc (.cells #[] 211)):=n.alloc n.size _;clear ho I V
  by_cases hlt:a<l.length
  ·have c8:(a:Int)<(l.length:Int):=by omega
   by_cases h7:a+7<=l.length
   ·have a8:decide ((l.length:Int) - (a:Int)<7)=false:=decide_eq_false (by omega)
    have Y:=Jz l a 7;obtain ⟨P,F⟩:=Ae ((l.drop a).take 7)
    have b9:P.length<=7:=by rw [<- F,List.length_take];omega
    cases hw:Ag 48 57 P
    ·have A:=Aa (X4 d hlt (Aa0 (by rw [F];exact hw)))
     rw [F] at Y;have W:qj _:=hw;clear d F hw;go_wp2_with fail
     refine (Fp P _ (by omega)).m ?_
     rintro e L ⟨rfl,k⟩;subst k;rw [W.o];go_wp2;go_ret2;exact Kc _ _ _ A.o _ u.o y
    ·obtain ⟨p,b4⟩:=zG h7 (by rw [F];exact hw)
     have Z:(⟨l.toArray⟩:ByteArray).extract (a+4) (a+7)=⟨((l.drop (a+4)).take 3).toArray⟩:=Jz l (a+4) 3;have J:=Jz l a 4;obtain ⟨P3,G⟩:=Ae ((l.drop (a+4)).take 3)
     have b7:P3.length<=3:=by rw [<- G,List.length_take];omega
     have H:=zB (l:=l) (a:=a)
     have r:=yN h7 (by rw [F];exact hw)
     have q:yC l a=(A9 ((l.drop a).take 4),(l.drop (a+7)).take (U0 l a)):=rfl;have z:=Jz l (a+7) (U0 l a);rw [F] at Y;rw [G] at Z H r p;obtain ⟨K,hK⟩:=Ae (U0 l a);rw [hK] at p b4 q z
     by_cases hbig:(l.length:Int) - (a:Int) - 7<(K:Int)
     ·have A:=Aa (X4 d hlt (H (by rw [p];omega)))
      have W:qj _:=hw;have O:qj _:=p;clear d F hw H r q J z hK G p;go_wp2_with fail
      refine (Fp P _ (by omega)).m ?_
      rintro e L ⟨rfl,k⟩;subst k;rw [W.o];go_wp2_with fail
      refine (sNumOf_any P3 _ (by omega)).m ?_
      rintro e L ⟨rfl,k⟩;subst k;rw [O.o];go_wp2;go_ret2;exact Kc _ _ _ A.o _ u.o y
     ·have a3:=r (by rw [p];omega)
      obtain ⟨g,rfl⟩:∃ g,f=g+1:=⟨f - 1,by omega⟩
      have T:nQ l (l.length+1) 0 []=nQ l g (a+7+K) (b++[yC l a]):=by rw [d,Aad hlt a3,hK]
      obtain ⟨P4,R⟩:=Ae ((l.drop a).take 4);obtain ⟨D,hD⟩:=Ae ((l.drop (a+7)).take K)
      have b8:P4.length<=4:=by rw [<- R,List.length_take];omega
      have a9:D.length<=1048576:=by rw [<- hD,List.length_take,List.length_drop];omega
      rw [R] at J q;rw [hD] at z q;obtain ⟨N,hN⟩:=Ae (A9 P4);rw [hN] at q;rw [q] at T;have W:=Aa hw;have O:qj _:=p;have a5:qj _:=hN;have a7:qj _:=T
      have d0:a+7+K<=l.length:=by omega
      have b2:=n.size;clear d F hw H r q hK G p R hD hN T a3 u y;go_wp2_with fail
      refine (Fp P _ (by omega)).m ?_
      rintro e L ⟨rfl,k⟩;subst k;rw [W.o];go_wp2_with fail
      refine (sNumOf_any P3 _ (by omega)).m ?_
      rintro e L ⟨rfl,k⟩;subst k;rw [O.o];go_wp2
      have m1:(0:Int)<=(a:Int):=by omega
      have m2:(a:Int)<=(a:Int)+4:=by omega
      have m3:(a:Int)+4<=(l.length:Int):=by omega
      have m4:(0:Int)<=(a:Int)+7:=by omega
      have m5:(a:Int)+7<=(a:Int)+7+(K:Int):=by omega
      have m6:(a:Int)+7+(K:Int)<=(l.length:Int):=by omega
      have r1:IntKind.i64.wrap ((a:Int)+4)=(a:Int)+4:=wrapI (by omega) (by omega)
      have r2:IntKind.i64.wrap ((a:Int)+7)=(a:Int)+7:=wrapI (by omega) (by omega)
      have r3:IntKind.i64.wrap ((a:Int)+7+(K:Int))=(a:Int)+7+(K:Int):=wrapI (by omega) (by omega)
      have t1:((a:Int)+4).toNat=a+4:=by omega
      have t2:((a:Int)+7).toNat=a+7:=by omega
      have t3:((a:Int)+7+(K:Int)).toNat=a+7+K:=by omega
      go_region_held3 (λ_=>True) (trivial) ((first|(go_at_call 90;refine (sNumOf_any P4 _ (by omega)).m ?_;rintro e wz ⟨rfl,b6⟩;subst b6;rw [a5.o])|(refine S0 rfl (.tmp 44) (.tmp 60) rfl w.heap.size (qf va b.length vc) b.length (Bt b) (by rfl) (Ja U.o (by go_grown)) (some ⟨L.heap.size,0,none⟩) 1 [(N,D)] (by rfl) (Ago (by simp [go_sem]) (by simp [go_sem])) (by simp <;> omega) (by simp <;> omega) ?_;intro v5 w5 o5 g5 _)))
      all_goals
       have b0:=Below.grown (n.t (Below.m (by go_grown) b2)) g5 (by simp <;> omega) (λj hj=>(U.o.lt j hj).1)
       have HR:qj (w5.ownsRow w.heap.size 211 2 v5 (b++[(N,D)]).length (Bt (b++[(N,D)]))):=by rw [qj,Qe,qv];exact o5
       clear o5 g5 U;go_wp2
       go_roundw
       case rel =>
        refine ⟨g,a+7+K,b++[(N,D)],by omega,by go_num,a7.o,by omega,by simp;omega,λx hx=>?_,HR.o,b0⟩
        rcases List.mem_append.1 hx with h|h
        ·exact HM.o x h
        ·obtain rfl:x=(N,D):=by simpa using h
         exact a9
       case measure=>simp [intOf];omega
   ·have a8:=decide_eq_true (by omega)
    have A:=Aa (X4 d hlt (yV h7));clear d;go_wp2;go_ret2;exact Kc _ _ _ A.o _ u.o y
  ·have X:a=l.length:=by omega
   subst X
   have s:gotT l=N7 l (some b):=by rw [Af4,d,qT (by omega) (by omega)]
   have S:=flds_any U.o;clear d u y
   cases hpo:Ek b
   ·have A:qj (gotT l=none):=by rw [qj,s];exact Vd (λh=>by rw [hpo] at h;exact absurd h.1 (by decide))
    go_wp2_with fail
    refine (Mk _ _ _ _ S (by omega) (λg hg=>by have:=HM.o g hg;omega)).m ?_
    rintro e L ⟨rfl,B⟩;rw [hpo];have C:=next n B;have M:=Aa (cA C)
    generalize Nf b=pl
    clear hpo s B;go_wp2;go_ret2;exact Kc _ _ _ A.o _ M.o (C.alloc C.size _)
   ·by_cases heq:Bl b=l
    ·have HY:qj (gotT l=some b):=by rw [qj,s];exact Vg hpo heq
     have HP:qj (Nf b=l):=by rw [qj,Lz hpo,heq]
     go_wp2_with fail
     refine (Mk _ _ _ _ S (by omega) (λg hg=>by have:=HM.o g hg;omega)).m ?_
     rintro e L ⟨rfl,B⟩;rw [hpo,HP.o];have C:=next n B;have a6:=Aa (Ja U.o B)
     have d2:(l == l)=true:=by simp
     clear hpo s B heq;go_wp2;go_ret2;rw [HY.o];exact ⟨_,_,rfl,a6.o,C⟩
    ·have A:qj (gotT l=none):=by rw [qj,s];exact Vd (λh=>heq h.2)
     have b5:(Nf b == l)=false:=by rw [Lz hpo];simpa using heq
     go_wp2_with fail
     refine (Mk _ _ _ _ S (by omega) (λg hg=>by have:=HM.o g hg;omega)).m ?_
     rintro e L ⟨rfl,B⟩;rw [hpo];have C:=next n B;have M:=Aa (cA C)
     generalize Nf b=pl at b5
     clear hpo s B heq;go_wp2;go_ret2;exact Kc _ _ _ A.o _ M.o (C.alloc C.size _)
end Tg
theorem cG (n:Int) (d:qn) (w:ql) (f:d.length<=1099511627776) :
  qi 88 #[.agg #[qzI n,qd d]] w λe w'=>e=.returned (.bool (Ay n d))/\BW w w':=by
 by_cases h:n ∈ Fr
 ·rcases (Vj h).1 with hk|hk|hk|hk|hk
  ·by_cases hq:(d.length:Int)=fS n
   ·have b:qj (Ay n d=Ag 48 57 d):=by rw [qj,Ay,hk,Be,if_pos rfl,decide_eq_true hq,ja]
    have a:qj _:=hk;have hp:=cU hq;clear hq;clear hk h
    go_enter func88,ntmps88
    go_wp2_with fail
    refine (Db _ _).m ?_;rintro e c ⟨rfl,hw⟩;subst hw;rw [a.o];go_wp2_with fail
    refine (Fp d _ f).m ?_;rintro e c ⟨rfl,hw⟩;subst hw;go_wp2;go_ret;exact ⟨Ab b.o.s,bR.alloc nL _⟩
   ·have b:qj (Ay n d=false):=by rw [qj,Ay,hk,Be,if_pos rfl,decide_eq_false hq,Bool.false_and]
    have a:qj _:=hk;have hp:=dA hq;clear hk h
    go_enter func88,ntmps88
    go_wp2_with fail
    refine (Db _ _).m ?_;rintro e c ⟨rfl,hw⟩;subst hw;rw [a.o];go_wp2;go_ret;exact ⟨Ab b.o.s,bR.alloc nL _⟩
  ·by_cases hq:(d.length:Int)<=fS n
   ·have b:qj (Ay n d=Ag 48 57 d):=by rw [qj,Ay,hk,Be,if_neg (by decide),if_pos rfl,decide_eq_true hq,ja]
    have a:qj _:=hk;clear hk h
    go_enter func88,ntmps88
    go_wp2_with fail
    refine (Db _ _).m ?_;rintro e c ⟨rfl,hw⟩;subst hw;rw [a.o];go_wp2_with fail
    refine (Fp d _ f).m ?_;rintro e c ⟨rfl,hw⟩;subst hw;go_wp2;go_ret;exact ⟨Ab b.o.s,bR.alloc nL _⟩
   ·have b:qj (Ay n d=false):=by rw [qj,Ay,hk,Be,if_neg (by decide),if_pos rfl,decide_eq_false hq,Bool.false_and]
    have a:qj _:=hk;clear hk h
    go_enter func88,ntmps88
    go_wp2_with fail
    refine (Db _ _).m ?_;rintro e c ⟨rfl,hw⟩;subst hw;rw [a.o];go_wp2;go_ret;exact ⟨Ab b.o.s,bR.alloc nL _⟩
  ·by_cases hq:(d.length:Int)=fS n
   ·have b:qj (Ay n d=Ag 32 126 d):=by rw [qj,Ay,hk,Be,if_neg (by decide),if_neg (by decide),if_pos rfl,decide_eq_true hq,ja]
    have a:qj _:=hk;have hp:=cU hq;clear hq;clear hk h
    go_enter func88,ntmps88
    go_wp2_with fail
    refine (Db _ _).m ?_;rintro e c ⟨rfl,hw⟩;subst hw;rw [a.o];go_wp2_with fail
    refine (J9 d _ f).m ?_;rintro e c ⟨rfl,hw⟩;subst hw;go_wp2;go_ret;exact ⟨Ab b.o.s,bR.alloc nL _⟩
   ·have b:qj (Ay n d=false):=by rw [qj,Ay,hk,Be,if_neg (by decide),if_neg (by decide),if_pos rfl,decide_eq_false hq,Bool.false_and]
    have a:qj _:=hk;have hp:=dA hq;clear hk h
    go_enter func88,ntmps88
    go_wp2_with fail
    refine (Db _ _).m ?_;rintro e c ⟨rfl,hw⟩;subst hw;rw [a.o];go_wp2;go_ret;exact ⟨Ab b.o.s,bR.alloc nL _⟩
  ·by_cases hq:(d.length:Int)<=fS n
   ·have b:qj (Ay n d=Ag 32 126 d):=by rw [qj,Ay,hk,Be,if_neg (by decide),if_neg (by decide),if_neg (by decide),if_pos (.inl rfl),decide_eq_true hq,ja]
    have a:qj _:=hk;clear hk h
    go_enter func88,ntmps88
    go_wp2_with fail
    refine (Db _ _).m ?_;rintro e c ⟨rfl,hw⟩;subst hw;rw [a.o];go_wp2_with fail
    refine (J9 d _ f).m ?_;rintro e c ⟨rfl,hw⟩;subst hw;go_wp2;go_ret;exact ⟨Ab b.o.s,bR.alloc nL _⟩
   ·have b:qj (Ay n d=false):=by rw [qj,Ay,hk,Be,if_neg (by decide),if_neg (by decide),if_neg (by decide),if_pos (.inl rfl),decide_eq_false hq,Bool.false_and]
    have a:qj _:=hk;clear hk h
    go_enter func88,ntmps88
    go_wp2_with fail
    refine (Db _ _).m ?_;rintro e c ⟨rfl,hw⟩;subst hw;rw [a.o];go_wp2;go_ret;exact ⟨Ab b.o.s,bR.alloc nL _⟩
  ·by_cases hq:(d.length:Int)<=fS n
   ·have b:qj (Ay n d=Ag 32 126 d):=by rw [qj,Ay,hk,Ahj,Be,if_neg (by decide),if_neg (by decide),if_neg (by decide),if_pos (.inl rfl),decide_eq_true hq,ja]
    have a:qj _:=hk;clear hk h
    go_enter func88,ntmps88
    go_wp2_with fail
    refine (Db _ _).m ?_;rintro e c ⟨rfl,hw⟩;subst hw;rw [a.o];go_wp2_with fail
    refine (J9 d _ f).m ?_;rintro e c ⟨rfl,hw⟩;subst hw;go_wp2;go_ret;exact ⟨Ab b.o.s,bR.alloc nL _⟩
   ·have b:qj (Ay n d=false):=by rw [qj,Ay,hk,Ahj,Be,if_neg (by decide),if_neg (by decide),if_neg (by decide),if_pos (.inl rfl),decide_eq_false hq,Bool.false_and]
    have a:qj _:=hk;clear hk h
    go_enter func88,ntmps88
    go_wp2_with fail
    refine (Db _ _).m ?_;rintro e c ⟨rfl,hw⟩;subst hw;rw [a.o];go_wp2;go_ret;exact ⟨Ab b.o.s,bR.alloc nL _⟩
 ·have a:qj _:=gV h
  have b:qj _:=Xk (d:=d) h;clear h
  go_enter func88,ntmps88
  go_wp2_with fail
  refine (Db _ _).m ?_;rintro e c ⟨rfl,hw⟩;subst hw;rw [a.o];go_wp2;go_ret;exact ⟨Ab b.o.s,bR.alloc nL _⟩
end Go.Proofs.YtfpafnefpmmofaaGreatDoor
namespace Go.Proofs.YtfpafnefpmmofaaGreatDoor
open Go.ChangeShapes Go.WideShapes Go.ChangeAt Go.RowKit Go.Proofs.Tryz
theorem Af9:(Rows.laid_loop_example_g00126_impl_stepDays:DataW Unit)=Lib.tabData .i64 Re:=by kernel_rfl
theorem Ahi : prog.globalNamed "loop.example/g00126/impl.stepDays" = some 14 := by kernel_rfl
theorem Ahf:(prog.globals[14]?).map (·.type)=some 400:=by kernel_rfl
theorem uW {rest : List (String × DataW Unit)} {w : ql} (h : laidMet prog (("loop.example/g00126/impl.stepDays", Rows.laid_loop_example_g00126_impl_stepDays) :: rest) w) : Fn w := by
 rw [Af9] at h
 exact Lib.tabIs_of_head Ahi Ahf underlying400 underlying3 (by kernel_rfl) (by kernel_rfl) h
theorem Acv {w w':ql} {n:String} {cs:Array Value} (h:w.var? prog n=some cs) (hb:BW w w'):w'.var? prog n=some cs:=by
 unfold World.var? at *
 cases hg:prog.globalNamed n with
 | none=>simp [hg] at h
 | some g =>
  simp only [hg,Option.bind_some] at h ⊢
  have b:g<w.heap.size:=by
   rcases Nat.lt_or_ge g w.heap.size with a|a
   ·exact a
   ·rw [Array.getElem?_eq_none a] at h;simp at h
  rw [hb.block g b];exact h
end Go.Proofs.YtfpafnefpmmofaaGreatDoor
