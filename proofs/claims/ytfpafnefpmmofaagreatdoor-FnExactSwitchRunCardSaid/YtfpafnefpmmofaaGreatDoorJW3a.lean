import Derived.Test.YtfpafnefpmmofaaGreatDoorKWSAddL
import Derived.Test.YtfpafnefpmmofaaGreatDoorJW2a
set_option maxRecDepth 100000
set_option maxHeartbeats 12800000
namespace Go.Proofs.YtfpafnefpmmofaaGreatDoor
open Go.RowKit Go.Proofs.Tryz
theorem oD {w:ql} {a:Addr} {ls:List Ln} (h:Ar w (some a) ls):∀ j u,(Ak ls)[j]?=some u->w.cell? (a.add j)=some u:=by
 intro j u l
 have X:j<ls.length*3:=by
  rw [<- C9];exact (List.getElem?_eq_some_iff.1 l).1
 rcases h with rfl|⟨O,i,hq,hb,hc⟩
 ·simp at X
 ·obtain rfl:a=(qzA O i):=by simpa using hq
  have e:(((qzA O i):Addr).add j)=(qzA O (i+j)):=by unfold Addr.add;split <;> simp_all
  have hk:=hc (j / 3) (by omega)
  have F:=Jl ls (j / 3) (by omega)
  rw [e]
  rcases (show j % 3=0\/j % 3=1\/j % 3=2 by omega) with m|m|m
  ·have d:j=j / 3*3:=by omega
   rw [d,F.1] at l
   rw [d,hk.1];exact l
  ·have d:j=j / 3*3+1:=by omega
   rw [d,F.2.1] at l
   rw [d,<- Nat.add_assoc,hk.2.1];exact l
  ·have d:j=j / 3*3+2:=by omega
   rw [d,F.2.2] at l
   rw [d,<- Nat.add_assoc,hk.2.2];exact l
theorem Tl (w:ql) (base:Nat) (ty:TypeId) (v:Value) (n:Nat) (cs:List Value) (f:w.ownsRow base 151 3 v n cs) (ao:qm) (c:Nat) (ls:List Ln) (z:Ar w ao ls)
  (hn:n+ls.length<=4000000) (hbase:base<=w.heap.size) :
  ∃ k w',(Builtin.append_ #[36,36] ty #[v,qf ao ls.length c]).run prog w=.ok k w'/\w'.ownsRow base 151 3 k (n+ls.length) (cs++Ak ls)/\w.grownBy w' v.ownBlock:=by
 obtain ⟨i0,hi,a3,a4,a5⟩:=info_parts sD
 cases ao with
 | none =>
  have F:ls=[]:=by
   rcases z with h|⟨b,off,h,_⟩
   ·exact h
   ·cases h
  subst F
  refine ⟨v,w,?_,by simpa [Ak] using f,⟨rfl,rfl,rfl,nL,λ_ _ _=>rfl⟩⟩
  have hu:=underlying36
  rcases f.2 with ⟨rfl,rfl⟩|⟨g,cap,cw,rfl,a6,hg,Y,a7,a8,Z⟩
  ·simp [Builtin.append_,run_underlying hu,sizeOf,typeInfo,hi,Builtin.lenOf,Builtin.firstCells]
  ·simp [Builtin.append_,run_underlying hu,sizeOf,typeInfo,hi,Builtin.lenOf,Builtin.firstCells,loadCells,Y,storeCells]
 | some a =>
  obtain ⟨k,w',S,T,h3,_,_⟩:=run_append_own_at (P:=prog) w base 36 ty 151 i0 _ 3 24 underlying36 hi a3 a4 a5 rfl (by decide) v n cs f a ls.length c (Ak ls) (C9 ls) (oD z) (mP ls) (by unfold maxLen;omega) (by omega) hbase
  exact ⟨k,w',S,T,h3⟩
theorem Iu {H:Array Oper} {rest:List Oper} {o:Oper} {a:Act} {Q:Exit->Act->ql->Prop} (w:ql) (V:o.guard=none) (s x:Operand)
  (ho:o.op=.call { callee:=.builtin .append,args:=#[s,x],argTypes:=#[36,36] }) (base:Nat) (v:Value) (n:Nat) (cs:List Value) (hs:a.eval s=v) (f:w.ownsRow base 151 3 v n cs)
  (ao:qm) (c:Nat) (ls:List Ln) (hx:a.eval x=qf ao ls.length c) (z:Ar w ao ls) (hn:n+ls.length<=4000000) (hbase:base<=w.heap.size)
  (h:∀ k w',w'.ownsRow base 151 3 k (n+ls.length) (cs++Ak ls)->w.grownBy w' v.ownBlock->wpList prog H Q rest (a.put o.dst k) w'):wpList prog H Q (o::rest) a w:=by
 obtain ⟨k,w',hr,S,T⟩:=Tl w base o.type v n cs f ao c ls z hn hbase;exact Lib.wpList_append_run w V s x _ _ ho _ _ hs hx k w' hr (h k w' S T)
def Ahd (w:ql) (ls:List Ln) (e:Ending) (w':ql):Prop :=
 ∃ ao cap,e=.returned (.agg #[qf ao ls.length cap])/\w'.ownsRow w.heap.size 151 3 (qf ao ls.length cap) ls.length (Ak ls)/\BW w w'
theorem Jk (ao:qm) (cap:Nat) (ls:List Ln) (w:ql) (z:Ar w ao ls) (hn:ls.length<=1048577) :
  qi 57 #[.agg #[qf ao ls.length cap]] w (Ahd w ls):=by
 obtain ⟨W,r⟩:=A0 (((w.alloc (.cells #[qf ao ls.length cap] 38)).alloc (.cells #[qe] 38)).alloc (.cells #[] 151))
 have U:W.heap.size=w.heap.size+3:=by rw [r];simp
 have R:BW w W:=by rw [r];go_grown
 have L:qj (W.ownsRow (w.heap.size+2) 151 3 (qf (some ⟨w.heap.size+1+1,0,none⟩) 0 0) 0 (Ak [])):=by
  have h:=World.ownsRow_lit (base:=w.heap.size+2) (e:=151) (size:=3) ((w.alloc (.cells #[qf ao ls.length cap] 38)).alloc (.cells #[qe] 38)) #[] 0 (by simp) (by unfold maxLen;omega) rfl
  rw [qj,r];simpa [Ak] using h
 have HZ:=Aa (z.below R)
 have c1:W.cell? ⟨w.heap.size+1,0,none⟩=some qe:=by rw [r];simp [go_sem]
 have c0:W.cell? ⟨w.heap.size,0,none⟩=some (qf ao ls.length cap):=by rw [r];simp [go_sem]
 have z1:W.frozen? ⟨w.heap.size+1,0,none⟩=false:=by rw [r];simp [go_sem]
 have M:qj _:=r;have N:qj _:=U;clear z
 go_enter func57,ntmps57
 have q:qj (∀ I p,p.ownsRow (w.heap.size+2) 151 3 I (0+ls.length) (Ak []++Ak ls)->W.grownBy p (Value.slice (some ⟨w.heap.size+1+1,0,none⟩) 0 0).ownBlock->∃ a2 B,I=qf a2 ls.length B/\p.ownsRow (w.heap.size+2) 151 3 (qf a2 ls.length B) ls.length (Ak ls) /\
   p.cell? ⟨w.heap.size+1,0,none⟩=some qe/\p.frozen? ⟨w.heap.size+1,0,none⟩=false/\BW w p):=by
  intro I p C A
  rw [qu,show Ak []++Ak ls=Ak ls from rfl] at C
  obtain ⟨a2,B,y,-,-⟩:=Ft C;subst y
  have G:some (w.heap.size+1)≠(Value.slice (some ⟨w.heap.size+1+1,0,none⟩) 0 0).ownBlock:=by simp [Value.ownBlock]
  exact ⟨a2,B,rfl,C,(A.cell_far ⟨w.heap.size+1,0,none⟩ (by show w.heap.size+1<W.heap.size;omega) G).t c1,(A.frozen_far ⟨w.heap.size+1,0,none⟩ (by show w.heap.size+1<W.heap.size;omega) G).t z1,R.grown A R.size (λj l=>by
   have:w.heap.size+1+1=j:=by simpa [Value.ownBlock] using l
   omega)⟩
 clear c1 z1
 go_wp2_with (at_builtin;rw [<- M.o];refine Iu _ rfl (.tmp 3) (.tmp 5) rfl (w.heap.size+2) _ 0 _ rfl L.o ao cap ls rfl HZ.o (by omega) (by have:=N.o;omega) ?_;intro I p C A;obtain ⟨a2,B,y,o3,d1,e1,b2⟩:=q.o I p C A;subst y;have D:=Aa o3;have J:=Aa b2;clear C A o3 b2)
 refine bodyPost_ret (by simp [results,results57,go_sem,d1];try rfl) rfl ?_
 refine ⟨a2,B,rfl,?_,J.o.setCell (by show w.heap.size<=w.heap.size+1;omega) _⟩
 exact Bz (Bf D.o _ _ (λg hg=>by have:=(D.o.lt g hg).1;simp only;omega)) (by omega)
theorem Jd {w:ql} {base n sz:Nat} {t:TypeId} {v:Value} {xs:List Value} (h:w.ownsRow base t sz v n xs):∃ ao cap,v=qf ao n cap:=by
 rcases h.2 with ⟨rfl,rfl⟩|⟨g,c,cw,rfl,_⟩
 ·exact ⟨none,0,rfl⟩
 ·exact ⟨_,c,rfl⟩
theorem N1 {u d:ql} {o:Obj} {g:Nat} (hg:g=u.heap.size) (h:(u.alloc o).grownBy d (some g)):BW u d :=
 (((Below.refl u.heap.size u).alloc nL o)).grown h (by simp) (λk hk=>by cases hk;omega)
def Fw (a:qm) (n:Nat):Prop:=∀ x,a=some x->x.block<n
def Df (a:qm) (n:Nat):Prop:=∀ x,a=some x->n<=x.block
theorem Jh {w:ql} {base n cap sz m:Nat} {t:TypeId} {a:qm} {xs:List Value} (h:w.ownsRow base t sz (qf a n cap) n xs) (hm:w.heap.size<=m):Fw a m:=by
 intro x hx;subst hx
 have:=(h.lt x.block rfl).2
 omega
theorem D9 {w:ql} {base n cap sz:Nat} {t:TypeId} {a:qm} {xs:List Value} (h:w.ownsRow base t sz (qf a n cap) n xs):Df a base:=by
 intro x hx;subst hx;exact (h.lt x.block rfl).1
structure CpR (w:ql) (b:Bk) (e:Ending) (w':ql):Prop where
 res:∃ q base,e=.returned (Fx b q)/\Az w' b q/\w'.ownsRow base 9 1 (qf q.g b.log.length q.gc) b.log.length (At b.log)/\w.heap.size<=base/\base<=w'.heap.size/\(Fw q.o base/\Fw q.a base/\Fw q.c base/\Fw q.l base)/\(Df q.o w.heap.size/\Df q.a w.heap.size/\Df q.c w.heap.size/\Df q.l w.heap.size/\Df q.g w.heap.size)
 bel:BW w w'
theorem Uu (b:Bk) (p:Bp) (w:ql) (hx:Az w b p) (hn:Ld b) :
  qi 24 #[Fx b p] w (CpR w b):=by
 have HX:qj (∀ u,BW w u->Az u b p):=λu h=>hx.below h
 have HN:=Aa hn;clear hx hn;obtain ⟨td,f,az,cs,ls,A⟩:=b;obtain ⟨o,oc,a,ac,c,cc,l,lc,g,gc⟩:=p;unfold Fx
 simp only
 obtain ⟨u0,a5⟩:=A0 ((w.alloc (.cells #[qzI td,qf o f.length oc,qf a az.length ac,qf c cs.length cc,qf l ls.length lc,qf g A.length gc] 40)).alloc (.cells qzB 40))
 have d1:qj (BW w u0):=by rw [qj,a5];go_grown
 have d5:qj (w.heap.size+1+1<=u0.heap.size):=by rw [qj,a5];simp
 have h6:qj (Z6 w.heap.size (qzI td) (qf o f.length oc) (qf a az.length ac) (qf c cs.length cc) (qf l ls.length lc) (qf g A.length gc) u0):=by
  rw [qj,a5];exact (Z6.new w (qzI td) (qf o f.length oc) (qf a az.length ac) (qf c cs.length cc) (qf l ls.length lc) (qf g A.length gc) 40).below (bR.alloc nL _)
 have j0:qj (Z6 (w.heap.size+1) (qzI 0) qe qe qe qe qe u0):=by
  have h:=Z6.new (w.alloc (.cells #[qzI td,qf o f.length oc,qf a az.length ac,qf c cs.length cc,qf l ls.length lc,qf g A.length gc] 40)) (qzI 0) qe qe qe qe qe 40
  rw [qj,a5];simpa using h
 have j5:qj _:=a5;clear a5
 go_enter func24,ntmps24
 go_upto_region 1 with fail
 rw [<- j5.o];clear j5
 have n1:f.length<=1048576:=by have:=HN.o.1;simpa using this
 have x1:=(h6.o.below (bR.alloc nL (.cells #[] 3))).c1
 have i2:qj ((u0.alloc (.cells #[] 3)).ownsRow (w.heap.size+1+1) 3 1 (qf (some ⟨u0.heap.size,0,none⟩) 0 0) 0 []):=by
  have h:=World.ownsRow_lit (base:=w.heap.size+1+1) (e:=3) (size:=1) u0 #[] 0 d5.o (by unfold maxLen;omega) rfl
  rw [qj];simpa using h
 have h0:qj _:=(HX.o _ (d1.o.alloc d1.o.size (.cells #[] 3))).off
 simp only at h0
 have i6:qj (∀ C d,d.ownsRow (w.heap.size+1+1) 3 1 C (0+f.length) ([]++(f.map (Value.int .i64)))->(u0.alloc (.cells #[] 3)).grownBy d (some u0.heap.size)->∃ G J,C=qf G f.length J/\d.ownsRow (w.heap.size+1+1) 3 1 (qf G f.length J) f.length (f.map (Value.int .i64))/\Z6 w.heap.size (qzI td) (qf o f.length oc) (qf a az.length ac) (qf c cs.length cc) (qf l ls.length lc) (qf g A.length gc) d/\BW u0 d):=by
  intro C d s H;rw [qu,List.nil_append] at s;obtain ⟨G,J,hv⟩:=Jd s;subst hv;have y:=N1 rfl H;exact ⟨G,J,rfl,s,h6.o.below y,y⟩
 go_upto_region 2 with (at_builtin;refine Il _ rfl (.tmp 3) (.tmp 5) rfl (w.heap.size+1+1) _ 0 [] rfl i2.o o oc f rfl h0.o (by omega) (by have:=d5.o;simp;omega) ?_;intro C d s H;obtain ⟨O,k1,Z,r1,L,X⟩:=i6.o C d s H;subst Z;have y1:=L.c1;have f1:=L.z1;have d9:qj _:=r1;have g5:qj _:=L;have a3:qj _:=X;clear s H L X r1)
 clear i2 h0 i6 x1;obtain ⟨u1,Y⟩:=A0 (d.setCell ⟨w.heap.size,1,none⟩ (qf O f.length k1))
 have h7:qj (Z6 w.heap.size (qzI td) (qf O f.length k1) (qf a az.length ac) (qf c cs.length cc) (qf l ls.length lc) (qf g A.length gc) u1):=by rw [qj,Y];exact g5.o.set1 _
 have j1:qj (Z6 (w.heap.size+1) (qzI 0) qe qe qe qe qe u1):=by rw [qj,Y];exact (j0.o.below a3.o).far (by omega)
 have d2:qj (BW w u1):=by rw [qj,Y];exact (next d1.o a3.o).setCell nL _
 have d6:qj (w.heap.size+1+1<=u1.heap.size):=by rw [qj,Y];have:=a3.o.size;have:=d5.o;simp;omega
 have a7:qj (u1.ownsRow (w.heap.size+1+1) 3 1 (qf O f.length k1) f.length (f.map (Value.int .i64))):=by rw [qj,Y];exact Al (d9.o) (by omega)
 rw [<- Y];clear Y y1 f1 g5 d9 a3 h6 j0 d1 d5 n1
 have n2:az.length<=1048576:=by have:=HN.o.2.1;simpa using this
 have x2:=(h7.o.below (bR.alloc nL (.cells #[] 108))).c2
 have i3:qj ((u1.alloc (.cells #[] 108)).ownsRow (w.heap.size+1+1) 108 6 (qf (some ⟨u1.heap.size,0,none⟩) 0 0) 0 []):=by
  have h:=World.ownsRow_lit (base:=w.heap.size+1+1) (e:=108) (size:=6) u1 #[] 0 d6.o (by unfold maxLen;omega) rfl
  rw [qj];simpa using h
 have h1:qj _:=(HX.o _ (d2.o.alloc d2.o.size (.cells #[] 108))).az
 simp only at h1
 have i7:qj (∀ C d,d.ownsRow (w.heap.size+1+1) 108 6 C (0+az.length) ([]++(Ap az))->(u1.alloc (.cells #[] 108)).grownBy d (some u1.heap.size)->∃ G J,C=qf G az.length J/\d.ownsRow (w.heap.size+1+1) 108 6 (qf G az.length J) az.length (Ap az)/\Z6 w.heap.size (qzI td) (qf O f.length k1) (qf a az.length ac) (qf c cs.length cc) (qf l ls.length lc) (qf g A.length gc) d/\BW u1 d):=by
  intro C d s H;rw [qu,List.nil_append] at s;obtain ⟨G,J,hv⟩:=Jd s;subst hv;have y:=N1 rfl H;exact ⟨G,J,rfl,s,h7.o.below y,y⟩
 go_upto_region 3 with (at_builtin;refine Cn _ rfl (.tmp 8) (.tmp 10) rfl (w.heap.size+1+1) _ 0 [] rfl i3.o a ac az rfl h1.o (by omega) (by have:=d6.o;simp;omega) ?_;intro C d s H _;obtain ⟨y,k2,Z,r2,L,X⟩:=i7.o C d s H;subst Z;have y2:=L.c2;have f2:=L.z2;have g0:qj _:=r2;have g6:qj _:=L;have M:qj _:=X;clear s H L X r2)
 clear i3 h1 i7 x2;obtain ⟨u2,N⟩:=A0 (d.setCell ⟨w.heap.size,2,none⟩ (qf y az.length k2))
 have h8:qj (Z6 w.heap.size (qzI td) (qf O f.length k1) (qf y az.length k2) (qf c cs.length cc) (qf l ls.length lc) (qf g A.length gc) u2):=by rw [qj,N];exact g6.o.set2 _
 have j2:qj (Z6 (w.heap.size+1) (qzI 0) qe qe qe qe qe u2):=by rw [qj,N];exact (j1.o.below M.o).far (by omega)
 have d3:qj (BW w u2):=by rw [qj,N];exact (next d2.o M.o).setCell nL _
 have d7:qj (w.heap.size+1+1<=u2.heap.size):=by rw [qj,N];have:=M.o.size;have:=d6.o;simp;omega
 have a8:qj (u2.ownsRow (w.heap.size+1+1) 3 1 (qf O f.length k1) f.length (f.map (Value.int .i64))):=by rw [qj,N];exact Al (A5 a7.o M.o) (by omega)
 have b7:qj (u2.ownsRow (w.heap.size+1+1) 108 6 (qf y az.length k2) az.length (Ap az)):=by rw [qj,N];exact Al (g0.o) (by omega)
 rw [<- N];clear N y2 f2 g6 g0 M h7 j1 d2 d6 n2 a7
 have n3:cs.length<=1048576:=by have:=HN.o.2.2.1;simpa using this
 have x3:=(h8.o.below (bR.alloc nL (.cells #[] 111))).c3
 have i4:qj ((u2.alloc (.cells #[] 111)).ownsRow (w.heap.size+1+1) 111 12 (qf (some ⟨u2.heap.size,0,none⟩) 0 0) 0 []):=by
  have h:=World.ownsRow_lit (base:=w.heap.size+1+1) (e:=111) (size:=12) u2 #[] 0 d7.o (by unfold maxLen;omega) rfl
  rw [qj];simpa using h
 have h2:qj _:=(HX.o _ (d3.o.alloc d3.o.size (.cells #[] 111))).cs
 simp only at h2
 have i8:qj (∀ C d,d.ownsRow (w.heap.size+1+1) 111 12 C (0+cs.length) ([]++(Am cs))->(u2.alloc (.cells #[] 111)).grownBy d (some u2.heap.size)->∃ G J,C=qf G cs.length J/\d.ownsRow (w.heap.size+1+1) 111 12 (qf G cs.length J) cs.length (Am cs)/\Z6 w.heap.size (qzI td) (qf O f.length k1) (qf y az.length k2) (qf c cs.length cc) (qf l ls.length lc) (qf g A.length gc) d/\BW u2 d):=by
  intro C d s H;rw [qu,List.nil_append] at s;obtain ⟨G,J,hv⟩:=Jd s;subst hv;have y:=N1 rfl H;exact ⟨G,J,rfl,s,h8.o.below y,y⟩
 go_upto_region 4 with (at_builtin;refine F5 _ rfl (.tmp 13) (.tmp 15) rfl (w.heap.size+1+1) _ 0 [] rfl i4.o c cc cs rfl h2.o (by omega) (by have:=d7.o;simp;omega) ?_;intro C d s H _;obtain ⟨b3,k3,Z,r3,L,X⟩:=i8.o C d s H;subst Z;have y3:=L.c3;have f3:=L.z3;have g1:qj _:=r3;have g7:qj _:=L;have F:qj _:=X;clear s H L X r3)
 clear i4 h2 i8 x3;obtain ⟨u3,I⟩:=A0 (d.setCell ⟨w.heap.size,3,none⟩ (qf b3 cs.length k3))
 have d8:qj (Z6 w.heap.size (qzI td) (qf O f.length k1) (qf y az.length k2) (qf b3 cs.length k3) (qf l ls.length lc) (qf g A.length gc) u3):=by rw [qj,I];exact g7.o.set3 _
 have j3:qj (Z6 (w.heap.size+1) (qzI 0) qe qe qe qe qe u3):=by rw [qj,I];exact (j2.o.below F.o).far (by omega)
 have g9:qj (BW w u3):=by rw [qj,I];exact (next d3.o F.o).setCell nL _
 have h4:qj (w.heap.size+1+1<=u3.heap.size):=by rw [qj,I];have:=F.o.size;have:=d7.o;simp;omega
 have b0:qj (u3.ownsRow (w.heap.size+1+1) 3 1 (qf O f.length k1) f.length (f.map (Value.int .i64))):=by rw [qj,I];exact Al (A5 a8.o F.o) (by omega)
 have b8:qj (u3.ownsRow (w.heap.size+1+1) 108 6 (qf y az.length k2) az.length (Ap az)):=by rw [qj,I];exact Al (A5 b7.o F.o) (by omega)
 have c8:qj (u3.ownsRow (w.heap.size+1+1) 111 12 (qf b3 cs.length k3) cs.length (Am cs)):=by rw [qj,I];exact Al (g1.o) (by omega)
 rw [<- I];clear I y3 f3 g7 g1 F h8 j2 d3 d7 n3 a8 b7
 have n4:ls.length<=1048576:=by have:=HN.o.2.2.2.1;simpa using this
 have x4:=d8.o.c4;have k6:=d8.o.z4;go_wp2_with fail
 refine (Jk _ _ ls _ (HX.o _ g9.o).ls (by omega)).m ?_
 rintro e d ⟨b4,k4,rfl,o4,X⟩;have g3:=Aa (Bz o4 h4.o);have a4:=Aa (d8.o.below X);have B:qj _:=X;have y4:=a4.o.c4;have f4:=a4.o.z4;clear X o4 x4 k6;go_upto_region 5 with fail
 obtain ⟨R,D⟩:=A0 (d.setCell ⟨w.heap.size,4,none⟩ (qf b4 ls.length k4))
 have h9:qj (Z6 w.heap.size (qzI td) (qf O f.length k1) (qf y az.length k2) (qf b3 cs.length k3) (qf b4 ls.length k4) (qf g A.length gc) R):=by rw [qj,D];exact a4.o.set4 _
 have j4:qj (Z6 (w.heap.size+1) (qzI 0) qe qe qe qe qe R):=by rw [qj,D];exact (j3.o.below B.o).far (by omega)
 have d4:qj (BW w R):=by rw [qj,D];exact (next g9.o B.o).setCell nL _
 have h5:qj (w.heap.size+1+1<=R.heap.size):=by rw [qj,D];have:=B.o.size;have:=h4.o;simp;omega
 have S:qj (R.ownsRow (w.heap.size+1+1) 3 1 (qf O f.length k1) f.length (f.map (Value.int .i64))):=by rw [qj,D];exact Al (A5 b0.o B.o) (by omega)
 have T:qj (R.ownsRow (w.heap.size+1+1) 108 6 (qf y az.length k2) az.length (Ap az)):=by rw [qj,D];exact Al (A5 b8.o B.o) (by omega)
 have U:qj (R.ownsRow (w.heap.size+1+1) 111 12 (qf b3 cs.length k3) cs.length (Am cs)):=by rw [qj,D];exact Al (A5 c8.o B.o) (by omega)
 have V:qj (R.ownsRow (w.heap.size+1+1) 151 3 (qf b4 ls.length k4) ls.length (Ak ls)):=by rw [qj,D];exact Al (g3.o) (by omega)
 rw [<- D];clear D y4 f4 a4 g3 B d8 j3 g9 h4 n4 b0 b8 c8
 have n5:A.length<=1048576:=by have:=HN.o.2.2.2.2;simpa using this
 have x5:=(h9.o.below (bR.alloc nL (.cells #[] 9))).c5;obtain ⟨j,i0⟩:=A0 R.heap.size
 have a6:qj (w.heap.size+1+1<=j/\j<=R.heap.size):=by rw [qj,i0];exact ⟨h5.o,nL⟩
 have j6:qj (Fw O j/\Fw y j/\Fw b3 j/\Fw b4 j):=by
  rw [qj,i0];exact ⟨Jh S.o nL,Jh T.o nL,Jh U.o nL,Jh V.o nL⟩
 clear i0
 have i5:qj ((R.alloc (.cells #[] 9)).ownsRow j 9 1 (qf (some ⟨R.heap.size,0,none⟩) 0 0) 0 []):=by
  have h:=World.ownsRow_lit (base:=j) (e:=9) (size:=1) R #[] 0 a6.o.2 (by unfold maxLen;omega) rfl
  rw [qj];simpa using h
 have h3:qj _:=(HX.o _ (d4.o.alloc d4.o.size (.cells #[] 9))).log
 simp only at h3
 have i9:qj (∀ C d,d.ownsRow j 9 1 C (0+A.length) ([]++(At A))->(R.alloc (.cells #[] 9)).grownBy d (some R.heap.size)->∃ G J,C=qf G A.length J/\d.ownsRow j 9 1 (qf G A.length J) A.length (At A)/\Z6 w.heap.size (qzI td) (qf O f.length k1) (qf y az.length k2) (qf b3 cs.length k3) (qf b4 ls.length k4) (qf g A.length gc) d/\BW R d):=by
  intro C d s H;rw [qu,List.nil_append] at s;obtain ⟨G,J,hv⟩:=Jd s;subst hv;have y:=N1 rfl H;exact ⟨G,J,rfl,s,h9.o.below y,y⟩
 go_upto_region 6 with (at_builtin;refine Oc _ rfl (.tmp 22) (.tmp 24) rfl j _ 0 [] rfl i5.o g gc A rfl h3.o (by omega) (by have:=a6.o;simp;omega) ?_;intro C d s H;obtain ⟨b5,k5,Z,r5,L,X⟩:=i9.o C d s H;subst Z;have y5:=L.c5;have f5:=L.z5;have g4:qj _:=r5;have g8:qj _:=L;have r:qj _:=X;clear s H L X r5)
 clear i5 h3 i9 x5;obtain ⟨u5,z⟩:=A0 (d.setCell ⟨w.heap.size,5,none⟩ (qf b5 A.length k5))
 have k0:qj (Z6 w.heap.size (qzI td) (qf O f.length k1) (qf y az.length k2) (qf b3 cs.length k3) (qf b4 ls.length k4) (qf b5 A.length k5) u5):=by rw [qj,z];exact g8.o.set5 _
 have j9:qj (Z6 (w.heap.size+1) (qzI 0) qe qe qe qe qe u5):=by rw [qj,z];exact (j4.o.below r.o).far (by omega)
 have i1:qj (j<=u5.heap.size):=by rw [qj,z];have:=r.o.size;have:=a6.o;simp;omega
 have j7:qj (BW w u5):=by rw [qj,z];exact (next d4.o r.o).setCell nL _
 have k7:qj (w.heap.size+1+1<=u5.heap.size):=by rw [qj,z];have:=r.o.size;have:=h5.o;simp;omega
 have b6:qj (u5.ownsRow (w.heap.size+1+1) 3 1 (qf O f.length k1) f.length (f.map (Value.int .i64))):=by rw [qj,z];exact Al (A5 S.o r.o) (by omega)
 have b9:qj (u5.ownsRow (w.heap.size+1+1) 108 6 (qf y az.length k2) az.length (Ap az)):=by rw [qj,z];exact Al (A5 T.o r.o) (by omega)
 have c9:qj (u5.ownsRow (w.heap.size+1+1) 111 12 (qf b3 cs.length k3) cs.length (Am cs)):=by rw [qj,z];exact Al (A5 U.o r.o) (by omega)
 have d0:qj (u5.ownsRow (w.heap.size+1+1) 151 3 (qf b4 ls.length k4) ls.length (Ak ls)):=by rw [qj,z];exact Al (A5 V.o r.o) (by omega)
 have W:qj (u5.ownsRow j 9 1 (qf b5 A.length k5) A.length (At A)):=by rw [qj,z];exact Al (g4.o) (by have:=a6.o;omega)
 rw [<- z];clear z y5 f5 g8 g4 r h9 j4 d4 h5 n5 S T U V;have j8:=Aa i1.o;obtain ⟨t0,t1,t2,t3,t4,t5,-,-,-,-,-,-⟩:=k0.o;obtain ⟨q0,q1,q2,q3,q4,q5,p0,p1,p2,p3,p4,p5⟩:=j9.o;go_wp2
 refine bodyPost_ret (by simp [results,results24,go_sem,q0,q1,q2,q3,q4,q5];try rfl) rfl ?_
 have bel:∀ (i:Nat) (x:Value) (u:ql),BW w u->Below w.heap.size w (u.setCell ⟨w.heap.size+1,i,none⟩ x):=λi x u h=>h.setCell (show w.heap.size<=w.heap.size+1 by omega) x
 have k8:=a6.o
 refine ⟨⟨⟨O,k1,y,k2,b3,k3,b4,k4,b5,k5⟩,j,rfl,⟨Nq (Al (Al (Al (Al (Al (Al (b6.o) (by omega)) (by omega)) (by omega)) (by omega)) (by omega)) (by omega)),Hu (Al (Al (Al (Al (Al (Al (b9.o) (by omega)) (by omega)) (by omega)) (by omega)) (by omega)) (by omega)),Hz (Al (Al (Al (Al (Al (Al (c9.o) (by omega)) (by omega)) (by omega)) (by omega)) (by omega)) (by omega)),Eb (Al (Al (Al (Al (Al (Al (d0.o) (by omega)) (by omega)) (by omega)) (by omega)) (by omega)) (by omega)),G5 (Al (Al (Al (Al (Al (Al (W.o) (by omega)) (by omega)) (by omega)) (by omega)) (by omega)) (by omega))⟩,(Al (Al (Al (Al (Al (Al (W.o) (by omega)) (by omega)) (by omega)) (by omega)) (by omega)) (by omega)),by omega,by simpa using j8.o,j6.o,⟨D9 (Bz b6.o (show w.heap.size<=_ by omega)),D9 (Bz b9.o (show w.heap.size<=_ by omega)),D9 (Bz c9.o (show w.heap.size<=_ by omega)),D9 (Bz d0.o (show w.heap.size<=_ by omega)),D9 (Bz W.o (show w.heap.size<=_ by omega))⟩⟩,bel _ _ _ (bel _ _ _ (bel _ _ _ (bel _ _ _ (bel _ _ _ (bel _ _ _ j7.o)))))⟩
def Ir (a:qm) (B:Nat):Prop:=∀ x,a=some x->x.block≠B
theorem An (u:ql) (B i:Nat) (x:Value):u.grownBy (u.setCell (qzA B i) x) (some B):=⟨rfl,rfl,rfl,by simp,λj _ hj=>Below.heap_setCell _ _ _ _ (λe=>hj (by rw [e]))⟩
theorem Rt {b off:Nat} {a:qm} {row:Option Nat} (M:a=some (qzA b off)) (h:∀ B,row=some B->Ir a B):some b≠row:=λe=>h b e.s _ M rfl
theorem Bg.far {u v:ql} {a:qm} {zs:List Int} {row:Option Nat} (h:Bg u a zs) (g:u.grownBy v row) (d:∀ B,row=some B->Ir a B):Bg v a zs:=by
 rcases h with h|⟨b,off,k,f,r⟩
 ·exact .inl h
 ·exact .inr ⟨b,off,k,jd f g.size,λi hi=>(g.cell_far (qzA b (off+i)) f (Rt k d)).t (r i hi)⟩
theorem Bw.far {u v:ql} {a:qm} {rs:Bn} {row:Option Nat} (h:Bw u a rs) (g:u.grownBy v row) (d:∀ B,row=some B->Ir a B):Bw v a rs:=by
 rcases h with h|⟨b,off,k,f,r⟩
 ·exact .inl h
 ·exact .inr ⟨b,off,k,jd f g.size,λi hi=>(g.cell_far (qzA b (off+i)) f (Rt k d)).t (r i hi)⟩
theorem Ba.far {u v:ql} {a:qm} {az:List Au} {row:Option Nat} (h:Ba u a az) (g:u.grownBy v row) (d:∀ B,row=some B->Ir a B):Ba v a az:=by
 rcases h with h|⟨b,off,k,f,r⟩
 ·exact .inl h
 ·have hs:=Rt k d
  exact .inr ⟨b,off,k,jd f g.size,λi hi=>⟨(g.cell_far (qzA b (off+i*6)) f hs).t (r i hi).1,(g.cell_far (qzA b (off+i*6+1)) f hs).t (r i hi).2.1,(g.cell_far (qzA b (off+i*6+2)) f hs).t (r i hi).2.2.1,(g.cell_far (qzA b (off+i*6+3)) f hs).t (r i hi).2.2.2.1,(g.cell_far (qzA b (off+i*6+4)) f hs).t (r i hi).2.2.2.2.1,(g.cell_far (qzA b (off+i*6+5)) f hs).t (r i hi).2.2.2.2.2⟩⟩
theorem Cf.far {u v:ql} {a:qm} {cs:List Cs} {row:Option Nat} (h:Cf u a cs) (g:u.grownBy v row) (d:∀ B,row=some B->Ir a B):Cf v a cs:=by
 rcases h with h|⟨b,off,k,f,r⟩
 ·exact .inl h
 ·exact .inr ⟨b,off,k,jd f g.size,λi hi=>(r i hi).grown g (Rt k d)⟩
theorem Ar.far {u v:ql} {a:qm} {ls:List Ln} {row:Option Nat} (h:Ar u a ls) (g:u.grownBy v row) (d:∀ B,row=some B->Ir a B):Ar v a ls:=by
 rcases h with h|⟨b,off,k,f,r⟩
 ·exact .inl h
 ·have hs:=Rt k d
  exact .inr ⟨b,off,k,jd f g.size,λi hi=>⟨(g.cell_far (qzA b (off+i*3)) f hs).t (r i hi).1,(g.cell_far (qzA b (off+i*3+1)) f hs).t (r i hi).2.1,(g.cell_far (qzA b (off+i*3+2)) f hs).t (r i hi).2.2⟩⟩
structure iD (q:Bp) (B:Nat):Prop where
 o:Ir q.o B
 a:Ir q.a B
 c:Ir q.c B
 l:Ir q.l B
 g:Ir q.g B
theorem Az.set {u:ql} {b:Bk} {q:Bp} {B i:Nat} {x:Value} (h:Az u b q) (n:iD q B):Az (u.setCell (qzA B i) x) b q :=
 ⟨h.off.far (An u B i x) (λB' e=>by cases e;exact n.o),h.az.far (An u B i x) (λB' e=>by cases e;exact n.a),h.cs.far (An u B i x) (λB' e=>by cases e;exact n.c),h.ls.far (An u B i x) (λB' e=>by cases e;exact n.l),h.log.far (An u B i x) (λB' e=>by cases e;exact n.g)⟩
theorem Az.put6 {u:ql} {b:Bk} {q:Bp} {B:Nat} (h:Az u b q) (n:iD q B) (w y z A C D:Value) :
  Az ((((((u.setCell (qzA B 0) w).setCell (qzA B 1) y).setCell (qzA B 2) z).setCell (qzA B 3) A).setCell (qzA B 4) C).setCell (qzA B 5) D) b q :=
 (((((h.set n).set n).set n).set n).set n).set n
theorem Bb {a:qm} {n B:Nat} (h:Df a n) (hB:B<n):Ir a B:=λx hx e=>by have:=h x hx;omega
theorem Z1 {a:qm} {n B:Nat} (h:Fw a n) (hB:n<=B):Ir a B:=λx hx e=>by have:=h x hx;omega
structure rO (p:Bp) (n:Nat):Prop where
 o:Fw p.o n
 a:Fw p.a n
 c:Fw p.c n
 l:Fw p.l n
 g:Fw p.g n
theorem Fw.m {a:qm} {n m:Nat} (h:Fw a n) (hm:n<=m):Fw a m:=λx hx=>by have:=h x hx;omega
theorem Oo {a a1:qm} {n m B:Nat} (h:a=a1\/Df a m) (k:Fw a1 n) (hb:n<=B) (hB:B<m):Ir a B:=by
 rcases h with rfl|h
 ·exact Z1 k hb
 ·exact Bb h hB
theorem Ads {p q:Bp} {n m B:Nat} (h:rO p n) (N:q.g=p.g) (hp:q.o=p.o/\(q.a=p.a\/Df q.a m)/\(q.c=p.c\/Df q.c m)/\(q.l=p.l\/Df q.l m)) (hb:n<=B) (hB:B<m):iD q B :=
 ⟨Oo (m:=m) (.inl hp.1) h.o hb hB,Oo hp.2.1 h.a hb hB,Oo hp.2.2.1 h.c hb hB,Oo hp.2.2.2 h.l hb hB,Oo (m:=m) (.inl N) h.g hb hB⟩
theorem Z6.put6 {B:Nat} {F G H I J L:Value} {u:ql} (h:Z6 B F G H I J L u) (w y z A C D:Value) :
  Z6 B w y z A C D ((((((u.setCell (qzA B 0) w).setCell (qzA B 1) y).setCell (qzA B 2) z).setCell (qzA B 3) A).setCell (qzA B 4) C).setCell (qzA B 5) D) :=
 (((((h.set0 w).set1 y).set2 z).set3 A).set4 C).set5 D
theorem Z6.far6 {B B':Nat} {F G H I J L:Value} {u:ql} (h:Z6 B F G H I J L u) (d:B'≠B) (w y z A C D:Value) :
  Z6 B F G H I J L ((((((u.setCell (qzA B' 0) w).setCell (qzA B' 1) y).setCell (qzA B' 2) z).setCell (qzA B' 3) A).setCell (qzA B' 4) C).setCell (qzA B' 5) D) :=
 (((((h.far d).far d).far d).far d).far d).far d
structure Ii where
 prune:List Au->Int->List Au
 use:List Au->Int->List Au
 useOk:List Au->Int->Bool
 add:List Au->Au->List Au
 addOk:List Au->Au->Bool
 best:List Au->Int->Int->Int->Int->Int->Prop
 stC:Int->Int->Int->Int->Int->Cs
 stE:Int->Int->Int->Int->Int->List En
 stOk:Int->Int->Int->Int->Int->Bool
 doC:Cs->Ac->Int->List Int->Cs
 doE:Cs->Ac->Int->List Int->List En
 doV:Cs->Ac->Int->List Int->Int
 all:List Ln->List En->List Ln
 allOk:List Ln->List En->Bool
structure Vw (F:Ii):Prop where
 use:∀ (ao:qm) (cap:Nat) (az:List Au) (i:Int) (w:ql),Ba w ao az->az.length<=1048576->qi 123 #[qf ao az.length cap,qzI i] w (Wv w (F.use az i) (F.useOk az i))
 add:∀ (ao:qm) (cap:Nat) (az:List Au) (a:Au) (w:ql),Ba w ao az->az.length<=1048576->a.ref.length<=1048576->qi 97 #[qf ao az.length cap,Ha a] w (Wv w (F.add az a) (F.addOk az a))
 best:∀ (ao:qm) (cap:Nat) (az:List Au) (iz cw am day:Int) (w:ql),Ba w ao az->az.length<=1048576->(∀ a ∈ az,a.ref.length<=1048576)->(Lit.int .i64 am).wf=true->(Lit.int .i64 day).wf=true ->
  qi 120 #[qf ao az.length cap,qzI iz,qzI cw,qzI am,qzI day] w λe w'=>∃ x,e=.returned (qzI x)/\F.best az iz cw am day x/\BW w w'
 start:∀ (iz ay cw am day:Int) (w:ql),qi 121 #[qzI iz,qzI ay,qzI cw,qzI am,qzI day] w λe w'=>∃ ao cap,e=.returned (.tuple #[cv (F.stC iz ay cw am day),qf ao (F.stE iz ay cw am day).length cap,.bool (F.stOk iz ay cw am day)])/\w'.ownsRow w.heap.size 217 4 (qf ao (F.stE iz ay cw am day).length cap) (F.stE iz ay cw am day).length (B9 (F.stE iz ay cw am day))/\BW w w'
 small:∀ iz ay cw am day,(F.stE iz ay cw am day).length<=1048576
 act:∀ (c:Cs) (a:Ac) (t:Int) (ao:qm) (cp:Nat) (zs:List Int) (w:ql),Bg w ao zs->zs.length<=1048576->qi 125 #[cv c,av a,qzI t,qf ao zs.length cp] w λe w'=>∃ ao cap,e=.returned (.tuple #[cv (F.doC c a t zs),qf ao (F.doE c a t zs).length cap,qzI (F.doV c a t zs)])/\w'.ownsRow w.heap.size 217 4 (qf ao (F.doE c a t zs).length cap) (F.doE c a t zs).length (B9 (F.doE c a t zs))/\BW w w'
 few:∀ c a t zs,(F.doE c a t zs).length<=1048576
 code:∀ c a t zs,0<=F.doV c a t zs/\F.doV c a t zs<=1000
 post:∀ (ao:qm) (cap:Nat) (ls:List Ln) (eo:qm) (ec:Nat) (es:List En) (w:ql),Ar w ao ls->ls.length<=1048576->Fg w eo es->es.length<=1048576 ->
  qi 122 #[.agg #[qf ao ls.length cap],qf eo es.length ec] w λe w'=>∃ ao cap,e=.returned (.tuple #[.agg #[qf ao (F.all ls es).length cap],.bool (F.allOk ls es)])/\w'.ownsRow w.heap.size 151 3 (qf ao (F.all ls es).length cap) (F.all ls es).length (Ak (F.all ls es))/\BW w w'
def BdR (w:ql) (p:Bp) (A:Bk) (code:Int) (e:Ending) (w':ql):Prop :=
 ∃ q,e=.returned (.tuple #[Fx A q,qzI code])/\Az w' A q/\q.g=p.g/\q.gc=p.gc/\(q.o=p.o/\(q.a=p.a\/Df q.a w.heap.size)/\(q.c=p.c\/Df q.c w.heap.size)/\(q.l=p.l\/Df q.l w.heap.size))/\BW w w'
theorem Bj {w u:ql} {R:Nat} (hR:w.heap.size<=R) (h:BW w u) (j k r s y z:Value) :
  Below w.heap.size w ((((((u.setCell (qzA R 0) j).setCell (qzA R 1) k).setCell (qzA R 2) r).setCell (qzA R 3) s).setCell (qzA R 4) y).setCell (qzA R 5) z) :=
 (((((h.setCell (p:=(qzA R 0)) hR _).setCell (p:=(qzA R 1)) hR _).setCell (p:=(qzA R 2)) hR _).setCell (p:=(qzA R 3)) hR _).setCell (p:=(qzA R 4)) hR _).setCell (p:=(qzA R 5)) hR _
theorem Es {u:ql} {base n size R:Nat} {t:TypeId} {v:Value} {b:List Value} (o:u.ownsRow base t size v n b) (hB:R<base) (j k r s y z:Value) :
  ((((((u.setCell (qzA R 0) j).setCell (qzA R 1) k).setCell (qzA R 2) r).setCell (qzA R 3) s).setCell (qzA R 4) y).setCell (qzA R 5) z).ownsRow base t size v n b :=
 Al (Al (Al (Al (Al (Al o hB) hB) hB) hB) hB) hB
theorem Tf {u:ql} {base n size X:Nat} {t:TypeId} {v:Value} {b:List Value} (c:Cs) (o:u.ownsRow base t size v n b) (hB:X<base):(Dl u X c).ownsRow base t size v n b :=
 Al (Al (Al (Al (Al (Al (Al (Al (Al (Al (Al (Al o hB) hB) hB) hB) hB) hB) hB) hB) hB) hB) hB) hB
theorem V5 {u d:ql} {t:TypeId} (f:Below (u.alloc (.cells #[qzI 0,qzI 0,qzI 0,qzI 0,qzI 0,qzI 0,qzI 0,qzI 0,qzI 0,.bool false,qzI 0,qzI 0] t)).drew.heap.size (u.alloc (.cells #[qzI 0,qzI 0,qzI 0,qzI 0,qzI 0,qzI 0,qzI 0,qzI 0,qzI 0,.bool false,qzI 0,qzI 0] t)).drew d) :
  CB u.heap.size 0 ⟨0,0,0,0,0,0,0,0,0,false,0,0⟩ d/\FZ u.heap.size 0 d/\Below (u.heap.size+1) (u.alloc (.cells #[qzI 0,qzI 0,qzI 0,qzI 0,qzI 0,qzI 0,qzI 0,qzI 0,qzI 0,.bool false,qzI 0,qzI 0] t)) d:=by
 have B:=(CB.new u ⟨0,0,0,0,0,0,0,0,0,false,0,0⟩ t).below (bR.drew)
 have C:=(FZ.new u #[qzI 0,qzI 0,qzI 0,qzI 0,qzI 0,qzI 0,qzI 0,qzI 0,qzI 0,.bool false,qzI 0,qzI 0] t).below (by simp) (bR.drew)
 refine ⟨B.below f,C.below (by simp) f,?_⟩
 exact ((Below.refl (u.heap.size+1) _).drew).t (f.m (by simp))
def Xu (F:Ii) (b:Bk) (n:Int):Bk×Int:=if Fh n=true/\b.today<n then (⟨n,b.off,F.prune b.az n,b.cs,b.ls,b.log⟩,0) else (b,4)
def Kq (u:ql) (g k:Nat) (D:Cs):ql:=((((((((((((u.setCell (qzA g (k*12)) (qzI D.iss)).setCell (qzA g (k*12+1)) (qzI D.acq)).setCell (qzA g (k*12+2)) (qzI D.cur)).setCell (qzA g (k*12+3)) (qzI D.am)).setCell (qzA g (k*12+4)) (qzI D.st)).setCell (qzA g (k*12+5)) (qzI D.rsn)).setCell (qzA g (k*12+6)) (qzI D.cl)).setCell (qzA g (k*12+7)) (qzI D.bk)).setCell (qzA g (k*12+8)) (qzI D.fee)).setCell (qzA g (k*12+9)) (.bool D.cop)).setCell (qzA g (k*12+10)) (qzI D.sta)).setCell (qzA g (k*12+11)) (qzI D.due))
theorem Ug {w u:ql} {g n:Nat} (k:Nat) (D:Cs) (b:Below n w u) (hn:n<=g):Below n w (Kq u g k D) :=
 (((((((((((b.setCell hn _).setCell hn _).setCell hn _).setCell hn _).setCell hn _).setCell hn _).setCell hn _).setCell hn _).setCell hn _).setCell hn _).setCell hn _).setCell hn _
theorem Sz {u:ql} {base g cap:Nat} {t:TypeId} {cs:List Cs} {k:Nat} (D:Cs) (hk:k<cs.length) (ho:u.ownsRow base t 12 (qf (some (qzA g 0)) cs.length cap) cs.length (Am cs)) :
  (Kq u g k D).ownsRow base t 12 (qf (some (qzA g 0)) cs.length cap) cs.length (Am (cs.set k D)):=by
 have R:=((((((((((((ho.stored (k*12) (qzI D.iss)).1.stored (k*12+1) (qzI D.acq)).1.stored (k*12+2) (qzI D.cur)).1.stored (k*12+3) (qzI D.am)).1.stored (k*12+4) (qzI D.st)).1.stored (k*12+5) (qzI D.rsn)).1.stored (k*12+6) (qzI D.cl)).1.stored (k*12+7) (qzI D.bk)).1.stored (k*12+8) (qzI D.fee)).1.stored (k*12+9) (.bool D.cop)).1.stored (k*12+10) (qzI D.sta)).1.stored (k*12+11) (qzI D.due)).1;rw [T6 cs D k hk] at R;exact R
theorem gS {u I:ql} {a:qm} {ls:List Ln} {B:Nat} (h:Ar u a ls) (M:Fw a B) (hb:Below B u I):Ar I a ls:=by
 rcases h with h|⟨b,off,rfl,y,z⟩
 ·exact .inl h
 ·have G:b<B:=M _ rfl
  exact .inr ⟨b,off,rfl,jd y hb.size,λi hi=>by
   obtain ⟨c1,c2,c3⟩:=z i hi;exact ⟨(hb.c b _ G).t c1,(hb.c b _ G).t c2,(hb.c b _ G).t c3⟩⟩
theorem Lg {u:ql} {base n cap sz:Nat} {t:TypeId} {a:qm} {f:List Value} (h:u.ownsRow base t sz (qf a n cap) n f) (hn:0<n):∃ g,a=some (qzA g 0)/\base<=g/\g<u.heap.size:=by
 rcases h.2 with ⟨_,W⟩|⟨g,c,J,j,H⟩
 ·omega
 ·obtain ⟨rfl,rfl⟩:a=some (qzA g 0)/\cap=c:=by simpa using j
  exact ⟨g,rfl,(h.lt g rfl).1,(h.lt g rfl).2⟩
theorem Yl {u:ql} {a:qm} {ls:List Ln} {R:Nat} (h:Ar u a ls) (n:Ir a R) (N O S T U V:Value) :
  Ar ((((((u.setCell (qzA R 0) N).setCell (qzA R 1) O).setCell (qzA R 2) S).setCell (qzA R 3) T).setCell (qzA R 4) U).setCell (qzA R 5) V) a ls:=by
 have s:∀ (v:ql) (i:Nat) (x:Value),Ar v a ls->Ar (v.setCell (qzA R i) x) a ls:=λv i x j=>j.far (An _ _ _ _) (λQ hQ=>by cases hQ;exact n)
 exact s _ _ _ (s _ _ _ (s _ _ _ (s _ _ _ (s _ _ _ (s _ _ _ h)))))
theorem Aid {D:Cs} : cv D=.agg #[qzI D.iss,qzI D.acq,qzI D.cur,qzI D.am,qzI D.st,qzI D.rsn,qzI D.cl,qzI D.bk,qzI D.fee,.bool D.cop,qzI D.sta,qzI D.due]:=rfl
def Mc (F:Ii) (b:Bk) (i:Int) (x:Ac):Bk×Int :=
 if ¬ (0<=i/\i<=(b.cs.length:Int) - 1) then (b,5)
 else if F.doV (Bm b.cs i.toNat) x b.today b.off≠0 then (b,10+F.doV (Bm b.cs i.toNat) x b.today b.off)
 else if F.allOk b.ls (F.doE (Bm b.cs i.toNat) x b.today b.off)=false then (b,6)
 else (⟨b.today,b.off,b.az,b.cs.set i.toNat (F.doC (Bm b.cs i.toNat) x b.today b.off),F.all b.ls (F.doE (Bm b.cs i.toNat) x b.today b.off),b.log⟩,0)
theorem rC (F:Ii) {b:Bk} {i:Int} (x:Ac) (h:¬ (0<=i/\i<=(b.cs.length:Int) - 1)):Mc F b i x=(b,5):=if_pos h
theorem rM (F:Ii) {b:Bk} {i:Int} {x:Ac} (h:0<=i/\i<=(b.cs.length:Int) - 1) (g:F.doV (Bm b.cs i.toNat) x b.today b.off≠0):Mc F b i x=(b,10+F.doV (Bm b.cs i.toNat) x b.today b.off):=by
 rw [Mc,if_neg (λe=>e h),if_pos g]
theorem rU (F:Ii) {b:Bk} {i:Int} {x:Ac} (h:0<=i/\i<=(b.cs.length:Int) - 1) (g:F.doV (Bm b.cs i.toNat) x b.today b.off=0) (k:F.allOk b.ls (F.doE (Bm b.cs i.toNat) x b.today b.off)=false):Mc F b i x=(b,6):=by
 rw [Mc,if_neg (λe=>e h),if_neg (λe=>e g),if_pos k]
theorem qK (F:Ii) {b:Bk} {i:Int} {x:Ac} (h:0<=i/\i<=(b.cs.length:Int) - 1) (g:F.doV (Bm b.cs i.toNat) x b.today b.off=0) (k:F.allOk b.ls (F.doE (Bm b.cs i.toNat) x b.today b.off)=true) :
  Mc F b i x=(⟨b.today,b.off,b.az,b.cs.set i.toNat (F.doC (Bm b.cs i.toNat) x b.today b.off),F.all b.ls (F.doE (Bm b.cs i.toNat) x b.today b.off),b.log⟩,0):=by
 rw [Mc,if_neg (λe=>e h),if_neg (λe=>e g),if_neg (by rw [k];decide)]
def Lx (F:Ii) (b:Bk) (n0 n1 n2 n3 x:Int):Bk×Int :=
 if x<0 then (b,3)
 else if 150<=b.cs.length then (b,2)
 else if F.stOk n0 n1 n2 n3 b.today=false then (b,5)
 else if F.allOk b.ls (F.stE n0 n1 n2 n3 b.today)=false then (b,6)
 else (⟨b.today,b.off,F.use b.az x,b.cs++[F.stC n0 n1 n2 n3 b.today],F.all b.ls (F.stE n0 n1 n2 n3 b.today),b.log⟩,0)
theorem rE (F:Ii) {b:Bk} {n0 n1 n2 n3 x:Int} (h:x<0):Lx F b n0 n1 n2 n3 x=(b,3):=if_pos h
theorem qW (F:Ii) {b:Bk} {n0 n1 n2 n3 x:Int} (h:¬ x<0) (g:150<=b.cs.length):Lx F b n0 n1 n2 n3 x=(b,2):=by rw [Lx,if_neg h,if_pos g]
theorem qE (F:Ii) {b:Bk} {n0 n1 n2 n3 x:Int} (h:¬ x<0) (g:¬ 150<=b.cs.length) (k:F.stOk n0 n1 n2 n3 b.today=false):Lx F b n0 n1 n2 n3 x=(b,5):=by rw [Lx,if_neg h,if_neg g,if_pos k]
theorem rJ (F:Ii) {b:Bk} {n0 n1 n2 n3 x:Int} (h:¬ x<0) (g:¬ 150<=b.cs.length) (k:F.stOk n0 n1 n2 n3 b.today=true) (m:F.allOk b.ls (F.stE n0 n1 n2 n3 b.today)=false):Lx F b n0 n1 n2 n3 x=(b,6):=by
 rw [Lx,if_neg h,if_neg g,if_neg (by rw [k];decide),if_pos m]
theorem rS (F:Ii) {b:Bk} {n0 n1 n2 n3 x:Int} (h:¬ x<0) (g:¬ 150<=b.cs.length) (k:F.stOk n0 n1 n2 n3 b.today=true) (m:F.allOk b.ls (F.stE n0 n1 n2 n3 b.today)=true) :
  Lx F b n0 n1 n2 n3 x=(⟨b.today,b.off,F.use b.az x,b.cs++[F.stC n0 n1 n2 n3 b.today],F.all b.ls (F.stE n0 n1 n2 n3 b.today),b.log⟩,0):=by
 rw [Lx,if_neg h,if_neg g,if_neg (by rw [k];decide),if_neg (by rw [m];decide)]
theorem N0 {w:ql} {base n:Nat} {v:Value} {f:List Value} (h:w.ownsRow base 111 12 v n f) (j:v≠qe):∃ g c,v=qf (some (qzA g 0)) n c:=by
 rcases h.2 with ⟨h,_⟩|⟨g,c,J,h,_⟩
 ·exact absurd h j
 ·exact ⟨g,c,h⟩
theorem Dg {l:Array Oper} {o:Oper} {a:Act} {w:ql} {K:Act->ql->Prop} {Q:Exit->Act->ql->Prop} {E:Prop} (A:o.guard=none) (s x:Operand)
  (ho:o.op=.call { callee:=.builtin .append,args:=#[s,x],argTypes:=#[35,35] }) (base:Nat) (v:Value) (n:Nat) (f:List Value) (hs:a.eval s=v) (hown:w.ownsRow base 111 12 v n f)
  (ao:qm) (c:Nat) (fs:List Cs) (hx:a.eval x=qf ao fs.length c) (hz:Cf w ao fs) (hn:n+fs.length<=5000000) (hbase:base<=w.heap.size)
  (h:∀ p w',w'.ownsRow base 111 12 p (n+fs.length) (f++Am fs)->w.grownBy w' v.ownBlock->(v≠qe->p≠qe)->K (a.put o.dst p) w') :
  if Region.wanted o (yielded l a.tmps)=true then Oper.wp prog o a w K Q else E:=by
 have hw:Region.wanted o (yielded l a.tmps)=true:=by simp [Region.wanted,A]
 rw [if_pos hw];obtain ⟨p,w',H,L,y,z⟩:=Lp w base o.type v n f hown ao c fs hz hn hbase;unfold Oper.wp execOp
 simp only [ho,resolve,invoke,builtin,Sem.run_bind,Sem.run_pure,Result.andThen_ok,List.map_toArray,List.map_cons,List.map_nil,hs,hx,H]
 exact h p w' L y z
theorem Og {u:ql} {g:Nat} {C:Cs} (h:CB g 0 C u):Cf u (some (qzA g 0)) [C] :=
 .inr ⟨g,0,rfl,h.lt,λi hi=>by
  obtain rfl:i=0:=by simpa using hi
  simpa [Bm] using h⟩
theorem Agv (w:ql) (C:Cs):((w.alloc (.cells #[qzI C.iss,qzI C.acq,qzI C.cur,qzI C.am,qzI C.st,qzI C.rsn,qzI C.cl,qzI C.bk,qzI C.fee,.bool C.cop,qzI C.sta,qzI C.due] 111)).alloc (.cells #[] 111)).ownsRow w.heap.size 111 12 (qf (some ⟨w.heap.size+1,0,none⟩) 0 0) 0 []:=by
 have h:=World.ownsRow_lit (base:=w.heap.size) (e:=111) (size:=12) (w.alloc (.cells #[qzI C.iss,qzI C.acq,qzI C.cur,qzI C.am,qzI C.st,qzI C.rsn,qzI C.cl,qzI C.bk,qzI C.fee,.bool C.cop,qzI C.sta,qzI C.due] 111)) #[] 0 (by simp) (by unfold maxLen;omega) rfl
 simpa using h
theorem Agm (w:ql) (C:Cs):CB (w.heap.size+1) 0 C ((w.alloc (.cells #[] 111)).alloc (.cells #[qzI C.iss,qzI C.acq,qzI C.cur,qzI C.am,qzI C.st,qzI C.rsn,qzI C.cl,qzI C.bk,qzI C.fee,.bool C.cop,qzI C.sta,qzI C.due] 111)):=by
 have h:=CB.new (w.alloc (.cells #[] 111)) C 111
 simpa using h
def F1:qn:=[100,97,121]
def Eo:qn:=[97,117,116,104]
def M7:qn:=[112,97,121]
def S5:qn:=[97,99,116]
def C7 (ws:Bn):Bool:=decide (Ao ws 0=F1) && (decide (ws.length=2) && decide (0<=Ah (Ao ws 1)))
def B6 (ws:Bn):Bool:=decide (Ao ws 0=Eo) && decide (ws.length=5)
def Ed (ws:Bn):Bool:=decide (Ao ws 0=M7) && decide (ws.length=5)
def Ho (ws:Bn):Bool:=decide (Ao ws 0=S5) && (decide (ws.length=5) && decide (0<=Cp (Ao ws 2)))
def Gy (F:Ii) (b:Bk) (ref:qn) (n0 n1 n2:Int):Bk×Int :=
 if F.addOk b.az ⟨ref,n0,n1,n2,b.today,false⟩=true then (⟨b.today,b.off,F.add b.az ⟨ref,n0,n1,n2,b.today,false⟩,b.cs,b.ls,b.log⟩,0) else (b,3)
def Em (F:Ii) (q:Bk->Int->Int->Int->Int->Bk×Int->Prop) (Act:Bk->Int->Ac->Bk×Int) (b:Bk) (d:qn) (r:Bk×Int):Prop :=
 if C7 (Ad d)=true then r=Xu F b (Ah (Ao (Ad d) 1))
 else if B6 (Ad d)=true then (if Ax ((Ad d).drop 2)=true then r=Gy F b (Ao (Ad d) 1) (Ah (Ao (Ad d) 2)) (Ah (Ao (Ad d) 3)) (Ah (Ao (Ad d) 4)) else r=(b,1))
 else if Ed (Ad d)=true then (if Ax ((Ad d).drop 1)=true then q b (Ah (Ao (Ad d) 1)) (Ah (Ao (Ad d) 2)) (Ah (Ao (Ad d) 3)) (Ah (Ao (Ad d) 4)) r else r=(b,1))
 else if Ho (Ad d)=true then (if Ax [Ao (Ad d) 1,Ao (Ad d) 3,Ao (Ad d) 4]=true then r=Act b (Ah (Ao (Ad d) 1)) ⟨Cp (Ao (Ad d) 2),Ah (Ao (Ad d) 3),Ah (Ao (Ad d) 4)⟩ else r=(b,1))
 else r=(b,1)
namespace Kb
structure Z8 (B:Nat) (A d f p y C D F:Value) (u:ql):Prop where
 c0:u.cell? (qzA B 0)=some A
 c1:u.cell? (qzA B 1)=some d
 c2:u.cell? (qzA B 2)=some f
 c3:u.cell? (qzA B 3)=some p
 c4:u.cell? (qzA B 4)=some y
 c5:u.cell? (qzA B 5)=some C
 c6:u.cell? (qzA B 6)=some D
 c7:u.cell? (qzA B 7)=some F
 z0:u.frozen? (qzA B 0)=false
 z1:u.frozen? (qzA B 1)=false
 z2:u.frozen? (qzA B 2)=false
 z3:u.frozen? (qzA B 3)=false
 z4:u.frozen? (qzA B 4)=false
 z5:u.frozen? (qzA B 5)=false
 z6:u.frozen? (qzA B 6)=false
 z7:u.frozen? (qzA B 7)=false
theorem Z8.lt {B:Nat} {A d f p y C D F:Value} {u:ql} (h:Z8 B A d f p y C D F u):B<u.heap.size:=qs u _ h.c0
theorem Z8.grown {B:Nat} {A d f p y C D F:Value} {u G:ql} (h:Z8 B A d f p y C D F u) {row:Option Nat} (g:u.grownBy G row) (H:some B≠row):Z8 B A d f p y C D F G:=by
 have l:=h.lt;obtain ⟨c0,c1,c2,c3,c4,c5,c6,c7,z0,z1,z2,z3,z4,z5,z6,z7⟩:=h;exact ⟨(g.cell_far (qzA B 0) l H).t c0,(g.cell_far (qzA B 1) l H).t c1,(g.cell_far (qzA B 2) l H).t c2,(g.cell_far (qzA B 3) l H).t c3,(g.cell_far (qzA B 4) l H).t c4,(g.cell_far (qzA B 5) l H).t c5,(g.cell_far (qzA B 6) l H).t c6,(g.cell_far (qzA B 7) l H).t c7,(g.frozen_far (qzA B 0) l H).t z0,(g.frozen_far (qzA B 1) l H).t z1,(g.frozen_far (qzA B 2) l H).t z2,(g.frozen_far (qzA B 3) l H).t z3,(g.frozen_far (qzA B 4) l H).t z4,(g.frozen_far (qzA B 5) l H).t z5,(g.frozen_far (qzA B 6) l H).t z6,(g.frozen_far (qzA B 7) l H).t z7⟩
theorem Z8.set0 {B:Nat} {A d f p y C D F:Value} {u:ql} (h:Z8 B A d f p y C D F u) (x:Value):Z8 B x d f p y C D F (u.setCell (qzA B 0) x):=by
 obtain ⟨c0,c1,c2,c3,c4,c5,c6,c7,z0,z1,z2,z3,z4,z5,z6,z7⟩:=h
 constructor<;>simp [go_sem, *]
theorem Z8.set2 {B:Nat} {A d f p y C D F:Value} {u:ql} (h:Z8 B A d f p y C D F u) (x:Value):Z8 B A d x p y C D F (u.setCell (qzA B 2) x):=by
 obtain ⟨c0,c1,c2,c3,c4,c5,c6,c7,z0,z1,z2,z3,z4,z5,z6,z7⟩:=h
 constructor<;>simp [go_sem, *]
theorem Z8.set5 {B:Nat} {A d f p y C D F:Value} {u:ql} (h:Z8 B A d f p y C D F u) (x:Value):Z8 B A d f p y x D F (u.setCell (qzA B 5) x):=by
 obtain ⟨c0,c1,c2,c3,c4,c5,c6,c7,z0,z1,z2,z3,z4,z5,z6,z7⟩:=h
 constructor<;>simp [go_sem, *]
theorem Z8.set6 {B:Nat} {A d f p y C D F:Value} {u:ql} (h:Z8 B A d f p y C D F u) (x:Value):Z8 B A d f p y C x F (u.setCell (qzA B 6) x):=by
 obtain ⟨c0,c1,c2,c3,c4,c5,c6,c7,z0,z1,z2,z3,z4,z5,z6,z7⟩:=h
 constructor<;>simp [go_sem, *]
theorem Z8.set7 {B:Nat} {A d f p y C D F:Value} {u:ql} (h:Z8 B A d f p y C D F u) (x:Value):Z8 B A d f p y C D x (u.setCell (qzA B 7) x):=by
 obtain ⟨c0,c1,c2,c3,c4,c5,c6,c7,z0,z1,z2,z3,z4,z5,z6,z7⟩:=h
 constructor<;>simp [go_sem, *]
theorem Z8.new (w:ql) (A d f p y C D F:Value) (ty:TypeId):Z8 w.heap.size A d f p y C D F (w.alloc (.cells #[A,d,f,p,y,C,D,F] ty)) :=
 ⟨by simp,by simp,by simp,by simp,by simp,by simp,by simp,by simp,by simp [go_sem],by simp [go_sem],by simp [go_sem],by simp [go_sem],by simp [go_sem],by simp [go_sem],by simp [go_sem],by simp [go_sem]⟩
theorem Vi {u:ql} {base n size:Nat} {t:TypeId} {v:Value} {R:List Value} (h:u.ownsRow base t size v n R):∀ g,v.ownBlock=some g->∃ I fz,u.heap[g]?=some (.cells I t fz):=by
 intro g M
 rcases h.2 with ⟨J,_⟩|⟨g',cap,I,J,_,Z,_⟩
 ·rw [J] at M;cases M
 ·rw [J] at M
  injection M with M
  subst M;exact ⟨I,(0,0),Z⟩
def Hp (u:ql) (g:Nat) (t:TypeId):Prop:=∃ I fz,u.heap[g]?=some (.cells I t fz)
theorem A7 {u:ql} {T n1 W b2 n2 s2:Nat} {N O:TypeId} {d f:Value} {X x2:List Value} (S:u.ownsRow T N W d n1 X) (U:u.ownsRow b2 O s2 f n2 x2) (ht:N≠O):d.ownBlock=none\/d.ownBlock≠f.ownBlock:=by
 cases J:d.ownBlock with
 | none=>exact .inl rfl
 | some g =>
  refine .inr λe=>ht ?_
  obtain ⟨c1,f1,e1⟩:=Vi S g J;obtain ⟨c2,f2,e2⟩:=Vi U g e.s;rw [e1] at e2
  simp only [Option.some.injEq,Obj.cells.injEq] at e2
  exact e2.2.1
theorem sA {u:ql} {T n1 W K:Nat} {N O:TypeId} {d:Value} {X:List Value} (S:u.ownsRow T N W d n1 X) (U:Hp u K O) (ht:N≠O):d.ownBlock=none\/d.ownBlock≠some K:=by
 cases J:d.ownBlock with
 | none=>exact .inl rfl
 | some g =>
  refine .inr λe=>ht ?_
  injection e with e
  subst e;obtain ⟨c1,f1,e1⟩:=Vi S g J;obtain ⟨c2,f2,e2⟩:=U;rw [e1] at e2
  simp only [Option.some.injEq,Obj.cells.injEq] at e2
  exact e2.2.1
theorem E8 {u:ql} {T n1 W K:Nat} {N O:TypeId} {d:Value} {X:List Value} (S:u.ownsRow T N W d n1 X) (U:Hp u K O) (ht:N≠O):some K≠d.ownBlock:=by
 rcases sA S U ht with h|h
 ·rw [h];exact λe=>by cases e
 ·exact λe=>h e.s
theorem Hp.grown {u G:ql} {g:Nat} {t:TypeId} {row:Option Nat} (h:Hp u g t) (M:u.grownBy G row) (H:some g≠row):Hp G g t:=by
 obtain ⟨I,fz,e⟩:=h
 have hl:g<u.heap.size:=by
  rcases Nat.lt_or_ge g u.heap.size with h|h
  ·exact h
  ·rw [Array.getElem?_eq_none h] at e;cases e
 exact ⟨I,fz,(M.block g hl H).t e⟩
theorem Hp.set {u:ql} {g:Nat} {t:TypeId} (h:Hp u g t) (i:Nat) (x:Value):Hp (u.setCell (qzA g i) x) g t:=by
 obtain ⟨I,fz,e⟩:=h;refine ⟨I.setIfInBounds i x,fz,?_⟩;unfold World.setCell
 simp only [Array.getElem?_modify,if_true,e,Option.map_some]
 rfl
theorem Fj {u:ql} {base base' n size:Nat} {t:TypeId} {v:Value} {R:List Value} (h:u.ownsRow base t size v n R) (hb:base'<=base):u.ownsRow base' t size v n R :=
 ⟨h.1,h.2.imp id (λ⟨g,cap,I,J,M,r⟩=>⟨g,cap,I,J,jk hb M,r⟩)⟩
def Aix (o:Obj):Prop:=∃ I t fz,o=.cells I t fz/\(t=111\/t=9\/t=128)
structure C5 (B:Nat) (w w':ql):Prop where
 b:Below B w w'
 i:∀ (k:Nat) (o:Obj),w.heap[k]?=some o->¬ Aix o->w'.heap[k]?=some o
theorem Pi {w:ql} {k:Nat} {o:Obj} (h:w.heap[k]?=some o):k<w.heap.size:=by
 rcases Nat.lt_or_ge k w.heap.size with Y|Y
 ·exact Y
 ·rw [Array.getElem?_eq_none Y] at h;cases h
theorem C5.refl (B:Nat) (w:ql):C5 B w w:=⟨bR,λ_ _ h _=>h⟩
theorem C5.t {B:Nat} {w u v:ql} (h:C5 B w u) (g:C5 B u v):C5 B w v:=⟨h.b.t g.b,λk o e m=>g.i k o (h.i k o e m) m⟩
theorem C5.of {B:Nat} {w u:ql} (h:BW w u) (hB:B<=w.heap.size):C5 B w u:=⟨h.m hB,λk _ e _=>(h.block k (Pi e)).t e⟩
theorem C5.drew {B:Nat} {w u:ql} (h:C5 B w u):C5 B w u.drew:=⟨h.b.drew,h.i⟩
theorem C5.setK {B K i:Nat} {w u:ql} {x:Value} (h:C5 B w u) (kt:Hp u K 128) (hK:B<=K):C5 B w (u.setCell (qzA K i) x) :=
 ⟨h.b.setCell hK _,λk o e m=>by
  have e1:=h.i k o e m
  refine ((An u K i x).block k (Pi e1) (λc=>m ?_)).t e1
  injection c with c
  subst c;obtain ⟨I,fz,e2⟩:=kt;rw [e1] at e2
  injection e2 with e2
  exact ⟨I,_,fz,e2,.inr (.inr rfl)⟩⟩
theorem C5.grownO {B n size:Nat} {w u G:ql} {t:TypeId} {v:Value} {R:List Value} (h:C5 B w u) (g:u.grownBy G v.ownBlock) (o:u.ownsRow B t size v n R) (hs:B<=u.heap.size) (ht:t=111\/t=9):C5 B w G :=
 ⟨h.b.grown g hs (λk hk=>(o.lt k hk).1),λk x e m=>by
  have e1:=h.i k x e m
  refine (g.block k (Pi e1) (λc=>m ?_)).t e1
  obtain ⟨I,fz,e2⟩:=Vi o k c.s;rw [e1] at e2
  injection e2 with e2
  exact ⟨I,_,fz,e2,ht.elim .inl (λe=>.inr (.inl e))⟩⟩
theorem fL {B m n size:Nat} {t:TypeId} {v:Value} {R:List Value} {w w':ql} (h:w.ownsRow m t size v n R) (hb:C5 B w w') (ht:t≠111/\t≠9/\t≠128):w'.ownsRow m t size v n R :=
 ⟨h.1,h.2.imp id (λ⟨g,cap,I,J,M,Z,r⟩=>⟨g,cap,I,J,M,hb.i g _ Z (by
  rintro ⟨c2,O,f2,e,h⟩
  injection e with _ e _
  subst e
  rcases h with h|h|h
  ·exact ht.1 h
  ·exact ht.2.1 h
  ·exact ht.2.2 h),r⟩)⟩
structure KS (B K:Nat) (st:Int) (b:Bk) (q:Bp) (u:ql):Prop where
 z:Z8 K (.int .i32 st) (.int .u32 0) (qf q.l b.ls.length q.lc) (qzI b.today) (qf q.o b.off.length q.oc) (qf q.a b.az.length q.ac) (qf q.c b.cs.length q.cc) (qf q.g b.log.length q.gc) u
 kt:Hp u K 128
 off:u.ownsRow B 3 1 (qf q.o b.off.length q.oc) b.off.length (b.off.map (Value.int .i64))
 az:u.ownsRow B 108 6 (qf q.a b.az.length q.ac) b.az.length (Ap b.az)
 cs:u.ownsRow B 111 12 (qf q.c b.cs.length q.cc) b.cs.length (Am b.cs)
 ls:u.ownsRow B 151 3 (qf q.l b.ls.length q.lc) b.ls.length (Ak b.ls)
 log:u.ownsRow B 9 1 (qf q.g b.log.length q.gc) b.log.length (At b.log)
 hK:B<=K
theorem KS.at {B K:Nat} {st:Int} {b:Bk} {q:Bp} {u:ql} (h:KS B K st b q u):Az u b q:=⟨Nq h.off,Hu h.az,Hz h.cs,Eb h.ls,G5 h.log⟩
theorem KS.far {B K:Nat} {st:Int} {b:Bk} {q:Bp} {u G:ql} {row:Option Nat} (h:KS B K st b q u) (g:u.grownBy G row) (H:∀ x,row=some x->x<B):KS B K st b q G:=by
 have hK:=h.hK
 have ne:∀ {t:TypeId} {s n:Nat} {v:Value} {R:List Value},u.ownsRow B t s v n R->v.ownBlock=none\/v.ownBlock≠row:=λo=>by
  rename_i t s n v R
  cases J:v.ownBlock with
  | none=>exact .inl rfl
  | some j =>
   refine .inr λe=>?_
   have S:=(o.lt j J).1;have U:=H j e.s
   omega
 have V:some K≠row:=λe=>by have:=H K e.s;omega
 exact ⟨h.z.grown g V,h.kt.grown g V,h.off.kept g (ne h.off),h.az.kept g (ne h.az),h.cs.kept g (ne h.cs),h.ls.kept g (ne h.ls),h.log.kept g (ne h.log),h.hK⟩
theorem KS.below {B K:Nat} {st:Int} {b:Bk} {q:Bp} {u G:ql} (h:KS B K st b q u) (hb:BW u G):KS B K st b q G :=
 h.far (row:=none) ⟨hb.os,hb.tape,hb.output,hb.size,λk hk _=>hb.block k hk⟩ (λx hx=>by cases hx)
theorem KS.drew {B K:Nat} {st:Int} {b:Bk} {q:Bp} {u:ql} (h:KS B K st b q u):KS B K st b q u.drew:=h.below (bR.drew)
theorem KS.al {B K:Nat} {st:Int} {b:Bk} {q:Bp} {u:ql} (h:KS B K st b q u) (o:Obj):KS B K st b q (u.alloc o):=h.below (bR.alloc nL _)
theorem Hj {u:ql} {T n1 W K i:Nat} {N O:TypeId} {d x:Value} {X:List Value} (S:u.ownsRow T N W d n1 X) (U:Hp u K O) (ht:N≠O):(u.setCell (qzA K i) x).ownsRow T N W d n1 X :=
 S.kept (An u K i x) (sA S U ht)
theorem KS.setSt {B K:Nat} {st:Int} {b:Bk} {q:Bp} {u:ql} (h:KS B K st b q u) (s:Int):KS B K s b q (u.setCell (qzA K 0) (.int .i32 s)) :=
 ⟨h.z.set0 _,h.kt.set _ _,Hj h.off h.kt (by decide),Hj h.az h.kt (by decide),Hj h.cs h.kt (by decide),Hj h.ls h.kt (by decide),Hj h.log h.kt (by decide),h.hK⟩
theorem KS.setA {B K:Nat} {st:Int} {b:Bk} {q:Bp} {u:ql} (h:KS B K st b q u) {L:List Au} {a:qm} {c m:Nat} (o:u.ownsRow m 108 6 (qf a L.length c) L.length (Ap L)) (hm:B<=m) :
  KS B K st ⟨b.today,b.off,L,b.cs,b.ls,b.log⟩ ⟨q.o,q.oc,a,c,q.c,q.cc,q.l,q.lc,q.g,q.gc⟩ (u.setCell (qzA K 5) (qf a L.length c)) :=
 ⟨h.z.set5 _,h.kt.set _ _,Hj h.off h.kt (by decide),Hj (Fj o hm) h.kt (by decide),Hj h.cs h.kt (by decide),Hj h.ls h.kt (by decide),Hj h.log h.kt (by decide),h.hK⟩
theorem KS.setL {B K:Nat} {st:Int} {b:Bk} {q:Bp} {u:ql} (h:KS B K st b q u) {L:List Ln} {a:qm} {c m:Nat} (o:u.ownsRow m 151 3 (qf a L.length c) L.length (Ak L)) (hm:B<=m) :
  KS B K st ⟨b.today,b.off,b.az,b.cs,L,b.log⟩ ⟨q.o,q.oc,q.a,q.ac,q.c,q.cc,a,c,q.g,q.gc⟩ (u.setCell (qzA K 2) (qf a L.length c)) :=
 ⟨h.z.set2 _,h.kt.set _ _,Hj h.off h.kt (by decide),Hj h.az h.kt (by decide),Hj h.cs h.kt (by decide),Hj (Fj o hm) h.kt (by decide),Hj h.log h.kt (by decide),h.hK⟩
theorem KS.setC {B K:Nat} {st:Int} {b:Bk} {q:Bp} {u G:ql} (h:KS B K st b q u) (g:u.grownBy G (Value.slice q.c b.cs.length q.cc).ownBlock) {L:List Cs} {a:qm} {c:Nat} (o:G.ownsRow B 111 12 (qf a L.length c) L.length (Am L)) :
  KS B K st ⟨b.today,b.off,b.az,L,b.ls,b.log⟩ ⟨q.o,q.oc,q.a,q.ac,a,c,q.l,q.lc,q.g,q.gc⟩ (G.setCell (qzA K 6) (qf a L.length c)):=by
 have V:=E8 h.cs h.kt (by decide)
 have kt:=h.kt.grown g V
 exact ⟨(h.z.grown g V).set6 _,kt.set _ _,Hj (h.off.kept g (A7 h.off h.cs (by decide))) kt (by decide),Hj (h.az.kept g (A7 h.az h.cs (by decide))) kt (by decide),Hj o kt (by decide),Hj (h.ls.kept g (A7 h.ls h.cs (by decide))) kt (by decide),Hj (h.log.kept g (A7 h.log h.cs (by decide))) kt (by decide),h.hK⟩
theorem KS.setG {B K:Nat} {st:Int} {b:Bk} {q:Bp} {u G:ql} (h:KS B K st b q u) (g:u.grownBy G (Value.slice q.g b.log.length q.gc).ownBlock) {L:Bn} {a:qm} {c:Nat} (o:G.ownsRow B 9 1 (qf a L.length c) L.length (At L)) :
  KS B K st ⟨b.today,b.off,b.az,b.cs,b.ls,L⟩ ⟨q.o,q.oc,q.a,q.ac,q.c,q.cc,q.l,q.lc,a,c⟩ (G.setCell (qzA K 7) (qf a L.length c)):=by
 have V:=E8 h.log h.kt (by decide)
 have kt:=h.kt.grown g V
 exact ⟨(h.z.grown g V).set7 _,kt.set _ _,Hj (h.off.kept g (A7 h.off h.log (by decide))) kt (by decide),Hj (h.az.kept g (A7 h.az h.log (by decide))) kt (by decide),Hj (h.cs.kept g (A7 h.cs h.log (by decide))) kt (by decide),Hj (h.ls.kept g (A7 h.ls h.log (by decide))) kt (by decide),Hj o kt (by decide),h.hK⟩
def eE (x:Int):Prop:=0<=x/\x<1000000000000000000
structure qJ (F:Ii) (E:ql->Prop) (G:Nat):Prop where
 keep:∀ w w',E w->Below G w w'->E w'
 size:∀ w,E w->G<=w.heap.size
 num:∀ (l:qn) (w:ql),l.length<=1048576->qi 168 #[qd l] w (qp (qzI (A9 l)) w)
 dec:∀ (m:Nat) (w:ql),m<1000000000000000000->E w->qi 240 #[qzI m] w (qp (qd (Lib.decDigits m)) w)
 clone:∀ (l:qn) (w:ql),l.length<=1048576->qi 104 #[qd l] w (qp (qd l) w)
 split:∀ (l:qn) (w:ql),l.length<=1048576->E w->qi 134 #[qd l,.string ⟨#[32]⟩] w λe w'=>∃ a,e=.returned (qf a (Ad l).length (Ad l).length)/\Bw w' a (Ad l)/\BW w w'
 eFull:∀ w,E w->∃ t a,w.cell? (qzA 0 0)=some (.iface t (.pointer (some a)))
 eLine:∀ w,E w->∃ t a,w.cell? (qzA 1 0)=some (.iface t (.pointer (some a)))
 eDay:∀ w,E w->∃ t a,w.cell? (qzA 4 0)=some (.iface t (.pointer (some a)))
 eAuth:∀ w,E w->∃ t a,w.cell? (qzA 5 0)=some (.iface t (.pointer (some a)))
 eCases:∀ w,E w->∃ t a,w.cell? (qzA 6 0)=some (.iface t (.pointer (some a)))
 eCase:∀ w,E w->∃ t a,w.cell? (qzA 7 0)=some (.iface t (.pointer (some a)))
 eMoney:∀ w,E w->∃ t a,w.cell? (qzA 8 0)=some (.iface t (.pointer (some a)))
 eAct:∀ w,E w->∃ t a,w.cell? (qzA 9 0)=some (.iface t (.pointer (some a)))
 words:∀ w,E w->∀ k,k<10->w.cell? (qzA 3 k)=some (qd (Ao G7 k))
 use:∀ (ao:qm) (cap:Nat) (az:List Au) (i:Int) (w:ql),Ba w ao az->az.length<=1048576->(∀ a ∈ az,a.ref.length<=1048576)->qi 221 #[qf ao az.length cap,qzI i] w (Wv w (F.use az i) (F.useOk az i))
 add:∀ (ao:qm) (cap:Nat) (az:List Au) (a:Au) (w:ql),Ba w ao az->az.length<=1048576->(∀ x ∈ az,x.ref.length<=1048576)->a.ref.length<=1048576->eE a.cur->qi 217 #[qf ao az.length cap,Ha a] w (Wv w (F.add az a) (F.addOk az a))
 best:∀ (ao:qm) (cap:Nat) (az:List Au) (iz cw am day:Int) (w:ql),Ba w ao az->az.length<=1048576->(∀ a ∈ az,a.ref.length<=1048576)->(∀ a ∈ az,(Lit.int .i64 a.cur).wf=true)->(Lit.int .i64 am).wf=true->(Lit.int .i64 day).wf=true ->
  qi 218 #[qf ao az.length cap,qzI iz,qzI cw,qzI am,qzI day] w λe w'=>∃ x,e=.returned (qzI x)/\F.best az iz cw am day x/\BW w w'
 start:∀ (iz ay cw am day:Int) (w:ql),eE cw->qi 219 #[qzI iz,qzI ay,qzI cw,qzI am,qzI day] w λe w'=>∃ ao cap,e=.returned (.tuple #[cv (F.stC iz ay cw am day),qf ao (F.stE iz ay cw am day).length cap,.bool (F.stOk iz ay cw am day)])/\w'.ownsRow w.heap.size 217 4 (qf ao (F.stE iz ay cw am day).length cap) (F.stE iz ay cw am day).length (B9 (F.stE iz ay cw am day))/\BW w w'
 small:∀ iz ay cw am day,(F.stE iz ay cw am day).length<=1048576/\(eE iz->eE ay->eE cw->eE am->∀ x ∈ F.stE iz ay cw am day,Xz x)
 act:∀ (c:Cs) (a:Ac) (t:Int) (ao:qm) (cp:Nat) (zs:List Int) (w:ql),Bg w ao zs->zs.length<=1048576->E w->Zg c->qi 223 #[cv c,av a,qzI t,qf ao zs.length cp] w λe w'=>∃ ao cap,e=.returned (.tuple #[cv (F.doC c a t zs),qf ao (F.doE c a t zs).length cap,qzI (F.doV c a t zs)])/\w'.ownsRow w.heap.size 217 4 (qf ao (F.doE c a t zs).length cap) (F.doE c a t zs).length (B9 (F.doE c a t zs))/\BW w w'
 few:∀ c a t zs,(F.doE c a t zs).length<=1048576/\(Zg c->eE a.am->∀ x ∈ F.doE c a t zs,Xz x)
 low:∀ az i c a d x,F.best az i c a d x->-1<=x
 stay:∀ ls es,F.allOk ls es=false->F.all ls es=ls
 code:∀ c a t zs,0<=F.doV c a t zs/\F.doV c a t zs<=1000
 post:∀ (ao:qm) (cap:Nat) (ls:List Ln) (eo:qm) (ec:Nat) (es:List En) (w:ql),Ar w ao ls->ls.length<=1048576->(∀ x ∈ ls,N3 x)->Fg w eo es->es.length<=1048576->(∀ x ∈ es,Xz x) ->
  qi 259 #[.agg #[qf ao ls.length cap],qf eo es.length ec] w λe w'=>∃ ao cap,e=.returned (.tuple #[.agg #[qf ao (F.all ls es).length cap],.bool (F.allOk ls es)])/\w'.ownsRow w.heap.size 151 3 (qf ao (F.all ls es).length cap) (F.all ls es).length (Ak (F.all ls es))/\BW w w'
theorem qJ.grow {F:Ii} {E:ql->Prop} {G:Nat} (K:qJ F E G) {w w':ql} (h:E w) (hb:BW w w'):E w':=K.keep w w' h (hb.m (K.size w h))
def Xp (s:qn):Int:=if 0<=Ah s then Ah s else 0
theorem zT {s:qn} (h:A9 s<0):Ah s = -1:=by
 unfold Ah
 split
 ·rfl
 ·rw [if_pos (.inl h)]
theorem Ad2 {s:qn} (h:Lib.decDigits (A9 s).toNat≠s):Ah s = -1:=by
 unfold Ah
 split
 ·rfl
 ·rw [if_pos (.inr h)]
theorem Ahr (m:Nat):Lib.decDigits m≠[]:=by
 intro h;rw [Lib.decDigits] at h
 split at h <;> simp at h
theorem Sp {a b:Int} {p q:Bool} (R:a=b) (M:p=q):Ending.returned (.tuple #[qzI a,.bool p])=.returned (.tuple #[qzI b,.bool q]):=by rw [R,M]
theorem nX {s:qn} (h:Ah s = -1):Xp s=0/\decide (0<=Ah s)=false:=by
 unfold Xp;rw [h]
 exact ⟨by simp,by simp⟩
theorem wH {F:Ii} {E:ql->Prop} {G:Nat} (K:qJ F E G) (s:qn) (w:ql) (hl:s.length<=1048576) (hE:E w) :
  qi 250 #[qd s] w (qp (.tuple #[qzI (Xp s),.bool (decide (0<=Ah s))]) w):=by
 have W:=Aa λu=>K.num s u hl
 have T:=Ee s
 by_cases M:A9 s<0
 ·obtain ⟨e1,e2⟩:=nX (zT M)
  have g:qj (Xp s=0/\decide (0<=Ah s)=false):=⟨e1,e2⟩;obtain ⟨n,hn⟩:=Ae (A9 s);rw [hn] at W M T;clear hn e1 e2
  go_enter func250,ntmps250
  go_wp2_with (go_at_call 168;refine (W.o _).m ?_;rintro e w' ⟨rfl,z⟩)
  go_ret2;exact ⟨Sp g.o.1.s g.o.2.s,z⟩
 obtain ⟨m,hm⟩:=jj (show 0<=A9 s by omega)
 have HD:=Aa λu (h:E u)=>K.dec m u (by omega) h
 have HG:=Aa λu (h:BW w u)=>K.grow hE h
 by_cases R:15<s.length
 ·have b3:(15:Int)<(s.length:Int):=by omega
  obtain ⟨e1,e2⟩:=nX (zD R);have g:qj (Xp s=0/\decide (0<=Ah s)=false):=⟨e1,e2⟩;rw [hm] at W M T
  have a5:¬ (m:Int)<0:=by omega
  clear hm e1 e2 R
  go_enter func250,ntmps250
  go_wp2_with (go_at_call 168;refine (W.o _).m ?_;rintro e w' ⟨rfl,z⟩)
  go_ret2;exact ⟨Sp g.o.1.s g.o.2.s,z⟩
 have b3:¬ (15:Int)<(s.length:Int):=by omega
 by_cases S:Lib.decDigits m=s
 ·have h0:s≠[]:=λe=>Ahr m (S.t e)
  have hW:Ah s=(m:Int):=by rw [Ac2 h0 R M (by rw [hm];exact S),hm]
  have g:qj (Xp s=(m:Int)/\decide (0<=Ah s)=true):=by
   unfold Xp;rw [hW]
   exact ⟨if_pos (by omega),decide_eq_true (by omega)⟩
  rw [hm] at W M T;rw [S] at HD
  have a5:¬ (m:Int)<0:=by omega
  clear R S hW h0 hm
  go_enter func250,ntmps250
  go_wp2_with (first|(go_at_call 168;refine (W.o _).m ?_;rintro e w' ⟨rfl,z⟩)|(go_at_call 240;refine (HD.o _ (HG.o _ z)).m ?_;rintro e w2 ⟨rfl,b2⟩))
  go_ret2;exact ⟨Sp g.o.1.s g.o.2.s,next z b2⟩
 ·obtain ⟨e1,e2⟩:=nX (Ad2 (s:=s) (by rw [hm];exact S))
  have g:qj (Xp s=0/\decide (0<=Ah s)=false):=⟨e1,e2⟩;rw [hm] at W M T;obtain ⟨D,hD⟩:=Ae (Lib.decDigits m);rw [hD] at HD S
  have d0:(D == s)=false:=by simpa using S
  have a5:¬ (m:Int)<0:=by omega
  clear R hD hm e1 e2
  go_enter func250,ntmps250
  go_wp2_with (first|(go_at_call 168;refine (W.o _).m ?_;rintro e w' ⟨rfl,z⟩)|(go_at_call 240;refine (HD.o _ (HG.o _ z)).m ?_;rintro e w2 ⟨rfl,b2⟩))
  go_ret2;exact ⟨Sp g.o.1.s g.o.2.s,next z b2⟩
theorem Tm {F:Ii} {E:ql->Prop} {G:Nat} (K:qJ F E G) (ao:qm) (cap:Nat) (rs:Bn) (w:ql) (hz:Bw w ao rs) (hn:rs.length<=1048576) (hd:∀ r ∈ rs,r.length<=1048576) (hE:E w) :
  qi 214 #[qf ao rs.length cap] w λe w'=>∃ a k,e=.returned (.tuple #[qf a (Bx rs).length k,.bool (Ax rs)])/\w'.ownsRow w.heap.size 3 1 (qf a (Bx rs).length k) (Bx rs).length ((Bx rs).map (Value.int .i64))/\BW w w':=by
 obtain ⟨i0,hi,b8,b9,c8⟩:=info_parts Aau;have HX:=Aa hz
 have HD:=Aa λk (hk:k<rs.length)=>hd _ (Iz hk)
 have HG:=Aa λu (h:BW w u)=>K.grow hE h
 have HK:=Aa K;clear hz hd hE K
 go_enter func214,ntmps214
 go_wp2
 go_loopw [4,11] (λs i wr=>∃ (v:Value) (k:Nat),v=s/\k<=rs.length/\i=qzI (k:Int)/\(∀ j,j<k->0<=Ah (Ao rs j))/\wr.ownsRow w.heap.size 3 1 v ((rs.take k).map Ah).length (((rs.take k).map Ah).map (Value.int .i64))/\BW w wr) (λ_ i _=>rs.length - (intOf i).toNat)
 case atStart=>exact ⟨_,0,rfl,qw _,rfl,λj hj=>absurd hj (Nat.not_lt_zero _),jh _ _ _ _,bR⟩
 case round =>
  obtain ⟨v,k,b7,hk,rfl,C,f,H⟩:=hrel;subst b7;have B:=Aa H;have V:=Aa C;have c9:=Aa H.size
  have a7:=Aa λj (hj:v.ownBlock=some j)=>(f.lt j hj).1
  have a4:((rs.take k).map Ah).length<=1048576:=by simp;omega
  by_cases hlt:k<rs.length
  ·have b5:(k:Int)<(rs.length:Int):=by omega
   obtain ⟨gb,off,rfl,d1,I⟩:∃ gb off,ao=some (qzA gb off)/\gb<wr.heap.size/\wr.cell? (qzA gb (off+k))=some (qd (Ao rs k)):=by
    rcases HX.o.below H with h|⟨gb,off,R,M,S⟩
    ·rw [h] at hlt;simp at hlt
    ·exact ⟨gb,off,R,M,S k hlt⟩
   have X:=Aa (Zi rs k hlt);have a6:=HD.o k hlt;have a3:qj _:=@aF rs k hlt
   have A:qj (∀ u,BW w u->qi 250 #[qd (Ao rs k)] u λe w'=>e=.returned (.tuple #[qzI (Xp (Ao rs k)),.bool (decide (0<=Ah (Ao rs k)))])/\BW u w'):=λu h=>wH HK.o _ u a6 (HG.o u h)
   have U:qj (0<=Ah (Ao rs k)->∀ j,j<k+1->0<=Ah (Ao rs j)):=λh j hj=>by
    rcases (show j<k\/j=k by omega) with hj|rfl
    ·exact V.o j hj
    ·exact h
   have Y:qj (0<=Ah (Ao rs k)->Xp (Ao rs k)=Ah (Ao rs k)):=λh=>if_pos h
   obtain ⟨L,hL⟩:=Ae ((rs.take k).map Ah);rw [hL] at X f a4;obtain ⟨y,hy⟩:=Ae (Xp (Ao rs k));rw [hy] at A Y;obtain ⟨x,hx⟩:=Ae (Ah (Ao rs k));rw [hx] at X A a3 U Y;obtain ⟨r,hr⟩:=Ae (Ao rs k);rw [hr] at I A a6;have HO:=Aa f;clear hL hx hr hy f H C
   by_cases hxn:x<0
   ·have g:=Aa (a3.o hxn)
    have O:qj (Bx rs=[]):=if_neg (by rw [g.o];decide)
    have J:decide (0<=x)=false:=decide_eq_false (by omega)
    rw [J] at A;clear J
    go_wp2_with (go_at_call 250;refine (A.o _ B.o).m ?_;rintro e w' ⟨rfl,z⟩)
    have N:=Aa (next B.o z);clear z;go_ret2;rw [g.o,O.o];exact ⟨_,_,rfl,jh _ _ _ _,N.o⟩
   ·have J:decide (0<=x)=true:=decide_eq_true (by omega)
    rw [J] at A
    have b0:=Aa (Y.o (by omega))
    clear J;go_wp2_with fail
    refine (A.o _ B.o).m ?_;rintro e w1 ⟨rfl,z⟩;have N:=Aa (next B.o z);have a8:=Aa (A5 HO.o z);have Z:=Aa N.o.size;rw [b0.o];clear z I
    go_wp2_with (at_builtin;refine wpList_append_own _ rfl (.tmp 22) (.tmp 24) 22 rfl w.heap.size 3 i0 (qzI 0) 1 8 underlying22 hi b8 b9 c8 rfl (by decide) _ _ _ rfl (a8.o.alloc _) ⟨w1.heap.size,0,none⟩ 1 1 [qzI x] rfl rfl (World.news_of_block (heap_alloc_new w1 _)) (qP _) (by unfold maxLen;omega) (by omega) (by simp;have:=Z.o;omega) ?_;intro v5 w5 o5 g5 _)
    have q5:=(N.o.alloc (by have:=Z.o;omega) _).grown g5 (by have:=Z.o;simp;omega) a7.o
    have a9:qj (w5.ownsRow w.heap.size 3 1 v5 ((rs.take (k+1)).map Ah).length (((rs.take (k+1)).map Ah).map (Value.int .i64))):=by
     rw [qj,X.o,qv,List.map_append];exact o5
    clear o5 g5;go_wp2
    go_roundw
    case rel=>exact ⟨_,k+1,rfl,by omega,by go_num,U.o (by omega),a9.o,q5⟩
    case measure=>simp [intOf];omega
  ·have b4:k=rs.length:=by omega
   subst b4
   have b5:¬ (rs.length:Int)<(rs.length:Int):=by omega
   have g:=Aa (Wp V.o);have O:qj (Bx rs=rs.map Ah):=if_pos g.o;rw [List.take_length] at f;obtain ⟨L,hL⟩:=Ae (rs.map Ah);rw [hL] at f O;clear hL a4;obtain ⟨va,vk,b6⟩:=Ta f;subst b6;have HO:=Aa f;clear H f C;go_wp2;go_ret2;rw [g.o,O.o];exact ⟨_,_,rfl,HO.o,B.o⟩
def Ah3:List Nat:=[1,4,5,6,7,8,9]
def NF (E:ql->Prop) (y:Value):Prop:=∃ w g,E w/\g ∈ Ah3/\w.cell? (qzA g 0)=some y
def Ain (E:ql->Prop) (code:Int) (v:Value):Prop:=(code=0/\v=.nilIface)\/(code≠0/\∃ y,NF E y/\v=.iface 199 (.agg #[y,qzI code]))
def rX (E:ql->Prop) (B K:Nat) (w:ql) (r:Bk×Int) (e:Ending) (w':ql):Prop:=∃ q v,e=.returned v/\Ain E r.2 v/\KS B K 1 r.1 q w'/\C5 B w w'
theorem Ij {E:ql->Prop} {B K:Nat} {w w':ql} {b:Bk} {q:Bp} {c:Int} {y:Value} (hy:NF E y) (d:c≠0) (k:KS B K 1 b q w') (hb:C5 B w w'):rX E B K w (b,c) (.returned (.iface 199 (.agg #[y,qzI c]))) w' :=
 ⟨q,_,rfl,.inr ⟨d,y,hy,rfl⟩,k,hb⟩
theorem oB {E:ql->Prop} {B K:Nat} {w w':ql} {b:Bk} {q:Bp} (k:KS B K 1 b q w') (hb:C5 B w w'):rX E B K w (b,0) (.returned .nilIface) w':=⟨q,_,rfl,.inl ⟨rfl,rfl⟩,k,hb⟩
structure Hk (b:Bk):Prop where
 sm:Ld b
 ref:∀ a ∈ b.az,a.ref.length<=1048576
 cur:∀ a ∈ b.az,(Lit.int .i64 a.cur).wf=true
 cc:∀ c ∈ b.cs,Zg c
 lb:∀ x ∈ b.ls,N3 x
 day:(Lit.int .i64 b.today).wf=true
def eF (F:Ii) (b:Bk) (rs:Bn):Bk×Int:=if Ax rs=true/\rs.length=1 then Xu F b (Ah (Ao rs 0)) else (b,1)
theorem KS.lt {B K:Nat} {st:Int} {b:Bk} {q:Bp} {u:ql} (h:KS B K st b q u):B<=u.heap.size:=by have:=h.z.lt;have:=h.hK;omega
def Ko (F:Ii) (b:Bk) (rs:Bn):Bk×Int :=
 if rs.length=4/\Ao rs 0≠[]/\Ax (rs.drop 1)=true then Gy F b (Ao rs 0) (Ah (Ao rs 1)) (Ah (Ao rs 2)) (Ah (Ao rs 3)) else (b,1)
theorem Aay (F:Ii) {b:Bk} {ref:qn} {n0 n1 n2:Int} (h:F.addOk b.az ⟨ref,n0,n1,n2,b.today,false⟩=true):Gy F b ref n0 n1 n2=(⟨b.today,b.off,F.add b.az ⟨ref,n0,n1,n2,b.today,false⟩,b.cs,b.ls,b.log⟩,0):=if_pos h
theorem pV (F:Ii) {b:Bk} {ref:qn} {n0 n1 n2:Int} (h:F.addOk b.az ⟨ref,n0,n1,n2,b.today,false⟩=false):Gy F b ref n0 n1 n2=(b,3):=if_neg (by rw [h];decide)
theorem Ahs {α:Type} {rs:List α} (h:rs.length=4):∃ a b c d,rs=[a,b,c,d]:=by
 match rs,h with
 | [a,b,c,d],_=>exact ⟨a,b,c,d,rfl⟩
theorem Afy {w:ql} {ao:qm} {a b c d:qn} (h:Bw w ao [a,b,c,d]):∃ g off,ao=some (qzA g off)/\g<w.heap.size/\w.cell? (qzA g off)=some (qd a)/\w.cell? (qzA g (off+1))=some (qd b)/\w.cell? (qzA g (off+2))=some (qd c)/\w.cell? (qzA g (off+3))=some (qd d):=by
 rcases h with h|⟨g,off,h1,h2,Z⟩
 ·cases h
 ·exact ⟨g,off,h1,h2,Z 0 (by simp),Z 1 (by simp),Z 2 (by simp),Z 3 (by simp)⟩
theorem Af1 {w:ql} {g off:Nat} {b c d:qn} (hg:g<w.heap.size) (h1:w.cell? (qzA g off)=some (qd b)) (h2:w.cell? (qzA g (off+1))=some (qd c)) (Z:w.cell? (qzA g (off+2))=some (qd d)):Bw w (some (qzA g off)) [b,c,d] :=
 .inr ⟨g,off,rfl,hg,λi hi=>by
  rcases (show i=0\/i=1\/i=2 by simp at hi;omega) with rfl|rfl|rfl
  ·exact h1
  ·exact h2
  ·exact Z⟩
theorem xL {F:Ii} {E:ql->Prop} {G B K:Nat} (KI:qJ F E G) (b:Bk) (q:Bp) (ao:qm) (cap:Nat) (rs:Bn) (w:ql) (hk:KS B K 1 b q w) (hE:E w) (hP:Hk b) (T:Bw w ao rs) (D:rs.length<=cap) (b7:cap<=1048577) (hd:∀ r ∈ rs,r.length<=1048576) :
  qi 176 #[qh K,qf ao rs.length cap] w (rX E B K w (Ko F b rs)):=by
 have a4:=Aa hk.lt;have R:=Aa hk;have O:=Aa hE;have a9:=Aa hP;have p:=Aa KI;obtain ⟨et,ea,A⟩:=KI.eLine w hE
 have H:qj (NF E (.iface et (.pointer (some ea)))):=⟨w,1,hE,by decide,A⟩
 have a6:qj (C5 B w w):=.refl _ _
 by_cases hl4:rs.length=4
 ·obtain ⟨r0,s,l,v,C⟩:=Ahs hl4
  have d0:=hd r0 (by rw [C];simp)
  have d1:=hd s (by rw [C];simp)
  have d2:=hd l (by rw [C];simp)
  have d3:=hd v (by rw [C];simp)
  rw [C] at T;obtain ⟨g,off,rfl,hg,t0,t1,t2,t3⟩:=Afy T;rw [C] at D ⊢
  simp only [qx,qy] at D
  clear hd T hl4 hk hE hP KI C
  by_cases hr0:r0=[]
  ·have HR:qj (Ko F b [r0,s,l,v]=(b,1)):=if_neg (by rintro ⟨_,h,_⟩;exact h hr0)
   rw [HR.o];subst hr0;clear HR
   go_enter func176,ntmps176
   go_wp2;go_ret
   exact Ij H.o (by decide) R.o a6.o
  ·have c8:(r0 == [])=false:=by simpa using hr0
   have j:qj (qi 214 #[qf (some (qzA g (off+1))) 3 (cap - 1)] w λe w'=>∃ a k,e=.returned (.tuple #[qf a (Bx [s,l,v]).length k,.bool (Ax [s,l,v])])/\w'.ownsRow w.heap.size 3 1 (qf a (Bx [s,l,v]).length k) (Bx [s,l,v]).length ((Bx [s,l,v]).map (Value.int .i64))/\BW w w') :=
    Tm p.o (some (qzA g (off+1))) (cap - 1) [s,l,v] w (Af1 hg t1 t2 t3) (by simp) (by
     intro r hr
     simp at hr
     rcases hr with rfl|rfl|rfl <;> assumption) O.o
   have b0:qj (Ko F b [r0,s,l,v]=if Ax [s,l,v]=true then Gy F b r0 (Ah s) (Ah l) (Ah v) else (b,1)):=by
    rw [qj,Ko]
    by_cases h:Ax [s,l,v]=true
    ·rw [if_pos ⟨rfl,hr0,h⟩,if_pos h];rfl
    ·rw [if_neg (λe=>h e.2.2),if_neg h]
   rw [b0.o];clear b0 hr0
   by_cases f:Ax [s,l,v]=true
   ·have hv:Bx [s,l,v]=[Ah s,Ah l,Ah v]:=if_pos f
    have b1:=Mj s;have W:=Mj l;have b2:=Mj v
    have X:0<=Ah l:=by
     have:=List.all_eq_true.1 f l (by simp)
     simpa using this
    rw [hv,f] at j;rw [if_pos f];obtain ⟨n1,e1⟩:=Ae (Ah s);obtain ⟨n2,e2⟩:=Ae (Ah l);obtain ⟨n3,e3⟩:=Ae (Ah v);rw [e1] at j b1 ⊢;rw [e2] at j W X ⊢;rw [e3] at j b2 ⊢
    simp only [qx,qy,List.map_cons,List.map_nil] at j
    clear hv e1 e2 e3 f A
    go_enter func176,ntmps176
    go_wp2_with fail
    refine Calls.m j.o ?_;rintro e x ⟨a,k,rfl,Y,M⟩
    obtain ⟨I,rfl,-,-⟩:=Lg Y (by omega)
    have m0:x.cell? (qzA I 0)=some (qzI n1):=by simpa using Y.cellAt 0 (by omega)
    have m1:x.cell? (qzA I 1)=some (qzI n2):=by simpa using Y.cellAt 1 (by omega)
    have m2:x.cell? (qzA I 2)=some (qzI n3):=by simpa using Y.cellAt 2 (by omega)
    have s0:x.cell? (qzA g off)=some (qd r0):=(M.c g off hg).t t0;have y:=Aa (R.o.below M);have V:qj (C5 B w x):=.of M a4.o;have a8:=Aa (p.o.grow O.o M);have T:=y.o.z;have lK:=T.lt
    have HS:qj (∀ u,BW x u->u.cell? (qzA K 3)=some (qzI b.today)/\u.cell? (qzA K 5)=some (qf q.a b.az.length q.ac)/\u.cell? (qzA g off)=some (qd r0)/\u.cell? (qzA I 0)=some (qzI n1)/\u.cell? (qzA I 1)=some (qzI n2)/\u.cell? (qzA I 2)=some (qzI n3)):=λu h=>by
     have l1:=qs x _ m0;have l2:=qs x _ s0;exact ⟨(h.c K 3 lK).t T.c3,(h.c K 5 lK).t T.c5,(h.c g off l2).t s0,(h.c I 0 l1).t m0,(h.c I 1 l1).t m1,(h.c I 2 l1).t m2⟩
    have N:qj (∀ u,BW x u->qi 217 #[qf q.a b.az.length q.ac,.agg #[qd r0,qzI n1,qzI n2,qzI n3,qzI b.today,.bool false]] u (Wv u (F.add b.az ⟨r0,n1,n2,n3,b.today,false⟩) (F.addOk b.az ⟨r0,n1,n2,n3,b.today,false⟩))):=λu h =>
     p.o.add q.a q.ac b.az ⟨r0,n1,n2,n3,b.today,false⟩ u (y.o.below h).at.az a9.o.sm.2.1 a9.o.ref d0 ⟨X,W.2⟩
    have k0:BW x x:=bR;have HY:qj _:=@Aay F b r0 n1 n2 n3;have S:qj _:=@pV F b r0 n1 n2 n3;obtain ⟨L,hL⟩:=Ae (F.add b.az ⟨r0,n1,n2,n3,b.today,false⟩);obtain ⟨ok,f⟩:=Ae (F.addOk b.az ⟨r0,n1,n2,n3,b.today,false⟩);rw [hL] at N HY;rw [f] at N HY S;clear Y M j hL f T lK t0 t1 t2 t3 X b1 W b2;obtain ⟨q3,q5,qg,qa,qb,qc⟩:=HS.o _ k0;clear m0 m1 m2 s0;go_upto_region 6 with fail
    go_region_held3 (λu=>u.cell? (qzA K 3)=some (qzI b.today)/\u.cell? (qzA K 5)=some (qf q.a b.az.length q.ac)/\u.cell? (qzA g off)=some (qd r0)/\u.cell? (qzA I 0)=some (qzI n1)/\u.cell? (qzA I 1)=some (qzI n2)/\u.cell? (qzA I 2)=some (qzI n3)) (first|with_reducible exact HS.o _ k0|with_reducible exact HS.o _ k0.drew|with_reducible exact HS.o _ k3) ((go_at_call 217;(first|with_reducible refine Calls.m (N.o _ k0) ?_|with_reducible refine Calls.m (N.o _ k0.drew) ?_);rintro e w3 ⟨a3,c3,rfl,o3,p3⟩;have k3:BW x w3:=(by first|exact p3|exact (Below.t (Below.refl x.heap.size x).drew p3))))
    all_goals
     rename_i hheld
     have J:=Aa (y.o.below k3);have a7:=Aa y.o.lt;have a5:=Aa (V.o.t (.of k3 a7.o));obtain ⟨et,ea,A⟩:=p.o.eAuth w3 (p.o.grow a8.o k3)
     have H:qj (NF E (.iface et (.pointer (some ea)))):=⟨w3,5,(p.o.grow a8.o k3),by decide,A⟩
     have b6:=Aa ((by first|exact o3|exact (by simpa using o3)))
     clear hheld q3 q5 qg qa qb qc k0 k3 p3 o3
     cases ok
     ·have HQ:qj _:=S.o rfl
      clear HY S;go_wp2;go_ret;rw [HQ.o]
      exact Ij H.o (by decide) J.o a5.o
     ·have HQ:qj _:=HY.o rfl
      have b5:qj _:=J.o.setA b6.o a7.o;have b4:qj (C5 B w (w3.setCell (qzA K 5) (qf a3 L.length c3))):=a5.o.setK J.o.kt y.o.hK;have z5:=J.o.z.z5;have c5:=J.o.z.c5;clear HY S;go_wp2;go_ret;rw [HQ.o];exact oB b5.o b4.o
   ·have U:Ax [s,l,v]=false:=by simpa using f
    rw [if_neg f];obtain ⟨L,hL⟩:=Ae (Bx [s,l,v]);rw [hL,U] at j;clear hL f U A
    go_enter func176,ntmps176
    go_wp2_with fail
    refine Calls.m j.o ?_;rintro e x ⟨a,k,rfl,Y,M⟩;have y:=Aa (R.o.below M);have V:qj (C5 B w x):=.of M a4.o;obtain ⟨et,ea,A⟩:=p.o.eLine x (p.o.grow O.o M)
    have H:qj (NF E (.iface et (.pointer (some ea)))):=⟨x,1,(p.o.grow O.o M),by decide,A⟩
    clear Y M j t0 t1 t2 t3;go_wp2;go_ret
    exact Ij H.o (by decide) y.o V.o
 ·have HR:qj (Ko F b rs=(b,1)):=if_neg (λe=>hl4 e.1)
  rw [HR.o];obtain ⟨n,b3⟩:=Ae rs.length;rw [b3] at hl4 D ⊢
  have b8:((n:Int) == 4)=false:=by
   have:¬ (n:Int)=4:=by omega
   simpa using this
  have b9:((n:Int) != 4)=true:=by
   have:¬ (n:Int)=4:=by omega
   simpa using this
  clear HR hl4 hd T hk hE hP KI b3 D b7
  go_enter func176,ntmps176
  go_wp2;go_ret
  exact Ij H.o (by decide) R.o a6.o
def PsR (B K:Nat) (F:Ii) (b:Bk) (q:Bp) (es:List En) (w:ql) (e:Ending) (w':ql):Prop :=
 e=.returned (.bool (F.allOk b.ls es))/\(∃ a c,KS B K 1 ⟨b.today,b.off,b.az,b.cs,F.all b.ls es,b.log⟩ ⟨q.o,q.oc,q.a,q.ac,q.c,q.cc,a,c,q.g,q.gc⟩ w')/\C5 B w w'/\w.grownBy w' (some K)
theorem Oy {F:Ii} {E:ql->Prop} {G B K:Nat} (N:qJ F E G) (b:Bk) (q:Bp) (I:qm) (O:Nat) (es:List En) (w:ql) (hk:KS B K 1 b q w) (J:Hk b) (S:Fg w I es) (hn:es.length<=1048576) (hd:∀ x ∈ es,Xz x) :
  qi 220 #[.pointer (some (qzA K 2)),qf I es.length O] w (PsR B K F b q es w):=by
 have i:=Aa (N.post q.l q.lc b.ls I O es w hk.at.ls J.sm.2.2.2.1 J.lb S hn hd);have r:=Aa hk.lt;have s:=Aa hk;obtain ⟨L,hL⟩:=Ae (F.all b.ls es);obtain ⟨ok,n⟩:=Ae (F.allOk b.ls es);have C:=Aa hL;have D:=Aa n;rw [hL,n] at i;obtain ⟨c0,c1,c2,c3,c4,c5,c6,c7,z0,z1,z2,z3,z4,z5,z6,z7⟩:=hk.z;clear S hd hk J N hL n
 go_enter func220,ntmps220
 go_wp2_with fail
 refine Calls.m i.o ?_;rintro e p ⟨a,k,rfl,T,H⟩;have u:Below p.heap.size p (p.alloc (.cells #[qf a L.length k] 38)):=bR.alloc nL _;have M:=Aa (A5 T u);have d:=Aa ((s.o.below H).below u);have f:=Aa (next H u)
 have U:(p.alloc (.cells #[qf a L.length k] 38)).cell? ⟨p.heap.size,0,none⟩=some (qf a L.length k):=by simp
 clear c0 c1 c2 c3 c4 c5 c6 c7 z0 z1 z2 z3 z4 z5 z6 z7 T H u i;go_upto_region 2 with fail
 obtain ⟨W,R⟩:=A0 (p.alloc (.cells #[qf a L.length k] 38));rw [<- R] at M d f U ⊢;clear R;have c2:=d.o.z.c2;have z2:=d.o.z.z2;have A:qj _:=d.o.setL M.o r.o
 have y:qj (w.grownBy (W.setCell (qzA K 2) (qf a L.length k)) (some K)):=by
  have h:=f.o
  exact (World.grownBy.t ⟨h.os,h.tape,h.output,h.size,λj hj _=>h.block j hj⟩ (An W K 2 _))
 have v:qj (C5 B w (W.setCell (qzA K 2) (qf a L.length k))):=(C5.of f.o r.o).setK d.o.kt s.o.hK;go_wp2;go_ret;refine ⟨?_,⟨a,k,?_⟩,v.o,y.o⟩
 ·rw [D.o];rfl
 ·rw [C.o];exact A.o
def Aio:Array Value:=#[.string ⟨#[97,115,107]⟩,.string ⟨#[103,105,118,101]⟩,.string ⟨#[99,104,97,114,103,101]⟩,.string ⟨#[97,110,115,119,101,114]⟩,.string ⟨#[115,101,99,111,110,100]⟩,.string ⟨#[97,99,99,101,112,116]⟩,.string ⟨#[114,101,102,117,115,101]⟩,.string ⟨#[114,117,108,101]⟩,.string ⟨#[101,120,112,105,114,101]⟩,.string ⟨#[99,108,111,115,101]⟩]
theorem Afd (k:Nat) (h:k<10) (V:ql):(Instr.index 266 (.agg Aio) (qzI (k:Int))).run prog V=.ok (qd (Ao G7 k)) V:=by
 rcases (show k=0\/k=1\/k=2\/k=3\/k=4\/k=5\/k=6\/k=7\/k=8\/k=9 by omega) with rfl|rfl|rfl|rfl|rfl|rfl|rfl|rfl|rfl|rfl <;> kernel_rfl
def Yi (s:qn):Int:=if 0<=Cp s then Cp s else 0
theorem xU {F:Ii} {E:ql->Prop} {G:Nat} (K:qJ F E G) (s:qn) (w:ql) (m:E w) :
  qi 222 #[qd s] w λe w'=>e=.returned (.tuple #[qzI (Yi s),.bool (decide (0<=Cp s))])/\BW w w':=by
 have l:qj (Cp s=E9 s (G7.drop 0) 0):=rfl;have hw:=K.words w m
 have p:w.cell? (qzA 3 0)=some (.string ⟨#[97,115,107]⟩):=hw 0 (by decide)
 have q:w.cell? (qzA 3 1)=some (.string ⟨#[103,105,118,101]⟩):=hw 1 (by decide)
 have u:w.cell? (qzA 3 2)=some (.string ⟨#[99,104,97,114,103,101]⟩):=hw 2 (by decide)
 have v:w.cell? (qzA 3 3)=some (.string ⟨#[97,110,115,119,101,114]⟩):=hw 3 (by decide)
 have x:w.cell? (qzA 3 4)=some (.string ⟨#[115,101,99,111,110,100]⟩):=hw 4 (by decide)
 have y:w.cell? (qzA 3 5)=some (.string ⟨#[97,99,99,101,112,116]⟩):=hw 5 (by decide)
 have z:w.cell? (qzA 3 6)=some (.string ⟨#[114,101,102,117,115,101]⟩):=hw 6 (by decide)
 have A:w.cell? (qzA 3 7)=some (.string ⟨#[114,117,108,101]⟩):=hw 7 (by decide)
 have B:w.cell? (qzA 3 8)=some (.string ⟨#[101,120,112,105,114,101]⟩):=hw 8 (by decide)
 have C:w.cell? (qzA 3 9)=some (.string ⟨#[99,108,111,115,101]⟩):=hw 9 (by decide)
 clear hw m K
 go_enter func222,ntmps222
 go_wp2;clear p q u v x y z A B C
 go_loopw [7] (λi wr=>∃ (k:Nat),k<=10/\i=qzI (k:Int)/\Cp s=E9 s (G7.drop k) k/\BW w wr) (λi _=>10 - (intOf i).toNat)
 case atStart=>exact ⟨0,qw _,rfl,l.o,bR⟩
 case round =>
  obtain ⟨k,hk,rfl,b,f⟩:=hrel;have c:=Aa f
  by_cases hlt:k<10
  ·have H:(k:Int)<10:=by omega
   have a:=aM s G7 k hlt;have g:=Afd k hlt;unfold Aio at g;obtain ⟨r,n⟩:=Ae (Ao G7 k);rw [n] at a g;clear n f l
   by_cases hrs:r=s
   ·subst hrs
    rw [if_pos rfl] at a
    have d:qj (Yi r=(k:Int)/\decide (0<=Cp r)=true):=by
     have e:Cp r=(k:Int):=b.t a;unfold Yi;rw [e]
     exact ⟨if_pos (by omega),decide_eq_true (by omega)⟩
    clear a b;go_wp2;go_ret2;exact ⟨Sp d.o.1.s d.o.2.s,c.o⟩
   ·rw [if_neg hrs] at a
    have d:=Aa (b.t a)
    have D:(r == s)=false:=by simpa using hrs
    clear a b;go_wp2
    go_roundw
    case rel=>exact ⟨k+1,by omega,by go_num,d.o,c.o⟩
    case measure=>simp [intOf];omega
  ·have j:k=10:=by omega
   subst j
   have d:qj (Yi s=0/\decide (0<=Cp s)=false):=by
    have e:Cp s = -1:=b;unfold Yi;rw [e]
    exact ⟨by simp,by simp⟩
   clear f b;go_wp2;go_ret2;exact ⟨Sp d.o.1.s d.o.2.s,c.o⟩
end Kb
end Go.Proofs.YtfpafnefpmmofaaGreatDoor
