import Derived.Test.YtfpafnefpmmofaaGreatDoorJW1a
import Derived.Conc.MuLone
set_option maxRecDepth 100000
set_option maxHeartbeats 12800000
namespace Go.Proofs.YtfpafnefpmmofaaGreatDoor
open Go.RowKit Go.Proofs.Tryz
theorem bN (ao:qm) (cap:Nat) (ls:List Ln) (w:ql) (l:Ar w ao ls) (hn:ls.length<=1048576) :
  qi 30 #[.agg #[qf ao ls.length cap]] w λe w'=>∃ g,e=.returned (.agg #[qf (some (qzA g 0)) ls.length ls.length]) /\
   w'.ownsRow w.heap.size 151 3 (qf (some (qzA g 0)) ls.length ls.length) ls.length (Ak ls)/\BW w w':=by
 go_enter func30,ntmps30
 go_wp2_with fail
 refine (iW _ _ _ _ (l.below (by go_grown)) hn).m ?_
 rintro e u ⟨rfl,ho,d⟩
 generalize hW:(((w.alloc (.cells #[qf ao ls.length cap] 27)).alloc (.cells #[qe] 38)).alloc (.cells #[qe] 38))=W at ho d ⊢
 have hs:W.heap.size=w.heap.size+3:=by rw [<- hW];simp
 have bW:BW w W:=by rw [<- hW];go_grown
 have c1:u.cell? ⟨w.heap.size+1,0,none⟩=some qe:=(d.cell (p:=⟨w.heap.size+1,0,none⟩) (by rw [hs];simp)).t (by rw [<- hW];simp [go_sem])
 have c3:u.cell? ⟨w.heap.size+1+1,0,none⟩=some qe:=(d.cell (p:=⟨w.heap.size+1+1,0,none⟩) (by rw [hs];simp)).t (by rw [<- hW];simp [go_sem])
 have z1:u.frozen? ⟨w.heap.size+1,0,none⟩=false:=(d.frozen (p:=⟨w.heap.size+1,0,none⟩) (by rw [hs];simp)).t (by rw [<- hW];simp [go_sem])
 have z3:u.frozen? ⟨w.heap.size+1+1,0,none⟩=false:=(d.frozen (p:=⟨w.heap.size+1+1,0,none⟩) (by rw [hs];simp)).t (by rw [<- hW];simp [go_sem])
 have L:=Aa (bW.t (d.m (by rw [hs];omega)))
 have x:=Aa ho;have y:qj _:=hs;clear d bW hW ho hs l;go_wp2
 refine bodyPost_ret (by simp [results,results30,go_sem,c1];try rfl) rfl ?_
 refine ⟨W.heap.size,rfl,?_,(L.o.setCell (by show w.heap.size<=w.heap.size+1+1;omega) _).setCell (by show w.heap.size<=w.heap.size+1;omega) _⟩
 have hs:=y.o
 have B:∀ (c:Nat) (g:Nat),c<=2->(Value.slice (some ⟨W.heap.size,0,none⟩) ls.length ls.length).ownBlock=some g->g≠w.heap.size+c:=by
  intro c g hc h
  simp [Value.ownBlock] at h
  omega
 exact Bz (Bf (Bf x.o _ _ (λg h=>B 2 g (by omega) h)) _ _ (λg h=>B 1 g (by omega) h)) (by omega)
theorem Zd (ao V:qm) (c1 c2:Nat) (ls:List Ln) (w:ql) (hx:Ar w ao ls) (hy:Ar w V ls) (M:ls.length<=1099511627776) :
  qi 39 #[.agg #[qf ao ls.length c1],.agg #[qf V ls.length c2]] w λe w'=>e=.returned (.bool true)/\BW w w':=by
 have bel:Below w.heap.size w ((w.alloc (.cells #[qf ao ls.length c1] 38)).alloc (.cells #[qf V ls.length c2] 38)):=by go_grown
 have F:=hx.below bel;have H:=hy.below bel;have L:qj _:=bel;clear bel hx hy
 go_enter func39,ntmps39
 go_wp2_with fail
 refine (dW _ _ _ _ _ _ F H M).m ?_;rintro e u ⟨rfl,d⟩;have U:=L.o.t (d.m L.o.size);clear d F H;go_wp2;go_ret;exact ⟨rfl,U⟩
def lJ (k n:Nat):List Ln:=(List.range n).map λi=>(((k+3*i:Nat):Int),((k+3*i+1:Nat):Int),((k+3*i+2:Nat):Int))
theorem Sl (k n:Nat):(lJ k n).length=n:=by simp [lJ]
theorem Ahq (k n i:Nat) (h:i<n):Cw (lJ k n) i=(((k+3*i:Nat):Int),((k+3*i+1:Nat):Int),((k+3*i+2:Nat):Int)):=by simp [Cw,lJ,h]
def Hm (ls:List Ln) (k j:Nat):List Ln:=lJ k j++ls.drop j
theorem aO (ls:List Ln) (k j:Nat) (h:j<=ls.length):(Hm ls k j).length=ls.length:=by simp [Hm,Sl];omega
theorem pR (ls:List Ln) (k:Nat):Hm ls k 0=ls:=by simp [Hm,lJ]
theorem yB (ls:List Ln) (k:Nat):Hm ls k ls.length=lJ k ls.length:=by simp [Hm]
theorem pE (ls:List Ln) (k j:Nat) (h:j<ls.length):(Hm ls k j).set j (((k+3*j:Nat):Int),((k+3*j+1:Nat):Int),((k+3*j+2:Nat):Int))=Hm ls k (j+1):=by
 unfold Hm
 rw [List.set_append,if_neg (by rw [Sl];omega),Sl,Nat.sub_self,jc h,List.set_cons_zero]
 simp [lJ,List.range_succ]
theorem Yw (ao:qm) (cap base k:Nat) (ls:List Ln) (w:ql) (ho:w.ownsRow base 151 3 (qf ao ls.length cap) ls.length (Ak ls)) (hn:ls.length<=1099511627) (J:k<=1099511627) :
  qi 85 #[qf ao ls.length cap,qzI k] w λe w'=>e=.returned (qzI (k+3*ls.length:Nat)) /\
   w'.ownsRow base 151 3 (qf ao ls.length cap) ls.length (Ak (lJ k ls.length))/\w.grownBy w' (Value.slice ao ls.length cap).ownBlock:=by
 rcases ho.2 with ⟨D,h0⟩|⟨g,z,cw,D,s⟩
 ·obtain rfl:ls=[]:=qz h0
  obtain ⟨rfl,rfl⟩:ao=none/\cap=0:=by simpa using D
  clear D h0
  go_enter func85,ntmps85
  go_wp2;refine wp_loop_rounds 1 ?_;rw [rounds_succ];go_wp2;go_ret
  exact ⟨Af (by simp),jh _ _ _ _,jm _ _⟩
 ·obtain ⟨rfl,rfl⟩:ao=some (qzA g 0)/\cap=z:=by simpa using D
  clear D s
  go_enter func85,ntmps85
  go_wp2
  go_loopw [1,5] (λc i wr=>∃ j:Nat,j<=ls.length/\i=qzI j/\c=qzI (k+3*j:Nat)/\wr.ownsRow base 151 3 (qf (some (qzA g 0)) ls.length cap) ls.length (Ak (Hm ls k j))/\w.grownBy wr (some g)) (λ_ i _=>ls.length - (intOf i).toNat)
  case atStart=>exact ⟨0,qw _,rfl,rfl,by rw [pR];exact ho,jm _ _⟩
  case round =>
   obtain ⟨j,X,rfl,rfl,a,q⟩:=hrel;clear ho
   by_cases hlt:j<ls.length
   ·have Y:(j:Int)<(ls.length:Int):=by omega
    have f:=Jl (Hm ls k j) j (by rw [aO ls k j X];exact hlt)
    have c1:wr.cell? (qzA g (j*3))=some (qzI (Cw (Hm ls k j) j).1):=by rw [a.cellAt (j*3) (by omega)];exact f.1
    have c2:wr.cell? (qzA g (j*3+1))=some (qzI (Cw (Hm ls k j) j).2.1):=by rw [a.cellAt (j*3+1) (by omega)];exact f.2.1
    have c3:wr.cell? (qzA g (j*3+2))=some (qzI (Cw (Hm ls k j) j).2.2):=by rw [a.cellAt (j*3+2) (by omega)];exact f.2.2
    have d1:wr.frozen? (qzA g (j*3))=false:=a.frozenAt _;have d2:wr.frozen? (qzA g (j*3+1))=false:=a.frozenAt _;have d3:wr.frozen? (qzA g (j*3+2))=false:=a.frozenAt _;have O:=a.stored (j*3) (qzI (k+3*j:Nat));have S:=O.1.stored (j*3+1) (qzI (k+3*j+1:Nat));have T:=S.1.stored (j*3+2) (qzI (k+3*j+2:Nat))
    have y:=Xr (Hm ls k j) (((k+3*j:Nat):Int),((k+3*j+1:Nat):Int),((k+3*j+2:Nat):Int)) j (by rw [aO ls k j X];exact hlt)
    simp only at y
    have R:=T.1;rw [y,pE ls k j hlt] at R;have G:=((q.t O.2).t S.2).t T.2;obtain ⟨m,hm⟩:∃ m:Nat,k+3*j=m:=⟨_,rfl⟩;obtain ⟨o1,M⟩:=Ae ((Cw (Hm ls k j) j).1);obtain ⟨o2,h2⟩:=Ae ((Cw (Hm ls k j) j).2.1);obtain ⟨o3,h3⟩:=Ae ((Cw (Hm ls k j) j).2.2);rw [hm] at R G ⊢;rw [M] at c1;rw [h2] at c2;rw [h3] at c3
    have e1:((m+1:Nat):Int)=(m:Int)+1:=by omega
    have e2:((m+2:Nat):Int)=(m:Int)+1+1:=by omega
    rw [e1,e2] at R G;have HR:qj _:=R;have N:qj _:=G
    have A:m<=5000000000:=by omega
    have v:qj (k+3 * (j+1)=m+1+1+1):=by rw [qj];omega
    clear O S T R G a q f hm M h2 h3 y e1 e2;go_wp2
    go_roundw
    case rel=>exact ⟨j+1,by omega,by go_num,by rw [v.o];go_num,HR.o,N.o⟩
    case measure=>simp [intOf];omega
   ·have r:j=ls.length:=by omega
    subst r;rw [yB] at a;have x:qj _:=a;clear a;go_wp2;go_ret;exact ⟨rfl,x.o,q⟩
theorem Ze (ao:qm) (cap n k:Nat) (w:ql) (l:Ar w ao (lJ k n)) (hn:n<=1099511627) (J:k<=1099511627) :
  qi 86 #[qf ao n cap,qzI k] w λe w'=>e=.returned (qzI (k+3*n:Nat))/\BW w w':=by
 have HZ:=Aa l;clear l
 go_enter func86,ntmps86
 go_wp2
 go_loopw [1,5] (λc i wr=>∃ j:Nat,j<=n/\i=qzI j/\c=qzI (k+3*j:Nat)/\wr=w) (λ_ i _=>n - (intOf i).toNat)
 case atStart=>exact ⟨0,qw _,rfl,rfl,rfl⟩
 case round =>
  obtain ⟨j,X,rfl,rfl,Z⟩:=hrel;subst Z
  by_cases hlt:j<n
  ·have Y:(j:Int)<(n:Int):=by omega
   obtain ⟨b,off,rfl,hb,c1,c2,c3⟩:=HZ.o.at (k:=j) (by rw [Sl];exact hlt)
   rw [Ahq k n j hlt] at c1 c2 c3
   simp only at c1 c2 c3
   obtain ⟨m,hm⟩:∃ m:Nat,k+3*j=m:=⟨_,rfl⟩;rw [hm] at c1 c2 c3 ⊢
   rw [show ((m+1:Nat):Int)=(m:Int)+1 by omega] at c2
   rw [show ((m+2:Nat):Int)=(m:Int)+1+1 by omega] at c3
   have A:m<=5000000000:=by omega
   have v:qj (k+3 * (j+1)=m+1+1+1):=by rw [qj];omega
   have n1:((m:Int) != (m:Int))=false:=by simp
   have n2:((m:Int)+1 != (m:Int)+1)=false:=by simp
   have n3:((m:Int)+1+1 != (m:Int)+1+1)=false:=by simp
   clear hm;go_wp2
   go_roundw
   case rel=>exact ⟨j+1,by omega,by go_num,by rw [v.o];go_num,trivial⟩
   case measure=>simp [intOf];omega
  ·have r:j=n:=by omega
   subst r;go_wp2;go_ret;exact ⟨rfl,bR⟩
theorem Nh (ao:qm) (cap base k:Nat) (ls:List Ln) (w:ql) (ho:w.ownsRow base 151 3 (qf ao ls.length cap) ls.length (Ak ls)) (hn:ls.length<=1099511627) (J:k<=1099511627) :
  qi 46 #[.agg #[qf ao ls.length cap],qzI k] w λe w'=>e=.returned (qzI (k+3*ls.length:Nat)) /\
   w'.ownsRow base 151 3 (qf ao ls.length cap) ls.length (Ak (lJ k ls.length))/\w.grownBy w' (Value.slice ao ls.length cap).ownBlock:=by
 have bel:Below w.heap.size w (w.alloc (.cells #[qf ao ls.length cap] 38)):=by go_grown
 have C:=A5 ho bel;have gb:w.grownBy (w.alloc (.cells #[qf ao ls.length cap] 38)) (Value.slice ao ls.length cap).ownBlock:=World.grownBy_alloc w _ _
 go_enter func46,ntmps46
 go_wp2_with fail
 refine (Yw _ _ _ _ _ _ C hn J).m ?_;rintro e u ⟨rfl,o1,g1⟩;have N:qj _:=gb.t g1;have x:qj _:=o1;clear bel ho C o1 g1 gb;go_wp2;go_ret;exact ⟨rfl,x.o,N.o⟩
theorem Ya (ao:qm) (cap n k:Nat) (w:ql) (l:Ar w ao (lJ k n)) (hn:n<=1099511627) (J:k<=1099511627) :
  qi 52 #[.agg #[qf ao n cap],qzI k] w λe w'=>e=.returned (qzI (k+3*n:Nat))/\BW w w':=by
 have bel:Below w.heap.size w (w.alloc (.cells #[qf ao n cap] 38)):=by go_grown
 have I:=l.below bel
 go_enter func52,ntmps52
 go_wp2_with fail
 refine (Ze _ _ _ _ _ I hn J).m ?_;rintro e u ⟨rfl,d⟩;have U:=bel.t (d.m bel.size);obtain ⟨m,hm⟩:=Ae (k+3*n);rw [hm];have v:qj _:=hm
 have A:m<=5000000000:=by omega
 clear bel l I d hm;go_wp2;go_ret
 exact ⟨Af (by rw [v.o]),U⟩
def Aiq (x:En):List Value:=[qzI x.1,qzI x.2.1,qzI x.2.2.1,qzI x.2.2.2]
def B9 (es:List En):List Value:=es.flatMap Aiq
theorem Ui (x:En) (r:List En):B9 (x::r)=qzI x.1::qzI x.2.1::qzI x.2.2.1::qzI x.2.2.2::B9 r:=rfl
theorem nN (es:List En):(B9 es).length=es.length*4:=by
 induction es with
 | nil=>rfl
 | cons f r ih=>rw [Ui];simp [ih];omega
theorem wN (es:List En):∀ k,k<es.length->(B9 es)[k*4]?=some (qzI (Mn es k).1)/\(B9 es)[k*4+1]?=some (qzI (Mn es k).2.1)/\(B9 es)[k*4+2]?=some (qzI (Mn es k).2.2.1)/\(B9 es)[k*4+3]?=some (qzI (Mn es k).2.2.2):=by
 induction es with
 | nil=>intro k h;simp at h
 | cons f r ih =>
  intro k h;rw [Ui]
  cases k with
  | zero=>exact ⟨rfl,rfl,rfl,rfl⟩
  | succ k =>
   have:=ih k (by simpa using h)
   rw [show (k+1) * 4=k*4+1+1+1+1 by omega]
   simp only [je]
   exact this
theorem Ik {w:ql} {base n:Nat} {t:TypeId} {v:Value} {es:List En} (h:w.ownsRow base t 4 v n (B9 es)):∃ ao cap,v=qf ao es.length cap/\Fg w ao es/\n=es.length:=by
 have hn:n=es.length:=by have:=h.1;rw [nN] at this;omega
 subst hn
 rcases h.2 with ⟨rfl,hn⟩|⟨g,cap,j,rfl,_⟩
 ·have:es=[]:=qz hn
  subst this;exact ⟨none,0,rfl,.inl rfl,rfl⟩
 ·refine ⟨_,cap,rfl,?_,rfl⟩
  by_cases h0:es=[]
  ·exact .inl h0
  ·refine .inr ⟨g,0,rfl,(h.lt g rfl).2,λi hi=>?_⟩
   have:=wN es i hi
   rw [qu,h.cellAt (i*4) (by omega),h.cellAt (i*4+1) (by omega),h.cellAt (i*4+2) (by omega),h.cellAt (i*4+3) (by omega)]
   exact this
theorem Js {w:ql} {base n:Nat} {t:TypeId} {ao:qm} {cap:Nat} {es:List En} (h:w.ownsRow base t 4 (qf ao es.length cap) n (B9 es)):Fg w ao es:=by
 obtain ⟨b,a,d,c,_⟩:=Ik h
 obtain ⟨rfl,_⟩:ao=b/\cap=a:=by simpa using d
 exact c
theorem Aiu:(prog.info? 217).map (λi=>(i.zero,i.size,i.bytes))=some (some (.agg #[qzI 0,qzI 0,qzI 0,qzI 0]),4,32):=by kernel_rfl
end Go.Proofs.YtfpafnefpmmofaaGreatDoor
namespace Go.Proofs.YtfpafnefpmmofaaGreatDoor
open Go.ChangeShapes Go.WideShapes Go.ChangeAt Go.RowKit Go.Proofs.Tryz
def Zg (c:Cs):Prop:=Bs c.iss/\Bs c.acq/\Bs c.cur/\Bs c.am/\Bs c.st/\Bs c.rsn/\Bs c.cl/\Bs c.bk/\Bs c.fee/\Bs c.sta/\Bs c.due
def av (a:Ac):Value:=.agg #[.int .i64 a.kind,.int .i64 a.am,.int .i64 a.rsn]
section
variable {P:Program} {H:Type} {enc:TypeId×Value->H} {W:ql}
theorem kG {t:TypeId} {f0 f1 f2 f3 f4 f5 f6 f7 f8 f9 f10 f11:Field} {fuel:Nat} {cs:List Value} {x:DataW H×List MemPlace} (he:P.underlying t=some (.struct #[f0,f1,f2,f3,f4,f5,f6,f7,f8,f9,f10,f11])) (T:P.cellsOf t=12) (o0:f0.offset=0) (o1:f1.offset=1) (o2:f2.offset=2) (o3:f3.offset=3) (o4:f4.offset=4) (o5:f5.offset=5) (o6:f6.offset=6) (o7:f7.offset=7) (o8:f8.offset=8) (o9:f9.offset=9) (k:f10.offset=10) (l:f11.offset=11)
  (c0:P.cellsOf f0.type=1) (c1:P.cellsOf f1.type=1) (c2:P.cellsOf f2.type=1) (c3:P.cellsOf f3.type=1) (c4:P.cellsOf f4.type=1) (c5:P.cellsOf f5.type=1) (c6:P.cellsOf f6.type=1) (c7:P.cellsOf f7.type=1) (c8:P.cellsOf f8.type=1) (c9:P.cellsOf f9.type=1) (c10:P.cellsOf f10.type=1) (c11:P.cellsOf f11.type=1)
  (u0:P.underlying f0.type=some (.int .i64)) (u1:P.underlying f1.type=some (.int .i64)) (u2:P.underlying f2.type=some (.int .i64)) (u3:P.underlying f3.type=some (.int .i64)) (u4:P.underlying f4.type=some (.int .i64)) (u5:P.underlying f5.type=some (.int .i64)) (u6:P.underlying f6.type=some (.int .i64)) (u7:P.underlying f7.type=some (.int .i64)) (u8:P.underlying f8.type=some (.int .i64)) (u9:P.underlying f9.type=some .bool) (u10:P.underlying f10.type=some (.int .i64)) (u11:P.underlying f11.type=some (.int .i64))
  (h:DataW.trod enc P W 0 (λ_=>true) true fuel t cs=some x):∃ c:Cs,cs=[.int .i64 c.iss,.int .i64 c.acq,.int .i64 c.cur,.int .i64 c.am,.int .i64 c.st,.int .i64 c.rsn,.int .i64 c.cl,.int .i64 c.bk,.int .i64 c.fee,.bool c.cop,.int .i64 c.sta,.int .i64 c.due]/\Zg c:=by
 obtain ⟨xs,n,_,_,C,j,b⟩:=DataW.trod_struct he h;rw [T] at C
 match xs,j,cs,C with
 | [y0,y1,y2,y3,y4,y5,y6,y7,y8,y9,y10,y11],_,[a0,a1,a2,a3,a4,a5,a6,a7,a8,a9,a10,a11],_ =>
  have p:=b 0 f0 rfl;have q:=b 1 f1 rfl;have r:=b 2 f2 rfl;have s:=b 3 f3 rfl;have u:=b 4 f4 rfl;have v:=b 5 f5 rfl;have y:=b 6 f6 rfl;have z:=b 7 f7 rfl;have A:=b 8 f8 rfl;have B:=b 9 f9 rfl;have d:=b 10 f10 rfl;have f:=b 11 f11 rfl
  simp [o0,c0] at p
  simp [o1,c1] at q
  simp [o2,c2] at r
  simp [o3,c3] at s
  simp [o4,c4] at u
  simp [o5,c5] at v
  simp [o6,c6] at y
  simp [o7,c7] at z
  simp [o8,c8] at A
  simp [o9,c9] at B
  simp [k,c10] at d
  simp [l,c11] at f
  obtain ⟨z0,D,_,r0⟩:=DataW.trod_int u0 p;obtain ⟨z1,F,_,r1⟩:=DataW.trod_int u1 q;obtain ⟨z2,G,_,r2⟩:=DataW.trod_int u2 r;obtain ⟨z3,I,_,r3⟩:=DataW.trod_int u3 s;obtain ⟨z4,J,_,r4⟩:=DataW.trod_int u4 u;obtain ⟨z5,L,_,r5⟩:=DataW.trod_int u5 v;obtain ⟨z6,M,_,r6⟩:=DataW.trod_int u6 y;obtain ⟨z7,N,_,r7⟩:=DataW.trod_int u7 z;obtain ⟨z8,O,_,r8⟩:=DataW.trod_int u8 A;obtain ⟨z9,R,_⟩:=DataW.trod_bool u9 B;obtain ⟨z10,g,_,m⟩:=DataW.trod_int u10 d;obtain ⟨z11,i,_,o⟩:=DataW.trod_int u11 f
  simp at D F G I J L M N O R g i
  exact ⟨⟨z0,z1,z2,z3,z4,z5,z6,z7,z8,z9,z10,z11⟩,by rw [D,F,G,I,J,L,M,N,O,R,g,i],r0,r1,r2,r3,r4,r5,r6,r7,r8,m,o⟩
end
theorem pG (c:Cs) (w:ql):qi 69 #[cv c] w λe w'=>e=.returned (cv c)/\BW w w':=by
 obtain ⟨Z,S,U,am,st,ry,cl,bk,Y,V,sy,X⟩:=c;unfold cv
 go_enter func69,ntmps69
 go_wp2
 go_returns
 exact ⟨rfl,by go_grown⟩
theorem jB (c:Cs) (w:ql):qi 81 #[cv c,cv c] w λe w'=>e=.returned (.bool true)/\BW w w':=by
 obtain ⟨Z,S,U,am,st,ry,cl,bk,Y,V,sy,X⟩:=c;unfold cv
 go_enter func81,ntmps81
 go_wp2;go_ret
 exact ⟨rfl,by go_grown⟩
end Go.Proofs.YtfpafnefpmmofaaGreatDoor
namespace Go.Proofs.YtfpafnefpmmofaaGreatDoor
open Go.ChangeShapes Go.WideShapes Go.ChangeAt Go.RowKit Go.Deep Go.Proofs.Tryz
def Bm (cs:List Cs) (k:Nat):Cs:=cs.getD k ⟨0,0,0,0,0,0,0,0,0,false,0,0⟩
theorem rR {cs:List Cs} {k:Nat} (h:k<cs.length):Bm cs k=cs[k]:=by simp [Bm,h]
theorem gY {cs:List Cs} {k:Nat} (h:k<cs.length):Bm cs k ∈ cs:=by rw [rR h];exact List.getElem_mem h
def Cf (w:ql) (ao:qm) (cs:List Cs):Prop :=
 cs=[]\/∃ b off,ao=some (qzA b off)/\b<w.heap.size/\∀ i,i<cs.length->CB b (off+i*12) (Bm cs i) w
def dI (cs:List Cs):Prop:=cs.length<=maxLen/\∀ x ∈ cs,Zg x
theorem Cf.below {w w':ql} {ao:qm} {cs:List Cs} (h:Cf w ao cs) (hb:BW w w'):Cf w' ao cs:=by
 rcases h with h|⟨b,off,N,O,R⟩
 ·exact .inl h
 ·exact .inr ⟨b,off,N,jd O hb.size,λi hi=>(R i hi).below hb⟩
theorem Cf.at {w:ql} {ao:qm} {cs:List Cs} (h:Cf w ao cs) {k:Nat} (hk:k<cs.length):∃ b off,ao=some (qzA b off)/\b<w.heap.size/\CB b (off+k*12) (Bm cs k) w:=by
 rcases h with rfl|⟨b,off,N,O,R⟩
 ·simp at hk
 ·exact ⟨b,off,N,O,R k hk⟩
section
variable {P:Program} {H:Type} {enc:TypeId×Value->H} {W:ql}
theorem kM {t e:TypeId} {f0 f1 f2 f3 f4 f5 f6 f7 f8 f9 f10 f11:Field} {fuel:Nat} {y:Value} {x:DataW H×List MemPlace} (ht:P.underlying t=some (.slice e)) (he:P.underlying e=some (.struct #[f0,f1,f2,f3,f4,f5,f6,f7,f8,f9,f10,f11])) (ce:P.cellsOf e=12) (o0:f0.offset=0) (o1:f1.offset=1) (o2:f2.offset=2) (o3:f3.offset=3) (o4:f4.offset=4) (o5:f5.offset=5) (o6:f6.offset=6) (o7:f7.offset=7) (o8:f8.offset=8) (o9:f9.offset=9) (Z:f10.offset=10) (a3:f11.offset=11)
  (c0:P.cellsOf f0.type=1) (c1:P.cellsOf f1.type=1) (c2:P.cellsOf f2.type=1) (c3:P.cellsOf f3.type=1) (c4:P.cellsOf f4.type=1) (c5:P.cellsOf f5.type=1) (c6:P.cellsOf f6.type=1) (c7:P.cellsOf f7.type=1) (c8:P.cellsOf f8.type=1) (c9:P.cellsOf f9.type=1) (c10:P.cellsOf f10.type=1) (c11:P.cellsOf f11.type=1) (u0:P.underlying f0.type=some (.int .i64)) (u1:P.underlying f1.type=some (.int .i64)) (u2:P.underlying f2.type=some (.int .i64)) (u3:P.underlying f3.type=some (.int .i64)) (u4:P.underlying f4.type=some (.int .i64)) (u5:P.underlying f5.type=some (.int .i64)) (u6:P.underlying f6.type=some (.int .i64)) (u7:P.underlying f7.type=some (.int .i64)) (u8:P.underlying f8.type=some (.int .i64)) (u9:P.underlying f9.type=some .bool) (u10:P.underlying f10.type=some (.int .i64)) (u11:P.underlying f11.type=some (.int .i64))
  (h:DataW.trod enc P W 0 (λ_=>true) true fuel t [y]=some x):∃ a cap ls,y=qf a (List.length ls) cap/\Cf W a ls/\dI ls:=by
 rcases open_slice ht h with ⟨e1,_⟩|⟨a,len,cap,m,n,D,Pl,e1,hb,V,hm,I,_,hx⟩
 ·simp at e1
  exact ⟨none,0,[],by rw [e1];rfl,.inl rfl,qw _,λf hf=>by cases hf⟩
 ·simp at e1 I
  subst I
  haveI:Inhabited Cs:=⟨⟨0,0,0,0,0,0,0,0,0,false,0,0⟩⟩
  obtain ⟨F,hF⟩:=choose_lt (α:=Cs) (n:=m) (p:=λi l=>W.cells? 0 (a.add (i*P.cellsOf e)) (P.cellsOf e)=some (jX l).toList/\Zg l) (λi hi=>by
   obtain ⟨a4,L,M⟩:=hx i hi;obtain ⟨l,o,U⟩:=kG he ce o0 o1 o2 o3 o4 o5 o6 o7 o8 o9 Z a3 c0 c1 c2 c3 c4 c5 c6 c7 c8 c9 c10 c11 u0 u1 u2 u3 u4 u5 u6 u7 u8 u9 u10 u11 M
   exact ⟨l,by rw [L,o];rfl,U⟩)
  refine ⟨some a,m,(List.range len).map F,by rw [e1];simp,?_,by rw [List.length_map,List.length_range];exact jk V hm,λf hf=>by
   obtain ⟨i,hi,rfl⟩:=List.mem_map.1 hf
   exact (hF i (by have:=List.mem_range.1 hi;omega)).2⟩
  by_cases hz:len=0
  ·subst hz;exact .inl rfl
  ·have each:∀ i,i<len->∀ j v,((jX (F i)).toList)[j]?=some v->W.cell? ((a.add (i*12)).add j)=some v:=λi hi j v z=>by
     have g:=(hF i (by omega)).1
     rw [ce] at g;obtain ⟨_,_,q⟩:=World.cells?_some g
     have:=q j (by have:=(List.getElem?_eq_some_iff.1 z).1;simpa [jX] using this)
     rw [this];simpa using z
   obtain ⟨bk,off,J⟩:=a
   have G:=each 0 (by omega) 0 _ rfl
   have s:J=none:=by simpa [Addr.add] using World.cell?_spot G
   subst s
   refine .inr ⟨bk,off,rfl,?_,λi hi=>?_⟩
   ·have:=qs W _ G
    simpa [Ot] using this
   ·have d:i<len:=by simpa using hi
    have S:Bm ((List.range len).map F) i=F i:=by simp [Bm,d]
    rw [S];have g0:=each i d 0 _ rfl;have L:=each i d 1 _ rfl;have M:=each i d 2 _ rfl;have g3:=each i d 3 _ rfl;have g4:=each i d 4 _ rfl;have g5:=each i d 5 _ rfl;have g6:=each i d 6 _ rfl;have g7:=each i d 7 _ rfl;have g8:=each i d 8 _ rfl;have g9:=each i d 9 _ rfl;have B:=each i d 10 _ rfl;have C:=each i d 11 _ rfl;rw [Ot] at g0 L M g3 g4 g5 g6 g7 g8 g9 B C;exact ⟨g0,L,M,g3,g4,g5,g6,g7,g8,g9,B,C⟩
end
def Am (cs:List Cs):List Value:=cs.flatMap λc=>(jX c).toList
theorem Rc (c:Cs) (r:List Cs):Am (c::r)=(jX c).toList++Am r:=rfl
theorem Oh (a b:List Cs):Am (a++b)=Am a++Am b:=by simp [Am]
theorem Io (cs:List Cs):(Am cs).length=cs.length*12:=by
 induction cs with
 | nil=>rfl
 | cons c r ih=>rw [Rc,qv,ih];simp [jX];omega
theorem Gn (cs:List Cs):∀ (k j:Nat),k<cs.length->j<12->(Am cs)[k*12+j]?=(jX (Bm cs k)).toList[j]?:=by
 induction cs with
 | nil=>intro k j h;simp at h
 | cons c r ih =>
  intro k j hk T;rw [Rc]
  cases k with
  | zero =>
   rw [List.getElem?_append_left (by simp [jX];omega)]
   simp [Bm]
  | succ k =>
   have o:(jX c).toList.length=12:=by simp [jX]
   rw [List.getElem?_append_right (by rw [o];omega),o,show (k+1) * 12+j - 12=k*12+j by omega,ih k j (by simpa using hk) T]
   simp [Bm]
theorem gB (cs:List Cs):∀ u ∈ Am cs,u.oneCell'=true:=by
 intro u hu
 simp [Am,jX] at hu
 obtain ⟨c,_,h⟩:=hu
 rcases h with rfl|rfl|rfl|rfl|rfl|rfl|rfl|rfl|rfl|rfl|rfl|rfl <;> rfl
theorem Hz {w:ql} {base n:Nat} {t:TypeId} {ao:qm} {cap:Nat} {cs:List Cs} (h:w.ownsRow base t 12 (qf ao n cap) n (Am cs)):Cf w ao cs:=by
 rcases h.2 with ⟨z,h0⟩|⟨g,A,cw,z,Y⟩
 ·have o:=h.1
  obtain ⟨rfl,rfl,rfl⟩:ao=none/\n=0/\cap=0:=by simpa using z
  rw [Io] at o
  exact .inl (List.length_eq_zero_iff.1 (by omega))
 ·have o:=h.1
  rw [Io] at o
  obtain ⟨rfl,rfl⟩:ao=some (qzA g 0)/\cap=A:=by simpa using z
  by_cases hz:cs=[]
  ·exact .inl hz
  ·have X:=(h.lt g rfl).2
   refine .inr ⟨g,0,rfl,X,λi hi=>?_⟩
   have e:∀ j,j<12->w.cell? (qzA g (0+i*12+j))=(jX (Bm cs i)).toList[j]?:=λj T=>by
    rw [qu,h.cellAt (i*12+j) (by omega),Gn cs i j hi T]
   exact ⟨e 0 (by omega),e 1 (by omega),e 2 (by omega),e 3 (by omega),e 4 (by omega),e 5 (by omega),e 6 (by omega),e 7 (by omega),e 8 (by omega),e 9 (by omega),e 10 (by omega),e 11 (by omega)⟩
end Go.Proofs.YtfpafnefpmmofaaGreatDoor
namespace Go.Proofs.YtfpafnefpmmofaaGreatDoor
open Go.RowKit Go.Proofs.Tryz
theorem gZ (ao:qm) (cap n:Nat) (left:Int) (w:ql) (h0:0<=left) (h1:left<=1048576) (hn:n<=9223372036854775807) :
  qi 20 #[qf ao n cap,qzI left] w λe w'=>e=.returned (qzI (Hn n left))/\w'=w:=by
 have hw:wrap64 (left - (n:Int))=left - (n:Int):=by unfold wrap64;omega
 by_cases h:left - (n:Int)<0
 ·have e:Hn n left = -1:=if_pos h
  rw [e]
  go_enter func20,ntmps20
  go_wp2;go_ret;exact ⟨rfl,rfl⟩
 ·have e:Hn n left=left - (n:Int):=if_neg h
  rw [e]
  go_enter func20,ntmps20
  go_wp2;go_ret;exact ⟨rfl,rfl⟩
theorem dO (ao bo:qm) (c1 c2:Nat) (cs:List Cs) (w:ql) (hx:Cf w ao cs) (hy:Cf w bo cs) (h1:cs.length<=1099511627776) :
  qi 38 #[qf ao cs.length c1,qf bo cs.length c2] w λe w'=>e=.returned (.bool true)/\BW w w':=by
 have HX:=Aa hx;have HY:=Aa hy;clear hx hy
 have nn:((cs.length:Int) != (cs.length:Int))=false:=by simp
 go_enter func38,ntmps38
 go_wp2
 go_loopw [5] (λi wr=>∃ k:Nat,k<=cs.length/\i=qzI k/\BW w wr) (λi _=>cs.length - (intOf i).toNat)
 case atStart=>exact ⟨0,qw _,rfl,bR⟩
 case round =>
  obtain ⟨k,hk,rfl,q⟩:=hrel;have a:=Aa q;clear q
  by_cases hlt:k<cs.length
  ·have B:(k:Int)<(cs.length:Int):=by omega
   obtain ⟨b,off,ha,hb,cx⟩:=Cf.at (Cf.below HX.o a.o) hlt;obtain ⟨d,a5,A,hd,cy⟩:=Cf.at (Cf.below HY.o a.o) hlt;subst ha;subst A;obtain ⟨⟨iz,ay,cw,am,st,ry,cl,bk,fy,cz,sy,dz⟩,hf⟩:∃ f,Bm cs k=f:=⟨_,rfl⟩;rw [hf] at cx cy;clear hf hb hd;obtain ⟨x0,x1,x2,x3,x4,x5,x6,x7,x8,x9,c,g⟩:=cx;obtain ⟨y0,y1,y2,y3,y4,y5,y6,y7,y8,y9,j,l⟩:=cy
   simp only at x0 y0 x1 y1 x2 y2 x3 y3 x4 y4 x5 y5 x6 y6 x7 y7 x8 y8 x9 y9 c j g l
   have C:=Ec wr;have F:=Ai x0;have S:=Ai y0;have G:=Ai x1;have T:=Ai y1;have H:=Ai x2;have U:=Ai y2;have I:=Ai x3;have V:=Ai y3;have J:=Ai x4;have W:=Ai y4;have L:=Ai x5;have X:=Ai y5;have M:=Ai x6;have Y:=Ai y6;have N:=Ai x7;have Z:=Ai y7;have O:=Ai x8;have a3:=Ai y8;have R:=Ai x9;have a4:=Ai y9;have r:=Ai c;have u:=Ai j;have s:=Ai g;have v:=Ai l
   have p:=Aa λ(z:Gj wr)=>jB ⟨iz,ay,cw,am,st,ry,cl,bk,fy,cz,sy,dz⟩ z.x
   clear x0 y0 x1 y1 x2 y2 x3 y3 x4 y4 x5 y5 x6 y6 x7 y7 x8 y8 x9 y9 c j g l;go_upto_region 6 with fail
   refine Aj (by kernel_rfl) (by kernel_rfl) ?_
   repeat (go_big_quiet_step (exact Bi (p.o _)))
   refine wpQuiet_nil ?_;rintro w6 ⟨⟨wz,b6⟩,D⟩;subst D;have y:=Aa (a.o.t (b6.m a.o.size));clear F S G T H U I V J W L X M Y N Z O a3 R a4 r u s v C p b6;go_wp2
   go_roundw
   case rel=>exact ⟨k+1,by omega,by go_num,y.o⟩
   case measure=>simp [intOf];omega
  ·have B:¬ (k:Int)<(cs.length:Int):=by omega
   go_wp2;go_ret;exact ⟨rfl,a.o⟩
theorem Y8 (ao:qm) (cap:Nat) (rs:Bn) (left:Int) (w:ql) (hz:Bw w ao rs) (hd:eD rs) (d4:0<=left) (d5:left<=1048576) :
  qi 22 #[qf ao rs.length cap,qzI left] w λe w'=>e=.returned (qzI (M8 rs left))/\BW w w':=by
 have hn:rs.length<=9223372036854775807:=by have:=hd.1;unfold maxLen at this;omega
 have HD:qj (∀ k,k<rs.length->(Ao rs k).length<=9223372036854775807):=by
  intro k hk;have:=hd.2 _ (Iz hk);unfold maxLen at this;omega
 clear hd
 by_cases hneg:left - (rs.length:Int)<0
 ·have H:qj (M8 rs left = -1):=if_pos hneg
  go_enter func22,ntmps22
  go_wp2;go_ret;exact ⟨Af H.o.s,bR⟩
 ·have H:qj (M8 rs left=Iq rs (left - (rs.length:Int))):=if_neg hneg
  rcases hz with rfl|⟨b,off,rfl,hb,f⟩
  ·go_enter func22,ntmps22
   go_wp2;refine wp_loop_rounds 1 ?_;rw [rounds_succ];go_wp2;go_ret
   exact ⟨Af (by rw [H.o];simp [Iq]),bR⟩
  ·have HC:=Aa f
   clear f
   go_enter func22,ntmps22
   go_wp2
   go_loopw [1,5] (λv i wr=>∃ (k:Nat) (l:Int),k<=rs.length/\i=qzI k/\v=qzI l/\0<=l/\l<=1048576/\M8 rs left=Iq (rs.drop k) l/\BW w wr) (λ_ i _=>rs.length - (intOf i).toNat)
   case atStart=>exact ⟨0,_,qw _,rfl,rfl,by omega,by omega,H.o,bR⟩
   case round =>
    obtain ⟨k,l,hk,rfl,rfl,I,h1,p,a⟩:=hrel
    by_cases hlt:k<rs.length
    ·have c1:wr.cell? (qzA b (off+k))=some (qd (Ao rs k)):=(a.c b (off+k) hb).t (HC.o k hlt)
     have b0:(k:Int)<(rs.length:Int):=by omega
     have C:=iL rs k l hlt;have c8:=HD.o k hlt;obtain ⟨s,Z⟩:=Ae (Ao rs k);rw [Z] at c1 C c8
     by_cases hng:l - (s.length:Int)<0
     ·have L:qj (M8 rs left = -1):=by rw [qj,p,C,if_pos hng]
      clear C Z p;go_wp2;go_ret;exact ⟨Af L.o.s,a⟩
     ·have L:qj (M8 rs left=Iq (rs.drop (k+1)) (l - (s.length:Int))):=by rw [qj,p,C,if_neg hng]
      clear C Z p;go_wp2
      go_roundw
      case rel=>exact ⟨k+1,_,by omega,by go_num,rfl,by omega,by omega,L.o,a⟩
      case measure=>simp [intOf];omega
    ·have:k=rs.length:=by omega
     subst this
     have L:qj (M8 rs left=l):=by rw [qj,p,ji nL];rfl
     clear p;go_wp2;go_ret;exact ⟨Af L.o.s,a⟩
theorem Yy (ao:qm) (cap:Nat) (rs:Bn) (w:ql) (hz:Bw w ao rs) (hn:rs.length<=1048576) :
  qi 31 #[qf ao rs.length cap] w λe w'=>e=.returned (qf (some ⟨w.heap.size,0,none⟩) rs.length rs.length) /\
   w'.ownsRow w.heap.size 9 1 (qf (some ⟨w.heap.size,0,none⟩) rs.length rs.length) rs.length (At rs)/\BW w w':=by
 obtain ⟨i0,hi,b4,b5,b6⟩:=info_parts Zk;have z:=Vt rs.length
 rcases hz with rfl|⟨b,off,rfl,hb,f⟩
 ·go_enter func31,ntmps31
  go_wp2_with (refine wpList_make_full _ rfl (.tmp 6) (.tmp 6) 28 rfl w.heap.size 9 i0 _ 1 underlying28 hi b4 b5 .i64 .i64 _ _ 0 rfl rfl rfl rfl (by rw [b6];omega) (by unfold maxLen;omega) nL ?_;intro w1 q hg)
  refine wp_loop_rounds 1 ?_;rw [rounds_succ];go_wp2;go_ret
  exact ⟨rfl,by simpa [madeCells,At] using q,bR.grown hg nL (λk hk=>by cases hk)⟩
 ·have HC:=Aa f
  clear f
  go_enter func31,ntmps31
  go_wp2_with (refine wpList_make_full _ rfl (.tmp 6) (.tmp 6) 28 rfl w.heap.size 9 i0 _ 1 underlying28 hi b4 b5 .i64 .i64 _ _ rs.length rfl rfl rfl rfl (by rw [b6];omega) (by unfold maxLen;omega) nL ?_;intro w1 q hg)
  rw [z,show List.replicate rs.length ([]:qn)=F9 rs 0 from by simp [F9]] at q
  have a9:BW w w1:=bR.grown hg nL (λk hk=>by cases hk)
  clear z hg
  go_loopw [4] (λi wr=>∃ k:Nat,k<=rs.length/\i=qzI k/\wr.ownsRow w.heap.size 9 1 (qf (some ⟨w.heap.size,0,none⟩) rs.length rs.length) rs.length (At (F9 rs k))/\BW w wr) (λi _=>rs.length - (intOf i).toNat)
  case atStart=>exact ⟨0,qw _,rfl,q,a9⟩
  case round =>
   obtain ⟨k,hk,rfl,ho,a⟩:=hrel;clear q a9
   by_cases hlt:k<rs.length
   ·have c1:wr.cell? (qzA b (off+k))=some (qd (Ao rs k)):=(a.c b (off+k) hb).t (HC.o k hlt)
    have b0:(k:Int)<(rs.length:Int):=by omega
    have F:qj _:=X6 rs k hlt;have HT:qj _:=Qr (F9 rs k) k (Ao rs k)
    have N:=Jj (F9 rs k) k (by rw [aH rs k hk];exact hlt)
    rw [eV rs k hlt] at N;obtain ⟨s,Z⟩:=Ae (Ao rs k);rw [Z] at c1 F HT
    have c3:wr.cell? ⟨w.heap.size,k,none⟩=some (.string ⟨#[]⟩):=by rw [ho.cellAt k (by omega)];exact N
    have c5:wr.frozen? ⟨w.heap.size,k,none⟩=false:=ho.frozenAt _
    have HR:qj ((wr.setCell ⟨w.heap.size,k,none⟩ (qd s)).ownsRow w.heap.size 9 1 (qf (some ⟨w.heap.size,0,none⟩) rs.length rs.length) rs.length (At (F9 rs (k+1)))):=by
     have R:=(ho.stored k (qd s)).1;rw [HT.o,F.o] at R;exact R
    clear ho N Z;go_wp2
    go_roundw
    case rel=>exact ⟨k+1,by omega,by go_num,HR.o,a.setCell nL _⟩
    case measure=>simp [intOf];omega
   ·have:k=rs.length:=by omega
    subst this;rw [aT] at ho;go_wp2;go_ret;exact ⟨rfl,ho,a⟩
theorem Yz (ao bo:qm) (c1 c2:Nat) (u y:Bn) (w:ql) (hx:Bw w ao u) (hy:Bw w bo y) (h1:u.length<=1099511627776) (h2:y.length<=1099511627776) :
  qi 40 #[qf ao u.length c1,qf bo y.length c2] w λe w'=>e=.returned (.bool (decide (u=y)))/\BW w w':=by
 by_cases hl:u.length=y.length
 ·rcases hx with rfl|⟨b,off,rfl,hb,O⟩
  ·have d3:y=[]:=qz hl.s
   subst d3
   go_enter func40,ntmps40
   go_wp2;refine wp_loop_rounds 1 ?_;rw [rounds_succ];go_wp2;go_ret;exact ⟨rfl,bR⟩
  ·rcases hy with rfl|⟨d,J,rfl,hd,S⟩
   ·have d2:u=[]:=qz hl
    subst d2
    go_enter func40,ntmps40
    go_wp2;refine wp_loop_rounds 1 ?_;rw [rounds_succ];go_wp2;go_ret;exact ⟨rfl,bR⟩
   ·obtain ⟨n,hn⟩:=Ae u.length
    have V:y.length=n:=by omega
    rw [hn] at O h1 ⊢;rw [V] at S ⊢;have HX:=Aa hn;have HY:=Aa V;have b7:=Aa O;have b8:=Aa S;clear hl hn V O S
    go_enter func40,ntmps40
    go_wp2
    go_loopw [5] (λi wr=>∃ k:Nat,k<=n/\i=qzI k/\(∀ j,j<k->Ao u j=Ao y j)/\BW w wr) (λi _=>n - (intOf i).toNat)
    case atStart=>exact ⟨0,qw _,rfl,λj hj=>by omega,bR⟩
    case round =>
     obtain ⟨k,hk,rfl,B,a⟩:=hrel;have F:=Aa B;clear B
     by_cases hlt:k<n
     ·have e1:wr.cell? (qzA b (off+k))=some (qd (Ao u k)):=(a.c b (off+k) hb).t (b7.o k hlt)
      have e3:wr.cell? (qzA d (J+k))=some (qd (Ao y k)):=(a.c d (J+k) hd).t (b8.o k hlt)
      have b0:(k:Int)<(n:Int):=by omega
      have M:qj (Ao u k≠Ao y k->¬ u=y):=λh e=>h (by rw [e])
      obtain ⟨s,X⟩:=Ae (Ao u k);obtain ⟨t,Y⟩:=Ae (Ao y k);rw [X] at e1;rw [Y] at e3;have a6:=Aa X;have a7:=Aa Y;clear X Y;have b1:=Ec wr;have g1:=Ai e1;have g3:=Ai e3
      by_cases hs1:s=t
      ·subst hs1
       have b9:qj (Ao u k=Ao y k):=by rw [qj,a6.o,a7.o]
       have d7:(s == s)=true:=by simp
       clear M;go_wp2
       refine Aj (by kernel_rfl) (by kernel_rfl) ?_
       repeat (go_big_quiet_step (fail))
       refine wpQuiet_nil ?_;rintro _ ⟨⟨w2,G⟩,D⟩;subst D;go_wp2
       go_roundw
       case rel=>exact ⟨k+1,by omega,by go_num,λj hj=>by rcases (show j<k\/j=k from by omega) with h|rfl;exact F.o j h;exact b9.o,a.t (G.m a.size)⟩
       case measure=>simp [intOf];omega
      ·have d6:(s == t)=false:=by simpa using hs1
       have L:=Aa (M.o (by rw [a6.o,a7.o];exact hs1))
       clear M hs1;go_wp2
       refine Aj (by kernel_rfl) (by kernel_rfl) ?_
       repeat (go_big_quiet_step (fail))
       refine wpQuiet_nil ?_;rintro _ ⟨⟨w2,G⟩,D⟩;subst D;go_wp2;go_ret
       exact ⟨Ab (by rw [decide_eq_false L.o]),a.t (G.m a.size)⟩
     ·have H:qj (u=y):=by
        apply List.ext_getElem (by rw [HX.o,HY.o])
        intro i g1 g2
        have:=F.o i (by rw [HX.o] at g1;omega)
        simpa [Ao,g1,g2] using this
      go_wp2;go_ret
      exact ⟨Ab (by rw [decide_eq_true H.o]),a⟩
 ·have b1:((u.length:Int) != (y.length:Int))=true:=by simp;omega
  have H:qj (¬ u=y):=λe=>hl (by rw [e])
  go_enter func40,ntmps40
  go_wp2;go_ret
  exact ⟨Ab (by rw [decide_eq_false H.o]),bR⟩
def mkS (k n:Nat):Bn:=(List.range n).map λi=>Vh (k+i)
theorem Ou (k n:Nat):(mkS k n).length=n:=by simp [mkS]
theorem Agt (k n i:Nat) (h:i<n):Ao (mkS k n) i=Vh (k+i):=by simp [Ao,mkS,h]
def Kl (rs:Bn) (k j:Nat):Bn:=mkS k j++rs.drop j
theorem wR (rs:Bn) (k j:Nat) (h:j<=rs.length):(Kl rs k j).length=rs.length:=by simp [Kl,Ou];omega
theorem pD (rs:Bn) (k:Nat):Kl rs k 0=rs:=by simp [Kl,mkS]
theorem vH (rs:Bn) (k:Nat):Kl rs k rs.length=mkS k rs.length:=by simp [Kl]
theorem pC (rs:Bn) (k j:Nat) (h:j<rs.length):(Kl rs k j).set j (Vh (k+j))=Kl rs k (j+1):=by
 unfold Kl
 rw [List.set_append,if_neg (by rw [Ou];omega),Ou,Nat.sub_self,jc h,List.set_cons_zero]
 simp [mkS,List.range_succ]
theorem wA {w w':ql} (h:BW w w') (r:Option Nat):w.grownBy w' r:=⟨h.os,h.tape,h.output,h.size,λk hk _=>h.block k hk⟩
theorem dE (n:Nat) (x:Int) (hx:x=(n:Int)) (w:ql) (I:0<n) (hn:n<=1099511627776) :
  qi 84 #[qzI x] w λe w'=>e=.returned (qd (Vh n))/\BW w w':=by
 rw [hx];exact Gx n w I hn
theorem M9 (ao:qm) (cap base k:Nat) (rs:Bn) (w:ql) (ho:w.ownsRow base 9 1 (qf ao rs.length cap) rs.length (At rs)) (hn:rs.length<=1099511627) (k1:0<k) (k2:k<=1099511627) :
  qi 47 #[qf ao rs.length cap,qzI k] w λe w'=>e=.returned (qzI (k+rs.length:Nat)) /\
   w'.ownsRow base 9 1 (qf ao rs.length cap) rs.length (At (mkS k rs.length))/\w.grownBy w' (Value.slice ao rs.length cap).ownBlock:=by
 rcases ho.2 with ⟨hv,I⟩|⟨g,a8,cw,hv,W⟩
 ·obtain rfl:rs=[]:=qz I
  obtain ⟨rfl,rfl⟩:ao=none/\cap=0:=by simpa using hv
  clear hv I
  go_enter func47,ntmps47
  go_wp2;refine wp_loop_rounds 1 ?_;rw [rounds_succ];go_wp2;go_ret
  exact ⟨Af (by simp),jh _ _ _ _,jm _ _⟩
 ·obtain ⟨rfl,rfl⟩:ao=some (qzA g 0)/\cap=a8:=by simpa using hv
  clear hv W
  go_enter func47,ntmps47
  go_wp2
  go_loopw [1,5] (λc i wr=>∃ j:Nat,j<=rs.length/\i=qzI j/\c=qzI (k+j:Nat)/\wr.ownsRow base 9 1 (qf (some (qzA g 0)) rs.length cap) rs.length (At (Kl rs k j))/\w.grownBy wr (some g)) (λ_ i _=>rs.length - (intOf i).toNat)
  case atStart=>exact ⟨0,qw _,rfl,rfl,by rw [pD];exact ho,jm _ _⟩
  case round =>
   obtain ⟨j,hj,rfl,rfl,A,T⟩:=hrel;clear ho
   by_cases hlt:j<rs.length
   ·have c9:(j:Int)<(rs.length:Int):=by omega
    have a4:=Aa A
    have HA:qj _:=Jj (Kl rs k j) j (by rw [wR rs k j hj];exact hlt)
    have F:qj _:=Qr (Kl rs k j) j (Vh (k+j));have HF:qj _:=pC rs k j hlt;have HG:=Aa T;obtain ⟨m,hm⟩:∃ m:Nat,k+j=m:=⟨_,rfl⟩;rw [hm] at F HF ⊢
    have d0:m<=3298534883:=by omega
    have z:0<m:=by omega
    have HM:qj (k+(j+1)=m+1):=by rw [qj];omega
    clear A T hm;go_wp2_with fail
    refine (Gx m _ z (by omega)).m ?_
    rintro e w2 ⟨rfl,G⟩;have o2:=gT a4.o G
    have c4:w2.cell? (qzA g j)=some (qd (Ao (Kl rs k j) j)):=by
     rw [o2.cellAt j (by omega)];exact HA.o
    have c5:w2.frozen? (qzA g j)=false:=o2.frozenAt _;have R2:=o2.stored j (qd (Vh m));rw [F.o,HF.o] at R2;have a5:qj _:=R2.1;have a3:=Aa ((HG.o.t (wA G _)).t R2.2);obtain ⟨os,b3⟩:=Ae (Ao (Kl rs k j) j);rw [b3] at c4
    generalize Vh m=tx at a5 a3
    clear R2 o2 b3 G a4 HG F HF HA;go_wp2
    go_roundw
    case rel=>exact ⟨j+1,by omega,by go_num,by rw [HM.o];go_num,a5.o,a3.o⟩
    case measure=>simp [intOf];omega
   ·have U:j=rs.length:=by omega
    subst U;rw [vH] at A;have HO:qj _:=A;clear A;go_wp2;go_ret;exact ⟨rfl,HO.o,T⟩
theorem U5 (ao:qm) (cap n k:Nat) (w:ql) (hz:Bw w ao (mkS k n)) (hn:n<=1099511627) (k1:0<k) (k2:k<=1099511627) :
  qi 53 #[qf ao n cap,qzI k] w λe w'=>e=.returned (qzI (k+n:Nat))/\BW w w':=by
 rcases hz with I|⟨b,off,rfl,hb,f⟩
 ·have d1:n=0:=by have:=Ou k n;rw [I] at this;simpa using this.s
  subst d1;clear I
  go_enter func53,ntmps53
  go_wp2;refine wp_loop_rounds 1 ?_;rw [rounds_succ];go_wp2;go_ret
  exact ⟨Af (by simp),bR⟩
 ·rw [Ou] at f
  have HC:qj (∀ i,i<n->w.cell? (qzA b (off+i))=some (qd (Vh (k+i)))):=by
   intro i hi
   have:=f i hi
   rw [Agt k n i hi] at this;exact this
  clear f
  go_enter func53,ntmps53
  go_wp2
  go_loopw [1,5] (λc i wr=>∃ j:Nat,j<=n/\i=qzI j/\c=qzI (k+j:Nat)/\BW w wr) (λ_ i _=>n - (intOf i).toNat)
  case atStart=>exact ⟨0,qw _,rfl,rfl,bR⟩
  case round =>
   obtain ⟨j,hj,rfl,rfl,a⟩:=hrel
   by_cases hlt:j<n
   ·have c9:(j:Int)<(n:Int):=by omega
    have c2:wr.cell? (qzA b (off+j))=some (qd (Vh (k+j))):=(a.c b (off+j) hb).t (HC.o j hlt);obtain ⟨m,hm⟩:∃ m:Nat,k+j=m:=⟨_,rfl⟩;rw [hm] at c2 ⊢
    have d0:m<=3298534883:=by omega
    have z:0<m:=by omega
    have HM:qj (k+(j+1)=m+1):=by rw [qj];omega
    clear hm;have b1:=Ec wr;have g2:=Ai c2;go_wp2
    refine Aj (by kernel_rfl) (by kernel_rfl) ?_
    repeat (go_big_quiet_step (exact Bi (dE m _ rfl _ z (by omega))))
    refine wpQuiet_nil ?_;rintro _ ⟨⟨w2,G⟩,D⟩;subst D
    generalize Vh m=tx
    go_wp2
    go_roundw
    case rel=>exact ⟨j+1,by omega,by go_num,by rw [HM.o];go_num,a.t (G.m a.size)⟩
    case measure=>simp [intOf];omega
   ·have U:j=n:=by omega
    subst U;go_wp2;go_ret;exact ⟨rfl,a⟩
theorem kK {a f:List Int} (B:a.length=f.length) (h:∀ j,j<a.length->a.getD j 0=f.getD j 0):a=f:=by
 apply List.ext_getElem B;intro i F M
 have:=h i F
 simpa [F,M] using this
theorem lQ (ao L:qm) (c1 c2:Nat) (a f:List Int) (w:ql) (R:Bg w ao a) (hy:Bg w L f) (F:a.length<=1099511627776) (M:f.length<=1099511627776) :
  qi 36 #[qf ao a.length c1,qf L f.length c2] w λe w'=>e=.returned (.bool (decide (a=f)))/\BW w w':=by
 by_cases B:a.length=f.length
 ·rcases R with rfl|⟨b,off,rfl,hb,m⟩
  ·have H:f=[]:=qz B.s
   subst H
   go_enter func36,ntmps36
   go_wp2;refine wp_loop_rounds 1 ?_;rw [rounds_succ];go_wp2;go_ret;exact ⟨rfl,bR⟩
  ·rcases hy with rfl|⟨d,r,rfl,hd,p⟩
   ·have G:a=[]:=qz B
    subst G
    go_enter func36,ntmps36
    go_wp2;refine wp_loop_rounds 1 ?_;rw [rounds_succ];go_wp2;go_ret;exact ⟨rfl,bR⟩
   ·obtain ⟨n,hn⟩:=Ae a.length
    have v:f.length=n:=by omega
    rw [hn] at m F ⊢;rw [v] at p ⊢;have J:=Aa hn;have N:=Aa v;clear B hn v
    go_enter func36,ntmps36
    go_wp2
    go_loopw [5] (λi wr=>∃ k:Nat,k<=n/\i=qzI k/\(∀ j,j<k->a.getD j 0=f.getD j 0)/\BW w wr) (λi _=>n - (intOf i).toNat)
    case atStart=>exact ⟨0,qw _,rfl,λj hj=>by omega,bR⟩
    case round =>
     obtain ⟨k,hk,rfl,l,g⟩:=hrel;have I:=Aa l;clear l
     by_cases hlt:k<n
     ·have e1:wr.cell? (qzA b (off+k))=some (qzI (a.getD k 0)):=(g.c b (off+k) hb).t (m k hlt)
      have e2:wr.cell? (qzA d (r+k))=some (qzI (f.getD k 0)):=(g.c d (r+k) hd).t (p k hlt)
      have O:(k:Int)<(n:Int):=by omega
      obtain ⟨x,z⟩:=Ae (a.getD k 0);obtain ⟨y,A⟩:=Ae (f.getD k 0);rw [z] at e1;rw [A] at e2;have C:=Aa z;have D:=Aa A;clear z A m p
      cases q:(x != y)
      ·have u:qj (a.getD k 0=f.getD k 0):=by rw [qj,C.o,D.o];simpa using q
       go_wp2
       go_quiet (fail)
       go_wp2
       go_roundw
       case rel=>exact ⟨k+1,by omega,by go_num,λj hj=>by rcases (show j<k\/j=k from by omega) with h|rfl;exact I.o j h;exact u.o,below_drewN g _⟩
       case measure=>simp [intOf];omega
      ·have u:qj (¬ a=f):=λe=>by subst e;rw [<- C.o,<- D.o] at q;simp at q
       go_wp2
       go_quiet (fail)
       go_wp2;go_ret
       exact ⟨Ab (by simpa using u.o),below_drewN g _⟩
     ·have u:=Aa (kK (by rw [J.o,N.o]) (λj hj=>I.o j (by rw [J.o] at hj;omega)))
      clear m p;go_wp2;go_ret
      exact ⟨Ab (by simpa using u.o),g⟩
 ·have q:((a.length:Int) != (f.length:Int))=true:=by simp;omega
  have u:qj (¬ a=f):=λe=>B (by rw [e])
  go_enter func36,ntmps36
  go_wp2;go_ret
  exact ⟨Ab (by simpa using u.o),bR⟩
def zC:Cs:=⟨0,0,0,0,0,0,0,0,0,false,0,0⟩
theorem T6 (cs:List Cs) (c:Cs):∀ k,k<cs.length->(((((((((((((Am cs).set (k*12) (qzI c.iss)).set (k*12+1) (qzI c.acq)).set (k*12+2) (qzI c.cur)).set (k*12+3) (qzI c.am)).set (k*12+4) (qzI c.st)).set (k*12+5) (qzI c.rsn)).set (k*12+6) (qzI c.cl)).set (k*12+7) (qzI c.bk)).set (k*12+8) (qzI c.fee)).set (k*12+9) (.bool c.cop)).set (k*12+10) (qzI c.sta)).set (k*12+11) (qzI c.due))=Am (cs.set k c):=by
 induction cs with
 | nil=>intro k h;simp at h
 | cons g r ih =>
  intro k h
  cases k with
  | zero=>rfl
  | succ k =>
   have:=ih k (by simpa using h)
   have e:Am (g::r)=qzI g.iss::qzI g.acq::qzI g.cur::qzI g.am::qzI g.st::qzI g.rsn::qzI g.cl::qzI g.bk::qzI g.fee::.bool g.cop::qzI g.sta::qzI g.due::Am r:=rfl
   rw [e,show (k+1) * 12=k*12+1+1+1+1+1+1+1+1+1+1+1+1 by omega,show k*12+1+1+1+1+1+1+1+1+1+1+1+1+1=(k*12+1)+1+1+1+1+1+1+1+1+1+1+1+1 by omega,show k*12+1+1+1+1+1+1+1+1+1+1+1+1+2=(k*12+2)+1+1+1+1+1+1+1+1+1+1+1+1 by omega,show k*12+1+1+1+1+1+1+1+1+1+1+1+1+3=(k*12+3)+1+1+1+1+1+1+1+1+1+1+1+1 by omega,show k*12+1+1+1+1+1+1+1+1+1+1+1+1+4=(k*12+4)+1+1+1+1+1+1+1+1+1+1+1+1 by omega,show k*12+1+1+1+1+1+1+1+1+1+1+1+1+5=(k*12+5)+1+1+1+1+1+1+1+1+1+1+1+1 by omega,show k*12+1+1+1+1+1+1+1+1+1+1+1+1+6=(k*12+6)+1+1+1+1+1+1+1+1+1+1+1+1 by omega,show k*12+1+1+1+1+1+1+1+1+1+1+1+1+7=(k*12+7)+1+1+1+1+1+1+1+1+1+1+1+1 by omega,show k*12+1+1+1+1+1+1+1+1+1+1+1+1+8=(k*12+8)+1+1+1+1+1+1+1+1+1+1+1+1 by omega,show k*12+1+1+1+1+1+1+1+1+1+1+1+1+9=(k*12+9)+1+1+1+1+1+1+1+1+1+1+1+1 by omega,show k*12+1+1+1+1+1+1+1+1+1+1+1+1+10=(k*12+10)+1+1+1+1+1+1+1+1+1+1+1+1 by omega,show k*12+1+1+1+1+1+1+1+1+1+1+1+1+11=(k*12+11)+1+1+1+1+1+1+1+1+1+1+1+1 by omega]
   simp only [List.set_cons_succ,this]
   rfl
def Jy (cs:List Cs) (k:Nat):List Cs:=cs.take k++List.replicate (cs.length - k) zC
theorem mX (cs:List Cs):Jy cs 0=List.replicate cs.length zC:=by simp [Jy]
theorem vW (cs:List Cs):Jy cs cs.length=cs:=by simp [Jy]
theorem aN (cs:List Cs) (k:Nat) (h:k<=cs.length):(Jy cs k).length=cs.length:=by simp [Jy];omega
theorem pB (cs:List Cs) (k:Nat) (h:k<cs.length):(Jy cs k).set k (Bm cs k)=Jy cs (k+1):=by
 unfold Jy
 rw [List.set_append,if_neg (by simp;omega),List.length_take,Nat.min_eq_left (jb h),Nat.sub_self,show cs.length - k=cs.length - (k+1)+1 by omega,List.replicate_succ,List.set_cons_zero,List.take_succ_eq_append_getElem h,rR h,List.append_assoc]
 rfl
theorem zP (cs:List Cs) (k:Nat) (h:k<cs.length):Bm (Jy cs k) k=zC:=by
 simp [Bm,Jy,List.getElem?_append,Nat.min_eq_left (jb h),List.getElem?_replicate]
 split <;> rfl
theorem Afx:(prog.info? 111).map (λi=>(i.zero,i.size,i.bytes))=some (some (.agg #[qzI 0,qzI 0,qzI 0,qzI 0,qzI 0,qzI 0,qzI 0,qzI 0,qzI 0,.bool false,qzI 0,qzI 0]),12,96):=by kernel_rfl
theorem kR (m:Nat):(madeCells (Value.agg #[qzI 0,qzI 0,qzI 0,qzI 0,qzI 0,qzI 0,qzI 0,qzI 0,qzI 0,.bool false,qzI 0,qzI 0]).cells (m*12)).toList=Am (List.replicate m zC):=by
 apply List.ext_getElem?;intro j
 by_cases hj:j<m*12
 ·have hq:j / 12<(List.replicate m zC).length:=by simp;omega
  have N:Bm (List.replicate m zC) (j / 12)=zC:=by
   simp [Bm,List.getElem?_replicate];split <;> rfl
  have h:=Gn _ (j / 12) (j % 12) hq (by omega)
  rw [N,show j / 12*12+j % 12=j by omega] at h
  rw [h]
  have hl:(madeCells (Value.agg #[qzI 0,qzI 0,qzI 0,qzI 0,qzI 0,qzI 0,qzI 0,qzI 0,qzI 0,.bool false,qzI 0,qzI 0]).cells (m*12)).toList[j]?=some ((#[qzI 0,qzI 0,qzI 0,qzI 0,qzI 0,qzI 0,qzI 0,qzI 0,qzI 0,.bool false,qzI 0,qzI 0]:Array Value)[j % 12]!):=by
   simp [madeCells,hj,Value.cells]
  rw [hl]
  rcases (show j % 12=0\/j % 12=1\/j % 12=2\/j % 12=3\/j % 12=4\/j % 12=5\/j % 12=6\/j % 12=7\/j % 12=8\/j % 12=9\/j % 12=10\/j % 12=11 by omega) with e|e|e|e|e|e|e|e|e|e|e|e <;> rw [e] <;> rfl
 ·rw [jl (by simp [madeCells];omega),jl (by rw [Io];simp;omega)]
theorem eJ (ao:qm) (cap:Nat) (cs:List Cs) (w:ql) (Z:Cf w ao cs) (hn:cs.length<=1048576) :
  qi 29 #[qf ao cs.length cap] w λe w'=>e=.returned (qf (some ⟨w.heap.size,0,none⟩) cs.length cs.length) /\
   w'.ownsRow w.heap.size 111 12 (qf (some ⟨w.heap.size,0,none⟩) cs.length cs.length) cs.length (Am cs)/\BW w w':=by
 obtain ⟨i0,hi,O,S,T⟩:=info_parts Afx;have D:=kR cs.length;have HZ:=Aa Z;clear Z
 go_enter func29,ntmps29
 go_wp2_with (refine wpList_make_full _ rfl (.tmp 6) (.tmp 6) 35 rfl w.heap.size 111 i0 _ 12 underlying35 hi O S .i64 .i64 _ _ cs.length rfl rfl rfl rfl (by rw [T];omega) (by unfold maxLen;omega) nL ?_;intro w1 l Y)
 rw [D,<- mX cs] at l
 have C:=bR.grown Y nL (λk hk=>by cases hk)
 clear D Y
 go_loopw [4] (λi wr=>∃ k:Nat,k<=cs.length/\i=qzI k/\wr.ownsRow w.heap.size 111 12 (qf (some ⟨w.heap.size,0,none⟩) cs.length cs.length) cs.length (Am (Jy cs k))/\BW w wr) (λi _=>cs.length - (intOf i).toNat)
 case atStart=>exact ⟨0,qw _,rfl,l,C⟩
 case round =>
  obtain ⟨k,hk,rfl,ho,n⟩:=hrel;clear l C
  by_cases hlt:k<cs.length
  ·have a3:(k:Int)<(cs.length:Int):=by omega
   obtain ⟨b,off,N,hb,W⟩:=Cf.at (Cf.below HZ.o n) hlt;subst N;have J:=Aa (pB cs k hlt)
   have H:qj _:=T6 (Jy cs k) (Bm cs k) k (by rw [aN cs k hk];exact hlt)
   have U:qj _:=zP cs k hlt;obtain ⟨⟨z,q,s,am,st,A,cl,bk,y,v,B,x⟩,X⟩:∃ f,Bm cs k=f:=⟨_,rfl⟩;rw [X] at W J H;obtain ⟨x0,x1,x2,x3,x4,x5,x6,x7,x8,x9,F,G⟩:=W
   simp only at x0 x1 x2 x3 x4 x5 x6 x7 x8 x9 F G H
   have V:=Aa ho;have p:=Aa n
   have L:qj (∀ u,qi 69 #[.agg #[qzI z,qzI q,qzI s,qzI am,qzI st,qzI A,qzI cl,qzI bk,qzI y,.bool v,qzI B,qzI x]] u λe w'=>e=.returned (.agg #[qzI z,qzI q,qzI s,qzI am,qzI st,qzI A,qzI cl,qzI bk,qzI y,.bool v,qzI B,qzI x])/\BW u w'):=λu=>pG ⟨z,q,s,am,st,A,cl,bk,y,v,B,x⟩ u
   clear X ho n hb;go_wp2_with fail
   refine (L.o _).m ?_;rintro e d ⟨rfl,M⟩;have ho:=A5 V.o M
   have a:∀ j,j<12->(Am (Jy cs k))[k*12+j]?=(jX zC).toList[j]?:=λj hj=>by rw [Gn _ k j (by rw [aN cs k hk];exact hlt) hj,U.o]
   have y0:d.cell? ⟨w.heap.size,k*12,none⟩=some (qzI 0):=by rw [ho.cellAt (k*12) (by omega)];exact a 0 (by omega)
   have z0:d.frozen? ⟨w.heap.size,k*12,none⟩=false:=ho.frozenAt _
   have y1:d.cell? ⟨w.heap.size,k*12+1,none⟩=some (qzI 0):=by rw [ho.cellAt (k*12+1) (by omega)];exact a 1 (by omega)
   have z1:d.frozen? ⟨w.heap.size,k*12+1,none⟩=false:=ho.frozenAt _
   have y2:d.cell? ⟨w.heap.size,k*12+2,none⟩=some (qzI 0):=by rw [ho.cellAt (k*12+2) (by omega)];exact a 2 (by omega)
   have z2:d.frozen? ⟨w.heap.size,k*12+2,none⟩=false:=ho.frozenAt _
   have y3:d.cell? ⟨w.heap.size,k*12+3,none⟩=some (qzI 0):=by rw [ho.cellAt (k*12+3) (by omega)];exact a 3 (by omega)
   have z3:d.frozen? ⟨w.heap.size,k*12+3,none⟩=false:=ho.frozenAt _
   have y4:d.cell? ⟨w.heap.size,k*12+4,none⟩=some (qzI 0):=by rw [ho.cellAt (k*12+4) (by omega)];exact a 4 (by omega)
   have z4:d.frozen? ⟨w.heap.size,k*12+4,none⟩=false:=ho.frozenAt _
   have y5:d.cell? ⟨w.heap.size,k*12+5,none⟩=some (qzI 0):=by rw [ho.cellAt (k*12+5) (by omega)];exact a 5 (by omega)
   have z5:d.frozen? ⟨w.heap.size,k*12+5,none⟩=false:=ho.frozenAt _
   have y6:d.cell? ⟨w.heap.size,k*12+6,none⟩=some (qzI 0):=by rw [ho.cellAt (k*12+6) (by omega)];exact a 6 (by omega)
   have z6:d.frozen? ⟨w.heap.size,k*12+6,none⟩=false:=ho.frozenAt _
   have y7:d.cell? ⟨w.heap.size,k*12+7,none⟩=some (qzI 0):=by rw [ho.cellAt (k*12+7) (by omega)];exact a 7 (by omega)
   have z7:d.frozen? ⟨w.heap.size,k*12+7,none⟩=false:=ho.frozenAt _
   have y8:d.cell? ⟨w.heap.size,k*12+8,none⟩=some (qzI 0):=by rw [ho.cellAt (k*12+8) (by omega)];exact a 8 (by omega)
   have z8:d.frozen? ⟨w.heap.size,k*12+8,none⟩=false:=ho.frozenAt _
   have y9:d.cell? ⟨w.heap.size,k*12+9,none⟩=some (.bool false):=by rw [ho.cellAt (k*12+9) (by omega)];exact a 9 (by omega)
   have z9:d.frozen? ⟨w.heap.size,k*12+9,none⟩=false:=ho.frozenAt _
   have a4:d.cell? ⟨w.heap.size,k*12+10,none⟩=some (qzI 0):=by rw [ho.cellAt (k*12+10) (by omega)];exact a 10 (by omega)
   have z10:d.frozen? ⟨w.heap.size,k*12+10,none⟩=false:=ho.frozenAt _
   have a5:d.cell? ⟨w.heap.size,k*12+11,none⟩=some (qzI 0):=by rw [ho.cellAt (k*12+11) (by omega)];exact a 11 (by omega)
   have z11:d.frozen? ⟨w.heap.size,k*12+11,none⟩=false:=ho.frozenAt _
   have HR:qj (((((((((((((d.setCell ⟨w.heap.size,k*12,none⟩ (qzI z)).setCell ⟨w.heap.size,k*12+1,none⟩ (qzI q)).setCell ⟨w.heap.size,k*12+2,none⟩ (qzI s)).setCell ⟨w.heap.size,k*12+3,none⟩ (qzI am)).setCell ⟨w.heap.size,k*12+4,none⟩ (qzI st)).setCell ⟨w.heap.size,k*12+5,none⟩ (qzI A)).setCell ⟨w.heap.size,k*12+6,none⟩ (qzI cl)).setCell ⟨w.heap.size,k*12+7,none⟩ (qzI bk)).setCell ⟨w.heap.size,k*12+8,none⟩ (qzI y)).setCell ⟨w.heap.size,k*12+9,none⟩ (.bool v)).setCell ⟨w.heap.size,k*12+10,none⟩ (qzI B)).setCell ⟨w.heap.size,k*12+11,none⟩ (qzI x)).ownsRow w.heap.size 111 12 (qf (some ⟨w.heap.size,0,none⟩) cs.length cs.length) cs.length (Am (Jy cs (k+1)))):=by
    have R:=((((((((((((ho.stored (k*12) (qzI z)).1.stored (k*12+1) (qzI q)).1.stored (k*12+2) (qzI s)).1.stored (k*12+3) (qzI am)).1.stored (k*12+4) (qzI st)).1.stored (k*12+5) (qzI A)).1.stored (k*12+6) (qzI cl)).1.stored (k*12+7) (qzI bk)).1.stored (k*12+8) (qzI y)).1.stored (k*12+9) (.bool v)).1.stored (k*12+10) (qzI B)).1.stored (k*12+11) (qzI x)).1;rw [H.o,J.o] at R;exact R
   have I:qj (Below w.heap.size w ((((((((((((d.setCell ⟨w.heap.size,k*12,none⟩ (qzI z)).setCell ⟨w.heap.size,k*12+1,none⟩ (qzI q)).setCell ⟨w.heap.size,k*12+2,none⟩ (qzI s)).setCell ⟨w.heap.size,k*12+3,none⟩ (qzI am)).setCell ⟨w.heap.size,k*12+4,none⟩ (qzI st)).setCell ⟨w.heap.size,k*12+5,none⟩ (qzI A)).setCell ⟨w.heap.size,k*12+6,none⟩ (qzI cl)).setCell ⟨w.heap.size,k*12+7,none⟩ (qzI bk)).setCell ⟨w.heap.size,k*12+8,none⟩ (qzI y)).setCell ⟨w.heap.size,k*12+9,none⟩ (.bool v)).setCell ⟨w.heap.size,k*12+10,none⟩ (qzI B)).setCell ⟨w.heap.size,k*12+11,none⟩ (qzI x))):=(((((((((((((p.o.t (M.m p.o.size)).setCell nL _).setCell nL _).setCell nL _).setCell nL _).setCell nL _).setCell nL _).setCell nL _).setCell nL _).setCell nL _).setCell nL _).setCell nL _).setCell nL _);clear ho a M J H U V p x0 x1 x2 x3 x4 x5 x6 x7 x8 x9 F G;go_wp2
   go_roundw
   case rel=>exact ⟨k+1,by omega,by go_num,HR.o,I.o⟩
   case measure=>simp [intOf];omega
  ·have:k=cs.length:=by omega
   subst this;rw [vW] at ho;go_wp2;go_ret;exact ⟨rfl,ho,n⟩
theorem pL {w:ql} {b off:Nat} {k:List Cs} (h:Cf w (some (qzA b off)) k):∀ j u,(Am k)[j]?=some u->w.cell? (((qzA b off):Addr).add j)=some u:=by
 intro j u q
 have C:j<k.length*12:=by
  rw [<- Io];exact (List.getElem?_eq_some_iff.1 q).1
 rcases h with rfl|⟨R,m,F,hb,A⟩
 ·simp at C
 ·obtain ⟨rfl,rfl⟩:b=R/\off=m:=by simpa using F
  have e:(((qzA b off):Addr).add j)=(qzA b (off+j)):=by unfold Addr.add;split <;> simp_all
  obtain ⟨Z,k1,k2,k3,k4,k5,k6,k7,k8,k9,L,M⟩:=A (j / 12) (by omega)
  have d:=Gn k (j / 12) (j % 12) (by omega) (by omega)
  rw [show j / 12*12+j % 12=j by omega,q] at d
  rw [e]
  rcases (show j % 12=0\/j % 12=1\/j % 12=2\/j % 12=3\/j % 12=4\/j % 12=5\/j % 12=6\/j % 12=7\/j % 12=8\/j % 12=9\/j % 12=10\/j % 12=11 by omega) with e|e|e|e|e|e|e|e|e|e|e|e
  ·rw [e] at d
   rw [show off+j=off+j / 12*12 by omega,Z]
   exact d.s
  ·rw [e] at d
   rw [show off+j=off+j / 12*12+1 by omega,k1]
   exact d.s
  ·rw [e] at d
   rw [show off+j=off+j / 12*12+2 by omega,k2]
   exact d.s
  ·rw [e] at d
   rw [show off+j=off+j / 12*12+3 by omega,k3]
   exact d.s
  ·rw [e] at d
   rw [show off+j=off+j / 12*12+4 by omega,k4]
   exact d.s
  ·rw [e] at d
   rw [show off+j=off+j / 12*12+5 by omega,k5]
   exact d.s
  ·rw [e] at d
   rw [show off+j=off+j / 12*12+6 by omega,k6]
   exact d.s
  ·rw [e] at d
   rw [show off+j=off+j / 12*12+7 by omega,k7]
   exact d.s
  ·rw [e] at d
   rw [show off+j=off+j / 12*12+8 by omega,k8]
   exact d.s
  ·rw [e] at d
   rw [show off+j=off+j / 12*12+9 by omega,k9]
   exact d.s
  ·rw [e] at d
   rw [show off+j=off+j / 12*12+10 by omega,L]
   exact d.s
  ·rw [e] at d
   rw [show off+j=off+j / 12*12+11 by omega,M]
   exact d.s
theorem Lp (w:ql) (base:Nat) (O:TypeId) (v:Value) (n:Nat) (k:List Value) (f:w.ownsRow base 111 12 v n k) (ao:qm) (c:Nat) (az:List Cs) (r:Cf w ao az)
  (hn:n+az.length<=5000000) (hbase:base<=w.heap.size) :
  ∃ i w',(Builtin.append_ #[35,35] O #[v,qf ao az.length c]).run prog w=.ok i w'/\w'.ownsRow base 111 12 i (n+az.length) (k++Am az)/\w.grownBy w' v.ownBlock /\
   (v≠qe->i≠qe):=by
 obtain ⟨Y,hi,H,I,J⟩:=info_parts Afx
 cases ao with
 | none =>
  have W:az=[]:=by
   rcases r with h|⟨b,off,h,_⟩
   ·exact h
   ·cases h
  subst W
  refine ⟨v,w,?_,by simpa [Am] using f,⟨rfl,rfl,rfl,nL,λ_ _ _=>rfl⟩,id⟩
  have N:=underlying35
  rcases f.2 with ⟨rfl,rfl⟩|⟨g,cap,cw,rfl,T,hg,D,U,V,G⟩
  ·simp [Builtin.append_,run_underlying N,sizeOf,typeInfo,hi,Builtin.lenOf,Builtin.firstCells]
  ·simp [Builtin.append_,run_underlying N,sizeOf,typeInfo,hi,Builtin.lenOf,Builtin.firstCells,loadCells,D,storeCells]
 | some a =>
  have l:∀ j u,(Am az)[j]?=some u->w.cell? (a.add j)=some u:=by
   rcases r with rfl|⟨b,off,F,hb,A⟩
   ·intro j u q;simp [Am] at q
   ·obtain rfl:a=(qzA b off):=by simpa using F
    exact pL (.inr ⟨b,off,rfl,hb,A⟩)
  obtain ⟨i,w',t,y,z,S,_⟩:=run_append_own_at (P:=prog) w base 35 O 111 Y _ 12 96 underlying35 hi H I J rfl (by decide) v n k f a az.length c (Am az) (Io az) l (gB az) (by unfold maxLen;omega) (by omega) hbase
  exact ⟨i,w',t,y,z,λhne h=>hne (S.1 h).1⟩
theorem F5 {p:Array Oper} {rest:List Oper} {o:Oper} {a:Act} {Q:Exit->Act->ql->Prop} (w:ql) (B:o.guard=none) (s x:Operand)
  (ho:o.op=.call { callee:=.builtin .append,args:=#[s,x],argTypes:=#[35,35] }) (base:Nat) (v:Value) (n:Nat) (k:List Value) (hs:a.eval s=v) (f:w.ownsRow base 111 12 v n k)
  (ao:qm) (c:Nat) (az:List Cs) (hx:a.eval x=qf ao az.length c) (r:Cf w ao az) (hn:n+az.length<=5000000) (hbase:base<=w.heap.size)
  (h:∀ i w',w'.ownsRow base 111 12 i (n+az.length) (k++Am az)->w.grownBy w' v.ownBlock->(v≠qe->i≠qe)->wpList prog p Q rest (a.put o.dst i) w'):wpList prog p Q (o::rest) a w:=by
 obtain ⟨i,w',X,t,y,z⟩:=Lp w base o.type v n k f ao c az r hn hbase;exact Lib.wpList_append_run w B s x _ _ ho _ _ hs hx i w' X (h i w' t y z)
theorem yH (w:ql):(w.alloc (.cells #[] 111)).ownsRow w.heap.size 111 12 (qf (some ⟨w.heap.size,0,none⟩) 0 0) 0 []:=World.ownsRow_lit w #[] 0 nL (by unfold maxLen;omega) rfl
theorem oC {w:ql} {b off:Nat} {f:List Au} (h:Ba w (some (qzA b off)) f):∀ j u,(Ap f)[j]?=some u->w.cell? (((qzA b off):Addr).add j)=some u:=by
 intro j u i
 have C:j<f.length*6:=by
  rw [<- Ka];exact (List.getElem?_eq_some_iff.1 i).1
 rcases h with rfl|⟨S,m,F,hb,A⟩
 ·simp at C
 ·obtain ⟨rfl,rfl⟩:b=S/\off=m:=by simpa using F
  have e:(((qzA b off):Addr).add j)=(qzA b (off+j)):=by unfold Addr.add;split <;> simp_all
  obtain ⟨k0,k1,k2,k3,k4,k5⟩:=A (j / 6) (by omega)
  obtain ⟨f0,f1,f2,f3,f4,f5⟩:=Ff f (j / 6) (by omega)
  rw [e]
  rcases (show j % 6=0\/j % 6=1\/j % 6=2\/j % 6=3\/j % 6=4\/j % 6=5 by omega) with e|e|e|e|e|e
  ·rw [show j=j / 6*6 by omega,f0] at i
   rw [show off+j=off+j / 6*6 by omega,k0]
   exact i
  ·rw [show j=j / 6*6+1 by omega,f1] at i
   rw [show off+j=off+j / 6*6+1 by omega,k1]
   exact i
  ·rw [show j=j / 6*6+2 by omega,f2] at i
   rw [show off+j=off+j / 6*6+2 by omega,k2]
   exact i
  ·rw [show j=j / 6*6+3 by omega,f3] at i
   rw [show off+j=off+j / 6*6+3 by omega,k3]
   exact i
  ·rw [show j=j / 6*6+4 by omega,f4] at i
   rw [show off+j=off+j / 6*6+4 by omega,k4]
   exact i
  ·rw [show j=j / 6*6+5 by omega,f5] at i
   rw [show off+j=off+j / 6*6+5 by omega,k5]
   exact i
theorem Td (w:ql) (base:Nat) (O:TypeId) (v:Value) (n:Nat) (f:List Value) (d:w.ownsRow base 108 6 v n f) (ao:qm) (c:Nat) (az:List Au) (r:Ba w ao az)
  (hn:n+az.length<=5000000) (hbase:base<=w.heap.size) :
  ∃ k w',(Builtin.append_ #[34,34] O #[v,qf ao az.length c]).run prog w=.ok k w'/\w'.ownsRow base 108 6 k (n+az.length) (f++Ap az)/\w.grownBy w' v.ownBlock /\
   (v≠qe->k≠qe):=by
 obtain ⟨i0,hi,H,I,J⟩:=info_parts Aap
 cases ao with
 | none =>
  have X:az=[]:=by
   rcases r with h|⟨b,off,h,_⟩
   ·exact h
   ·cases h
  subst X
  refine ⟨v,w,?_,by simpa [Ap] using d,⟨rfl,rfl,rfl,nL,λ_ _ _=>rfl⟩,id⟩
  have N:=underlying34
  rcases d.2 with ⟨rfl,rfl⟩|⟨g,cap,M,rfl,U,hg,D,V,W,G⟩
  ·simp [Builtin.append_,run_underlying N,sizeOf,typeInfo,hi,Builtin.lenOf,Builtin.firstCells]
  ·simp [Builtin.append_,run_underlying N,sizeOf,typeInfo,hi,Builtin.lenOf,Builtin.firstCells,loadCells,D,storeCells]
 | some a =>
  have l:∀ j u,(Ap az)[j]?=some u->w.cell? (a.add j)=some u:=by
   rcases r with rfl|⟨b,off,F,hb,A⟩
   ·intro j u i;simp [Ap] at i
   ·obtain rfl:a=(qzA b off):=by simpa using F
    exact oC (.inr ⟨b,off,rfl,hb,A⟩)
  obtain ⟨k,w',t,y,z,T,_⟩:=run_append_own_at (P:=prog) w base 34 O 108 i0 _ 6 56 underlying34 hi H I J rfl (by decide) v n f d a az.length c (Ap az) (Ka az) l (oQ az) (by unfold maxLen;omega) (by omega) hbase
  exact ⟨k,w',t,y,z,λhne h=>hne (T.1 h).1⟩
theorem Cn {p:Array Oper} {rest:List Oper} {o:Oper} {a:Act} {Q:Exit->Act->ql->Prop} (w:ql) (B:o.guard=none) (s x:Operand)
  (ho:o.op=.call { callee:=.builtin .append,args:=#[s,x],argTypes:=#[34,34] }) (base:Nat) (v:Value) (n:Nat) (f:List Value) (hs:a.eval s=v) (d:w.ownsRow base 108 6 v n f)
  (ao:qm) (c:Nat) (az:List Au) (hx:a.eval x=qf ao az.length c) (r:Ba w ao az) (hn:n+az.length<=5000000) (hbase:base<=w.heap.size)
  (h:∀ k w',w'.ownsRow base 108 6 k (n+az.length) (f++Ap az)->w.grownBy w' v.ownBlock->(v≠qe->k≠qe)->wpList prog p Q rest (a.put o.dst k) w'):wpList prog p Q (o::rest) a w:=by
 obtain ⟨k,w',Y,t,y,z⟩:=Td w base o.type v n f d ao c az r hn hbase;exact Lib.wpList_append_run w B s x _ _ ho _ _ hs hx k w' Y (h k w' t y z)
theorem Afr (w:ql):(w.alloc (.cells #[] 108)).ownsRow w.heap.size 108 6 (qf (some ⟨w.heap.size,0,none⟩) 0 0) 0 []:=World.ownsRow_lit w #[] 0 nL (by unfold maxLen;omega) rfl
theorem Adi {w:ql} {base n:Nat} {v:Value} {f:List Value} (h:w.ownsRow base 108 6 v n f):∃ ao cap,v=qf ao n cap:=by
 rcases h.2 with ⟨rfl,rfl⟩|⟨g,c,M,rfl,_⟩
 ·exact ⟨none,0,rfl⟩
 ·exact ⟨_,c,rfl⟩
theorem Th {w:ql} {base n:Nat} {v:Value} {f:List Value} (h:w.ownsRow base 108 6 v n f) (Z:v≠qe):∃ g c,v=qf (some (qzA g 0)) n c:=by
 rcases h.2 with ⟨h,_⟩|⟨g,c,M,h,_⟩
 ·exact absurd h Z
 ·exact ⟨g,c,h⟩
def Wv (u:ql) (L:List Au) (q:Bool) (e:Ending) (R:ql):Prop :=
 ∃ ao cap,e=.returned (.tuple #[qf ao L.length cap,.bool q])/\R.ownsRow u.heap.size 108 6 (qf ao L.length cap) L.length (Ap L)/\BW u R
theorem wM {w:ql} {a:Addr} {zs:List Int} (h:Bg w (some a) zs):∀ j u,(zs.map (Value.int .i64))[j]?=some u->w.cell? (a.add j)=some u:=by
 intro j u q
 have r:j<zs.length:=by
  rcases Nat.lt_or_ge j zs.length with C|C
  ·exact C
  ·rw [jl (by simpa using C)] at q;cases q
 rcases h with h|⟨b,off,m,y,p⟩
 ·rw [h] at r;simp at r
 ·injection m with m
  subst m;have e:=p j r
  have i:u=qzI (zs.getD j 0):=by
   rw [List.getElem?_map,List.getElem?_eq_getElem r] at q
   simp at q
   rw [<- q]
   simp [r]
  rw [i]
  by_cases e0:j=0
  ·subst e0;rw [Addr.add,if_pos rfl];exact e
  ·rw [Addr.add,if_neg e0];exact e
theorem Ac6 (zs:List Int):∀ u ∈ zs.map (Value.int .i64),u.oneCell'=true:=by
 intro u i
 simp at i
 obtain ⟨x,_,rfl⟩:=i
 rfl
theorem R7 (w:ql) (base:Nat) (O:TypeId) (v:Value) (n:Nat) (cs:List Value) (d:w.ownsRow base 3 1 v n cs) (ao:qm) (c:Nat) (zs:List Int) (l:Bg w ao zs)
  (hn:n+zs.length<=4000000) (hbase:base<=w.heap.size) :
  ∃ f w',(Builtin.append_ #[22,22] O #[v,qf ao zs.length c]).run prog w=.ok f w'/\w'.ownsRow base 3 1 f (n+zs.length) (cs++zs.map (Value.int .i64))/\w.grownBy w' v.ownBlock:=by
 obtain ⟨X,hi,I,J,L⟩:=info_parts Afz
 cases ao with
 | none =>
  have V:zs=[]:=by
   rcases l with h|⟨b,off,h,_⟩
   ·exact h
   ·cases h
  subst V
  refine ⟨v,w,?_,by simpa using d,⟨rfl,rfl,rfl,nL,λ_ _ _=>rfl⟩⟩
  have i:=underlying22
  rcases d.2 with ⟨rfl,rfl⟩|⟨g,cap,cw,rfl,R,hg,F,T,U,G⟩
  ·simp [Builtin.append_,run_underlying i,sizeOf,typeInfo,hi,Builtin.lenOf,Builtin.firstCells]
  ·simp [Builtin.append_,run_underlying i,sizeOf,typeInfo,hi,Builtin.lenOf,Builtin.firstCells,loadCells,F,storeCells]
 | some a =>
  obtain ⟨f,w',m,y,p,_,_⟩:=run_append_own_at (P:=prog) w base 22 O 3 X _ 1 8 underlying22 hi I J L rfl (by decide) v n cs d a zs.length c (zs.map (Value.int .i64)) (by simp) (wM l) (Ac6 zs) (by unfold maxLen;omega) (by omega) hbase
  exact ⟨f,w',m,y,p⟩
theorem Il {t:Array Oper} {rest:List Oper} {o:Oper} {a:Act} {Q:Exit->Act->ql->Prop} (w:ql) (D:o.guard=none) (s x:Operand)
  (ho:o.op=.call { callee:=.builtin .append,args:=#[s,x],argTypes:=#[22,22] }) (base:Nat) (v:Value) (n:Nat) (cs:List Value) (hs:a.eval s=v) (d:w.ownsRow base 3 1 v n cs)
  (ao:qm) (c:Nat) (zs:List Int) (hx:a.eval x=qf ao zs.length c) (l:Bg w ao zs) (hn:n+zs.length<=4000000) (hbase:base<=w.heap.size)
  (h:∀ f w',w'.ownsRow base 3 1 f (n+zs.length) (cs++zs.map (Value.int .i64))->w.grownBy w' v.ownBlock->wpList prog t Q rest (a.put o.dst f) w') :
  wpList prog t Q (o::rest) a w:=by
 refine wpList_plain D λK hK=>?_
 obtain ⟨f,w',W,y,p⟩:=R7 w base o.type v n cs d ao c zs l hn hbase;unfold Oper.wp execOp
 simp only [ho,resolve,invoke,builtin,Sem.run_bind,Sem.run_pure,Result.andThen_ok,List.map_toArray,List.map_cons,List.map_nil,hs,hx,W]
 exact hK _ _ (h f w' y p)
theorem tR (g:Nat) (ao:qm) (cap:Nat) (zs:List Int) (w:ql) (S:w.cell? (qzA g 0)=some (qf ao zs.length cap)) (l:Bg w ao zs) (hn:zs.length<=1048577) :
  qi 73 #[qf (some (qzA g 0)) 1 1] w λe w'=>∃ a2 z,e=.returned (qf a2 zs.length z) /\
   w'.ownsRow w.heap.size 3 1 (qf a2 zs.length z) zs.length (zs.map (Value.int .i64))/\BW w w':=by
 have M:=Aa l;clear l
 go_enter func73,ntmps73
 go_wp2;refine wp_loop_rounds 2 ?_;rw [rounds_succ]
 go_wp2_with (at_builtin;refine Il _ rfl (.tmp 12) (.tmp 13) rfl w.heap.size _ 0 [] rfl (jh _ _ _ _) ao cap zs rfl M.o (by omega) nL ?_;intro v2 Z A N)
 have Y:BW w Z:=bR.grown N nL (λk hk=>by cases hk)
 rw [qu,List.nil_append] at A;obtain ⟨a2,z,H⟩:=Ta A;subst H;have B:=Aa A;clear A N M S;go_wp2;rw [rounds_succ];go_wp2;go_ret;exact ⟨a2,z,rfl,B.o,Y⟩
theorem Wn (a:Int) (w:ql) :
  qi 145 #[qzI a] w λe w'=>e=.returned (.bool (Cm a))/\w'=w:=by
 go_enter func145,ntmps145
 go_wp2_with fail
 refine (Cg _ _ _ _).m ?_;rintro e l ⟨rfl,hw⟩;rw [hw];go_wp2;go_ret;exact ⟨rfl,rfl⟩
theorem El {a:Int} {q:Bool} (h:Cm a=q) (w:ql):qi 145 #[qzI a] w λe w'=>e=.returned (.bool q)/\w'=w:=by rw [<- h];exact Wn a w
theorem sJ (a b c m:Int) (w:ql) :
  qi 201 #[.agg #[qzI a,qzI b,qzI c,qzI m]] w λe w'=>e=.returned (.agg #[qzI b,qzI a,qzI c,qzI m])/\BW w w':=by
 go_enter func201,ntmps201
 go_wp2
 go_returns
 refine ⟨rfl,?_⟩
 go_grown
theorem Mw {c:Int} (w:ql) (d:Int) (h:D6 c=d):qi 146 #[qzI c] w λe w'=>e=.returned (qzI d)/\BW w w':=by rw [<- h];exact Ih c w
theorem Sk (a b c m:Int) (w:ql) :
  qi 196 #[.agg #[qzI a,qzI b,qzI c,qzI m]] w λe w'=>e=.returned (.bool (B7 (a,b,c,m)))/\BW w w':=by
 have bel:Below w.heap.size w (w.alloc (.cells #[qzI a,qzI b,qzI c,qzI m] 217)):=by go_grown
 cases h1:Cm a
 ·have f:qj (B7 (a,b,c,m)=false):=by simp [qj,B7,h1]
  have g:qj _:=h1;clear h1
  go_enter func196,ntmps196
  go_wp2_with fail
  refine (El g.o _).m ?_;rintro e l ⟨rfl,hw⟩;rw [hw];clear hw;go_wp2;go_ret;exact ⟨Ab f.o.s,bel⟩
 have g:qj _:=h1
 cases h2:Cm b
 ·have f:qj (B7 (a,b,c,m)=false):=by simp [qj,B7,h2]
  have j:qj _:=h2;clear h1 h2
  go_enter func196,ntmps196
  go_wp2_with fail
  refine (El g.o _).m ?_;rintro e l ⟨rfl,hw⟩;rw [hw];clear hw;go_wp2_with fail
  refine (El j.o _).m ?_;rintro e v ⟨rfl,hw⟩;rw [hw];clear hw;go_wp2;go_ret;exact ⟨Ab f.o.s,bel⟩
 have j:qj _:=h2
 by_cases h3:a=b
 ·have f:qj (B7 (a,b,c,m)=false):=by simp [qj,B7,h3]
  have r:(a != b)=false:=by simpa using h3
  clear h1 h2 h3
  go_enter func196,ntmps196
  go_wp2_with fail
  refine (El g.o _).m ?_;rintro e l ⟨rfl,hw⟩;rw [hw];clear hw;go_wp2_with fail
  refine (El j.o _).m ?_;rintro e v ⟨rfl,hw⟩;rw [hw];clear hw;go_wp2;go_ret;exact ⟨Ab f.o.s,bel⟩
 have r:(a != b)=true:=by simpa using h3
 have n:∀ q:Bool,(decide (0<=D6 c) && decide (1<=m/\m<=1000000000000))=q->B7 (a,b,c,m)=q:=by
  intro q k
  simp only [B7,h1,h2,ja,decide_eq_true h3]
  exact k
 obtain ⟨d,hd⟩:∃ d,D6 c=d:=⟨_,rfl⟩;have x:qj _:=hd
 by_cases h4:0<=d
 ·have f:qj (B7 (a,b,c,m)=Gb m 1 1000000000000):=n _ (by rw [hd,decide_eq_true h4];rfl)
  clear n hd h3 h1 h2
  go_enter func196,ntmps196
  go_wp2_with fail
  refine (El g.o _).m ?_;rintro e l ⟨rfl,hw⟩;rw [hw];clear hw;go_wp2_with fail
  refine (El j.o _).m ?_;rintro e v ⟨rfl,hw⟩;rw [hw];clear hw;go_wp2_with fail
  refine (Mw _ d x.o).m ?_;rintro e z ⟨rfl,i⟩
  have B:=(i.cell (p:=⟨w.heap.size,3,none⟩) (by simp)).t (show _=some (qzI m) by simp)
  have u:=bel.t (i.m bel.size);clear i bel;go_wp2_with fail
  refine (Cg _ _ _ _).m ?_;rintro e A ⟨rfl,hw⟩;rw [hw];clear hw;obtain ⟨q,k⟩:∃ q,Gb m 1 1000000000000=q:=⟨_,rfl⟩;rw [k];have y:qj _:=k;clear k;go_wp2;go_ret
  exact ⟨Ab (by rw [f.o,y.o]),u⟩
 ·have f:qj (B7 (a,b,c,m)=false):=n _ (by rw [hd,decide_eq_false h4];rfl)
  clear n hd h3 h1 h2
  go_enter func196,ntmps196
  go_wp2_with fail
  refine (El g.o _).m ?_;rintro e l ⟨rfl,hw⟩;rw [hw];clear hw;go_wp2_with fail
  refine (El j.o _).m ?_;rintro e v ⟨rfl,hw⟩;rw [hw];clear hw;go_wp2_with fail
  refine (Mw _ d x.o).m ?_;rintro e z ⟨rfl,i⟩;have u:=bel.t (i.m bel.size);clear i bel;go_wp2;go_ret;exact ⟨Ab f.o.s,u⟩
def Ah (s:qn):Int:=if s=[]\/15<s.length then -1 else if A9 s<0\/Lib.decDigits (A9 s).toNat≠s then -1 else A9 s
theorem Ahn:Ah [] = -1:=by simp [Ah]
theorem zD {s:qn} (h:15<s.length):Ah s = -1:=if_pos (.inr h)
theorem Ahl {s:qn} (z:s≠[]) (f:¬ 15<s.length) (h:A9 s<0):Ah s = -1:=by rw [Ah,if_neg (by rintro (h|h);exact z h;exact f h),if_pos (.inl h)]
theorem Agp {s:qn} (z:s≠[]) (f:¬ 15<s.length) (h:Lib.decDigits (A9 s).toNat≠s):Ah s = -1:=by rw [Ah,if_neg (by rintro (h|h);exact z h;exact f h),if_pos (.inr h)]
theorem Ac2 {s:qn} (z:s≠[]) (f:¬ 15<s.length) (C:¬ A9 s<0) (h:Lib.decDigits (A9 s).toNat=s):Ah s=A9 s:=by rw [Ah,if_neg (by rintro (h|h);exact z h;exact f h),if_neg (by rintro (h'|h');exact C h';exact h' h)]
theorem Mj (s:qn):-1<=Ah s/\Ah s<1000000000000000000:=by
 have:=Ee s
 unfold Ah
 split
 ·omega
 ·split
  ·omega
  ·omega
theorem Pc (s:qn) (w:ql) (hl:s.length<=1048576) :
  qi 94 #[qd s] w (qr (qzI (Ah s)) w):=by
 by_cases z:s=[]
 ·subst z
  have c:=Aa Ahn
  go_enter func94,ntmps94
  go_wp2;go_ret;exact ⟨Af c.o.s,rfl⟩
 have b9:s.isEmpty=false:=by cases s with
  | nil=>exact absurd rfl z
  | cons a t=>rfl
 by_cases f:15<s.length
 ·have c:=Aa (zD f)
  have a8:(15:Int)<(s.length:Int):=by omega
  go_enter func94,ntmps94
  go_wp2;go_ret;exact ⟨Af c.o.s,rfl⟩
 have a8:¬ (15:Int)<(s.length:Int):=by omega
 have U:=Aa λu=>Tg.sNumOf_any s u (by omega)
 have O:=Ee s
 by_cases C:A9 s<0
 ·have c:=Aa (Ahl z f C)
  obtain ⟨n,hn⟩:=Ae (A9 s);rw [hn] at U C O;clear hn f
  go_enter func94,ntmps94
  go_wp2_with (go_at_call 90;refine (U.o _).m ?_;rintro e w' ⟨rfl,rfl⟩)
  go_ret;exact ⟨Af c.o.s,rfl⟩
 obtain ⟨m,hm⟩:=jj (show 0<=A9 s by omega)
 have T:=Aa λu=>Tg.dec_up m u (by omega)
 by_cases J:Lib.decDigits m=s
 ·have c:qj (Ah s=(m:Int)):=by rw [qj,Ac2 z f C (by rw [hm];exact J),hm]
  rw [hm] at U C O;rw [J] at T;clear f J
  have b0:¬ (m:Int)<0:=by omega
  go_enter func94,ntmps94
  go_wp2_with (first|(go_at_call 90;refine (U.o _).m ?_;rintro e w' ⟨rfl,rfl⟩)|(go_at_call 64;refine (T.o _).m ?_;rintro e w' ⟨rfl,rfl⟩))
  go_ret;exact ⟨Af c.o.s,rfl⟩
 ·have c:=Aa (Agp z f (by rw [hm];exact J))
  rw [hm] at U C O;clear f;obtain ⟨D,hD⟩:=Ae (Lib.decDigits m);rw [hD] at T J
  have a9:(D == s)=false:=by simpa using J
  clear hD
  have b0:¬ (m:Int)<0:=by omega
  go_enter func94,ntmps94
  go_wp2_with (first|(go_at_call 90;refine (U.o _).m ?_;rintro e w' ⟨rfl,rfl⟩)|(go_at_call 64;refine (T.o _).m ?_;rintro e w' ⟨rfl,rfl⟩))
  go_ret;exact ⟨Af c.o.s,rfl⟩
def Ax (rs:Bn):Bool:=rs.all λr=>decide (0<=Ah r)
def Bx (rs:Bn):List Int:=if Ax rs=true then rs.map Ah else []
theorem aF {rs:Bn} {k:Nat} (h:k<rs.length) (hn:Ah (Ao rs k)<0):Ax rs=false:=by
 cases e:Ax rs
 ·rfl
 ·have f:=List.all_eq_true.1 e (Ao rs k) (Iz h)
  have C:0<=Ah (Ao rs k):=by simpa using f
  omega
theorem Wp {rs:Bn} (h:∀ k,k<rs.length->0<=Ah (Ao rs k)):Ax rs=true:=by
 refine List.all_eq_true.2 λr S=>?_
 obtain ⟨k,hk,rfl⟩:=List.getElem_of_mem S
 have:=h k hk
 simpa [Ao,hk] using this
theorem Zi (rs:Bn) (k:Nat) (h:k<rs.length):(rs.take (k+1)).map Ah=(rs.take k).map Ah++[Ah (Ao rs k)]:=by
 have e:Ao rs k=rs[k]:=by simp [Ao,h]
 rw [List.take_succ_eq_append_getElem h,List.map_append,e];rfl
theorem Aau:(prog.info? 3).map (λi=>(i.zero,i.size,i.bytes))=some (some (qzI 0),1,8):=by kernel_rfl
theorem qP (x:Int):∀ u ∈ [Value.int .i64 x],u.oneCell'=true:=by
 intro u hu
 rw [List.mem_singleton.1 hu];rfl
theorem Su (ao:qm) (cap:Nat) (rs:Bn) (w:ql) (hz:Bw w ao rs) (hn:rs.length<=1048576) (hd:∀ r ∈ rs,r.length<=1048576) :
  qi 96 #[qf ao rs.length cap] w λe w'=>∃ a k,e=.returned (.tuple #[qf a (Bx rs).length k,.bool (Ax rs)])/\w'.ownsRow w.heap.size 3 1 (qf a (Bx rs).length k) (Bx rs).length ((Bx rs).map (Value.int .i64))/\BW w w':=by
 obtain ⟨i0,hi,b5,b6,b7⟩:=info_parts Aau
 have Z:qj ((w.alloc (.cells #[] 3)).ownsRow w.heap.size 3 1 (qf (some ⟨w.heap.size,0,none⟩) 0 0) 0 ((([]:Bn).map Ah).map (Value.int .i64))):=by
  have h:=World.ownsRow_lit (base:=w.heap.size) (e:=3) (size:=1) w #[] 0 nL (by unfold maxLen;omega) rfl
  rw [qj];simpa using h
 have X:qj (Below w.heap.size w (w.alloc (.cells #[] 3))):=bR.alloc nL _;have HX:=Aa hz
 have T:=Aa λk (hk:k<rs.length)=>hd _ (Iz hk)
 clear hz hd
 go_enter func96,ntmps96
 go_wp2
 go_loopw [4,5] (λs i wr=>∃ (v:Value) (k:Nat),v=s/\k<=rs.length/\i=qzI (k:Int)/\(∀ j,j<k->0<=Ah (Ao rs j))/\wr.ownsRow w.heap.size 3 1 v ((rs.take k).map Ah).length (((rs.take k).map Ah).map (Value.int .i64))/\BW w wr) (λ_ i _=>rs.length - (intOf i).toNat)
 case atStart=>exact ⟨_,0,rfl,qw _,rfl,λj V=>absurd V (Nat.not_lt_zero _),Z.o,X.o⟩
 case round =>
  obtain ⟨v,k,b4,hk,rfl,A,b,d⟩:=hrel;subst b4;have g:=Aa d;have I:=Aa A;have y:=Aa d.size
  have a6:=Aa λj (V:v.ownBlock=some j)=>(b.lt j V).1
  have a4:((rs.take k).map Ah).length<=1048576:=by simp;omega
  by_cases hlt:k<rs.length
  ·have a3:(k:Int)<(rs.length:Int):=by omega
   obtain ⟨gb,off,rfl,b8,B⟩:∃ gb off,ao=some (qzA gb off)/\gb<wr.heap.size/\wr.cell? (qzA gb (off+k))=some (qd (Ao rs k)):=by
    rcases HX.o.below d with h|⟨gb,off,f,C,J⟩
    ·rw [h] at hlt;simp at hlt
    ·exact ⟨gb,off,f,C,J k hlt⟩
   have N:=Aa (Zi rs k hlt);have a5:=T.o k hlt;have b1:=Mj (Ao rs k);have Y:qj _:=@aF rs k hlt
   have G:=Aa λu=>Pc _ u a5
   have H:qj (0<=Ah (Ao rs k)->∀ j,j<k+1->0<=Ah (Ao rs j)):=λh j V=>by
    rcases (show j<k\/j=k by omega) with V|rfl
    ·exact I.o j V
    ·exact h
   obtain ⟨L,hL⟩:=Ae ((rs.take k).map Ah);rw [hL] at N b a4;obtain ⟨x,hx⟩:=Ae (Ah (Ao rs k));rw [hx] at N G b1 Y H;obtain ⟨r,S⟩:=Ae (Ao rs k);rw [S] at B G a5;have HO:=Aa b;clear hL hx S b d A Z X
   by_cases hxn:x<0
   ·have c:=Aa (Y.o hxn)
    have F:qj (Bx rs=[]):=if_neg (by rw [c.o];decide)
    go_wp2_with (go_at_call 94;refine (G.o _).m ?_;rintro e w' ⟨rfl,p⟩;replace p:=p.s;subst p)
    go_ret2;rw [c.o,F.o]
    exact ⟨_,_,rfl,by simpa using World.ownsRow_lit (base:=w.heap.size) (e:=3) (size:=1) wr #[] 0 y.o (by unfold maxLen;omega) rfl,g.o.alloc y.o _⟩
   ·go_wp2_with (first
      | (go_at_call 94;refine (G.o _).m ?_;rintro e w' ⟨rfl,p⟩;replace p:=p.s;subst p)
      | (at_builtin;refine wpList_append_own _ rfl (.tmp 22) (.tmp 24) 22 rfl w.heap.size 3 i0 (.int .i64 0) 1 8 underlying22 hi b5 b6 b7 rfl (by decide) _ _ _ rfl (HO.o.alloc _) ⟨wr.heap.size,0,none⟩ 1 1 [.int .i64 x] rfl rfl (World.news_of_block (heap_alloc_new wr _)) (qP _) (by unfold maxLen;omega) (by omega) (by simp;have:=y.o;omega) ?_;intro v5 w5 o5 g5 _))
    have q5:=(g.o.alloc (by have:=y.o;omega) _).grown g5 (by have:=y.o;simp;omega) a6.o
    have a7:qj (w5.ownsRow w.heap.size 3 1 v5 ((rs.take (k+1)).map Ah).length (((rs.take (k+1)).map Ah).map (Value.int .i64))):=by
     rw [qj,N.o,qv,List.map_append];exact o5
    clear o5 g5 B;go_wp2
    go_roundw
    case rel=>exact ⟨_,k+1,rfl,by omega,by go_num,H.o (by omega),a7.o,q5⟩
    case measure=>simp [intOf];omega
  ·have R:k=rs.length:=by omega
   subst R
   have a3:¬ (rs.length:Int)<(rs.length:Int):=by omega
   have c:=Aa (Wp I.o);have F:qj (Bx rs=rs.map Ah):=if_pos c.o;rw [List.take_length] at b;obtain ⟨L,hL⟩:=Ae (rs.map Ah);rw [hL] at b F;clear hL a4;obtain ⟨va,vk,b3⟩:=Ta b;subst b3;have HO:=Aa b;clear d b A;go_wp2;go_ret2;rw [c.o,F.o];exact ⟨va,vk,rfl,HO.o,g.o⟩
def G7:Bn:=[[97,115,107],[103,105,118,101],[99,104,97,114,103,101],[97,110,115,119,101,114],[115,101,99,111,110,100],[97,99,99,101,112,116],[114,101,102,117,115,101],[114,117,108,101],[101,120,112,105,114,101],[99,108,111,115,101]]
def E9 (s:qn):Bn->Nat->Int
 | [],_=>-1
 | r::t,k=>if r=s then (k:Int) else E9 s t (k+1)
def Cp (s:qn):Int:=E9 s G7 0
theorem aM (s:qn) (rs:Bn) (k:Nat) (h:k<rs.length):E9 s (rs.drop k) k=if Ao rs k=s then (k:Int) else E9 s (rs.drop (k+1)) (k+1):=by
 have e:Ao rs k=rs[k]:=by simp [Ao,h]
 rw [jc h,e];rfl
theorem Uo (s:qn):∀ (rs:Bn) (k:Nat),-1<=E9 s rs k/\E9 s rs k<(k+rs.length:Nat)
 | [],k=>by simp [E9];omega
 | r::t,k=>by
  have:=Uo s t (k+1)
  unfold E9
  split
  ·simp;omega
  ·simp at this ⊢;omega
theorem Aa9 (s:qn):-1<=Cp s/\Cp s<10:=Uo s G7 0
theorem sO (w:ql) :
  qi 124 #[] w λe w'=>e=.returned (qf (some ⟨w.heap.size,0,none⟩) 10 10)/\(∀ k,k<10->w'.cell? ⟨w.heap.size,k,none⟩=some (qd (Ao G7 k)))/\BW w w':=by
 go_enter func124,ntmps124
 go_wp2;go_ret
 refine ⟨rfl,λk hk=>?_,bR.alloc nL _⟩
 rcases (show k=0\/k=1\/k=2\/k=3\/k=4\/k=5\/k=6\/k=7\/k=8\/k=9 by omega) with rfl|rfl|rfl|rfl|rfl|rfl|rfl|rfl|rfl|rfl <;> simp [Ao,G7]
theorem Zs (s:qn) (w:ql) (hl:s.length<=1048576) :
  qi 99 #[qd s] w (qp (qzI (Cp s)) w):=by
 have HK:qj (Cp s=E9 s (G7.drop 0) 0):=rfl
 go_enter func99,ntmps99
 go_wp2
 go_loopw [3] (λi wr=>∃ (k:Nat),k<=10/\i=qzI (k:Int)/\Cp s=E9 s (G7.drop k) k/\BW w wr) (λi _=>10 - (intOf i).toNat)
 case atStart=>exact ⟨0,qw _,rfl,HK.o,bR⟩
 case round =>
  obtain ⟨k,hk,rfl,q,d⟩:=hrel;have g:=Aa d
  by_cases hlt:k<10
  ·have a3:(k:Int)<10:=by omega
   have l:=aM s G7 k hlt
   have W:qj (qi 124 #[] wr λe w'=>e=.returned (qf (some ⟨wr.heap.size,0,none⟩) 10 10)/\w'.cell? ⟨wr.heap.size,k,none⟩=some (qd (Ao G7 k))/\BW wr w'):=(sO wr).m λe w' h=>⟨h.1,h.2.1 k hlt,h.2.2⟩
   obtain ⟨r,S⟩:=Ae (Ao G7 k);rw [S] at l W;clear S d HK
   by_cases hrs:r=s
   ·subst hrs
    rw [if_pos rfl] at l;have c:=Aa (q.t l);clear l q;go_wp2_with fail
    refine W.o.m ?_;rintro e w2 ⟨rfl,c2,b2⟩;have M:=Aa (next g.o b2);clear b2 W;go_wp2;go_ret;exact ⟨Af c.o.s,M.o⟩
   ·rw [if_neg hrs] at l
    have c:=Aa (q.t l)
    have a9:(r == s)=false:=by simpa using hrs
    clear l q;go_wp2_with fail
    refine W.o.m ?_;rintro e w2 ⟨rfl,c2,b2⟩;have M:=Aa (next g.o b2);clear b2 W;go_wp2
    go_roundw
    case rel=>exact ⟨k+1,by omega,by go_num,c.o,M.o⟩
    case measure=>simp [intOf];omega
  ·have R:k=10:=by omega
   subst R;have c:=Aa q;clear d q;go_wp2;go_ret;exact ⟨Af c.o.s,g.o⟩
namespace Kb
open Go.RowKit Go.Conc.Locks Go.Proofs.Tryz
abbrev muL:MuLink:={ lock:=78,unlock:=79,ilock:=108,iunlock:=109,lockSlow:=140,unlockSlow:=143,disable:=136,enable:=138,acquire:=139,relMerge:=141,cas32:=137,add32:=142,tMutex:=126,tIMutex:=124,tPMutex:=163,tPIMutex:=204,tPI32:=206,tUP:=208,tNoCopy:=121,tU32:=122 }
theorem muH:MuLib prog muL:=⟨func78,func79,func108,func109,func136,func138,func139,func141,func137,func142,underlying124,runUnderlying124,sizeOf124,isAgg124,zeroValue124,underlying126,runUnderlying126,sizeOf126,isAgg126,zeroValue126,underlying163,runUnderlying163,sizeOf163,isAgg163,zeroValue163,underlying204,runUnderlying204,sizeOf204,isAgg204,zeroValue204,underlying206,runUnderlying206,sizeOf206,isAgg206,zeroValue206,underlying208,runUnderlying208,sizeOf208,isAgg208,zeroValue208,underlying121,runUnderlying121,sizeOf121,isAgg121,zeroValue121,underlying21,runUnderlying21,sizeOf21,isAgg21,zeroValue21,by kernel_rfl⟩
end Kb
end Go.Proofs.YtfpafnefpmmofaaGreatDoor
