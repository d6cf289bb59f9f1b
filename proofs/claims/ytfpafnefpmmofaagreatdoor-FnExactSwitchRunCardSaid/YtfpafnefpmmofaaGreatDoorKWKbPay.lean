import Derived.Test.YtfpafnefpmmofaaGreatDoorJW3a
namespace Go.Proofs.YtfpafnefpmmofaaGreatDoor.Kb
open Go.RowKit Go.Proofs.Tryz
set_option maxRecDepth 100000
set_option maxHeartbeats 12800000
def Km (F:Ii) (b:Bk) (rs:Bn) (r:Bk×Int):Prop :=
 if Ax rs=true/\rs.length=4 then ∃ x,F.best b.az (Ah (Ao rs 0)) (Ah (Ao rs 2)) (Ah (Ao rs 3)) b.today x/\r=Lx F b (Ah (Ao rs 0)) (Ah (Ao rs 1)) (Ah (Ao rs 2)) (Ah (Ao rs 3)) x else r=(b,1)
theorem jI {u:ql} {base n size:Nat} {t:TypeId} {v:Value} {xs:List Value} (h:u.ownsRow base t size v n xs):∃ a c,v=qf a n c:=by
 rcases h.2 with ⟨hv,h0⟩|⟨g,cap,cw,hv,_⟩
 ·exact ⟨none,0,by rw [hv,h0]⟩
 ·exact ⟨_,_,hv⟩
theorem kbC {B K:Nat} {st:Int} {b:Bk} {q:Bp} {W u u':ql} (k:KS B K st b q W) (g:u.grownBy u' (Value.slice q.c b.cs.length q.cc).ownBlock) (h:BW W u):u'.cell? (qzA K 6)=some (qf q.c b.cs.length q.cc)/\u'.frozen? (qzA K 6)=false:=by
 have ku:=k.below h
 have zz:=ku.z.grown g (E8 ku.cs ku.kt (by decide))
 exact ⟨zz.c6,zz.z6⟩
def PaR (E:ql->Prop) (B K:Nat) (F:Ii) (b:Bk) (rs:Bn) (w:ql) (e:Ending) (w':ql):Prop:=∃ r,Km F b rs r/\rX E B K w r e w'
theorem Aiz {x:Int} (h1:-1<=x) (h2:x<1000000000000000000):(Lit.int .i64 x).wf=true:=by
 simp [Lit.wf,IntKind.min,IntKind.max,IntKind.signed,IntKind.bits];omega
theorem Abj (b:Bk):(⟨b.today,b.off,b.az,b.cs,b.ls,b.log⟩:Bk)=b:=by cases b;rfl
theorem Abf {F:Ii} {E:ql->Prop} {G B K:Nat} (KI:qJ F E G) (j4:G<=B) (b:Bk) (q:Bp) (ao:qm) (cap:Nat) (rs:Bn) (w:ql) (hk:KS B K 1 b q w) (hE:E w) (hP:Hk b) (hz:Bw w ao rs) (hn:rs.length<=1048576) (hd:∀ r ∈ rs,r.length<=1048576) :
  qi 177 #[qh K,qf ao rs.length cap] w (PaR E B K F b rs w):=by
 have p:=Aa (Tm KI ao cap rs w hz hn hd hE);have g8:=Aa hk.lt;have i0:=Aa hk;have a3:=Aa hE;have D:=Aa hP;have d:=Aa KI;have j0:=Aa j4;clear hz hd hk hE hP KI
 by_cases I:Ax rs=true/\rs.length=4
 ·obtain ⟨h1,h2⟩:=I
  obtain ⟨r0,r1,r2,r3,J⟩:=Ahs h2
  have hv:Bx rs=[Ah r0,Ah r1,Ah r2,Ah r3]:=by rw [Bx,if_pos h1,J];rfl
  have hg:∀ r ∈ rs,eE (Ah r):=λr hr=>⟨by simpa using List.all_eq_true.1 h1 r hr,(Mj r).2⟩
  have g0:=hg r0 (by rw [J];simp)
  have g1:=hg r1 (by rw [J];simp)
  have g2:=hg r2 (by rw [J];simp)
  have g3:=hg r3 (by rw [J];simp)
  have HR:qj (∀ r x,F.best b.az (Ah r0) (Ah r2) (Ah r3) b.today x->r=Lx F b (Ah r0) (Ah r1) (Ah r2) (Ah r3) x->Km F b rs r):=λr x hx hr=>by
   rw [Km,if_pos ⟨h1,h2⟩,J];exact ⟨x,hx,hr⟩
  rw [hv,h1] at p;obtain ⟨n0,e0⟩:=Ae (Ah r0);obtain ⟨n1,e1⟩:=Ae (Ah r1);obtain ⟨n2,e2⟩:=Ae (Ah r2);obtain ⟨n3,e3⟩:=Ae (Ah r3);rw [e0,e1,e2,e3] at p HR;rw [e0] at g0;rw [e1] at g1;rw [e2] at g2;rw [e3] at g3
  simp only [qx,qy,List.map_cons,List.map_nil] at p
  have i7:=Aa g0;have i8:=Aa g1;have h9:=Aa g2;have b7:=Aa g3;clear hv e0 e1 e2 e3 h1 h2 J hg g0 g1 g2 g3
  go_enter func177,ntmps177
  go_wp2_with fail
  refine Calls.m p.o ?_;rintro e Z ⟨a,k,rfl,o1,p1⟩
  obtain ⟨gn,rfl,-,-⟩:=Lg o1 (by omega)
  have m0:Z.cell? (qzA gn 0)=some (qzI n0):=by simpa using o1.cellAt 0 (by omega)
  have m1:Z.cell? (qzA gn 1)=some (qzI n1):=by simpa using o1.cellAt 1 (by omega)
  have m2:Z.cell? (qzA gn 2)=some (qzI n2):=by simpa using o1.cellAt 2 (by omega)
  have m3:Z.cell? (qzA gn 3)=some (qzI n3):=by simpa using o1.cellAt 3 (by omega)
  have f:=Aa (i0.o.below p1);have N:qj (C5 B w Z):=.of p1 g8.o;have b6:=Aa (d.o.grow a3.o p1);have T:=Aa f.o.lt;clear o1 p1 p;go_upto_region 4 with fail
  go_quiet (fail)
  go_upto_region 5 with fail
  obtain ⟨S,c9⟩:=A0 (Z.drewN nq);rw [<- c9]
  have pW:BW Z S:=by rw [c9];exact below_drewN bR _
  clear m0 m1 m2 m3;obtain ⟨f,-⟩:∃ _k:qj (KS B K 1 b q S),True:=⟨f.o.below pW,trivial⟩;obtain ⟨N,-⟩:∃ _k:qj (C5 B w S),True:=⟨N.o.t (.of pW T.o),trivial⟩;obtain ⟨b6,-⟩:∃ _k:qj (E S),True:=⟨d.o.grow b6.o pW,trivial⟩;obtain ⟨T,-⟩:∃ _k:qj (B<=S.heap.size),True:=⟨f.o.lt,trivial⟩;clear c9 pW;have g7:=f.o.z;have c3:=g7.c3;have c5:=g7.c5
  have HS:qj (∀ u,BW S u->u.cell? (qzA K 3)=some (qzI b.today)/\u.cell? (qzA K 5)=some (qf q.a b.az.length q.ac)):=λu h=>⟨(f.o.below h).z.c3,(f.o.below h).z.c5⟩
  have b9:qj (∀ u,BW S u->qi 218 #[qf q.a b.az.length q.ac,qzI n0,qzI n2,qzI n3,qzI b.today] u λe w'=>∃ x,e=.returned (qzI x)/\F.best b.az n0 n2 n3 b.today x/\BW u w'):=λu h =>
   d.o.best q.a q.ac b.az n0 n2 n3 b.today u (f.o.below h).at.az D.o.sm.2.1 D.o.ref D.o.cur (Aiz (by have:=b7.o.1;omega) b7.o.2) D.o.day
  have k0:BW S S:=bR;clear g7
  go_region_held3 (λu=>u.cell? (qzA K 3)=some (qzI b.today)/\u.cell? (qzA K 5)=some (qf q.a b.az.length q.ac)) (first|with_reducible exact HS.o _ k0|with_reducible exact HS.o _ k0.drew|with_reducible exact HS.o _ k2) ((go_at_call 218;(first|with_reducible refine Calls.m (b9.o _ k0) ?_|with_reducible refine Calls.m (b9.o _ k0.drew) ?_);rintro e w2 ⟨x,rfl,hx,p2⟩;have k2:BW S w2:=(by first|exact p2|exact (Below.t (Below.refl S.heap.size S).drew p2))))
  all_goals
   rename_i hheld
   have O:=Aa (f.o.below k2);have b4:=Aa (N.o.t (.of k2 T.o));have V:=Aa (d.o.grow b6.o k2)
   have j:qj (∀ r,r=Lx F b n0 n1 n2 n3 x->Km F b rs r):=λr h=>HR.o r x hx h
   have b0:=d.o.low _ _ _ _ _ _ hx;clear hheld c3 c5 k0 k2 p2 hx HR HS b9;have zz:=O.o.z
   by_cases hx1:x = -1
   ·subst hx1
    obtain ⟨et,ea,y⟩:=d.o.eAuth w2 V.o
    have l:qj (NF E (.iface et (.pointer (some ea)))):=⟨w2,5,V.o,by decide,y⟩
    have HQ:=Aa (j.o _ (rE F (b:=b) (n0:=n0) (n1:=n1) (n2:=n2) (n3:=n3) (x:=-1) (by omega)).s)
    clear zz j b0;go_wp2;go_ret
    exact ⟨_,HQ.o,Ij l.o (by decide) O.o b4.o⟩
   have a8:¬ x<0:=by omega
   have k8:(x == -1)=false:=by simpa using hx1
   clear b0 hx1;have c6:=zz.c6;have k5:b.cs.length<=1048576:=D.o.sm.2.2.1
   by_cases hcs:150<=b.cs.length
   ·have j5:(150:Int)<=(b.cs.length:Int):=by omega
    obtain ⟨et,ea,y⟩:=d.o.eCases w2 V.o
    have l:qj (NF E (.iface et (.pointer (some ea)))):=⟨w2,6,V.o,by decide,y⟩
    have HQ:=Aa (j.o _ (qW F (n0:=n0) (n1:=n1) (n2:=n2) (n3:=n3) a8 hcs).s);clear zz j hcs;go_wp2;go_ret
    exact ⟨_,HQ.o,Ij l.o (by decide) O.o b4.o⟩
   have j5:¬ (150:Int)<=(b.cs.length:Int):=by omega
   have c3:=zz.c3;have a4:=Aa (d.o.start n0 n1 n2 n3 b.today w2 h9.o);have Y:qj _:=d.o.small n0 n1 n2 n3 b.today;have P3:qj _:=@qE F b n0 n1 n2 n3 x a8 hcs;have P4:qj _:=@rJ F b n0 n1 n2 n3 x a8 hcs;have P5:qj _:=@rS F b n0 n1 n2 n3 x a8 hcs;obtain ⟨C,hC⟩:=Ae (F.stC n0 n1 n2 n3 b.today);obtain ⟨ES,a5⟩:=Ae (F.stE n0 n1 n2 n3 b.today);obtain ⟨so,g5⟩:=Ae (F.stOk n0 n1 n2 n3 b.today);rw [hC,a5,g5] at a4;rw [a5] at Y P4;rw [hC,a5] at P5;rw [g5] at P3 P4 P5;clear hC a5 g5 hcs zz;unfold cv at a4;go_wp2_with fail
   refine Calls.m a4.o ?_;rintro e w3 ⟨eo,ec,rfl,o3,p3⟩;obtain ⟨W3,a7⟩:=A0 (w3.alloc (.cells #[qzI C.iss,qzI C.acq,qzI C.cur,qzI C.am,qzI C.st,qzI C.rsn,qzI C.cl,qzI C.bk,qzI C.fee,.bool C.cop,qzI C.sta,qzI C.due] 111))
   have bA:BW w3 W3:=by rw [a7];exact bR.alloc nL _
   have h4:=Aa O.o.lt;have b8:=Aa ((O.o.below p3).below bA);have g9:=Aa (b4.o.t (.of (next p3 bA) h4.o));have h5:=Aa (d.o.grow V.o (next p3 bA));have h7:=Aa (Js (A5 o3 bA));have b2:K<w3.heap.size:=(O.o.below p3).z.lt
   have HX:qj (CB w3.heap.size 0 C W3):=by rw [a7];exact CB.new w3 C _
   have j9:=Aa b8.o.lt;clear o3 p3 bA c3 c6 a4;go_upto_region 11 with fail
   rw [<- a7];obtain ⟨X,hX⟩:=A0 w3.heap.size;rw [<- hX] at HX b2 ⊢
   have i6:X≠K:=by omega
   clear a7 hX b2
   cases so
   ·obtain ⟨et,ea,y⟩:=d.o.eCase W3 h5.o
    have l:qj (NF E (.iface et (.pointer (some ea)))):=⟨W3,7,h5.o,by decide,y⟩
    have HQ:=Aa (j.o _ (P3.o (by simp)).s)
    clear j P3 P4 P5 Y;go_wp2;go_ret
    exact ⟨_,HQ.o,Ij l.o (by decide) b8.o g9.o⟩
   have i1:=Aa (Oy d.o b q eo ec ES W3 b8.o D.o h7.o Y.o.1 (Y.o.2 i7.o i8.o h9.o b7.o));go_wp2_with fail
   refine Calls.m i1.o ?_;rintro e w4 ⟨rfl,⟨la,lc,k4⟩,p4,g4⟩;have b5:=Aa (g9.o.t p4);have h6:=Aa (d.o.keep _ _ a3.o (b5.o.b.m j0.o))
   have j3:=Aa (HX.o.grown g4 (by simpa using i6))
   have M:qj _:=d.o.stay b.ls ES;have H:=Aa k4;obtain ⟨LL,i3⟩:=Ae (F.all b.ls ES);obtain ⟨ok,I⟩:=Ae (F.allOk b.ls ES);rw [i3] at H M P5;rw [I] at M P4 P5 ⊢;clear p4 g4 k4 i3 I i1 h7 Y
   cases ok
   ·obtain ⟨et,ea,y⟩:=d.o.eMoney w4 h6.o
    have l:qj (NF E (.iface et (.pointer (some ea)))):=⟨w4,8,h6.o,by decide,y⟩
    have HQ:=Aa (j.o _ (P4.o (by simp) (by simp)).s)
    have j1:qj (∃ q',KS B K 1 b q' w4):=by
     have h:=H.o
     rw [M.o (by simp),Abj] at h
     exact ⟨_,h⟩
    clear j P3 P4 P5;go_wp2;go_ret;obtain ⟨q',j7⟩:=j1.o
    exact ⟨_,HQ.o,Ij l.o (by decide) j7 b5.o⟩
   have HQ:=Aa (j.o _ (P5.o (by simp) (by simp)).s)
   clear j P3 P4 P5 M;have c5:=H.o.z.c5;have c8:=Aa (d.o.use q.a q.ac b.az x w4 H.o.at.az D.o.sm.2.1 D.o.ref);obtain ⟨LU,i4⟩:=Ae (F.use b.az x);rw [i4] at c8 HQ;clear i4;go_wp2_with fail
   refine Calls.m c8.o ?_;rintro e w5 ⟨ua,uc,rfl,o5,p5⟩;have a9:=Aa H.o.lt;have A:qj _:=H.o.below p5;have i:=Aa (A.o.setA o5 a9.o);have h3:qj (C5 B w (w5.setCell (qzA K 5) (qf ua LU.length uc))):=(b5.o.t (.of p5 a9.o)).setK A.o.kt H.o.hK
   have i2:qj (CB X 0 C (w5.setCell (qzA K 5) (qf ua LU.length uc))):=(j3.o.below p5).grown (An w5 K 5 _) (by simpa using i6)
   have c5:=A.o.z.c5;have z5:=A.o.z.z5;clear o5 p5 c8 A;go_upto_region 16 with fail
   obtain ⟨W5,i5⟩:=A0 (w5.setCell (qzA K 5) (qf ua LU.length uc));rw [<- i5] at i h3 i2 ⊢;clear i5 c5 z5;have c6:=i.o.z.c6;have z6:=i.o.z.z6
   have a6:=λo=>(i.o.al o).z.c6
   obtain ⟨d0,d1,d2,d3,d4,d5,d6,d7,d8,d9,k1,k3⟩:=i2.o;have lX:X<W5.heap.size:=qs W5 _ d0;have U:=Aa i.o.lt
   have h8:qj (∀ (u u':ql) (a:qm) (c:Nat),BW W5 u->u.grownBy u' (Value.slice q.c b.cs.length q.cc).ownBlock->u'.ownsRow B 111 12 (qf a (b.cs.length+1) c) (b.cs.length+1) (Am b.cs++Am [C])->rX E B K w (⟨b.today,b.off,LU,b.cs++[C],LL,b.log⟩,0) (.returned .nilIface) (u'.setCell (qzA K 6) (qf a (b.cs.length+1) c))):=λu u' a c h g o=>by
    have o':u'.ownsRow B 111 12 (qf a (b.cs++[C]).length c) (b.cs++[C]).length (Am (b.cs++[C])):=by
     rw [Oh,qv,List.length_singleton];exact o
    have h2:=(i.o.below h).setC g o';rw [qv,List.length_singleton] at h2;refine oB h2 ?_;have kh:=i.o.below h;have hu:C5 B w u':=(h3.o.t (.of h U.o)).grownO g kh.cs (jk U.o h.size) (.inl rfl)
    exact hu.setK (kh.kt.grown g (E8 kh.cs kh.kt (by decide))) i.o.hK
   go_region_law (first
    | (refine Dg rfl (.tmp 110) (.tmp 112) rfl B (qf q.c b.cs.length q.cc) b.cs.length (Am b.cs) (by simp [Act.eval]) (A5 i.o.cs (by go_grown)) (some ⟨W5.heap.size,0,none⟩) 1 [C] (by simp [Act.eval];try rfl) (by first|exact Og (CB.new W5 C _)|exact Og ((CB.new W5 C _).below (bR.drew))) (by simp;omega) (by simp;have:=U.o;omega) ?_
       intro v6 w6 o6 g6 _
       (try simp only [List.length_singleton] at o6)
       obtain ⟨va,vc,j8⟩:=jI o6;subst j8;have j2:=Aa o6;have i9:qj _:=g6
       obtain ⟨y6,x6⟩:=kbC i.o g6 (by go_grown)
       clear o6 g6)
    | fail)
   all_goals
    go_wp2;go_ret
    exact ⟨_,HQ.o,h8.o _ _ _ _ (by go_grown) i9.o j2.o⟩
 ·have HR:qj (∀ r,r=(b,1)->Km F b rs r):=λr h=>by rw [Km,if_neg I];exact h
  have R:Ax rs=true->¬ (Bx rs).length=4:=λh1 h2=>I ⟨h1,by rw [Bx,if_pos h1] at h2;simpa using h2⟩
  have j6:(Bx rs).length<=1048576:=by unfold Bx;split <;> simp;omega
  obtain ⟨L,hL⟩:=Ae (Bx rs);rw [hL] at p R j6;obtain ⟨ok,b3⟩:=Ae (Ax rs);rw [b3] at p R;clear hL b3 I
  go_enter func177,ntmps177
  go_wp2_with fail
  refine Calls.m p.o ?_;rintro e Z ⟨a,k,rfl,o1,b1⟩;have f:=Aa (i0.o.below b1);have N:qj (C5 B w Z):=.of b1 g8.o;obtain ⟨et,ea,y⟩:=d.o.eLine Z (d.o.grow a3.o b1)
  have l:qj (NF E (.iface et (.pointer (some ea)))):=⟨Z,1,(d.o.grow a3.o b1),by decide,y⟩
  clear o1 b1 p
  cases ok
  ·clear R
   go_wp2;go_ret
   exact ⟨_,HR.o _ rfl,Ij l.o (by decide) f.o N.o⟩
  ·have k6:((L.length:Int) == 4)=false:=by
     have:=R rfl
     simp;omega
   have k7:((L.length:Int) != 4)=true:=by
    have:=R rfl
    simp;omega
   clear R;go_wp2;go_ret
   exact ⟨_,HR.o _ rfl,Ij l.o (by decide) f.o N.o⟩
end Go.Proofs.YtfpafnefpmmofaaGreatDoor.Kb
