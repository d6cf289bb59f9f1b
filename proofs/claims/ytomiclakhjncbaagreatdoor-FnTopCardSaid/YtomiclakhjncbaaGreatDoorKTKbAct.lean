import Derived.Test.YtomiclakhjncbaaGreatDoorJT3a
namespace Go.Proofs.YtomiclakhjncbaaGreatDoor.Kb
open Go.RowKit Go.Proofs.Tryz
set_option maxRecDepth 100000
set_option maxHeartbeats 12800000
theorem lZ {F:Ff} {E:World->Prop} {G B K:Nat} (KI:Rq F E G) (k8:G<=B) (b:Bk) (q:Bp) (ao:Option Addr) (cap:Nat) (rs:Be) (w:World) (hk:KS B K 1 b q w) (hE:E w) (hP:Ej b) (hz:Bh w ao rs) (hd:∀ r ∈ rs,r.length<=1048576) :
  Calls prog 175 #[.pointer (some (qzA K 0)),.slice ao rs.length cap] w (Wz E B K w (Hx F b rs)):=by
 have l6:Hid (B<=w.heap.size):=hk.lt;have j6:Hid (KS B K 1 b q w):=hk;have h6:Hid (E w):=hE;have b4:Hid (Ej b):=hP;have l:Hid (Rq F E G):=KI;have n4:Hid (G<=B):=k8;have l8:Hid (Ce B w w):=.refl _ _
 by_cases hl4:rs.length=4
 ·obtain ⟨r0,A,t,y,b1⟩:=nP hl4
  have d0:=hd r0 (by rw [b1];simp)
  have d2:=hd t (by rw [b1];simp)
  have d3:=hd y (by rw [b1];simp)
  rw [b1] at hz;obtain ⟨g,off,rfl,hg,t0,t1,t2,t3⟩:=pV hz;rw [b1];clear hd hz hl4 hk hE hP KI k8 b1
  have c8:Hid (Calls prog 213 #[.string ⟨A.toArray⟩] w fun e w'=>e=.returned (.tuple #[qzI (Oz A),.bool (decide (0<=Bz A))])/\BW w w'):=fD l.o A w h6.o
  have q0:=lS A
  have a6:Hid (Hx F b [r0,A,t,y]=if 0<=Bz A/\Ap [r0,t,y]=true then Ja F b (Ae r0) ⟨Bz A,Ae t,Ae y⟩ else (b,1)):=by
   rw [Hid,Hx]
   by_cases h:0<=Bz A/\Ap [r0,t,y]=true
   ·rw [if_pos ⟨rfl,h.1,h.2⟩,if_pos h];rfl
   ·rw [if_neg (fun e=>h ⟨e.2.1,e.2.2⟩),if_neg h]
  have i0:Hid (0<=Bz A->Oz A=Bz A):=fun h=>if_pos h
  obtain ⟨kp,b7⟩:∃ x,Oz A=x:=⟨_,rfl⟩;rw [b7] at c8 i0;have a8:Hid (decide (0<=Bz A)=true ↔ 0<=Bz A):=decide_eq_true_iff;obtain ⟨kn,l3⟩:∃ x,decide (0<=Bz A)=x:=⟨_,rfl⟩;rw [l3] at c8 a8;obtain ⟨ok,b0⟩:∃ x,Ap [r0,t,y]=x:=⟨_,rfl⟩;have h0:Hid (Ap [r0,t,y]=ok):=b0
  have b3:Hid (ok=true->A7 [r0,t,y]=[Ae r0,Ae t,Ae y]/\Rp (Ae r0)/\Rp (Ae t)/\Rp (Ae y)):=fun h=>by
   have h':Ap [r0,t,y]=true:=b0.trans h
   have hg:∀ r ∈ [r0,t,y],Rp (Ae r):=fun r hr=>⟨by simpa using List.all_eq_true.1 h' r hr,(Ib r).2⟩
   exact ⟨if_pos h',hg r0 (by simp),hg t (by simp),hg y (by simp)⟩
  obtain ⟨L,hL⟩:∃ x,A7 [r0,t,y]=x:=⟨_,rfl⟩;rw [hL] at b3;have j9:Hid (A7 [r0,t,y]=L):=hL;clear b7 l3 b0 hL
  go_enter func175,ntmps175
  go_wp2_with fail
  refine Calls.mono c8.o ?_;rintro e w1 ⟨rfl,p1⟩;have j7:Hid (KS B K 1 b q w1):=j6.o.below p1;have l7:Hid (Ce B w w1):=.of p1 l6.o;have j2:Hid (E w1):=l.o.grow h6.o p1;have i8:Hid (B<=w1.heap.size):=j7.o.lt;have s0:w1.cell? (qzA g off)=some (.string ⟨r0.toArray⟩):=(p1.cell (p:=(qzA g off)) hg).trans t0;have s2:w1.cell? (qzA g (off+2))=some (.string ⟨t.toArray⟩):=(p1.cell (p:=(qzA g (off+2))) hg).trans t2;have s3:w1.cell? (qzA g (off+3))=some (.string ⟨y.toArray⟩):=(p1.cell (p:=(qzA g (off+3))) hg).trans t3;clear p1 t0 t1 t2 t3 c8 hg
  have i1:Hid (∀ u,BW w1 u->u.cell? ⟨w1.heap.size,0,none⟩=some (.string ⟨r0.toArray⟩)->u.cell? ⟨w1.heap.size,1,none⟩=some (.string ⟨t.toArray⟩)->u.cell? ⟨w1.heap.size,2,none⟩=some (.string ⟨y.toArray⟩)->Calls prog 206 #[.slice (some ⟨w1.heap.size,0,none⟩) 3 3] u fun e w'=>∃ a k,e=.returned (.tuple #[.slice a (A7 [r0,t,y]).length k,.bool (Ap [r0,t,y])])/\w'.ownsRow u.heap.size 3 1 (.slice a (A7 [r0,t,y]).length k) (A7 [r0,t,y]).length ((A7 [r0,t,y]).map (Value.int .i64))/\BW u w'):=fun u h c0 c1 c2 =>
   Ks l.o (some ⟨w1.heap.size,0,none⟩) 3 [r0,t,y] u (pY (World.block_lt_of_cell? u _ c0) c0 c1 c2) (by simp) (by
    intro r hr
    simp at hr
    rcases hr with rfl | rfl | rfl <;> assumption) (l.o.grow j2.o h)
  rw [j9.o,h0.o] at i1;go_upto_region 4 with fail
  go_cut [7,8] (fun va vo wz=>∃ a k m,va=.slice a L.length k/\vo=.bool ok/\wz.ownsRow m 3 1 (.slice a L.length k) L.length (L.map (Value.int .i64))/\BW w1 wz)
  case first =>
   go_region_law (first
    | (go_simp;go_at_call 206;(first | refine Calls.mono (i1.o _ (by go_grown) (by simp) (by simp) (by simp)) ?_);rintro e J ⟨a,k,rfl,o2,p2⟩;have k2:BW w1 J:=next (by go_grown) p2;have n5:Hid _:=o2;clear o2 p2)
    | fail)
   all_goals
    go_wp2_with fail
    go_meet;exact ⟨_,_,_,rfl,rfl,n5.o,k2⟩
  case rest =>
   obtain ⟨J,q5⟩:∃ x,x=wc:=⟨_,rfl⟩;subst q5;obtain ⟨a,k,m,rfl,rfl,o2,k2⟩:=hcut;have b9:Hid (KS B K 1 b q J):=j7.o.below k2;have h2:Hid (Ce B w J):=l7.o.trans (.of k2 i8.o);have b2:Hid (E J):=l.o.grow j2.o k2;have i9:Hid (B<=J.heap.size):=b9.o.lt;clear k2 s0 s2 s3 i1
   cases kn
   ·obtain ⟨et,R,I⟩:=l.o.eLine J b2.o
    have H:Hid (NF E (.iface et (.pointer (some R)))):=⟨J,3,b2.o,by decide,I⟩
    have W:Hid (Hx F b [r0,A,t,y]=(b,1)):=by
     rw [Hid,a6.o,if_neg]
     exact fun e=>by have:=a8.o.2 e.1;cases this
    clear a6 a8 b3 o2;go_wp2;go_ret;rw [W.o]
    exact Et H.o (by decide) b9.o h2.o
   cases ok
   ·obtain ⟨et,R,I⟩:=l.o.eLine J b2.o
    have H:Hid (NF E (.iface et (.pointer (some R)))):=⟨J,3,b2.o,by decide,I⟩
    have W:Hid (Hx F b [r0,A,t,y]=(b,1)):=by
     rw [Hid,a6.o,if_neg]
     exact fun e=>by rw [h0.o] at e;cases e.2
    clear a6 a8 b3 o2;go_wp2;go_ret;rw [W.o]
    exact Et H.o (by decide) b9.o h2.o
   obtain ⟨S,h8,h9,j5⟩:=b3.o (by simp)
   have i4:0<=Bz A:=a8.o.1 (by simp)
   have b7:kp=Bz A:=i0.o i4
   have W:Hid (Hx F b [r0,A,t,y]=Ja F b (Ae r0) ⟨kp,Ae t,Ae y⟩):=by
    rw [Hid,a6.o,if_pos ⟨i4,h0.o⟩,b7]
   have r5:0<=kp:=by omega
   have r6:kp<10:=by omega
   obtain ⟨n0,e0⟩:∃ n,Ae r0=n:=⟨_,rfl⟩;obtain ⟨n2,e2⟩:∃ n,Ae t=n:=⟨_,rfl⟩;obtain ⟨n3,e3⟩:∃ n,Ae y=n:=⟨_,rfl⟩;rw [e0] at h8 S W;rw [e2] at h9 S W;rw [e3] at j5 S W;rw [S] at o2 ⊢
   simp only [List.length_cons,List.length_nil,List.map_cons,List.map_nil] at o2 ⊢
   obtain ⟨gn,rfl,-,-⟩:=Hf o2 (by omega)
   have m0:J.cell? (qzA gn 0)=some (qzI n0):=by simpa using o2.cellAt 0 (by omega)
   have m1:J.cell? (qzA gn 1)=some (qzI n2):=by simpa using o2.cellAt 1 (by omega)
   have m2:J.cell? (qzA gn 2)=some (qzI n3):=by simpa using o2.cellAt 2 (by omega)
   clear S e0 e2 e3 b7 i4 q0 o2 a6 a8 b3 i0 j9 h0;have l0:=World.block_lt_of_cell? J _ m0
   have a0:=fun o=>(((Below.refl J.heap.size J).alloc nL o).cell (p:=(qzA gn 0)) l0).trans m0
   have a1:=fun o=>(((Below.refl J.heap.size J).alloc nL o).cell (p:=(qzA gn 1)) l0).trans m1
   have a2:=fun o=>(((Below.refl J.heap.size J).alloc nL o).cell (p:=(qzA gn 2)) l0).trans m2
   go_upto_region 7 with fail
   go_cut [9,10] (fun v9 v10 wz=>v9=qzI n0/\∃ X,v10=.pointer (some (qzA X 0))/\J.heap.size<=X/\wz.cell? (qzA X 0)=some (qzI kp)/\wz.cell? (qzA X 1)=some (qzI n2)/\wz.cell? (qzA X 2)=some (qzI n3)/\BW J wz)
   case first =>
    go_region
    all_goals
     go_wp2_with fail
     go_meet
     exact ⟨rfl,J.heap.size,rfl,nL,by simp [go_sem],by simp [go_sem],by simp [go_sem],by go_grown⟩
   case rest =>
    obtain ⟨i,q6⟩:∃ x,x=wc:=⟨_,rfl⟩;subst q6;obtain ⟨rfl,X,rfl,p6,x0,x1,x2,k3⟩:=hcut;have N:Hid (KS B K 1 b q i):=b9.o.below k3;have i5:Hid (Ce B w i):=h2.o.trans (.of k3 i9.o);have b8:Hid (E i):=l.o.grow b2.o k3;have j0:Hid (B<=i.heap.size):=N.o.lt;clear k3 m0 m1 m2 a0 a1 a2 l0 p6;have c6:=N.o.z.c6;have s5:b.cs.length<=1048576:=b4.o.sm.2.2.1
    by_cases hcs:(b.cs.length:Int)<=n0
    ·obtain ⟨et,R,I⟩:=l.o.eCase i b8.o
     have H:Hid (NF E (.iface et (.pointer (some R)))):=⟨i,7,b8.o,by decide,I⟩
     have Z:Hid (Hx F b [r0,A,t,y]=(b,5)):=W.o.trans (cE F _ (by omega))
     clear W h8 h9 j5;go_wp2;go_ret;rw [Z.o]
     exact Et H.o (by decide) N.o i5.o
    have hi:0<=n0/\n0<=(b.cs.length:Int) - 1:=⟨h8.1,by omega⟩
    have a9:Hid _:=@cD F b n0 ⟨kp,n2,n3⟩ hi;have U:Hid _:=@dC F b n0 ⟨kp,n2,n3⟩ hi;have HY:Hid _:=@bE F b n0 ⟨kp,n2,n3⟩ hi;obtain ⟨k,rfl⟩:=Int.eq_ofNat_of_zero_le hi.1
    simp only [Int.toNat_natCast] at a9 U HY
    have hk:k<b.cs.length:=by omega
    have s6:¬ (b.cs.length:Int)<=(k:Int):=by omega
    have s7:(k:Int)<(b.cs.length:Int):=by omega
    clear hi hcs;have ho:=N.o.cs
    obtain ⟨d,l5,s1,s4⟩:=Hf ho (by omega)
    have i2:Hid (q.c=some (qzA d 0)):=l5
    have M:Hid (∀ u,BW i u->Calls prog 214 #[cv (A8 b.cs k),av ⟨kp,n2,n3⟩,qzI b.today,.slice q.o b.off.length q.oc] u fun e w'=>∃ ao cap,e=.returned (.tuple #[cv (F.doC (A8 b.cs k) ⟨kp,n2,n3⟩ b.today b.off),.slice ao (F.doE (A8 b.cs k) ⟨kp,n2,n3⟩ b.today b.off).length cap,qzI (F.doV (A8 b.cs k) ⟨kp,n2,n3⟩ b.today b.off)])/\w'.ownsRow u.heap.size 269 4 (.slice ao (F.doE (A8 b.cs k) ⟨kp,n2,n3⟩ b.today b.off).length cap) (F.doE (A8 b.cs k) ⟨kp,n2,n3⟩ b.today b.off).length (Ba (F.doE (A8 b.cs k) ⟨kp,n2,n3⟩ b.today b.off))/\BW u w'):=fun u h=>l.o.act _ _ b.today q.o q.oc b.off u (N.o.below h).at.off b4.o.sm.1 (l.o.grow b8.o h) (b4.o.cc _ (Xg hk))
    have a7:Hid _:=l.o.few (A8 b.cs k) ⟨kp,n2,n3⟩ b.today b.off;have b5:Hid _:=l.o.code (A8 b.cs k) ⟨kp,n2,n3⟩ b.today b.off;have h4:Hid (Qk (A8 b.cs k)):=b4.o.cc _ (Xg hk)
    have f:∀ j,j<12->(Aj b.cs)[k*12+j]?=(Xt (A8 b.cs k)).toList[j]?:=fun j hj=>E6 b.cs k j hk hj
    obtain ⟨C,hC⟩:∃ C,A8 b.cs k=C:=⟨_,rfl⟩;rw [hC] at M a9 U HY a7 b5 h4 f;obtain ⟨D,hD⟩:∃ D,F.doC C ⟨kp,n2,n3⟩ b.today b.off=D:=⟨_,rfl⟩;obtain ⟨ES,hE⟩:∃ E,F.doE C ⟨kp,n2,n3⟩ b.today b.off=E:=⟨_,rfl⟩;obtain ⟨V,hV⟩:∃ V,F.doV C ⟨kp,n2,n3⟩ b.today b.off=V:=⟨_,rfl⟩;rw [hD] at M HY;rw [hE] at M U HY a7;rw [hV] at M a9 U HY b5;clear hC hD hE hV;rw [l5] at ho c6;obtain ⟨iY,aZ,cQ,am,st,rW,cl,bk,fW,cW,sS,dX⟩:=C
    have z0:i.cell? (qzA d (k*12))=some (qzI iY):=by rw [ho.cellAt (k*12) (by omega)];exact f 0 (by omega)
    have z1:i.cell? (qzA d (k*12+1))=some (qzI aZ):=by rw [ho.cellAt (k*12+1) (by omega)];exact f 1 (by omega)
    have z2:i.cell? (qzA d (k*12+2))=some (qzI cQ):=by rw [ho.cellAt (k*12+2) (by omega)];exact f 2 (by omega)
    have z3:i.cell? (qzA d (k*12+3))=some (qzI am):=by rw [ho.cellAt (k*12+3) (by omega)];exact f 3 (by omega)
    have z4:i.cell? (qzA d (k*12+4))=some (qzI st):=by rw [ho.cellAt (k*12+4) (by omega)];exact f 4 (by omega)
    have z5:i.cell? (qzA d (k*12+5))=some (qzI rW):=by rw [ho.cellAt (k*12+5) (by omega)];exact f 5 (by omega)
    have z6:i.cell? (qzA d (k*12+6))=some (qzI cl):=by rw [ho.cellAt (k*12+6) (by omega)];exact f 6 (by omega)
    have z7:i.cell? (qzA d (k*12+7))=some (qzI bk):=by rw [ho.cellAt (k*12+7) (by omega)];exact f 7 (by omega)
    have z8:i.cell? (qzA d (k*12+8))=some (qzI fW):=by rw [ho.cellAt (k*12+8) (by omega)];exact f 8 (by omega)
    have z9:i.cell? (qzA d (k*12+9))=some (.bool cW):=by rw [ho.cellAt (k*12+9) (by omega)];exact f 9 (by omega)
    have z10:i.cell? (qzA d (k*12+10))=some (qzI sS):=by rw [ho.cellAt (k*12+10) (by omega)];exact f 10 (by omega)
    have z11:i.cell? (qzA d (k*12+11))=some (qzI dX):=by rw [ho.cellAt (k*12+11) (by omega)];exact f 11 (by omega)
    unfold cv av at M
    simp only at M
    have c3:=N.o.z.c3;have c4:=N.o.z.c4;clear f ho;go_upto_region 10 with fail
    go_cut [11,12,13] (fun v11 v12 v13 wc=>∃ (Y:Nat) (R:Option Addr) (ek:Nat),v11=.pointer (some (qzA Y 0))/\v12=.slice R ES.length ek/\v13=qzI V/\CB Y 0 D wc/\C8 wc R ES/\i.heap.size<=Y/\BW i wc)
    case first =>
     have a3:Hid (∀ u,BW i u->u.cell? (qzA K 3)=some (qzI b.today)/\u.cell? (qzA K 4)=some (.slice q.o b.off.length q.oc)/\u.cell? (qzA K 6)=some (.slice (some (qzA d 0)) b.cs.length q.cc)/\u.cell? (qzA X 0)=some (qzI kp)/\u.cell? (qzA X 1)=some (qzI n2)/\u.cell? (qzA X 2)=some (qzI n3)/\u.cell? (qzA d (k*12))=some (qzI iY)/\u.cell? (qzA d (k*12+1))=some (qzI aZ)/\u.cell? (qzA d (k*12+2))=some (qzI cQ)/\u.cell? (qzA d (k*12+3))=some (qzI am)/\u.cell? (qzA d (k*12+4))=some (qzI st)/\u.cell? (qzA d (k*12+5))=some (qzI rW)/\u.cell? (qzA d (k*12+6))=some (qzI cl)/\u.cell? (qzA d (k*12+7))=some (qzI bk)/\u.cell? (qzA d (k*12+8))=some (qzI fW)/\u.cell? (qzA d (k*12+9))=some (.bool cW)/\u.cell? (qzA d (k*12+10))=some (qzI sS)/\u.cell? (qzA d (k*12+11))=some (qzI dX)):=fun u h=>by
      have lK:=World.block_lt_of_cell? i _ c3;have lX:=World.block_lt_of_cell? i _ x0;have lC:=World.block_lt_of_cell? i _ z0;exact ⟨(h.cell (p:=(qzA K 3)) lK).trans c3,(h.cell (p:=(qzA K 4)) lK).trans c4,(h.cell (p:=(qzA K 6)) lK).trans c6,(h.cell (p:=(qzA X 0)) lX).trans x0,(h.cell (p:=(qzA X 1)) lX).trans x1,(h.cell (p:=(qzA X 2)) lX).trans x2,(h.cell (p:=(qzA d (k*12))) lC).trans z0,(h.cell (p:=(qzA d (k*12+1))) lC).trans z1,(h.cell (p:=(qzA d (k*12+2))) lC).trans z2,(h.cell (p:=(qzA d (k*12+3))) lC).trans z3,(h.cell (p:=(qzA d (k*12+4))) lC).trans z4,(h.cell (p:=(qzA d (k*12+5))) lC).trans z5,(h.cell (p:=(qzA d (k*12+6))) lC).trans z6,(h.cell (p:=(qzA d (k*12+7))) lC).trans z7,(h.cell (p:=(qzA d (k*12+8))) lC).trans z8,(h.cell (p:=(qzA d (k*12+9))) lC).trans z9,(h.cell (p:=(qzA d (k*12+10))) lC).trans z10,(h.cell (p:=(qzA d (k*12+11))) lC).trans z11⟩
     have k0:BW i i:=bR;have n7:Hid (BW i i.drew):=bR.drew;have n8:Hid (Below i.heap.size i (i.alloc (.cells #[qzI 0,qzI 0,qzI 0,qzI 0,qzI 0,qzI 0,qzI 0,qzI 0,qzI 0,.bool false,qzI 0,qzI 0] 61)).drew):=((Below.refl i.heap.size i).alloc nL _).drew;clear c3 c4 c6 x0 x1 x2 z0 z1 z2 z3 z4 z5 z6 z7 z8 z9 z10 z11
     go_region_held3 (fun u=>u.cell? (qzA K 3)=some (qzI b.today)/\u.cell? (qzA K 4)=some (.slice q.o b.off.length q.oc)/\u.cell? (qzA K 6)=some (.slice (some (qzA d 0)) b.cs.length q.cc)/\u.cell? (qzA X 0)=some (qzI kp)/\u.cell? (qzA X 1)=some (qzI n2)/\u.cell? (qzA X 2)=some (qzI n3)/\u.cell? (qzA d (k*12))=some (qzI iY)/\u.cell? (qzA d (k*12+1))=some (qzI aZ)/\u.cell? (qzA d (k*12+2))=some (qzI cQ)/\u.cell? (qzA d (k*12+3))=some (qzI am)/\u.cell? (qzA d (k*12+4))=some (qzI st)/\u.cell? (qzA d (k*12+5))=some (qzI rW)/\u.cell? (qzA d (k*12+6))=some (qzI cl)/\u.cell? (qzA d (k*12+7))=some (qzI bk)/\u.cell? (qzA d (k*12+8))=some (qzI fW)/\u.cell? (qzA d (k*12+9))=some (.bool cW)/\u.cell? (qzA d (k*12+10))=some (qzI sS)/\u.cell? (qzA d (k*12+11))=some (qzI dX)) (first | with_reducible exact a3.o _ O | with_reducible exact a3.o _ k0 | with_reducible exact a3.o _ k0.drew | with_reducible exact a3.o _ (k0.alloc nL _) | with_reducible exact a3.o _ ((k0.alloc nL _).drew) | with_reducible exact a3.o _ (O.alloc O.size _) | exact a3.o _ (Cp D O nL)) ((first
      | (go_at_call 214;(with_reducible refine Calls.mono (M.o i.drew n7.o) ?_);rintro e u2 ⟨R,ek,rfl,he,bb⟩;have O:BW i u2:=Below.trans ((Below.refl i.heap.size i).drew) bb)
      | (go_at_call 214;(with_reducible refine Calls.mono (M.o (i.alloc (.cells #[.int .i64 0,.int .i64 0,.int .i64 0,.int .i64 0,.int .i64 0,.int .i64 0,.int .i64 0,.int .i64 0,.int .i64 0,.bool false,.int .i64 0,.int .i64 0] 61)).drew n8.o) ?_);rintro e u2 ⟨R,ek,rfl,he,bb⟩;obtain ⟨l1,p9,p8⟩:=Qf bb;have n1:Hid _:=l1;obtain ⟨g0,g1,g2,g3,g4,g5,g6,g7,g8,g9,p3,p4⟩:=l1;obtain ⟨m0,m1,m2,m3,m4,m5,m6,m7,m8,m9,q9,r4⟩:=p9;simp only [Nat.zero_add] at g0 g1 g2 g3 g4 g5 g6 g7 g8 g9 p3 p4 m0 m1 m2 m3 m4 m5 m6 m7 m8 m9 q9 r4;have O:BW i u2:=Below.trans ((Below.refl i.heap.size i).alloc nL (.cells #[.int .i64 0,.int .i64 0,.int .i64 0,.int .i64 0,.int .i64 0,.int .i64 0,.int .i64 0,.int .i64 0,.int .i64 0,.bool false,.int .i64 0,.int .i64 0] 61)) (p8.mono (Nat.le_succ _)))))
     ·go_wp2_with fail
      go_meet;have h1:=O.alloc O.size (.cells #[qzI D.iss,qzI D.acq,qzI D.cur,qzI D.am,qzI D.st,qzI D.rsn,qzI D.cl,qzI D.bk,qzI D.fee,.bool D.cop,qzI D.sta,qzI D.due] 61);exact ⟨u2.heap.size,R,ek,rfl,rfl,rfl,CB.new u2 D _,Hk (he.alloc _),O.size,h1⟩
     ·go_wp2_with fail
      go_meet
      have q1:i.heap.size<(i.alloc (.cells #[qzI 0,qzI 0,qzI 0,qzI 0,qzI 0,qzI 0,qzI 0,qzI 0,qzI 0,.bool false,qzI 0,qzI 0] 61)).drew.heap.size:=by simp
      exact ⟨i.heap.size,R,ek,rfl,rfl,rfl,Mb n1.o,Hk (N6 D he q1),nL,Cp D O nL⟩
    case rest =>
     obtain ⟨w4,q7⟩:∃ x,x=wc:=⟨_,rfl⟩;subst q7;obtain ⟨Y,R,ek,rfl,rfl,rfl,k9,l2,q8,k4⟩:=hcut;have j8:Hid (KS B K 1 b q w4):=N.o.below k4;have i6:Hid (Ce B w w4):=i5.o.trans (.of k4 j0.o);have j3:Hid (E w4):=l.o.grow b8.o k4
     have p7:Y≠K:=by have:=N.o.z.lt;omega
     have j1:Hid (CB Y 0 D w4):=k9;have k1:Hid (C8 w4 R ES):=l2;have q4:=b5.o;clear c3 c4 c6 x0 x1 x2 z0 z1 z2 z3 z4 z5 z6 z7 z8 z9 z10 z11 k9 l2 q8 k4 M
     by_cases hv:V=0
     case neg =>
      have t4:(V != 0)=true:=by simpa using hv
      have r7:(V == 0)=false:=by simpa using hv
      have t8:IntKind.i64.wrap (10+V)=10+V:=by rw [IntKind.wrap_i64];omega
      obtain ⟨et,i3,I⟩:=l.o.eAct w4 j3.o
      have H:Hid (NF E (.iface et (.pointer (some i3)))):=⟨w4,9,j3.o,by decide,I⟩
      have Z:Hid (Hx F b [r0,A,t,y]=(b,10+V)):=W.o.trans (a9.o hv)
      have q2:10+V≠0:=by omega
      clear W a9 U HY a7 b5 h4 k1 j1 hv;go_wp2;go_ret;rw [Z.o];exact Et H.o q2 j8.o i6.o
     have a4:Hid _:=U.o hv;have b6:Hid _:=HY.o hv
     have t6:(V != 0)=false:=by simpa using hv
     have k6:Hid (Calls prog 211 #[.pointer (some (qzA K 2)),.slice R ES.length ek] w4 (PsR B K F b q ES w4)):=K9 l.o b q R ek ES w4 j8.o b4.o k1.o a7.o.1 (a7.o.2 h4.o h9);clear a9 U HY b5 q4 hv;go_wp2_with fail
     refine Calls.mono k6.o ?_;rintro e s ⟨rfl,⟨la,lc,k5⟩,p5,g5⟩;have h3:Hid (Ce B w s):=i6.o.trans p5;have j4:Hid (E s):=l.o.keep _ _ h6.o (h3.o.b.mono n4.o)
     have l9:Hid (CB Y 0 D s):=j1.o.grown g5 (by simpa using p7)
     have a5:Hid _:=l.o.stay b.ls ES;have T:Hid (KS B K 1 ⟨b.today,b.off,b.az,b.cs,F.all b.ls ES,b.log⟩ ⟨q.o,q.oc,q.a,q.ac,q.c,q.cc,la,lc,q.g,q.gc⟩ s):=k5;obtain ⟨LL,S⟩:∃ L,F.all b.ls ES=L:=⟨_,rfl⟩;obtain ⟨ok,b0⟩:∃ L,F.allOk b.ls ES=L:=⟨_,rfl⟩;rw [S] at T a5 b6;rw [b0] at a5 a4 b6 ⊢;clear p5 g5 k5 S b0 k6 a7
     cases ok
     ·obtain ⟨et,i3,I⟩:=l.o.eMoney s j4.o
      have H:Hid (NF E (.iface et (.pointer (some i3)))):=⟨s,8,j4.o,by decide,I⟩
      have Z:Hid (Hx F b [r0,A,t,y]=(b,6)):=W.o.trans (a4.o (by simp))
      have c9:Hid (∃ q',KS B K 1 b q' s):=by
       have h:=T.o
       rw [a5.o (by simp),iE] at h
       exact ⟨_,h⟩
      clear W a4 b6;go_wp2;go_ret;rw [Z.o];obtain ⟨q',q3⟩:=c9.o
      exact Et H.o (by decide) q3 h3.o
     have Z:Hid (Hx F b [r0,A,t,y]=(⟨b.today,b.off,b.az,b.cs.set k D,LL,b.log⟩,0)):=W.o.trans (b6.o (by simp))
     have c6:=T.o.z.c6;have ho:=T.o.cs
     simp only [i2.o] at c6 ho
     have c9:Hid (KS B K 1 ⟨b.today,b.off,b.az,b.cs.set k D,LL,b.log⟩ ⟨q.o,q.oc,q.a,q.ac,q.c,q.cc,la,lc,q.g,q.gc⟩ (Gs s d k D)):=T.o.putC i2.o hk D
     have i7:Hid (Ce B w (Gs s d k D)):=h3.o.grownO (v:=.slice q.c b.cs.length q.cc) (by rw [i2.o];exact Om s d k D) T.o.cs T.o.lt (.inl rfl)
     unfold Gs at c9 i7
     have f:∀ j,j<12->(Aj b.cs)[k*12+j]?=(Xt (A8 b.cs k)).toList[j]?:=fun j hj=>E6 b.cs k j hk hj
     have t9:s.cell? (qzA d (k*12))=some (qzI (A8 b.cs k).iss):=by rw [ho.cellAt (k*12) (by omega)];exact f 0 (by omega)
     have o0:s.frozen? (qzA d (k*12))=false:=ho.frozenAt _
     have u0:s.cell? (qzA d (k*12+1))=some (qzI (A8 b.cs k).acq):=by rw [ho.cellAt (k*12+1) (by omega)];exact f 1 (by omega)
     have o1:s.frozen? (qzA d (k*12+1))=false:=ho.frozenAt _
     have u1:s.cell? (qzA d (k*12+2))=some (qzI (A8 b.cs k).cur):=by rw [ho.cellAt (k*12+2) (by omega)];exact f 2 (by omega)
     have o2:s.frozen? (qzA d (k*12+2))=false:=ho.frozenAt _
     have u3:s.cell? (qzA d (k*12+3))=some (qzI (A8 b.cs k).am):=by rw [ho.cellAt (k*12+3) (by omega)];exact f 3 (by omega)
     have o3:s.frozen? (qzA d (k*12+3))=false:=ho.frozenAt _
     have u4:s.cell? (qzA d (k*12+4))=some (qzI (A8 b.cs k).st):=by rw [ho.cellAt (k*12+4) (by omega)];exact f 4 (by omega)
     have o4:s.frozen? (qzA d (k*12+4))=false:=ho.frozenAt _
     have u5:s.cell? (qzA d (k*12+5))=some (qzI (A8 b.cs k).rsn):=by rw [ho.cellAt (k*12+5) (by omega)];exact f 5 (by omega)
     have o5:s.frozen? (qzA d (k*12+5))=false:=ho.frozenAt _
     have u6:s.cell? (qzA d (k*12+6))=some (qzI (A8 b.cs k).cl):=by rw [ho.cellAt (k*12+6) (by omega)];exact f 6 (by omega)
     have o6:s.frozen? (qzA d (k*12+6))=false:=ho.frozenAt _
     have u7:s.cell? (qzA d (k*12+7))=some (qzI (A8 b.cs k).bk):=by rw [ho.cellAt (k*12+7) (by omega)];exact f 7 (by omega)
     have o7:s.frozen? (qzA d (k*12+7))=false:=ho.frozenAt _
     have u9:s.cell? (qzA d (k*12+8))=some (qzI (A8 b.cs k).fee):=by rw [ho.cellAt (k*12+8) (by omega)];exact f 8 (by omega)
     have o8:s.frozen? (qzA d (k*12+8))=false:=ho.frozenAt _
     have v0:s.cell? (qzA d (k*12+9))=some (.bool (A8 b.cs k).cop):=by rw [ho.cellAt (k*12+9) (by omega)];exact f 9 (by omega)
     have o9:s.frozen? (qzA d (k*12+9))=false:=ho.frozenAt _
     have r8:s.cell? (qzA d (k*12+10))=some (qzI (A8 b.cs k).sta):=by rw [ho.cellAt (k*12+10) (by omega)];exact f 10 (by omega)
     have v1:s.frozen? (qzA d (k*12+10))=false:=ho.frozenAt _
     have r9:s.cell? (qzA d (k*12+11))=some (qzI (A8 b.cs k).due):=by rw [ho.cellAt (k*12+11) (by omega)];exact f 11 (by omega)
     have v2:s.frozen? (qzA d (k*12+11))=false:=ho.frozenAt _;obtain ⟨d0,d1,d2,d3,d4,d5,d6,d7,d8,d9,n9,p0⟩:=l9.o
     simp only [Nat.zero_add] at d0 d1 d2 d3 d4 d5 d6 d7 d8 d9 n9 p0
     clear W a4 b6 f ho a5;go_upto_region 15 with fail
     go_region
     all_goals
      go_wp2;go_ret;rw [Z.o];exact Uv c9.o.drew i7.o.drew
 ·have HR:Hid (Hx F b rs=(b,1)):=if_neg (fun e=>hl4 e.1)
  obtain ⟨et,R,I⟩:=KI.eLine w hE
  have H:Hid (NF E (.iface et (.pointer (some R)))):=⟨w,3,hE,by decide,I⟩
  rw [HR.o];obtain ⟨n,l4⟩:∃ n,rs.length=n:=⟨_,rfl⟩;rw [l4] at hl4 ⊢
  have s8:((n:Int) != 4)=true:=by
   have:¬ (n:Int)=4:=by omega
   simpa using this
  have s9:((n:Int) == 4)=false:=by
   have:¬ (n:Int)=4:=by omega
   simpa using this
  clear HR hl4 hd hz hk hE hP KI l4
  go_enter func175,ntmps175
  go_wp2;go_ret
  exact Et H.o (by decide) j6.o l8.o
end Go.Proofs.YtomiclakhjncbaaGreatDoor.Kb
