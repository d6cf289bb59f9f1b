import Derived.Test.YtfpafnefpmmofaaGreatDoorJW4a
namespace Go.Proofs.YtfpafnefpmmofaaGreatDoor.Kb
open Go.RowKit Go.Proofs.Tryz
set_option maxRecDepth 100000
set_option maxHeartbeats 12800000
theorem Abs {F:Ii} {E:ql->Prop} {G B K:Nat} (KI:qJ F E G) (j9:G<=B) (b:Bk) (q:Bp) (ao:qm) (cap:Nat) (rs:Bn) (w:ql) (hk:KS B K 1 b q w) (hE:E w) (hP:Hk b) (hz:Bw w ao rs) (hd:∀ r ∈ rs,r.length<=1048576) :
  qi 178 #[qh K,qf ao rs.length cap] w (rX E B K w (Pt F b rs)):=by
 have l2:=Aa hk.lt;have j3:=Aa hk;have h4:=Aa hE;have b3:=Aa hP;have l:=Aa KI;have l7:=Aa j9;have l4:qj (C5 B w w):=.refl _ _
 by_cases hl4:rs.length=4
 ·obtain ⟨r0,N,s,x,b0⟩:=Ahs hl4
  have d0:=hd r0 (by rw [b0];simp)
  have d2:=hd s (by rw [b0];simp)
  have d3:=hd x (by rw [b0];simp)
  rw [b0] at hz;obtain ⟨g,off,rfl,hg,t0,t1,t2,t3⟩:=Afy hz;rw [b0];clear hd hz hl4 hk hE hP KI j9 b0;have b9:=Aa (xU l.o N w h4.o);have p6:=Aa9 N
  have a5:qj (Pt F b [r0,N,s,x]=if 0<=Cp N/\Ax [r0,s,x]=true then Mc F b (Ah r0) ⟨Cp N,Ah s,Ah x⟩ else (b,1)):=by
   rw [qj,Pt]
   by_cases h:0<=Cp N/\Ax [r0,s,x]=true
   ·rw [if_pos ⟨rfl,h.1,h.2⟩,if_pos h];rfl
   ·rw [if_neg (λe=>h ⟨e.2.1,e.2.2⟩),if_neg h]
  have h7:qj (0<=Cp N->Yi N=Cp N):=λh=>if_pos h
  obtain ⟨kp,b6⟩:=Ae (Yi N);rw [b6] at b9 h7;have a7:qj (decide (0<=Cp N)=true ↔ 0<=Cp N):=decide_eq_true_iff;obtain ⟨kn,k8⟩:=Ae (decide (0<=Cp N));rw [k8] at b9 a7;obtain ⟨ok,a9⟩:=Ae (Ax [r0,s,x]);have c9:=Aa a9
  have b2:qj (ok=true->Bx [r0,s,x]=[Ah r0,Ah s,Ah x]/\eE (Ah r0)/\eE (Ah s)/\eE (Ah x)):=λh=>by
   have h':Ax [r0,s,x]=true:=a9.t h
   have hg:∀ r ∈ [r0,s,x],eE (Ah r):=λr hr=>⟨by simpa using List.all_eq_true.1 h' r hr,(Mj r).2⟩
   exact ⟨if_pos h',hg r0 (by simp),hg s (by simp),hg x (by simp)⟩
  obtain ⟨L,hL⟩:=Ae (Bx [r0,s,x]);rw [hL] at b2;have j6:=Aa hL;clear b6 k8 a9 hL
  go_enter func178,ntmps178
  go_wp2_with fail
  refine Calls.m b9.o ?_;rintro e w1 ⟨rfl,p1⟩;have j4:=Aa (j3.o.below p1);have l3:qj (C5 B w w1):=.of p1 l2.o;have i9:=Aa (l.o.grow h4.o p1);have i5:=Aa j4.o.lt;have s0:w1.cell? (qzA g off)=some (qd r0):=(p1.c g off hg).t t0;have s2:w1.cell? (qzA g (off+2))=some (qd s):=(p1.c g (off+2) hg).t t2;have s3:w1.cell? (qzA g (off+3))=some (qd x):=(p1.c g (off+3) hg).t t3;clear p1 t0 t1 t2 t3 b9 hg
  have h8:qj (∀ u,BW w1 u->u.cell? ⟨w1.heap.size,0,none⟩=some (qd r0)->u.cell? ⟨w1.heap.size,1,none⟩=some (qd s)->u.cell? ⟨w1.heap.size,2,none⟩=some (qd x)->qi 214 #[qf (some ⟨w1.heap.size,0,none⟩) 3 3] u λe w'=>∃ a k,e=.returned (.tuple #[qf a (Bx [r0,s,x]).length k,.bool (Ax [r0,s,x])])/\w'.ownsRow u.heap.size 3 1 (qf a (Bx [r0,s,x]).length k) (Bx [r0,s,x]).length ((Bx [r0,s,x]).map (Value.int .i64))/\BW u w'):=λu h c0 c1 c2 =>
   Tm l.o (some ⟨w1.heap.size,0,none⟩) 3 [r0,s,x] u (Af1 (qs u _ c0) c0 c1 c2) (by simp) (by
    intro r hr
    simp at hr
    rcases hr with rfl|rfl|rfl <;> assumption) (l.o.grow i9.o h)
  rw [j6.o,c9.o] at h8;go_upto_region 4 with fail
  go_cut [7,8] (λva vo wz=>∃ a k m,va=qf a L.length k/\vo=.bool ok/\wz.ownsRow m 3 1 (qf a L.length k) L.length (L.map (Value.int .i64))/\BW w1 wz)
  case first =>
   go_region_law (first
    | (go_simp;go_at_call 214;(first|refine Calls.m (h8.o _ (by go_grown) (by simp) (by simp) (by simp)) ?_);rintro e M ⟨a,k,rfl,o2,p2⟩;have k2:BW w1 M:=next (by go_grown) p2;have l8:qj _:=o2;clear o2 p2)
    | fail)
   all_goals
    go_wp2_with fail
    go_meet;exact ⟨_,_,_,rfl,rfl,l8.o,k2⟩
  case rest =>
   obtain ⟨M,q1⟩:=A0 wc;subst q1;obtain ⟨a,k,m,rfl,rfl,o2,k2⟩:=hcut;have b8:=Aa (j4.o.below k2);have h0:=Aa (l3.o.t (.of k2 i5.o));have b1:=Aa (l.o.grow i9.o k2);have i6:=Aa b8.o.lt;clear k2 s0 s2 s3 h8
   cases kn
   ·obtain ⟨et,R,A⟩:=l.o.eLine M b1.o
    have y:qj (NF E (.iface et (.pointer (some R)))):=⟨M,1,b1.o,by decide,A⟩
    have U:qj (Pt F b [r0,N,s,x]=(b,1)):=by
     rw [qj,a5.o,if_neg]
     exact λe=>by have:=a7.o.2 e.1;cases this
    clear a5 a7 b2 o2;go_wp2;go_ret;rw [U.o]
    exact Ij y.o (by decide) b8.o h0.o
   cases ok
   ·obtain ⟨et,R,A⟩:=l.o.eLine M b1.o
    have y:qj (NF E (.iface et (.pointer (some R)))):=⟨M,1,b1.o,by decide,A⟩
    have U:qj (Pt F b [r0,N,s,x]=(b,1)):=by
     rw [qj,a5.o,if_neg]
     exact λe=>by rw [c9.o] at e;cases e.2
    clear a5 a7 b2 o2;go_wp2;go_ret;rw [U.o]
    exact Ij y.o (by decide) b8.o h0.o
   obtain ⟨O,h5,h6,j2⟩:=b2.o (by simp)
   have i1:0<=Cp N:=a7.o.1 (by simp)
   have b6:kp=Cp N:=h7.o i1
   have U:qj (Pt F b [r0,N,s,x]=Mc F b (Ah r0) ⟨kp,Ah s,Ah x⟩):=by
    rw [qj,a5.o,if_pos ⟨i1,c9.o⟩,b6]
   have q7:0<=kp:=by omega
   have q8:kp<10:=by omega
   obtain ⟨n0,e0⟩:=Ae (Ah r0);obtain ⟨n2,e2⟩:=Ae (Ah s);obtain ⟨n3,e3⟩:=Ae (Ah x);rw [e0] at h5 O U;rw [e2] at h6 O U;rw [e3] at j2 O U;rw [O] at o2 ⊢
   simp only [qx,qy,List.map_cons,List.map_nil] at o2 ⊢
   obtain ⟨gn,rfl,-,-⟩:=Lg o2 (by omega)
   have m0:M.cell? (qzA gn 0)=some (qzI n0):=by simpa using o2.cellAt 0 (by omega)
   have m1:M.cell? (qzA gn 1)=some (qzI n2):=by simpa using o2.cellAt 1 (by omega)
   have m2:M.cell? (qzA gn 2)=some (qzI n3):=by simpa using o2.cellAt 2 (by omega)
   clear O e0 e2 e3 b6 i1 p6 o2 a5 a7 b2 h7 j6 c9;have l0:=qs M _ m0
   have a0:=λo=>(((Below.refl M.heap.size M).alloc nL o).c gn 0 l0).t m0
   have a1:=λo=>(((Below.refl M.heap.size M).alloc nL o).c gn 1 l0).t m1
   have a2:=λo=>(((Below.refl M.heap.size M).alloc nL o).c gn 2 l0).t m2
   go_upto_region 7 with fail
   go_cut [9,10] (λv9 v10 wz=>v9=qzI n0/\∃ X,v10=qh X/\M.heap.size<=X/\wz.cell? (qzA X 0)=some (qzI kp)/\wz.cell? (qzA X 1)=some (qzI n2)/\wz.cell? (qzA X 2)=some (qzI n3)/\BW M wz)
   case first =>
    go_region
    all_goals
     go_wp2_with fail
     go_meet
     exact ⟨rfl,M.heap.size,rfl,nL,by simp [go_sem],by simp [go_sem],by simp [go_sem],by go_grown⟩
   case rest =>
    obtain ⟨i,q2⟩:=A0 wc;subst q2;obtain ⟨rfl,X,rfl,n9,x0,x1,x2,k3⟩:=hcut;have I:=Aa (b8.o.below k3);have i2:=Aa (h0.o.t (.of k3 i6.o));have b7:=Aa (l.o.grow b1.o k3);have i7:=Aa I.o.lt;clear k3 m0 m1 m2 a0 a1 a2 l0 n9;have c6:=I.o.z.c6;have r8:b.cs.length<=1048576:=b3.o.sm.2.2.1
    by_cases hcs:(b.cs.length:Int)<=n0
    ·obtain ⟨et,R,A⟩:=l.o.eCase i b7.o
     have y:qj (NF E (.iface et (.pointer (some R)))):=⟨i,7,b7.o,by decide,A⟩
     have W:=Aa (U.o.t (rC F _ (by omega)))
     clear U h5 h6 j2;go_wp2;go_ret;rw [W.o]
     exact Ij y.o (by decide) I.o i2.o
    have hi:0<=n0/\n0<=(b.cs.length:Int) - 1:=⟨h5.1,by omega⟩
    have a8:qj _:=@rM F b n0 ⟨kp,n2,n3⟩ hi;have T:qj _:=@rU F b n0 ⟨kp,n2,n3⟩ hi;have HY:qj _:=@qK F b n0 ⟨kp,n2,n3⟩ hi;obtain ⟨k,rfl⟩:=jj hi.1
    simp only [Int.toNat_natCast] at a8 T HY
    have hk:k<b.cs.length:=by omega
    have r9:¬ (b.cs.length:Int)<=(k:Int):=by omega
    have s1:(k:Int)<(b.cs.length:Int):=by omega
    clear hi hcs;have ho:=I.o.cs
    obtain ⟨d,l1,r6,r7⟩:=Lg ho (by omega)
    have h9:=Aa l1
    have H:qj (∀ u,BW i u->qi 223 #[cv (Bm b.cs k),av ⟨kp,n2,n3⟩,qzI b.today,qf q.o b.off.length q.oc] u λe w'=>∃ ao cap,e=.returned (.tuple #[cv (F.doC (Bm b.cs k) ⟨kp,n2,n3⟩ b.today b.off),qf ao (F.doE (Bm b.cs k) ⟨kp,n2,n3⟩ b.today b.off).length cap,qzI (F.doV (Bm b.cs k) ⟨kp,n2,n3⟩ b.today b.off)])/\w'.ownsRow u.heap.size 217 4 (qf ao (F.doE (Bm b.cs k) ⟨kp,n2,n3⟩ b.today b.off).length cap) (F.doE (Bm b.cs k) ⟨kp,n2,n3⟩ b.today b.off).length (B9 (F.doE (Bm b.cs k) ⟨kp,n2,n3⟩ b.today b.off))/\BW u w'):=λu h=>l.o.act _ _ b.today q.o q.oc b.off u (I.o.below h).at.off b3.o.sm.1 (l.o.grow b7.o h) (b3.o.cc _ (gY hk))
    have a6:qj _:=l.o.few (Bm b.cs k) ⟨kp,n2,n3⟩ b.today b.off;have b4:qj _:=l.o.code (Bm b.cs k) ⟨kp,n2,n3⟩ b.today b.off;have h3:=Aa (b3.o.cc _ (gY hk))
    have f:∀ j,j<12->(Am b.cs)[k*12+j]?=(jX (Bm b.cs k)).toList[j]?:=λj hj=>Gn b.cs k j hk hj
    obtain ⟨C,hC⟩:=Ae (Bm b.cs k);rw [hC] at H a8 T HY a6 b4 h3 f;obtain ⟨D,hD⟩:=Ae (F.doC C ⟨kp,n2,n3⟩ b.today b.off);obtain ⟨ES,hE⟩:=Ae (F.doE C ⟨kp,n2,n3⟩ b.today b.off);obtain ⟨V,hV⟩:=Ae (F.doV C ⟨kp,n2,n3⟩ b.today b.off);rw [hD] at H HY;rw [hE] at H T HY a6;rw [hV] at H a8 T HY b4;clear hC hD hE hV;rw [l1] at ho c6;obtain ⟨iz,ay,cw,am,st,ry,cl,bk,fy,cz,sy,dz⟩:=C
    have z0:i.cell? (qzA d (k*12))=some (qzI iz):=by rw [ho.cellAt (k*12) (by omega)];exact f 0 (by omega)
    have z1:i.cell? (qzA d (k*12+1))=some (qzI ay):=by rw [ho.cellAt (k*12+1) (by omega)];exact f 1 (by omega)
    have z2:i.cell? (qzA d (k*12+2))=some (qzI cw):=by rw [ho.cellAt (k*12+2) (by omega)];exact f 2 (by omega)
    have z3:i.cell? (qzA d (k*12+3))=some (qzI am):=by rw [ho.cellAt (k*12+3) (by omega)];exact f 3 (by omega)
    have z4:i.cell? (qzA d (k*12+4))=some (qzI st):=by rw [ho.cellAt (k*12+4) (by omega)];exact f 4 (by omega)
    have z5:i.cell? (qzA d (k*12+5))=some (qzI ry):=by rw [ho.cellAt (k*12+5) (by omega)];exact f 5 (by omega)
    have z6:i.cell? (qzA d (k*12+6))=some (qzI cl):=by rw [ho.cellAt (k*12+6) (by omega)];exact f 6 (by omega)
    have z7:i.cell? (qzA d (k*12+7))=some (qzI bk):=by rw [ho.cellAt (k*12+7) (by omega)];exact f 7 (by omega)
    have z8:i.cell? (qzA d (k*12+8))=some (qzI fy):=by rw [ho.cellAt (k*12+8) (by omega)];exact f 8 (by omega)
    have z9:i.cell? (qzA d (k*12+9))=some (.bool cz):=by rw [ho.cellAt (k*12+9) (by omega)];exact f 9 (by omega)
    have z10:i.cell? (qzA d (k*12+10))=some (qzI sy):=by rw [ho.cellAt (k*12+10) (by omega)];exact f 10 (by omega)
    have z11:i.cell? (qzA d (k*12+11))=some (qzI dz):=by rw [ho.cellAt (k*12+11) (by omega)];exact f 11 (by omega)
    unfold cv av at H
    simp only at H
    have c3:=I.o.z.c3;have c4:=I.o.z.c4;clear f ho;go_upto_region 10 with fail
    go_cut [11,12,13] (λv11 v12 v13 wc=>∃ (Y:Nat) (R:qm) (ek:Nat),v11=qh Y/\v12=qf R ES.length ek/\v13=qzI V/\CB Y 0 D wc/\Fg wc R ES/\i.heap.size<=Y/\BW i wc)
    case first =>
     have Z:qj (∀ u,BW i u->u.cell? (qzA K 3)=some (qzI b.today)/\u.cell? (qzA K 4)=some (qf q.o b.off.length q.oc)/\u.cell? (qzA K 6)=some (qf (some (qzA d 0)) b.cs.length q.cc)/\u.cell? (qzA X 0)=some (qzI kp)/\u.cell? (qzA X 1)=some (qzI n2)/\u.cell? (qzA X 2)=some (qzI n3)/\u.cell? (qzA d (k*12))=some (qzI iz)/\u.cell? (qzA d (k*12+1))=some (qzI ay)/\u.cell? (qzA d (k*12+2))=some (qzI cw)/\u.cell? (qzA d (k*12+3))=some (qzI am)/\u.cell? (qzA d (k*12+4))=some (qzI st)/\u.cell? (qzA d (k*12+5))=some (qzI ry)/\u.cell? (qzA d (k*12+6))=some (qzI cl)/\u.cell? (qzA d (k*12+7))=some (qzI bk)/\u.cell? (qzA d (k*12+8))=some (qzI fy)/\u.cell? (qzA d (k*12+9))=some (.bool cz)/\u.cell? (qzA d (k*12+10))=some (qzI sy)/\u.cell? (qzA d (k*12+11))=some (qzI dz)):=λu h=>by
      have lK:=qs i _ c3;have lX:=qs i _ x0;have lC:=qs i _ z0;exact ⟨(h.c K 3 lK).t c3,(h.c K 4 lK).t c4,(h.c K 6 lK).t c6,(h.c X 0 lX).t x0,(h.c X 1 lX).t x1,(h.c X 2 lX).t x2,(h.c d (k*12) lC).t z0,(h.c d (k*12+1) lC).t z1,(h.c d (k*12+2) lC).t z2,(h.c d (k*12+3) lC).t z3,(h.c d (k*12+4) lC).t z4,(h.c d (k*12+5) lC).t z5,(h.c d (k*12+6) lC).t z6,(h.c d (k*12+7) lC).t z7,(h.c d (k*12+8) lC).t z8,(h.c d (k*12+9) lC).t z9,(h.c d (k*12+10) lC).t z10,(h.c d (k*12+11) lC).t z11⟩
     have k0:BW i i:=bR;have l9:qj (BW i i.drew):=bR.drew;have n1:qj (Below i.heap.size i (i.alloc (.cells #[qzI 0,qzI 0,qzI 0,qzI 0,qzI 0,qzI 0,qzI 0,qzI 0,qzI 0,.bool false,qzI 0,qzI 0] 111)).drew):=((Below.refl i.heap.size i).alloc nL _).drew;clear c3 c4 c6 x0 x1 x2 z0 z1 z2 z3 z4 z5 z6 z7 z8 z9 z10 z11
     go_region_held3 (λu=>u.cell? (qzA K 3)=some (qzI b.today)/\u.cell? (qzA K 4)=some (qf q.o b.off.length q.oc)/\u.cell? (qzA K 6)=some (qf (some (qzA d 0)) b.cs.length q.cc)/\u.cell? (qzA X 0)=some (qzI kp)/\u.cell? (qzA X 1)=some (qzI n2)/\u.cell? (qzA X 2)=some (qzI n3)/\u.cell? (qzA d (k*12))=some (qzI iz)/\u.cell? (qzA d (k*12+1))=some (qzI ay)/\u.cell? (qzA d (k*12+2))=some (qzI cw)/\u.cell? (qzA d (k*12+3))=some (qzI am)/\u.cell? (qzA d (k*12+4))=some (qzI st)/\u.cell? (qzA d (k*12+5))=some (qzI ry)/\u.cell? (qzA d (k*12+6))=some (qzI cl)/\u.cell? (qzA d (k*12+7))=some (qzI bk)/\u.cell? (qzA d (k*12+8))=some (qzI fy)/\u.cell? (qzA d (k*12+9))=some (.bool cz)/\u.cell? (qzA d (k*12+10))=some (qzI sy)/\u.cell? (qzA d (k*12+11))=some (qzI dz)) (first|with_reducible exact Z.o _ J|with_reducible exact Z.o _ k0|with_reducible exact Z.o _ k0.drew|with_reducible exact Z.o _ (k0.alloc nL _)|with_reducible exact Z.o _ ((k0.alloc nL _).drew)|with_reducible exact Z.o _ (J.alloc J.size _)|exact Z.o _ (Dc D J nL)) ((first
      | (go_at_call 223;(with_reducible refine Calls.m (H.o i.drew l9.o) ?_);rintro e u2 ⟨R,ek,rfl,he,bb⟩;have J:BW i u2:=Below.t ((Below.refl i.heap.size i).drew) bb)
      | (go_at_call 223;(with_reducible refine Calls.m (H.o (i.alloc (.cells #[.int .i64 0,.int .i64 0,.int .i64 0,.int .i64 0,.int .i64 0,.int .i64 0,.int .i64 0,.int .i64 0,.int .i64 0,.bool false,.int .i64 0,.int .i64 0] 111)).drew n1.o) ?_);rintro e u2 ⟨R,ek,rfl,he,bb⟩;obtain ⟨k6,p4,p3⟩:=V5 bb;have l6:qj _:=k6;obtain ⟨g0,g1,g2,g3,g4,g5,g6,g7,g8,g9,n7,n8⟩:=k6;obtain ⟨m0,m1,m2,m3,m4,m5,m6,m7,m8,m9,q5,q6⟩:=p4;simp only [qu] at g0 g1 g2 g3 g4 g5 g6 g7 g8 g9 n7 n8 m0 m1 m2 m3 m4 m5 m6 m7 m8 m9 q5 q6;have J:BW i u2:=Below.t ((Below.refl i.heap.size i).alloc nL (.cells #[.int .i64 0,.int .i64 0,.int .i64 0,.int .i64 0,.int .i64 0,.int .i64 0,.int .i64 0,.int .i64 0,.int .i64 0,.bool false,.int .i64 0,.int .i64 0] 111)) (p3.m (Nat.le_succ _)))))
     ·go_wp2_with fail
      go_meet;have h1:=J.alloc J.size (.cells #[qzI D.iss,qzI D.acq,qzI D.cur,qzI D.am,qzI D.st,qzI D.rsn,qzI D.cl,qzI D.bk,qzI D.fee,.bool D.cop,qzI D.sta,qzI D.due] 111);exact ⟨u2.heap.size,R,ek,rfl,rfl,rfl,CB.new u2 D _,Js (he.alloc _),J.size,h1⟩
     ·go_wp2_with fail
      go_meet
      have p7:i.heap.size<(i.alloc (.cells #[qzI 0,qzI 0,qzI 0,qzI 0,qzI 0,qzI 0,qzI 0,qzI 0,qzI 0,.bool false,qzI 0,qzI 0] 111)).drew.heap.size:=by simp
      exact ⟨i.heap.size,R,ek,rfl,rfl,rfl,Sd l6.o,Js (Tf D he p7),nL,Dc D J nL⟩
    case rest =>
     obtain ⟨w4,q3⟩:=A0 wc;subst q3;obtain ⟨Y,R,ek,rfl,rfl,rfl,k1,k7,q4,k4⟩:=hcut;have j5:=Aa (I.o.below k4);have i3:=Aa (i2.o.t (.of k4 i7.o));have j0:=Aa (l.o.grow b7.o k4)
     have p0:Y≠K:=by have:=I.o.z.lt;omega
     have i8:=Aa k1;have j7:=Aa k7;have q0:=b4.o;clear c3 c4 c6 x0 x1 x2 z0 z1 z2 z3 z4 z5 z6 z7 z8 z9 z10 z11 k1 k7 q4 k4 H
     by_cases hv:V=0
     case neg =>
      have s6:(V != 0)=true:=by simpa using hv
      have q9:(V == 0)=false:=by simpa using hv
      have s8:IntKind.i64.wrap (10+V)=10+V:=by rw [IntKind.wrap_i64];omega
      obtain ⟨et,i0,A⟩:=l.o.eAct w4 j0.o
      have y:qj (NF E (.iface et (.pointer (some i0)))):=⟨w4,9,j0.o,by decide,A⟩
      have W:=Aa (U.o.t (a8.o hv))
      have p8:10+V≠0:=by omega
      clear U a8 T HY a6 b4 h3 j7 i8 hv;go_wp2;go_ret;rw [W.o];exact Ij y.o p8 j5.o i3.o
     have a3:qj _:=T.o hv;have b5:qj _:=HY.o hv
     have s7:(V != 0)=false:=by simpa using hv
     have j8:=Aa (Oy l.o b q R ek ES w4 j5.o b3.o j7.o a6.o.1 (a6.o.2 h3.o h6));clear a8 T HY b4 q0 hv;go_wp2_with fail
     refine Calls.m j8.o ?_;rintro e p ⟨rfl,⟨la,lc,k5⟩,p5,g5⟩;have h2:=Aa (i3.o.t p5);have j1:=Aa (l.o.keep _ _ h4.o (h2.o.b.m l7.o))
     have l5:=Aa (i8.o.grown g5 (by simpa using p0))
     have a4:qj _:=l.o.stay b.ls ES;have S:=Aa k5;obtain ⟨LL,O⟩:=Ae (F.all b.ls ES);obtain ⟨ok,a9⟩:=Ae (F.allOk b.ls ES);rw [O] at S a4 b5;rw [a9] at a4 a3 b5 ⊢;clear p5 g5 k5 O a9 j8 a6
     cases ok
     ·obtain ⟨et,i0,A⟩:=l.o.eMoney p j1.o
      have y:qj (NF E (.iface et (.pointer (some i0)))):=⟨p,8,j1.o,by decide,A⟩
      have W:=Aa (U.o.t (a3.o (by simp)))
      have c8:qj (∃ q',KS B K 1 b q' p):=by
       have h:=S.o
       rw [a4.o (by simp),Abj] at h
       exact ⟨_,h⟩
      clear U a3 b5;go_wp2;go_ret;rw [W.o];obtain ⟨q',p9⟩:=c8.o
      exact Ij y.o (by decide) p9 h2.o
     have W:=Aa (U.o.t (b5.o (by simp)))
     have c6:=S.o.z.c6;have ho:=S.o.cs
     simp only [h9.o] at c6 ho
     have c8:=Aa (S.o.putC h9.o hk D)
     have i4:=Aa (h2.o.grownO (v:=qf q.c b.cs.length q.cc) (by rw [h9.o];exact Um p d k D) S.o.cs S.o.lt (.inl rfl))
     unfold Kq at c8 i4
     have f:∀ j,j<12->(Am b.cs)[k*12+j]?=(jX (Bm b.cs k)).toList[j]?:=λj hj=>Gn b.cs k j hk hj
     have s9:p.cell? (qzA d (k*12))=some (qzI (Bm b.cs k).iss):=by rw [ho.cellAt (k*12) (by omega)];exact f 0 (by omega)
     have o0:p.frozen? (qzA d (k*12))=false:=ho.frozenAt _
     have t4:p.cell? (qzA d (k*12+1))=some (qzI (Bm b.cs k).acq):=by rw [ho.cellAt (k*12+1) (by omega)];exact f 1 (by omega)
     have o1:p.frozen? (qzA d (k*12+1))=false:=ho.frozenAt _
     have t5:p.cell? (qzA d (k*12+2))=some (qzI (Bm b.cs k).cur):=by rw [ho.cellAt (k*12+2) (by omega)];exact f 2 (by omega)
     have o2:p.frozen? (qzA d (k*12+2))=false:=ho.frozenAt _
     have t6:p.cell? (qzA d (k*12+3))=some (qzI (Bm b.cs k).am):=by rw [ho.cellAt (k*12+3) (by omega)];exact f 3 (by omega)
     have o3:p.frozen? (qzA d (k*12+3))=false:=ho.frozenAt _
     have t7:p.cell? (qzA d (k*12+4))=some (qzI (Bm b.cs k).st):=by rw [ho.cellAt (k*12+4) (by omega)];exact f 4 (by omega)
     have o4:p.frozen? (qzA d (k*12+4))=false:=ho.frozenAt _
     have t8:p.cell? (qzA d (k*12+5))=some (qzI (Bm b.cs k).rsn):=by rw [ho.cellAt (k*12+5) (by omega)];exact f 5 (by omega)
     have o5:p.frozen? (qzA d (k*12+5))=false:=ho.frozenAt _
     have t9:p.cell? (qzA d (k*12+6))=some (qzI (Bm b.cs k).cl):=by rw [ho.cellAt (k*12+6) (by omega)];exact f 6 (by omega)
     have o6:p.frozen? (qzA d (k*12+6))=false:=ho.frozenAt _
     have u0:p.cell? (qzA d (k*12+7))=some (qzI (Bm b.cs k).bk):=by rw [ho.cellAt (k*12+7) (by omega)];exact f 7 (by omega)
     have o7:p.frozen? (qzA d (k*12+7))=false:=ho.frozenAt _
     have u1:p.cell? (qzA d (k*12+8))=some (qzI (Bm b.cs k).fee):=by rw [ho.cellAt (k*12+8) (by omega)];exact f 8 (by omega)
     have o8:p.frozen? (qzA d (k*12+8))=false:=ho.frozenAt _
     have u3:p.cell? (qzA d (k*12+9))=some (.bool (Bm b.cs k).cop):=by rw [ho.cellAt (k*12+9) (by omega)];exact f 9 (by omega)
     have o9:p.frozen? (qzA d (k*12+9))=false:=ho.frozenAt _
     have r4:p.cell? (qzA d (k*12+10))=some (qzI (Bm b.cs k).sta):=by rw [ho.cellAt (k*12+10) (by omega)];exact f 10 (by omega)
     have u4:p.frozen? (qzA d (k*12+10))=false:=ho.frozenAt _
     have r5:p.cell? (qzA d (k*12+11))=some (qzI (Bm b.cs k).due):=by rw [ho.cellAt (k*12+11) (by omega)];exact f 11 (by omega)
     have u5:p.frozen? (qzA d (k*12+11))=false:=ho.frozenAt _;obtain ⟨d0,d1,d2,d3,d4,d5,d6,d7,d8,d9,n4,n5⟩:=l5.o
     simp only [qu] at d0 d1 d2 d3 d4 d5 d6 d7 d8 d9 n4 n5
     clear U a3 b5 f ho a4;go_upto_region 15 with fail
     go_region
     all_goals
      go_wp2;go_ret;rw [W.o];exact oB c8.o.drew i4.o.drew
 ·have HR:qj (Pt F b rs=(b,1)):=if_neg (λe=>hl4 e.1)
  obtain ⟨et,R,A⟩:=KI.eLine w hE
  have y:qj (NF E (.iface et (.pointer (some R)))):=⟨w,1,hE,by decide,A⟩
  rw [HR.o];obtain ⟨n,k9⟩:=Ae rs.length;rw [k9] at hl4 ⊢
  have s4:((n:Int) != 4)=true:=by
   have:¬ (n:Int)=4:=by omega
   simpa using this
  have s5:((n:Int) == 4)=false:=by
   have:¬ (n:Int)=4:=by omega
   simpa using this
  clear HR hl4 hd hz hk hE hP KI k9
  go_enter func178,ntmps178
  go_wp2;go_ret
  exact Ij y.o (by decide) j3.o l4.o
end Go.Proofs.YtfpafnefpmmofaaGreatDoor.Kb
