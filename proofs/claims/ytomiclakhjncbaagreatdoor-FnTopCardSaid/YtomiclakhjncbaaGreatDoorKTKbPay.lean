import Derived.Test.YtomiclakhjncbaaGreatDoorJT2a
namespace Go.Proofs.YtomiclakhjncbaaGreatDoor.Kb
open Go.RowKit Go.Proofs.Tryz
set_option maxRecDepth 100000
set_option maxHeartbeats 12800000
def Fh (F:Ff) (b:Bk) (rs:Be) (r:Bk×Int):Prop :=
 if Ap rs=true/\rs.length=4 then ∃ x,F.best b.az (Ae (Al rs 0)) (Ae (Al rs 2)) (Ae (Al rs 3)) b.today x/\r=Jk F b (Ae (Al rs 0)) (Ae (Al rs 1)) (Ae (Al rs 2)) (Ae (Al rs 3)) x else r=(b,1)
theorem Xf {u:World} {base n size:Nat} {t:TypeId} {v:Value} {xs:List Value} (h:u.ownsRow base t size v n xs):∃ a c,v=.slice a n c:=by
 rcases h.2 with ⟨hv,h0⟩ | ⟨g,cap,cQ,hv,_⟩
 ·exact ⟨none,0,by rw [hv,h0]⟩
 ·exact ⟨_,_,hv⟩
theorem kbC {B K:Nat} {st:Int} {b:Bk} {q:Bp} {W u u':World} (k:KS B K st b q W) (g:u.grownBy u' (Value.slice q.c b.cs.length q.cc).ownBlock) (h:BW W u):u'.cell? (qzA K 6)=some (.slice q.c b.cs.length q.cc)/\u'.frozen? (qzA K 6)=false:=by
 have ku:=k.below h
 have zz:=ku.z.grown g (D8 ku.cs ku.kt (by decide))
 exact ⟨zz.c6,zz.z6⟩
def PaR (E:World->Prop) (B K:Nat) (F:Ff) (b:Bk) (rs:Be) (w:World) (e:Ending) (w':World):Prop:=∃ r,Fh F b rs r/\Wz E B K w r e w'
theorem tM {x:Int} (h1:-1<=x) (h2:x<1000000000000000000):(Lit.int .i64 x).wf=true:=by
 simp [Lit.wf,IntKind.min,IntKind.max,IntKind.signed,IntKind.bits];omega
theorem iE (b:Bk):(⟨b.today,b.off,b.az,b.cs,b.ls,b.log⟩:Bk)=b:=by cases b;rfl
theorem lE {F:Ff} {E:World->Prop} {G B K:Nat} (KI:Rq F E G) (j6:G<=B) (b:Bk) (q:Bp) (ao:Option Addr) (cap:Nat) (rs:Be) (w:World) (hk:KS B K 1 b q w) (hE:E w) (hP:Ej b) (hz:Bh w ao rs) (hn:rs.length<=1048576) (hd:∀ r ∈ rs,r.length<=1048576) :
  Calls prog 174 #[.pointer (some (qzA K 0)),.slice ao rs.length cap] w (PaR E B K F b rs w):=by
 have m:Hid (Calls prog 206 #[.slice ao rs.length cap] w fun e w'=>∃ a k,e=.returned (.tuple #[.slice a (A7 rs).length k,.bool (Ap rs)])/\w'.ownsRow w.heap.size 3 1 (.slice a (A7 rs).length k) (A7 rs).length ((A7 rs).map (Value.int .i64))/\BW w w'):=Ks KI ao cap rs w hz hn hd hE
 have g8:Hid (B<=w.heap.size):=hk.lt;have i2:Hid (KS B K 1 b q w):=hk;have a3:Hid (E w):=hE;have y:Hid (Ej b):=hP;have d:Hid (Rq F E G):=KI;have j2:Hid (G<=B):=j6;clear hz hd hk hE hP KI
 by_cases D:Ap rs=true/\rs.length=4
 ·obtain ⟨h1,h2⟩:=D
  obtain ⟨r0,r1,r2,r3,H⟩:=nP h2
  have hv:A7 rs=[Ae r0,Ae r1,Ae r2,Ae r3]:=by rw [A7,if_pos h1,H];rfl
  have hg:∀ r ∈ rs,Rp (Ae r):=fun r hr=>⟨by simpa using List.all_eq_true.1 h1 r hr,(Ib r).2⟩
  have g0:=hg r0 (by rw [H];simp)
  have g1:=hg r1 (by rw [H];simp)
  have g2:=hg r2 (by rw [H];simp)
  have g3:=hg r3 (by rw [H];simp)
  have HR:Hid (∀ r x,F.best b.az (Ae r0) (Ae r2) (Ae r3) b.today x->r=Jk F b (Ae r0) (Ae r1) (Ae r2) (Ae r3) x->Fh F b rs r):=fun r x hx hr=>by
   rw [Fh,if_pos ⟨h1,h2⟩,H];exact ⟨x,hx,hr⟩
  rw [hv,h1] at m;obtain ⟨n0,e0⟩:∃ n,Ae r0=n:=⟨_,rfl⟩;obtain ⟨n1,e1⟩:∃ n,Ae r1=n:=⟨_,rfl⟩;obtain ⟨n2,e2⟩:∃ n,Ae r2=n:=⟨_,rfl⟩;obtain ⟨n3,e3⟩:∃ n,Ae r3=n:=⟨_,rfl⟩;rw [e0,e1,e2,e3] at m HR;rw [e0] at g0;rw [e1] at g1;rw [e2] at g2;rw [e3] at g3
  simp only [List.length_cons,List.length_nil,List.map_cons,List.map_nil] at m
  have i9:Hid (Rp n0):=g0;have j0:Hid (Rp n1):=g1;have i1:Hid (Rp n2):=g2;have b7:Hid (Rp n3):=g3;clear hv e0 e1 e2 e3 h1 h2 H hg g0 g1 g2 g3
  go_enter func174,ntmps174
  go_wp2_with fail
  refine Calls.mono m.o ?_;rintro e I ⟨a,k,rfl,o1,p1⟩
  obtain ⟨gn,rfl,-,-⟩:=Hf o1 (by omega)
  have m0:I.cell? (qzA gn 0)=some (qzI n0):=by simpa using o1.cellAt 0 (by omega)
  have m1:I.cell? (qzA gn 1)=some (qzI n1):=by simpa using o1.cellAt 1 (by omega)
  have m2:I.cell? (qzA gn 2)=some (qzI n2):=by simpa using o1.cellAt 2 (by omega)
  have m3:I.cell? (qzA gn 3)=some (qzI n3):=by simpa using o1.cellAt 3 (by omega)
  have f:Hid (KS B K 1 b q I):=i2.o.below p1;have M:Hid (Ce B w I):=.of p1 g8.o;have b6:Hid (E I):=d.o.grow a3.o p1;have U:Hid (B<=I.heap.size):=f.o.lt;clear o1 p1 m;go_upto_region 4 with fail
  go_quiet (fail)
  go_upto_region 5 with fail
  obtain ⟨S,c9⟩:∃ W,W=I.drewN nq:=⟨_,rfl⟩;rw [<- c9]
  have pW:BW I S:=by rw [c9];exact below_drewN bR _
  clear m0 m1 m2 m3;obtain ⟨f,-⟩:∃ _k:Hid (KS B K 1 b q S),True:=⟨f.o.below pW,trivial⟩;obtain ⟨M,-⟩:∃ _k:Hid (Ce B w S),True:=⟨M.o.trans (.of pW U.o),trivial⟩;obtain ⟨b6,-⟩:∃ _k:Hid (E S),True:=⟨d.o.grow b6.o pW,trivial⟩;obtain ⟨U,-⟩:∃ _k:Hid (B<=S.heap.size),True:=⟨f.o.lt,trivial⟩;clear c9 pW;have g7:=f.o.z;have c3:=g7.c3;have c5:=g7.c5
  have HS:Hid (∀ u,BW S u->u.cell? (qzA K 3)=some (qzI b.today)/\u.cell? (qzA K 5)=some (.slice q.a b.az.length q.ac)):=fun u h=>⟨(f.o.below h).z.c3,(f.o.below h).z.c5⟩
  have b9:Hid (∀ u,BW S u->Calls prog 209 #[.slice q.a b.az.length q.ac,qzI n0,qzI n2,qzI n3,qzI b.today] u fun e w'=>∃ x,e=.returned (qzI x)/\F.best b.az n0 n2 n3 b.today x/\BW u w'):=fun u h =>
   d.o.best q.a q.ac b.az n0 n2 n3 b.today u (f.o.below h).at.az y.o.sm.2.1 y.o.ref y.o.cur (tM (by have:=b7.o.1;omega) b7.o.2) y.o.day
  have k0:BW S S:=bR;clear g7
  go_region_held3 (fun u=>u.cell? (qzA K 3)=some (qzI b.today)/\u.cell? (qzA K 5)=some (.slice q.a b.az.length q.ac)) (first | with_reducible exact HS.o _ k0 | with_reducible exact HS.o _ k0.drew | with_reducible exact HS.o _ k2) ((go_at_call 209;(first | with_reducible refine Calls.mono (b9.o _ k0) ?_ | with_reducible refine Calls.mono (b9.o _ k0.drew) ?_);rintro e R ⟨x,rfl,hx,p2⟩;have k2:BW S R:=(by first | exact p2 | exact (Below.trans (Below.refl S.heap.size S).drew p2))))
  all_goals
   rename_i hheld
   have N:Hid (KS B K 1 b q R):=f.o.below k2;have b4:Hid (Ce B w R):=M.o.trans (.of k2 U.o);have Y:Hid (E R):=d.o.grow b6.o k2
   have j:Hid (∀ r,r=Jk F b n0 n1 n2 n3 x->Fh F b rs r):=fun r h=>HR.o r x hx h
   have b0:=d.o.low _ _ _ _ _ _ hx;clear hheld c3 c5 k0 k2 p2 hx HR HS b9;have zz:=N.o.z
   by_cases hx1:x = -1
   ·subst hx1
    obtain ⟨et,ea,p⟩:=d.o.eAuth R Y.o
    have l:Hid (NF E (.iface et (.pointer (some ea)))):=⟨R,5,Y.o,by decide,p⟩
    have HQ:Hid (Fh F b rs (b,3)):=j.o _ (cK F (b:=b) (n0:=n0) (n1:=n1) (n2:=n2) (n3:=n3) (x:=-1) (by omega)).symm
    clear zz j b0;go_wp2;go_ret
    exact ⟨_,HQ.o,Et l.o (by decide) N.o b4.o⟩
   have a8:¬ x<0:=by omega
   have l3:(x == -1)=false:=by simpa using hx1
   clear b0 hx1;have c6:=zz.c6;have k9:b.cs.length<=1048576:=y.o.sm.2.2.1
   by_cases hcs:150<=b.cs.length
   ·have j7:(150:Int)<=(b.cs.length:Int):=by omega
    obtain ⟨et,ea,p⟩:=d.o.eCases R Y.o
    have l:Hid (NF E (.iface et (.pointer (some ea)))):=⟨R,6,Y.o,by decide,p⟩
    have HQ:Hid (Fh F b rs (b,2)):=j.o _ (bQ F (n0:=n0) (n1:=n1) (n2:=n2) (n3:=n3) a8 hcs).symm;clear zz j hcs;go_wp2;go_ret
    exact ⟨_,HQ.o,Et l.o (by decide) N.o b4.o⟩
   have j7:¬ (150:Int)<=(b.cs.length:Int):=by omega
   have c3:=zz.c3
   have a4:Hid (Calls prog 210 #[qzI n0,qzI n1,qzI n2,qzI n3,qzI b.today] R fun e w'=>∃ ao cap,e=.returned (.tuple #[cv (F.stC n0 n1 n2 n3 b.today),.slice ao (F.stE n0 n1 n2 n3 b.today).length cap,.bool (F.stOk n0 n1 n2 n3 b.today)])/\w'.ownsRow R.heap.size 269 4 (.slice ao (F.stE n0 n1 n2 n3 b.today).length cap) (F.stE n0 n1 n2 n3 b.today).length (Ba (F.stE n0 n1 n2 n3 b.today))/\BW R w'):=d.o.start n0 n1 n2 n3 b.today R i1.o
   have Z:Hid _:=d.o.small n0 n1 n2 n3 b.today;have P3:Hid _:=@cO F b n0 n1 n2 n3 x a8 hcs;have P4:Hid _:=@cM F b n0 n1 n2 n3 x a8 hcs;have P5:Hid _:=@bF F b n0 n1 n2 n3 x a8 hcs;obtain ⟨C,hC⟩:∃ C,F.stC n0 n1 n2 n3 b.today=C:=⟨_,rfl⟩;obtain ⟨ES,a5⟩:∃ C,F.stE n0 n1 n2 n3 b.today=C:=⟨_,rfl⟩;obtain ⟨so,g5⟩:∃ C,F.stOk n0 n1 n2 n3 b.today=C:=⟨_,rfl⟩;rw [hC,a5,g5] at a4;rw [a5] at Z P4;rw [hC,a5] at P5;rw [g5] at P3 P4 P5;clear hC a5 g5 hcs zz;unfold cv at a4;go_wp2_with fail
   refine Calls.mono a4.o ?_;rintro e w3 ⟨eo,ec,rfl,o3,p3⟩;obtain ⟨T,a7⟩:∃ W,W=w3.alloc (.cells #[qzI C.iss,qzI C.acq,qzI C.cur,qzI C.am,qzI C.st,qzI C.rsn,qzI C.cl,qzI C.bk,qzI C.fee,.bool C.cop,qzI C.sta,qzI C.due] 61):=⟨_,rfl⟩
   have bA:BW w3 T:=by rw [a7];exact bR.alloc nL _
   have h4:Hid (B<=R.heap.size):=N.o.lt;have b8:Hid (KS B K 1 b q T):=(N.o.below p3).below bA;have g9:Hid (Ce B w T):=b4.o.trans (.of (next p3 bA) h4.o);have h6:Hid (E T):=d.o.grow Y.o (next p3 bA);have h9:Hid (C8 T eo ES):=Hk (Av o3 bA);have b2:K<w3.heap.size:=(N.o.below p3).z.lt
   have HX:Hid (CB w3.heap.size 0 C T):=by rw [a7];exact CB.new w3 C _
   have k3:Hid (B<=T.heap.size):=b8.o.lt;clear o3 p3 bA c3 c6 a4;go_upto_region 11 with fail
   rw [<- a7];obtain ⟨X,hX⟩:∃ X,X=w3.heap.size:=⟨_,rfl⟩;rw [<- hX] at HX b2 ⊢
   have i8:X≠K:=by omega
   clear a7 hX b2
   cases so
   ·obtain ⟨et,ea,p⟩:=d.o.eCase T h6.o
    have l:Hid (NF E (.iface et (.pointer (some ea)))):=⟨T,7,h6.o,by decide,p⟩
    have HQ:Hid (Fh F b rs (b,5)):=j.o _ (P3.o (by simp)).symm
    clear j P3 P4 P5 Z;go_wp2;go_ret
    exact ⟨_,HQ.o,Et l.o (by decide) b8.o g9.o⟩
   have i3:Hid (Calls prog 211 #[.pointer (some (qzA K 2)),.slice eo ES.length ec] T (PsR B K F b q ES T)):=K9 d.o b q eo ec ES T b8.o y.o h9.o Z.o.1 (Z.o.2 i9.o j0.o i1.o b7.o);go_wp2_with fail
   refine Calls.mono i3.o ?_;rintro e w4 ⟨rfl,⟨la,lc,k4⟩,p4,g4⟩;have b5:Hid (Ce B w w4):=g9.o.trans p4;have h8:Hid (E w4):=d.o.keep _ _ a3.o (b5.o.b.mono j2.o)
   have j5:Hid (CB X 0 C w4):=HX.o.grown g4 (by simpa using i8)
   have J:Hid _:=d.o.stay b.ls ES;have A:Hid (KS B K 1 ⟨b.today,b.off,b.az,b.cs,F.all b.ls ES,b.log⟩ ⟨q.o,q.oc,q.a,q.ac,q.c,q.cc,la,lc,q.g,q.gc⟩ w4):=k4;obtain ⟨LL,i5⟩:∃ L,F.all b.ls ES=L:=⟨_,rfl⟩;obtain ⟨ok,D⟩:∃ L,F.allOk b.ls ES=L:=⟨_,rfl⟩;rw [i5] at A J P5;rw [D] at J P4 P5 ⊢;clear p4 g4 k4 i5 D i3 h9 Z
   cases ok
   ·obtain ⟨et,ea,p⟩:=d.o.eMoney w4 h8.o
    have l:Hid (NF E (.iface et (.pointer (some ea)))):=⟨w4,8,h8.o,by decide,p⟩
    have HQ:Hid (Fh F b rs (b,6)):=j.o _ (P4.o (by simp) (by simp)).symm
    have j3:Hid (∃ q',KS B K 1 b q' w4):=by
     have h:=A.o
     rw [J.o (by simp),iE] at h
     exact ⟨_,h⟩
    clear j P3 P4 P5;go_wp2;go_ret;obtain ⟨q',j9⟩:=j3.o
    exact ⟨_,HQ.o,Et l.o (by decide) j9 b5.o⟩
   have HQ:Hid (Fh F b rs (⟨b.today,b.off,F.use b.az x,b.cs++[C],LL,b.log⟩,0)):=j.o _ (P5.o (by simp) (by simp)).symm
   clear j P3 P4 P5 J;have c5:=A.o.z.c5;have c8:Hid (Calls prog 212 #[.slice q.a b.az.length q.ac,qzI x] w4 (Pi w4 (F.use b.az x) (F.useOk b.az x))):=d.o.use q.a q.ac b.az x w4 A.o.at.az y.o.sm.2.1 y.o.ref;obtain ⟨LU,i6⟩:∃ L,F.use b.az x=L:=⟨_,rfl⟩;rw [i6] at c8 HQ;clear i6;go_wp2_with fail
   refine Calls.mono c8.o ?_;rintro e w5 ⟨ua,uc,rfl,o5,p5⟩;have a9:Hid (B<=w4.heap.size):=A.o.lt;have s:Hid _:=A.o.below p5;have i:Hid (KS B K 1 ⟨b.today,b.off,LU,b.cs,LL,b.log⟩ ⟨q.o,q.oc,ua,uc,q.c,q.cc,la,lc,q.g,q.gc⟩ (w5.setCell (qzA K 5) (.slice ua LU.length uc))):=s.o.setA o5 a9.o;have h3:Hid (Ce B w (w5.setCell (qzA K 5) (.slice ua LU.length uc))):=(b5.o.trans (.of p5 a9.o)).setK s.o.kt A.o.hK
   have i4:Hid (CB X 0 C (w5.setCell (qzA K 5) (.slice ua LU.length uc))):=(j5.o.below p5).grown (An w5 K 5 _) (by simpa using i8)
   have c5:=s.o.z.c5;have z5:=s.o.z.z5;clear o5 p5 c8 s;go_upto_region 16 with fail
   obtain ⟨W5,i7⟩:∃ W,W=w5.setCell (qzA K 5) (.slice ua LU.length uc):=⟨_,rfl⟩;rw [<- i7] at i h3 i4 ⊢;clear i7 c5 z5;have c6:=i.o.z.c6;have z6:=i.o.z.z6
   have a6:=fun o=>(i.o.al o).z.c6
   obtain ⟨d0,d1,d2,d3,d4,d5,d6,d7,d8,d9,k6,k8⟩:=i4.o;have lX:X<W5.heap.size:=World.block_lt_of_cell? W5 _ d0;have V:Hid (B<=W5.heap.size):=i.o.lt
   have i0:Hid (∀ (u u':World) (a:Option Addr) (c:Nat),BW W5 u->u.grownBy u' (Value.slice q.c b.cs.length q.cc).ownBlock->u'.ownsRow B 61 12 (.slice a (b.cs.length+1) c) (b.cs.length+1) (Aj b.cs++Aj [C])->Wz E B K w (⟨b.today,b.off,LU,b.cs++[C],LL,b.log⟩,0) (.returned .nilIface) (u'.setCell (qzA K 6) (.slice a (b.cs.length+1) c))):=fun u u' a c h g o=>by
    have o':u'.ownsRow B 61 12 (.slice a (b.cs++[C]).length c) (b.cs++[C]).length (Aj (b.cs++[C])):=by
     rw [J5,List.length_append,List.length_singleton];exact o
    have h2:=(i.o.below h).setC g o';rw [List.length_append,List.length_singleton] at h2;refine Uv h2 ?_;have kh:=i.o.below h;have hu:Ce B w u':=(h3.o.trans (.of h V.o)).grownO g kh.cs (Nat.le_trans V.o h.size) (.inl rfl)
    exact hu.setK (kh.kt.grown g (D8 kh.cs kh.kt (by decide))) i.o.hK
   go_region_law (first
    | (refine Cv rfl (.tmp 110) (.tmp 112) rfl B (.slice q.c b.cs.length q.cc) b.cs.length (Aj b.cs) (by simp [Act.eval]) (Av i.o.cs (by go_grown)) (some ⟨W5.heap.size,0,none⟩) 1 [C] (by simp [Act.eval];try rfl) (by first | exact J3 (CB.new W5 C _) | exact J3 ((CB.new W5 C _).below (bR.drew))) (by simp;omega) (by simp;have:=V.o;omega) ?_
       intro v6 w6 o6 g6 _
       (try simp only [List.length_singleton] at o6)
       obtain ⟨va,vc,k1⟩:=Xf o6;subst k1;have j4:Hid (w6.ownsRow B 61 12 (.slice va (b.cs.length+1) vc) (b.cs.length+1) (Aj b.cs++Aj [C])):=o6;have j1:Hid _:=g6
       obtain ⟨y6,x6⟩:=kbC i.o g6 (by go_grown)
       clear o6 g6)
    | fail)
   all_goals
    go_wp2;go_ret
    exact ⟨_,HQ.o,i0.o _ _ _ _ (by go_grown) j1.o j4.o⟩
 ·have HR:Hid (∀ r,r=(b,1)->Fh F b rs r):=fun r h=>by rw [Fh,if_neg D];exact h
  have O:Ap rs=true->¬ (A7 rs).length=4:=fun h1 h2=>D ⟨h1,by rw [A7,if_pos h1] at h2;simpa using h2⟩
  have j8:(A7 rs).length<=1048576:=by unfold A7;split <;> simp;omega
  obtain ⟨L,hL⟩:∃ L,A7 rs=L:=⟨_,rfl⟩;rw [hL] at m O j8;obtain ⟨ok,b3⟩:∃ x,Ap rs=x:=⟨_,rfl⟩;rw [b3] at m O;clear hL b3 D
  go_enter func174,ntmps174
  go_wp2_with fail
  refine Calls.mono m.o ?_;rintro e I ⟨a,k,rfl,o1,b1⟩;have f:Hid (KS B K 1 b q I):=i2.o.below b1;have M:Hid (Ce B w I):=.of b1 g8.o;obtain ⟨et,ea,p⟩:=d.o.eLine I (d.o.grow a3.o b1)
  have l:Hid (NF E (.iface et (.pointer (some ea)))):=⟨I,3,(d.o.grow a3.o b1),by decide,p⟩
  clear o1 b1 m
  cases ok
  ·clear O
   go_wp2;go_ret
   exact ⟨_,HR.o _ rfl,Et l.o (by decide) f.o M.o⟩
  ·have l1:((L.length:Int) == 4)=false:=by
     have:=O rfl
     simp;omega
   have l2:((L.length:Int) != 4)=true:=by
    have:=O rfl
    simp;omega
   clear O;go_wp2;go_ret
   exact ⟨_,HR.o _ rfl,Et l.o (by decide) f.o M.o⟩
end Go.Proofs.YtomiclakhjncbaaGreatDoor.Kb
