import Derived.Test.YtomiclakhjncbaaGreatDoorJC2a
namespace Go.Proofs.YtomiclakhjncbaaGreatDoor.Kb
open Go.RowKit Go.Proofs.Tryz
set_option maxRecDepth 100000
set_option maxHeartbeats 12800000
def Fh (F:Ff) (b:Bk) (rs:Be) (r:Bk×Int):Prop :=
 if Ap rs=true∧rs.length=4 then ∃ x,F.best b.az (Ae (Al rs 0)) (Ae (Al rs 2)) (Ae (Al rs 3)) b.today x∧r=Jk F b (Ae (Al rs 0)) (Ae (Al rs 1)) (Ae (Al rs 2)) (Ae (Al rs 3)) x else r=(b,1)
theorem Xf {u:World} {base n size:Nat} {t:TypeId} {v:Value} {xs:List Value} (h:u.ownsRow base t size v n xs):∃ a c,v=.slice a n c:=by
 rcases h.2 with ⟨hv,h0⟩ | ⟨g,cap,cQ,hv,_⟩
 ·exact ⟨none,0,by rw [hv,h0]⟩
 ·exact ⟨_,_,hv⟩
theorem kbC {B K:Nat} {st:Int} {b:Bk} {q:Bp} {W u u':World} (k:KS B K st b q W) (g:u.grownBy u' (Value.slice q.c b.cs.length q.cc).ownBlock) (h:BW W u):u'.cell? ⟨K,6,none⟩=some (.slice q.c b.cs.length q.cc)∧u'.frozen? ⟨K,6,none⟩=false:=by
 have ku:=k.below h
 have zz:=ku.z.grown g (D8 ku.cs ku.kt (by decide))
 exact ⟨zz.c6,zz.z6⟩
def PaR (E:World→Prop) (B K:Nat) (F:Ff) (b:Bk) (rs:Be) (w:World) (e:Ending) (w':World):Prop:=∃ r,Fh F b rs r∧Wz E B K w r e w'
theorem tM {x:Int} (h1:-1≤x) (h2:x<1000000000000000000):(Lit.int .i64 x).wf=true:=by
 simp [Lit.wf,IntKind.min,IntKind.max,IntKind.signed,IntKind.bits];omega
theorem iE (b:Bk):(⟨b.today,b.off,b.az,b.cs,b.ls,b.log⟩:Bk)=b:=by cases b;rfl
theorem lE {F:Ff} {E:World→Prop} {G B K:Nat} (KI:Rq F E G) (hGB:G≤B) (b:Bk) (q:Bp) (ao:Option Addr) (cap:Nat) (rs:Be) (w:World) (hk:KS B K 1 b q w) (hE:E w) (hP:Ej b) (hz:Bh w ao rs) (hn:rs.length≤1048576) (hd:∀ r ∈ rs,r.length≤1048576) :
  Calls prog 174 #[.pointer (some ⟨K,0,none⟩),.slice ao rs.length cap] w (PaR E B K F b rs w):=by
 have HNS:Hid (Calls prog 206 #[.slice ao rs.length cap] w fun e w'=>∃ a k,e=.returned (.tuple #[.slice a (A7 rs).length k,.bool (Ap rs)])∧w'.ownsRow w.heap.size 3 1 (.slice a (A7 rs).length k) (A7 rs).length ((A7 rs).map (Value.int .i64))∧BW w w'):=Ks KI ao cap rs w hz hn hd hE
 have HB0:Hid (B≤w.heap.size):=hk.lt;have HK0:Hid (KS B K 1 b q w):=hk;have HE0:Hid (E w):=hE;have HPR:Hid (Ej b):=hP;have HKI:Hid (Rq F E G):=KI;have HGB:Hid (G≤B):=hGB;clear hz hd hk hE hP KI
 by_cases hok:Ap rs=true∧rs.length=4
 ·obtain ⟨h1,h2⟩:=hok
  obtain ⟨r0,r1,r2,r3,hr0⟩:=nP h2
  have hv:A7 rs=[Ae r0,Ae r1,Ae r2,Ae r3]:=by rw [A7,if_pos h1,hr0];rfl
  have hg:∀ r ∈ rs,Rp (Ae r):=fun r hr=>⟨by simpa using List.all_eq_true.1 h1 r hr,(Ib r).2⟩
  have g0:=hg r0 (by rw [hr0];simp)
  have g1:=hg r1 (by rw [hr0];simp)
  have g2:=hg r2 (by rw [hr0];simp)
  have g3:=hg r3 (by rw [hr0];simp)
  have HR:Hid (∀ r x,F.best b.az (Ae r0) (Ae r2) (Ae r3) b.today x→r=Jk F b (Ae r0) (Ae r1) (Ae r2) (Ae r3) x→Fh F b rs r):=fun r x hx hr=>by
   rw [Fh,if_pos ⟨h1,h2⟩,hr0];exact ⟨x,hx,hr⟩
  rw [hv,h1] at HNS;obtain ⟨n0,e0⟩:∃ n,Ae r0=n:=⟨_,rfl⟩;obtain ⟨n1,e1⟩:∃ n,Ae r1=n:=⟨_,rfl⟩;obtain ⟨n2,e2⟩:∃ n,Ae r2=n:=⟨_,rfl⟩;obtain ⟨n3,e3⟩:∃ n,Ae r3=n:=⟨_,rfl⟩;rw [e0,e1,e2,e3] at HNS HR;rw [e0] at g0;rw [e1] at g1;rw [e2] at g2;rw [e3] at g3
  simp only [List.length_cons,List.length_nil,List.map_cons,List.map_nil] at HNS
  have HG0:Hid (Rp n0):=g0;have HG1:Hid (Rp n1):=g1;have HG2:Hid (Rp n2):=g2;have HG3:Hid (Rp n3):=g3;clear hv e0 e1 e2 e3 h1 h2 hr0 hg g0 g1 g2 g3
  go_enter func174,ntmps174
  go_wp2_with fail
  refine Calls.mono HNS.o ?_;rintro e w1 ⟨a,k,rfl,o1,p1⟩
  obtain ⟨gn,rfl,-,-⟩:=Hf o1 (by omega)
  have m0:w1.cell? ⟨gn,0,none⟩=some (.int .i64 n0):=by simpa using o1.cellAt 0 (by omega)
  have m1:w1.cell? ⟨gn,1,none⟩=some (.int .i64 n1):=by simpa using o1.cellAt 1 (by omega)
  have m2:w1.cell? ⟨gn,2,none⟩=some (.int .i64 n2):=by simpa using o1.cellAt 2 (by omega)
  have m3:w1.cell? ⟨gn,3,none⟩=some (.int .i64 n3):=by simpa using o1.cellAt 3 (by omega)
  have HK1:Hid (KS B K 1 b q w1):=HK0.o.below p1;have HB1:Hid (Ce B w w1):=.of p1 HB0.o;have HE1:Hid (E w1):=HKI.o.grow HE0.o p1;have HBW1:Hid (B≤w1.heap.size):=HK1.o.lt;clear o1 p1 HNS;go_upto_region 4 with fail
  go_quiet (fail)
  go_upto_region 5 with fail
  obtain ⟨W1,hW1⟩:∃ W,W=w1.drewN nq:=⟨_,rfl⟩;rw [← hW1]
  have pW:BW w1 W1:=by rw [hW1];exact below_drewN bR _
  clear m0 m1 m2 m3;obtain ⟨HK1,-⟩:∃ _k:Hid (KS B K 1 b q W1),True:=⟨HK1.o.below pW,trivial⟩;obtain ⟨HB1,-⟩:∃ _k:Hid (Ce B w W1),True:=⟨HB1.o.trans (.of pW HBW1.o),trivial⟩;obtain ⟨HE1,-⟩:∃ _k:Hid (E W1),True:=⟨HKI.o.grow HE1.o pW,trivial⟩;obtain ⟨HBW1,-⟩:∃ _k:Hid (B≤W1.heap.size),True:=⟨HK1.o.lt,trivial⟩;clear hW1 pW;have hz1:=HK1.o.z;have c3:=hz1.c3;have c5:=hz1.c5
  have HS:Hid (∀ u,BW W1 u→u.cell? ⟨K,3,none⟩=some (.int .i64 b.today)∧u.cell? ⟨K,5,none⟩=some (.slice q.a b.az.length q.ac)):=fun u h=>⟨(HK1.o.below h).z.c3,(HK1.o.below h).z.c5⟩
  have HMB:Hid (∀ u,BW W1 u→Calls prog 209 #[.slice q.a b.az.length q.ac,.int .i64 n0,.int .i64 n2,.int .i64 n3,.int .i64 b.today] u fun e w'=>∃ x,e=.returned (.int .i64 x)∧F.best b.az n0 n2 n3 b.today x∧BW u w'):=fun u h =>
   HKI.o.best q.a q.ac b.az n0 n2 n3 b.today u (HK1.o.below h).at.az HPR.o.sm.2.1 HPR.o.ref HPR.o.cQ (tM (by have:=HG3.o.1;omega) HG3.o.2) HPR.o.day
  have k0:BW W1 W1:=bR;clear hz1
  go_region_held3 (fun u=>u.cell? ⟨K,3,none⟩=some (.int .i64 b.today)∧u.cell? ⟨K,5,none⟩=some (.slice q.a b.az.length q.ac)) (first | with_reducible exact HS.o _ k0 | with_reducible exact HS.o _ k0.drew | with_reducible exact HS.o _ k2) ((go_at_call 209;(first | with_reducible refine Calls.mono (HMB.o _ k0) ?_ | with_reducible refine Calls.mono (HMB.o _ k0.drew) ?_);rintro e w2 ⟨x,rfl,hx,p2⟩;have k2:BW W1 w2:=(by first | exact p2 | exact (Below.trans (Below.refl W1.heap.size W1).drew p2))))
  all_goals
   rename_i hheld
   have HK2:Hid (KS B K 1 b q w2):=HK1.o.below k2;have HB2:Hid (Ce B w w2):=HB1.o.trans (.of k2 HBW1.o);have HE2:Hid (E w2):=HKI.o.grow HE1.o k2
   have HRX:Hid (∀ r,r=Jk F b n0 n1 n2 n3 x→Fh F b rs r):=fun r h=>HR.o r x hx h
   have hlow:=HKI.o.low _ _ _ _ _ _ hx;clear hheld c3 c5 k0 k2 p2 hx HR HS HMB;have zz:=HK2.o.z
   by_cases hx1:x = -1
   ·subst hx1
    obtain ⟨et,ea,hee⟩:=HKI.o.eAuth w2 HE2.o
    have HYY:Hid (NF E (.iface et (.pointer (some ea)))):=⟨w2,5,HE2.o,by decide,hee⟩
    have HQ:Hid (Fh F b rs (b,3)):=HRX.o _ (cK F (b:=b) (n0:=n0) (n1:=n1) (n2:=n2) (n3:=n3) (x:=-1) (by omega)).symm
    clear zz HRX hlow;go_wp2;go_ret
    exact ⟨_,HQ.o,Et HYY.o (by decide) HK2.o HB2.o⟩
   have hx0:¬ x<0:=by omega
   have hxe:(x == -1)=false:=by simpa using hx1
   clear hlow hx1;have c6:=zz.c6;have hcm:b.cs.length≤1048576:=HPR.o.sm.2.2.1
   by_cases hcs:150≤b.cs.length
   ·have hci:(150:Int)≤(b.cs.length:Int):=by omega
    obtain ⟨et,ea,hee⟩:=HKI.o.eCases w2 HE2.o
    have HYY:Hid (NF E (.iface et (.pointer (some ea)))):=⟨w2,6,HE2.o,by decide,hee⟩
    have HQ:Hid (Fh F b rs (b,2)):=HRX.o _ (bQ F (n0:=n0) (n1:=n1) (n2:=n2) (n3:=n3) hx0 hcs).symm;clear zz HRX hcs;go_wp2;go_ret
    exact ⟨_,HQ.o,Et HYY.o (by decide) HK2.o HB2.o⟩
   have hci:¬ (150:Int)≤(b.cs.length:Int):=by omega
   have c3:=zz.c3
   have HST:Hid (Calls prog 210 #[.int .i64 n0,.int .i64 n1,.int .i64 n2,.int .i64 n3,.int .i64 b.today] w2 fun e w'=>∃ ao cap,e=.returned (.tuple #[cv (F.stC n0 n1 n2 n3 b.today),.slice ao (F.stE n0 n1 n2 n3 b.today).length cap,.bool (F.stOk n0 n1 n2 n3 b.today)])∧w'.ownsRow w2.heap.size 269 4 (.slice ao (F.stE n0 n1 n2 n3 b.today).length cap) (F.stE n0 n1 n2 n3 b.today).length (Ba (F.stE n0 n1 n2 n3 b.today))∧BW w2 w'):=HKI.o.start n0 n1 n2 n3 b.today w2 HG2.o
   have HSM:Hid _:=HKI.o.small n0 n1 n2 n3 b.today;have P3:Hid _:=@cO F b n0 n1 n2 n3 x hx0 hcs;have P4:Hid _:=@cM F b n0 n1 n2 n3 x hx0 hcs;have P5:Hid _:=@bF F b n0 n1 n2 n3 x hx0 hcs;obtain ⟨C,hC⟩:∃ C,F.stC n0 n1 n2 n3 b.today=C:=⟨_,rfl⟩;obtain ⟨ES,hES⟩:∃ C,F.stE n0 n1 n2 n3 b.today=C:=⟨_,rfl⟩;obtain ⟨so,hso⟩:∃ C,F.stOk n0 n1 n2 n3 b.today=C:=⟨_,rfl⟩;rw [hC,hES,hso] at HST;rw [hES] at HSM P4;rw [hC,hES] at P5;rw [hso] at P3 P4 P5;clear hC hES hso hcs zz;unfold cv at HST;go_wp2_with fail
   refine Calls.mono HST.o ?_;rintro e w3 ⟨eo,ec,rfl,o3,p3⟩;obtain ⟨W3,hW3⟩:∃ W,W=w3.alloc (.cells #[.int .i64 C.iss,.int .i64 C.acq,.int .i64 C.cur,.int .i64 C.am,.int .i64 C.st,.int .i64 C.rsn,.int .i64 C.cl,.int .i64 C.bk,.int .i64 C.fee,.bool C.cop,.int .i64 C.sta,.int .i64 C.due] 61):=⟨_,rfl⟩
   have bA:BW w3 W3:=by rw [hW3];exact bR.alloc nL _
   have HBW2:Hid (B≤w2.heap.size):=HK2.o.lt;have HK3:Hid (KS B K 1 b q W3):=(HK2.o.below p3).below bA;have HB3:Hid (Ce B w W3):=HB2.o.trans (.of (next p3 bA) HBW2.o);have HE3:Hid (E W3):=HKI.o.grow HE2.o (next p3 bA);have HEN:Hid (C8 W3 eo ES):=Hk (Av o3 bA);have hlt3:K<w3.heap.size:=(HK2.o.below p3).z.lt
   have HX:Hid (CB w3.heap.size 0 C W3):=by rw [hW3];exact CB.new w3 C _
   have HBW3:Hid (B≤W3.heap.size):=HK3.o.lt;clear o3 p3 bA c3 c6 HST;go_upto_region 11 with fail
   rw [← hW3];obtain ⟨X,hX⟩:∃ X,X=w3.heap.size:=⟨_,rfl⟩;rw [← hX] at HX hlt3 ⊢
   have hXK:X≠K:=by omega
   clear hW3 hX hlt3
   cases so
   ·obtain ⟨et,ea,hee⟩:=HKI.o.eCase W3 HE3.o
    have HYY:Hid (NF E (.iface et (.pointer (some ea)))):=⟨W3,7,HE3.o,by decide,hee⟩
    have HQ:Hid (Fh F b rs (b,5)):=HRX.o _ (P3.o (by simp)).symm
    clear HRX P3 P4 P5 HSM;go_wp2;go_ret
    exact ⟨_,HQ.o,Et HYY.o (by decide) HK3.o HB3.o⟩
   have HPO:Hid (Calls prog 211 #[.pointer (some ⟨K,2,none⟩),.slice eo ES.length ec] W3 (PsR B K F b q ES W3)):=K9 HKI.o b q eo ec ES W3 HK3.o HPR.o HEN.o HSM.o.1 (HSM.o.2 HG0.o HG1.o HG2.o HG3.o);go_wp2_with fail
   refine Calls.mono HPO.o ?_;rintro e w4 ⟨rfl,⟨la,lc,k4⟩,p4,g4⟩;have HB4:Hid (Ce B w w4):=HB3.o.trans p4;have HE4:Hid (E w4):=HKI.o.keep _ _ HE0.o (HB4.o.b.mono HGB.o)
   have HX4:Hid (CB X 0 C w4):=HX.o.grown g4 (by simpa using hXK)
   have HSTY:Hid _:=HKI.o.stay b.ls ES;have HK4:Hid (KS B K 1 ⟨b.today,b.off,b.az,b.cs,F.all b.ls ES,b.log⟩ ⟨q.o,q.oc,q.a,q.ac,q.c,q.cc,la,lc,q.g,q.gc⟩ w4):=k4;obtain ⟨LL,hLL⟩:∃ L,F.all b.ls ES=L:=⟨_,rfl⟩;obtain ⟨ok,hok⟩:∃ L,F.allOk b.ls ES=L:=⟨_,rfl⟩;rw [hLL] at HK4 HSTY P5;rw [hok] at HSTY P4 P5 ⊢;clear p4 g4 k4 hLL hok HPO HEN HSM
   cases ok
   ·obtain ⟨et,ea,hee⟩:=HKI.o.eMoney w4 HE4.o
    have HYY:Hid (NF E (.iface et (.pointer (some ea)))):=⟨w4,8,HE4.o,by decide,hee⟩
    have HQ:Hid (Fh F b rs (b,6)):=HRX.o _ (P4.o (by simp) (by simp)).symm
    have HKF:Hid (∃ q',KS B K 1 b q' w4):=by
     have h:=HK4.o
     rw [HSTY.o (by simp),iE] at h
     exact ⟨_,h⟩
    clear HRX P3 P4 P5;go_wp2;go_ret;obtain ⟨q',hq'⟩:=HKF.o
    exact ⟨_,HQ.o,Et HYY.o (by decide) hq' HB4.o⟩
   have HQ:Hid (Fh F b rs (⟨b.today,b.off,F.use b.az x,b.cs++[C],LL,b.log⟩,0)):=HRX.o _ (P5.o (by simp) (by simp)).symm
   clear HRX P3 P4 P5 HSTY;have c5:=HK4.o.z.c5;have HUS:Hid (Calls prog 212 #[.slice q.a b.az.length q.ac,.int .i64 x] w4 (Pi w4 (F.use b.az x) (F.useOk b.az x))):=HKI.o.use q.a q.ac b.az x w4 HK4.o.at.az HPR.o.sm.2.1 HPR.o.ref;obtain ⟨LU,hLU⟩:∃ L,F.use b.az x=L:=⟨_,rfl⟩;rw [hLU] at HUS HQ;clear hLU;go_wp2_with fail
   refine Calls.mono HUS.o ?_;rintro e w5 ⟨ua,uc,rfl,o5,p5⟩;have HBW4:Hid (B≤w4.heap.size):=HK4.o.lt;have HK5':Hid _:=HK4.o.below p5;have HK5:Hid (KS B K 1 ⟨b.today,b.off,LU,b.cs,LL,b.log⟩ ⟨q.o,q.oc,ua,uc,q.c,q.cc,la,lc,q.g,q.gc⟩ (w5.setCell ⟨K,5,none⟩ (.slice ua LU.length uc))):=HK5'.o.setA o5 HBW4.o;have HB5:Hid (Ce B w (w5.setCell ⟨K,5,none⟩ (.slice ua LU.length uc))):=(HB4.o.trans (.of p5 HBW4.o)).setK HK5'.o.kt HK4.o.hK
   have HX5:Hid (CB X 0 C (w5.setCell ⟨K,5,none⟩ (.slice ua LU.length uc))):=(HX4.o.below p5).grown (An w5 K 5 _) (by simpa using hXK)
   have c5:=HK5'.o.z.c5;have z5:=HK5'.o.z.z5;clear o5 p5 HUS HK5';go_upto_region 16 with fail
   obtain ⟨W5,hW5⟩:∃ W,W=w5.setCell ⟨K,5,none⟩ (.slice ua LU.length uc):=⟨_,rfl⟩;rw [← hW5] at HK5 HB5 HX5 ⊢;clear hW5 c5 z5;have c6:=HK5.o.z.c6;have z6:=HK5.o.z.z6
   have a6:=fun o=>(HK5.o.al o).z.c6
   obtain ⟨d0,d1,d2,d3,d4,d5,d6,d7,d8,d9,d10,d11⟩:=HX5.o;have lX:X<W5.heap.size:=World.block_lt_of_cell? W5 _ d0;have HBW5:Hid (B≤W5.heap.size):=HK5.o.lt
   have HEND:Hid (∀ (u u':World) (a:Option Addr) (c:Nat),BW W5 u→u.grownBy u' (Value.slice q.c b.cs.length q.cc).ownBlock→u'.ownsRow B 61 12 (.slice a (b.cs.length+1) c) (b.cs.length+1) (Aj b.cs++Aj [C])→Wz E B K w (⟨b.today,b.off,LU,b.cs++[C],LL,b.log⟩,0) (.returned .nilIface) (u'.setCell ⟨K,6,none⟩ (.slice a (b.cs.length+1) c))):=fun u u' a c h g o=>by
    have o':u'.ownsRow B 61 12 (.slice a (b.cs++[C]).length c) (b.cs++[C]).length (Aj (b.cs++[C])):=by
     rw [J5,List.length_append,List.length_singleton];exact o
    have h2:=(HK5.o.below h).setC g o';rw [List.length_append,List.length_singleton] at h2;refine Uv h2 ?_;have kh:=HK5.o.below h;have hu:Ce B w u':=(HB5.o.trans (.of h HBW5.o)).grownO g kh.cs (Nat.le_trans HBW5.o h.size) (.inl rfl)
    exact hu.setK (kh.kt.grown g (D8 kh.cs kh.kt (by decide))) HK5.o.hK
   go_region_law (first
    | (refine Cv rfl (.tmp 110) (.tmp 112) rfl B (.slice q.c b.cs.length q.cc) b.cs.length (Aj b.cs) (by simp [Act.eval]) (Av HK5.o.cs (by go_grown)) (some ⟨W5.heap.size,0,none⟩) 1 [C] (by simp [Act.eval];try rfl) (by first | exact J3 (CB.new W5 C _) | exact J3 ((CB.new W5 C _).below (bR.drew))) (by simp;omega) (by simp;have:=HBW5.o;omega) ?_
       intro v6 w6 o6 g6 _
       (try simp only [List.length_singleton] at o6)
       obtain ⟨va,vc,hva⟩:=Xf o6;subst hva;have HO6:Hid (w6.ownsRow B 61 12 (.slice va (b.cs.length+1) vc) (b.cs.length+1) (Aj b.cs++Aj [C])):=o6;have HG6:Hid _:=g6
       obtain ⟨y6,x6⟩:=kbC HK5.o g6 (by go_grown)
       clear o6 g6)
    | fail)
   all_goals
    go_wp2;go_ret
    exact ⟨_,HQ.o,HEND.o _ _ _ _ (by go_grown) HG6.o HO6.o⟩
 ·have HR:Hid (∀ r,r=(b,1)→Fh F b rs r):=fun r h=>by rw [Fh,if_neg hok];exact h
  have hne:Ap rs=true→¬ (A7 rs).length=4:=fun h1 h2=>hok ⟨h1,by rw [A7,if_pos h1] at h2;simpa using h2⟩
  have hln:(A7 rs).length≤1048576:=by unfold A7;split <;> simp;omega
  obtain ⟨L,hL⟩:∃ L,A7 rs=L:=⟨_,rfl⟩;rw [hL] at HNS hne hln;obtain ⟨ok,hok2⟩:∃ x,Ap rs=x:=⟨_,rfl⟩;rw [hok2] at HNS hne;clear hL hok2 hok
  go_enter func174,ntmps174
  go_wp2_with fail
  refine Calls.mono HNS.o ?_;rintro e w1 ⟨a,k,rfl,o1,b1⟩;have HK1:Hid (KS B K 1 b q w1):=HK0.o.below b1;have HB1:Hid (Ce B w w1):=.of b1 HB0.o;obtain ⟨et,ea,hee⟩:=HKI.o.eLine w1 (HKI.o.grow HE0.o b1)
  have HYY:Hid (NF E (.iface et (.pointer (some ea)))):=⟨w1,3,(HKI.o.grow HE0.o b1),by decide,hee⟩
  clear o1 b1 HNS
  cases ok
  ·clear hne
   go_wp2;go_ret
   exact ⟨_,HR.o _ rfl,Et HYY.o (by decide) HK1.o HB1.o⟩
  ·have hl1:((L.length:Int) == 4)=false:=by
     have:=hne rfl
     simp;omega
   have hl2:((L.length:Int) != 4)=true:=by
    have:=hne rfl
    simp;omega
   clear hne;go_wp2;go_ret
   exact ⟨_,HR.o _ rfl,Et HYY.o (by decide) HK1.o HB1.o⟩
end Go.Proofs.YtomiclakhjncbaaGreatDoor.Kb
