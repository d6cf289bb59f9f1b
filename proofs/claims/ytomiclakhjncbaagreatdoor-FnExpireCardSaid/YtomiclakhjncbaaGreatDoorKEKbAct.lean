import Derived.Test.YtomiclakhjncbaaGreatDoorJE2b
namespace Go.Proofs.YtomiclakhjncbaaGreatDoor.Kb
open Go.RowKit Go.Proofs.Tryz
set_option maxRecDepth 100000
set_option maxHeartbeats 12800000
theorem lZ {F:Ff} {E:World→Prop} {G B K:Nat} (KI:Rq F E G) (hGB:G≤B) (b:Bk) (q:Bp) (ao:Option Addr) (cap:Nat) (rs:Be) (w:World) (hk:KS B K 1 b q w) (hE:E w) (hP:Ej b) (hz:Bh w ao rs) (hd:∀ r ∈ rs,r.length≤1048576) :
  Calls prog 175 #[.pointer (some ⟨K,0,none⟩),.slice ao rs.length cap] w (Wz E B K w (Hx F b rs)):=by
 have HB0:Hid (B≤w.heap.size):=hk.lt;have HK0:Hid (KS B K 1 b q w):=hk;have HE0:Hid (E w):=hE;have HPR:Hid (Ej b):=hP;have HKI:Hid (Rq F E G):=KI;have HGB:Hid (G≤B):=hGB;have HBR:Hid (Ce B w w):=.refl _ _
 by_cases hl4:rs.length=4
 ·obtain ⟨r0,r1,r2,r3,hrs⟩:=nP hl4
  have d0:=hd r0 (by rw [hrs];simp)
  have d2:=hd r2 (by rw [hrs];simp)
  have d3:=hd r3 (by rw [hrs];simp)
  rw [hrs] at hz;obtain ⟨g,off,rfl,hg,t0,t1,t2,t3⟩:=pV hz;rw [hrs];clear hd hz hl4 hk hE hP KI hGB hrs
  have HKD:Hid (Calls prog 213 #[.string ⟨r1.toArray⟩] w fun e w'=>e=.returned (.tuple #[.int .i64 (Oz r1),.bool (decide (0≤Bz r1))])∧BW w w'):=fD HKI.o r1 w HE0.o
  have hkb:=lS r1
  have HAR:Hid (Hx F b [r0,r1,r2,r3]=if 0≤Bz r1∧Ap [r0,r2,r3]=true then Ja F b (Ae r0) ⟨Bz r1,Ae r2,Ae r3⟩ else (b,1)):=by
   rw [Hid,Hx]
   by_cases h:0≤Bz r1∧Ap [r0,r2,r3]=true
   ·rw [if_pos ⟨rfl,h.1,h.2⟩,if_pos h];rfl
   ·rw [if_neg (fun e=>h ⟨e.2.1,e.2.2⟩),if_neg h]
  have HKP:Hid (0≤Bz r1→Oz r1=Bz r1):=fun h=>if_pos h
  obtain ⟨kp,hkp⟩:∃ x,Oz r1=x:=⟨_,rfl⟩;rw [hkp] at HKD HKP;have HKN:Hid (decide (0≤Bz r1)=true ↔ 0≤Bz r1):=decide_eq_true_iff;obtain ⟨kn,hkn⟩:∃ x,decide (0≤Bz r1)=x:=⟨_,rfl⟩;rw [hkn] at HKD HKN;obtain ⟨ok,hok⟩:∃ x,Ap [r0,r2,r3]=x:=⟨_,rfl⟩;have HOK:Hid (Ap [r0,r2,r3]=ok):=hok
  have HLV:Hid (ok=true→A7 [r0,r2,r3]=[Ae r0,Ae r2,Ae r3]∧Rp (Ae r0)∧Rp (Ae r2)∧Rp (Ae r3)):=fun h=>by
   have h':Ap [r0,r2,r3]=true:=hok.trans h
   have hg:∀ r ∈ [r0,r2,r3],Rp (Ae r):=fun r hr=>⟨by simpa using List.all_eq_true.1 h' r hr,(Ib r).2⟩
   exact ⟨if_pos h',hg r0 (by simp),hg r2 (by simp),hg r3 (by simp)⟩
  obtain ⟨L,hL⟩:∃ x,A7 [r0,r2,r3]=x:=⟨_,rfl⟩;rw [hL] at HLV;have HLL:Hid (A7 [r0,r2,r3]=L):=hL;clear hkp hkn hok hL
  go_enter func175,ntmps175
  go_wp2_with fail
  refine Calls.mono HKD.o ?_;rintro e w1 ⟨rfl,p1⟩;have HK1:Hid (KS B K 1 b q w1):=HK0.o.below p1;have HB1:Hid (Ce B w w1):=.of p1 HB0.o;have HE1:Hid (E w1):=HKI.o.grow HE0.o p1;have HBW1:Hid (B≤w1.heap.size):=HK1.o.lt;have s0:w1.cell? ⟨g,off,none⟩=some (.string ⟨r0.toArray⟩):=(p1.cell (p:=⟨g,off,none⟩) hg).trans t0;have s2:w1.cell? ⟨g,off+2,none⟩=some (.string ⟨r2.toArray⟩):=(p1.cell (p:=⟨g,off+2,none⟩) hg).trans t2;have s3:w1.cell? ⟨g,off+3,none⟩=some (.string ⟨r3.toArray⟩):=(p1.cell (p:=⟨g,off+3,none⟩) hg).trans t3;clear p1 t0 t1 t2 t3 HKD hg
  have HNS:Hid (∀ u,BW w1 u→u.cell? ⟨w1.heap.size,0,none⟩=some (.string ⟨r0.toArray⟩)→u.cell? ⟨w1.heap.size,1,none⟩=some (.string ⟨r2.toArray⟩)→u.cell? ⟨w1.heap.size,2,none⟩=some (.string ⟨r3.toArray⟩)→Calls prog 206 #[.slice (some ⟨w1.heap.size,0,none⟩) 3 3] u fun e w'=>∃ a k,e=.returned (.tuple #[.slice a (A7 [r0,r2,r3]).length k,.bool (Ap [r0,r2,r3])])∧w'.ownsRow u.heap.size 3 1 (.slice a (A7 [r0,r2,r3]).length k) (A7 [r0,r2,r3]).length ((A7 [r0,r2,r3]).map (Value.int .i64))∧BW u w'):=fun u h c0 c1 c2 =>
   Ks HKI.o (some ⟨w1.heap.size,0,none⟩) 3 [r0,r2,r3] u (pY (World.block_lt_of_cell? u _ c0) c0 c1 c2) (by simp) (by
    intro r hr
    simp at hr
    rcases hr with rfl | rfl | rfl <;> assumption) (HKI.o.grow HE1.o h)
  rw [HLL.o,HOK.o] at HNS;go_upto_region 4 with fail
  go_cut [7,8] (fun va vo wz=>∃ a k m,va=.slice a L.length k∧vo=.bool ok∧wz.ownsRow m 3 1 (.slice a L.length k) L.length (L.map (Value.int .i64))∧BW w1 wz)
  case first =>
   go_region_law (first
    | (go_simp;go_at_call 206;(first | refine Calls.mono (HNS.o _ (by go_grown) (by simp) (by simp) (by simp)) ?_);rintro e w2 ⟨a,k,rfl,o2,p2⟩;have k2:BW w1 w2:=next (by go_grown) p2;have HO2:Hid _:=o2;clear o2 p2)
    | fail)
   all_goals
    go_wp2_with fail
    go_meet;exact ⟨_,_,_,rfl,rfl,HO2.o,k2⟩
  case rest =>
   obtain ⟨w2,hw2⟩:∃ x,x=wc:=⟨_,rfl⟩;subst hw2;obtain ⟨a,k,m,rfl,rfl,o2,k2⟩:=hcut;have HK2:Hid (KS B K 1 b q w2):=HK1.o.below k2;have HB2:Hid (Ce B w w2):=HB1.o.trans (.of k2 HBW1.o);have HE2:Hid (E w2):=HKI.o.grow HE1.o k2;have HBW2:Hid (B≤w2.heap.size):=HK2.o.lt;clear k2 s0 s2 s3 HNS
   cases kn
   ·obtain ⟨et,ea,hee⟩:=HKI.o.eLine w2 HE2.o
    have HYY:Hid (NF E (.iface et (.pointer (some ea)))):=⟨w2,3,HE2.o,by decide,hee⟩
    have HQ:Hid (Hx F b [r0,r1,r2,r3]=(b,1)):=by
     rw [Hid,HAR.o,if_neg]
     exact fun e=>by have:=HKN.o.2 e.1;cases this
    clear HAR HKN HLV o2;go_wp2;go_ret;rw [HQ.o]
    exact Et HYY.o (by decide) HK2.o HB2.o
   cases ok
   ·obtain ⟨et,ea,hee⟩:=HKI.o.eLine w2 HE2.o
    have HYY:Hid (NF E (.iface et (.pointer (some ea)))):=⟨w2,3,HE2.o,by decide,hee⟩
    have HQ:Hid (Hx F b [r0,r1,r2,r3]=(b,1)):=by
     rw [Hid,HAR.o,if_neg]
     exact fun e=>by rw [HOK.o] at e;cases e.2
    clear HAR HKN HLV o2;go_wp2;go_ret;rw [HQ.o]
    exact Et HYY.o (by decide) HK2.o HB2.o
   obtain ⟨hLL,HG0,HG2,HG3⟩:=HLV.o (by simp)
   have hk0:0≤Bz r1:=HKN.o.1 (by simp)
   have hkp:kp=Bz r1:=HKP.o hk0
   have HQ:Hid (Hx F b [r0,r1,r2,r3]=Ja F b (Ae r0) ⟨kp,Ae r2,Ae r3⟩):=by
    rw [Hid,HAR.o,if_pos ⟨hk0,HOK.o⟩,hkp]
   have hkp0:0≤kp:=by omega
   have hkp9:kp<10:=by omega
   obtain ⟨n0,e0⟩:∃ n,Ae r0=n:=⟨_,rfl⟩;obtain ⟨n2,e2⟩:∃ n,Ae r2=n:=⟨_,rfl⟩;obtain ⟨n3,e3⟩:∃ n,Ae r3=n:=⟨_,rfl⟩;rw [e0] at HG0 hLL HQ;rw [e2] at HG2 hLL HQ;rw [e3] at HG3 hLL HQ;rw [hLL] at o2 ⊢
   simp only [List.length_cons,List.length_nil,List.map_cons,List.map_nil] at o2 ⊢
   obtain ⟨gn,rfl,-,-⟩:=Hf o2 (by omega)
   have m0:w2.cell? ⟨gn,0,none⟩=some (.int .i64 n0):=by simpa using o2.cellAt 0 (by omega)
   have m1:w2.cell? ⟨gn,1,none⟩=some (.int .i64 n2):=by simpa using o2.cellAt 1 (by omega)
   have m2:w2.cell? ⟨gn,2,none⟩=some (.int .i64 n3):=by simpa using o2.cellAt 2 (by omega)
   clear hLL e0 e2 e3 hkp hk0 hkb o2 HAR HKN HLV HKP HLL HOK;have l0:=World.block_lt_of_cell? w2 _ m0
   have a0:=fun o=>(((Below.refl w2.heap.size w2).alloc nL o).cell (p:=⟨gn,0,none⟩) l0).trans m0
   have a1:=fun o=>(((Below.refl w2.heap.size w2).alloc nL o).cell (p:=⟨gn,1,none⟩) l0).trans m1
   have a2:=fun o=>(((Below.refl w2.heap.size w2).alloc nL o).cell (p:=⟨gn,2,none⟩) l0).trans m2
   go_upto_region 7 with fail
   go_cut [9,10] (fun v9 v10 wz=>v9=.int .i64 n0∧∃ X,v10=.pointer (some ⟨X,0,none⟩)∧w2.heap.size≤X∧wz.cell? ⟨X,0,none⟩=some (.int .i64 kp)∧wz.cell? ⟨X,1,none⟩=some (.int .i64 n2)∧wz.cell? ⟨X,2,none⟩=some (.int .i64 n3)∧BW w2 wz)
   case first =>
    go_region
    all_goals
     go_wp2_with fail
     go_meet
     exact ⟨rfl,w2.heap.size,rfl,nL,by simp [go_sem],by simp [go_sem],by simp [go_sem],by go_grown⟩
   case rest =>
    obtain ⟨w3,hw3⟩:∃ x,x=wc:=⟨_,rfl⟩;subst hw3;obtain ⟨rfl,X,rfl,hX0,x0,x1,x2,k3⟩:=hcut;have HK3:Hid (KS B K 1 b q w3):=HK2.o.below k3;have HB3:Hid (Ce B w w3):=HB2.o.trans (.of k3 HBW2.o);have HE3:Hid (E w3):=HKI.o.grow HE2.o k3;have HBW3:Hid (B≤w3.heap.size):=HK3.o.lt;clear k3 m0 m1 m2 a0 a1 a2 l0 hX0;have c6:=HK3.o.z.c6;have hcm:b.cs.length≤1048576:=HPR.o.sm.2.2.1
    by_cases hcs:(b.cs.length:Int)≤n0
    ·obtain ⟨et,ea,hee⟩:=HKI.o.eCase w3 HE3.o
     have HYY:Hid (NF E (.iface et (.pointer (some ea)))):=⟨w3,7,HE3.o,by decide,hee⟩
     have HQ2:Hid (Hx F b [r0,r1,r2,r3]=(b,5)):=HQ.o.trans (cE F _ (by omega))
     clear HQ HG0 HG2 HG3;go_wp2;go_ret;rw [HQ2.o]
     exact Et HYY.o (by decide) HK3.o HB3.o
    have hi:0≤n0∧n0≤(b.cs.length:Int) - 1:=⟨HG0.1,by omega⟩
    have HN2:Hid _:=@cD F b n0 ⟨kp,n2,n3⟩ hi;have HN3:Hid _:=@dC F b n0 ⟨kp,n2,n3⟩ hi;have HY:Hid _:=@bE F b n0 ⟨kp,n2,n3⟩ hi;obtain ⟨k,rfl⟩:=Int.eq_ofNat_of_zero_le hi.1
    simp only [Int.toNat_natCast] at HN2 HN3 HY
    have hk:k<b.cs.length:=by omega
    have hki:¬ (b.cs.length:Int)≤(k:Int):=by omega
    have hkl:(k:Int)<(b.cs.length:Int):=by omega
    clear hi hcs;have ho:=HK3.o.cs
    obtain ⟨cg,hqc,hcg,hcl⟩:=Hf ho (by omega)
    have HQC:Hid (q.c=some ⟨cg,0,none⟩):=hqc
    have HDO:Hid (∀ u,BW w3 u→Calls prog 214 #[cv (A8 b.cs k),av ⟨kp,n2,n3⟩,.int .i64 b.today,.slice q.o b.off.length q.oc] u fun e w'=>∃ ao cap,e=.returned (.tuple #[cv (F.doC (A8 b.cs k) ⟨kp,n2,n3⟩ b.today b.off),.slice ao (F.doE (A8 b.cs k) ⟨kp,n2,n3⟩ b.today b.off).length cap,.int .i64 (F.doV (A8 b.cs k) ⟨kp,n2,n3⟩ b.today b.off)])∧w'.ownsRow u.heap.size 269 4 (.slice ao (F.doE (A8 b.cs k) ⟨kp,n2,n3⟩ b.today b.off).length cap) (F.doE (A8 b.cs k) ⟨kp,n2,n3⟩ b.today b.off).length (Ba (F.doE (A8 b.cs k) ⟨kp,n2,n3⟩ b.today b.off))∧BW u w'):=fun u h=>HKI.o.act _ _ b.today q.o q.oc b.off u (HK3.o.below h).at.off HPR.o.sm.1 (HKI.o.grow HE3.o h) (HPR.o.cc _ (Xg hk))
    have HEN:Hid _:=HKI.o.few (A8 b.cs k) ⟨kp,n2,n3⟩ b.today b.off;have HVB:Hid _:=HKI.o.code (A8 b.cs k) ⟨kp,n2,n3⟩ b.today b.off;have HCC:Hid (Qk (A8 b.cs k)):=HPR.o.cc _ (Xg hk)
    have hat:∀ j,j<12→(Aj b.cs)[k*12+j]?=(Xt (A8 b.cs k)).toList[j]?:=fun j hj=>E6 b.cs k j hk hj
    obtain ⟨C,hC⟩:∃ C,A8 b.cs k=C:=⟨_,rfl⟩;rw [hC] at HDO HN2 HN3 HY HEN HVB HCC hat;obtain ⟨D,hD⟩:∃ D,F.doC C ⟨kp,n2,n3⟩ b.today b.off=D:=⟨_,rfl⟩;obtain ⟨ES,hE⟩:∃ E,F.doE C ⟨kp,n2,n3⟩ b.today b.off=E:=⟨_,rfl⟩;obtain ⟨V,hV⟩:∃ V,F.doV C ⟨kp,n2,n3⟩ b.today b.off=V:=⟨_,rfl⟩;rw [hD] at HDO HY;rw [hE] at HDO HN3 HY HEN;rw [hV] at HDO HN2 HN3 HY HVB;clear hC hD hE hV;rw [hqc] at ho c6;obtain ⟨iY,aZ,uV,am,st,rJ,cl,bk,fW,cW,sS,dX⟩:=C
    have z0:w3.cell? ⟨cg,k*12,none⟩=some (.int .i64 iY):=by rw [ho.cellAt (k*12) (by omega)];exact hat 0 (by omega)
    have z1:w3.cell? ⟨cg,k*12+1,none⟩=some (.int .i64 aZ):=by rw [ho.cellAt (k*12+1) (by omega)];exact hat 1 (by omega)
    have z2:w3.cell? ⟨cg,k*12+2,none⟩=some (.int .i64 uV):=by rw [ho.cellAt (k*12+2) (by omega)];exact hat 2 (by omega)
    have z3:w3.cell? ⟨cg,k*12+3,none⟩=some (.int .i64 am):=by rw [ho.cellAt (k*12+3) (by omega)];exact hat 3 (by omega)
    have z4:w3.cell? ⟨cg,k*12+4,none⟩=some (.int .i64 st):=by rw [ho.cellAt (k*12+4) (by omega)];exact hat 4 (by omega)
    have z5:w3.cell? ⟨cg,k*12+5,none⟩=some (.int .i64 rJ):=by rw [ho.cellAt (k*12+5) (by omega)];exact hat 5 (by omega)
    have z6:w3.cell? ⟨cg,k*12+6,none⟩=some (.int .i64 cl):=by rw [ho.cellAt (k*12+6) (by omega)];exact hat 6 (by omega)
    have z7:w3.cell? ⟨cg,k*12+7,none⟩=some (.int .i64 bk):=by rw [ho.cellAt (k*12+7) (by omega)];exact hat 7 (by omega)
    have z8:w3.cell? ⟨cg,k*12+8,none⟩=some (.int .i64 fW):=by rw [ho.cellAt (k*12+8) (by omega)];exact hat 8 (by omega)
    have z9:w3.cell? ⟨cg,k*12+9,none⟩=some (.bool cW):=by rw [ho.cellAt (k*12+9) (by omega)];exact hat 9 (by omega)
    have z10:w3.cell? ⟨cg,k*12+10,none⟩=some (.int .i64 sS):=by rw [ho.cellAt (k*12+10) (by omega)];exact hat 10 (by omega)
    have z11:w3.cell? ⟨cg,k*12+11,none⟩=some (.int .i64 dX):=by rw [ho.cellAt (k*12+11) (by omega)];exact hat 11 (by omega)
    unfold cv av at HDO
    simp only at HDO
    have c3:=HK3.o.z.c3;have c4:=HK3.o.z.c4;clear hat ho;go_upto_region 10 with fail
    go_cut [11,12,13] (fun v11 v12 v13 wc=>∃ (Y:Nat) (ea:Option Addr) (ek:Nat),v11=.pointer (some ⟨Y,0,none⟩)∧v12=.slice ea ES.length ek∧v13=.int .i64 V∧CB Y 0 D wc∧C8 wc ea ES∧w3.heap.size≤Y∧BW w3 wc)
    case first =>
     have HSS:Hid (∀ u,BW w3 u→u.cell? ⟨K,3,none⟩=some (.int .i64 b.today)∧u.cell? ⟨K,4,none⟩=some (.slice q.o b.off.length q.oc)∧u.cell? ⟨K,6,none⟩=some (.slice (some ⟨cg,0,none⟩) b.cs.length q.cc)∧u.cell? ⟨X,0,none⟩=some (.int .i64 kp)∧u.cell? ⟨X,1,none⟩=some (.int .i64 n2)∧u.cell? ⟨X,2,none⟩=some (.int .i64 n3)∧u.cell? ⟨cg,k*12,none⟩=some (.int .i64 iY)∧u.cell? ⟨cg,k*12+1,none⟩=some (.int .i64 aZ)∧u.cell? ⟨cg,k*12+2,none⟩=some (.int .i64 uV)∧u.cell? ⟨cg,k*12+3,none⟩=some (.int .i64 am)∧u.cell? ⟨cg,k*12+4,none⟩=some (.int .i64 st)∧u.cell? ⟨cg,k*12+5,none⟩=some (.int .i64 rJ)∧u.cell? ⟨cg,k*12+6,none⟩=some (.int .i64 cl)∧u.cell? ⟨cg,k*12+7,none⟩=some (.int .i64 bk)∧u.cell? ⟨cg,k*12+8,none⟩=some (.int .i64 fW)∧u.cell? ⟨cg,k*12+9,none⟩=some (.bool cW)∧u.cell? ⟨cg,k*12+10,none⟩=some (.int .i64 sS)∧u.cell? ⟨cg,k*12+11,none⟩=some (.int .i64 dX)):=fun u h=>by
      have lK:=World.block_lt_of_cell? w3 _ c3;have lX:=World.block_lt_of_cell? w3 _ x0;have lC:=World.block_lt_of_cell? w3 _ z0;exact ⟨(h.cell (p:=⟨K,3,none⟩) lK).trans c3,(h.cell (p:=⟨K,4,none⟩) lK).trans c4,(h.cell (p:=⟨K,6,none⟩) lK).trans c6,(h.cell (p:=⟨X,0,none⟩) lX).trans x0,(h.cell (p:=⟨X,1,none⟩) lX).trans x1,(h.cell (p:=⟨X,2,none⟩) lX).trans x2,(h.cell (p:=⟨cg,k*12,none⟩) lC).trans z0,(h.cell (p:=⟨cg,k*12+1,none⟩) lC).trans z1,(h.cell (p:=⟨cg,k*12+2,none⟩) lC).trans z2,(h.cell (p:=⟨cg,k*12+3,none⟩) lC).trans z3,(h.cell (p:=⟨cg,k*12+4,none⟩) lC).trans z4,(h.cell (p:=⟨cg,k*12+5,none⟩) lC).trans z5,(h.cell (p:=⟨cg,k*12+6,none⟩) lC).trans z6,(h.cell (p:=⟨cg,k*12+7,none⟩) lC).trans z7,(h.cell (p:=⟨cg,k*12+8,none⟩) lC).trans z8,(h.cell (p:=⟨cg,k*12+9,none⟩) lC).trans z9,(h.cell (p:=⟨cg,k*12+10,none⟩) lC).trans z10,(h.cell (p:=⟨cg,k*12+11,none⟩) lC).trans z11⟩
     have k0:BW w3 w3:=bR;have HP1:Hid (BW w3 w3.drew):=bR.drew;have HP2:Hid (Below w3.heap.size w3 (w3.alloc (.cells #[.int .i64 0,.int .i64 0,.int .i64 0,.int .i64 0,.int .i64 0,.int .i64 0,.int .i64 0,.int .i64 0,.int .i64 0,.bool false,.int .i64 0,.int .i64 0] 61)).drew):=((Below.refl w3.heap.size w3).alloc nL _).drew;clear c3 c4 c6 x0 x1 x2 z0 z1 z2 z3 z4 z5 z6 z7 z8 z9 z10 z11
     go_region_held3 (fun u=>u.cell? ⟨K,3,none⟩=some (.int .i64 b.today)∧u.cell? ⟨K,4,none⟩=some (.slice q.o b.off.length q.oc)∧u.cell? ⟨K,6,none⟩=some (.slice (some ⟨cg,0,none⟩) b.cs.length q.cc)∧u.cell? ⟨X,0,none⟩=some (.int .i64 kp)∧u.cell? ⟨X,1,none⟩=some (.int .i64 n2)∧u.cell? ⟨X,2,none⟩=some (.int .i64 n3)∧u.cell? ⟨cg,k*12,none⟩=some (.int .i64 iY)∧u.cell? ⟨cg,k*12+1,none⟩=some (.int .i64 aZ)∧u.cell? ⟨cg,k*12+2,none⟩=some (.int .i64 uV)∧u.cell? ⟨cg,k*12+3,none⟩=some (.int .i64 am)∧u.cell? ⟨cg,k*12+4,none⟩=some (.int .i64 st)∧u.cell? ⟨cg,k*12+5,none⟩=some (.int .i64 rJ)∧u.cell? ⟨cg,k*12+6,none⟩=some (.int .i64 cl)∧u.cell? ⟨cg,k*12+7,none⟩=some (.int .i64 bk)∧u.cell? ⟨cg,k*12+8,none⟩=some (.int .i64 fW)∧u.cell? ⟨cg,k*12+9,none⟩=some (.bool cW)∧u.cell? ⟨cg,k*12+10,none⟩=some (.int .i64 sS)∧u.cell? ⟨cg,k*12+11,none⟩=some (.int .i64 dX)) (first | with_reducible exact HSS.o _ hb2 | with_reducible exact HSS.o _ k0 | with_reducible exact HSS.o _ k0.drew | with_reducible exact HSS.o _ (k0.alloc nL _) | with_reducible exact HSS.o _ ((k0.alloc nL _).drew) | with_reducible exact HSS.o _ (hb2.alloc hb2.size _) | exact HSS.o _ (Cp D hb2 nL)) ((first
      | (go_at_call 214;(with_reducible refine Calls.mono (HDO.o w3.drew HP1.o) ?_);rintro e u2 ⟨ea,ek,rfl,he,bb⟩;have hb2:BW w3 u2:=Below.trans ((Below.refl w3.heap.size w3).drew) bb)
      | (go_at_call 214;(with_reducible refine Calls.mono (HDO.o (w3.alloc (.cells #[.int .i64 0,.int .i64 0,.int .i64 0,.int .i64 0,.int .i64 0,.int .i64 0,.int .i64 0,.int .i64 0,.int .i64 0,.bool false,.int .i64 0,.int .i64 0] 61)).drew HP2.o) ?_);rintro e u2 ⟨ea,ek,rfl,he,bb⟩;obtain ⟨hcz,hfz,hbz⟩:=Qf bb;have HCZ:Hid _:=hcz;obtain ⟨g0,g1,g2,g3,g4,g5,g6,g7,g8,g9,g10,g11⟩:=hcz;obtain ⟨m0,m1,m2,m3,m4,m5,m6,m7,m8,m9,m10,m11⟩:=hfz;simp only [Nat.zero_add] at g0 g1 g2 g3 g4 g5 g6 g7 g8 g9 g10 g11 m0 m1 m2 m3 m4 m5 m6 m7 m8 m9 m10 m11;have hb2:BW w3 u2:=Below.trans ((Below.refl w3.heap.size w3).alloc nL (.cells #[.int .i64 0,.int .i64 0,.int .i64 0,.int .i64 0,.int .i64 0,.int .i64 0,.int .i64 0,.int .i64 0,.int .i64 0,.bool false,.int .i64 0,.int .i64 0] 61)) (hbz.mono (Nat.le_succ _)))))
     ·go_wp2_with fail
      go_meet;have h1:=hb2.alloc hb2.size (.cells #[.int .i64 D.iss,.int .i64 D.acq,.int .i64 D.cur,.int .i64 D.am,.int .i64 D.st,.int .i64 D.rsn,.int .i64 D.cl,.int .i64 D.bk,.int .i64 D.fee,.bool D.cop,.int .i64 D.sta,.int .i64 D.due] 61);exact ⟨u2.heap.size,ea,ek,rfl,rfl,rfl,CB.new u2 D _,Hk (he.alloc _),hb2.size,h1⟩
     ·go_wp2_with fail
      go_meet
      have hlt:w3.heap.size<(w3.alloc (.cells #[.int .i64 0,.int .i64 0,.int .i64 0,.int .i64 0,.int .i64 0,.int .i64 0,.int .i64 0,.int .i64 0,.int .i64 0,.bool false,.int .i64 0,.int .i64 0] 61)).drew.heap.size:=by simp
      exact ⟨w3.heap.size,ea,ek,rfl,rfl,rfl,Mb HCZ.o,Hk (N6 D he hlt),nL,Cp D hb2 nL⟩
    case rest =>
     obtain ⟨w4,hw4⟩:∃ x,x=wc:=⟨_,rfl⟩;subst hw4;obtain ⟨Y,ea,ek,rfl,rfl,rfl,hcy,hen,hy0,k4⟩:=hcut;have HK4:Hid (KS B K 1 b q w4):=HK3.o.below k4;have HB4:Hid (Ce B w w4):=HB3.o.trans (.of k4 HBW3.o);have HE4:Hid (E w4):=HKI.o.grow HE3.o k4
     have hYK:Y≠K:=by have:=HK3.o.z.lt;omega
     have HC4:Hid (CB Y 0 D w4):=hcy;have HN4:Hid (C8 w4 ea ES):=hen;have hvb:=HVB.o;clear c3 c4 c6 x0 x1 x2 z0 z1 z2 z3 z4 z5 z6 z7 z8 z9 z10 z11 hcy hen hy0 k4 HDO
     by_cases hv:V=0
     case neg =>
      have hne:(V != 0)=true:=by simpa using hv
      have hne2:(V == 0)=false:=by simpa using hv
      have hwr:IntKind.i64.wrap (10+V)=10+V:=by rw [IntKind.wrap_i64];omega
      obtain ⟨et,ea',hee⟩:=HKI.o.eAct w4 HE4.o
      have HYY:Hid (NF E (.iface et (.pointer (some ea')))):=⟨w4,9,HE4.o,by decide,hee⟩
      have HQ2:Hid (Hx F b [r0,r1,r2,r3]=(b,10+V)):=HQ.o.trans (HN2.o hv)
      have hnz:10+V≠0:=by omega
      clear HQ HN2 HN3 HY HEN HVB HCC HN4 HC4 hv;go_wp2;go_ret;rw [HQ2.o];exact Et HYY.o hnz HK4.o HB4.o
     have HN3b:Hid _:=HN3.o hv;have HYb:Hid _:=HY.o hv
     have hv0:(V != 0)=false:=by simpa using hv
     have HPO:Hid (Calls prog 211 #[.pointer (some ⟨K,2,none⟩),.slice ea ES.length ek] w4 (PsR B K F b q ES w4)):=K9 HKI.o b q ea ek ES w4 HK4.o HPR.o HN4.o HEN.o.1 (HEN.o.2 HCC.o HG2);clear HN2 HN3 HY HVB hvb hv;go_wp2_with fail
     refine Calls.mono HPO.o ?_;rintro e w5 ⟨rfl,⟨la,lc,k5⟩,p5,g5⟩;have HB5:Hid (Ce B w w5):=HB4.o.trans p5;have HE5:Hid (E w5):=HKI.o.keep _ _ HE0.o (HB5.o.b.mono HGB.o)
     have HC5:Hid (CB Y 0 D w5):=HC4.o.grown g5 (by simpa using hYK)
     have HSTY:Hid _:=HKI.o.stay b.ls ES;have HK5:Hid (KS B K 1 ⟨b.today,b.off,b.az,b.cs,F.all b.ls ES,b.log⟩ ⟨q.o,q.oc,q.a,q.ac,q.c,q.cc,la,lc,q.g,q.gc⟩ w5):=k5;obtain ⟨LL,hLL⟩:∃ L,F.all b.ls ES=L:=⟨_,rfl⟩;obtain ⟨ok,hok⟩:∃ L,F.allOk b.ls ES=L:=⟨_,rfl⟩;rw [hLL] at HK5 HSTY HYb;rw [hok] at HSTY HN3b HYb ⊢;clear p5 g5 k5 hLL hok HPO HEN
     cases ok
     ·obtain ⟨et,ea',hee⟩:=HKI.o.eMoney w5 HE5.o
      have HYY:Hid (NF E (.iface et (.pointer (some ea')))):=⟨w5,8,HE5.o,by decide,hee⟩
      have HQ2:Hid (Hx F b [r0,r1,r2,r3]=(b,6)):=HQ.o.trans (HN3b.o (by simp))
      have HKF:Hid (∃ q',KS B K 1 b q' w5):=by
       have h:=HK5.o
       rw [HSTY.o (by simp),iE] at h
       exact ⟨_,h⟩
      clear HQ HN3b HYb;go_wp2;go_ret;rw [HQ2.o];obtain ⟨q',hq'⟩:=HKF.o
      exact Et HYY.o (by decide) hq' HB5.o
     have HQ2:Hid (Hx F b [r0,r1,r2,r3]=(⟨b.today,b.off,b.az,b.cs.set k D,LL,b.log⟩,0)):=HQ.o.trans (HYb.o (by simp))
     have c6:=HK5.o.z.c6;have ho:=HK5.o.cs
     simp only [HQC.o] at c6 ho
     have HKF:Hid (KS B K 1 ⟨b.today,b.off,b.az,b.cs.set k D,LL,b.log⟩ ⟨q.o,q.oc,q.a,q.ac,q.c,q.cc,la,lc,q.g,q.gc⟩ (Gs w5 cg k D)):=HK5.o.putC HQC.o hk D
     have HBF:Hid (Ce B w (Gs w5 cg k D)):=HB5.o.grownO (v:=.slice q.c b.cs.length q.cc) (by rw [HQC.o];exact Om w5 cg k D) HK5.o.cs HK5.o.lt (.inl rfl)
     unfold Gs at HKF HBF
     have hat:∀ j,j<12→(Aj b.cs)[k*12+j]?=(Xt (A8 b.cs k)).toList[j]?:=fun j hj=>E6 b.cs k j hk hj
     have n0':w5.cell? ⟨cg,k*12,none⟩=some (.int .i64 (A8 b.cs k).iss):=by rw [ho.cellAt (k*12) (by omega)];exact hat 0 (by omega)
     have o0:w5.frozen? ⟨cg,k*12,none⟩=false:=ho.frozenAt _
     have n1':w5.cell? ⟨cg,k*12+1,none⟩=some (.int .i64 (A8 b.cs k).acq):=by rw [ho.cellAt (k*12+1) (by omega)];exact hat 1 (by omega)
     have o1:w5.frozen? ⟨cg,k*12+1,none⟩=false:=ho.frozenAt _
     have n2':w5.cell? ⟨cg,k*12+2,none⟩=some (.int .i64 (A8 b.cs k).cur):=by rw [ho.cellAt (k*12+2) (by omega)];exact hat 2 (by omega)
     have o2:w5.frozen? ⟨cg,k*12+2,none⟩=false:=ho.frozenAt _
     have n3':w5.cell? ⟨cg,k*12+3,none⟩=some (.int .i64 (A8 b.cs k).am):=by rw [ho.cellAt (k*12+3) (by omega)];exact hat 3 (by omega)
     have o3:w5.frozen? ⟨cg,k*12+3,none⟩=false:=ho.frozenAt _
     have n4':w5.cell? ⟨cg,k*12+4,none⟩=some (.int .i64 (A8 b.cs k).st):=by rw [ho.cellAt (k*12+4) (by omega)];exact hat 4 (by omega)
     have o4:w5.frozen? ⟨cg,k*12+4,none⟩=false:=ho.frozenAt _
     have n5':w5.cell? ⟨cg,k*12+5,none⟩=some (.int .i64 (A8 b.cs k).rsn):=by rw [ho.cellAt (k*12+5) (by omega)];exact hat 5 (by omega)
     have o5:w5.frozen? ⟨cg,k*12+5,none⟩=false:=ho.frozenAt _
     have n6':w5.cell? ⟨cg,k*12+6,none⟩=some (.int .i64 (A8 b.cs k).cl):=by rw [ho.cellAt (k*12+6) (by omega)];exact hat 6 (by omega)
     have o6:w5.frozen? ⟨cg,k*12+6,none⟩=false:=ho.frozenAt _
     have n7':w5.cell? ⟨cg,k*12+7,none⟩=some (.int .i64 (A8 b.cs k).bk):=by rw [ho.cellAt (k*12+7) (by omega)];exact hat 7 (by omega)
     have o7:w5.frozen? ⟨cg,k*12+7,none⟩=false:=ho.frozenAt _
     have n8':w5.cell? ⟨cg,k*12+8,none⟩=some (.int .i64 (A8 b.cs k).fee):=by rw [ho.cellAt (k*12+8) (by omega)];exact hat 8 (by omega)
     have o8:w5.frozen? ⟨cg,k*12+8,none⟩=false:=ho.frozenAt _
     have n9':w5.cell? ⟨cg,k*12+9,none⟩=some (.bool (A8 b.cs k).cop):=by rw [ho.cellAt (k*12+9) (by omega)];exact hat 9 (by omega)
     have o9:w5.frozen? ⟨cg,k*12+9,none⟩=false:=ho.frozenAt _
     have n10':w5.cell? ⟨cg,k*12+10,none⟩=some (.int .i64 (A8 b.cs k).sta):=by rw [ho.cellAt (k*12+10) (by omega)];exact hat 10 (by omega)
     have o10:w5.frozen? ⟨cg,k*12+10,none⟩=false:=ho.frozenAt _
     have n11':w5.cell? ⟨cg,k*12+11,none⟩=some (.int .i64 (A8 b.cs k).due):=by rw [ho.cellAt (k*12+11) (by omega)];exact hat 11 (by omega)
     have o11:w5.frozen? ⟨cg,k*12+11,none⟩=false:=ho.frozenAt _;obtain ⟨d0,d1,d2,d3,d4,d5,d6,d7,d8,d9,d10,d11⟩:=HC5.o
     simp only [Nat.zero_add] at d0 d1 d2 d3 d4 d5 d6 d7 d8 d9 d10 d11
     clear HQ HN3b HYb hat ho HSTY;go_upto_region 15 with fail
     go_region
     all_goals
      go_wp2;go_ret;rw [HQ2.o];exact Uv HKF.o.drew HBF.o.drew
 ·have HR:Hid (Hx F b rs=(b,1)):=if_neg (fun e=>hl4 e.1)
  obtain ⟨et,ea,hee⟩:=KI.eLine w hE
  have HYY:Hid (NF E (.iface et (.pointer (some ea)))):=⟨w,3,hE,by decide,hee⟩
  rw [HR.o];obtain ⟨n,hnl⟩:∃ n,rs.length=n:=⟨_,rfl⟩;rw [hnl] at hl4 ⊢
  have hl5:((n:Int) != 4)=true:=by
   have:¬ (n:Int)=4:=by omega
   simpa using this
  have hl6:((n:Int) == 4)=false:=by
   have:¬ (n:Int)=4:=by omega
   simpa using this
  clear HR hl4 hd hz hk hE hP KI hnl
  go_enter func175,ntmps175
  go_wp2;go_ret
  exact Et HYY.o (by decide) HK0.o HBR.o
end Go.Proofs.YtomiclakhjncbaaGreatDoor.Kb
