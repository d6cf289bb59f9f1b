import Derived.Test.YtomiclakhjncbaaGreatDoorKAKbPay
import Derived.Test.YtomiclakhjncbaaGreatDoorJA6a
namespace Go.Proofs.YtomiclakhjncbaaGreatDoor.Kb
open Go.RowKit
set_option maxRecDepth 100000
set_option maxHeartbeats 12800000
theorem iAct_any {F:Fns} {E:World→Prop} {G B K:Nat} (KI:KnI F E G) (hGB:G≤B) (b:Bk) (q:Bp) (ao:Option Addr) (cap:Nat) (rs:Recs) (w:World) (hk:KS B K 1 b q w) (hE:E w) (hP:PreI b) (hz:TxtsAt w ao rs) (hd:∀ r ∈ rs,r.length≤1048576) :
  Calls Tryz.prog 175 #[.pointer (some ⟨K,0,none⟩),.slice ao rs.length cap] w (StR B K w (actR F b rs)):=by
 have HB0:Hid (B≤w.heap.size):=hk.lt
 have HK0:Hid (KS B K 1 b q w):=hk
 have HE0:Hid (E w):=hE
 have HPR:Hid (PreI b):=hP
 have HKI:Hid (KnI F E G):=KI
 have HGB:Hid (G≤B):=hGB
 have HBR:Hid (Below B w w):=Below.refl _ _
 by_cases hl4:rs.length=4
 ·obtain ⟨r0,r1,r2,r3,hrs⟩:=four hl4
  have d0:=hd r0 (by rw [hrs];simp)
  have d2:=hd r2 (by rw [hrs];simp)
  have d3:=hd r3 (by rw [hrs];simp)
  rw [hrs] at hz
  obtain ⟨g,off,rfl,hg,t0,t1,t2,t3⟩:=txts4 hz
  rw [hrs]
  clear hd hz hl4 hk hE hP KI hGB hrs
  have HKD:Hid (Calls Tryz.prog 213 #[.string ⟨r1.toArray⟩] w fun e w'=>e=.returned (.tuple #[.int .i64 (kindP r1),.bool (decide (0≤kindW r1))])∧Below w.heap.size w w'):=iKind_any HKI.out r1 w HE0.out
  have hkb:=kindW_bd r1
  have HAR:Hid (actR F b [r0,r1,r2,r3]=if 0≤kindW r1∧numsOk [r0,r2,r3]=true then actB F b (numW r0) ⟨kindW r1,numW r2,numW r3⟩ else (b,1)):=by
   rw [Hid,actR]
   by_cases h:0≤kindW r1∧numsOk [r0,r2,r3]=true
   ·rw [if_pos ⟨rfl,h.1,h.2⟩,if_pos h];rfl
   ·rw [if_neg (fun e=>h ⟨e.2.1,e.2.2⟩),if_neg h]
  have HKP:Hid (0≤kindW r1→kindP r1=kindW r1):=fun h=>if_pos h
  obtain ⟨kp,hkp⟩:∃ x,kindP r1=x:=⟨_,rfl⟩
  rw [hkp] at HKD HKP
  have HKN:Hid (decide (0≤kindW r1)=true ↔ 0≤kindW r1):=decide_eq_true_iff
  obtain ⟨kn,hkn⟩:∃ x,decide (0≤kindW r1)=x:=⟨_,rfl⟩
  rw [hkn] at HKD HKN
  obtain ⟨ok,hok⟩:∃ x,numsOk [r0,r2,r3]=x:=⟨_,rfl⟩
  have HOK:Hid (numsOk [r0,r2,r3]=ok):=hok
  have HLV:Hid (ok=true→numsV [r0,r2,r3]=[numW r0,numW r2,numW r3]∧N18 (numW r0)∧N18 (numW r2)∧N18 (numW r3)):=fun h=>by
   have h':numsOk [r0,r2,r3]=true:=hok.trans h
   have hg:∀ r ∈ [r0,r2,r3],N18 (numW r):=fun r hr=>⟨by simpa using List.all_eq_true.1 h' r hr,(numW_bd r).2⟩
   exact ⟨if_pos h',hg r0 (by simp),hg r2 (by simp),hg r3 (by simp)⟩
  obtain ⟨L,hL⟩:∃ x,numsV [r0,r2,r3]=x:=⟨_,rfl⟩
  rw [hL] at HLV
  have HLL:Hid (numsV [r0,r2,r3]=L):=hL
  clear hkp hkn hok hL
  go_enter Tryz.func175,Tryz.ntmps175
  go_wp2_with fail
  refine Calls.mono HKD.out ?_
  rintro e w1 ⟨rfl,p1⟩
  have HK1:Hid (KS B K 1 b q w1):=HK0.out.below p1
  have HB1:Hid (Below B w w1):=p1.mono HB0.out
  have HE1:Hid (E w1):=HKI.out.grow HE0.out p1
  have HBW1:Hid (B≤w1.heap.size):=HK1.out.lt
  have s0:w1.cell? ⟨g,off,none⟩=some (.string ⟨r0.toArray⟩):=(p1.cell (p:=⟨g,off,none⟩) hg).trans t0
  have s2:w1.cell? ⟨g,off+2,none⟩=some (.string ⟨r2.toArray⟩):=(p1.cell (p:=⟨g,off+2,none⟩) hg).trans t2
  have s3:w1.cell? ⟨g,off+3,none⟩=some (.string ⟨r3.toArray⟩):=(p1.cell (p:=⟨g,off+3,none⟩) hg).trans t3
  clear p1 t0 t1 t2 t3 HKD hg
  have HNS:Hid (∀ u,Below w1.heap.size w1 u→u.cell? ⟨w1.heap.size,0,none⟩=some (.string ⟨r0.toArray⟩)→u.cell? ⟨w1.heap.size,1,none⟩=some (.string ⟨r2.toArray⟩)→u.cell? ⟨w1.heap.size,2,none⟩=some (.string ⟨r3.toArray⟩)→Calls Tryz.prog 206 #[.slice (some ⟨w1.heap.size,0,none⟩) 3 3] u fun e w'=>∃ a k,e=.returned (.tuple #[.slice a (numsV [r0,r2,r3]).length k,.bool (numsOk [r0,r2,r3])])∧w'.ownsRow u.heap.size 3 1 (.slice a (numsV [r0,r2,r3]).length k) (numsV [r0,r2,r3]).length ((numsV [r0,r2,r3]).map (Value.int .i64))∧Below u.heap.size u w'):=fun u h c0 c1 c2 =>
   iNums_any HKI.out (some ⟨w1.heap.size,0,none⟩) 3 [r0,r2,r3] u (txts3 (World.block_lt_of_cell? u _ c0) c0 c1 c2) (by simp) (by
    intro r hr
    simp at hr
    rcases hr with rfl | rfl | rfl <;> assumption) (HKI.out.grow HE1.out h)
  rw [HLL.out,HOK.out] at HNS
  go_upto_region 4 with fail
  go_cut [7,8] (fun va vo wz=>∃ a k m,va=.slice a L.length k∧vo=.bool ok∧wz.ownsRow m 3 1 (.slice a L.length k) L.length (L.map (Value.int .i64))∧Below w1.heap.size w1 wz)
  case first =>
   go_region_law (first
    | (go_simp;go_at_call 206;(first | refine Calls.mono (HNS.out _ (by go_grown) (by simp) (by simp) (by simp)) ?_);rintro e w2 ⟨a,k,rfl,o2,p2⟩;have k2:Below w1.heap.size w1 w2:=next (by go_grown) p2;have HO2:Hid _:=o2;clear o2 p2)
    | fail)
   all_goals
    go_wp2_with fail
    go_meet
    exact ⟨_,_,_,rfl,rfl,HO2.out,k2⟩
  case rest =>
   obtain ⟨w2,hw2⟩:∃ x,x=wc:=⟨_,rfl⟩
   subst hw2
   obtain ⟨a,k,m,rfl,rfl,o2,k2⟩:=hcut
   have HK2:Hid (KS B K 1 b q w2):=HK1.out.below k2
   have HB2:Hid (Below B w w2):=HB1.out.trans (k2.mono HBW1.out)
   have HE2:Hid (E w2):=HKI.out.grow HE1.out k2
   have HBW2:Hid (B≤w2.heap.size):=HK2.out.lt
   clear k2 s0 s2 s3 HNS
   cases kn
   ·obtain ⟨et,ea,hee⟩:=HKI.out.eLine w2 HE2.out
    have HQ:Hid (actR F b [r0,r1,r2,r3]=(b,1)):=by
     rw [Hid,HAR.out,if_neg]
     exact fun e=>by have:=HKN.out.2 e.1;cases this
    clear HAR HKN HLV o2
    go_wp2
    go_ret
    rw [HQ.out]
    exact st_no (by decide) HK2.out HB2.out
   cases ok
   ·obtain ⟨et,ea,hee⟩:=HKI.out.eLine w2 HE2.out
    have HQ:Hid (actR F b [r0,r1,r2,r3]=(b,1)):=by
     rw [Hid,HAR.out,if_neg]
     exact fun e=>by rw [HOK.out] at e;cases e.2
    clear HAR HKN HLV o2
    go_wp2
    go_ret
    rw [HQ.out]
    exact st_no (by decide) HK2.out HB2.out
   obtain ⟨hLL,HG0,HG2,HG3⟩:=HLV.out (by simp)
   have hk0:0≤kindW r1:=HKN.out.1 (by simp)
   have hkp:kp=kindW r1:=HKP.out hk0
   have HQ:Hid (actR F b [r0,r1,r2,r3]=actB F b (numW r0) ⟨kp,numW r2,numW r3⟩):=by
    rw [Hid,HAR.out,if_pos ⟨hk0,HOK.out⟩,hkp]
   have hkp0:0≤kp:=by omega
   have hkp9:kp<10:=by omega
   obtain ⟨n0,e0⟩:∃ n,numW r0=n:=⟨_,rfl⟩
   obtain ⟨n2,e2⟩:∃ n,numW r2=n:=⟨_,rfl⟩
   obtain ⟨n3,e3⟩:∃ n,numW r3=n:=⟨_,rfl⟩
   rw [e0] at HG0 hLL HQ
   rw [e2] at HG2 hLL HQ
   rw [e3] at HG3 hLL HQ
   rw [hLL] at o2 ⊢
   simp only [List.length_cons,List.length_nil,List.map_cons,List.map_nil] at o2 ⊢
   obtain ⟨gn,rfl,-,-⟩:=row_block o2 (by omega)
   have m0:w2.cell? ⟨gn,0,none⟩=some (.int .i64 n0):=by simpa using o2.cellAt 0 (by omega)
   have m1:w2.cell? ⟨gn,1,none⟩=some (.int .i64 n2):=by simpa using o2.cellAt 1 (by omega)
   have m2:w2.cell? ⟨gn,2,none⟩=some (.int .i64 n3):=by simpa using o2.cellAt 2 (by omega)
   clear hLL e0 e2 e3 hkp hk0 hkb o2 HAR HKN HLV HKP HLL HOK
   have l0:=World.block_lt_of_cell? w2 _ m0
   have a0:=fun o=>(((Below.refl w2.heap.size w2).alloc (Nat.le_refl _) o).cell (p:=⟨gn,0,none⟩) l0).trans m0
   have a1:=fun o=>(((Below.refl w2.heap.size w2).alloc (Nat.le_refl _) o).cell (p:=⟨gn,1,none⟩) l0).trans m1
   have a2:=fun o=>(((Below.refl w2.heap.size w2).alloc (Nat.le_refl _) o).cell (p:=⟨gn,2,none⟩) l0).trans m2
   go_upto_region 7 with fail
   go_cut [9,10] (fun v9 v10 wz=>v9=.int .i64 n0∧∃ X,v10=.pointer (some ⟨X,0,none⟩)∧w2.heap.size≤X∧wz.cell? ⟨X,0,none⟩=some (.int .i64 kp)∧wz.cell? ⟨X,1,none⟩=some (.int .i64 n2)∧wz.cell? ⟨X,2,none⟩=some (.int .i64 n3)∧Below w2.heap.size w2 wz)
   case first =>
    go_region
    all_goals
     go_wp2_with fail
     go_meet
     exact ⟨rfl,w2.heap.size,rfl,Nat.le_refl _,by simp [go_sem],by simp [go_sem],by simp [go_sem],by go_grown⟩
   case rest =>
    obtain ⟨w3,hw3⟩:∃ x,x=wc:=⟨_,rfl⟩
    subst hw3
    obtain ⟨rfl,X,rfl,hX0,x0,x1,x2,k3⟩:=hcut
    have HK3:Hid (KS B K 1 b q w3):=HK2.out.below k3
    have HB3:Hid (Below B w w3):=HB2.out.trans (k3.mono HBW2.out)
    have HE3:Hid (E w3):=HKI.out.grow HE2.out k3
    have HBW3:Hid (B≤w3.heap.size):=HK3.out.lt
    clear k3 m0 m1 m2 a0 a1 a2 l0 hX0
    have c6:=HK3.out.z.c6
    have hcm:b.cs.length≤1048576:=HPR.out.sm.2.2.1
    by_cases hcs:(b.cs.length:Int)≤n0
    ·obtain ⟨et,ea,hee⟩:=HKI.out.eCase w3 HE3.out
     have HQ2:Hid (actR F b [r0,r1,r2,r3]=(b,5)):=HQ.out.trans (act_no1 F _ (by omega))
     clear HQ HG0 HG2 HG3
     go_wp2
     go_ret
     rw [HQ2.out]
     exact st_no (by decide) HK3.out HB3.out
    have hi:0≤n0∧n0≤(b.cs.length:Int) - 1:=⟨HG0.1,by omega⟩
    have HN2:Hid _:=@act_no2 F b n0 ⟨kp,n2,n3⟩ hi
    have HN3:Hid _:=@act_no3 F b n0 ⟨kp,n2,n3⟩ hi
    have HY:Hid _:=@act_yes F b n0 ⟨kp,n2,n3⟩ hi
    obtain ⟨k,rfl⟩:=Int.eq_ofNat_of_zero_le hi.1
    simp only [Int.toNat_natCast] at HN2 HN3 HY
    have hk:k<b.cs.length:=by omega
    have hki:¬ (b.cs.length:Int)≤(k:Int):=by omega
    have hkl:(k:Int)<(b.cs.length:Int):=by omega
    clear hi hcs
    have ho:=HK3.out.cs
    obtain ⟨cg,hqc,hcg,hcl⟩:=row_block ho (by omega)
    have HQC:Hid (q.c=some ⟨cg,0,none⟩):=hqc
    have HDO:Hid (∀ u,Below w3.heap.size w3 u→Calls Tryz.prog 214 #[cv (csAt b.cs k),av ⟨kp,n2,n3⟩,.int .i64 b.today,.slice q.o b.off.length q.oc] u fun e w'=>∃ ao cap,e=.returned (.tuple #[cv (F.doC (csAt b.cs k) ⟨kp,n2,n3⟩ b.today b.off),.slice ao (F.doE (csAt b.cs k) ⟨kp,n2,n3⟩ b.today b.off).length cap,.int .i64 (F.doV (csAt b.cs k) ⟨kp,n2,n3⟩ b.today b.off)])∧w'.ownsRow u.heap.size 269 4 (.slice ao (F.doE (csAt b.cs k) ⟨kp,n2,n3⟩ b.today b.off).length cap) (F.doE (csAt b.cs k) ⟨kp,n2,n3⟩ b.today b.off).length (ecells (F.doE (csAt b.cs k) ⟨kp,n2,n3⟩ b.today b.off))∧Below u.heap.size u w'):=fun u h=>HKI.out.act _ _ b.today q.o q.oc b.off u (HK3.out.below h).at.off HPR.out.sm.1 (HKI.out.grow HE3.out h) (HPR.out.cc _ (csAt_mem hk))
    have HEN:Hid _:=HKI.out.few (csAt b.cs k) ⟨kp,n2,n3⟩ b.today b.off
    have HVB:Hid _:=HKI.out.code (csAt b.cs k) ⟨kp,n2,n3⟩ b.today b.off
    have HCC:Hid (csBd (csAt b.cs k)):=HPR.out.cc _ (csAt_mem hk)
    have hat:∀ j,j<12→(cscells b.cs)[k*12+j]?=(ccs (csAt b.cs k)).toList[j]?:=fun j hj=>cscells_at b.cs k j hk hj
    obtain ⟨C,hC⟩:∃ C,csAt b.cs k=C:=⟨_,rfl⟩
    rw [hC] at HDO HN2 HN3 HY HEN HVB HCC hat
    obtain ⟨D,hD⟩:∃ D,F.doC C ⟨kp,n2,n3⟩ b.today b.off=D:=⟨_,rfl⟩
    obtain ⟨ES,hE⟩:∃ E,F.doE C ⟨kp,n2,n3⟩ b.today b.off=E:=⟨_,rfl⟩
    obtain ⟨V,hV⟩:∃ V,F.doV C ⟨kp,n2,n3⟩ b.today b.off=V:=⟨_,rfl⟩
    rw [hD] at HDO HY
    rw [hE] at HDO HN3 HY HEN
    rw [hV] at HDO HN2 HN3 HY HVB
    clear hC hD hE hV
    rw [hqc] at ho c6
    obtain ⟨iss,acq,cur,am,st,rsn,cl,bk,fee,cop,sta,due⟩:=C
    have z0:w3.cell? ⟨cg,k*12,none⟩=some (.int .i64 iss):=by rw [ho.cellAt (k*12) (by omega)];exact hat 0 (by omega)
    have z1:w3.cell? ⟨cg,k*12+1,none⟩=some (.int .i64 acq):=by rw [ho.cellAt (k*12+1) (by omega)];exact hat 1 (by omega)
    have z2:w3.cell? ⟨cg,k*12+2,none⟩=some (.int .i64 cur):=by rw [ho.cellAt (k*12+2) (by omega)];exact hat 2 (by omega)
    have z3:w3.cell? ⟨cg,k*12+3,none⟩=some (.int .i64 am):=by rw [ho.cellAt (k*12+3) (by omega)];exact hat 3 (by omega)
    have z4:w3.cell? ⟨cg,k*12+4,none⟩=some (.int .i64 st):=by rw [ho.cellAt (k*12+4) (by omega)];exact hat 4 (by omega)
    have z5:w3.cell? ⟨cg,k*12+5,none⟩=some (.int .i64 rsn):=by rw [ho.cellAt (k*12+5) (by omega)];exact hat 5 (by omega)
    have z6:w3.cell? ⟨cg,k*12+6,none⟩=some (.int .i64 cl):=by rw [ho.cellAt (k*12+6) (by omega)];exact hat 6 (by omega)
    have z7:w3.cell? ⟨cg,k*12+7,none⟩=some (.int .i64 bk):=by rw [ho.cellAt (k*12+7) (by omega)];exact hat 7 (by omega)
    have z8:w3.cell? ⟨cg,k*12+8,none⟩=some (.int .i64 fee):=by rw [ho.cellAt (k*12+8) (by omega)];exact hat 8 (by omega)
    have z9:w3.cell? ⟨cg,k*12+9,none⟩=some (.bool cop):=by rw [ho.cellAt (k*12+9) (by omega)];exact hat 9 (by omega)
    have z10:w3.cell? ⟨cg,k*12+10,none⟩=some (.int .i64 sta):=by rw [ho.cellAt (k*12+10) (by omega)];exact hat 10 (by omega)
    have z11:w3.cell? ⟨cg,k*12+11,none⟩=some (.int .i64 due):=by rw [ho.cellAt (k*12+11) (by omega)];exact hat 11 (by omega)
    unfold cv av at HDO
    simp only at HDO
    have c3:=HK3.out.z.c3
    have c4:=HK3.out.z.c4
    clear hat ho
    go_upto_region 10 with fail
    go_cut [11,12,13] (fun v11 v12 v13 wc=>∃ (Y:Nat) (ea:Option Addr) (ek:Nat),v11=.pointer (some ⟨Y,0,none⟩)∧v12=.slice ea ES.length ek∧v13=.int .i64 V∧CB Y 0 D wc∧EntsAt wc ea ES∧w3.heap.size≤Y∧Below w3.heap.size w3 wc)
    case first =>
     have HSS:Hid (∀ u,Below w3.heap.size w3 u→u.cell? ⟨K,3,none⟩=some (.int .i64 b.today)∧u.cell? ⟨K,4,none⟩=some (.slice q.o b.off.length q.oc)∧u.cell? ⟨K,6,none⟩=some (.slice (some ⟨cg,0,none⟩) b.cs.length q.cc)∧u.cell? ⟨X,0,none⟩=some (.int .i64 kp)∧u.cell? ⟨X,1,none⟩=some (.int .i64 n2)∧u.cell? ⟨X,2,none⟩=some (.int .i64 n3)∧u.cell? ⟨cg,k*12,none⟩=some (.int .i64 iss)∧u.cell? ⟨cg,k*12+1,none⟩=some (.int .i64 acq)∧u.cell? ⟨cg,k*12+2,none⟩=some (.int .i64 cur)∧u.cell? ⟨cg,k*12+3,none⟩=some (.int .i64 am)∧u.cell? ⟨cg,k*12+4,none⟩=some (.int .i64 st)∧u.cell? ⟨cg,k*12+5,none⟩=some (.int .i64 rsn)∧u.cell? ⟨cg,k*12+6,none⟩=some (.int .i64 cl)∧u.cell? ⟨cg,k*12+7,none⟩=some (.int .i64 bk)∧u.cell? ⟨cg,k*12+8,none⟩=some (.int .i64 fee)∧u.cell? ⟨cg,k*12+9,none⟩=some (.bool cop)∧u.cell? ⟨cg,k*12+10,none⟩=some (.int .i64 sta)∧u.cell? ⟨cg,k*12+11,none⟩=some (.int .i64 due)):=fun u h=>by
      have lK:=World.block_lt_of_cell? w3 _ c3
      have lX:=World.block_lt_of_cell? w3 _ x0
      have lC:=World.block_lt_of_cell? w3 _ z0
      exact ⟨(h.cell (p:=⟨K,3,none⟩) lK).trans c3,(h.cell (p:=⟨K,4,none⟩) lK).trans c4,(h.cell (p:=⟨K,6,none⟩) lK).trans c6,(h.cell (p:=⟨X,0,none⟩) lX).trans x0,(h.cell (p:=⟨X,1,none⟩) lX).trans x1,(h.cell (p:=⟨X,2,none⟩) lX).trans x2,(h.cell (p:=⟨cg,k*12,none⟩) lC).trans z0,(h.cell (p:=⟨cg,k*12+1,none⟩) lC).trans z1,(h.cell (p:=⟨cg,k*12+2,none⟩) lC).trans z2,(h.cell (p:=⟨cg,k*12+3,none⟩) lC).trans z3,(h.cell (p:=⟨cg,k*12+4,none⟩) lC).trans z4,(h.cell (p:=⟨cg,k*12+5,none⟩) lC).trans z5,(h.cell (p:=⟨cg,k*12+6,none⟩) lC).trans z6,(h.cell (p:=⟨cg,k*12+7,none⟩) lC).trans z7,(h.cell (p:=⟨cg,k*12+8,none⟩) lC).trans z8,(h.cell (p:=⟨cg,k*12+9,none⟩) lC).trans z9,(h.cell (p:=⟨cg,k*12+10,none⟩) lC).trans z10,(h.cell (p:=⟨cg,k*12+11,none⟩) lC).trans z11⟩
     have k0:Below w3.heap.size w3 w3:=Below.refl _ _
     have HP1:Hid (Below w3.heap.size w3 w3.drew):=(Below.refl _ _).drew
     have HP2:Hid (Below w3.heap.size w3 (w3.alloc (.cells #[.int .i64 0,.int .i64 0,.int .i64 0,.int .i64 0,.int .i64 0,.int .i64 0,.int .i64 0,.int .i64 0,.int .i64 0,.bool false,.int .i64 0,.int .i64 0] 61)).drew):=((Below.refl w3.heap.size w3).alloc (Nat.le_refl _) _).drew
     clear c3 c4 c6 x0 x1 x2 z0 z1 z2 z3 z4 z5 z6 z7 z8 z9 z10 z11
     go_region_held3 (fun u=>u.cell? ⟨K,3,none⟩=some (.int .i64 b.today)∧u.cell? ⟨K,4,none⟩=some (.slice q.o b.off.length q.oc)∧u.cell? ⟨K,6,none⟩=some (.slice (some ⟨cg,0,none⟩) b.cs.length q.cc)∧u.cell? ⟨X,0,none⟩=some (.int .i64 kp)∧u.cell? ⟨X,1,none⟩=some (.int .i64 n2)∧u.cell? ⟨X,2,none⟩=some (.int .i64 n3)∧u.cell? ⟨cg,k*12,none⟩=some (.int .i64 iss)∧u.cell? ⟨cg,k*12+1,none⟩=some (.int .i64 acq)∧u.cell? ⟨cg,k*12+2,none⟩=some (.int .i64 cur)∧u.cell? ⟨cg,k*12+3,none⟩=some (.int .i64 am)∧u.cell? ⟨cg,k*12+4,none⟩=some (.int .i64 st)∧u.cell? ⟨cg,k*12+5,none⟩=some (.int .i64 rsn)∧u.cell? ⟨cg,k*12+6,none⟩=some (.int .i64 cl)∧u.cell? ⟨cg,k*12+7,none⟩=some (.int .i64 bk)∧u.cell? ⟨cg,k*12+8,none⟩=some (.int .i64 fee)∧u.cell? ⟨cg,k*12+9,none⟩=some (.bool cop)∧u.cell? ⟨cg,k*12+10,none⟩=some (.int .i64 sta)∧u.cell? ⟨cg,k*12+11,none⟩=some (.int .i64 due)) (first | with_reducible exact HSS.out _ hb2 | with_reducible exact HSS.out _ k0 | with_reducible exact HSS.out _ k0.drew | with_reducible exact HSS.out _ (k0.alloc (Nat.le_refl _) _) | with_reducible exact HSS.out _ ((k0.alloc (Nat.le_refl _) _).drew) | with_reducible exact HSS.out _ (hb2.alloc hb2.size _) | exact HSS.out _ (put12_below D hb2 (Nat.le_refl _))) ((first
      | (go_at_call 214;(with_reducible refine Calls.mono (HDO.out w3.drew HP1.out) ?_);rintro e u2 ⟨ea,ek,rfl,he,bb⟩;have hb2:Below w3.heap.size w3 u2:=Below.trans ((Below.refl w3.heap.size w3).drew) bb)
      | (go_at_call 214;(with_reducible refine Calls.mono (HDO.out (w3.alloc (.cells #[.int .i64 0,.int .i64 0,.int .i64 0,.int .i64 0,.int .i64 0,.int .i64 0,.int .i64 0,.int .i64 0,.int .i64 0,.bool false,.int .i64 0,.int .i64 0] 61)).drew HP2.out) ?_);rintro e u2 ⟨ea,ek,rfl,he,bb⟩;obtain ⟨hcz,hfz,hbz⟩:=box_kept bb;have HCZ:Hid _:=hcz;obtain ⟨g0,g1,g2,g3,g4,g5,g6,g7,g8,g9,g10,g11⟩:=hcz;obtain ⟨m0,m1,m2,m3,m4,m5,m6,m7,m8,m9,m10,m11⟩:=hfz;simp only [Nat.zero_add] at g0 g1 g2 g3 g4 g5 g6 g7 g8 g9 g10 g11 m0 m1 m2 m3 m4 m5 m6 m7 m8 m9 m10 m11;have hb2:Below w3.heap.size w3 u2:=Below.trans ((Below.refl w3.heap.size w3).alloc (Nat.le_refl _) (.cells #[.int .i64 0,.int .i64 0,.int .i64 0,.int .i64 0,.int .i64 0,.int .i64 0,.int .i64 0,.int .i64 0,.int .i64 0,.bool false,.int .i64 0,.int .i64 0] 61)) (hbz.mono (Nat.le_succ _)))))
     ·go_wp2_with fail
      go_meet
      have h1:=hb2.alloc hb2.size (.cells #[.int .i64 D.iss,.int .i64 D.acq,.int .i64 D.cur,.int .i64 D.am,.int .i64 D.st,.int .i64 D.rsn,.int .i64 D.cl,.int .i64 D.bk,.int .i64 D.fee,.bool D.cop,.int .i64 D.sta,.int .i64 D.due] 61)
      exact ⟨u2.heap.size,ea,ek,rfl,rfl,rfl,CB.new u2 D _,ents_any (he.alloc _),hb2.size,h1⟩
     ·go_wp2_with fail
      go_meet
      have hlt:w3.heap.size<(w3.alloc (.cells #[.int .i64 0,.int .i64 0,.int .i64 0,.int .i64 0,.int .i64 0,.int .i64 0,.int .i64 0,.int .i64 0,.int .i64 0,.bool false,.int .i64 0,.int .i64 0] 61)).drew.heap.size:=by simp
      exact ⟨w3.heap.size,ea,ek,rfl,rfl,rfl,put12_cb HCZ.out,ents_any (row_put12 D he hlt),Nat.le_refl _,put12_below D hb2 (Nat.le_refl _)⟩
    case rest =>
     obtain ⟨w4,hw4⟩:∃ x,x=wc:=⟨_,rfl⟩
     subst hw4
     obtain ⟨Y,ea,ek,rfl,rfl,rfl,hcy,hen,hy0,k4⟩:=hcut
     have HK4:Hid (KS B K 1 b q w4):=HK3.out.below k4
     have HB4:Hid (Below B w w4):=HB3.out.trans (k4.mono HBW3.out)
     have HE4:Hid (E w4):=HKI.out.grow HE3.out k4
     have hYK:Y≠K:=by have:=HK3.out.z.lt;omega
     have HC4:Hid (CB Y 0 D w4):=hcy
     have HN4:Hid (EntsAt w4 ea ES):=hen
     have hvb:=HVB.out
     clear c3 c4 c6 x0 x1 x2 z0 z1 z2 z3 z4 z5 z6 z7 z8 z9 z10 z11 hcy hen hy0 k4 HDO
     by_cases hv:V=0
     case neg =>
      have hne:(V != 0)=true:=by simpa using hv
      have hne2:(V == 0)=false:=by simpa using hv
      have hwr:IntKind.i64.wrap (10+V)=10+V:=by rw [IntKind.wrap_i64];omega
      obtain ⟨et,ea',hee⟩:=HKI.out.eAct w4 HE4.out
      have HQ2:Hid (actR F b [r0,r1,r2,r3]=(b,10+V)):=HQ.out.trans (HN2.out hv)
      have hnz:10+V≠0:=by omega
      clear HQ HN2 HN3 HY HEN HVB HCC HN4 HC4 hv
      go_wp2
      go_ret
      rw [HQ2.out]
      exact st_no hnz HK4.out HB4.out
     have HN3b:Hid _:=HN3.out hv
     have HYb:Hid _:=HY.out hv
     have hv0:(V != 0)=false:=by simpa using hv
     have HPO:Hid (Calls Tryz.prog 211 #[.pointer (some ⟨K,2,none⟩),.slice ea ES.length ek] w4 (PsR B K F b q ES w4)):=iPost_any HKI.out b q ea ek ES w4 HK4.out HPR.out HN4.out HEN.out.1 (HEN.out.2 HCC.out HG2)
     clear HN2 HN3 HY HVB hvb hv
     go_wp2_with fail
     refine Calls.mono HPO.out ?_
     rintro e w5 ⟨rfl,⟨la,lc,k5⟩,p5,g5⟩
     have HB5:Hid (Below B w w5):=HB4.out.trans p5
     have HE5:Hid (E w5):=HKI.out.keep _ _ HE0.out (HB5.out.mono HGB.out)
     have HC5:Hid (CB Y 0 D w5):=HC4.out.grown g5 (by simpa using hYK)
     have HSTY:Hid _:=HKI.out.stay b.ls ES
     have HK5:Hid (KS B K 1 ⟨b.today,b.off,b.az,b.cs,F.all b.ls ES,b.log⟩ ⟨q.o,q.oc,q.a,q.ac,q.c,q.cc,la,lc,q.g,q.gc⟩ w5):=k5
     obtain ⟨LL,hLL⟩:∃ L,F.all b.ls ES=L:=⟨_,rfl⟩
     obtain ⟨ok,hok⟩:∃ L,F.allOk b.ls ES=L:=⟨_,rfl⟩
     rw [hLL] at HK5 HSTY HYb
     rw [hok] at HSTY HN3b HYb ⊢
     clear p5 g5 k5 hLL hok HPO HEN
     cases ok
     ·obtain ⟨et,ea',hee⟩:=HKI.out.eMoney w5 HE5.out
      have HQ2:Hid (actR F b [r0,r1,r2,r3]=(b,6)):=HQ.out.trans (HN3b.out (by simp))
      have HKF:Hid (∃ q',KS B K 1 b q' w5):=by
       have h:=HK5.out
       rw [HSTY.out (by simp),bk_eta] at h
       exact ⟨_,h⟩
      clear HQ HN3b HYb
      go_wp2
      go_ret
      rw [HQ2.out]
      obtain ⟨q',hq'⟩:=HKF.out
      exact st_no (by decide) hq' HB5.out
     have HQ2:Hid (actR F b [r0,r1,r2,r3]=(⟨b.today,b.off,b.az,b.cs.set k D,LL,b.log⟩,0)):=HQ.out.trans (HYb.out (by simp))
     have c6:=HK5.out.z.c6
     have ho:=HK5.out.cs
     simp only [HQC.out] at c6 ho
     have HKF:Hid (KS B K 1 ⟨b.today,b.off,b.az,b.cs.set k D,LL,b.log⟩ ⟨q.o,q.oc,q.a,q.ac,q.c,q.cc,la,lc,q.g,q.gc⟩ (putAt w5 cg k D)):=HK5.out.putC HQC.out hk D
     have HBF:Hid (Below B w (putAt w5 cg k D)):=putAt_below k D HB5.out hcg
     unfold putAt at HKF HBF
     have hat:∀ j,j<12→(cscells b.cs)[k*12+j]?=(ccs (csAt b.cs k)).toList[j]?:=fun j hj=>cscells_at b.cs k j hk hj
     have n0':w5.cell? ⟨cg,k*12,none⟩=some (.int .i64 (csAt b.cs k).iss):=by rw [ho.cellAt (k*12) (by omega)];exact hat 0 (by omega)
     have o0:w5.frozen? ⟨cg,k*12,none⟩=false:=ho.frozenAt _
     have n1':w5.cell? ⟨cg,k*12+1,none⟩=some (.int .i64 (csAt b.cs k).acq):=by rw [ho.cellAt (k*12+1) (by omega)];exact hat 1 (by omega)
     have o1:w5.frozen? ⟨cg,k*12+1,none⟩=false:=ho.frozenAt _
     have n2':w5.cell? ⟨cg,k*12+2,none⟩=some (.int .i64 (csAt b.cs k).cur):=by rw [ho.cellAt (k*12+2) (by omega)];exact hat 2 (by omega)
     have o2:w5.frozen? ⟨cg,k*12+2,none⟩=false:=ho.frozenAt _
     have n3':w5.cell? ⟨cg,k*12+3,none⟩=some (.int .i64 (csAt b.cs k).am):=by rw [ho.cellAt (k*12+3) (by omega)];exact hat 3 (by omega)
     have o3:w5.frozen? ⟨cg,k*12+3,none⟩=false:=ho.frozenAt _
     have n4':w5.cell? ⟨cg,k*12+4,none⟩=some (.int .i64 (csAt b.cs k).st):=by rw [ho.cellAt (k*12+4) (by omega)];exact hat 4 (by omega)
     have o4:w5.frozen? ⟨cg,k*12+4,none⟩=false:=ho.frozenAt _
     have n5':w5.cell? ⟨cg,k*12+5,none⟩=some (.int .i64 (csAt b.cs k).rsn):=by rw [ho.cellAt (k*12+5) (by omega)];exact hat 5 (by omega)
     have o5:w5.frozen? ⟨cg,k*12+5,none⟩=false:=ho.frozenAt _
     have n6':w5.cell? ⟨cg,k*12+6,none⟩=some (.int .i64 (csAt b.cs k).cl):=by rw [ho.cellAt (k*12+6) (by omega)];exact hat 6 (by omega)
     have o6:w5.frozen? ⟨cg,k*12+6,none⟩=false:=ho.frozenAt _
     have n7':w5.cell? ⟨cg,k*12+7,none⟩=some (.int .i64 (csAt b.cs k).bk):=by rw [ho.cellAt (k*12+7) (by omega)];exact hat 7 (by omega)
     have o7:w5.frozen? ⟨cg,k*12+7,none⟩=false:=ho.frozenAt _
     have n8':w5.cell? ⟨cg,k*12+8,none⟩=some (.int .i64 (csAt b.cs k).fee):=by rw [ho.cellAt (k*12+8) (by omega)];exact hat 8 (by omega)
     have o8:w5.frozen? ⟨cg,k*12+8,none⟩=false:=ho.frozenAt _
     have n9':w5.cell? ⟨cg,k*12+9,none⟩=some (.bool (csAt b.cs k).cop):=by rw [ho.cellAt (k*12+9) (by omega)];exact hat 9 (by omega)
     have o9:w5.frozen? ⟨cg,k*12+9,none⟩=false:=ho.frozenAt _
     have n10':w5.cell? ⟨cg,k*12+10,none⟩=some (.int .i64 (csAt b.cs k).sta):=by rw [ho.cellAt (k*12+10) (by omega)];exact hat 10 (by omega)
     have o10:w5.frozen? ⟨cg,k*12+10,none⟩=false:=ho.frozenAt _
     have n11':w5.cell? ⟨cg,k*12+11,none⟩=some (.int .i64 (csAt b.cs k).due):=by rw [ho.cellAt (k*12+11) (by omega)];exact hat 11 (by omega)
     have o11:w5.frozen? ⟨cg,k*12+11,none⟩=false:=ho.frozenAt _
     obtain ⟨d0,d1,d2,d3,d4,d5,d6,d7,d8,d9,d10,d11⟩:=HC5.out
     simp only [Nat.zero_add] at d0 d1 d2 d3 d4 d5 d6 d7 d8 d9 d10 d11
     clear HQ HN3b HYb hat ho HSTY
     go_upto_region 15 with fail
     go_region
     all_goals
      go_wp2
      go_ret
      rw [HQ2.out]
      exact st_yes HKF.out.drew HBF.out.drew
 ·have HR:Hid (actR F b rs=(b,1)):=if_neg (fun e=>hl4 e.1)
  obtain ⟨et,ea,hee⟩:=KI.eLine w hE
  rw [HR.out]
  obtain ⟨n,hnl⟩:∃ n,rs.length=n:=⟨_,rfl⟩
  rw [hnl] at hl4 ⊢
  have hl5:((n:Int) != 4)=true:=by
   have:¬ (n:Int)=4:=by omega
   simpa using this
  have hl6:((n:Int) == 4)=false:=by
   have:¬ (n:Int)=4:=by omega
   simpa using this
  clear HR hl4 hd hz hk hE hP KI hnl
  go_enter Tryz.func175,Tryz.ntmps175
  go_wp2
  go_ret
  exact st_no (by decide) HK0.out HBR.out
end Go.Proofs.YtomiclakhjncbaaGreatDoor.Kb
