import Derived.Test.YtomiclakhjncbaaGreatDoorKAKbAuth
import Derived.Test.YtomiclakhjncbaaGreatDoorJA4a
namespace Go.Proofs.YtomiclakhjncbaaGreatDoor.Kb
open Go.RowKit
set_option maxRecDepth 100000
set_option maxHeartbeats 12800000
def PayRl (F:Fns) (b:Bk) (rs:Recs) (r:Bk×Int):Prop :=
 if numsOk rs=true∧rs.length=4 then ∃ x,F.best b.az (numW (nth rs 0)) (numW (nth rs 2)) (numW (nth rs 3)) b.today x∧r=payB F b (numW (nth rs 0)) (numW (nth rs 1)) (numW (nth rs 2)) (numW (nth rs 3)) x else r=(b,1)
theorem own_form {u:World} {base n size:Nat} {t:TypeId} {v:Value} {xs:List Value} (h:u.ownsRow base t size v n xs):∃ a c,v=.slice a n c:=by
 rcases h.2 with ⟨hv,h0⟩ | ⟨g,cap,cur,hv,_⟩
 ·exact ⟨none,0,by rw [hv,h0]⟩
 ·exact ⟨_,_,hv⟩
theorem kbC {B K:Nat} {st:Int} {b:Bk} {q:Bp} {W u u':World} (k:KS B K st b q W) (g:u.grownBy u' (Value.slice q.c b.cs.length q.cc).ownBlock) (h:Below W.heap.size W u):u'.cell? ⟨K,6,none⟩=some (.slice q.c b.cs.length q.cc)∧u'.frozen? ⟨K,6,none⟩=false:=by
 have ku:=k.below h
 have zz:=ku.z.grown g (own_neR ku.cs ku.kt (by decide))
 exact ⟨zz.c6,zz.z6⟩
def PaR (B K:Nat) (F:Fns) (b:Bk) (rs:Recs) (w:World) (e:Ending) (w':World):Prop:=∃ r,PayRl F b rs r∧StR B K w r e w'
theorem wf18 {x:Int} (h1:-1≤x) (h2:x<1000000000000000000):(Lit.int .i64 x).wf=true:=by
 simp [Lit.wf,IntKind.min,IntKind.max,IntKind.signed,IntKind.bits];omega
theorem bk_eta (b:Bk):(⟨b.today,b.off,b.az,b.cs,b.ls,b.log⟩:Bk)=b:=by cases b;rfl
theorem iPay_any {F:Fns} {E:World→Prop} {G B K:Nat} (KI:KnI F E G) (hGB:G≤B) (b:Bk) (q:Bp) (ao:Option Addr) (cap:Nat) (rs:Recs) (w:World) (hk:KS B K 1 b q w) (hE:E w) (hP:PreI b) (hz:TxtsAt w ao rs) (hn:rs.length≤1048576) (hd:∀ r ∈ rs,r.length≤1048576) :
  Calls Tryz.prog 174 #[.pointer (some ⟨K,0,none⟩),.slice ao rs.length cap] w (PaR B K F b rs w):=by
 have HNS:Hid (Calls Tryz.prog 206 #[.slice ao rs.length cap] w fun e w'=>∃ a k,e=.returned (.tuple #[.slice a (numsV rs).length k,.bool (numsOk rs)])∧w'.ownsRow w.heap.size 3 1 (.slice a (numsV rs).length k) (numsV rs).length ((numsV rs).map (Value.int .i64))∧Below w.heap.size w w'):=iNums_any KI ao cap rs w hz hn hd hE
 have HB0:Hid (B≤w.heap.size):=hk.lt
 have HK0:Hid (KS B K 1 b q w):=hk
 have HE0:Hid (E w):=hE
 have HPR:Hid (PreI b):=hP
 have HKI:Hid (KnI F E G):=KI
 have HGB:Hid (G≤B):=hGB
 clear hz hd hk hE hP KI
 by_cases hok:numsOk rs=true∧rs.length=4
 ·obtain ⟨h1,h2⟩:=hok
  obtain ⟨r0,r1,r2,r3,hr0⟩:=four h2
  have hv:numsV rs=[numW r0,numW r1,numW r2,numW r3]:=by rw [numsV,if_pos h1,hr0];rfl
  have hg:∀ r ∈ rs,N18 (numW r):=fun r hr=>⟨by simpa using List.all_eq_true.1 h1 r hr,(numW_bd r).2⟩
  have g0:=hg r0 (by rw [hr0];simp)
  have g1:=hg r1 (by rw [hr0];simp)
  have g2:=hg r2 (by rw [hr0];simp)
  have g3:=hg r3 (by rw [hr0];simp)
  have HR:Hid (∀ r x,F.best b.az (numW r0) (numW r2) (numW r3) b.today x→r=payB F b (numW r0) (numW r1) (numW r2) (numW r3) x→PayRl F b rs r):=fun r x hx hr=>by
   rw [PayRl,if_pos ⟨h1,h2⟩,hr0]
   exact ⟨x,hx,hr⟩
  rw [hv,h1] at HNS
  obtain ⟨n0,e0⟩:∃ n,numW r0=n:=⟨_,rfl⟩
  obtain ⟨n1,e1⟩:∃ n,numW r1=n:=⟨_,rfl⟩
  obtain ⟨n2,e2⟩:∃ n,numW r2=n:=⟨_,rfl⟩
  obtain ⟨n3,e3⟩:∃ n,numW r3=n:=⟨_,rfl⟩
  rw [e0,e1,e2,e3] at HNS HR
  rw [e0] at g0
  rw [e1] at g1
  rw [e2] at g2
  rw [e3] at g3
  simp only [List.length_cons,List.length_nil,List.map_cons,List.map_nil] at HNS
  have HG0:Hid (N18 n0):=g0
  have HG1:Hid (N18 n1):=g1
  have HG2:Hid (N18 n2):=g2
  have HG3:Hid (N18 n3):=g3
  clear hv e0 e1 e2 e3 h1 h2 hr0 hg g0 g1 g2 g3
  go_enter Tryz.func174,Tryz.ntmps174
  go_wp2_with fail
  refine Calls.mono HNS.out ?_
  rintro e w1 ⟨a,k,rfl,o1,p1⟩
  obtain ⟨gn,rfl,-,-⟩:=row_block o1 (by omega)
  have m0:w1.cell? ⟨gn,0,none⟩=some (.int .i64 n0):=by simpa using o1.cellAt 0 (by omega)
  have m1:w1.cell? ⟨gn,1,none⟩=some (.int .i64 n1):=by simpa using o1.cellAt 1 (by omega)
  have m2:w1.cell? ⟨gn,2,none⟩=some (.int .i64 n2):=by simpa using o1.cellAt 2 (by omega)
  have m3:w1.cell? ⟨gn,3,none⟩=some (.int .i64 n3):=by simpa using o1.cellAt 3 (by omega)
  have HK1:Hid (KS B K 1 b q w1):=HK0.out.below p1
  have HB1:Hid (Below B w w1):=p1.mono HB0.out
  have HE1:Hid (E w1):=HKI.out.grow HE0.out p1
  have HBW1:Hid (B≤w1.heap.size):=HK1.out.lt
  clear o1 p1 HNS
  go_upto_region 4 with fail
  go_quiet (fail)
  go_upto_region 5 with fail
  obtain ⟨W1,hW1⟩:∃ W,W=w1.drewN nq:=⟨_,rfl⟩
  rw [← hW1]
  have pW:Below w1.heap.size w1 W1:=by rw [hW1];exact below_drewN (Below.refl _ _) _
  clear m0 m1 m2 m3
  obtain ⟨HK1,-⟩:∃ _k:Hid (KS B K 1 b q W1),True:=⟨HK1.out.below pW,trivial⟩
  obtain ⟨HB1,-⟩:∃ _k:Hid (Below B w W1),True:=⟨HB1.out.trans (pW.mono HBW1.out),trivial⟩
  obtain ⟨HE1,-⟩:∃ _k:Hid (E W1),True:=⟨HKI.out.grow HE1.out pW,trivial⟩
  obtain ⟨HBW1,-⟩:∃ _k:Hid (B≤W1.heap.size),True:=⟨HK1.out.lt,trivial⟩
  clear hW1 pW
  have hz1:=HK1.out.z
  have c3:=hz1.c3
  have c5:=hz1.c5
  have HS:Hid (∀ u,Below W1.heap.size W1 u→u.cell? ⟨K,3,none⟩=some (.int .i64 b.today)∧u.cell? ⟨K,5,none⟩=some (.slice q.a b.az.length q.ac)):=fun u h=>⟨(HK1.out.below h).z.c3,(HK1.out.below h).z.c5⟩
  have HMB:Hid (∀ u,Below W1.heap.size W1 u→Calls Tryz.prog 209 #[.slice q.a b.az.length q.ac,.int .i64 n0,.int .i64 n2,.int .i64 n3,.int .i64 b.today] u fun e w'=>∃ x,e=.returned (.int .i64 x)∧F.best b.az n0 n2 n3 b.today x∧Below u.heap.size u w'):=fun u h =>
   HKI.out.best q.a q.ac b.az n0 n2 n3 b.today u (HK1.out.below h).at.az HPR.out.sm.2.1 HPR.out.ref HPR.out.cur (wf18 (by have:=HG3.out.1;omega) HG3.out.2) HPR.out.day
  have k0:Below W1.heap.size W1 W1:=Below.refl _ _
  clear hz1
  go_region_held3 (fun u=>u.cell? ⟨K,3,none⟩=some (.int .i64 b.today)∧u.cell? ⟨K,5,none⟩=some (.slice q.a b.az.length q.ac)) (first | with_reducible exact HS.out _ k0 | with_reducible exact HS.out _ k0.drew | with_reducible exact HS.out _ k2) ((go_at_call 209;(first | with_reducible refine Calls.mono (HMB.out _ k0) ?_ | with_reducible refine Calls.mono (HMB.out _ k0.drew) ?_);rintro e w2 ⟨x,rfl,hx,p2⟩;have k2:Below W1.heap.size W1 w2:=(by first | exact p2 | exact (Below.trans (Below.refl W1.heap.size W1).drew p2))))
  all_goals
   rename_i hheld
   have HK2:Hid (KS B K 1 b q w2):=HK1.out.below k2
   have HB2:Hid (Below B w w2):=HB1.out.trans (k2.mono HBW1.out)
   have HE2:Hid (E w2):=HKI.out.grow HE1.out k2
   have HRX:Hid (∀ r,r=payB F b n0 n1 n2 n3 x→PayRl F b rs r):=fun r h=>HR.out r x hx h
   have hlow:=HKI.out.low _ _ _ _ _ _ hx
   clear hheld c3 c5 k0 k2 p2 hx HR HS HMB
   have zz:=HK2.out.z
   by_cases hx1:x = -1
   ·subst hx1
    obtain ⟨et,ea,hee⟩:=HKI.out.eAuth w2 HE2.out
    have HQ:Hid (PayRl F b rs (b,3)):=HRX.out _ (pay_no1 F (b:=b) (n0:=n0) (n1:=n1) (n2:=n2) (n3:=n3) (x:=-1) (by omega)).symm
    clear zz HRX hlow
    go_wp2
    go_ret
    exact ⟨_,HQ.out,st_no (by decide) HK2.out HB2.out⟩
   have hx0:¬ x<0:=by omega
   have hxe:(x == -1)=false:=by simpa using hx1
   clear hlow hx1
   have c6:=zz.c6
   have hcm:b.cs.length≤1048576:=HPR.out.sm.2.2.1
   by_cases hcs:150≤b.cs.length
   ·have hci:(150:Int)≤(b.cs.length:Int):=by omega
    obtain ⟨et,ea,hee⟩:=HKI.out.eCases w2 HE2.out
    have HQ:Hid (PayRl F b rs (b,2)):=HRX.out _ (pay_no2 F (n0:=n0) (n1:=n1) (n2:=n2) (n3:=n3) hx0 hcs).symm
    clear zz HRX hcs
    go_wp2
    go_ret
    exact ⟨_,HQ.out,st_no (by decide) HK2.out HB2.out⟩
   have hci:¬ (150:Int)≤(b.cs.length:Int):=by omega
   have c3:=zz.c3
   have HST:Hid (Calls Tryz.prog 210 #[.int .i64 n0,.int .i64 n1,.int .i64 n2,.int .i64 n3,.int .i64 b.today] w2 fun e w'=>∃ ao cap,e=.returned (.tuple #[cv (F.stC n0 n1 n2 n3 b.today),.slice ao (F.stE n0 n1 n2 n3 b.today).length cap,.bool (F.stOk n0 n1 n2 n3 b.today)])∧w'.ownsRow w2.heap.size 269 4 (.slice ao (F.stE n0 n1 n2 n3 b.today).length cap) (F.stE n0 n1 n2 n3 b.today).length (ecells (F.stE n0 n1 n2 n3 b.today))∧Below w2.heap.size w2 w'):=HKI.out.start n0 n1 n2 n3 b.today w2 HG2.out
   have HSM:Hid _:=HKI.out.small n0 n1 n2 n3 b.today
   have P3:Hid _:=@pay_no3 F b n0 n1 n2 n3 x hx0 hcs
   have P4:Hid _:=@pay_no4 F b n0 n1 n2 n3 x hx0 hcs
   have P5:Hid _:=@pay_yes F b n0 n1 n2 n3 x hx0 hcs
   obtain ⟨C,hC⟩:∃ C,F.stC n0 n1 n2 n3 b.today=C:=⟨_,rfl⟩
   obtain ⟨ES,hES⟩:∃ C,F.stE n0 n1 n2 n3 b.today=C:=⟨_,rfl⟩
   obtain ⟨so,hso⟩:∃ C,F.stOk n0 n1 n2 n3 b.today=C:=⟨_,rfl⟩
   rw [hC,hES,hso] at HST
   rw [hES] at HSM P4
   rw [hC,hES] at P5
   rw [hso] at P3 P4 P5
   clear hC hES hso hcs zz
   unfold cv at HST
   go_wp2_with fail
   refine Calls.mono HST.out ?_
   rintro e w3 ⟨eo,ec,rfl,o3,p3⟩
   obtain ⟨W3,hW3⟩:∃ W,W=w3.alloc (.cells #[.int .i64 C.iss,.int .i64 C.acq,.int .i64 C.cur,.int .i64 C.am,.int .i64 C.st,.int .i64 C.rsn,.int .i64 C.cl,.int .i64 C.bk,.int .i64 C.fee,.bool C.cop,.int .i64 C.sta,.int .i64 C.due] 61):=⟨_,rfl⟩
   have bA:Below w3.heap.size w3 W3:=by rw [hW3];exact (Below.refl _ _).alloc (Nat.le_refl _) _
   have HBW2:Hid (B≤w2.heap.size):=HK2.out.lt
   have HK3:Hid (KS B K 1 b q W3):=(HK2.out.below p3).below bA
   have HB3:Hid (Below B w W3):=HB2.out.trans ((next p3 bA).mono HBW2.out)
   have HE3:Hid (E W3):=HKI.out.grow HE2.out (next p3 bA)
   have HEN:Hid (EntsAt W3 eo ES):=ents_any (keepL o3 bA)
   have hlt3:K<w3.heap.size:=(HK2.out.below p3).z.lt
   have HX:Hid (CB w3.heap.size 0 C W3):=by rw [hW3];exact CB.new w3 C _
   have HBW3:Hid (B≤W3.heap.size):=HK3.out.lt
   clear o3 p3 bA c3 c6 HST
   go_upto_region 11 with fail
   rw [← hW3]
   obtain ⟨X,hX⟩:∃ X,X=w3.heap.size:=⟨_,rfl⟩
   rw [← hX] at HX hlt3 ⊢
   have hXK:X≠K:=by omega
   clear hW3 hX hlt3
   cases so
   ·obtain ⟨et,ea,hee⟩:=HKI.out.eCase W3 HE3.out
    have HQ:Hid (PayRl F b rs (b,5)):=HRX.out _ (P3.out (by simp)).symm
    clear HRX P3 P4 P5 HSM
    go_wp2
    go_ret
    exact ⟨_,HQ.out,st_no (by decide) HK3.out HB3.out⟩
   have HPO:Hid (Calls Tryz.prog 211 #[.pointer (some ⟨K,2,none⟩),.slice eo ES.length ec] W3 (PsR B K F b q ES W3)):=iPost_any HKI.out b q eo ec ES W3 HK3.out HPR.out HEN.out HSM.out.1 (HSM.out.2 HG0.out HG1.out HG2.out HG3.out)
   go_wp2_with fail
   refine Calls.mono HPO.out ?_
   rintro e w4 ⟨rfl,⟨la,lc,k4⟩,p4,g4⟩
   have HB4:Hid (Below B w w4):=HB3.out.trans p4
   have HE4:Hid (E w4):=HKI.out.keep _ _ HE0.out (HB4.out.mono HGB.out)
   have HX4:Hid (CB X 0 C w4):=HX.out.grown g4 (by simpa using hXK)
   have HSTY:Hid _:=HKI.out.stay b.ls ES
   have HK4:Hid (KS B K 1 ⟨b.today,b.off,b.az,b.cs,F.all b.ls ES,b.log⟩ ⟨q.o,q.oc,q.a,q.ac,q.c,q.cc,la,lc,q.g,q.gc⟩ w4):=k4
   obtain ⟨LL,hLL⟩:∃ L,F.all b.ls ES=L:=⟨_,rfl⟩
   obtain ⟨ok,hok⟩:∃ L,F.allOk b.ls ES=L:=⟨_,rfl⟩
   rw [hLL] at HK4 HSTY P5
   rw [hok] at HSTY P4 P5 ⊢
   clear p4 g4 k4 hLL hok HPO HEN HSM
   cases ok
   ·obtain ⟨et,ea,hee⟩:=HKI.out.eMoney w4 HE4.out
    have HQ:Hid (PayRl F b rs (b,6)):=HRX.out _ (P4.out (by simp) (by simp)).symm
    have HKF:Hid (∃ q',KS B K 1 b q' w4):=by
     have h:=HK4.out
     rw [HSTY.out (by simp),bk_eta] at h
     exact ⟨_,h⟩
    clear HRX P3 P4 P5
    go_wp2
    go_ret
    obtain ⟨q',hq'⟩:=HKF.out
    exact ⟨_,HQ.out,st_no (by decide) hq' HB4.out⟩
   have HQ:Hid (PayRl F b rs (⟨b.today,b.off,F.use b.az x,b.cs++[C],LL,b.log⟩,0)):=HRX.out _ (P5.out (by simp) (by simp)).symm
   clear HRX P3 P4 P5 HSTY
   have c5:=HK4.out.z.c5
   have HUS:Hid (Calls Tryz.prog 212 #[.slice q.a b.az.length q.ac,.int .i64 x] w4 (AuR2 w4 (F.use b.az x) (F.useOk b.az x))):=HKI.out.use q.a q.ac b.az x w4 HK4.out.at.az HPR.out.sm.2.1 HPR.out.ref
   obtain ⟨LU,hLU⟩:∃ L,F.use b.az x=L:=⟨_,rfl⟩
   rw [hLU] at HUS HQ
   clear hLU
   go_wp2_with fail
   refine Calls.mono HUS.out ?_
   rintro e w5 ⟨ua,uc,rfl,o5,p5⟩
   have HBW4:Hid (B≤w4.heap.size):=HK4.out.lt
   have HK5':Hid _:=HK4.out.below p5
   have HK5:Hid (KS B K 1 ⟨b.today,b.off,LU,b.cs,LL,b.log⟩ ⟨q.o,q.oc,ua,uc,q.c,q.cc,la,lc,q.g,q.gc⟩ (w5.setCell ⟨K,5,none⟩ (.slice ua LU.length uc))):=HK5'.out.setA o5 HBW4.out
   have HB5:Hid (Below B w (w5.setCell ⟨K,5,none⟩ (.slice ua LU.length uc))):=(HB4.out.trans (p5.mono HBW4.out)).setCell HK4.out.hK _
   have HX5:Hid (CB X 0 C (w5.setCell ⟨K,5,none⟩ (.slice ua LU.length uc))):=(HX4.out.below p5).grown (set_grown w5 K 5 _) (by simpa using hXK)
   have c5:=HK5'.out.z.c5
   have z5:=HK5'.out.z.z5
   clear o5 p5 HUS HK5'
   go_upto_region 16 with fail
   obtain ⟨W5,hW5⟩:∃ W,W=w5.setCell ⟨K,5,none⟩ (.slice ua LU.length uc):=⟨_,rfl⟩
   rw [← hW5] at HK5 HB5 HX5 ⊢
   clear hW5 c5 z5
   have c6:=HK5.out.z.c6
   have z6:=HK5.out.z.z6
   have a6:=fun o=>(HK5.out.al o).z.c6
   obtain ⟨d0,d1,d2,d3,d4,d5,d6,d7,d8,d9,d10,d11⟩:=HX5.out
   have lX:X<W5.heap.size:=World.block_lt_of_cell? W5 _ d0
   have HBW5:Hid (B≤W5.heap.size):=HK5.out.lt
   have HEND:Hid (∀ (u u':World) (a:Option Addr) (c:Nat),Below W5.heap.size W5 u→u.grownBy u' (Value.slice q.c b.cs.length q.cc).ownBlock→u'.ownsRow B 61 12 (.slice a (b.cs.length+1) c) (b.cs.length+1) (cscells b.cs++cscells [C])→StR B K w (⟨b.today,b.off,LU,b.cs++[C],LL,b.log⟩,0) (.returned .nilIface) (u'.setCell ⟨K,6,none⟩ (.slice a (b.cs.length+1) c))):=fun u u' a c h g o=>by
    have o':u'.ownsRow B 61 12 (.slice a (b.cs++[C]).length c) (b.cs++[C]).length (cscells (b.cs++[C])):=by
     rw [cscells_append,List.length_append,List.length_singleton];exact o
    have h2:=(HK5.out.below h).setC g o'
    rw [List.length_append,List.length_singleton] at h2
    refine st_yes h2 ?_
    have hu:Below B w u':=(HB5.out.trans (h.mono HBW5.out)).grown g (Nat.le_trans HBW5.out h.size) (fun k hk=>((HK5.out.below h).cs.lt k hk).1)
    exact hu.setCell HK5.out.hK _
   go_region_law (first
    | (refine step_append_cases rfl (.tmp 110) (.tmp 112) rfl B (.slice q.c b.cs.length q.cc) b.cs.length (cscells b.cs) (by simp [Act.eval]) (keepL HK5.out.cs (by go_grown)) (some ⟨W5.heap.size,0,none⟩) 1 [C] (by simp [Act.eval];try rfl) (by first | exact one_case (CB.new W5 C _) | exact one_case ((CB.new W5 C _).below ((Below.refl _ _).drew))) (by simp;omega) (by simp;have:=HBW5.out;omega) ?_
       intro v6 w6 o6 g6 _
       (try simp only [List.length_singleton] at o6)
       obtain ⟨va,vc,hva⟩:=own_form o6
       subst hva
       have HO6:Hid (w6.ownsRow B 61 12 (.slice va (b.cs.length+1) vc) (b.cs.length+1) (cscells b.cs++cscells [C])):=o6
       have HG6:Hid _:=g6
       obtain ⟨y6,x6⟩:=kbC HK5.out g6 (by go_grown)
       clear o6 g6)
    | fail)
   all_goals
    go_wp2
    go_ret
    exact ⟨_,HQ.out,HEND.out _ _ _ _ (by go_grown) HG6.out HO6.out⟩
 ·have HR:Hid (∀ r,r=(b,1)→PayRl F b rs r):=fun r h=>by rw [PayRl,if_neg hok];exact h
  have hne:numsOk rs=true→¬ (numsV rs).length=4:=fun h1 h2=>hok ⟨h1,by rw [numsV,if_pos h1] at h2;simpa using h2⟩
  have hln:(numsV rs).length≤1048576:=by unfold numsV;split <;> simp;omega
  obtain ⟨L,hL⟩:∃ L,numsV rs=L:=⟨_,rfl⟩
  rw [hL] at HNS hne hln
  obtain ⟨ok,hok2⟩:∃ x,numsOk rs=x:=⟨_,rfl⟩
  rw [hok2] at HNS hne
  clear hL hok2 hok
  go_enter Tryz.func174,Tryz.ntmps174
  go_wp2_with fail
  refine Calls.mono HNS.out ?_
  rintro e w1 ⟨a,k,rfl,o1,b1⟩
  have HK1:Hid (KS B K 1 b q w1):=HK0.out.below b1
  have HB1:Hid (Below B w w1):=b1.mono HB0.out
  obtain ⟨et,ea,hee⟩:=HKI.out.eLine w1 (HKI.out.grow HE0.out b1)
  clear o1 b1 HNS
  cases ok
  ·clear hne
   go_wp2
   go_ret
   exact ⟨_,HR.out _ rfl,st_no (by decide) HK1.out HB1.out⟩
  ·have hl1:((L.length:Int) == 4)=false:=by
     have:=hne rfl
     simp;omega
   have hl2:((L.length:Int) != 4)=true:=by
    have:=hne rfl
    simp;omega
   clear hne
   go_wp2
   go_ret
   exact ⟨_,HR.out _ rfl,st_no (by decide) HK1.out HB1.out⟩
end Go.Proofs.YtomiclakhjncbaaGreatDoor.Kb
