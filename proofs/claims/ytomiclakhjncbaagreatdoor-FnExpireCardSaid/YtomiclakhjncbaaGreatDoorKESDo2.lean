import Derived.Test.YtomiclakhjncbaaGreatDoorJE2a
namespace Go.Proofs.YtomiclakhjncbaaGreatDoor
open Go.RowKit Go.Proofs.Tryz
set_option maxRecDepth 100000
set_option maxHeartbeats 12800000
structure EB (s:Nat) (x:En) (u:World):Prop where
 e0:u.cell? ⟨s,0,none⟩=some (.int .i64 x.1)
 e1:u.cell? ⟨s,1,none⟩=some (.int .i64 x.2.1)
 e2:u.cell? ⟨s,2,none⟩=some (.int .i64 x.2.2.1)
 e3:u.cell? ⟨s,3,none⟩=some (.int .i64 x.2.2.2)
theorem EB.below {s:Nat} {x:En} {u u':World} (h:EB s x u) (b:BW u u'):EB s x u':=by
 have l:s<u.heap.size:=World.block_lt_of_cell? u _ h.e0;exact ⟨(b.cell (p:=⟨s,0,none⟩) l).trans h.e0,(b.cell (p:=⟨s,1,none⟩) l).trans h.e1,(b.cell (p:=⟨s,2,none⟩) l).trans h.e2,(b.cell (p:=⟨s,3,none⟩) l).trans h.e3⟩
theorem EB.grown {s:Nat} {x:En} {u u':World} {row:Option Nat} (h:EB s x u) (g:u.grownBy u' row) (hr:some s≠row):EB s x u':=by
 have l:s<u.heap.size:=World.block_lt_of_cell? u _ h.e0;exact ⟨(g.cell_far ⟨s,0,none⟩ l hr).trans h.e0,(g.cell_far ⟨s,1,none⟩ l hr).trans h.e1,(g.cell_far ⟨s,2,none⟩ l hr).trans h.e2,(g.cell_far ⟨s,3,none⟩ l hr).trans h.e3⟩
def RS (h s:Nat) (n:Cs) (x:En) (u:World):Prop:=u.cell? ⟨h,0,none⟩=some (.int .i64 n.iss)∧u.cell? ⟨h,1,none⟩=some (.int .i64 n.acq)∧u.cell? ⟨h,2,none⟩=some (.int .i64 n.cur)∧u.cell? ⟨h,3,none⟩=some (.int .i64 n.am)∧u.cell? ⟨h,4,none⟩=some (.int .i64 n.st)∧u.cell? ⟨h,5,none⟩=some (.int .i64 n.rsn)∧u.cell? ⟨h,6,none⟩=some (.int .i64 n.cl)∧u.cell? ⟨h,7,none⟩=some (.int .i64 n.bk)∧u.cell? ⟨h,8,none⟩=some (.int .i64 n.fee)∧u.cell? ⟨h,9,none⟩=some (.bool n.cop)∧u.cell? ⟨h,10,none⟩=some (.int .i64 n.sta)∧u.cell? ⟨h,11,none⟩=some (.int .i64 n.due)∧u.cell? ⟨s,0,none⟩=some (.int .i64 x.1)∧u.cell? ⟨s,1,none⟩=some (.int .i64 x.2.1)∧u.cell? ⟨s,2,none⟩=some (.int .i64 x.2.2.1)∧u.cell? ⟨s,3,none⟩=some (.int .i64 x.2.2.2)
theorem RS.of {h s:Nat} {n:Cs} {x:En} {u:World} (a:CB h 0 n u) (b:EB s x u):RS h s n x u:=by
 obtain ⟨f0,f1,f2,f3,f4,f5,f6,f7,f8,f9,f10,f11⟩:=a
 simp only [Nat.zero_add] at f0 f1 f2 f3 f4 f5 f6 f7 f8 f9 f10 f11
 exact ⟨f0,f1,f2,f3,f4,f5,f6,f7,f8,f9,f10,f11,b.e0,b.e1,b.e2,b.e3⟩
theorem Tr (c:Cs) (x:Int) (w:World) (hb:0≤c.bk∧c.bk≤1000000000000) (hx:0≤x∧x≤1000000000000) (hf:0≤c.fee∧c.fee≤1000000):Calls prog 226 #[cv c,.int .i64 x] w (Gr w (Es c x) (Dg c x)):=by
 have HG:Hid (∀ u,Calls prog 225 #[cv c,.int .i64 x] u (Gr u (I5 c x) (Bg c x))):=fun u=>M8 c x u hb hx
 have HTL:Hid ((Bg c x).length≤1):=by unfold Bg;rw [Hid];split <;> simp
 obtain ⟨iY,aZ,uV,am,st,rJ,cl,bk,fW,cW,sS,dX⟩:=c;unfold Gr at HG;unfold cv I5 at HG;unfold cv
 simp only at HG hb hf ⊢
 by_cases hc:cl≤2*x
 ·have HRE:Hid (Dg ⟨iY,aZ,uV,am,st,rJ,cl,bk,fW,cW,sS,dX⟩ x=Bg ⟨iY,aZ,uV,am,st,rJ,cl,bk,fW,cW,sS,dX⟩ x++[(aZ,9999,uV,50000)]):=by simp only [Hid,Dg,Oo];rw [if_pos hc]
  obtain ⟨W,hW⟩:∃ W,W=((w.alloc (.cells #[.int .i64 iY,.int .i64 aZ,.int .i64 uV,.int .i64 am,.int .i64 st,.int .i64 rJ,.int .i64 cl,.int .i64 bk,.int .i64 fW,.bool cW,.int .i64 sS,.int .i64 dX] 61)).alloc (.cells #[.int .i64 0,.int .i64 0,.int .i64 0,.int .i64 0,.int .i64 0,.int .i64 0,.int .i64 0,.int .i64 0,.int .i64 0,.bool false,.int .i64 0,.int .i64 0] 61)).alloc (.cells #[.int .i64 aZ,.int .i64 9999,.int .i64 uV,.int .i64 50000] 269):=⟨_,rfl⟩
  have bb:∀ (u:World) (o:Obj),Below u.heap.size u (u.alloc o):=fun u o=>bR.alloc nL _
  have e1:(w.alloc (.cells #[.int .i64 iY,.int .i64 aZ,.int .i64 uV,.int .i64 am,.int .i64 st,.int .i64 rJ,.int .i64 cl,.int .i64 bk,.int .i64 fW,.bool cW,.int .i64 sS,.int .i64 dX] 61)).heap.size=w.heap.size+1:=by simp
  have e2:((w.alloc (.cells #[.int .i64 iY,.int .i64 aZ,.int .i64 uV,.int .i64 am,.int .i64 st,.int .i64 rJ,.int .i64 cl,.int .i64 bk,.int .i64 fW,.bool cW,.int .i64 sS,.int .i64 dX] 61)).alloc (.cells #[.int .i64 0,.int .i64 0,.int .i64 0,.int .i64 0,.int .i64 0,.int .i64 0,.int .i64 0,.int .i64 0,.int .i64 0,.bool false,.int .i64 0,.int .i64 0] 61)).heap.size=w.heap.size+1+1:=by simp
  have HC1:Hid (CB w.heap.size 0 ⟨iY,aZ,uV,am,st,rJ,cl,bk,fW,cW,sS,dX⟩ W):=by rw [Hid,hW];exact ((CB.new w ⟨iY,aZ,uV,am,st,rJ,cl,bk,fW,cW,sS,dX⟩ _).below (bb _ _)).below (bb _ _)
  have HC2:Hid (CB (w.heap.size+1) 0 Br W):=by
   have h:=CB.new (w.alloc (.cells #[.int .i64 iY,.int .i64 aZ,.int .i64 uV,.int .i64 am,.int .i64 st,.int .i64 rJ,.int .i64 cl,.int .i64 bk,.int .i64 fW,.bool cW,.int .i64 sS,.int .i64 dX] 61)) Br 61;rw [e1] at h
   rw [Hid,hW];exact h.below (bb _ _)
  have HF2:Hid (FZ (w.heap.size+1) 0 W):=by
   have h:=FZ.new (w.alloc (.cells #[.int .i64 iY,.int .i64 aZ,.int .i64 uV,.int .i64 am,.int .i64 st,.int .i64 rJ,.int .i64 cl,.int .i64 bk,.int .i64 fW,.bool cW,.int .i64 sS,.int .i64 dX] 61)) #[.int .i64 0,.int .i64 0,.int .i64 0,.int .i64 0,.int .i64 0,.int .i64 0,.int .i64 0,.int .i64 0,.int .i64 0,.bool false,.int .i64 0,.int .i64 0] 61;rw [e1] at h
   rw [Hid,hW];exact h.below (by rw [e2];omega) (bb _ _)
  have HE1:Hid (EB (w.heap.size+1+1) (aZ,9999,uV,50000) W):=by
   rw [Hid,hW];exact ⟨by simp [go_sem],by simp [go_sem],by simp [go_sem],by simp [go_sem]⟩
  have HBW:Hid (BW w W):=by rw [Hid,hW];go_grown
  have HS:Hid (W.heap.size=w.heap.size+1+1+1):=by rw [Hid,hW];simp
  have HW:Hid _:=hW;clear hW bb e1 e2
  go_enter func226,ntmps226
  go_upto_region 4 with fail
  rw [← HW.o];clear HW;obtain ⟨f0,f1,f2,f3,f4,f5,f6,f7,f8,f9,f10,f11⟩:=HC1.o
  simp only [Nat.zero_add] at f0 f1 f2 f3 f4 f5 f6 f7 f8 f9 f10 f11
  go_wp2_with fail
  refine (HG.o _).mono ?_;rintro e u ⟨ae,ke,rfl,oe,b⟩;obtain ⟨N,hN⟩:∃ N,(Bg ⟨iY,aZ,uV,am,st,rJ,cl,bk,fW,cW,sS,dX⟩ x).length=N:=⟨_,rfl⟩
  have HNN:Hid (N≤1):=by rw [Hid,← hN];exact HTL.o
  obtain ⟨E,hE⟩:∃ E,Bg ⟨iY,aZ,uV,am,st,rJ,cl,bk,fW,cW,sS,dX⟩ x=E:=⟨_,rfl⟩
  have HEE:Hid (E.length=N):=by rw [Hid,← hE];exact hN
  have HTE:Hid (Bg ⟨iY,aZ,uV,am,st,rJ,cl,bk,fW,cW,sS,dX⟩ x=E):=hE;rw [hN] at oe ⊢;rw [hE] at oe;obtain ⟨V,hV⟩:∃ V,V=u.alloc (.cells #[.int .i64 iY,.int .i64 aZ,.int .i64 uV,.int .i64 am,.int .i64 7,.int .i64 rJ,.int .i64 0,.int .i64 (bk+x),.int .i64 (fW+50000),.bool cW,.int .i64 sS,.int .i64 (-1)] 61):=⟨_,rfl⟩
  have bV:BW u V:=by rw [hV];exact bR.alloc nL _
  have HCN:Hid (CB u.heap.size 0 ⟨iY,aZ,uV,am,7,rJ,0,bk+x,fW+50000,cW,sS,-1⟩ V):=by rw [Hid,hV];exact CB.new u ⟨iY,aZ,uV,am,7,rJ,0,bk+x,fW+50000,cW,sS,-1⟩ _
  have hWu:=b.size
  have HUW:Hid (w.heap.size+1+1<u.heap.size):=by have:=HS.o;rw [Hid];omega
  have HO:Hid (V.ownsRow W.heap.size 269 4 (.slice ae N ke) N (Ba E)):=Av oe bV
  have HNE:Hid (∀ g,(Value.slice ae N ke).ownBlock=some g→W.heap.size≤g∧g<u.heap.size):=fun g hg=>oe.lt g hg
  have HB:Hid (BW w V):=next (next HBW.o b) bV;have HU2:Hid (CB (w.heap.size+1) 0 Br V):=(HC2.o.below b).below bV;have HV2:Hid (FZ (w.heap.size+1) 0 V):=(HF2.o.below HC2.o.lt b).below (HC2.o.below b).lt bV;have HEN:Hid (EB (w.heap.size+1+1) (aZ,9999,uV,50000) V):=(HE1.o.below b).below bV;have HVV:Hid _:=hV;clear b oe f0 f1 f2 f3 f4 f5 f6 f7 f8 f9 f10 f11 bV hN hE hV hWu;go_upto_region 6 with fail
  rw [← HVV.o];clear HVV;obtain ⟨B,hB⟩:∃ B,B=u.heap.size:=⟨_,rfl⟩;rw [← hB] at HCN HUW HNE ⊢;clear hB;have HRS:Hid (V.cell? ⟨B,0,none⟩=some (.int .i64 iY)∧V.cell? ⟨B,1,none⟩=some (.int .i64 aZ)∧V.cell? ⟨B,2,none⟩=some (.int .i64 uV)∧V.cell? ⟨B,3,none⟩=some (.int .i64 am)∧V.cell? ⟨B,4,none⟩=some (.int .i64 7)∧V.cell? ⟨B,5,none⟩=some (.int .i64 rJ)∧V.cell? ⟨B,6,none⟩=some (.int .i64 0)∧V.cell? ⟨B,7,none⟩=some (.int .i64 (bk+x))∧V.cell? ⟨B,8,none⟩=some (.int .i64 (fW+50000))∧V.cell? ⟨B,9,none⟩=some (.bool cW)∧V.cell? ⟨B,10,none⟩=some (.int .i64 sS)∧V.cell? ⟨B,11,none⟩=some (.int .i64 (-1))∧V.cell? ⟨w.heap.size+1+1,0,none⟩=some (.int .i64 aZ)∧V.cell? ⟨w.heap.size+1+1,1,none⟩=some (.int .i64 9999)∧V.cell? ⟨w.heap.size+1+1,2,none⟩=some (.int .i64 uV)∧V.cell? ⟨w.heap.size+1+1,3,none⟩=some (.int .i64 50000)):=RS.of HCN.o HEN.o;have HRD:Hid (V.drew.cell? ⟨B,0,none⟩=some (.int .i64 iY)∧V.drew.cell? ⟨B,1,none⟩=some (.int .i64 aZ)∧V.drew.cell? ⟨B,2,none⟩=some (.int .i64 uV)∧V.drew.cell? ⟨B,3,none⟩=some (.int .i64 am)∧V.drew.cell? ⟨B,4,none⟩=some (.int .i64 7)∧V.drew.cell? ⟨B,5,none⟩=some (.int .i64 rJ)∧V.drew.cell? ⟨B,6,none⟩=some (.int .i64 0)∧V.drew.cell? ⟨B,7,none⟩=some (.int .i64 (bk+x))∧V.drew.cell? ⟨B,8,none⟩=some (.int .i64 (fW+50000))∧V.drew.cell? ⟨B,9,none⟩=some (.bool cW)∧V.drew.cell? ⟨B,10,none⟩=some (.int .i64 sS)∧V.drew.cell? ⟨B,11,none⟩=some (.int .i64 (-1))∧V.drew.cell? ⟨w.heap.size+1+1,0,none⟩=some (.int .i64 aZ)∧V.drew.cell? ⟨w.heap.size+1+1,1,none⟩=some (.int .i64 9999)∧V.drew.cell? ⟨w.heap.size+1+1,2,none⟩=some (.int .i64 uV)∧V.drew.cell? ⟨w.heap.size+1+1,3,none⟩=some (.int .i64 50000)):=RS.of (HCN.o.below (bR.drew)) (HEN.o.below (bR.drew))
  have HRA:Hid (∀ o,(V.alloc o).cell? ⟨B,0,none⟩=some (.int .i64 iY)∧(V.alloc o).cell? ⟨B,1,none⟩=some (.int .i64 aZ)∧(V.alloc o).cell? ⟨B,2,none⟩=some (.int .i64 uV)∧(V.alloc o).cell? ⟨B,3,none⟩=some (.int .i64 am)∧(V.alloc o).cell? ⟨B,4,none⟩=some (.int .i64 7)∧(V.alloc o).cell? ⟨B,5,none⟩=some (.int .i64 rJ)∧(V.alloc o).cell? ⟨B,6,none⟩=some (.int .i64 0)∧(V.alloc o).cell? ⟨B,7,none⟩=some (.int .i64 (bk+x))∧(V.alloc o).cell? ⟨B,8,none⟩=some (.int .i64 (fW+50000))∧(V.alloc o).cell? ⟨B,9,none⟩=some (.bool cW)∧(V.alloc o).cell? ⟨B,10,none⟩=some (.int .i64 sS)∧(V.alloc o).cell? ⟨B,11,none⟩=some (.int .i64 (-1))∧(V.alloc o).cell? ⟨w.heap.size+1+1,0,none⟩=some (.int .i64 aZ)∧(V.alloc o).cell? ⟨w.heap.size+1+1,1,none⟩=some (.int .i64 9999)∧(V.alloc o).cell? ⟨w.heap.size+1+1,2,none⟩=some (.int .i64 uV)∧(V.alloc o).cell? ⟨w.heap.size+1+1,3,none⟩=some (.int .i64 50000)):=fun o=>RS.of (HCN.o.below (bR.alloc nL _)) (HEN.o.below (bR.alloc nL _))
  obtain ⟨i0,hi,hz0,hz1,hz2⟩:=Kd;obtain ⟨f0,f1,f2,f3,f4,f5,f6,f7,f8,f9,f10,f11,k0,k1,k2,k3⟩:=HRS.o
  have aa0:∀ o,(V.alloc o).cell? ⟨B,0,none⟩=some (.int .i64 iY):=fun o=>(HRA.o o).1
  have aa1:∀ o,(V.alloc o).cell? ⟨B,1,none⟩=some (.int .i64 aZ):=fun o=>(HRA.o o).2.1
  have aa2:∀ o,(V.alloc o).cell? ⟨B,2,none⟩=some (.int .i64 uV):=fun o=>(HRA.o o).2.2.1
  have aa3:∀ o,(V.alloc o).cell? ⟨B,3,none⟩=some (.int .i64 am):=fun o=>(HRA.o o).2.2.2.1
  have aa4:∀ o,(V.alloc o).cell? ⟨B,4,none⟩=some (.int .i64 7):=fun o=>(HRA.o o).2.2.2.2.1
  have aa5:∀ o,(V.alloc o).cell? ⟨B,5,none⟩=some (.int .i64 rJ):=fun o=>(HRA.o o).2.2.2.2.2.1
  have aa6:∀ o,(V.alloc o).cell? ⟨B,6,none⟩=some (.int .i64 0):=fun o=>(HRA.o o).2.2.2.2.2.2.1
  have aa7:∀ o,(V.alloc o).cell? ⟨B,7,none⟩=some (.int .i64 (bk+x)):=fun o=>(HRA.o o).2.2.2.2.2.2.2.1
  have aa8:∀ o,(V.alloc o).cell? ⟨B,8,none⟩=some (.int .i64 (fW+50000)):=fun o=>(HRA.o o).2.2.2.2.2.2.2.2.1
  have aa9:∀ o,(V.alloc o).cell? ⟨B,9,none⟩=some (.bool cW):=fun o=>(HRA.o o).2.2.2.2.2.2.2.2.2.1
  have aa10:∀ o,(V.alloc o).cell? ⟨B,10,none⟩=some (.int .i64 sS):=fun o=>(HRA.o o).2.2.2.2.2.2.2.2.2.2.1
  have aa11:∀ o,(V.alloc o).cell? ⟨B,11,none⟩=some (.int .i64 (-1)):=fun o=>(HRA.o o).2.2.2.2.2.2.2.2.2.2.2.1
  clear HRS HRD
  go_region_law (refine Jg rfl (.tmp 33) (.tmp 35) 216 rfl W.heap.size 269 i0 _ 4 32 underlying216 hi hz0 hz1 hz2 rfl (by decide) (.slice ae N ke) N (Ba E) (by simp [Act.eval]) (Av HO.o ((bR.drew).alloc nL _)) ⟨V.heap.size,0,none⟩ 1 1 [.int .i64 aZ,.int .i64 9999,.int .i64 uV,.int .i64 50000] (by simp [Act.eval]) rfl (World.news_of_block (heap_alloc_new V.drew _)) (Q1 _ _ _ _) (by have:=HNN.o;unfold maxLen;omega) (by have:=HNN.o;omega) (by have:=HB.o.size;have:=HS.o;have:=HUW.o;have:=HCN.o.lt;simp;omega) ?_;intro v5 w5 o5 gr5 _;(have o6:w5.ownsRow W.heap.size 269 4 v5 (E++[(aZ,9999,uV,50000)]).length (Ba (E++[(aZ,9999,uV,50000)])):=(by rw [Lt,List.length_append,HEE.o];exact o5));obtain ⟨a5,n5,hv5,-,-⟩:=Gh o6;subst hv5;(have HO5:Hid (w5.ownsRow W.heap.size 269 4 (.slice a5 (E++[(aZ,9999,uV,50000)]).length n5) (E++[(aZ,9999,uV,50000)]).length (Ba (E++[(aZ,9999,uV,50000)]))):=o6);(have HR5:Hid (w5.cell? ⟨B,0,none⟩=some (.int .i64 iY)∧w5.cell? ⟨B,1,none⟩=some (.int .i64 aZ)∧w5.cell? ⟨B,2,none⟩=some (.int .i64 uV)∧w5.cell? ⟨B,3,none⟩=some (.int .i64 am)∧w5.cell? ⟨B,4,none⟩=some (.int .i64 7)∧w5.cell? ⟨B,5,none⟩=some (.int .i64 rJ)∧w5.cell? ⟨B,6,none⟩=some (.int .i64 0)∧w5.cell? ⟨B,7,none⟩=some (.int .i64 (bk+x))∧w5.cell? ⟨B,8,none⟩=some (.int .i64 (fW+50000))∧w5.cell? ⟨B,9,none⟩=some (.bool cW)∧w5.cell? ⟨B,10,none⟩=some (.int .i64 sS)∧w5.cell? ⟨B,11,none⟩=some (.int .i64 (-1))∧w5.cell? ⟨w.heap.size+1+1,0,none⟩=some (.int .i64 aZ)∧w5.cell? ⟨w.heap.size+1+1,1,none⟩=some (.int .i64 9999)∧w5.cell? ⟨w.heap.size+1+1,2,none⟩=some (.int .i64 uV)∧w5.cell? ⟨w.heap.size+1+1,3,none⟩=some (.int .i64 50000)):=RS.of ((HCN.o.below ((bR.drew).alloc nL _)).grown gr5 (fun e=>by have:=(HNE.o B e.symm).2;omega)) ((HEN.o.below ((bR.drew).alloc nL _)).grown gr5 (fun e=>by have:=(HNE.o _ e.symm).1;have:=HS.o;omega)));(have HQ5:Hid (CB (w.heap.size+1) 0 Br w5):=(HU2.o.below ((bR.drew).alloc nL _)).grown gr5 (fun e=>by have:=(HNE.o _ e.symm).1;have:=HS.o;omega));(have HZ5:Hid (FZ (w.heap.size+1) 0 w5):=(HV2.o.below HU2.o.lt ((bR.drew).alloc nL _)).grown (HU2.o.below ((bR.drew).alloc nL _)).lt gr5 (fun e=>by have:=(HNE.o _ e.symm).1;have:=HS.o;omega));(have HB5:Hid (BW w w5):=((HB.o.drew).alloc HB.o.size _).grown gr5 (by have:=HB.o.size;simp;omega) (fun k hk=>by have:=(HNE.o k hk).1;have:=HS.o;omega));obtain ⟨g0,g1,g2,g3,g4,g5,g6,g7,g8,g9,g10,g11⟩:=HQ5.o;obtain ⟨z0,z1,z2,z3,z4,z5,z6,z7,z8,z9,z10,z11⟩:=HZ5.o;simp only [Nat.zero_add,Br] at g0 g1 g2 g3 g4 g5 g6 g7 g8 g9 g10 g11 z0 z1 z2 z3 z4 z5 z6 z7 z8 z9 z10 z11;generalize hM:(E++[(aZ,9999,uV,50000)]).length=M at HO5 ⊢;(have HMM:Hid _:=hM);obtain ⟨q0,q1,q2,q3,q4,q5,q6,q7,q8,q9,q10,q11,-,-,-,-⟩:=HR5.o;clear hM o5 o6 gr5 f0 f1 f2 f3 f4 f5 f6 f7 f8 f9 f10 f11 aa0 aa1 aa2 aa3 aa4 aa5 aa6 aa7 aa8 aa9 aa10 aa11 k0 k1 k2 k3)
  all_goals
   go_wp2
   refine bodyPost_ret (by simp [results,results226,go_sem,g0,g1,g2,g3,g4,g5,g6,g7,g8,g9,g10,g11];try rfl) rfl ?_
   rw [HRE.o,HTE.o,← HMM.o]
   refine Iq (c:=Es ⟨iY,aZ,uV,am,st,rJ,cl,bk,fW,cW,sS,dX⟩ x) (es:=E++[(aZ,9999,uV,50000)]) (h:=w.heap.size+1) (base:=W.heap.size) (by omega) (by have:=HS.o;omega) ?_ HB5.o
   rw [HMM.o];exact HO5.o
 ·have HRE:Hid (Dg ⟨iY,aZ,uV,am,st,rJ,cl,bk,fW,cW,sS,dX⟩ x=Bg ⟨iY,aZ,uV,am,st,rJ,cl,bk,fW,cW,sS,dX⟩ x++[(iY,9999,uV,50000)]):=by simp only [Hid,Dg,Oo];rw [if_neg hc]
  obtain ⟨W,hW⟩:∃ W,W=((w.alloc (.cells #[.int .i64 iY,.int .i64 aZ,.int .i64 uV,.int .i64 am,.int .i64 st,.int .i64 rJ,.int .i64 cl,.int .i64 bk,.int .i64 fW,.bool cW,.int .i64 sS,.int .i64 dX] 61)).alloc (.cells #[.int .i64 0,.int .i64 0,.int .i64 0,.int .i64 0,.int .i64 0,.int .i64 0,.int .i64 0,.int .i64 0,.int .i64 0,.bool false,.int .i64 0,.int .i64 0] 61)).alloc (.cells #[.int .i64 iY,.int .i64 9999,.int .i64 uV,.int .i64 50000] 269):=⟨_,rfl⟩
  have bb:∀ (u:World) (o:Obj),Below u.heap.size u (u.alloc o):=fun u o=>bR.alloc nL _
  have e1:(w.alloc (.cells #[.int .i64 iY,.int .i64 aZ,.int .i64 uV,.int .i64 am,.int .i64 st,.int .i64 rJ,.int .i64 cl,.int .i64 bk,.int .i64 fW,.bool cW,.int .i64 sS,.int .i64 dX] 61)).heap.size=w.heap.size+1:=by simp
  have e2:((w.alloc (.cells #[.int .i64 iY,.int .i64 aZ,.int .i64 uV,.int .i64 am,.int .i64 st,.int .i64 rJ,.int .i64 cl,.int .i64 bk,.int .i64 fW,.bool cW,.int .i64 sS,.int .i64 dX] 61)).alloc (.cells #[.int .i64 0,.int .i64 0,.int .i64 0,.int .i64 0,.int .i64 0,.int .i64 0,.int .i64 0,.int .i64 0,.int .i64 0,.bool false,.int .i64 0,.int .i64 0] 61)).heap.size=w.heap.size+1+1:=by simp
  have HC1:Hid (CB w.heap.size 0 ⟨iY,aZ,uV,am,st,rJ,cl,bk,fW,cW,sS,dX⟩ W):=by rw [Hid,hW];exact ((CB.new w ⟨iY,aZ,uV,am,st,rJ,cl,bk,fW,cW,sS,dX⟩ _).below (bb _ _)).below (bb _ _)
  have HC2:Hid (CB (w.heap.size+1) 0 Br W):=by
   have h:=CB.new (w.alloc (.cells #[.int .i64 iY,.int .i64 aZ,.int .i64 uV,.int .i64 am,.int .i64 st,.int .i64 rJ,.int .i64 cl,.int .i64 bk,.int .i64 fW,.bool cW,.int .i64 sS,.int .i64 dX] 61)) Br 61;rw [e1] at h
   rw [Hid,hW];exact h.below (bb _ _)
  have HF2:Hid (FZ (w.heap.size+1) 0 W):=by
   have h:=FZ.new (w.alloc (.cells #[.int .i64 iY,.int .i64 aZ,.int .i64 uV,.int .i64 am,.int .i64 st,.int .i64 rJ,.int .i64 cl,.int .i64 bk,.int .i64 fW,.bool cW,.int .i64 sS,.int .i64 dX] 61)) #[.int .i64 0,.int .i64 0,.int .i64 0,.int .i64 0,.int .i64 0,.int .i64 0,.int .i64 0,.int .i64 0,.int .i64 0,.bool false,.int .i64 0,.int .i64 0] 61;rw [e1] at h
   rw [Hid,hW];exact h.below (by rw [e2];omega) (bb _ _)
  have HE1:Hid (EB (w.heap.size+1+1) (iY,9999,uV,50000) W):=by
   rw [Hid,hW];exact ⟨by simp [go_sem],by simp [go_sem],by simp [go_sem],by simp [go_sem]⟩
  have HBW:Hid (BW w W):=by rw [Hid,hW];go_grown
  have HS:Hid (W.heap.size=w.heap.size+1+1+1):=by rw [Hid,hW];simp
  have HW:Hid _:=hW;clear hW bb e1 e2
  go_enter func226,ntmps226
  go_upto_region 4 with fail
  rw [← HW.o];clear HW;obtain ⟨f0,f1,f2,f3,f4,f5,f6,f7,f8,f9,f10,f11⟩:=HC1.o
  simp only [Nat.zero_add] at f0 f1 f2 f3 f4 f5 f6 f7 f8 f9 f10 f11
  go_wp2_with fail
  refine (HG.o _).mono ?_;rintro e u ⟨ae,ke,rfl,oe,b⟩;obtain ⟨N,hN⟩:∃ N,(Bg ⟨iY,aZ,uV,am,st,rJ,cl,bk,fW,cW,sS,dX⟩ x).length=N:=⟨_,rfl⟩
  have HNN:Hid (N≤1):=by rw [Hid,← hN];exact HTL.o
  obtain ⟨E,hE⟩:∃ E,Bg ⟨iY,aZ,uV,am,st,rJ,cl,bk,fW,cW,sS,dX⟩ x=E:=⟨_,rfl⟩
  have HEE:Hid (E.length=N):=by rw [Hid,← hE];exact hN
  have HTE:Hid (Bg ⟨iY,aZ,uV,am,st,rJ,cl,bk,fW,cW,sS,dX⟩ x=E):=hE;rw [hN] at oe ⊢;rw [hE] at oe;obtain ⟨V,hV⟩:∃ V,V=u.alloc (.cells #[.int .i64 iY,.int .i64 aZ,.int .i64 uV,.int .i64 am,.int .i64 7,.int .i64 rJ,.int .i64 0,.int .i64 (bk+x),.int .i64 (fW+50000),.bool cW,.int .i64 sS,.int .i64 (-1)] 61):=⟨_,rfl⟩
  have bV:BW u V:=by rw [hV];exact bR.alloc nL _
  have HCN:Hid (CB u.heap.size 0 ⟨iY,aZ,uV,am,7,rJ,0,bk+x,fW+50000,cW,sS,-1⟩ V):=by rw [Hid,hV];exact CB.new u ⟨iY,aZ,uV,am,7,rJ,0,bk+x,fW+50000,cW,sS,-1⟩ _
  have hWu:=b.size
  have HUW:Hid (w.heap.size+1+1<u.heap.size):=by have:=HS.o;rw [Hid];omega
  have HO:Hid (V.ownsRow W.heap.size 269 4 (.slice ae N ke) N (Ba E)):=Av oe bV
  have HNE:Hid (∀ g,(Value.slice ae N ke).ownBlock=some g→W.heap.size≤g∧g<u.heap.size):=fun g hg=>oe.lt g hg
  have HB:Hid (BW w V):=next (next HBW.o b) bV;have HU2:Hid (CB (w.heap.size+1) 0 Br V):=(HC2.o.below b).below bV;have HV2:Hid (FZ (w.heap.size+1) 0 V):=(HF2.o.below HC2.o.lt b).below (HC2.o.below b).lt bV;have HEN:Hid (EB (w.heap.size+1+1) (iY,9999,uV,50000) V):=(HE1.o.below b).below bV;have HVV:Hid _:=hV;clear b oe f0 f1 f2 f3 f4 f5 f6 f7 f8 f9 f10 f11 bV hN hE hV hWu;go_upto_region 6 with fail
  rw [← HVV.o];clear HVV;obtain ⟨B,hB⟩:∃ B,B=u.heap.size:=⟨_,rfl⟩;rw [← hB] at HCN HUW HNE ⊢;clear hB;have HRS:Hid (V.cell? ⟨B,0,none⟩=some (.int .i64 iY)∧V.cell? ⟨B,1,none⟩=some (.int .i64 aZ)∧V.cell? ⟨B,2,none⟩=some (.int .i64 uV)∧V.cell? ⟨B,3,none⟩=some (.int .i64 am)∧V.cell? ⟨B,4,none⟩=some (.int .i64 7)∧V.cell? ⟨B,5,none⟩=some (.int .i64 rJ)∧V.cell? ⟨B,6,none⟩=some (.int .i64 0)∧V.cell? ⟨B,7,none⟩=some (.int .i64 (bk+x))∧V.cell? ⟨B,8,none⟩=some (.int .i64 (fW+50000))∧V.cell? ⟨B,9,none⟩=some (.bool cW)∧V.cell? ⟨B,10,none⟩=some (.int .i64 sS)∧V.cell? ⟨B,11,none⟩=some (.int .i64 (-1))∧V.cell? ⟨w.heap.size+1+1,0,none⟩=some (.int .i64 iY)∧V.cell? ⟨w.heap.size+1+1,1,none⟩=some (.int .i64 9999)∧V.cell? ⟨w.heap.size+1+1,2,none⟩=some (.int .i64 uV)∧V.cell? ⟨w.heap.size+1+1,3,none⟩=some (.int .i64 50000)):=RS.of HCN.o HEN.o;have HRD:Hid (V.drew.cell? ⟨B,0,none⟩=some (.int .i64 iY)∧V.drew.cell? ⟨B,1,none⟩=some (.int .i64 aZ)∧V.drew.cell? ⟨B,2,none⟩=some (.int .i64 uV)∧V.drew.cell? ⟨B,3,none⟩=some (.int .i64 am)∧V.drew.cell? ⟨B,4,none⟩=some (.int .i64 7)∧V.drew.cell? ⟨B,5,none⟩=some (.int .i64 rJ)∧V.drew.cell? ⟨B,6,none⟩=some (.int .i64 0)∧V.drew.cell? ⟨B,7,none⟩=some (.int .i64 (bk+x))∧V.drew.cell? ⟨B,8,none⟩=some (.int .i64 (fW+50000))∧V.drew.cell? ⟨B,9,none⟩=some (.bool cW)∧V.drew.cell? ⟨B,10,none⟩=some (.int .i64 sS)∧V.drew.cell? ⟨B,11,none⟩=some (.int .i64 (-1))∧V.drew.cell? ⟨w.heap.size+1+1,0,none⟩=some (.int .i64 iY)∧V.drew.cell? ⟨w.heap.size+1+1,1,none⟩=some (.int .i64 9999)∧V.drew.cell? ⟨w.heap.size+1+1,2,none⟩=some (.int .i64 uV)∧V.drew.cell? ⟨w.heap.size+1+1,3,none⟩=some (.int .i64 50000)):=RS.of (HCN.o.below (bR.drew)) (HEN.o.below (bR.drew))
  have HRA:Hid (∀ o,(V.alloc o).cell? ⟨B,0,none⟩=some (.int .i64 iY)∧(V.alloc o).cell? ⟨B,1,none⟩=some (.int .i64 aZ)∧(V.alloc o).cell? ⟨B,2,none⟩=some (.int .i64 uV)∧(V.alloc o).cell? ⟨B,3,none⟩=some (.int .i64 am)∧(V.alloc o).cell? ⟨B,4,none⟩=some (.int .i64 7)∧(V.alloc o).cell? ⟨B,5,none⟩=some (.int .i64 rJ)∧(V.alloc o).cell? ⟨B,6,none⟩=some (.int .i64 0)∧(V.alloc o).cell? ⟨B,7,none⟩=some (.int .i64 (bk+x))∧(V.alloc o).cell? ⟨B,8,none⟩=some (.int .i64 (fW+50000))∧(V.alloc o).cell? ⟨B,9,none⟩=some (.bool cW)∧(V.alloc o).cell? ⟨B,10,none⟩=some (.int .i64 sS)∧(V.alloc o).cell? ⟨B,11,none⟩=some (.int .i64 (-1))∧(V.alloc o).cell? ⟨w.heap.size+1+1,0,none⟩=some (.int .i64 iY)∧(V.alloc o).cell? ⟨w.heap.size+1+1,1,none⟩=some (.int .i64 9999)∧(V.alloc o).cell? ⟨w.heap.size+1+1,2,none⟩=some (.int .i64 uV)∧(V.alloc o).cell? ⟨w.heap.size+1+1,3,none⟩=some (.int .i64 50000)):=fun o=>RS.of (HCN.o.below (bR.alloc nL _)) (HEN.o.below (bR.alloc nL _))
  obtain ⟨i0,hi,hz0,hz1,hz2⟩:=Kd;obtain ⟨f0,f1,f2,f3,f4,f5,f6,f7,f8,f9,f10,f11,k0,k1,k2,k3⟩:=HRS.o
  have aa0:∀ o,(V.alloc o).cell? ⟨B,0,none⟩=some (.int .i64 iY):=fun o=>(HRA.o o).1
  have aa1:∀ o,(V.alloc o).cell? ⟨B,1,none⟩=some (.int .i64 aZ):=fun o=>(HRA.o o).2.1
  have aa2:∀ o,(V.alloc o).cell? ⟨B,2,none⟩=some (.int .i64 uV):=fun o=>(HRA.o o).2.2.1
  have aa3:∀ o,(V.alloc o).cell? ⟨B,3,none⟩=some (.int .i64 am):=fun o=>(HRA.o o).2.2.2.1
  have aa4:∀ o,(V.alloc o).cell? ⟨B,4,none⟩=some (.int .i64 7):=fun o=>(HRA.o o).2.2.2.2.1
  have aa5:∀ o,(V.alloc o).cell? ⟨B,5,none⟩=some (.int .i64 rJ):=fun o=>(HRA.o o).2.2.2.2.2.1
  have aa6:∀ o,(V.alloc o).cell? ⟨B,6,none⟩=some (.int .i64 0):=fun o=>(HRA.o o).2.2.2.2.2.2.1
  have aa7:∀ o,(V.alloc o).cell? ⟨B,7,none⟩=some (.int .i64 (bk+x)):=fun o=>(HRA.o o).2.2.2.2.2.2.2.1
  have aa8:∀ o,(V.alloc o).cell? ⟨B,8,none⟩=some (.int .i64 (fW+50000)):=fun o=>(HRA.o o).2.2.2.2.2.2.2.2.1
  have aa9:∀ o,(V.alloc o).cell? ⟨B,9,none⟩=some (.bool cW):=fun o=>(HRA.o o).2.2.2.2.2.2.2.2.2.1
  have aa10:∀ o,(V.alloc o).cell? ⟨B,10,none⟩=some (.int .i64 sS):=fun o=>(HRA.o o).2.2.2.2.2.2.2.2.2.2.1
  have aa11:∀ o,(V.alloc o).cell? ⟨B,11,none⟩=some (.int .i64 (-1)):=fun o=>(HRA.o o).2.2.2.2.2.2.2.2.2.2.2.1
  clear HRS HRD
  go_region_law (refine Jg rfl (.tmp 33) (.tmp 35) 216 rfl W.heap.size 269 i0 _ 4 32 underlying216 hi hz0 hz1 hz2 rfl (by decide) (.slice ae N ke) N (Ba E) (by simp [Act.eval]) (Av HO.o ((bR.drew).alloc nL _)) ⟨V.heap.size,0,none⟩ 1 1 [.int .i64 iY,.int .i64 9999,.int .i64 uV,.int .i64 50000] (by simp [Act.eval]) rfl (World.news_of_block (heap_alloc_new V.drew _)) (Q1 _ _ _ _) (by have:=HNN.o;unfold maxLen;omega) (by have:=HNN.o;omega) (by have:=HB.o.size;have:=HS.o;have:=HUW.o;have:=HCN.o.lt;simp;omega) ?_;intro v5 w5 o5 gr5 _;(have o6:w5.ownsRow W.heap.size 269 4 v5 (E++[(iY,9999,uV,50000)]).length (Ba (E++[(iY,9999,uV,50000)])):=(by rw [Lt,List.length_append,HEE.o];exact o5));obtain ⟨a5,n5,hv5,-,-⟩:=Gh o6;subst hv5;(have HO5:Hid (w5.ownsRow W.heap.size 269 4 (.slice a5 (E++[(iY,9999,uV,50000)]).length n5) (E++[(iY,9999,uV,50000)]).length (Ba (E++[(iY,9999,uV,50000)]))):=o6);(have HR5:Hid (w5.cell? ⟨B,0,none⟩=some (.int .i64 iY)∧w5.cell? ⟨B,1,none⟩=some (.int .i64 aZ)∧w5.cell? ⟨B,2,none⟩=some (.int .i64 uV)∧w5.cell? ⟨B,3,none⟩=some (.int .i64 am)∧w5.cell? ⟨B,4,none⟩=some (.int .i64 7)∧w5.cell? ⟨B,5,none⟩=some (.int .i64 rJ)∧w5.cell? ⟨B,6,none⟩=some (.int .i64 0)∧w5.cell? ⟨B,7,none⟩=some (.int .i64 (bk+x))∧w5.cell? ⟨B,8,none⟩=some (.int .i64 (fW+50000))∧w5.cell? ⟨B,9,none⟩=some (.bool cW)∧w5.cell? ⟨B,10,none⟩=some (.int .i64 sS)∧w5.cell? ⟨B,11,none⟩=some (.int .i64 (-1))∧w5.cell? ⟨w.heap.size+1+1,0,none⟩=some (.int .i64 iY)∧w5.cell? ⟨w.heap.size+1+1,1,none⟩=some (.int .i64 9999)∧w5.cell? ⟨w.heap.size+1+1,2,none⟩=some (.int .i64 uV)∧w5.cell? ⟨w.heap.size+1+1,3,none⟩=some (.int .i64 50000)):=RS.of ((HCN.o.below ((bR.drew).alloc nL _)).grown gr5 (fun e=>by have:=(HNE.o B e.symm).2;omega)) ((HEN.o.below ((bR.drew).alloc nL _)).grown gr5 (fun e=>by have:=(HNE.o _ e.symm).1;have:=HS.o;omega)));(have HQ5:Hid (CB (w.heap.size+1) 0 Br w5):=(HU2.o.below ((bR.drew).alloc nL _)).grown gr5 (fun e=>by have:=(HNE.o _ e.symm).1;have:=HS.o;omega));(have HZ5:Hid (FZ (w.heap.size+1) 0 w5):=(HV2.o.below HU2.o.lt ((bR.drew).alloc nL _)).grown (HU2.o.below ((bR.drew).alloc nL _)).lt gr5 (fun e=>by have:=(HNE.o _ e.symm).1;have:=HS.o;omega));(have HB5:Hid (BW w w5):=((HB.o.drew).alloc HB.o.size _).grown gr5 (by have:=HB.o.size;simp;omega) (fun k hk=>by have:=(HNE.o k hk).1;have:=HS.o;omega));obtain ⟨g0,g1,g2,g3,g4,g5,g6,g7,g8,g9,g10,g11⟩:=HQ5.o;obtain ⟨z0,z1,z2,z3,z4,z5,z6,z7,z8,z9,z10,z11⟩:=HZ5.o;simp only [Nat.zero_add,Br] at g0 g1 g2 g3 g4 g5 g6 g7 g8 g9 g10 g11 z0 z1 z2 z3 z4 z5 z6 z7 z8 z9 z10 z11;generalize hM:(E++[(iY,9999,uV,50000)]).length=M at HO5 ⊢;(have HMM:Hid _:=hM);obtain ⟨q0,q1,q2,q3,q4,q5,q6,q7,q8,q9,q10,q11,-,-,-,-⟩:=HR5.o;clear hM o5 o6 gr5 f0 f1 f2 f3 f4 f5 f6 f7 f8 f9 f10 f11 aa0 aa1 aa2 aa3 aa4 aa5 aa6 aa7 aa8 aa9 aa10 aa11 k0 k1 k2 k3)
  all_goals
   go_wp2
   refine bodyPost_ret (by simp [results,results226,go_sem,g0,g1,g2,g3,g4,g5,g6,g7,g8,g9,g10,g11];try rfl) rfl ?_
   rw [HRE.o,HTE.o,← HMM.o]
   refine Iq (c:=Es ⟨iY,aZ,uV,am,st,rJ,cl,bk,fW,cW,sS,dX⟩ x) (es:=E++[(iY,9999,uV,50000)]) (h:=w.heap.size+1) (base:=W.heap.size) (by omega) (by have:=HS.o;omega) ?_ HB5.o
   rw [HMM.o];exact HO5.o
end Go.Proofs.YtomiclakhjncbaaGreatDoor
