import Derived.Test.YtomiclakhjncbaaGreatDoorKCCStart
namespace Go.Proofs.YtomiclakhjncbaaGreatDoor
open Go.RowKit Go.Proofs.Tryz
set_option maxRecDepth 100000
set_option maxHeartbeats 12800000
def kL (w:World) (es:List En) (e:Ending) (w':World):Prop :=
 ∃ ao cap,e=.returned (.slice ao es.length cap)∧w'.ownsRow w.heap.size 269 4 (.slice ao es.length cap) es.length (Ba es)∧BW w w'
def Gr (w:World) (c:Cs) (es:List En) (e:Ending) (w':World):Prop :=
 ∃ ao cap,e=.returned (.tuple #[cv c,.slice ao es.length cap])∧w'.ownsRow w.heap.size 269 4 (.slice ao es.length cap) es.length (Ba es)∧BW w w'
theorem Iq {w u:World} {c:Cs} {es:List En} {ao:Option Addr} {cap h base:Nat} (hh:w.heap.size≤h) (hb:h<base) (ho:u.ownsRow base 269 4 (.slice ao es.length cap) es.length (Ba es)) (bel:BW w u) :
  Gr w c es (.returned (.tuple #[cv c,.slice ao es.length cap])) (Cz u h c) :=
 ⟨ao,cap,rfl,Bi (F3 c ho (fun g hg=>by have:=(ho.lt g hg).1;omega)) (by omega),Cp c bel hh⟩
theorem Lf (w:World) (b g:Nat) (hg:g=w.heap.size) (hb:b≤w.heap.size):(w.alloc (.cells #[] 269)).ownsRow b 269 4 (.slice (some ⟨g,0,none⟩) 0 0) 0 []:=by subst hg;exact Wa w b hb
theorem Xa (w:World) (b g:Nat) (x:En) (hg:g=w.heap.size) (hb:b≤w.heap.size):(w.alloc (.cells #[.int .i64 x.1,.int .i64 x.2.1,.int .i64 x.2.2.1,.int .i64 x.2.2.2] 269)).ownsRow b 269 4 (.slice (some ⟨g,0,none⟩) 1 1) 1 (Ba [x]):=by subst hg;exact Ux w b x hb
theorem dA (c:Cs) (x:Int) (w:World):Calls prog 224 #[cv c,.int .i64 x,.bool true] w (kL w (Bg c x)):=by
 obtain ⟨iY,aZ,cQ,am,st,rW,cl,bk,fW,cW,sS,dX⟩:=c;unfold cv
 by_cases h0:x=0
 ·have HE:Hid (Bg ⟨iY,aZ,cQ,am,st,rW,cl,bk,fW,cW,sS,dX⟩ x=[]):=if_pos h0
  have h0':(x == 0)=true:=by simpa using h0
  clear h0
  go_enter func224,ntmps224
  go_wp2;go_ret;rw [HE.o]
  exact ⟨_,_,rfl,Lf _ _ _ (by simp) (by simp <;> omega),by go_grown⟩
 ·have HE:Hid (Bg ⟨iY,aZ,cQ,am,st,rW,cl,bk,fW,cW,sS,dX⟩ x=[(aZ,iY,cQ,x)]):=if_neg h0
  have h0':=Ay h0;clear h0
  go_enter func224,ntmps224
  go_wp2;go_ret;rw [HE.o]
  exact ⟨_,_,rfl,Xa _ _ _ (aZ,iY,cQ,x) (by simp) (by simp <;> omega),by go_grown⟩
theorem jZ (c:Cs) (x:Int) (w:World):Calls prog 224 #[cv c,.int .i64 x,.bool false] w (kL w (Dw c x)):=by
 obtain ⟨iY,aZ,cQ,am,st,rW,cl,bk,fW,cW,sS,dX⟩:=c;unfold cv;obtain ⟨W,hW⟩:∃ W,W=(w.alloc (.cells #[.int .i64 iY,.int .i64 aZ,.int .i64 cQ,.int .i64 am,.int .i64 st,.int .i64 rW,.int .i64 cl,.int .i64 bk,.int .i64 fW,.bool cW,.int .i64 sS,.int .i64 dX] 61)).alloc (.cells #[.int .i64 aZ,.int .i64 iY,.int .i64 cQ,.int .i64 x] 269):=⟨_,rfl⟩;have HW:Hid _:=hW
 have HBW:Hid (BW w W):=by rw [Hid,hW];go_grown
 have HK:Hid (W.cell? ⟨w.heap.size+1,0,none⟩=some (.int .i64 aZ)∧W.cell? ⟨w.heap.size+1,1,none⟩=some (.int .i64 iY)∧W.cell? ⟨w.heap.size+1,2,none⟩=some (.int .i64 cQ)∧W.cell? ⟨w.heap.size+1,3,none⟩=some (.int .i64 x)):=by
  rw [Hid,hW];exact ⟨by simp [go_sem],by simp [go_sem],by simp [go_sem],by simp [go_sem]⟩
 have HF:Hid (W.frozen? ⟨w.heap.size+1,0,none⟩=false∧W.frozen? ⟨w.heap.size+1,1,none⟩=false∧W.frozen? ⟨w.heap.size+1,2,none⟩=false∧W.frozen? ⟨w.heap.size+1,3,none⟩=false):=by
  rw [Hid,hW];exact ⟨by simp [go_sem],by simp [go_sem],by simp [go_sem],by simp [go_sem]⟩
 have HS:Hid (w.heap.size+1<W.heap.size):=by rw [Hid,hW];simp
 clear hW
 go_enter func224,ntmps224
 go_upto_region 2 with fail
 rw [← HW.o];clear HW;obtain ⟨k0,k1,k2,k3⟩:=HK.o;go_wp2_with fail
 refine (dT aZ iY cQ x _).mono ?_;rintro e u ⟨rfl,b⟩;have HB:Hid (BW w u):=next HBW.o b;have HSU:Hid (w.heap.size+1<u.heap.size):=Nat.lt_of_lt_of_le HS.o b.size;have q0:=(b.cell (p:=⟨w.heap.size+1,0,none⟩) HS.o).trans k0;have q1:=(b.cell (p:=⟨w.heap.size+1,1,none⟩) HS.o).trans k1;have q2:=(b.cell (p:=⟨w.heap.size+1,2,none⟩) HS.o).trans k2;have q3:=(b.cell (p:=⟨w.heap.size+1,3,none⟩) HS.o).trans k3;have z0:=(b.frozen (p:=⟨w.heap.size+1,0,none⟩) HS.o).trans HF.o.1;have z1:=(b.frozen (p:=⟨w.heap.size+1,1,none⟩) HS.o).trans HF.o.2.1;have z2:=(b.frozen (p:=⟨w.heap.size+1,2,none⟩) HS.o).trans HF.o.2.2.1;have z3:=(b.frozen (p:=⟨w.heap.size+1,3,none⟩) HS.o).trans HF.o.2.2.2;clear b k0 k1 k2 k3
 have HX:Hid (Below w.heap.size w ((((u.setCell ⟨w.heap.size+1,0,none⟩ (.int .i64 iY)).setCell ⟨w.heap.size+1,1,none⟩ (.int .i64 aZ)).setCell ⟨w.heap.size+1,2,none⟩ (.int .i64 cQ)).setCell ⟨w.heap.size+1,3,none⟩ (.int .i64 x))) :=
  (((HB.o.setCell (show w.heap.size≤w.heap.size+1 by omega) _).setCell (show w.heap.size≤w.heap.size+1 by omega) _).setCell (show w.heap.size≤w.heap.size+1 by omega) _).setCell (show w.heap.size≤w.heap.size+1 by omega) _
 by_cases h0:x=0
 ·have HE:Hid (Dw ⟨iY,aZ,cQ,am,st,rW,cl,bk,fW,cW,sS,dX⟩ x=[]):=if_pos h0
  have h0':(x == 0)=true:=by simpa using h0
  clear h0;go_wp2;go_ret;rw [HE.o]
  exact ⟨_,_,rfl,Lf _ _ _ (by simp) HX.o.size,HX.o.alloc HX.o.size _⟩
 ·have HE:Hid (Dw ⟨iY,aZ,cQ,am,st,rW,cl,bk,fW,cW,sS,dX⟩ x=[(iY,aZ,cQ,x)]):=if_neg h0
  have h0':=Ay h0;clear h0;go_wp2;go_ret;rw [HE.o]
  exact ⟨_,_,rfl,Xa _ _ _ (iY,aZ,cQ,x) (by simp) HX.o.size,HX.o.alloc HX.o.size _⟩
theorem M8 (c:Cs) (x:Int) (w:World) (hb:0≤c.bk∧c.bk≤1000000000000) (hx:0≤x∧x≤1000000000000):Calls prog 225 #[cv c,.int .i64 x] w (Gr w (I5 c x) (Bg c x)):=by
 have HT:Hid (∀ u,Calls prog 224 #[cv c,.int .i64 x,.bool true] u (kL u (Bg c x))):=fun u=>dA c x u
 obtain ⟨W,hW⟩:∃ W,W=(w.alloc (.cells #[.int .i64 c.iss,.int .i64 c.acq,.int .i64 c.cur,.int .i64 c.am,.int .i64 c.st,.int .i64 c.rsn,.int .i64 c.cl,.int .i64 c.bk,.int .i64 c.fee,.bool c.cop,.int .i64 c.sta,.int .i64 c.due] 61)).alloc (.cells #[.int .i64 0,.int .i64 0,.int .i64 0,.int .i64 0,.int .i64 0,.int .i64 0,.int .i64 0,.int .i64 0,.int .i64 0,.bool false,.int .i64 0,.int .i64 0] 61):=⟨_,rfl⟩
 have b1:Below (w.alloc (.cells #[.int .i64 c.iss,.int .i64 c.acq,.int .i64 c.cur,.int .i64 c.am,.int .i64 c.st,.int .i64 c.rsn,.int .i64 c.cl,.int .i64 c.bk,.int .i64 c.fee,.bool c.cop,.int .i64 c.sta,.int .i64 c.due] 61)).heap.size (w.alloc (.cells #[.int .i64 c.iss,.int .i64 c.acq,.int .i64 c.cur,.int .i64 c.am,.int .i64 c.st,.int .i64 c.rsn,.int .i64 c.cl,.int .i64 c.bk,.int .i64 c.fee,.bool c.cop,.int .i64 c.sta,.int .i64 c.due] 61)) W:=by rw [hW];exact bR.alloc nL _
 have e1:(w.alloc (.cells #[.int .i64 c.iss,.int .i64 c.acq,.int .i64 c.cur,.int .i64 c.am,.int .i64 c.st,.int .i64 c.rsn,.int .i64 c.cl,.int .i64 c.bk,.int .i64 c.fee,.bool c.cop,.int .i64 c.sta,.int .i64 c.due] 61)).heap.size=w.heap.size+1:=by simp
 have HC1:Hid (CB w.heap.size 0 c W):=(CB.new w c _).below b1
 have HF1:Hid (FZ w.heap.size 0 W):=(FZ.new w _ _).below (by simp) b1
 have HC2:Hid (CB (w.heap.size+1) 0 Br W):=by
  have h:=CB.new (w.alloc (.cells #[.int .i64 c.iss,.int .i64 c.acq,.int .i64 c.cur,.int .i64 c.am,.int .i64 c.st,.int .i64 c.rsn,.int .i64 c.cl,.int .i64 c.bk,.int .i64 c.fee,.bool c.cop,.int .i64 c.sta,.int .i64 c.due] 61)) Br 61;rw [e1] at h
  rw [Hid,hW];exact h
 have HF2:Hid (FZ (w.heap.size+1) 0 W):=by
  have h:=FZ.new (w.alloc (.cells #[.int .i64 c.iss,.int .i64 c.acq,.int .i64 c.cur,.int .i64 c.am,.int .i64 c.st,.int .i64 c.rsn,.int .i64 c.cl,.int .i64 c.bk,.int .i64 c.fee,.bool c.cop,.int .i64 c.sta,.int .i64 c.due] 61)) #[.int .i64 0,.int .i64 0,.int .i64 0,.int .i64 0,.int .i64 0,.int .i64 0,.int .i64 0,.int .i64 0,.int .i64 0,.bool false,.int .i64 0,.int .i64 0] 61;rw [e1] at h
  rw [Hid,hW];exact h
 have HBW:Hid (BW w W):=by rw [Hid,hW];go_grown
 have HW:Hid _:=hW
 have HS:Hid (W.heap.size=w.heap.size+1+1):=by rw [Hid,hW];simp
 clear b1 e1 hW;obtain ⟨iY,aZ,cQ,am,st,rW,cl,bk,fW,cW,sS,dX⟩:=c;unfold cv at HT ⊢
 simp only at HT HW hb ⊢
 go_enter func225,ntmps225
 go_upto_region 1 with fail
 rw [← HW.o];clear HW;obtain ⟨f0,f1,f2,f3,f4,f5,f6,f7,f8,f9,f10,f11⟩:=HC1.o
 simp only [Nat.zero_add] at f0 f1 f2 f3 f4 f5 f6 f7 f8 f9 f10 f11
 go_wp2_with fail
 refine (HT.o _).mono ?_;rintro e u ⟨ae,ke,rfl,oe,b⟩;have HO:Hid (u.ownsRow W.heap.size 269 4 (.slice ae (Bg ⟨iY,aZ,cQ,am,st,rW,cl,bk,fW,cW,sS,dX⟩ x).length ke) (Bg ⟨iY,aZ,cQ,am,st,rW,cl,bk,fW,cW,sS,dX⟩ x).length (Ba (Bg ⟨iY,aZ,cQ,am,st,rW,cl,bk,fW,cW,sS,dX⟩ x))):=oe;have HB:Hid (BW w u):=next HBW.o b;have HU1:Hid (CB w.heap.size 0 ⟨iY,aZ,cQ,am,st,rW,cl,bk,fW,cW,sS,dX⟩ u):=HC1.o.below b;have HV1:Hid (FZ w.heap.size 0 u):=HF1.o.below HC1.o.lt b;have HU2:Hid (CB (w.heap.size+1) 0 Br u):=HC2.o.below b;have HV2:Hid (FZ (w.heap.size+1) 0 u):=HF2.o.below HC2.o.lt b;clear b oe f0 f1 f2 f3 f4 f5 f6 f7 f8 f9 f10 f11;obtain ⟨f0,f1,f2,f3,f4,f5,f6,f7,f8,f9,f10,f11⟩:=HU1.o;obtain ⟨g0,g1,g2,g3,g4,g5,g6,g7,g8,g9,g10,g11⟩:=HU2.o;obtain ⟨y0,y1,y2,y3,y4,y5,y6,y7,y8,y9,y10,y11⟩:=HV1.o;obtain ⟨z0,z1,z2,z3,z4,z5,z6,z7,z8,z9,z10,z11⟩:=HV2.o
 simp only [Nat.zero_add,Br] at f0 f1 f2 f3 f4 f5 f6 f7 f8 f9 f10 f11 g0 g1 g2 g3 g4 g5 g6 g7 g8 g9 g10 g11 y0 y1 y2 y3 y4 y5 y6 y7 y8 y9 y10 y11 z0 z1 z2 z3 z4 z5 z6 z7 z8 z9 z10 z11
 clear y0 y1 y2 y3 y5 y8 y9 y10;obtain ⟨N,hN⟩:∃ N,(Bg ⟨iY,aZ,cQ,am,st,rW,cl,bk,fW,cW,sS,dX⟩ x).length=N:=⟨_,rfl⟩;have HNN:Hid _:=hN;rw [hN];clear hN;go_wp2
 refine bodyPost_ret (by simp [results,results225,go_sem,g0,g1,g2,g3,g4,g5,g6,g7,g8,g9,g10,g11];try rfl) rfl ?_
 rw [← HNN.o]
 refine Iq (c:=I5 ⟨iY,aZ,cQ,am,st,rW,cl,bk,fW,cW,sS,dX⟩ x) (h:=w.heap.size+1) (base:=W.heap.size) (by omega) (by have:=HS.o;omega) ?_ ?_
 ·have hne:∀ g,(Value.slice ae (Bg ⟨iY,aZ,cQ,am,st,rW,cl,bk,fW,cW,sS,dX⟩ x).length ke).ownBlock=some g→g≠w.heap.size:=fun g hg=>by have:=(HO.o.lt g hg).1;have:=HS.o;omega
  exact A5 (A5 (A5 (A5 HO.o _ _ hne) _ _ hne) _ _ hne) _ _ hne
 ·exact (((HB.o.setCell nL _).setCell nL _).setCell nL _).setCell nL _
end Go.Proofs.YtomiclakhjncbaaGreatDoor
