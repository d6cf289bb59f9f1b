import Derived.Test.YtomiclakhjncbaaGreatDoorKTCStart
namespace Go.Proofs.YtomiclakhjncbaaGreatDoor
open Go.RowKit Go.Proofs.Tryz
set_option maxRecDepth 100000
set_option maxHeartbeats 12800000
def kL (w:World) (es:List En) (e:Ending) (w':World):Prop :=
 ∃ r cap,e=.returned (.slice r es.length cap)/\w'.ownsRow w.heap.size 269 4 (.slice r es.length cap) es.length (Ba es)/\BW w w'
def Gr (w:World) (c:Cs) (es:List En) (e:Ending) (w':World):Prop :=
 ∃ r cap,e=.returned (.tuple #[cv c,.slice r es.length cap])/\w'.ownsRow w.heap.size 269 4 (.slice r es.length cap) es.length (Ba es)/\BW w w'
theorem Iq {w u:World} {c:Cs} {es:List En} {r:Option Addr} {cap h base:Nat} (hh:w.heap.size<=h) (hb:h<base) (ho:u.ownsRow base 269 4 (.slice r es.length cap) es.length (Ba es)) (bel:BW w u) :
  Gr w c es (.returned (.tuple #[cv c,.slice r es.length cap])) (Cz u h c) :=
 ⟨r,cap,rfl,Bi (F3 c ho (fun g hg=>by have:=(ho.lt g hg).1;omega)) (by omega),Cp c bel hh⟩
theorem Lf (w:World) (b g:Nat) (hg:g=w.heap.size) (hb:b<=w.heap.size):(w.alloc (.cells #[] 269)).ownsRow b 269 4 (.slice (some (qzA g 0)) 0 0) 0 []:=by subst hg;exact Wa w b hb
theorem Xa (w:World) (b g:Nat) (x:En) (hg:g=w.heap.size) (hb:b<=w.heap.size):(w.alloc (.cells #[qzI x.1,qzI x.2.1,qzI x.2.2.1,qzI x.2.2.2] 269)).ownsRow b 269 4 (.slice (some (qzA g 0)) 1 1) 1 (Ba [x]):=by subst hg;exact Ux w b x hb
theorem dA (c:Cs) (x:Int) (w:World):Calls prog 224 #[cv c,qzI x,.bool true] w (kL w (Bg c x)):=by
 obtain ⟨f,a,d,am,st,m,cl,bk,k,i,n,j⟩:=c;unfold cv
 by_cases h0:x=0
 ·have y:Hid (Bg ⟨f,a,d,am,st,m,cl,bk,k,i,n,j⟩ x=[]):=if_pos h0
  have z:(x == 0)=true:=by simpa using h0
  clear h0
  go_enter func224,ntmps224
  go_wp2;go_ret;rw [y.o]
  exact ⟨_,_,rfl,Lf _ _ _ (by simp) (by simp <;> omega),by go_grown⟩
 ·have y:Hid (Bg ⟨f,a,d,am,st,m,cl,bk,k,i,n,j⟩ x=[(a,f,d,x)]):=if_neg h0
  have z:=Ay h0;clear h0
  go_enter func224,ntmps224
  go_wp2;go_ret;rw [y.o]
  exact ⟨_,_,rfl,Xa _ _ _ (a,f,d,x) (by simp) (by simp <;> omega),by go_grown⟩
theorem jZ (c:Cs) (x:Int) (w:World):Calls prog 224 #[cv c,qzI x,.bool false] w (kL w (Dw c x)):=by
 obtain ⟨f,a,d,am,st,m,cl,bk,k,i,n,j⟩:=c;unfold cv;obtain ⟨W,l⟩:∃ W,W=(w.alloc (.cells #[qzI f,qzI a,qzI d,qzI am,qzI st,qzI m,qzI cl,qzI bk,qzI k,.bool i,qzI n,qzI j] 61)).alloc (.cells #[qzI a,qzI f,qzI d,qzI x] 269):=⟨_,rfl⟩;have A:Hid _:=l
 have t:Hid (BW w W):=by rw [Hid,l];go_grown
 have HK:Hid (W.cell? ⟨w.heap.size+1,0,none⟩=some (qzI a)/\W.cell? ⟨w.heap.size+1,1,none⟩=some (qzI f)/\W.cell? ⟨w.heap.size+1,2,none⟩=some (qzI d)/\W.cell? ⟨w.heap.size+1,3,none⟩=some (qzI x)):=by
  rw [Hid,l];exact ⟨by simp [go_sem],by simp [go_sem],by simp [go_sem],by simp [go_sem]⟩
 have H:Hid (W.frozen? ⟨w.heap.size+1,0,none⟩=false/\W.frozen? ⟨w.heap.size+1,1,none⟩=false/\W.frozen? ⟨w.heap.size+1,2,none⟩=false/\W.frozen? ⟨w.heap.size+1,3,none⟩=false):=by
  rw [Hid,l];exact ⟨by simp [go_sem],by simp [go_sem],by simp [go_sem],by simp [go_sem]⟩
 have q:Hid (w.heap.size+1<W.heap.size):=by rw [Hid,l];simp
 clear l
 go_enter func224,ntmps224
 go_upto_region 2 with fail
 rw [<- A.o];clear A;obtain ⟨k0,k1,k2,k3⟩:=HK.o;go_wp2_with fail
 refine (dT a f d x _).mono ?_;rintro e u ⟨rfl,b⟩;have I:Hid (BW w u):=next t.o b;have a3:Hid (w.heap.size+1<u.heap.size):=Nat.lt_of_lt_of_le q.o b.size;have q0:=(b.cell (p:=⟨w.heap.size+1,0,none⟩) q.o).trans k0;have q1:=(b.cell (p:=⟨w.heap.size+1,1,none⟩) q.o).trans k1;have q2:=(b.cell (p:=⟨w.heap.size+1,2,none⟩) q.o).trans k2;have q3:=(b.cell (p:=⟨w.heap.size+1,3,none⟩) q.o).trans k3;have z0:=(b.frozen (p:=⟨w.heap.size+1,0,none⟩) q.o).trans H.o.1;have z1:=(b.frozen (p:=⟨w.heap.size+1,1,none⟩) q.o).trans H.o.2.1;have z2:=(b.frozen (p:=⟨w.heap.size+1,2,none⟩) q.o).trans H.o.2.2.1;have z3:=(b.frozen (p:=⟨w.heap.size+1,3,none⟩) q.o).trans H.o.2.2.2;clear b k0 k1 k2 k3
 have B:Hid (Below w.heap.size w ((((u.setCell ⟨w.heap.size+1,0,none⟩ (qzI f)).setCell ⟨w.heap.size+1,1,none⟩ (qzI a)).setCell ⟨w.heap.size+1,2,none⟩ (qzI d)).setCell ⟨w.heap.size+1,3,none⟩ (qzI x))) :=
  (((I.o.setCell (show w.heap.size<=w.heap.size+1 by omega) _).setCell (show w.heap.size<=w.heap.size+1 by omega) _).setCell (show w.heap.size<=w.heap.size+1 by omega) _).setCell (show w.heap.size<=w.heap.size+1 by omega) _
 by_cases h0:x=0
 ·have y:Hid (Dw ⟨f,a,d,am,st,m,cl,bk,k,i,n,j⟩ x=[]):=if_pos h0
  have z:(x == 0)=true:=by simpa using h0
  clear h0;go_wp2;go_ret;rw [y.o]
  exact ⟨_,_,rfl,Lf _ _ _ (by simp) B.o.size,B.o.alloc B.o.size _⟩
 ·have y:Hid (Dw ⟨f,a,d,am,st,m,cl,bk,k,i,n,j⟩ x=[(f,a,d,x)]):=if_neg h0
  have z:=Ay h0;clear h0;go_wp2;go_ret;rw [y.o]
  exact ⟨_,_,rfl,Xa _ _ _ (f,a,d,x) (by simp) B.o.size,B.o.alloc B.o.size _⟩
theorem M8 (c:Cs) (x:Int) (w:World) (hb:0<=c.bk/\c.bk<=1000000000000) (hx:0<=x/\x<=1000000000000):Calls prog 225 #[cv c,qzI x] w (Gr w (I5 c x) (Bg c x)):=by
 have O:Hid (∀ u,Calls prog 224 #[cv c,qzI x,.bool true] u (kL u (Bg c x))):=fun u=>dA c x u
 obtain ⟨W,l⟩:∃ W,W=(w.alloc (.cells #[qzI c.iss,qzI c.acq,qzI c.cur,qzI c.am,qzI c.st,qzI c.rsn,qzI c.cl,qzI c.bk,qzI c.fee,.bool c.cop,qzI c.sta,qzI c.due] 61)).alloc (.cells #[qzI 0,qzI 0,qzI 0,qzI 0,qzI 0,qzI 0,qzI 0,qzI 0,qzI 0,.bool false,qzI 0,qzI 0] 61):=⟨_,rfl⟩
 have V:Below (w.alloc (.cells #[qzI c.iss,qzI c.acq,qzI c.cur,qzI c.am,qzI c.st,qzI c.rsn,qzI c.cl,qzI c.bk,qzI c.fee,.bool c.cop,qzI c.sta,qzI c.due] 61)).heap.size (w.alloc (.cells #[qzI c.iss,qzI c.acq,qzI c.cur,qzI c.am,qzI c.st,qzI c.rsn,qzI c.cl,qzI c.bk,qzI c.fee,.bool c.cop,qzI c.sta,qzI c.due] 61)) W:=by rw [l];exact bR.alloc nL _
 have e1:(w.alloc (.cells #[qzI c.iss,qzI c.acq,qzI c.cur,qzI c.am,qzI c.st,qzI c.rsn,qzI c.cl,qzI c.bk,qzI c.fee,.bool c.cop,qzI c.sta,qzI c.due] 61)).heap.size=w.heap.size+1:=by simp
 have v:Hid (CB w.heap.size 0 c W):=(CB.new w c _).below V
 have J:Hid (FZ w.heap.size 0 W):=(FZ.new w _ _).below (by simp) V
 have C:Hid (CB (w.heap.size+1) 0 Br W):=by
  have h:=CB.new (w.alloc (.cells #[qzI c.iss,qzI c.acq,qzI c.cur,qzI c.am,qzI c.st,qzI c.rsn,qzI c.cl,qzI c.bk,qzI c.fee,.bool c.cop,qzI c.sta,qzI c.due] 61)) Br 61;rw [e1] at h
  rw [Hid,l];exact h
 have L:Hid (FZ (w.heap.size+1) 0 W):=by
  have h:=FZ.new (w.alloc (.cells #[qzI c.iss,qzI c.acq,qzI c.cur,qzI c.am,qzI c.st,qzI c.rsn,qzI c.cl,qzI c.bk,qzI c.fee,.bool c.cop,qzI c.sta,qzI c.due] 61)) #[qzI 0,qzI 0,qzI 0,qzI 0,qzI 0,qzI 0,qzI 0,qzI 0,qzI 0,.bool false,qzI 0,qzI 0] 61;rw [e1] at h
  rw [Hid,l];exact h
 have t:Hid (BW w W):=by rw [Hid,l];go_grown
 have A:Hid _:=l
 have q:Hid (W.heap.size=w.heap.size+1+1):=by rw [Hid,l];simp
 clear V e1 l;obtain ⟨f,a,d,am,st,m,cl,bk,k,i,n,j⟩:=c;unfold cv at O ⊢
 simp only at O A hb ⊢
 go_enter func225,ntmps225
 go_upto_region 1 with fail
 rw [<- A.o];clear A;obtain ⟨f0,f1,f2,f3,f4,f5,f6,f7,f8,f9,f10,f11⟩:=v.o
 simp only [Nat.zero_add] at f0 f1 f2 f3 f4 f5 f6 f7 f8 f9 f10 f11
 go_wp2_with fail
 refine (O.o _).mono ?_;rintro e u ⟨ae,ke,rfl,oe,b⟩;have Z:Hid (u.ownsRow W.heap.size 269 4 (.slice ae (Bg ⟨f,a,d,am,st,m,cl,bk,k,i,n,j⟩ x).length ke) (Bg ⟨f,a,d,am,st,m,cl,bk,k,i,n,j⟩ x).length (Ba (Bg ⟨f,a,d,am,st,m,cl,bk,k,i,n,j⟩ x))):=oe;have I:Hid (BW w u):=next t.o b;have R:Hid (CB w.heap.size 0 ⟨f,a,d,am,st,m,cl,bk,k,i,n,j⟩ u):=v.o.below b;have T:Hid (FZ w.heap.size 0 u):=J.o.below v.o.lt b;have S:Hid (CB (w.heap.size+1) 0 Br u):=C.o.below b;have U:Hid (FZ (w.heap.size+1) 0 u):=L.o.below C.o.lt b;clear b oe f0 f1 f2 f3 f4 f5 f6 f7 f8 f9 f10 f11;obtain ⟨f0,f1,f2,f3,f4,f5,f6,f7,f8,f9,f10,f11⟩:=R.o;obtain ⟨g0,g1,g2,g3,g4,g5,g6,g7,g8,g9,D,F⟩:=S.o;obtain ⟨y0,y1,y2,y3,y4,y5,y6,y7,y8,y9,G,Y⟩:=T.o;obtain ⟨z0,z1,z2,z3,z4,z5,z6,z7,z8,z9,z10,z11⟩:=U.o
 simp only [Nat.zero_add,Br] at f0 f1 f2 f3 f4 f5 f6 f7 f8 f9 f10 f11 g0 g1 g2 g3 g4 g5 g6 g7 g8 g9 D F y0 y1 y2 y3 y4 y5 y6 y7 y8 y9 G Y z0 z1 z2 z3 z4 z5 z6 z7 z8 z9 z10 z11
 clear y0 y1 y2 y3 y5 y8 y9 G;obtain ⟨N,X⟩:∃ N,(Bg ⟨f,a,d,am,st,m,cl,bk,k,i,n,j⟩ x).length=N:=⟨_,rfl⟩;have M:Hid _:=X;rw [X];clear X;go_wp2
 refine bodyPost_ret (by simp [results,results225,go_sem,g0,g1,g2,g3,g4,g5,g6,g7,g8,g9,D,F];try rfl) rfl ?_
 rw [<- M.o]
 refine Iq (c:=I5 ⟨f,a,d,am,st,m,cl,bk,k,i,n,j⟩ x) (h:=w.heap.size+1) (base:=W.heap.size) (by omega) (by have:=q.o;omega) ?_ ?_
 ·have s:∀ g,(Value.slice ae (Bg ⟨f,a,d,am,st,m,cl,bk,k,i,n,j⟩ x).length ke).ownBlock=some g->g≠w.heap.size:=fun g hg=>by have:=(Z.o.lt g hg).1;have:=q.o;omega
  exact A5 (A5 (A5 (A5 Z.o _ _ s) _ _ s) _ _ s) _ _ s
 ·exact (((I.o.setCell nL _).setCell nL _).setCell nL _).setCell nL _
end Go.Proofs.YtomiclakhjncbaaGreatDoor
