import Derived.Test.YtfpafnefpmmofaaGreatDoorKWCStart
namespace Go.Proofs.YtfpafnefpmmofaaGreatDoor
open Go.RowKit Go.Proofs.Tryz
set_option maxRecDepth 100000
set_option maxHeartbeats 12800000
def zQ (w:ql) (es:List En) (e:Ending) (w':ql):Prop :=
 ∃ ao cap,e=.returned (qf ao es.length cap)/\w'.ownsRow w.heap.size 217 4 (qf ao es.length cap) es.length (B9 es)/\BW w w'
def Ix (w:ql) (c:Cs) (es:List En) (e:Ending) (w':ql):Prop :=
 ∃ ao cap,e=.returned (.tuple #[cv c,qf ao es.length cap])/\w'.ownsRow w.heap.size 217 4 (qf ao es.length cap) es.length (B9 es)/\BW w w'
theorem Ll {w u:ql} {c:Cs} {es:List En} {ao:qm} {cap h base:Nat} (hh:w.heap.size<=h) (hb:h<base) (ho:u.ownsRow base 217 4 (qf ao es.length cap) es.length (B9 es)) (bel:BW w u) :
  Ix w c es (.returned (.tuple #[cv c,qf ao es.length cap])) (Dl u h c) :=
 ⟨ao,cap,rfl,Bz (Hy c ho (λg B=>by have:=(ho.lt g B).1;omega)) (by omega),Dc c bel hh⟩
theorem Pm (w:ql) (b g:Nat) (B:g=w.heap.size) (hb:b<=w.heap.size):(w.alloc (.cells #[] 217)).ownsRow b 217 4 (qf (some (qzA g 0)) 0 0) 0 []:=by subst B;exact fV w b hb
theorem gM (w:ql) (b g:Nat) (x:En) (B:g=w.heap.size) (hb:b<=w.heap.size):(w.alloc (.cells #[qzI x.1,qzI x.2.1,qzI x.2.2.1,qzI x.2.2.2] 217)).ownsRow b 217 4 (qf (some (qzA g 0)) 1 1) 1 (B9 [x]):=by subst B;exact dS w b x hb
theorem qS (c:Cs) (x:Int) (w:ql):qi 155 #[cv c,qzI x,.bool true] w (zQ w (Ck c x)):=by
 obtain ⟨f,a,d,am,st,q,cl,bk,n,k,r,l⟩:=c;unfold cv
 by_cases h0:x=0
 ·have z:qj (Ck ⟨f,a,d,am,st,q,cl,bk,n,k,r,l⟩ x=[]):=if_pos h0
  have A:(x == 0)=true:=by simpa using h0
  clear h0
  go_enter func155,ntmps155
  go_wp2;go_ret;rw [z.o]
  exact ⟨_,_,rfl,Pm _ _ _ (by simp) (by simp <;> omega),by go_grown⟩
 ·have z:qj (Ck ⟨f,a,d,am,st,q,cl,bk,n,k,r,l⟩ x=[(a,f,d,x)]):=if_neg h0
  have A:=A8 h0;clear h0
  go_enter func155,ntmps155
  go_wp2;go_ret;rw [z.o]
  exact ⟨_,_,rfl,gM _ _ _ (a,f,d,x) (by simp) (by simp <;> omega),by go_grown⟩
theorem zV (c:Cs) (x:Int) (w:ql):qi 155 #[cv c,qzI x,.bool false] w (zQ w (Ez c x)):=by
 obtain ⟨f,a,d,am,st,q,cl,bk,n,k,r,l⟩:=c;unfold cv;obtain ⟨W,i⟩:=A0 ((w.alloc (.cells #[qzI f,qzI a,qzI d,qzI am,qzI st,qzI q,qzI cl,qzI bk,qzI n,.bool k,qzI r,qzI l] 111)).alloc (.cells #[qzI a,qzI f,qzI d,qzI x] 217));have C:qj _:=i
 have v:qj (BW w W):=by rw [qj,i];go_grown
 have HK:qj (W.cell? ⟨w.heap.size+1,0,none⟩=some (qzI a)/\W.cell? ⟨w.heap.size+1,1,none⟩=some (qzI f)/\W.cell? ⟨w.heap.size+1,2,none⟩=some (qzI d)/\W.cell? ⟨w.heap.size+1,3,none⟩=some (qzI x)):=by
  rw [qj,i];exact ⟨by simp [go_sem],by simp [go_sem],by simp [go_sem],by simp [go_sem]⟩
 have J:qj (W.frozen? ⟨w.heap.size+1,0,none⟩=false/\W.frozen? ⟨w.heap.size+1,1,none⟩=false/\W.frozen? ⟨w.heap.size+1,2,none⟩=false/\W.frozen? ⟨w.heap.size+1,3,none⟩=false):=by
  rw [qj,i];exact ⟨by simp [go_sem],by simp [go_sem],by simp [go_sem],by simp [go_sem]⟩
 have j:qj (w.heap.size+1<W.heap.size):=by rw [qj,i];simp
 clear i
 go_enter func155,ntmps155
 go_upto_region 2 with fail
 rw [<- C.o];clear C;obtain ⟨k0,k1,k2,k3⟩:=HK.o;go_wp2_with fail
 refine (sJ a f d x _).m ?_;rintro e u ⟨rfl,b⟩;have L:=Aa (next v.o b);have a4:=Aa (jd j.o b.size);have q0:=(b.cell (p:=⟨w.heap.size+1,0,none⟩) j.o).t k0;have q1:=(b.cell (p:=⟨w.heap.size+1,1,none⟩) j.o).t k1;have q2:=(b.cell (p:=⟨w.heap.size+1,2,none⟩) j.o).t k2;have q3:=(b.cell (p:=⟨w.heap.size+1,3,none⟩) j.o).t k3;have z0:=(b.frozen (p:=⟨w.heap.size+1,0,none⟩) j.o).t J.o.1;have z1:=(b.frozen (p:=⟨w.heap.size+1,1,none⟩) j.o).t J.o.2.1;have z2:=(b.frozen (p:=⟨w.heap.size+1,2,none⟩) j.o).t J.o.2.2.1;have z3:=(b.frozen (p:=⟨w.heap.size+1,3,none⟩) j.o).t J.o.2.2.2;clear b k0 k1 k2 k3
 have D:qj (Below w.heap.size w ((((u.setCell ⟨w.heap.size+1,0,none⟩ (qzI f)).setCell ⟨w.heap.size+1,1,none⟩ (qzI a)).setCell ⟨w.heap.size+1,2,none⟩ (qzI d)).setCell ⟨w.heap.size+1,3,none⟩ (qzI x))) :=
  (((L.o.setCell (show w.heap.size<=w.heap.size+1 by omega) _).setCell (show w.heap.size<=w.heap.size+1 by omega) _).setCell (show w.heap.size<=w.heap.size+1 by omega) _).setCell (show w.heap.size<=w.heap.size+1 by omega) _
 by_cases h0:x=0
 ·have z:qj (Ez ⟨f,a,d,am,st,q,cl,bk,n,k,r,l⟩ x=[]):=if_pos h0
  have A:(x == 0)=true:=by simpa using h0
  clear h0;go_wp2;go_ret;rw [z.o]
  exact ⟨_,_,rfl,Pm _ _ _ (by simp) D.o.size,D.o.alloc D.o.size _⟩
 ·have z:qj (Ez ⟨f,a,d,am,st,q,cl,bk,n,k,r,l⟩ x=[(f,a,d,x)]):=if_neg h0
  have A:=A8 h0;clear h0;go_wp2;go_ret;rw [z.o]
  exact ⟨_,_,rfl,gM _ _ _ (f,a,d,x) (by simp) D.o.size,D.o.alloc D.o.size _⟩
theorem Ri (c:Cs) (x:Int) (w:ql) (hb:0<=c.bk/\c.bk<=1000000000000) (hx:0<=x/\x<=1000000000000):qi 156 #[cv c,qzI x] w (Ix w (Mr c x) (Ck c x)):=by
 have S:qj (∀ u,qi 155 #[cv c,qzI x,.bool true] u (zQ u (Ck c x))):=λu=>qS c x u
 obtain ⟨W,i⟩:=A0 ((w.alloc (.cells #[qzI c.iss,qzI c.acq,qzI c.cur,qzI c.am,qzI c.st,qzI c.rsn,qzI c.cl,qzI c.bk,qzI c.fee,.bool c.cop,qzI c.sta,qzI c.due] 111)).alloc (.cells #[qzI 0,qzI 0,qzI 0,qzI 0,qzI 0,qzI 0,qzI 0,qzI 0,qzI 0,.bool false,qzI 0,qzI 0] 111))
 have Y:Below (w.alloc (.cells #[qzI c.iss,qzI c.acq,qzI c.cur,qzI c.am,qzI c.st,qzI c.rsn,qzI c.cl,qzI c.bk,qzI c.fee,.bool c.cop,qzI c.sta,qzI c.due] 111)).heap.size (w.alloc (.cells #[qzI c.iss,qzI c.acq,qzI c.cur,qzI c.am,qzI c.st,qzI c.rsn,qzI c.cl,qzI c.bk,qzI c.fee,.bool c.cop,qzI c.sta,qzI c.due] 111)) W:=by rw [i];exact bR.alloc nL _
 have e1:(w.alloc (.cells #[qzI c.iss,qzI c.acq,qzI c.cur,qzI c.am,qzI c.st,qzI c.rsn,qzI c.cl,qzI c.bk,qzI c.fee,.bool c.cop,qzI c.sta,qzI c.due] 111)).heap.size=w.heap.size+1:=by simp
 have y:=Aa ((CB.new w c _).below Y)
 have M:=Aa ((FZ.new w _ _).below (by simp) Y)
 have F:qj (CB (w.heap.size+1) 0 Ct W):=by
  have h:=CB.new (w.alloc (.cells #[qzI c.iss,qzI c.acq,qzI c.cur,qzI c.am,qzI c.st,qzI c.rsn,qzI c.cl,qzI c.bk,qzI c.fee,.bool c.cop,qzI c.sta,qzI c.due] 111)) Ct 111;rw [e1] at h
  rw [qj,i];exact h
 have O:qj (FZ (w.heap.size+1) 0 W):=by
  have h:=FZ.new (w.alloc (.cells #[qzI c.iss,qzI c.acq,qzI c.cur,qzI c.am,qzI c.st,qzI c.rsn,qzI c.cl,qzI c.bk,qzI c.fee,.bool c.cop,qzI c.sta,qzI c.due] 111)) #[qzI 0,qzI 0,qzI 0,qzI 0,qzI 0,qzI 0,qzI 0,qzI 0,qzI 0,.bool false,qzI 0,qzI 0] 111;rw [e1] at h
  rw [qj,i];exact h
 have v:qj (BW w W):=by rw [qj,i];go_grown
 have C:qj _:=i
 have j:qj (W.heap.size=w.heap.size+1+1):=by rw [qj,i];simp
 clear Y e1 i;obtain ⟨f,a,d,am,st,q,cl,bk,n,k,r,l⟩:=c;unfold cv at S ⊢
 simp only at S C hb ⊢
 go_enter func156,ntmps156
 go_upto_region 1 with fail
 rw [<- C.o];clear C;obtain ⟨f0,f1,f2,f3,f4,f5,f6,f7,f8,f9,f10,f11⟩:=y.o
 simp only [qu] at f0 f1 f2 f3 f4 f5 f6 f7 f8 f9 f10 f11
 go_wp2_with fail
 refine (S.o _).m ?_;rintro e u ⟨ae,ke,rfl,oe,b⟩;have HO:=Aa oe;have L:=Aa (next v.o b);have T:=Aa (y.o.below b);have V:=Aa (M.o.below y.o.lt b);have U:=Aa (F.o.below b);have X:=Aa (O.o.below F.o.lt b);clear b oe f0 f1 f2 f3 f4 f5 f6 f7 f8 f9 f10 f11;obtain ⟨f0,f1,f2,f3,f4,f5,f6,f7,f8,f9,f10,f11⟩:=T.o;obtain ⟨g0,g1,g2,g3,g4,g5,g6,g7,g8,g9,G,H⟩:=U.o;obtain ⟨y0,y1,y2,y3,y4,y5,y6,y7,y8,y9,I,a3⟩:=V.o;obtain ⟨z0,z1,z2,z3,z4,z5,z6,z7,z8,z9,z10,z11⟩:=X.o
 simp only [qu,Ct] at f0 f1 f2 f3 f4 f5 f6 f7 f8 f9 f10 f11 g0 g1 g2 g3 g4 g5 g6 g7 g8 g9 G H y0 y1 y2 y3 y4 y5 y6 y7 y8 y9 I a3 z0 z1 z2 z3 z4 z5 z6 z7 z8 z9 z10 z11
 clear y0 y1 y2 y3 y5 y8 y9 I;obtain ⟨N,Z⟩:=Ae ((Ck ⟨f,a,d,am,st,q,cl,bk,n,k,r,l⟩ x).length);have R:qj _:=Z;rw [Z];clear Z;go_wp2
 refine bodyPost_ret (by simp [results,results156,go_sem,g0,g1,g2,g3,g4,g5,g6,g7,g8,g9,G,H];try rfl) rfl ?_
 rw [<- R.o]
 refine Ll (c:=Mr ⟨f,a,d,am,st,q,cl,bk,n,k,r,l⟩ x) (h:=w.heap.size+1) (base:=W.heap.size) (by omega) (by have:=j.o;omega) ?_ ?_
 ·have s:∀ g,(Value.slice ae (Ck ⟨f,a,d,am,st,q,cl,bk,n,k,r,l⟩ x).length ke).ownBlock=some g->g≠w.heap.size:=λg B=>by have:=(HO.o.lt g B).1;have:=j.o;omega
  exact Bf (Bf (Bf (Bf HO.o _ _ s) _ _ s) _ _ s) _ _ s
 ·exact (((L.o.setCell nL _).setCell nL _).setCell nL _).setCell nL _
end Go.Proofs.YtfpafnefpmmofaaGreatDoor
