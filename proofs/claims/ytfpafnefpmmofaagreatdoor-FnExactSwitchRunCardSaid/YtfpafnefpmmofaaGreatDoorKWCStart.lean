import Derived.Test.YtfpafnefpmmofaaGreatDoorKWICaseOk
import Derived.Test.YtfpafnefpmmofaaGreatDoorKWSCaseOk
namespace Go.Proofs.YtfpafnefpmmofaaGreatDoor
open Go.RowKit Go.Proofs.Tryz
set_option maxRecDepth 100000
set_option maxHeartbeats 12800000
def Ct:Cs:=⟨0,0,0,0,0,0,0,0,0,false,0,0⟩
def Mi (j i f am day:Int):Cs:=if Aq (Dp j i f am day)=true then Dp j i f am day else Ct
def Hf (j i f am day:Int):List En:=if Aq (Dp j i f am day)=true then [(j,i,f,am)] else []
def kJ (w:ql) (c:Cs) (es:List En) (ok:Bool) (e:Ending) (w':ql):Prop :=
 ∃ ao cap,e=.returned (.tuple #[cv c,qf ao es.length cap,.bool ok])/\w'.ownsRow w.heap.size 217 4 (qf ao es.length cap) es.length (B9 es)/\BW w w'
theorem fV (w:ql) (b:Nat) (hb:b<=w.heap.size):(w.alloc (.cells #[] 217)).ownsRow b 217 4 (qf (some ⟨w.heap.size,0,none⟩) 0 0) 0 []:=by
 exact World.ownsRow_lit (size:=4) w #[] 0 hb (by decide) rfl
theorem dS (w:ql) (b:Nat) (x:En) (hb:b<=w.heap.size):(w.alloc (.cells #[qzI x.1,qzI x.2.1,qzI x.2.2.1,qzI x.2.2.2] 217)).ownsRow b 217 4 (qf (some ⟨w.heap.size,0,none⟩) 1 1) 1 (B9 [x]):=by
 exact World.ownsRow_lit (size:=4) w #[qzI x.1,qzI x.2.1,qzI x.2.2.1,qzI x.2.2.2] 1 hb (by decide) rfl
theorem Hy {u:ql} {h base n size:Nat} {t:TypeId} {v:Value} {xs:List Value} (c:Cs) (o:u.ownsRow base t size v n xs) (l:∀ g,v.ownBlock=some g->g≠h):(Dl u h c).ownsRow base t size v n xs :=
 Bf (Bf (Bf (Bf (Bf (Bf (Bf (Bf (Bf (Bf (Bf (Bf o _ _ l) _ _ l) _ _ l) _ _ l) _ _ l) _ _ l) _ _ l) _ _ l) _ _ l) _ _ l) _ _ l) _ _ l
theorem Po {w u:ql} {c:Cs} {es:List En} {ok:Bool} {ao:qm} {cap:Nat} (ho:u.ownsRow (w.heap.size+1) 217 4 (qf ao es.length cap) es.length (B9 es)) (bel:BW w u) :
  kJ w c es ok (.returned (.tuple #[cv c,qf ao es.length cap,.bool ok])) (Dl u w.heap.size c) :=
 ⟨ao,cap,rfl,Bz (Hy c ho (λg hg=>by have:=(ho.lt g hg).1;omega)) (by omega),Dc c bel nL⟩
theorem kX (j i f am day:Int) (w:ql) :
  qi 121 #[qzI j,qzI i,qzI f,qzI am,qzI day] w (kJ w (Mi j i f am day) (Hf j i f am day) (Aq (Dp j i f am day))):=by
 have G:=Aa λu=>N9 (Dp j i f am day) u
 obtain ⟨W,r⟩:=A0 ((w.alloc (.cells #[qzI 0,qzI 0,qzI 0,qzI 0,qzI 0,qzI 0,qzI 0,qzI 0,qzI 0,.bool false,qzI 0,qzI 0] 111)).alloc (.cells #[qzI j,qzI i,qzI f,qzI am,qzI 0,qzI 0,qzI 0,qzI 0,qzI 0,.bool false,qzI day,qzI (-1)] 111));have R:=Aa r
 have F:qj (BW w W):=by rw [qj,r];go_grown
 have z:qj (CB w.heap.size 0 Ct W):=by
  rw [qj,r];exact (CB.new w Ct _).below (bR.alloc nL _)
 have I:qj (FZ w.heap.size 0 W):=by
  rw [qj,r];exact (FZ.new w _ _).below (by simp) (bR.alloc nL _)
 have A:qj (CB (w.heap.size+1) 0 (Dp j i f am day) W):=by
  have h:=CB.new (w.alloc (.cells #[qzI 0,qzI 0,qzI 0,qzI 0,qzI 0,qzI 0,qzI 0,qzI 0,qzI 0,.bool false,qzI 0,qzI 0] 111)) (Dp j i f am day) 111
  have e:(w.alloc (.cells #[qzI 0,qzI 0,qzI 0,qzI 0,qzI 0,qzI 0,qzI 0,qzI 0,qzI 0,.bool false,qzI 0,qzI 0] 111)).heap.size=w.heap.size+1:=by simp
  rw [e] at h
  rw [qj,r];exact h
 have HS:qj (W.heap.size=w.heap.size+1+1):=by rw [qj,r];simp
 clear r
 go_enter func121,ntmps121
 go_upto_region 2 with fail
 rw [<- R.o];clear R;obtain ⟨f0,f1,f2,f3,f4,f5,f6,f7,f8,f9,f10,f11⟩:=A.o
 simp only [qu,Dp] at f0 f1 f2 f3 f4 f5 f6 f7 f8 f9 f10 f11
 go_wp2_with fail
 refine (G.o _).m ?_;rintro e a ⟨rfl,y⟩;have HL:=Aa z.o.lt;have p:=Aa (z.o.below y);have s:=Aa (I.o.below HL.o y);have L:=Aa (A.o.below y);have q:=Aa (next F.o y)
 have D:qj (w.heap.size+1+1<=a.heap.size):=by rw [qj,<- HS.o];exact y.size
 clear y f0 f1 f2 f3 f4 f5 f6 f7 f8 f9 f10 f11;obtain ⟨z0,z1,z2,z3,z4,z5,z6,z7,z8,z9,z10,z11⟩:=s.o
 simp only [qu] at z0 z1 z2 z3 z4 z5 z6 z7 z8 z9 z10 z11
 obtain ⟨f0,f1,f2,f3,f4,f5,f6,f7,f8,f9,f10,f11⟩:=p.o
 simp only [qu,Ct] at f0 f1 f2 f3 f4 f5 f6 f7 f8 f9 f10 f11
 cases hk:Aq (Dp j i f am day)
 ·have M:qj (Mi j i f am day=Ct):=if_neg (by rw [hk];decide)
  have H:qj (Hf j i f am day=[]):=if_neg (by rw [hk];decide)
  have J:=Aa hk;clear hk
  have k:qj (∀ o,CB w.heap.size 0 Ct (a.alloc o)):=λo=>p.o.below (bR.alloc nL _)
  have d:qj (∀ o,FZ w.heap.size 0 (a.alloc o)):=λo=>s.o.below p.o.lt (bR.alloc nL _)
  have a0:∀ o,(a.alloc o).cell? ⟨w.heap.size,0,none⟩=some (qzI 0):=λo=>(k.o o).f0
  have y0:∀ o,(a.alloc o).frozen? ⟨w.heap.size,0,none⟩=false:=λo=>(d.o o).z0
  have a1:∀ o,(a.alloc o).cell? ⟨w.heap.size,1,none⟩=some (qzI 0):=λo=>(k.o o).f1
  have y1:∀ o,(a.alloc o).frozen? ⟨w.heap.size,1,none⟩=false:=λo=>(d.o o).z1
  have a2:∀ o,(a.alloc o).cell? ⟨w.heap.size,2,none⟩=some (qzI 0):=λo=>(k.o o).f2
  have y2:∀ o,(a.alloc o).frozen? ⟨w.heap.size,2,none⟩=false:=λo=>(d.o o).z2
  have S:∀ o,(a.alloc o).cell? ⟨w.heap.size,3,none⟩=some (qzI 0):=λo=>(k.o o).f3
  have y3:∀ o,(a.alloc o).frozen? ⟨w.heap.size,3,none⟩=false:=λo=>(d.o o).z3
  have T:∀ o,(a.alloc o).cell? ⟨w.heap.size,4,none⟩=some (qzI 0):=λo=>(k.o o).f4
  have y4:∀ o,(a.alloc o).frozen? ⟨w.heap.size,4,none⟩=false:=λo=>(d.o o).z4
  have U:∀ o,(a.alloc o).cell? ⟨w.heap.size,5,none⟩=some (qzI 0):=λo=>(k.o o).f5
  have y5:∀ o,(a.alloc o).frozen? ⟨w.heap.size,5,none⟩=false:=λo=>(d.o o).z5
  have V:∀ o,(a.alloc o).cell? ⟨w.heap.size,6,none⟩=some (qzI 0):=λo=>(k.o o).f6
  have y6:∀ o,(a.alloc o).frozen? ⟨w.heap.size,6,none⟩=false:=λo=>(d.o o).z6
  have X:∀ o,(a.alloc o).cell? ⟨w.heap.size,7,none⟩=some (qzI 0):=λo=>(k.o o).f7
  have y7:∀ o,(a.alloc o).frozen? ⟨w.heap.size,7,none⟩=false:=λo=>(d.o o).z7
  have Y:∀ o,(a.alloc o).cell? ⟨w.heap.size,8,none⟩=some (qzI 0):=λo=>(k.o o).f8
  have y8:∀ o,(a.alloc o).frozen? ⟨w.heap.size,8,none⟩=false:=λo=>(d.o o).z8
  have Z:∀ o,(a.alloc o).cell? ⟨w.heap.size,9,none⟩=some (.bool false):=λo=>(k.o o).f9
  have y9:∀ o,(a.alloc o).frozen? ⟨w.heap.size,9,none⟩=false:=λo=>(d.o o).z9
  have B:∀ o,(a.alloc o).cell? ⟨w.heap.size,10,none⟩=some (qzI 0):=λo=>(k.o o).f10
  have b0:∀ o,(a.alloc o).frozen? ⟨w.heap.size,10,none⟩=false:=λo=>(d.o o).z10
  have C:∀ o,(a.alloc o).cell? ⟨w.heap.size,11,none⟩=some (qzI 0):=λo=>(k.o o).f11
  have b2:∀ o,(a.alloc o).frozen? ⟨w.heap.size,11,none⟩=false:=λo=>(d.o o).z11
  clear f0 f1 f2 f3 f4 f5 f6 f7 f8 f9 f10 f11 z0 z1 z2 z3 z4 z5 z6 z7 z8 z9 z10 z11;clear G;go_wp2
  refine bodyPost_ret (by simp [results,results121,go_sem,a0,a1,a2,S,T,U,V,X,Y,Z,B,C];try rfl) rfl ?_
  rw [M.o,H.o,J.o]
  exact Po (c:=Ct) (es:=[]) (fV a _ (by have:=D.o;omega)) (q.o.alloc q.o.size _)
 ·have M:qj (Mi j i f am day=Dp j i f am day):=if_pos hk
  have H:qj (Hf j i f am day=[(j,i,f,am)]):=if_pos hk;have J:=Aa hk;clear hk;obtain ⟨g0,g1,g2,g3,g4,g5,g6,g7,g8,g9,N,O⟩:=L.o
  simp only [qu,Dp] at g0 g1 g2 g3 g4 g5 g6 g7 g8 g9 N O
  have k:qj (∀ o,CB w.heap.size 0 Ct (a.alloc o)):=λo=>p.o.below (bR.alloc nL _)
  have d:qj (∀ o,FZ w.heap.size 0 (a.alloc o)):=λo=>s.o.below p.o.lt (bR.alloc nL _)
  have a0:∀ o,(a.alloc o).cell? ⟨w.heap.size,0,none⟩=some (qzI 0):=λo=>(k.o o).f0
  have y0:∀ o,(a.alloc o).frozen? ⟨w.heap.size,0,none⟩=false:=λo=>(d.o o).z0
  have a1:∀ o,(a.alloc o).cell? ⟨w.heap.size,1,none⟩=some (qzI 0):=λo=>(k.o o).f1
  have y1:∀ o,(a.alloc o).frozen? ⟨w.heap.size,1,none⟩=false:=λo=>(d.o o).z1
  have a2:∀ o,(a.alloc o).cell? ⟨w.heap.size,2,none⟩=some (qzI 0):=λo=>(k.o o).f2
  have y2:∀ o,(a.alloc o).frozen? ⟨w.heap.size,2,none⟩=false:=λo=>(d.o o).z2
  have S:∀ o,(a.alloc o).cell? ⟨w.heap.size,3,none⟩=some (qzI 0):=λo=>(k.o o).f3
  have y3:∀ o,(a.alloc o).frozen? ⟨w.heap.size,3,none⟩=false:=λo=>(d.o o).z3
  have T:∀ o,(a.alloc o).cell? ⟨w.heap.size,4,none⟩=some (qzI 0):=λo=>(k.o o).f4
  have y4:∀ o,(a.alloc o).frozen? ⟨w.heap.size,4,none⟩=false:=λo=>(d.o o).z4
  have U:∀ o,(a.alloc o).cell? ⟨w.heap.size,5,none⟩=some (qzI 0):=λo=>(k.o o).f5
  have y5:∀ o,(a.alloc o).frozen? ⟨w.heap.size,5,none⟩=false:=λo=>(d.o o).z5
  have V:∀ o,(a.alloc o).cell? ⟨w.heap.size,6,none⟩=some (qzI 0):=λo=>(k.o o).f6
  have y6:∀ o,(a.alloc o).frozen? ⟨w.heap.size,6,none⟩=false:=λo=>(d.o o).z6
  have X:∀ o,(a.alloc o).cell? ⟨w.heap.size,7,none⟩=some (qzI 0):=λo=>(k.o o).f7
  have y7:∀ o,(a.alloc o).frozen? ⟨w.heap.size,7,none⟩=false:=λo=>(d.o o).z7
  have Y:∀ o,(a.alloc o).cell? ⟨w.heap.size,8,none⟩=some (qzI 0):=λo=>(k.o o).f8
  have y8:∀ o,(a.alloc o).frozen? ⟨w.heap.size,8,none⟩=false:=λo=>(d.o o).z8
  have Z:∀ o,(a.alloc o).cell? ⟨w.heap.size,9,none⟩=some (.bool false):=λo=>(k.o o).f9
  have y9:∀ o,(a.alloc o).frozen? ⟨w.heap.size,9,none⟩=false:=λo=>(d.o o).z9
  have B:∀ o,(a.alloc o).cell? ⟨w.heap.size,10,none⟩=some (qzI 0):=λo=>(k.o o).f10
  have b0:∀ o,(a.alloc o).frozen? ⟨w.heap.size,10,none⟩=false:=λo=>(d.o o).z10
  have C:∀ o,(a.alloc o).cell? ⟨w.heap.size,11,none⟩=some (qzI 0):=λo=>(k.o o).f11
  have b2:∀ o,(a.alloc o).frozen? ⟨w.heap.size,11,none⟩=false:=λo=>(d.o o).z11
  clear f0 f1 f2 f3 f4 f5 f6 f7 f8 f9 f10 f11 z0 z1 z2 z3 z4 z5 z6 z7 z8 z9 z10 z11;clear G;go_wp2
  refine bodyPost_ret (by simp [results,results121,go_sem,a0,a1,a2,S,T,U,V,X,Y,Z,B,C];try rfl) rfl ?_
  rw [M.o,H.o,J.o]
  exact Po (c:=Dp j i f am day) (es:=[(j,i,f,am)]) (dS a _ (j,i,f,am) (by have:=D.o;omega)) (q.o.alloc q.o.size _)
theorem lE (j i f am day:Int) (w:ql) (hc:(Lit.int .i64 f).wf=true) :
  qi 219 #[qzI j,qzI i,qzI f,qzI am,qzI day] w (kJ w (Mi j i f am day) (Hf j i f am day) (Aq (Dp j i f am day))):=by
 have G:=Aa λu=>N5 (Dp j i f am day) u hc
 obtain ⟨W,r⟩:=A0 ((w.alloc (.cells #[qzI 0,qzI 0,qzI 0,qzI 0,qzI 0,qzI 0,qzI 0,qzI 0,qzI 0,.bool false,qzI 0,qzI 0] 111)).alloc (.cells #[qzI j,qzI i,qzI f,qzI am,qzI 0,qzI 0,qzI 0,qzI 0,qzI 0,.bool false,qzI day,qzI (-1)] 111));have R:=Aa r
 have F:qj (BW w W):=by rw [qj,r];go_grown
 have z:qj (CB w.heap.size 0 Ct W):=by
  rw [qj,r];exact (CB.new w Ct _).below (bR.alloc nL _)
 have I:qj (FZ w.heap.size 0 W):=by
  rw [qj,r];exact (FZ.new w _ _).below (by simp) (bR.alloc nL _)
 have A:qj (CB (w.heap.size+1) 0 (Dp j i f am day) W):=by
  have h:=CB.new (w.alloc (.cells #[qzI 0,qzI 0,qzI 0,qzI 0,qzI 0,qzI 0,qzI 0,qzI 0,qzI 0,.bool false,qzI 0,qzI 0] 111)) (Dp j i f am day) 111
  have e:(w.alloc (.cells #[qzI 0,qzI 0,qzI 0,qzI 0,qzI 0,qzI 0,qzI 0,qzI 0,qzI 0,.bool false,qzI 0,qzI 0] 111)).heap.size=w.heap.size+1:=by simp
  rw [e] at h
  rw [qj,r];exact h
 have HS:qj (W.heap.size=w.heap.size+1+1):=by rw [qj,r];simp
 clear r
 go_enter func219,ntmps219
 go_upto_region 2 with fail
 rw [<- R.o];clear R;obtain ⟨f0,f1,f2,f3,f4,f5,f6,f7,f8,f9,f10,f11⟩:=A.o
 simp only [qu,Dp] at f0 f1 f2 f3 f4 f5 f6 f7 f8 f9 f10 f11
 go_wp2_with fail
 refine (G.o _).m ?_;rintro e a ⟨rfl,y⟩;have HL:=Aa z.o.lt;have p:=Aa (z.o.below y);have s:=Aa (I.o.below HL.o y);have L:=Aa (A.o.below y);have q:=Aa (next F.o y)
 have D:qj (w.heap.size+1+1<=a.heap.size):=by rw [qj,<- HS.o];exact y.size
 clear y f0 f1 f2 f3 f4 f5 f6 f7 f8 f9 f10 f11;obtain ⟨z0,z1,z2,z3,z4,z5,z6,z7,z8,z9,z10,z11⟩:=s.o
 simp only [qu] at z0 z1 z2 z3 z4 z5 z6 z7 z8 z9 z10 z11
 obtain ⟨f0,f1,f2,f3,f4,f5,f6,f7,f8,f9,f10,f11⟩:=p.o
 simp only [qu,Ct] at f0 f1 f2 f3 f4 f5 f6 f7 f8 f9 f10 f11
 cases hk:Aq (Dp j i f am day)
 ·have M:qj (Mi j i f am day=Ct):=if_neg (by rw [hk];decide)
  have H:qj (Hf j i f am day=[]):=if_neg (by rw [hk];decide)
  have J:=Aa hk;clear hk;clear G;go_wp2
  refine bodyPost_ret (by simp [results,results219,go_sem,f0,f1,f2,f3,f4,f5,f6,f7,f8,f9,f10,f11];try rfl) rfl ?_
  rw [M.o,H.o,J.o];exact Po (c:=Ct) (es:=[]) (jh _ _ _ _) q.o
 ·have M:qj (Mi j i f am day=Dp j i f am day):=if_pos hk
  have H:qj (Hf j i f am day=[(j,i,f,am)]):=if_pos hk;have J:=Aa hk;clear hk;obtain ⟨g0,g1,g2,g3,g4,g5,g6,g7,g8,g9,N,O⟩:=L.o
  simp only [qu,Dp] at g0 g1 g2 g3 g4 g5 g6 g7 g8 g9 N O
  have k:qj (∀ o,CB w.heap.size 0 Ct (a.alloc o)):=λo=>p.o.below (bR.alloc nL _)
  have d:qj (∀ o,FZ w.heap.size 0 (a.alloc o)):=λo=>s.o.below p.o.lt (bR.alloc nL _)
  have a0:∀ o,(a.alloc o).cell? ⟨w.heap.size,0,none⟩=some (qzI 0):=λo=>(k.o o).f0
  have y0:∀ o,(a.alloc o).frozen? ⟨w.heap.size,0,none⟩=false:=λo=>(d.o o).z0
  have a1:∀ o,(a.alloc o).cell? ⟨w.heap.size,1,none⟩=some (qzI 0):=λo=>(k.o o).f1
  have y1:∀ o,(a.alloc o).frozen? ⟨w.heap.size,1,none⟩=false:=λo=>(d.o o).z1
  have a2:∀ o,(a.alloc o).cell? ⟨w.heap.size,2,none⟩=some (qzI 0):=λo=>(k.o o).f2
  have y2:∀ o,(a.alloc o).frozen? ⟨w.heap.size,2,none⟩=false:=λo=>(d.o o).z2
  have S:∀ o,(a.alloc o).cell? ⟨w.heap.size,3,none⟩=some (qzI 0):=λo=>(k.o o).f3
  have y3:∀ o,(a.alloc o).frozen? ⟨w.heap.size,3,none⟩=false:=λo=>(d.o o).z3
  have T:∀ o,(a.alloc o).cell? ⟨w.heap.size,4,none⟩=some (qzI 0):=λo=>(k.o o).f4
  have y4:∀ o,(a.alloc o).frozen? ⟨w.heap.size,4,none⟩=false:=λo=>(d.o o).z4
  have U:∀ o,(a.alloc o).cell? ⟨w.heap.size,5,none⟩=some (qzI 0):=λo=>(k.o o).f5
  have y5:∀ o,(a.alloc o).frozen? ⟨w.heap.size,5,none⟩=false:=λo=>(d.o o).z5
  have V:∀ o,(a.alloc o).cell? ⟨w.heap.size,6,none⟩=some (qzI 0):=λo=>(k.o o).f6
  have y6:∀ o,(a.alloc o).frozen? ⟨w.heap.size,6,none⟩=false:=λo=>(d.o o).z6
  have X:∀ o,(a.alloc o).cell? ⟨w.heap.size,7,none⟩=some (qzI 0):=λo=>(k.o o).f7
  have y7:∀ o,(a.alloc o).frozen? ⟨w.heap.size,7,none⟩=false:=λo=>(d.o o).z7
  have Y:∀ o,(a.alloc o).cell? ⟨w.heap.size,8,none⟩=some (qzI 0):=λo=>(k.o o).f8
  have y8:∀ o,(a.alloc o).frozen? ⟨w.heap.size,8,none⟩=false:=λo=>(d.o o).z8
  have Z:∀ o,(a.alloc o).cell? ⟨w.heap.size,9,none⟩=some (.bool false):=λo=>(k.o o).f9
  have y9:∀ o,(a.alloc o).frozen? ⟨w.heap.size,9,none⟩=false:=λo=>(d.o o).z9
  have B:∀ o,(a.alloc o).cell? ⟨w.heap.size,10,none⟩=some (qzI 0):=λo=>(k.o o).f10
  have b0:∀ o,(a.alloc o).frozen? ⟨w.heap.size,10,none⟩=false:=λo=>(d.o o).z10
  have C:∀ o,(a.alloc o).cell? ⟨w.heap.size,11,none⟩=some (qzI 0):=λo=>(k.o o).f11
  have b2:∀ o,(a.alloc o).frozen? ⟨w.heap.size,11,none⟩=false:=λo=>(d.o o).z11
  clear f0 f1 f2 f3 f4 f5 f6 f7 f8 f9 f10 f11 z0 z1 z2 z3 z4 z5 z6 z7 z8 z9 z10 z11;clear G;go_wp2
  refine bodyPost_ret (by simp [results,results219,go_sem,a0,a1,a2,S,T,U,V,X,Y,Z,B,C];try rfl) rfl ?_
  rw [M.o,H.o,J.o]
  exact Po (c:=Dp j i f am day) (es:=[(j,i,f,am)]) (dS a _ (j,i,f,am) (by have:=D.o;omega)) (q.o.alloc q.o.size _)
end Go.Proofs.YtfpafnefpmmofaaGreatDoor
