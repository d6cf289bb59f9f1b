import Derived.Test.YtomiclakhjncbaaGreatDoorKTICaseOk
import Derived.Test.YtomiclakhjncbaaGreatDoorKTSCaseOk
namespace Go.Proofs.YtomiclakhjncbaaGreatDoor
open Go.RowKit Go.Proofs.Tryz
set_option maxRecDepth 100000
set_option maxHeartbeats 12800000
def Br:Cs:=⟨0,0,0,0,0,0,0,0,0,false,0,0⟩
def Jh (j i f am day:Int):Cs:=if Ao (Ci j i f am day)=true then Ci j i f am day else Br
def Ft (j i f am day:Int):List En:=if Ao (Ci j i f am day)=true then [(j,i,f,am)] else []
def Y4 (w:World) (c:Cs) (es:List En) (ok:Bool) (e:Ending) (w':World):Prop :=
 ∃ O cap,e=.returned (.tuple #[cv c,.slice O es.length cap,.bool ok])/\w'.ownsRow w.heap.size 269 4 (.slice O es.length cap) es.length (Ba es)/\BW w w'
theorem Wa (w:World) (b:Nat) (hb:b<=w.heap.size):(w.alloc (.cells #[] 269)).ownsRow b 269 4 (.slice (some ⟨w.heap.size,0,none⟩) 0 0) 0 []:=by
 exact World.ownsRow_lit (size:=4) w #[] 0 hb (by decide) rfl
theorem Ux (w:World) (b:Nat) (x:En) (hb:b<=w.heap.size):(w.alloc (.cells #[qzI x.1,qzI x.2.1,qzI x.2.2.1,qzI x.2.2.2] 269)).ownsRow b 269 4 (.slice (some ⟨w.heap.size,0,none⟩) 1 1) 1 (Ba [x]):=by
 exact World.ownsRow_lit (size:=4) w #[qzI x.1,qzI x.2.1,qzI x.2.2.1,qzI x.2.2.2] 1 hb (by decide) rfl
theorem F3 {u:World} {h base n size:Nat} {t:TypeId} {v:Value} {xs:List Value} (c:Cs) (o:u.ownsRow base t size v n xs) (l:∀ g,v.ownBlock=some g->g≠h):(Cz u h c).ownsRow base t size v n xs :=
 A5 (A5 (A5 (A5 (A5 (A5 (A5 (A5 (A5 (A5 (A5 (A5 o _ _ l) _ _ l) _ _ l) _ _ l) _ _ l) _ _ l) _ _ l) _ _ l) _ _ l) _ _ l) _ _ l) _ _ l
theorem Ku {w u:World} {c:Cs} {es:List En} {ok:Bool} {O:Option Addr} {cap:Nat} (ho:u.ownsRow (w.heap.size+1) 269 4 (.slice O es.length cap) es.length (Ba es)) (bel:BW w u) :
  Y4 w c es ok (.returned (.tuple #[cv c,.slice O es.length cap,.bool ok])) (Cz u w.heap.size c) :=
 ⟨O,cap,rfl,Bi (F3 c ho (fun g hg=>by have:=(ho.lt g hg).1;omega)) (by omega),Cp c bel nL⟩
theorem X3 (j i f am day:Int) (w:World) :
  Calls prog 181 #[qzI j,qzI i,qzI f,qzI am,qzI day] w (Y4 w (Jh j i f am day) (Ft j i f am day) (Ao (Ci j i f am day))):=by
 have F:Hid (∀ u,Calls prog 219 #[.agg #[qzI j,qzI i,qzI f,qzI am,qzI 0,qzI 0,qzI 0,qzI 0,qzI 0,.bool false,qzI day,qzI (-1)]] u fun e w'=>e=.returned (.bool (Ao (Ci j i f am day)))/\BW u w'):=fun u=>J6 (Ci j i f am day) u
 obtain ⟨W,q⟩:∃ W,W=(w.alloc (.cells #[qzI 0,qzI 0,qzI 0,qzI 0,qzI 0,qzI 0,qzI 0,qzI 0,qzI 0,.bool false,qzI 0,qzI 0] 61)).alloc (.cells #[qzI j,qzI i,qzI f,qzI am,qzI 0,qzI 0,qzI 0,qzI 0,qzI 0,.bool false,qzI day,qzI (-1)] 61):=⟨_,rfl⟩;have R:Hid _:=q
 have D:Hid (BW w W):=by rw [Hid,q];go_grown
 have y:Hid (CB w.heap.size 0 Br W):=by
  rw [Hid,q];exact (CB.new w Br _).below (bR.alloc nL _)
 have H:Hid (FZ w.heap.size 0 W):=by
  rw [Hid,q];exact (FZ.new w _ _).below (by simp) (bR.alloc nL _)
 have z:Hid (CB (w.heap.size+1) 0 (Ci j i f am day) W):=by
  have h:=CB.new (w.alloc (.cells #[qzI 0,qzI 0,qzI 0,qzI 0,qzI 0,qzI 0,qzI 0,qzI 0,qzI 0,.bool false,qzI 0,qzI 0] 61)) (Ci j i f am day) 61
  have e:(w.alloc (.cells #[qzI 0,qzI 0,qzI 0,qzI 0,qzI 0,qzI 0,qzI 0,qzI 0,qzI 0,.bool false,qzI 0,qzI 0] 61)).heap.size=w.heap.size+1:=by simp
  rw [e] at h
  rw [Hid,q];exact h
 have HS:Hid (W.heap.size=w.heap.size+1+1):=by rw [Hid,q];simp
 clear q
 go_enter func181,ntmps181
 go_upto_region 2 with fail
 rw [<- R.o];clear R;obtain ⟨f0,f1,f2,f3,f4,f5,f6,f7,f8,f9,f10,f11⟩:=z.o
 simp only [Nat.zero_add,Ci] at f0 f1 f2 f3 f4 f5 f6 f7 f8 f9 f10 f11
 go_wp2_with fail
 refine (F.o _).mono ?_;rintro e a ⟨rfl,s⟩;have HL:Hid (w.heap.size<W.heap.size):=y.o.lt;have m:Hid (CB w.heap.size 0 Br a):=y.o.below s;have r:Hid (FZ w.heap.size 0 a):=H.o.below HL.o s;have J:Hid (CB (w.heap.size+1) 0 (Ci j i f am day) a):=z.o.below s;have p:Hid (BW w a):=next D.o s
 have C:Hid (w.heap.size+1+1<=a.heap.size):=by rw [Hid,<- HS.o];exact s.size
 clear s f0 f1 f2 f3 f4 f5 f6 f7 f8 f9 f10 f11;obtain ⟨z0,z1,z2,z3,z4,z5,z6,z7,z8,z9,z10,z11⟩:=r.o
 simp only [Nat.zero_add] at z0 z1 z2 z3 z4 z5 z6 z7 z8 z9 z10 z11
 obtain ⟨f0,f1,f2,f3,f4,f5,f6,f7,f8,f9,f10,f11⟩:=m.o
 simp only [Nat.zero_add,Br] at f0 f1 f2 f3 f4 f5 f6 f7 f8 f9 f10 f11
 cases hk:Ao (Ci j i f am day)
 ·have L:Hid (Jh j i f am day=Br):=if_neg (by rw [hk];decide)
  have G:Hid (Ft j i f am day=[]):=if_neg (by rw [hk];decide)
  have I:Hid _:=hk;clear hk
  have k:Hid (∀ o,CB w.heap.size 0 Br (a.alloc o)):=fun o=>m.o.below (bR.alloc nL _)
  have d:Hid (∀ o,FZ w.heap.size 0 (a.alloc o)):=fun o=>r.o.below m.o.lt (bR.alloc nL _)
  have a0:∀ o,(a.alloc o).cell? ⟨w.heap.size,0,none⟩=some (qzI 0):=fun o=>(k.o o).f0
  have y0:∀ o,(a.alloc o).frozen? ⟨w.heap.size,0,none⟩=false:=fun o=>(d.o o).z0
  have a1:∀ o,(a.alloc o).cell? ⟨w.heap.size,1,none⟩=some (qzI 0):=fun o=>(k.o o).f1
  have y1:∀ o,(a.alloc o).frozen? ⟨w.heap.size,1,none⟩=false:=fun o=>(d.o o).z1
  have a2:∀ o,(a.alloc o).cell? ⟨w.heap.size,2,none⟩=some (qzI 0):=fun o=>(k.o o).f2
  have y2:∀ o,(a.alloc o).frozen? ⟨w.heap.size,2,none⟩=false:=fun o=>(d.o o).z2
  have S:∀ o,(a.alloc o).cell? ⟨w.heap.size,3,none⟩=some (qzI 0):=fun o=>(k.o o).f3
  have y3:∀ o,(a.alloc o).frozen? ⟨w.heap.size,3,none⟩=false:=fun o=>(d.o o).z3
  have T:∀ o,(a.alloc o).cell? ⟨w.heap.size,4,none⟩=some (qzI 0):=fun o=>(k.o o).f4
  have y4:∀ o,(a.alloc o).frozen? ⟨w.heap.size,4,none⟩=false:=fun o=>(d.o o).z4
  have U:∀ o,(a.alloc o).cell? ⟨w.heap.size,5,none⟩=some (qzI 0):=fun o=>(k.o o).f5
  have y5:∀ o,(a.alloc o).frozen? ⟨w.heap.size,5,none⟩=false:=fun o=>(d.o o).z5
  have V:∀ o,(a.alloc o).cell? ⟨w.heap.size,6,none⟩=some (qzI 0):=fun o=>(k.o o).f6
  have y6:∀ o,(a.alloc o).frozen? ⟨w.heap.size,6,none⟩=false:=fun o=>(d.o o).z6
  have X:∀ o,(a.alloc o).cell? ⟨w.heap.size,7,none⟩=some (qzI 0):=fun o=>(k.o o).f7
  have y7:∀ o,(a.alloc o).frozen? ⟨w.heap.size,7,none⟩=false:=fun o=>(d.o o).z7
  have Y:∀ o,(a.alloc o).cell? ⟨w.heap.size,8,none⟩=some (qzI 0):=fun o=>(k.o o).f8
  have y8:∀ o,(a.alloc o).frozen? ⟨w.heap.size,8,none⟩=false:=fun o=>(d.o o).z8
  have Z:∀ o,(a.alloc o).cell? ⟨w.heap.size,9,none⟩=some (.bool false):=fun o=>(k.o o).f9
  have y9:∀ o,(a.alloc o).frozen? ⟨w.heap.size,9,none⟩=false:=fun o=>(d.o o).z9
  have A:∀ o,(a.alloc o).cell? ⟨w.heap.size,10,none⟩=some (qzI 0):=fun o=>(k.o o).f10
  have b0:∀ o,(a.alloc o).frozen? ⟨w.heap.size,10,none⟩=false:=fun o=>(d.o o).z10
  have B:∀ o,(a.alloc o).cell? ⟨w.heap.size,11,none⟩=some (qzI 0):=fun o=>(k.o o).f11
  have b2:∀ o,(a.alloc o).frozen? ⟨w.heap.size,11,none⟩=false:=fun o=>(d.o o).z11
  clear f0 f1 f2 f3 f4 f5 f6 f7 f8 f9 f10 f11 z0 z1 z2 z3 z4 z5 z6 z7 z8 z9 z10 z11;clear F;go_wp2
  refine bodyPost_ret (by simp [results,results181,go_sem,a0,a1,a2,S,T,U,V,X,Y,Z,A,B];try rfl) rfl ?_
  rw [L.o,G.o,I.o]
  exact Ku (c:=Br) (es:=[]) (Wa a _ (by have:=C.o;omega)) (p.o.alloc p.o.size _)
 ·have L:Hid (Jh j i f am day=Ci j i f am day):=if_pos hk
  have G:Hid (Ft j i f am day=[(j,i,f,am)]):=if_pos hk;have I:Hid _:=hk;clear hk;obtain ⟨g0,g1,g2,g3,g4,g5,g6,g7,g8,g9,M,N⟩:=J.o
  simp only [Nat.zero_add,Ci] at g0 g1 g2 g3 g4 g5 g6 g7 g8 g9 M N
  have k:Hid (∀ o,CB w.heap.size 0 Br (a.alloc o)):=fun o=>m.o.below (bR.alloc nL _)
  have d:Hid (∀ o,FZ w.heap.size 0 (a.alloc o)):=fun o=>r.o.below m.o.lt (bR.alloc nL _)
  have a0:∀ o,(a.alloc o).cell? ⟨w.heap.size,0,none⟩=some (qzI 0):=fun o=>(k.o o).f0
  have y0:∀ o,(a.alloc o).frozen? ⟨w.heap.size,0,none⟩=false:=fun o=>(d.o o).z0
  have a1:∀ o,(a.alloc o).cell? ⟨w.heap.size,1,none⟩=some (qzI 0):=fun o=>(k.o o).f1
  have y1:∀ o,(a.alloc o).frozen? ⟨w.heap.size,1,none⟩=false:=fun o=>(d.o o).z1
  have a2:∀ o,(a.alloc o).cell? ⟨w.heap.size,2,none⟩=some (qzI 0):=fun o=>(k.o o).f2
  have y2:∀ o,(a.alloc o).frozen? ⟨w.heap.size,2,none⟩=false:=fun o=>(d.o o).z2
  have S:∀ o,(a.alloc o).cell? ⟨w.heap.size,3,none⟩=some (qzI 0):=fun o=>(k.o o).f3
  have y3:∀ o,(a.alloc o).frozen? ⟨w.heap.size,3,none⟩=false:=fun o=>(d.o o).z3
  have T:∀ o,(a.alloc o).cell? ⟨w.heap.size,4,none⟩=some (qzI 0):=fun o=>(k.o o).f4
  have y4:∀ o,(a.alloc o).frozen? ⟨w.heap.size,4,none⟩=false:=fun o=>(d.o o).z4
  have U:∀ o,(a.alloc o).cell? ⟨w.heap.size,5,none⟩=some (qzI 0):=fun o=>(k.o o).f5
  have y5:∀ o,(a.alloc o).frozen? ⟨w.heap.size,5,none⟩=false:=fun o=>(d.o o).z5
  have V:∀ o,(a.alloc o).cell? ⟨w.heap.size,6,none⟩=some (qzI 0):=fun o=>(k.o o).f6
  have y6:∀ o,(a.alloc o).frozen? ⟨w.heap.size,6,none⟩=false:=fun o=>(d.o o).z6
  have X:∀ o,(a.alloc o).cell? ⟨w.heap.size,7,none⟩=some (qzI 0):=fun o=>(k.o o).f7
  have y7:∀ o,(a.alloc o).frozen? ⟨w.heap.size,7,none⟩=false:=fun o=>(d.o o).z7
  have Y:∀ o,(a.alloc o).cell? ⟨w.heap.size,8,none⟩=some (qzI 0):=fun o=>(k.o o).f8
  have y8:∀ o,(a.alloc o).frozen? ⟨w.heap.size,8,none⟩=false:=fun o=>(d.o o).z8
  have Z:∀ o,(a.alloc o).cell? ⟨w.heap.size,9,none⟩=some (.bool false):=fun o=>(k.o o).f9
  have y9:∀ o,(a.alloc o).frozen? ⟨w.heap.size,9,none⟩=false:=fun o=>(d.o o).z9
  have A:∀ o,(a.alloc o).cell? ⟨w.heap.size,10,none⟩=some (qzI 0):=fun o=>(k.o o).f10
  have b0:∀ o,(a.alloc o).frozen? ⟨w.heap.size,10,none⟩=false:=fun o=>(d.o o).z10
  have B:∀ o,(a.alloc o).cell? ⟨w.heap.size,11,none⟩=some (qzI 0):=fun o=>(k.o o).f11
  have b2:∀ o,(a.alloc o).frozen? ⟨w.heap.size,11,none⟩=false:=fun o=>(d.o o).z11
  clear f0 f1 f2 f3 f4 f5 f6 f7 f8 f9 f10 f11 z0 z1 z2 z3 z4 z5 z6 z7 z8 z9 z10 z11;clear F;go_wp2
  refine bodyPost_ret (by simp [results,results181,go_sem,a0,a1,a2,S,T,U,V,X,Y,Z,A,B];try rfl) rfl ?_
  rw [L.o,G.o,I.o]
  exact Ku (c:=Ci j i f am day) (es:=[(j,i,f,am)]) (Ux a _ (j,i,f,am) (by have:=C.o;omega)) (p.o.alloc p.o.size _)
theorem X2 (j i f am day:Int) (w:World) (hc:(Lit.int .i64 f).wf=true) :
  Calls prog 210 #[qzI j,qzI i,qzI f,qzI am,qzI day] w (Y4 w (Jh j i f am day) (Ft j i f am day) (Ao (Ci j i f am day))):=by
 have F:Hid (∀ u,Calls prog 254 #[.agg #[qzI j,qzI i,qzI f,qzI am,qzI 0,qzI 0,qzI 0,qzI 0,qzI 0,.bool false,qzI day,qzI (-1)]] u fun e w'=>e=.returned (.bool (Ao (Ci j i f am day)))/\BW u w'):=fun u=>Jr (Ci j i f am day) u hc
 obtain ⟨W,q⟩:∃ W,W=(w.alloc (.cells #[qzI 0,qzI 0,qzI 0,qzI 0,qzI 0,qzI 0,qzI 0,qzI 0,qzI 0,.bool false,qzI 0,qzI 0] 61)).alloc (.cells #[qzI j,qzI i,qzI f,qzI am,qzI 0,qzI 0,qzI 0,qzI 0,qzI 0,.bool false,qzI day,qzI (-1)] 61):=⟨_,rfl⟩;have R:Hid _:=q
 have D:Hid (BW w W):=by rw [Hid,q];go_grown
 have y:Hid (CB w.heap.size 0 Br W):=by
  rw [Hid,q];exact (CB.new w Br _).below (bR.alloc nL _)
 have H:Hid (FZ w.heap.size 0 W):=by
  rw [Hid,q];exact (FZ.new w _ _).below (by simp) (bR.alloc nL _)
 have z:Hid (CB (w.heap.size+1) 0 (Ci j i f am day) W):=by
  have h:=CB.new (w.alloc (.cells #[qzI 0,qzI 0,qzI 0,qzI 0,qzI 0,qzI 0,qzI 0,qzI 0,qzI 0,.bool false,qzI 0,qzI 0] 61)) (Ci j i f am day) 61
  have e:(w.alloc (.cells #[qzI 0,qzI 0,qzI 0,qzI 0,qzI 0,qzI 0,qzI 0,qzI 0,qzI 0,.bool false,qzI 0,qzI 0] 61)).heap.size=w.heap.size+1:=by simp
  rw [e] at h
  rw [Hid,q];exact h
 have HS:Hid (W.heap.size=w.heap.size+1+1):=by rw [Hid,q];simp
 clear q
 go_enter func210,ntmps210
 go_upto_region 2 with fail
 rw [<- R.o];clear R;obtain ⟨f0,f1,f2,f3,f4,f5,f6,f7,f8,f9,f10,f11⟩:=z.o
 simp only [Nat.zero_add,Ci] at f0 f1 f2 f3 f4 f5 f6 f7 f8 f9 f10 f11
 go_wp2_with fail
 refine (F.o _).mono ?_;rintro e a ⟨rfl,s⟩;have HL:Hid (w.heap.size<W.heap.size):=y.o.lt;have m:Hid (CB w.heap.size 0 Br a):=y.o.below s;have r:Hid (FZ w.heap.size 0 a):=H.o.below HL.o s;have J:Hid (CB (w.heap.size+1) 0 (Ci j i f am day) a):=z.o.below s;have p:Hid (BW w a):=next D.o s
 have C:Hid (w.heap.size+1+1<=a.heap.size):=by rw [Hid,<- HS.o];exact s.size
 clear s f0 f1 f2 f3 f4 f5 f6 f7 f8 f9 f10 f11;obtain ⟨z0,z1,z2,z3,z4,z5,z6,z7,z8,z9,z10,z11⟩:=r.o
 simp only [Nat.zero_add] at z0 z1 z2 z3 z4 z5 z6 z7 z8 z9 z10 z11
 obtain ⟨f0,f1,f2,f3,f4,f5,f6,f7,f8,f9,f10,f11⟩:=m.o
 simp only [Nat.zero_add,Br] at f0 f1 f2 f3 f4 f5 f6 f7 f8 f9 f10 f11
 cases hk:Ao (Ci j i f am day)
 ·have L:Hid (Jh j i f am day=Br):=if_neg (by rw [hk];decide)
  have G:Hid (Ft j i f am day=[]):=if_neg (by rw [hk];decide)
  have I:Hid _:=hk;clear hk;clear F;go_wp2
  refine bodyPost_ret (by simp [results,results210,go_sem,f0,f1,f2,f3,f4,f5,f6,f7,f8,f9,f10,f11];try rfl) rfl ?_
  rw [L.o,G.o,I.o];exact Ku (c:=Br) (es:=[]) (World.ownsRow_nil _ _ _ _) p.o
 ·have L:Hid (Jh j i f am day=Ci j i f am day):=if_pos hk
  have G:Hid (Ft j i f am day=[(j,i,f,am)]):=if_pos hk;have I:Hid _:=hk;clear hk;obtain ⟨g0,g1,g2,g3,g4,g5,g6,g7,g8,g9,M,N⟩:=J.o
  simp only [Nat.zero_add,Ci] at g0 g1 g2 g3 g4 g5 g6 g7 g8 g9 M N
  have k:Hid (∀ o,CB w.heap.size 0 Br (a.alloc o)):=fun o=>m.o.below (bR.alloc nL _)
  have d:Hid (∀ o,FZ w.heap.size 0 (a.alloc o)):=fun o=>r.o.below m.o.lt (bR.alloc nL _)
  have a0:∀ o,(a.alloc o).cell? ⟨w.heap.size,0,none⟩=some (qzI 0):=fun o=>(k.o o).f0
  have y0:∀ o,(a.alloc o).frozen? ⟨w.heap.size,0,none⟩=false:=fun o=>(d.o o).z0
  have a1:∀ o,(a.alloc o).cell? ⟨w.heap.size,1,none⟩=some (qzI 0):=fun o=>(k.o o).f1
  have y1:∀ o,(a.alloc o).frozen? ⟨w.heap.size,1,none⟩=false:=fun o=>(d.o o).z1
  have a2:∀ o,(a.alloc o).cell? ⟨w.heap.size,2,none⟩=some (qzI 0):=fun o=>(k.o o).f2
  have y2:∀ o,(a.alloc o).frozen? ⟨w.heap.size,2,none⟩=false:=fun o=>(d.o o).z2
  have S:∀ o,(a.alloc o).cell? ⟨w.heap.size,3,none⟩=some (qzI 0):=fun o=>(k.o o).f3
  have y3:∀ o,(a.alloc o).frozen? ⟨w.heap.size,3,none⟩=false:=fun o=>(d.o o).z3
  have T:∀ o,(a.alloc o).cell? ⟨w.heap.size,4,none⟩=some (qzI 0):=fun o=>(k.o o).f4
  have y4:∀ o,(a.alloc o).frozen? ⟨w.heap.size,4,none⟩=false:=fun o=>(d.o o).z4
  have U:∀ o,(a.alloc o).cell? ⟨w.heap.size,5,none⟩=some (qzI 0):=fun o=>(k.o o).f5
  have y5:∀ o,(a.alloc o).frozen? ⟨w.heap.size,5,none⟩=false:=fun o=>(d.o o).z5
  have V:∀ o,(a.alloc o).cell? ⟨w.heap.size,6,none⟩=some (qzI 0):=fun o=>(k.o o).f6
  have y6:∀ o,(a.alloc o).frozen? ⟨w.heap.size,6,none⟩=false:=fun o=>(d.o o).z6
  have X:∀ o,(a.alloc o).cell? ⟨w.heap.size,7,none⟩=some (qzI 0):=fun o=>(k.o o).f7
  have y7:∀ o,(a.alloc o).frozen? ⟨w.heap.size,7,none⟩=false:=fun o=>(d.o o).z7
  have Y:∀ o,(a.alloc o).cell? ⟨w.heap.size,8,none⟩=some (qzI 0):=fun o=>(k.o o).f8
  have y8:∀ o,(a.alloc o).frozen? ⟨w.heap.size,8,none⟩=false:=fun o=>(d.o o).z8
  have Z:∀ o,(a.alloc o).cell? ⟨w.heap.size,9,none⟩=some (.bool false):=fun o=>(k.o o).f9
  have y9:∀ o,(a.alloc o).frozen? ⟨w.heap.size,9,none⟩=false:=fun o=>(d.o o).z9
  have A:∀ o,(a.alloc o).cell? ⟨w.heap.size,10,none⟩=some (qzI 0):=fun o=>(k.o o).f10
  have b0:∀ o,(a.alloc o).frozen? ⟨w.heap.size,10,none⟩=false:=fun o=>(d.o o).z10
  have B:∀ o,(a.alloc o).cell? ⟨w.heap.size,11,none⟩=some (qzI 0):=fun o=>(k.o o).f11
  have b2:∀ o,(a.alloc o).frozen? ⟨w.heap.size,11,none⟩=false:=fun o=>(d.o o).z11
  clear f0 f1 f2 f3 f4 f5 f6 f7 f8 f9 f10 f11 z0 z1 z2 z3 z4 z5 z6 z7 z8 z9 z10 z11;clear F;go_wp2
  refine bodyPost_ret (by simp [results,results210,go_sem,a0,a1,a2,S,T,U,V,X,Y,Z,A,B];try rfl) rfl ?_
  rw [L.o,G.o,I.o]
  exact Ku (c:=Ci j i f am day) (es:=[(j,i,f,am)]) (Ux a _ (j,i,f,am) (by have:=C.o;omega)) (p.o.alloc p.o.size _)
end Go.Proofs.YtomiclakhjncbaaGreatDoor
