import Derived.Test.YtomiclakhjncbaaGreatDoorKCICaseOk
import Derived.Test.YtomiclakhjncbaaGreatDoorKCSCaseOk
namespace Go.Proofs.YtomiclakhjncbaaGreatDoor
open Go.RowKit Go.Proofs.Tryz
set_option maxRecDepth 100000
set_option maxHeartbeats 12800000
def Br:Cs:=⟨0,0,0,0,0,0,0,0,0,false,0,0⟩
def Jh (iY aZ cQ am day:Int):Cs:=if Ao (Ci iY aZ cQ am day)=true then Ci iY aZ cQ am day else Br
def Ft (iY aZ cQ am day:Int):List En:=if Ao (Ci iY aZ cQ am day)=true then [(iY,aZ,cQ,am)] else []
def Y4 (w:World) (c:Cs) (es:List En) (ok:Bool) (e:Ending) (w':World):Prop :=
 ∃ ao cap,e=.returned (.tuple #[cv c,.slice ao es.length cap,.bool ok])∧w'.ownsRow w.heap.size 269 4 (.slice ao es.length cap) es.length (Ba es)∧BW w w'
theorem Wa (w:World) (b:Nat) (hb:b≤w.heap.size):(w.alloc (.cells #[] 269)).ownsRow b 269 4 (.slice (some ⟨w.heap.size,0,none⟩) 0 0) 0 []:=by
 exact World.ownsRow_lit (size:=4) w #[] 0 hb (by decide) rfl
theorem Ux (w:World) (b:Nat) (x:En) (hb:b≤w.heap.size):(w.alloc (.cells #[.int .i64 x.1,.int .i64 x.2.1,.int .i64 x.2.2.1,.int .i64 x.2.2.2] 269)).ownsRow b 269 4 (.slice (some ⟨w.heap.size,0,none⟩) 1 1) 1 (Ba [x]):=by
 exact World.ownsRow_lit (size:=4) w #[.int .i64 x.1,.int .i64 x.2.1,.int .i64 x.2.2.1,.int .i64 x.2.2.2] 1 hb (by decide) rfl
theorem F3 {u:World} {h base n size:Nat} {t:TypeId} {v:Value} {xs:List Value} (c:Cs) (o:u.ownsRow base t size v n xs) (hne:∀ g,v.ownBlock=some g→g≠h):(Cz u h c).ownsRow base t size v n xs :=
 A5 (A5 (A5 (A5 (A5 (A5 (A5 (A5 (A5 (A5 (A5 (A5 o _ _ hne) _ _ hne) _ _ hne) _ _ hne) _ _ hne) _ _ hne) _ _ hne) _ _ hne) _ _ hne) _ _ hne) _ _ hne) _ _ hne
theorem Ku {w u:World} {c:Cs} {es:List En} {ok:Bool} {ao:Option Addr} {cap:Nat} (ho:u.ownsRow (w.heap.size+1) 269 4 (.slice ao es.length cap) es.length (Ba es)) (bel:BW w u) :
  Y4 w c es ok (.returned (.tuple #[cv c,.slice ao es.length cap,.bool ok])) (Cz u w.heap.size c) :=
 ⟨ao,cap,rfl,Bi (F3 c ho (fun g hg=>by have:=(ho.lt g hg).1;omega)) (by omega),Cp c bel nL⟩
theorem X3 (iY aZ cQ am day:Int) (w:World) :
  Calls prog 181 #[.int .i64 iY,.int .i64 aZ,.int .i64 cQ,.int .i64 am,.int .i64 day] w (Y4 w (Jh iY aZ cQ am day) (Ft iY aZ cQ am day) (Ao (Ci iY aZ cQ am day))):=by
 have HC:Hid (∀ u,Calls prog 219 #[.agg #[.int .i64 iY,.int .i64 aZ,.int .i64 cQ,.int .i64 am,.int .i64 0,.int .i64 0,.int .i64 0,.int .i64 0,.int .i64 0,.bool false,.int .i64 day,.int .i64 (-1)]] u fun e w'=>e=.returned (.bool (Ao (Ci iY aZ cQ am day)))∧BW u w'):=fun u=>J6 (Ci iY aZ cQ am day) u
 obtain ⟨W,hW⟩:∃ W,W=(w.alloc (.cells #[.int .i64 0,.int .i64 0,.int .i64 0,.int .i64 0,.int .i64 0,.int .i64 0,.int .i64 0,.int .i64 0,.int .i64 0,.bool false,.int .i64 0,.int .i64 0] 61)).alloc (.cells #[.int .i64 iY,.int .i64 aZ,.int .i64 cQ,.int .i64 am,.int .i64 0,.int .i64 0,.int .i64 0,.int .i64 0,.int .i64 0,.bool false,.int .i64 day,.int .i64 (-1)] 61):=⟨_,rfl⟩;have HW:Hid _:=hW
 have HBW:Hid (BW w W):=by rw [Hid,hW];go_grown
 have HB1:Hid (CB w.heap.size 0 Br W):=by
  rw [Hid,hW];exact (CB.new w Br _).below (bR.alloc nL _)
 have HF1:Hid (FZ w.heap.size 0 W):=by
  rw [Hid,hW];exact (FZ.new w _ _).below (by simp) (bR.alloc nL _)
 have HB2:Hid (CB (w.heap.size+1) 0 (Ci iY aZ cQ am day) W):=by
  have h:=CB.new (w.alloc (.cells #[.int .i64 0,.int .i64 0,.int .i64 0,.int .i64 0,.int .i64 0,.int .i64 0,.int .i64 0,.int .i64 0,.int .i64 0,.bool false,.int .i64 0,.int .i64 0] 61)) (Ci iY aZ cQ am day) 61
  have e:(w.alloc (.cells #[.int .i64 0,.int .i64 0,.int .i64 0,.int .i64 0,.int .i64 0,.int .i64 0,.int .i64 0,.int .i64 0,.int .i64 0,.bool false,.int .i64 0,.int .i64 0] 61)).heap.size=w.heap.size+1:=by simp
  rw [e] at h
  rw [Hid,hW];exact h
 have HS:Hid (W.heap.size=w.heap.size+1+1):=by rw [Hid,hW];simp
 clear hW
 go_enter func181,ntmps181
 go_upto_region 2 with fail
 rw [← HW.o];clear HW;obtain ⟨f0,f1,f2,f3,f4,f5,f6,f7,f8,f9,f10,f11⟩:=HB2.o
 simp only [Nat.zero_add,Ci] at f0 f1 f2 f3 f4 f5 f6 f7 f8 f9 f10 f11
 go_wp2_with fail
 refine (HC.o _).mono ?_;rintro e w1 ⟨rfl,b1⟩;have HL:Hid (w.heap.size<W.heap.size):=HB1.o.lt;have HQ1:Hid (CB w.heap.size 0 Br w1):=HB1.o.below b1;have HQF:Hid (FZ w.heap.size 0 w1):=HF1.o.below HL.o b1;have HQ2:Hid (CB (w.heap.size+1) 0 (Ci iY aZ cQ am day) w1):=HB2.o.below b1;have HBB:Hid (BW w w1):=next HBW.o b1
 have HSZ:Hid (w.heap.size+1+1≤w1.heap.size):=by rw [Hid,← HS.o];exact b1.size
 clear b1 f0 f1 f2 f3 f4 f5 f6 f7 f8 f9 f10 f11;obtain ⟨z0,z1,z2,z3,z4,z5,z6,z7,z8,z9,z10,z11⟩:=HQF.o
 simp only [Nat.zero_add] at z0 z1 z2 z3 z4 z5 z6 z7 z8 z9 z10 z11
 obtain ⟨f0,f1,f2,f3,f4,f5,f6,f7,f8,f9,f10,f11⟩:=HQ1.o
 simp only [Nat.zero_add,Br] at f0 f1 f2 f3 f4 f5 f6 f7 f8 f9 f10 f11
 cases hk:Ao (Ci iY aZ cQ am day)
 ·have HV:Hid (Jh iY aZ cQ am day=Br):=if_neg (by rw [hk];decide)
  have HE:Hid (Ft iY aZ cQ am day=[]):=if_neg (by rw [hk];decide)
  have HK:Hid _:=hk;clear hk
  have HA:Hid (∀ o,CB w.heap.size 0 Br (w1.alloc o)):=fun o=>HQ1.o.below (bR.alloc nL _)
  have HAZ:Hid (∀ o,FZ w.heap.size 0 (w1.alloc o)):=fun o=>HQF.o.below HQ1.o.lt (bR.alloc nL _)
  have a0:∀ o,(w1.alloc o).cell? ⟨w.heap.size,0,none⟩=some (.int .i64 0):=fun o=>(HA.o o).f0
  have y0:∀ o,(w1.alloc o).frozen? ⟨w.heap.size,0,none⟩=false:=fun o=>(HAZ.o o).z0
  have a1:∀ o,(w1.alloc o).cell? ⟨w.heap.size,1,none⟩=some (.int .i64 0):=fun o=>(HA.o o).f1
  have y1:∀ o,(w1.alloc o).frozen? ⟨w.heap.size,1,none⟩=false:=fun o=>(HAZ.o o).z1
  have a2:∀ o,(w1.alloc o).cell? ⟨w.heap.size,2,none⟩=some (.int .i64 0):=fun o=>(HA.o o).f2
  have y2:∀ o,(w1.alloc o).frozen? ⟨w.heap.size,2,none⟩=false:=fun o=>(HAZ.o o).z2
  have a3:∀ o,(w1.alloc o).cell? ⟨w.heap.size,3,none⟩=some (.int .i64 0):=fun o=>(HA.o o).f3
  have y3:∀ o,(w1.alloc o).frozen? ⟨w.heap.size,3,none⟩=false:=fun o=>(HAZ.o o).z3
  have a4:∀ o,(w1.alloc o).cell? ⟨w.heap.size,4,none⟩=some (.int .i64 0):=fun o=>(HA.o o).f4
  have y4:∀ o,(w1.alloc o).frozen? ⟨w.heap.size,4,none⟩=false:=fun o=>(HAZ.o o).z4
  have a5:∀ o,(w1.alloc o).cell? ⟨w.heap.size,5,none⟩=some (.int .i64 0):=fun o=>(HA.o o).f5
  have y5:∀ o,(w1.alloc o).frozen? ⟨w.heap.size,5,none⟩=false:=fun o=>(HAZ.o o).z5
  have a6:∀ o,(w1.alloc o).cell? ⟨w.heap.size,6,none⟩=some (.int .i64 0):=fun o=>(HA.o o).f6
  have y6:∀ o,(w1.alloc o).frozen? ⟨w.heap.size,6,none⟩=false:=fun o=>(HAZ.o o).z6
  have a7:∀ o,(w1.alloc o).cell? ⟨w.heap.size,7,none⟩=some (.int .i64 0):=fun o=>(HA.o o).f7
  have y7:∀ o,(w1.alloc o).frozen? ⟨w.heap.size,7,none⟩=false:=fun o=>(HAZ.o o).z7
  have a8:∀ o,(w1.alloc o).cell? ⟨w.heap.size,8,none⟩=some (.int .i64 0):=fun o=>(HA.o o).f8
  have y8:∀ o,(w1.alloc o).frozen? ⟨w.heap.size,8,none⟩=false:=fun o=>(HAZ.o o).z8
  have a9:∀ o,(w1.alloc o).cell? ⟨w.heap.size,9,none⟩=some (.bool false):=fun o=>(HA.o o).f9
  have y9:∀ o,(w1.alloc o).frozen? ⟨w.heap.size,9,none⟩=false:=fun o=>(HAZ.o o).z9
  have a10:∀ o,(w1.alloc o).cell? ⟨w.heap.size,10,none⟩=some (.int .i64 0):=fun o=>(HA.o o).f10
  have y10:∀ o,(w1.alloc o).frozen? ⟨w.heap.size,10,none⟩=false:=fun o=>(HAZ.o o).z10
  have a11:∀ o,(w1.alloc o).cell? ⟨w.heap.size,11,none⟩=some (.int .i64 0):=fun o=>(HA.o o).f11
  have y11:∀ o,(w1.alloc o).frozen? ⟨w.heap.size,11,none⟩=false:=fun o=>(HAZ.o o).z11
  clear f0 f1 f2 f3 f4 f5 f6 f7 f8 f9 f10 f11 z0 z1 z2 z3 z4 z5 z6 z7 z8 z9 z10 z11;clear HC;go_wp2
  refine bodyPost_ret (by simp [results,results181,go_sem,a0,a1,a2,a3,a4,a5,a6,a7,a8,a9,a10,a11];try rfl) rfl ?_
  rw [HV.o,HE.o,HK.o]
  exact Ku (c:=Br) (es:=[]) (Wa w1 _ (by have:=HSZ.o;omega)) (HBB.o.alloc HBB.o.size _)
 ·have HV:Hid (Jh iY aZ cQ am day=Ci iY aZ cQ am day):=if_pos hk
  have HE:Hid (Ft iY aZ cQ am day=[(iY,aZ,cQ,am)]):=if_pos hk;have HK:Hid _:=hk;clear hk;obtain ⟨g0,g1,g2,g3,g4,g5,g6,g7,g8,g9,g10,g11⟩:=HQ2.o
  simp only [Nat.zero_add,Ci] at g0 g1 g2 g3 g4 g5 g6 g7 g8 g9 g10 g11
  have HA:Hid (∀ o,CB w.heap.size 0 Br (w1.alloc o)):=fun o=>HQ1.o.below (bR.alloc nL _)
  have HAZ:Hid (∀ o,FZ w.heap.size 0 (w1.alloc o)):=fun o=>HQF.o.below HQ1.o.lt (bR.alloc nL _)
  have a0:∀ o,(w1.alloc o).cell? ⟨w.heap.size,0,none⟩=some (.int .i64 0):=fun o=>(HA.o o).f0
  have y0:∀ o,(w1.alloc o).frozen? ⟨w.heap.size,0,none⟩=false:=fun o=>(HAZ.o o).z0
  have a1:∀ o,(w1.alloc o).cell? ⟨w.heap.size,1,none⟩=some (.int .i64 0):=fun o=>(HA.o o).f1
  have y1:∀ o,(w1.alloc o).frozen? ⟨w.heap.size,1,none⟩=false:=fun o=>(HAZ.o o).z1
  have a2:∀ o,(w1.alloc o).cell? ⟨w.heap.size,2,none⟩=some (.int .i64 0):=fun o=>(HA.o o).f2
  have y2:∀ o,(w1.alloc o).frozen? ⟨w.heap.size,2,none⟩=false:=fun o=>(HAZ.o o).z2
  have a3:∀ o,(w1.alloc o).cell? ⟨w.heap.size,3,none⟩=some (.int .i64 0):=fun o=>(HA.o o).f3
  have y3:∀ o,(w1.alloc o).frozen? ⟨w.heap.size,3,none⟩=false:=fun o=>(HAZ.o o).z3
  have a4:∀ o,(w1.alloc o).cell? ⟨w.heap.size,4,none⟩=some (.int .i64 0):=fun o=>(HA.o o).f4
  have y4:∀ o,(w1.alloc o).frozen? ⟨w.heap.size,4,none⟩=false:=fun o=>(HAZ.o o).z4
  have a5:∀ o,(w1.alloc o).cell? ⟨w.heap.size,5,none⟩=some (.int .i64 0):=fun o=>(HA.o o).f5
  have y5:∀ o,(w1.alloc o).frozen? ⟨w.heap.size,5,none⟩=false:=fun o=>(HAZ.o o).z5
  have a6:∀ o,(w1.alloc o).cell? ⟨w.heap.size,6,none⟩=some (.int .i64 0):=fun o=>(HA.o o).f6
  have y6:∀ o,(w1.alloc o).frozen? ⟨w.heap.size,6,none⟩=false:=fun o=>(HAZ.o o).z6
  have a7:∀ o,(w1.alloc o).cell? ⟨w.heap.size,7,none⟩=some (.int .i64 0):=fun o=>(HA.o o).f7
  have y7:∀ o,(w1.alloc o).frozen? ⟨w.heap.size,7,none⟩=false:=fun o=>(HAZ.o o).z7
  have a8:∀ o,(w1.alloc o).cell? ⟨w.heap.size,8,none⟩=some (.int .i64 0):=fun o=>(HA.o o).f8
  have y8:∀ o,(w1.alloc o).frozen? ⟨w.heap.size,8,none⟩=false:=fun o=>(HAZ.o o).z8
  have a9:∀ o,(w1.alloc o).cell? ⟨w.heap.size,9,none⟩=some (.bool false):=fun o=>(HA.o o).f9
  have y9:∀ o,(w1.alloc o).frozen? ⟨w.heap.size,9,none⟩=false:=fun o=>(HAZ.o o).z9
  have a10:∀ o,(w1.alloc o).cell? ⟨w.heap.size,10,none⟩=some (.int .i64 0):=fun o=>(HA.o o).f10
  have y10:∀ o,(w1.alloc o).frozen? ⟨w.heap.size,10,none⟩=false:=fun o=>(HAZ.o o).z10
  have a11:∀ o,(w1.alloc o).cell? ⟨w.heap.size,11,none⟩=some (.int .i64 0):=fun o=>(HA.o o).f11
  have y11:∀ o,(w1.alloc o).frozen? ⟨w.heap.size,11,none⟩=false:=fun o=>(HAZ.o o).z11
  clear f0 f1 f2 f3 f4 f5 f6 f7 f8 f9 f10 f11 z0 z1 z2 z3 z4 z5 z6 z7 z8 z9 z10 z11;clear HC;go_wp2
  refine bodyPost_ret (by simp [results,results181,go_sem,a0,a1,a2,a3,a4,a5,a6,a7,a8,a9,a10,a11];try rfl) rfl ?_
  rw [HV.o,HE.o,HK.o]
  exact Ku (c:=Ci iY aZ cQ am day) (es:=[(iY,aZ,cQ,am)]) (Ux w1 _ (iY,aZ,cQ,am) (by have:=HSZ.o;omega)) (HBB.o.alloc HBB.o.size _)
theorem X2 (iY aZ cQ am day:Int) (w:World) (hc:(Lit.int .i64 cQ).wf=true) :
  Calls prog 210 #[.int .i64 iY,.int .i64 aZ,.int .i64 cQ,.int .i64 am,.int .i64 day] w (Y4 w (Jh iY aZ cQ am day) (Ft iY aZ cQ am day) (Ao (Ci iY aZ cQ am day))):=by
 have HC:Hid (∀ u,Calls prog 254 #[.agg #[.int .i64 iY,.int .i64 aZ,.int .i64 cQ,.int .i64 am,.int .i64 0,.int .i64 0,.int .i64 0,.int .i64 0,.int .i64 0,.bool false,.int .i64 day,.int .i64 (-1)]] u fun e w'=>e=.returned (.bool (Ao (Ci iY aZ cQ am day)))∧BW u w'):=fun u=>Jr (Ci iY aZ cQ am day) u hc
 obtain ⟨W,hW⟩:∃ W,W=(w.alloc (.cells #[.int .i64 0,.int .i64 0,.int .i64 0,.int .i64 0,.int .i64 0,.int .i64 0,.int .i64 0,.int .i64 0,.int .i64 0,.bool false,.int .i64 0,.int .i64 0] 61)).alloc (.cells #[.int .i64 iY,.int .i64 aZ,.int .i64 cQ,.int .i64 am,.int .i64 0,.int .i64 0,.int .i64 0,.int .i64 0,.int .i64 0,.bool false,.int .i64 day,.int .i64 (-1)] 61):=⟨_,rfl⟩;have HW:Hid _:=hW
 have HBW:Hid (BW w W):=by rw [Hid,hW];go_grown
 have HB1:Hid (CB w.heap.size 0 Br W):=by
  rw [Hid,hW];exact (CB.new w Br _).below (bR.alloc nL _)
 have HF1:Hid (FZ w.heap.size 0 W):=by
  rw [Hid,hW];exact (FZ.new w _ _).below (by simp) (bR.alloc nL _)
 have HB2:Hid (CB (w.heap.size+1) 0 (Ci iY aZ cQ am day) W):=by
  have h:=CB.new (w.alloc (.cells #[.int .i64 0,.int .i64 0,.int .i64 0,.int .i64 0,.int .i64 0,.int .i64 0,.int .i64 0,.int .i64 0,.int .i64 0,.bool false,.int .i64 0,.int .i64 0] 61)) (Ci iY aZ cQ am day) 61
  have e:(w.alloc (.cells #[.int .i64 0,.int .i64 0,.int .i64 0,.int .i64 0,.int .i64 0,.int .i64 0,.int .i64 0,.int .i64 0,.int .i64 0,.bool false,.int .i64 0,.int .i64 0] 61)).heap.size=w.heap.size+1:=by simp
  rw [e] at h
  rw [Hid,hW];exact h
 have HS:Hid (W.heap.size=w.heap.size+1+1):=by rw [Hid,hW];simp
 clear hW
 go_enter func210,ntmps210
 go_upto_region 2 with fail
 rw [← HW.o];clear HW;obtain ⟨f0,f1,f2,f3,f4,f5,f6,f7,f8,f9,f10,f11⟩:=HB2.o
 simp only [Nat.zero_add,Ci] at f0 f1 f2 f3 f4 f5 f6 f7 f8 f9 f10 f11
 go_wp2_with fail
 refine (HC.o _).mono ?_;rintro e w1 ⟨rfl,b1⟩;have HL:Hid (w.heap.size<W.heap.size):=HB1.o.lt;have HQ1:Hid (CB w.heap.size 0 Br w1):=HB1.o.below b1;have HQF:Hid (FZ w.heap.size 0 w1):=HF1.o.below HL.o b1;have HQ2:Hid (CB (w.heap.size+1) 0 (Ci iY aZ cQ am day) w1):=HB2.o.below b1;have HBB:Hid (BW w w1):=next HBW.o b1
 have HSZ:Hid (w.heap.size+1+1≤w1.heap.size):=by rw [Hid,← HS.o];exact b1.size
 clear b1 f0 f1 f2 f3 f4 f5 f6 f7 f8 f9 f10 f11;obtain ⟨z0,z1,z2,z3,z4,z5,z6,z7,z8,z9,z10,z11⟩:=HQF.o
 simp only [Nat.zero_add] at z0 z1 z2 z3 z4 z5 z6 z7 z8 z9 z10 z11
 obtain ⟨f0,f1,f2,f3,f4,f5,f6,f7,f8,f9,f10,f11⟩:=HQ1.o
 simp only [Nat.zero_add,Br] at f0 f1 f2 f3 f4 f5 f6 f7 f8 f9 f10 f11
 cases hk:Ao (Ci iY aZ cQ am day)
 ·have HV:Hid (Jh iY aZ cQ am day=Br):=if_neg (by rw [hk];decide)
  have HE:Hid (Ft iY aZ cQ am day=[]):=if_neg (by rw [hk];decide)
  have HK:Hid _:=hk;clear hk;clear HC;go_wp2
  refine bodyPost_ret (by simp [results,results210,go_sem,f0,f1,f2,f3,f4,f5,f6,f7,f8,f9,f10,f11];try rfl) rfl ?_
  rw [HV.o,HE.o,HK.o];exact Ku (c:=Br) (es:=[]) (World.ownsRow_nil _ _ _ _) HBB.o
 ·have HV:Hid (Jh iY aZ cQ am day=Ci iY aZ cQ am day):=if_pos hk
  have HE:Hid (Ft iY aZ cQ am day=[(iY,aZ,cQ,am)]):=if_pos hk;have HK:Hid _:=hk;clear hk;obtain ⟨g0,g1,g2,g3,g4,g5,g6,g7,g8,g9,g10,g11⟩:=HQ2.o
  simp only [Nat.zero_add,Ci] at g0 g1 g2 g3 g4 g5 g6 g7 g8 g9 g10 g11
  have HA:Hid (∀ o,CB w.heap.size 0 Br (w1.alloc o)):=fun o=>HQ1.o.below (bR.alloc nL _)
  have HAZ:Hid (∀ o,FZ w.heap.size 0 (w1.alloc o)):=fun o=>HQF.o.below HQ1.o.lt (bR.alloc nL _)
  have a0:∀ o,(w1.alloc o).cell? ⟨w.heap.size,0,none⟩=some (.int .i64 0):=fun o=>(HA.o o).f0
  have y0:∀ o,(w1.alloc o).frozen? ⟨w.heap.size,0,none⟩=false:=fun o=>(HAZ.o o).z0
  have a1:∀ o,(w1.alloc o).cell? ⟨w.heap.size,1,none⟩=some (.int .i64 0):=fun o=>(HA.o o).f1
  have y1:∀ o,(w1.alloc o).frozen? ⟨w.heap.size,1,none⟩=false:=fun o=>(HAZ.o o).z1
  have a2:∀ o,(w1.alloc o).cell? ⟨w.heap.size,2,none⟩=some (.int .i64 0):=fun o=>(HA.o o).f2
  have y2:∀ o,(w1.alloc o).frozen? ⟨w.heap.size,2,none⟩=false:=fun o=>(HAZ.o o).z2
  have a3:∀ o,(w1.alloc o).cell? ⟨w.heap.size,3,none⟩=some (.int .i64 0):=fun o=>(HA.o o).f3
  have y3:∀ o,(w1.alloc o).frozen? ⟨w.heap.size,3,none⟩=false:=fun o=>(HAZ.o o).z3
  have a4:∀ o,(w1.alloc o).cell? ⟨w.heap.size,4,none⟩=some (.int .i64 0):=fun o=>(HA.o o).f4
  have y4:∀ o,(w1.alloc o).frozen? ⟨w.heap.size,4,none⟩=false:=fun o=>(HAZ.o o).z4
  have a5:∀ o,(w1.alloc o).cell? ⟨w.heap.size,5,none⟩=some (.int .i64 0):=fun o=>(HA.o o).f5
  have y5:∀ o,(w1.alloc o).frozen? ⟨w.heap.size,5,none⟩=false:=fun o=>(HAZ.o o).z5
  have a6:∀ o,(w1.alloc o).cell? ⟨w.heap.size,6,none⟩=some (.int .i64 0):=fun o=>(HA.o o).f6
  have y6:∀ o,(w1.alloc o).frozen? ⟨w.heap.size,6,none⟩=false:=fun o=>(HAZ.o o).z6
  have a7:∀ o,(w1.alloc o).cell? ⟨w.heap.size,7,none⟩=some (.int .i64 0):=fun o=>(HA.o o).f7
  have y7:∀ o,(w1.alloc o).frozen? ⟨w.heap.size,7,none⟩=false:=fun o=>(HAZ.o o).z7
  have a8:∀ o,(w1.alloc o).cell? ⟨w.heap.size,8,none⟩=some (.int .i64 0):=fun o=>(HA.o o).f8
  have y8:∀ o,(w1.alloc o).frozen? ⟨w.heap.size,8,none⟩=false:=fun o=>(HAZ.o o).z8
  have a9:∀ o,(w1.alloc o).cell? ⟨w.heap.size,9,none⟩=some (.bool false):=fun o=>(HA.o o).f9
  have y9:∀ o,(w1.alloc o).frozen? ⟨w.heap.size,9,none⟩=false:=fun o=>(HAZ.o o).z9
  have a10:∀ o,(w1.alloc o).cell? ⟨w.heap.size,10,none⟩=some (.int .i64 0):=fun o=>(HA.o o).f10
  have y10:∀ o,(w1.alloc o).frozen? ⟨w.heap.size,10,none⟩=false:=fun o=>(HAZ.o o).z10
  have a11:∀ o,(w1.alloc o).cell? ⟨w.heap.size,11,none⟩=some (.int .i64 0):=fun o=>(HA.o o).f11
  have y11:∀ o,(w1.alloc o).frozen? ⟨w.heap.size,11,none⟩=false:=fun o=>(HAZ.o o).z11
  clear f0 f1 f2 f3 f4 f5 f6 f7 f8 f9 f10 f11 z0 z1 z2 z3 z4 z5 z6 z7 z8 z9 z10 z11;clear HC;go_wp2
  refine bodyPost_ret (by simp [results,results210,go_sem,a0,a1,a2,a3,a4,a5,a6,a7,a8,a9,a10,a11];try rfl) rfl ?_
  rw [HV.o,HE.o,HK.o]
  exact Ku (c:=Ci iY aZ cQ am day) (es:=[(iY,aZ,cQ,am)]) (Ux w1 _ (iY,aZ,cQ,am) (by have:=HSZ.o;omega)) (HBB.o.alloc HBB.o.size _)
end Go.Proofs.YtomiclakhjncbaaGreatDoor
