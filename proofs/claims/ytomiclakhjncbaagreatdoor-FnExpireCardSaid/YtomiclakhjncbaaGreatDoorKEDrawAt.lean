import Derived.Test.YtomiclakhjncbaaGreatDoorJE2a
namespace Go.Proofs.YtomiclakhjncbaaGreatDoor
open Go.RowKit Go.Proofs.Tryz
set_option maxRecDepth 100000
set_option maxHeartbeats 12800000
theorem AZ.am {B g:Nat} {w:World} {iY aZ uV am st rJ cl bk fW:Int} {cW:Bool} {sS dX:Int} {u:World} {ob ol:Option Nat} (z:AZ B g w ⟨iY,aZ,uV,am,st,rJ,cl,bk,fW,cW,sS,dX⟩ u ob ol) :
  u.cell? ⟨w.heap.size,3,none⟩=some (.int .i64 am)∧(∀ o,(u.alloc o).cell? ⟨w.heap.size,3,none⟩=some (.int .i64 am))∧∀ o o',((u.alloc o).alloc o').cell? ⟨w.heap.size,3,none⟩=some (.int .i64 am):=by
 have h:=z.now3;have l:w.heap.size<u.heap.size:=World.block_lt_of_cell? u _ h
 refine ⟨h,fun o=>?_,fun o o'=>?_⟩
 ·rw [World.cell?_alloc_lt _ _ _ l];exact h
 ·rw [World.cell?_alloc_lt _ _ _ (by simp;omega),World.cell?_alloc_lt _ _ _ l];exact h
theorem L3 {B g:Nat} {w:World} {k:Cs} {u:World} {ob:Option Nat} {b b':Nat} (z:AZ B g w k u ob (some b)) (hb:b'=b) :
  Calls prog 131 #[.pointer (some ⟨g,0,none⟩),.slice (some ⟨b',0,none⟩) 6 6] u fun e u'=>∃ x:Int,e=.returned (.int .i64 x)∧x ∈ rL∧AZ B g w k u' ob (some b):=by
 subst hb;exact Aan z
theorem AS.oq {B g:Nat} {w:World} {k:Cs} {u:World} {h h':Nat} {ol:Option Nat} (z:AZ B g w k u (some h) ol) (a:Ac) (e:h'=h):AS B g w k h' a (((u.setCell ⟨h',0,none⟩ (.int .i64 a.kind)).setCell ⟨h',1,none⟩ (.int .i64 a.am)).setCell ⟨h',2,none⟩ (.int .i64 a.rsn)):=by
 subst e;exact AS.of z a
theorem AS.st4 {B g:Nat} {w:World} {iY aZ uV am st rJ cl bk fW:Int} {cW:Bool} {sS dX:Int} {h:Nat} {a:Ac} {u:World} (q:AS B g w ⟨iY,aZ,uV,am,st,rJ,cl,bk,fW,cW,sS,dX⟩ h a u):u.cell? ⟨w.heap.size,4,none⟩=some (.int .i64 st):=by have:=q.cb.f4;simpa using this
theorem AS.cl6 {B g:Nat} {w:World} {iY aZ uV am st rJ cl bk fW:Int} {cW:Bool} {sS dX:Int} {h:Nat} {a:Ac} {u:World} (q:AS B g w ⟨iY,aZ,uV,am,st,rJ,cl,bk,fW,cW,sS,dX⟩ h a u):u.cell? ⟨w.heap.size,6,none⟩=some (.int .i64 cl):=by have:=q.cb.f6;simpa using this
theorem AS.fin {B g:Nat} {w:World} {k:Cs} {h:Nat} {a:Ac} {u:World} (q:AS B g w k h a u) (x y z:Value) :
  A2 B (((u.setCell ⟨w.heap.size+1,0,none⟩ x).setCell ⟨w.heap.size+1,1,none⟩ y).setCell ⟨w.heap.size+1,2,none⟩ z) g∧w.grownBy (((u.setCell ⟨w.heap.size+1,0,none⟩ x).setCell ⟨w.heap.size+1,1,none⟩ y).setCell ⟨w.heap.size+1,2,none⟩ z) (some g):=by
 have b:Below (w.heap.size+1) u (((u.setCell ⟨w.heap.size+1,0,none⟩ x).setCell ⟨w.heap.size+1,1,none⟩ y).setCell ⟨w.heap.size+1,2,none⟩ z):=((Bn u _ 0 x).trans (Bn _ _ 1 y)).trans (Bn _ _ 2 z)
 exact ⟨B9 q.cur (b.mono (by have:=q.bl;omega)),⟨b.os.trans q.gr.os,b.tape.trans q.gr.tape,b.output.trans q.gr.output,Nat.le_trans q.gr.size b.size,fun j hj hne=>(b.block j (by omega)).trans (q.gr.block j hj hne)⟩⟩
theorem zE {B:Nat} (g:Nat) (k:Cs) (w:World) (hc:A2 B w g) :
  Calls prog 133 #[.pointer (some ⟨g,0,none⟩),cv k] w fun e w'=>∃ a:Ac,e=.returned (av a)∧A2 B w' g∧w.grownBy w' (some g):=by
 have hbd:=K6 hc;obtain ⟨W,hW⟩:∃ W,(w.alloc (.cells #[.int .i64 k.iss,.int .i64 k.acq,.int .i64 k.cur,.int .i64 k.am,.int .i64 k.st,.int .i64 k.rsn,.int .i64 k.cl,.int .i64 k.bk,.int .i64 k.fee,.bool k.cop,.int .i64 k.sta,.int .i64 k.due] 61)).alloc (.cells #[.int .i64 0,.int .i64 0,.int .i64 0] 165)=W:=⟨_,rfl⟩
 have z:AZ B g w k W none none:=by
  have s1:(w.alloc (.cells #[.int .i64 k.iss,.int .i64 k.acq,.int .i64 k.cur,.int .i64 k.am,.int .i64 k.st,.int .i64 k.rsn,.int .i64 k.cl,.int .i64 k.bk,.int .i64 k.fee,.bool k.cop,.int .i64 k.sta,.int .i64 k.due] 61)).heap.size=w.heap.size+1:=by simp
  have r1:=AB.new (w.alloc (.cells #[.int .i64 k.iss,.int .i64 k.acq,.int .i64 k.cur,.int .i64 k.am,.int .i64 k.st,.int .i64 k.rsn,.int .i64 k.cl,.int .i64 k.bk,.int .i64 k.fee,.bool k.cop,.int .i64 k.sta,.int .i64 k.due] 61)) ⟨0,0,0⟩ 165;rw [s1] at r1;rw [← hW]
  exact ⟨(CB.new w k _).below (bR.alloc nL _),r1,A3 (A3 hc _) _,(World.grownBy_alloc w _ _).trans (World.grownBy_alloc _ _ _),by omega,hbd.2,(fun h hh=>by cases hh),(fun b hb=>by cases hb)⟩
 have HOF:Hid (∀ (x:Int) (u:World),Calls prog 167 #[.int .i64 k.st,.int .i64 x] u fun e w'=>e=.returned (.bool (Dx k.st x))∧w'=u):=fun x u=>oU _ _ _
 have HW:Hid _:=hW;clear hc hbd hW;obtain ⟨iY,aZ,uV,am,st,rJ,cl,bk,fW,cW,sS,dX⟩:=k;unfold cv
 simp only at HW HOF ⊢
 go_enter func133,ntmps133
 go_upto_region 1 with fail
 rw [HW.o];clear HW
 go_cut [5] (fun v wc=>∃ h a,v=.pointer (some ⟨h,0,none⟩)∧AS B g w ⟨iY,aZ,uV,am,st,rJ,cl,bk,fW,cW,sS,dX⟩ h a wc)
 case first =>
  obtain ⟨m0,m1,m2⟩:=z.am
  go_region_with (first
   | (go_at_call 79;(first | with_reducible refine (L1 z 10 (by omega)).mono ?_ | with_reducible refine (L1 z.drew 10 (by omega)).mono ?_ | with_reducible refine (L1 (z.lit _) 10 (by omega)).mono ?_ | with_reducible refine (L1 (z.drew.lit _) 10 (by omega)).mono ?_ | with_reducible refine (L1 (z.lit _).drew 10 (by omega)).mono ?_ | with_reducible refine (L1 (z.al _) 10 (by omega)).mono ?_ | with_reducible refine (L1 (z.drew.al _) 10 (by omega)).mono ?_ | with_reducible refine (L1 (z.al _).drew 10 (by omega)).mono ?_ | with_reducible refine (L1 ((z.lit _).al _) 10 (by omega)).mono ?_ | with_reducible refine (L1 ((z.drew.lit _).al _) 10 (by omega)).mono ?_ | with_reducible refine (L1 (((z.lit _)).drew.al _) 10 (by omega)).mono ?_ | with_reducible refine (L1 ((z.lit _).al _).drew 10 (by omega)).mono ?_ | with_reducible refine (L1 ((z.al _).lit _) 10 (by omega)).mono ?_ | with_reducible refine (L1 ((z.drew.al _).lit _) 10 (by omega)).mono ?_ | with_reducible refine (L1 (((z.al _)).drew.lit _) 10 (by omega)).mono ?_ | with_reducible refine (L1 ((z.al _).lit _).drew 10 (by omega)).mono ?_);rintro e v1 ⟨x1,rfl,-,-,z⟩;obtain ⟨p0,p1,p2⟩:=z.am)
   | (go_at_call 131;(first | with_reducible refine (L3 z (by first | rfl | simp)).mono ?_ | with_reducible refine (L3 z.drew (by first | rfl | simp)).mono ?_ | with_reducible refine (L3 (z.lit _) (by first | rfl | simp)).mono ?_ | with_reducible refine (L3 (z.drew.lit _) (by first | rfl | simp)).mono ?_ | with_reducible refine (L3 (z.lit _).drew (by first | rfl | simp)).mono ?_ | with_reducible refine (L3 (z.al _) (by first | rfl | simp)).mono ?_ | with_reducible refine (L3 (z.drew.al _) (by first | rfl | simp)).mono ?_ | with_reducible refine (L3 (z.al _).drew (by first | rfl | simp)).mono ?_ | with_reducible refine (L3 ((z.lit _).al _) (by first | rfl | simp)).mono ?_ | with_reducible refine (L3 ((z.drew.lit _).al _) (by first | rfl | simp)).mono ?_ | with_reducible refine (L3 (((z.lit _)).drew.al _) (by first | rfl | simp)).mono ?_ | with_reducible refine (L3 ((z.lit _).al _).drew (by first | rfl | simp)).mono ?_ | with_reducible refine (L3 ((z.al _).lit _) (by first | rfl | simp)).mono ?_ | with_reducible refine (L3 ((z.drew.al _).lit _) (by first | rfl | simp)).mono ?_ | with_reducible refine (L3 (((z.al _)).drew.lit _) (by first | rfl | simp)).mono ?_ | with_reducible refine (L3 ((z.al _).lit _).drew (by first | rfl | simp)).mono ?_);rintro e v2 ⟨y1,rfl,-,z⟩;obtain ⟨s0,s1,s2⟩:=z.am;(first | (obtain ⟨bx1,bx2⟩:=z.box _ rfl;obtain ⟨t0,t1,t2,r0,r1,r2⟩:=bx2;simp only at t0 t1 t2;(try simp at t0);(try simp at t1);(try simp at t2);(try simp at r0);(try simp at r1);(try simp at r2)) | skip)))
  all_goals
   go_wp2_with fail
   go_meet;refine ⟨_,⟨x1,am,y1⟩,rfl,?_⟩
   first
    | with_reducible exact AS.new z ⟨x1,am,y1⟩ _
    | with_reducible exact AS.oq z ⟨x1,am,y1⟩ (by first | rfl | simp)
    | exact AS.new z ⟨x1,am,y1⟩ _
    | exact AS.oq z ⟨x1,am,y1⟩ (by first | rfl | simp)
 case rest =>
  obtain ⟨h,a,rfl,q⟩:=hcut;obtain ⟨w1,hw1⟩:∃ x,x=wc:=⟨_,rfl⟩;subst hw1;have HQ:Hid (AS B g w ⟨iY,aZ,uV,am,st,rJ,cl,bk,fW,cW,sS,dX⟩ h a w1):=q;clear q z
  go_upto_block 0 with fail
  go_cut [6] (fun _ wc=>∃ a,AS B g w ⟨iY,aZ,uV,am,st,rJ,cl,bk,fW,cW,sS,dX⟩ h a wc)
  case first =>
   go_wp2_with fail
   go_loopw [6] (fun i wr=>∃ (n:Nat) (a:Ac),n≤6∧i=.int .i64 n∧AS B g w ⟨iY,aZ,uV,am,st,rJ,cl,bk,fW,cW,sS,dX⟩ h a wr) (fun i _=>6 - (intOf i).toNat)
   case atStart=>exact ⟨0,a,by omega,rfl,HQ.o⟩
   case round =>
    obtain ⟨n,⟨kd,am1,rs⟩,hn,rfl,q⟩:=hrel;have e4:=q.st4;have e0:=q.ab.c0
    simp only at e0
    have HQ2:Hid (AS B g w ⟨iY,aZ,uV,am,st,rJ,cl,bk,fW,cW,sS,dX⟩ h ⟨kd,am1,rs⟩ wr):=q;clear q HQ
    by_cases hlt:n<6
    ·have hni:(n:Int)<6:=by omega
     go_wp2_with fail
     refine (HOF.o _ _).mono ?_;rintro e w2 ⟨rfl,rfl⟩
     generalize Dx st kd=y
     cases y
     ·go_wp2_with fail
      refine (G4 _ _ _ HQ2.o.cur (by omega)).mono ?_
      rintro e w3 ⟨x,rfl,-,-,c3,g3⟩;have q3:=HQ2.o.call c3 g3;have f0:=q3.ab.c0;have z0:=q3.ab.z0
      simp only at f0
      have HQ3:Hid (AS B g w ⟨iY,aZ,uV,am,st,rJ,cl,bk,fW,cW,sS,dX⟩ h ⟨kd,am1,rs⟩ w3):=q3;clear q3 c3 g3 e4 e0 HQ2;go_wp2
      go_roundw
      case rel=>exact ⟨n+1,⟨x,am1,rs⟩,by omega,by go_num,HQ3.o.at 0 _ (HQ3.o.ab.set0 x)⟩
      case measure=>simp [intOf];omega
     ·go_wp2
      go_meet;exact ⟨_,HQ2.o⟩
    ·have hni:¬ (n:Int)<6:=by omega
     go_wp2;go_meet;exact ⟨_,HQ2.o⟩
  case rest =>
   clear HQ;obtain ⟨a,q⟩:=hcut;obtain ⟨kd,am1,rs⟩:=a;obtain ⟨w2,hw2⟩:∃ x,x=wc:=⟨_,rfl⟩;subst hw2;have HQ:Hid (AS B g w ⟨iY,aZ,uV,am,st,rJ,cl,bk,fW,cW,sS,dX⟩ h ⟨kd,am1,rs⟩ w2):=q;clear q;have e4:=HQ.o.st4
   go_upto_if 32 with fail
   go_cut [6] (fun _ wc=>∃ a,AS B g w ⟨iY,aZ,uV,am,st,rJ,cl,bk,fW,cW,sS,dX⟩ h a wc)
   case first =>
    by_cases h2:2<st
    ·have e6:=HQ.o.cl6
     have f1:=HQ.o.ab.c1;have z1:=HQ.o.ab.z1
     simp only at f1
     go_wp2;go_meet;exact ⟨⟨kd,cl,rs⟩,HQ.o.at 1 _ (HQ.o.ab.set1 cl)⟩
    ·go_wp2
     go_meet;exact ⟨_,HQ.o⟩
   case rest =>
    clear HQ e4;obtain ⟨a,q⟩:=hcut;obtain ⟨kd,am1,rs⟩:=a;obtain ⟨w3,hw3⟩:∃ x,x=wc:=⟨_,rfl⟩;subst hw3;have HQ:Hid (AS B g w ⟨iY,aZ,uV,am,st,rJ,cl,bk,fW,cW,sS,dX⟩ h ⟨kd,am1,rs⟩ w3):=q;clear q;go_wp2_with fail
    refine (G4 _ _ _ HQ.o.cur (by omega)).mono ?_
    rintro e w4 ⟨x,rfl,-,-,c4,g4⟩;have HQ4:Hid (AS B g w ⟨iY,aZ,uV,am,st,rJ,cl,bk,fW,cW,sS,dX⟩ h ⟨kd,am1,rs⟩ w4):=HQ.o.call c4 g4;clear HQ c4 g4
    go_upto_block 2 with fail
    go_cut [6] (fun _ wc=>∃ a,AS B g w ⟨iY,aZ,uV,am,st,rJ,cl,bk,fW,cW,sS,dX⟩ h a wc)
    case first =>
     have f1:=HQ4.o.ab.c1;have z1:=HQ4.o.ab.z1
     simp only at f1
     by_cases hx0:x=0
     ·subst hx0
      go_wp2;go_meet;exact ⟨⟨kd,_,rs⟩,HQ4.o.at 1 _ (HQ4.o.ab.set1 _)⟩
     ·by_cases hx1:x=1
      ·subst hx1
       go_wp2_with fail
       refine (Y7 _ _ _ HQ4.o.cur (by omega)).mono ?_
       rintro e w5 ⟨y,rfl,c5,g5⟩;have HQ5:Hid (AS B g w ⟨iY,aZ,uV,am,st,rJ,cl,bk,fW,cW,sS,dX⟩ h ⟨kd,am1,rs⟩ w5):=HQ4.o.call c5 g5;clear g5 f1 z1
       cases y
       ·go_wp2
        go_meet;exact ⟨_,HQ5.o⟩
       ·have f1:=HQ5.o.ab.c1
        have z1:=HQ5.o.ab.z1
        simp only at f1
        go_wp2_with fail
        refine (R2 _ _ _ [0,-1,wrap64 (am1+1),1] _ (A3 c5 _) (R5 c5) (tX w5 [0,-1,wrap64 (am1+1),1] _ rfl) (by simp) (by simp)).mono ?_
        rintro e w6 ⟨m,rfl,-,c6,g6⟩;have HQ6:Hid (AS B g w ⟨iY,aZ,uV,am,st,rJ,cl,bk,fW,cW,sS,dX⟩ h ⟨kd,am1,rs⟩ w6):=(HQ5.o.alloc _).call c6 g6;have k1:=HQ6.o.ab.c1;have l1:=HQ6.o.ab.z1
        simp only at k1
        clear c6 g6 c5;go_wp2;go_meet;exact ⟨⟨kd,m,rs⟩,HQ6.o.at 1 _ (HQ6.o.ab.set1 m)⟩
      ·go_wp2
       go_meet;exact ⟨_,HQ4.o⟩
    case rest =>
     clear HQ4;obtain ⟨a,q⟩:=hcut;obtain ⟨kd,am1,rs⟩:=a;obtain ⟨w5,hw5⟩:∃ x,x=wc:=⟨_,rfl⟩;subst hw5;have HQ:Hid (AS B g w ⟨iY,aZ,uV,am,st,rJ,cl,bk,fW,cW,sS,dX⟩ h ⟨kd,am1,rs⟩ w5):=q;clear q;go_wp2_with fail
     refine (Y7 _ _ _ HQ.o.cur (by omega)).mono ?_
     rintro e w6 ⟨y,rfl,c6,g6⟩;have HQ6:Hid (AS B g w ⟨iY,aZ,uV,am,st,rJ,cl,bk,fW,cW,sS,dX⟩ h ⟨kd,am1,rs⟩ w6):=HQ.o.call c6 g6;clear HQ g6
     go_upto_if 57 with fail
     go_cut [6] (fun _ wc=>∃ a,AS B g w ⟨iY,aZ,uV,am,st,rJ,cl,bk,fW,cW,sS,dX⟩ h a wc)
     case first =>
      cases y
      ·go_wp2
       go_meet;exact ⟨_,HQ6.o⟩
      ·go_wp2_with fail
       refine (R2 _ _ _ [-1,10] _ (A3 c6 _) (R5 c6) (tX w6 [-1,10] _ rfl) (by simp) (by simp)).mono ?_
       rintro e w7 ⟨m,rfl,-,c7,g7⟩;have HQ7:Hid (AS B g w ⟨iY,aZ,uV,am,st,rJ,cl,bk,fW,cW,sS,dX⟩ h ⟨kd,am1,rs⟩ w7):=(HQ6.o.alloc _).call c7 g7;have k0:=HQ7.o.ab.c0;have l0:=HQ7.o.ab.z0
       simp only at k0
       clear c7 g7 c6;go_wp2;go_meet;exact ⟨⟨m,am1,rs⟩,HQ7.o.at 0 _ (HQ7.o.ab.set0 m)⟩
     case rest =>
      clear HQ6 c6;obtain ⟨a,q⟩:=hcut;obtain ⟨kd,am1,rs⟩:=a;obtain ⟨w7,hw7⟩:∃ x,x=wc:=⟨_,rfl⟩;subst hw7;have HQ:Hid (AS B g w ⟨iY,aZ,uV,am,st,rJ,cl,bk,fW,cW,sS,dX⟩ h ⟨kd,am1,rs⟩ w7):=q;clear q;go_wp2_with fail
      refine (Y7 _ _ _ HQ.o.cur (by omega)).mono ?_
      rintro e w8 ⟨y,rfl,c8,g8⟩;have HQ8:Hid (AS B g w ⟨iY,aZ,uV,am,st,rJ,cl,bk,fW,cW,sS,dX⟩ h ⟨kd,am1,rs⟩ w8):=HQ.o.call c8 g8;clear HQ g8 c8
      go_upto_if 63 with fail
      go_cut [6] (fun _ wc=>∃ a,AS B g w ⟨iY,aZ,uV,am,st,rJ,cl,bk,fW,cW,sS,dX⟩ h a wc)
      case first =>
       cases y
       ·go_wp2
        go_meet;exact ⟨_,HQ8.o⟩
       ·have k2:=HQ8.o.ab.c2
        have l2:=HQ8.o.ab.z2
        simp only at k2
        go_wp2;go_meet;exact ⟨⟨kd,am1,0⟩,HQ8.o.at 2 _ (HQ8.o.ab.set2 0)⟩
      case rest =>
       clear HQ8;obtain ⟨a,q⟩:=hcut;obtain ⟨kd,am1,rs⟩:=a;obtain ⟨w9,hw9⟩:∃ x,x=wc:=⟨_,rfl⟩;subst hw9;have HQ:Hid (AS B g w ⟨iY,aZ,uV,am,st,rJ,cl,bk,fW,cW,sS,dX⟩ h ⟨kd,am1,rs⟩ w9):=q;clear q;obtain ⟨a0,a1,a2,_,_,_⟩:=HQ.o.ab;obtain ⟨b0,b1,b2,y0,y1,y2⟩:=HQ.o.rb
       simp only at a0 a1 a2 b0 b1 b2
       go_wp2
       refine bodyPost_ret (by simp [results,results133,go_sem,b0,b1,b2];try rfl) rfl ?_
       exact ⟨⟨kd,am1,rs⟩,rfl,HQ.o.fin _ _ _⟩
end Go.Proofs.YtomiclakhjncbaaGreatDoor
