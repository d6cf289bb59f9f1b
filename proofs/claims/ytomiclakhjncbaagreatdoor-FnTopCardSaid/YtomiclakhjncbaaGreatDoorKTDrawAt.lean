import Derived.Test.YtomiclakhjncbaaGreatDoorJT4a
import Derived.Deep.CutBlock
namespace Go.Proofs.YtomiclakhjncbaaGreatDoor
open Go.RowKit Go.Proofs.Tryz
set_option maxRecDepth 100000
set_option maxHeartbeats 12800000
theorem AZ.am {B g:Nat} {w:World} {A f p am st C cl bk t:Int} {r:Bool} {D s:Int} {u:World} {V ol:Option Nat} (z:AZ B g w ⟨A,f,p,am,st,C,cl,bk,t,r,D,s⟩ u V ol) :
  u.cell? ⟨w.heap.size,3,none⟩=some (qzI am)/\(∀ o,(u.alloc o).cell? ⟨w.heap.size,3,none⟩=some (qzI am))/\∀ o o',((u.alloc o).alloc o').cell? ⟨w.heap.size,3,none⟩=some (qzI am):=by
 have h:=z.now3;have l:w.heap.size<u.heap.size:=World.block_lt_of_cell? u _ h
 refine ⟨h,fun o=>?_,fun o o'=>?_⟩
 ·rw [World.cell?_alloc_lt _ _ _ l];exact h
 ·rw [World.cell?_alloc_lt _ _ _ (by simp;omega),World.cell?_alloc_lt _ _ _ l];exact h
theorem L3 {B g:Nat} {w:World} {k:Cs} {u:World} {V:Option Nat} {b b':Nat} (z:AZ B g w k u V (some b)) (hb:b'=b) :
  Calls prog 131 #[.pointer (some (qzA g 0)),.slice (some (qzA b' 0)) 6 6] u fun e u'=>∃ x:Int,e=.returned (qzI x)/\x ∈ rL/\AZ B g w k u' V (some b):=by
 subst hb;exact Aec z
theorem AS.oq {B g:Nat} {w:World} {k:Cs} {u:World} {h S:Nat} {ol:Option Nat} (z:AZ B g w k u (some h) ol) (a:Ac) (e:S=h):AS B g w k S a (((u.setCell (qzA S 0) (qzI a.kind)).setCell (qzA S 1) (qzI a.am)).setCell (qzA S 2) (qzI a.rsn)):=by
 subst e;exact AS.of z a
theorem AS.st4 {B g:Nat} {w:World} {A f p am st C cl bk t:Int} {r:Bool} {D s:Int} {h:Nat} {a:Ac} {u:World} (q:AS B g w ⟨A,f,p,am,st,C,cl,bk,t,r,D,s⟩ h a u):u.cell? ⟨w.heap.size,4,none⟩=some (qzI st):=by have:=q.cb.f4;simpa using this
theorem AS.cl6 {B g:Nat} {w:World} {A f p am st C cl bk t:Int} {r:Bool} {D s:Int} {h:Nat} {a:Ac} {u:World} (q:AS B g w ⟨A,f,p,am,st,C,cl,bk,t,r,D,s⟩ h a u):u.cell? ⟨w.heap.size,6,none⟩=some (qzI cl):=by have:=q.cb.f6;simpa using this
theorem AS.fin {B g:Nat} {w:World} {k:Cs} {h:Nat} {a:Ac} {u:World} (q:AS B g w k h a u) (x y z:Value) :
  A2 B (((u.setCell ⟨w.heap.size+1,0,none⟩ x).setCell ⟨w.heap.size+1,1,none⟩ y).setCell ⟨w.heap.size+1,2,none⟩ z) g/\w.grownBy (((u.setCell ⟨w.heap.size+1,0,none⟩ x).setCell ⟨w.heap.size+1,1,none⟩ y).setCell ⟨w.heap.size+1,2,none⟩ z) (some g):=by
 have b:Below (w.heap.size+1) u (((u.setCell ⟨w.heap.size+1,0,none⟩ x).setCell ⟨w.heap.size+1,1,none⟩ y).setCell ⟨w.heap.size+1,2,none⟩ z):=((Bn u _ 0 x).trans (Bn _ _ 1 y)).trans (Bn _ _ 2 z)
 exact ⟨L1 q.cur (b.mono (by have:=q.bl;omega)),⟨b.os.trans q.gr.os,b.tape.trans q.gr.tape,b.output.trans q.gr.output,Nat.le_trans q.gr.size b.size,fun j hj hne=>(b.block j (by omega)).trans (q.gr.block j hj hne)⟩⟩
theorem Aco {B:Nat} (g:Nat) (k:Cs) (w:World) (hc:A2 B w g) :
  Calls prog 133 #[.pointer (some (qzA g 0)),cv k] w fun e w'=>∃ a:Ac,e=.returned (av a)/\A2 B w' g/\w.grownBy w' (some g):=by
 have T:=L2 hc;obtain ⟨W,hW⟩:∃ W,(w.alloc (.cells #[qzI k.iss,qzI k.acq,qzI k.cur,qzI k.am,qzI k.st,qzI k.rsn,qzI k.cl,qzI k.bk,qzI k.fee,.bool k.cop,qzI k.sta,qzI k.due] 61)).alloc (.cells #[qzI 0,qzI 0,qzI 0] 165)=W:=⟨_,rfl⟩
 have z:AZ B g w k W none none:=by
  have s1:(w.alloc (.cells #[qzI k.iss,qzI k.acq,qzI k.cur,qzI k.am,qzI k.st,qzI k.rsn,qzI k.cl,qzI k.bk,qzI k.fee,.bool k.cop,qzI k.sta,qzI k.due] 61)).heap.size=w.heap.size+1:=by simp
  have Y:=AB.new (w.alloc (.cells #[qzI k.iss,qzI k.acq,qzI k.cur,qzI k.am,qzI k.st,qzI k.rsn,qzI k.cl,qzI k.bk,qzI k.fee,.bool k.cop,qzI k.sta,qzI k.due] 61)) ⟨0,0,0⟩ 165;rw [s1] at Y;rw [<- hW]
  exact ⟨(CB.new w k _).below (bR.alloc nL _),Y,A3 (A3 hc _) _,(World.grownBy_alloc w _ _).trans (World.grownBy_alloc _ _ _),by omega,T.2,(fun h hh=>by cases hh),(fun b hb=>by cases hb)⟩
 have N:Hid (∀ (x:Int) (u:World),Calls prog 167 #[qzI k.st,qzI x] u fun e w'=>e=.returned (.bool (Dx k.st x))/\w'=u):=fun x u=>oU _ _ _
 have HW:Hid _:=hW;clear hc T hW;obtain ⟨A,f,p,am,st,C,cl,bk,t,r,D,s⟩:=k;unfold cv
 simp only at HW N ⊢
 go_enter func133,ntmps133
 go_upto_region 1 with fail
 rw [HW.o];clear HW
 go_cut [5] (fun v wc=>∃ h a,v=.pointer (some (qzA h 0))/\AS B g w ⟨A,f,p,am,st,C,cl,bk,t,r,D,s⟩ h a wc)
 case first =>
  obtain ⟨m0,m1,m2⟩:=z.am
  go_region_with (first
   | (go_at_call 79;(first | with_reducible refine (O7 z 10 (by omega)).mono ?_ | with_reducible refine (O7 z.drew 10 (by omega)).mono ?_ | with_reducible refine (O7 (z.lit _) 10 (by omega)).mono ?_ | with_reducible refine (O7 (z.drew.lit _) 10 (by omega)).mono ?_ | with_reducible refine (O7 (z.lit _).drew 10 (by omega)).mono ?_ | with_reducible refine (O7 (z.al _) 10 (by omega)).mono ?_ | with_reducible refine (O7 (z.drew.al _) 10 (by omega)).mono ?_ | with_reducible refine (O7 (z.al _).drew 10 (by omega)).mono ?_ | with_reducible refine (O7 ((z.lit _).al _) 10 (by omega)).mono ?_ | with_reducible refine (O7 ((z.drew.lit _).al _) 10 (by omega)).mono ?_ | with_reducible refine (O7 (((z.lit _)).drew.al _) 10 (by omega)).mono ?_ | with_reducible refine (O7 ((z.lit _).al _).drew 10 (by omega)).mono ?_ | with_reducible refine (O7 ((z.al _).lit _) 10 (by omega)).mono ?_ | with_reducible refine (O7 ((z.drew.al _).lit _) 10 (by omega)).mono ?_ | with_reducible refine (O7 (((z.al _)).drew.lit _) 10 (by omega)).mono ?_ | with_reducible refine (O7 ((z.al _).lit _).drew 10 (by omega)).mono ?_);rintro e v1 ⟨U,rfl,-,-,z⟩;obtain ⟨p0,p1,p2⟩:=z.am)
   | (go_at_call 131;(first | with_reducible refine (L3 z (by first | rfl | simp)).mono ?_ | with_reducible refine (L3 z.drew (by first | rfl | simp)).mono ?_ | with_reducible refine (L3 (z.lit _) (by first | rfl | simp)).mono ?_ | with_reducible refine (L3 (z.drew.lit _) (by first | rfl | simp)).mono ?_ | with_reducible refine (L3 (z.lit _).drew (by first | rfl | simp)).mono ?_ | with_reducible refine (L3 (z.al _) (by first | rfl | simp)).mono ?_ | with_reducible refine (L3 (z.drew.al _) (by first | rfl | simp)).mono ?_ | with_reducible refine (L3 (z.al _).drew (by first | rfl | simp)).mono ?_ | with_reducible refine (L3 ((z.lit _).al _) (by first | rfl | simp)).mono ?_ | with_reducible refine (L3 ((z.drew.lit _).al _) (by first | rfl | simp)).mono ?_ | with_reducible refine (L3 (((z.lit _)).drew.al _) (by first | rfl | simp)).mono ?_ | with_reducible refine (L3 ((z.lit _).al _).drew (by first | rfl | simp)).mono ?_ | with_reducible refine (L3 ((z.al _).lit _) (by first | rfl | simp)).mono ?_ | with_reducible refine (L3 ((z.drew.al _).lit _) (by first | rfl | simp)).mono ?_ | with_reducible refine (L3 (((z.al _)).drew.lit _) (by first | rfl | simp)).mono ?_ | with_reducible refine (L3 ((z.al _).lit _).drew (by first | rfl | simp)).mono ?_);rintro e v2 ⟨y1,rfl,-,z⟩;obtain ⟨s0,s1,s2⟩:=z.am;(first | (obtain ⟨b4,a3⟩:=z.box _ rfl;obtain ⟨t0,t1,t2,r0,Y,r2⟩:=a3;simp only at t0 t1 t2;(try simp at t0);(try simp at t1);(try simp at t2);(try simp at r0);(try simp at Y);(try simp at r2)) | skip)))
  all_goals
   go_wp2_with fail
   go_meet;refine ⟨_,⟨U,am,y1⟩,rfl,?_⟩
   first
    | with_reducible exact AS.new z ⟨U,am,y1⟩ _
    | with_reducible exact AS.oq z ⟨U,am,y1⟩ (by first | rfl | simp)
    | exact AS.new z ⟨U,am,y1⟩ _
    | exact AS.oq z ⟨U,am,y1⟩ (by first | rfl | simp)
 case rest =>
  obtain ⟨h,a,rfl,q⟩:=hcut;obtain ⟨w1,a5⟩:∃ x,x=wc:=⟨_,rfl⟩;subst a5;have d:Hid (AS B g w ⟨A,f,p,am,st,C,cl,bk,t,r,D,s⟩ h a w1):=q;clear q z
  go_upto_block 0 with fail
  go_cut [6] (fun _ wc=>∃ a,AS B g w ⟨A,f,p,am,st,C,cl,bk,t,r,D,s⟩ h a wc)
  case first =>
   go_wp2_with fail
   go_loopw [6] (fun i wr=>∃ (n:Nat) (a:Ac),n<=6/\i=qzI n/\AS B g w ⟨A,f,p,am,st,C,cl,bk,t,r,D,s⟩ h a wr) (fun i _=>6 - (intOf i).toNat)
   case atStart=>exact ⟨0,a,by omega,rfl,d.o⟩
   case round =>
    obtain ⟨n,⟨F,c,rs⟩,hn,rfl,q⟩:=hrel;have e4:=q.st4;have e0:=q.ab.c0
    simp only at e0
    have J:Hid (AS B g w ⟨A,f,p,am,st,C,cl,bk,t,r,D,s⟩ h ⟨F,c,rs⟩ wr):=q;clear q d
    by_cases hlt:n<6
    ·have a4:(n:Int)<6:=by omega
     go_wp2_with fail
     refine (N.o _ _).mono ?_;rintro e w2 ⟨rfl,rfl⟩
     generalize Dx st F=y
     cases y
     ·go_wp2_with fail
      refine (K8 _ _ _ J.o.cur (by omega)).mono ?_
      rintro e w3 ⟨x,rfl,-,-,c3,g3⟩;have X:=J.o.call c3 g3;have f0:=X.ab.c0;have z0:=X.ab.z0
      simp only at f0
      have O:Hid (AS B g w ⟨A,f,p,am,st,C,cl,bk,t,r,D,s⟩ h ⟨F,c,rs⟩ w3):=X;clear X c3 g3 e4 e0 J;go_wp2
      go_roundw
      case rel=>exact ⟨n+1,⟨x,c,rs⟩,by omega,by go_num,O.o.at 0 _ (O.o.ab.set0 x)⟩
      case measure=>simp [intOf];omega
     ·go_wp2
      go_meet;exact ⟨_,J.o⟩
    ·have a4:¬ (n:Int)<6:=by omega
     go_wp2;go_meet;exact ⟨_,J.o⟩
  case rest =>
   clear d;obtain ⟨a,q⟩:=hcut;obtain ⟨F,c,rs⟩:=a;obtain ⟨w2,a6⟩:∃ x,x=wc:=⟨_,rfl⟩;subst a6;have d:Hid (AS B g w ⟨A,f,p,am,st,C,cl,bk,t,r,D,s⟩ h ⟨F,c,rs⟩ w2):=q;clear q;have e4:=d.o.st4
   go_upto_if 32 with fail
   go_cut [6] (fun _ wc=>∃ a,AS B g w ⟨A,f,p,am,st,C,cl,bk,t,r,D,s⟩ h a wc)
   case first =>
    by_cases h2:2<st
    ·have e6:=d.o.cl6
     have f1:=d.o.ab.c1;have z1:=d.o.ab.z1
     simp only at f1
     go_wp2;go_meet;exact ⟨⟨F,cl,rs⟩,d.o.at 1 _ (d.o.ab.set1 cl)⟩
    ·go_wp2
     go_meet;exact ⟨_,d.o⟩
   case rest =>
    clear d e4;obtain ⟨a,q⟩:=hcut;obtain ⟨F,c,rs⟩:=a;obtain ⟨w3,a7⟩:∃ x,x=wc:=⟨_,rfl⟩;subst a7;have d:Hid (AS B g w ⟨A,f,p,am,st,C,cl,bk,t,r,D,s⟩ h ⟨F,c,rs⟩ w3):=q;clear q;go_wp2_with fail
    refine (K8 _ _ _ d.o.cur (by omega)).mono ?_
    rintro e w4 ⟨x,rfl,-,-,c4,g4⟩;have G:Hid (AS B g w ⟨A,f,p,am,st,C,cl,bk,t,r,D,s⟩ h ⟨F,c,rs⟩ w4):=d.o.call c4 g4;clear d c4 g4
    go_upto_block 2 with fail
    go_cut [6] (fun _ wc=>∃ a,AS B g w ⟨A,f,p,am,st,C,cl,bk,t,r,D,s⟩ h a wc)
    case first =>
     have f1:=G.o.ab.c1;have z1:=G.o.ab.z1
     simp only at f1
     by_cases hx0:x=0
     ·subst hx0
      go_wp2;go_meet;exact ⟨⟨F,_,rs⟩,G.o.at 1 _ (G.o.ab.set1 _)⟩
     ·by_cases hx1:x=1
      ·subst hx1
       go_wp2_with fail
       refine (tW _ _ _ G.o.cur (by omega)).mono ?_
       rintro e Z ⟨y,rfl,c5,g5⟩;have L:Hid (AS B g w ⟨A,f,p,am,st,C,cl,bk,t,r,D,s⟩ h ⟨F,c,rs⟩ Z):=G.o.call c5 g5;clear g5 f1 z1
       cases y
       ·go_wp2
        go_meet;exact ⟨_,L.o⟩
       ·have f1:=L.o.ab.c1
        have z1:=L.o.ab.z1
        simp only at f1
        go_wp2_with fail
        refine (W8 _ _ _ [0,-1,wrap64 (c+1),1] _ (A3 c5 _) (hF c5) (uA Z [0,-1,wrap64 (c+1),1] _ rfl) (by simp) (by simp)).mono ?_
        rintro e w6 ⟨m,rfl,-,c6,R⟩;have H:Hid (AS B g w ⟨A,f,p,am,st,C,cl,bk,t,r,D,s⟩ h ⟨F,c,rs⟩ w6):=(L.o.alloc _).call c6 R;have k1:=H.o.ab.c1;have l1:=H.o.ab.z1
        simp only at k1
        clear c6 R c5;go_wp2;go_meet;exact ⟨⟨F,m,rs⟩,H.o.at 1 _ (H.o.ab.set1 m)⟩
      ·go_wp2
       go_meet;exact ⟨_,G.o⟩
    case rest =>
     clear G;obtain ⟨a,q⟩:=hcut;obtain ⟨F,c,rs⟩:=a;obtain ⟨Z,a8⟩:∃ x,x=wc:=⟨_,rfl⟩;subst a8;have d:Hid (AS B g w ⟨A,f,p,am,st,C,cl,bk,t,r,D,s⟩ h ⟨F,c,rs⟩ Z):=q;clear q;go_wp2_with fail
     refine (tW _ _ _ d.o.cur (by omega)).mono ?_
     rintro e w6 ⟨y,rfl,c6,R⟩;have H:Hid (AS B g w ⟨A,f,p,am,st,C,cl,bk,t,r,D,s⟩ h ⟨F,c,rs⟩ w6):=d.o.call c6 R;clear d R
     go_upto_if 57 with fail
     go_cut [6] (fun _ wc=>∃ a,AS B g w ⟨A,f,p,am,st,C,cl,bk,t,r,D,s⟩ h a wc)
     case first =>
      cases y
      ·go_wp2
       go_meet;exact ⟨_,H.o⟩
      ·go_wp2_with fail
       refine (W8 _ _ _ [-1,10] _ (A3 c6 _) (hF c6) (uA w6 [-1,10] _ rfl) (by simp) (by simp)).mono ?_
       rintro e w7 ⟨m,rfl,-,c7,g7⟩;have M:Hid (AS B g w ⟨A,f,p,am,st,C,cl,bk,t,r,D,s⟩ h ⟨F,c,rs⟩ w7):=(H.o.alloc _).call c7 g7;have k0:=M.o.ab.c0;have l0:=M.o.ab.z0
       simp only at k0
       clear c7 g7 c6;go_wp2;go_meet;exact ⟨⟨m,c,rs⟩,M.o.at 0 _ (M.o.ab.set0 m)⟩
     case rest =>
      clear H c6;obtain ⟨a,q⟩:=hcut;obtain ⟨F,c,rs⟩:=a;obtain ⟨w7,a9⟩:∃ x,x=wc:=⟨_,rfl⟩;subst a9;have d:Hid (AS B g w ⟨A,f,p,am,st,C,cl,bk,t,r,D,s⟩ h ⟨F,c,rs⟩ w7):=q;clear q;go_wp2_with fail
      refine (tW _ _ _ d.o.cur (by omega)).mono ?_
      rintro e w8 ⟨y,rfl,c8,g8⟩;have I:Hid (AS B g w ⟨A,f,p,am,st,C,cl,bk,t,r,D,s⟩ h ⟨F,c,rs⟩ w8):=d.o.call c8 g8;clear d g8 c8
      go_upto_if 63 with fail
      go_cut [6] (fun _ wc=>∃ a,AS B g w ⟨A,f,p,am,st,C,cl,bk,t,r,D,s⟩ h a wc)
      case first =>
       cases y
       ·go_wp2
        go_meet;exact ⟨_,I.o⟩
       ·have k2:=I.o.ab.c2
        have l2:=I.o.ab.z2
        simp only at k2
        go_wp2;go_meet;exact ⟨⟨F,c,0⟩,I.o.at 2 _ (I.o.ab.set2 0)⟩
      case rest =>
       clear I;obtain ⟨a,q⟩:=hcut;obtain ⟨F,c,rs⟩:=a;obtain ⟨w9,b3⟩:∃ x,x=wc:=⟨_,rfl⟩;subst b3;have d:Hid (AS B g w ⟨A,f,p,am,st,C,cl,bk,t,r,D,s⟩ h ⟨F,c,rs⟩ w9):=q;clear q;obtain ⟨a0,a1,a2,_,_,_⟩:=d.o.ab;obtain ⟨b0,b1,b2,y0,y1,y2⟩:=d.o.rb
       simp only at a0 a1 a2 b0 b1 b2
       go_wp2
       refine bodyPost_ret (by simp [results,results133,go_sem,b0,b1,b2];try rfl) rfl ?_
       exact ⟨⟨F,c,rs⟩,rfl,d.o.fin _ _ _⟩
end Go.Proofs.YtomiclakhjncbaaGreatDoor
