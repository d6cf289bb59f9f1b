import Derived.Test.YtomiclakhjncbaaGreatDoorJE5a
namespace Go.Proofs.YtomiclakhjncbaaGreatDoor.Kb
open Go.RowKit Go.Proofs.Tryz
set_option maxRecDepth 100000
set_option maxHeartbeats 12800000
structure LEx (B g R T:Nat) (w:World) (b:Bk) (p:Bp) (u:World):Prop where
 cu:A2 B u g
 gr:w.grownBy u (some g)
 r:Z0 R u
 z:Z6b T b p u
 bk:Aq u b p
 og:Wq p g
 hR:R≠g
 hT:T≠g
 hw:w.heap.size≤R
 hg:g<w.heap.size
theorem LEx.call {B g R T:Nat} {w:World} {b:Bk} {p:Bp} {u u':World} (q:LEx B g R T w b p u) (c:A2 B u' g) (r:u.grownBy u' (some g)):LEx B g R T w b p u' :=
 ⟨c,q.gr.trans r,q.r.grown r (by have:=q.hR;simp;omega),Z6.grown q.z r (by have:=q.hT;simp;omega),q.bk.farB r q.og,q.og,q.hR,q.hT,q.hw,q.hg⟩
theorem LEx.below {B g R T:Nat} {w:World} {b:Bk} {p:Bp} {u u':World} (q:LEx B g R T w b p u) (h:BW u u'):LEx B g R T w b p u':=q.call (A4 q.cu h) (K8 h _)
theorem LEx.drew {B g R T:Nat} {w:World} {b:Bk} {p:Bp} {u:World} (q:LEx B g R T w b p u):LEx B g R T w b p u.drew:=q.below (bR.drew)
theorem LEx.al {B g R T:Nat} {w:World} {b:Bk} {p:Bp} {u:World} (q:LEx B g R T w b p u) (o:Obj):LEx B g R T w b p (u.alloc o):=q.below (bR.alloc nL _)
theorem LEx.s {B g R T:Nat} {w:World} {b:Bk} {p:Bp} {u:World} (q:LEx B g R T w b p u):u.cell? ⟨T,0,none⟩=some (.int .i64 b.today)∧u.cell? ⟨T,1,none⟩=some (.slice p.o b.off.length p.oc)∧u.cell? ⟨T,2,none⟩=some (.slice p.a b.az.length p.ac)∧u.cell? ⟨T,3,none⟩=some (.slice p.c b.cs.length p.cc)∧u.cell? ⟨T,4,none⟩=some (.slice p.l b.ls.length p.lc)∧u.cell? ⟨T,5,none⟩=some (.slice p.g b.log.length p.gc):=⟨q.z.c0,q.z.c1,q.z.c2,q.z.c3,q.z.c4,q.z.c5⟩
structure LY (B g R T Y:Nat) (w:World) (b:Bk) (p:Bp) (u:World):Prop where
 le:LEx B g R T w b p u
 y:Z0 Y u
 hY:w.heap.size≤Y
 nT:T≠Y
 nR:R≠Y
theorem LY.call {B g R T Y:Nat} {w:World} {b:Bk} {p:Bp} {u u':World} (q:LY B g R T Y w b p u) (c:A2 B u' g) (r:u.grownBy u' (some g)):LY B g R T Y w b p u' :=
 ⟨q.le.call c r,q.y.grown r (by have:=q.hY;have:=q.le.hg;simp;omega),q.hY,q.nT,q.nR⟩
theorem LY.below {B g R T Y:Nat} {w:World} {b:Bk} {p:Bp} {u u':World} (q:LY B g R T Y w b p u) (h:BW u u'):LY B g R T Y w b p u':=q.call (A4 q.le.cu h) (K8 h _)
theorem LY.drew {B g R T Y:Nat} {w:World} {b:Bk} {p:Bp} {u:World} (q:LY B g R T Y w b p u):LY B g R T Y w b p u.drew:=q.below (bR.drew)
theorem LY.al {B g R T Y:Nat} {w:World} {b:Bk} {p:Bp} {u:World} (q:LY B g R T Y w b p u) (o:Obj):LY B g R T Y w b p (u.alloc o):=q.below (bR.alloc nL _)
theorem LY.new {B g R T:Nat} {w:World} {b:Bk} {p:Bp} {u:World} (q:LEx B g R T w b p u) (t:TypeId):LY B g R T u.heap.size w b p (u.alloc (.cells qzB t)) :=
 ⟨q.al _,Z6.new u _ _ _ _ _ _ _,q.gr.size,by have:=Z6.lt q.z;omega,by have:=q.r.lt;omega⟩
theorem LY.mid {B g R T Y:Nat} {w:World} {b:Bk} {p:Bp} {u:World} (q:LY B g R T Y w b p u) (x0 x1 x2 x3 x4 x5:Value):Z6b T b p ((((((u.setCell ⟨Y,0,none⟩ x0).setCell ⟨Y,1,none⟩ x1).setCell ⟨Y,2,none⟩ x2).setCell ⟨Y,3,none⟩ x3).setCell ⟨Y,4,none⟩ x4).setCell ⟨Y,5,none⟩ x5):=Z6.far6 q.le.z (fun e=>q.nT e.symm) _ _ _ _ _ _
theorem LY.ms {B g R T Y:Nat} {w:World} {b:Bk} {p:Bp} {u:World} (q:LY B g R T Y w b p u) (x0 x1 x2 x3 x4 x5:Value):((((((u.setCell ⟨Y,0,none⟩ x0).setCell ⟨Y,1,none⟩ x1).setCell ⟨Y,2,none⟩ x2).setCell ⟨Y,3,none⟩ x3).setCell ⟨Y,4,none⟩ x4).setCell ⟨Y,5,none⟩ x5).cell? ⟨T,0,none⟩=some (.int .i64 b.today)∧((((((u.setCell ⟨Y,0,none⟩ x0).setCell ⟨Y,1,none⟩ x1).setCell ⟨Y,2,none⟩ x2).setCell ⟨Y,3,none⟩ x3).setCell ⟨Y,4,none⟩ x4).setCell ⟨Y,5,none⟩ x5).cell? ⟨T,1,none⟩=some (.slice p.o b.off.length p.oc)∧((((((u.setCell ⟨Y,0,none⟩ x0).setCell ⟨Y,1,none⟩ x1).setCell ⟨Y,2,none⟩ x2).setCell ⟨Y,3,none⟩ x3).setCell ⟨Y,4,none⟩ x4).setCell ⟨Y,5,none⟩ x5).cell? ⟨T,2,none⟩=some (.slice p.a b.az.length p.ac)∧((((((u.setCell ⟨Y,0,none⟩ x0).setCell ⟨Y,1,none⟩ x1).setCell ⟨Y,2,none⟩ x2).setCell ⟨Y,3,none⟩ x3).setCell ⟨Y,4,none⟩ x4).setCell ⟨Y,5,none⟩ x5).cell? ⟨T,3,none⟩=some (.slice p.c b.cs.length p.cc)∧((((((u.setCell ⟨Y,0,none⟩ x0).setCell ⟨Y,1,none⟩ x1).setCell ⟨Y,2,none⟩ x2).setCell ⟨Y,3,none⟩ x3).setCell ⟨Y,4,none⟩ x4).setCell ⟨Y,5,none⟩ x5).cell? ⟨T,4,none⟩=some (.slice p.l b.ls.length p.lc)∧((((((u.setCell ⟨Y,0,none⟩ x0).setCell ⟨Y,1,none⟩ x1).setCell ⟨Y,2,none⟩ x2).setCell ⟨Y,3,none⟩ x3).setCell ⟨Y,4,none⟩ x4).setCell ⟨Y,5,none⟩ x5).cell? ⟨T,5,none⟩=some (.slice p.g b.log.length p.gc) :=
 ⟨(q.mid x0 x1 x2 x3 x4 x5).c0,(q.mid x0 x1 x2 x3 x4 x5).c1,(q.mid x0 x1 x2 x3 x4 x5).c2,(q.mid x0 x1 x2 x3 x4 x5).c3,(q.mid x0 x1 x2 x3 x4 x5).c4,(q.mid x0 x1 x2 x3 x4 x5).c5⟩
structure LF (B g R X:Nat) (w:World) (b:Bk) (p:Bp) (u:World):Prop where
 cu:A2 B u g
 gr:w.grownBy u (some g)
 r:Z0 R u
 z:Z6b X b p u
 bk:Aq u b p
 oR:Wq p R
 hB:B≤R
 hw:w.heap.size≤R
 fr:FrB p w.heap.size
theorem LF.s {B g R X:Nat} {w:World} {b:Bk} {p:Bp} {u:World} (q:LF B g R X w b p u):u.cell? ⟨X,0,none⟩=some (.int .i64 b.today)∧u.cell? ⟨X,1,none⟩=some (.slice p.o b.off.length p.oc)∧u.cell? ⟨X,2,none⟩=some (.slice p.a b.az.length p.ac)∧u.cell? ⟨X,3,none⟩=some (.slice p.c b.cs.length p.cc)∧u.cell? ⟨X,4,none⟩=some (.slice p.l b.ls.length p.lc)∧u.cell? ⟨X,5,none⟩=some (.slice p.g b.log.length p.gc):=⟨q.z.c0,q.z.c1,q.z.c2,q.z.c3,q.z.c4,q.z.c5⟩
theorem LF.fin {B g R X:Nat} {w:World} {b:Bk} {p:Bp} {u:World} (q:LF B g R X w b p u) {x0 x1 x2 x3 x4 x5:Value} : Aq ((((((u.setCell ⟨R,0,none⟩ x0).setCell ⟨R,1,none⟩ x1).setCell ⟨R,2,none⟩ x2).setCell ⟨R,3,none⟩ x3).setCell ⟨R,4,none⟩ x4).setCell ⟨R,5,none⟩ x5) b p ∧
  A2 B ((((((u.setCell ⟨R,0,none⟩ x0).setCell ⟨R,1,none⟩ x1).setCell ⟨R,2,none⟩ x2).setCell ⟨R,3,none⟩ x3).setCell ⟨R,4,none⟩ x4).setCell ⟨R,5,none⟩ x5) g∧w.grownBy ((((((u.setCell ⟨R,0,none⟩ x0).setCell ⟨R,1,none⟩ x1).setCell ⟨R,2,none⟩ x2).setCell ⟨R,3,none⟩ x3).setCell ⟨R,4,none⟩ x4).setCell ⟨R,5,none⟩ x5) (some g):=by
 have hB:=q.hB;have hw:=q.hw
 have b2:Below B u ((((((u.setCell ⟨R,0,none⟩ x0).setCell ⟨R,1,none⟩ x1).setCell ⟨R,2,none⟩ x2).setCell ⟨R,3,none⟩ x3).setCell ⟨R,4,none⟩ x4).setCell ⟨R,5,none⟩ x5) :=
  ((((((Below.refl _ u).setCell (p:=⟨R,0,none⟩) hB x0).setCell (p:=⟨R,1,none⟩) hB x1).setCell (p:=⟨R,2,none⟩) hB x2).setCell (p:=⟨R,3,none⟩) hB x3).setCell (p:=⟨R,4,none⟩) hB x4).setCell (p:=⟨R,5,none⟩) hB x5
 have b3:Below w.heap.size u ((((((u.setCell ⟨R,0,none⟩ x0).setCell ⟨R,1,none⟩ x1).setCell ⟨R,2,none⟩ x2).setCell ⟨R,3,none⟩ x3).setCell ⟨R,4,none⟩ x4).setCell ⟨R,5,none⟩ x5) :=
  ((((((Below.refl _ u).setCell (p:=⟨R,0,none⟩) hw x0).setCell (p:=⟨R,1,none⟩) hw x1).setCell (p:=⟨R,2,none⟩) hw x2).setCell (p:=⟨R,3,none⟩) hw x3).setCell (p:=⟨R,4,none⟩) hw x4).setCell (p:=⟨R,5,none⟩) hw x5
 exact ⟨q.bk.put6 q.oR _ _ _ _ _ _,B9 q.cu b2,⟨b3.os.trans q.gr.os,b3.tape.trans q.gr.tape,b3.output.trans q.gr.output,Nat.le_trans q.gr.size b3.size,fun k hk hne=>(b3.block k hk).trans (q.gr.block k hk hne)⟩⟩
theorem Adf {B g R T n:Nat} {w:World} {b b2:Bk} {p q2:Bp} {u:World} (q:LEx B g R T w b p u) (hb:Aq u b2 q2) (hf:FrB q2 n) (hR:R<n) (hB:B≤R) :
  LF B g R u.heap.size w b2 q2 (u.alloc (.cells (qcB b2 q2) 31)) :=
 have bA:Below u.heap.size u (u.alloc (.cells (qcB b2 q2) 31)):=bR.alloc nL _
 ⟨A4 q.cu bA,q.gr.trans (K8 bA _),q.r.below bA,Z6.new u _ _ _ _ _ _ _,hb.below bA,K4 hf hR,hB,q.hw,hf.mono (by have:=q.hw;omega)⟩
theorem Ac2 {B g R T Y n:Nat} {w:World} {b b2:Bk} {p q2:Bp} {u:World} (q:LY B g R T Y w b p u) (hb:Aq u b2 q2) (hf:FrB q2 n) (hR:R<n) (hY:Y<n) (hB:B≤R) (hBY:B≤Y) :
  LF B g R Y w b2 q2 ((((((u.setCell ⟨Y,0,none⟩ (.int .i64 b2.today)).setCell ⟨Y,1,none⟩ (.slice q2.o b2.off.length q2.oc)).setCell ⟨Y,2,none⟩ (.slice q2.a b2.az.length q2.ac)).setCell ⟨Y,3,none⟩ (.slice q2.c b2.cs.length q2.cc)).setCell ⟨Y,4,none⟩ (.slice q2.l b2.ls.length q2.lc)).setCell ⟨Y,5,none⟩ (.slice q2.g b2.log.length q2.gc)):=by
 have hw:=q.hY
 have b2':Below B u ((((((u.setCell ⟨Y,0,none⟩ (.int .i64 b2.today)).setCell ⟨Y,1,none⟩ (.slice q2.o b2.off.length q2.oc)).setCell ⟨Y,2,none⟩ (.slice q2.a b2.az.length q2.ac)).setCell ⟨Y,3,none⟩ (.slice q2.c b2.cs.length q2.cc)).setCell ⟨Y,4,none⟩ (.slice q2.l b2.ls.length q2.lc)).setCell ⟨Y,5,none⟩ (.slice q2.g b2.log.length q2.gc)) :=
  ((((((Below.refl _ u).setCell (p:=⟨Y,0,none⟩) hBY _).setCell (p:=⟨Y,1,none⟩) hBY _).setCell (p:=⟨Y,2,none⟩) hBY _).setCell (p:=⟨Y,3,none⟩) hBY _).setCell (p:=⟨Y,4,none⟩) hBY _).setCell (p:=⟨Y,5,none⟩) hBY _
 have b3:Below w.heap.size u ((((((u.setCell ⟨Y,0,none⟩ (.int .i64 b2.today)).setCell ⟨Y,1,none⟩ (.slice q2.o b2.off.length q2.oc)).setCell ⟨Y,2,none⟩ (.slice q2.a b2.az.length q2.ac)).setCell ⟨Y,3,none⟩ (.slice q2.c b2.cs.length q2.cc)).setCell ⟨Y,4,none⟩ (.slice q2.l b2.ls.length q2.lc)).setCell ⟨Y,5,none⟩ (.slice q2.g b2.log.length q2.gc)) :=
  ((((((Below.refl _ u).setCell (p:=⟨Y,0,none⟩) hw _).setCell (p:=⟨Y,1,none⟩) hw _).setCell (p:=⟨Y,2,none⟩) hw _).setCell (p:=⟨Y,3,none⟩) hw _).setCell (p:=⟨Y,4,none⟩) hw _).setCell (p:=⟨Y,5,none⟩) hw _
 have gr:=q.le.gr
 exact ⟨B9 q.le.cu b2',⟨b3.os.trans gr.os,b3.tape.trans gr.tape,b3.output.trans gr.output,Nat.le_trans gr.size b3.size,fun k hk hne=>(b3.block k hk).trans (gr.block k hk hne)⟩,Z6.far6 q.le.r (fun e=>q.nR e.symm) _ _ _ _ _ _,(((((q.y.set0 _).set1 _).set2 _).set3 _).set4 _).set5 _,hb.put6 (K4 hf hY) _ _ _ _ _ _,K4 hf hR,hB,q.le.hw,hf.mono (by have:=q.le.hw;omega)⟩
theorem Ac9 {B g:Nat} {u:World} (s:Nat) (hc:A2 B u g) (hs:s≠g) (h:∀ i,i<4→u.cell? ⟨s,i,none⟩=some (.int .i64 (([1,30,60,120]:List Int).getD i 0))) :
  Calls prog 131 #[.pointer (some ⟨g,0,none⟩),.slice (some ⟨s,0,none⟩) 4 4] u fun e u'=>∃ x:Int,e=.returned (.int .i64 x)∧A2 B u' g∧u.grownBy u' (some g) :=
 (R2 g s 4 [1,30,60,120] u hc hs h (by decide) (by decide)).mono (by rintro e u' ⟨x,h1,-,c,r⟩;exact ⟨x,h1,c,r⟩)
def LtR (B g:Nat) (w:World) (e:Ending) (w':World):Prop :=
 ∃ b p,e=.returned (C5 b p)∧Z7 101 b∧FrB p w.heap.size∧Aq w' b p∧A2 B w' g∧w.grownBy w' (some g)
theorem Ac6 {B:Nat} (g:Nat) (b:Bk) (p:Bp) (w:World) (hc:A2 B w g) (hx:Aq w b p) (hog:Wq p g) (hI:Z7 100 b) :
  Calls prog 89 #[.pointer (some ⟨g,0,none⟩),C5 b p] w (LtR B g w):=by
 have cb:=K6 hc;obtain ⟨T,hT⟩:∃ T,w.heap.size=T:=⟨_,rfl⟩;obtain ⟨R,hR⟩:∃ R,T+1=R:=⟨_,rfl⟩;obtain ⟨U,hU⟩:∃ U,U=(w.alloc (.cells (qcB b p) 31)).alloc (.cells qzB 31):=⟨_,rfl⟩
 have HL:Hid (LEx B g R T w b p U):=by
  have bU:BW w U:=by rw [hU];go_grown
  have hz:Z6b T b p U:=by rw [hU,← hT];exact Z6.below (Z6.new w _ _ _ _ _ _ _) (bR.alloc nL _)
  have hr:Z0 R U:=by
   have h:=Z6.new (w.alloc (.cells (qcB b p) 31)) (.int .i64 0) (.slice none 0 0) (.slice none 0 0) (.slice none 0 0) (.slice none 0 0) (.slice none 0 0) 31
   rw [hU,← hR,← hT];simpa using h
  exact ⟨A4 hc bU,K8 bU _,hr,hz,hx.below bU,hog,by omega,by omega,by omega,by omega⟩
 have HI:Hid (Z7 100 b):=hI
 have HBR:Hid (B≤R):=by rw [Hid];omega
 have HBW:Hid (B≤w.heap.size):=cb.2;have HU:Hid _:=hU;have HT:Hid _:=hT;have HR:Hid _:=hR;unfold C5;clear hc hx hog hI hU hT hR cb
 go_enter func89,ntmps89
 go_upto_region 1 with fail
 rw [← HU.o,HT.o,HR.o]
 have HDC:Hid (∀ u (s:ByteArray) (l:List UInt8),s=⟨([100,97,121,32]++l).toArray⟩→Aq u b p→l.length≤22→Calls prog 31 #[.agg (qcB b p),.string s] u fun e u'=>∃ b' q code,e=.returned (.tuple #[C5 b' q,.int .i64 code])∧Z7 101 b'∧Aq u' b' q∧BW u u'∧FrB q u.heap.size):=fun u s l hs hk hl=>by
  rw [hs]
  exact Aa3 HI.o (by omega) p ([100,97,121,32]++l) u hk (by simp;omega) (Pl (x:=[100,97,121]) (L2 (by decide)) (by decide) (by decide) l)
 obtain ⟨Y,hY⟩:∃ Y,U.heap.size=Y:=⟨_,rfl⟩;have hg:=(K6 HL.o.cu).1
 have nYg:Y≠g:=by have:=R5 HL.o.cu;omega
 have nYg1:Y+1≠g:=by have:=HL.o.hg;have:=HL.o.gr.size;omega
 have HPA:Hid (Calls prog 131 #[.pointer (some ⟨g,0,none⟩),.slice (some ⟨U.heap.size,0,none⟩) 4 4] (U.alloc (.cells #[.int .i64 1,.int .i64 30,.int .i64 60,.int .i64 120] 3)).drew fun e u'=>∃ x:Int,e=.returned (.int .i64 x)∧LEx B g R T w b p u') :=
  (Ac9 U.heap.size (HL.o.al _).drew.cu (by omega) (fun i hi=>tX U [1,30,60,120] #[.int .i64 1,.int .i64 30,.int .i64 60,.int .i64 120] rfl i hi)).mono (by rintro e u' ⟨x,h1,c,r⟩;exact ⟨x,h1,(HL.o.al _).drew.call c r⟩)
 have HPB:Hid (Calls prog 131 #[.pointer (some ⟨g,0,none⟩),.slice (some ⟨U.heap.size,0,none⟩) 4 4] ((U.alloc (.cells #[.int .i64 1,.int .i64 30,.int .i64 60,.int .i64 120] 3)).alloc (.cells qzB 31)).drew fun e u'=>∃ x:Int,e=.returned (.int .i64 x)∧LY B g R T (U.heap.size+1) w b p u'):=by
  have q:=(LY.new (HL.o.al (.cells #[.int .i64 1,.int .i64 30,.int .i64 60,.int .i64 120] 3)) 31).drew
  rw [show (U.alloc (.cells #[.int .i64 1,.int .i64 30,.int .i64 60,.int .i64 120] 3)).heap.size=U.heap.size+1 from by simp] at q
  refine (Ac9 U.heap.size q.le.cu (by omega) (fun i hi=>?_)).mono (by rintro e u' ⟨x,h1,c,r⟩;exact ⟨x,h1,q.call c r⟩)
  have h:=tX U [1,30,60,120] #[.int .i64 1,.int .i64 30,.int .i64 60,.int .i64 120] rfl i hi
  exact ((bR.alloc nL _).drew.cell (p:=⟨U.heap.size,i,none⟩) (by simp)).trans h
 have HPC:Hid (Calls prog 131 #[.pointer (some ⟨g,0,none⟩),.slice (some ⟨U.heap.size+1,0,none⟩) 4 4] ((U.alloc (.cells qzB 31)).alloc (.cells #[.int .i64 1,.int .i64 30,.int .i64 60,.int .i64 120] 3)).drew fun e u'=>∃ x:Int,e=.returned (.int .i64 x)∧LY B g R T U.heap.size w b p u'):=by
  have q:=((LY.new HL.o 31).al (.cells #[.int .i64 1,.int .i64 30,.int .i64 60,.int .i64 120] 3)).drew
  refine (Ac9 (U.heap.size+1) q.le.cu (by omega) (fun i hi=>?_)).mono (by rintro e u' ⟨x,h1,c,r⟩;exact ⟨x,h1,q.call c r⟩)
  have h:=tX (U.alloc (.cells qzB 31)) [1,30,60,120] #[.int .i64 1,.int .i64 30,.int .i64 60,.int .i64 120] rfl i hi
  simpa using h
 rw [hY] at HPA HPB HPC;clear HU HT HR hg nYg nYg1
 go_region_held3 (fun u=>u.cell? ⟨T,0,none⟩=some (.int .i64 b.today)∧u.cell? ⟨T,1,none⟩=some (.slice p.o b.off.length p.oc)∧u.cell? ⟨T,2,none⟩=some (.slice p.a b.az.length p.ac)∧u.cell? ⟨T,3,none⟩=some (.slice p.c b.cs.length p.cc)∧u.cell? ⟨T,4,none⟩=some (.slice p.l b.ls.length p.lc)∧u.cell? ⟨T,5,none⟩=some (.slice p.g b.log.length p.gc)) (first | with_reducible exact HL.o.s | with_reducible exact HL.o.drew.s | with_reducible exact (HL.o.al _).s | with_reducible exact (HL.o.drew.al _).s | with_reducible exact (HL.o.al _).drew.s | with_reducible exact ((HL.o.al _).al _).drew.s | with_reducible exact ((HL.o.al _).al _).s | with_reducible exact q5.s | with_reducible exact (q5.al _).s | with_reducible exact q5y.le.s | with_reducible exact q6.s | with_reducible exact (q6.al _).s | with_reducible exact q6y.le.s | with_reducible exact q6y.ms _ _ _ _ _ _) ((first
  | (go_at_call 131;(with_reducible refine Calls.mono HPA.o ?_);rintro e u5 ⟨x,rfl,q5⟩)
  | (go_at_call 131;(with_reducible refine Calls.mono HPB.o ?_);rintro e u5 ⟨x,rfl,q5y⟩)
  | (go_at_call 131;(with_reducible refine Calls.mono HPC.o ?_);rintro e u5 ⟨x,rfl,q5y⟩)
  | (go_at_call 72;(with_reducible refine Calls.mono (R3 _ _) ?_);rintro e u7 ⟨l,rfl,hl,rfl⟩;obtain ⟨D,hD⟩:∃ D:ByteArray,D=⟨l.toArray⟩:=⟨_,rfl⟩;obtain ⟨C,hC⟩:∃ C:ByteArray,C=⟨([100,97,121,32]++l).toArray⟩:=⟨_,rfl⟩;have hcat:∀ v,(Op.stringOp .add ⟨#[100,97,121,32]⟩ D).run prog v=.ok (.string C) v:=(by rw [hC,hD];exact fun v=>Kr [100,97,121,32] l (by simp;omega) v);rw [← hD];have HC:Hid (C=⟨([100,97,121,32]++l).toArray⟩):=hC;clear hC hD)
  | (go_at_call 31;(with_reducible refine Calls.mono (HDC.o _ _ l HC.o q5.bk hl) ?_);rintro e u6 ⟨b2,q2,code,rfl,hI2,hb2,b6,hf2⟩;have q6:=q5.below b6;unfold C5;simp only)
  | (go_at_call 31;(with_reducible refine Calls.mono (HDC.o _ _ l HC.o q5y.le.bk hl) ?_);rintro e u6 ⟨b2,q2,code,rfl,hI2,hb2,b6,hf2⟩;have q6y:=q5y.below b6;obtain ⟨k0,k1,k2,k3,k4,k5,m0,m1,m2,m3,m4,m5⟩:=q6y.y;unfold C5;simp only)
  | (go_at_call 31;(with_reducible refine Calls.mono (HDC.o _ _ l HC.o (LY.new q5 _).le.bk hl) ?_);rintro e u6 ⟨b2,q2,code,rfl,hI2,hb2,b6,hf2⟩;have q6y:=(LY.new q5 31).below b6;obtain ⟨k0,k1,k2,k3,k4,k5,m0,m1,m2,m3,m4,m5⟩:=q6y.y;unfold C5;simp only)))
 ·rename_i hheld
  have HI2:Hid (Z7 101 b2):=hI2;clear hheld HPA HPB HPC HDC hI2;have HF:Hid (LF B g R u6.heap.size w b2 q2 (u6.alloc (.cells (qcB b2 q2) 31))):=Adf q6 hb2 hf2 q5.r.lt HBR.o;obtain ⟨VV,hVV⟩:∃ V,V=u6.alloc (.cells (qcB b2 q2) 31):=⟨_,rfl⟩;clear q5 q6;rw [← hVV] at HF ⊢;clear hVV hb2 hf2 b6;obtain ⟨X,hX⟩:∃ X,X=u6.heap.size:=⟨_,rfl⟩;rw [← hX] at HF ⊢;clear hX;obtain ⟨y0,y1,y2,y3,y4,y5⟩:=HF.o.s;obtain ⟨r0,r1,r2,r3,r4,r5,s0,s1,s2,s3,s4,s5⟩:=HF.o.r;go_wp2
  refine bodyPost_ret (by simp [results,results89,go_sem,r0,r1,r2,r3,r4,r5];try rfl) rfl ?_
  exact ⟨b2,q2,rfl,HI2.o,HF.o.fr,HF.o.fin⟩
 ·rename_i hheld
  have HI2:Hid (Z7 101 b2):=hI2;clear hheld HPA HPB HPC HDC hI2
  have hf3:FrB q2 (u7.heap.size+1):=by simpa using hf2
  have HF:Hid (LF B g R u7.heap.size w b2 q2 ((((((u6.setCell ⟨u7.heap.size,0,none⟩ (.int .i64 b2.today)).setCell ⟨u7.heap.size,1,none⟩ (.slice q2.o b2.off.length q2.oc)).setCell ⟨u7.heap.size,2,none⟩ (.slice q2.a b2.az.length q2.ac)).setCell ⟨u7.heap.size,3,none⟩ (.slice q2.c b2.cs.length q2.cc)).setCell ⟨u7.heap.size,4,none⟩ (.slice q2.l b2.ls.length q2.lc)).setCell ⟨u7.heap.size,5,none⟩ (.slice q2.g b2.log.length q2.gc))):=Ac2 q6y hb2 hf3 (by have:=q5.r.lt;omega) (Nat.lt_succ_self _) HBR.o (Nat.le_trans HBR.o (Nat.le_of_lt q5.r.lt))
  obtain ⟨VV,hVV⟩:∃ V,V=((((((u6.setCell ⟨u7.heap.size,0,none⟩ (.int .i64 b2.today)).setCell ⟨u7.heap.size,1,none⟩ (.slice q2.o b2.off.length q2.oc)).setCell ⟨u7.heap.size,2,none⟩ (.slice q2.a b2.az.length q2.ac)).setCell ⟨u7.heap.size,3,none⟩ (.slice q2.c b2.cs.length q2.cc)).setCell ⟨u7.heap.size,4,none⟩ (.slice q2.l b2.ls.length q2.lc)).setCell ⟨u7.heap.size,5,none⟩ (.slice q2.g b2.log.length q2.gc)):=⟨_,rfl⟩;clear q5 q6y hf3 k0 k1 k2 k3 k4 k5 m0 m1 m2 m3 m4 m5;rw [← hVV] at HF ⊢;clear hVV hb2 hf2 b6;obtain ⟨X,hX⟩:∃ X,X=u7.heap.size:=⟨_,rfl⟩;rw [← hX] at HF ⊢;clear hX;obtain ⟨y0,y1,y2,y3,y4,y5⟩:=HF.o.s;obtain ⟨r0,r1,r2,r3,r4,r5,s0,s1,s2,s3,s4,s5⟩:=HF.o.r;go_wp2
  refine bodyPost_ret (by simp [results,results89,go_sem,r0,r1,r2,r3,r4,r5];try rfl) rfl ?_
  exact ⟨b2,q2,rfl,HI2.o,HF.o.fr,HF.o.fin⟩
 ·rename_i hheld
  have HI2:Hid (Z7 101 b2):=hI2;clear hheld HPA HPB HPC HDC hI2
  have hf3:FrB q2 (u5.heap.size+1):=by simpa using hf2
  have HF:Hid (LF B g R u5.heap.size w b2 q2 ((((((u6.setCell ⟨u5.heap.size,0,none⟩ (.int .i64 b2.today)).setCell ⟨u5.heap.size,1,none⟩ (.slice q2.o b2.off.length q2.oc)).setCell ⟨u5.heap.size,2,none⟩ (.slice q2.a b2.az.length q2.ac)).setCell ⟨u5.heap.size,3,none⟩ (.slice q2.c b2.cs.length q2.cc)).setCell ⟨u5.heap.size,4,none⟩ (.slice q2.l b2.ls.length q2.lc)).setCell ⟨u5.heap.size,5,none⟩ (.slice q2.g b2.log.length q2.gc))):=Ac2 q6y hb2 hf3 (by have:=q5.r.lt;omega) (Nat.lt_succ_self _) HBR.o (Nat.le_trans HBR.o (Nat.le_of_lt q5.r.lt))
  obtain ⟨VV,hVV⟩:∃ V,V=((((((u6.setCell ⟨u5.heap.size,0,none⟩ (.int .i64 b2.today)).setCell ⟨u5.heap.size,1,none⟩ (.slice q2.o b2.off.length q2.oc)).setCell ⟨u5.heap.size,2,none⟩ (.slice q2.a b2.az.length q2.ac)).setCell ⟨u5.heap.size,3,none⟩ (.slice q2.c b2.cs.length q2.cc)).setCell ⟨u5.heap.size,4,none⟩ (.slice q2.l b2.ls.length q2.lc)).setCell ⟨u5.heap.size,5,none⟩ (.slice q2.g b2.log.length q2.gc)):=⟨_,rfl⟩;clear q5 q6y hf3 k0 k1 k2 k3 k4 k5 m0 m1 m2 m3 m4 m5;rw [← hVV] at HF ⊢;clear hVV hb2 hf2 b6;obtain ⟨X,hX⟩:∃ X,X=u5.heap.size:=⟨_,rfl⟩;rw [← hX] at HF ⊢;clear hX;obtain ⟨y0,y1,y2,y3,y4,y5⟩:=HF.o.s;obtain ⟨r0,r1,r2,r3,r4,r5,s0,s1,s2,s3,s4,s5⟩:=HF.o.r;go_wp2
  refine bodyPost_ret (by simp [results,results89,go_sem,r0,r1,r2,r3,r4,r5];try rfl) rfl ?_
  exact ⟨b2,q2,rfl,HI2.o,HF.o.fr,HF.o.fin⟩
 ·rename_i hheld
  have HI2:Hid (Z7 101 b2):=hI2;clear hheld HPA HPB HPC HDC hI2;have hf3:=hf2
  have HF:Hid (LF B g R (Y+1) w b2 q2 ((((((u6.setCell ⟨(Y+1),0,none⟩ (.int .i64 b2.today)).setCell ⟨(Y+1),1,none⟩ (.slice q2.o b2.off.length q2.oc)).setCell ⟨(Y+1),2,none⟩ (.slice q2.a b2.az.length q2.ac)).setCell ⟨(Y+1),3,none⟩ (.slice q2.c b2.cs.length q2.cc)).setCell ⟨(Y+1),4,none⟩ (.slice q2.l b2.ls.length q2.lc)).setCell ⟨(Y+1),5,none⟩ (.slice q2.g b2.log.length q2.gc))):=Ac2 q6y hb2 hf3 q5y.le.r.lt q5y.y.lt HBR.o (by have:=q5y.hY;have:=HBW.o;omega)
  obtain ⟨VV,hVV⟩:∃ V,V=((((((u6.setCell ⟨(Y+1),0,none⟩ (.int .i64 b2.today)).setCell ⟨(Y+1),1,none⟩ (.slice q2.o b2.off.length q2.oc)).setCell ⟨(Y+1),2,none⟩ (.slice q2.a b2.az.length q2.ac)).setCell ⟨(Y+1),3,none⟩ (.slice q2.c b2.cs.length q2.cc)).setCell ⟨(Y+1),4,none⟩ (.slice q2.l b2.ls.length q2.lc)).setCell ⟨(Y+1),5,none⟩ (.slice q2.g b2.log.length q2.gc)):=⟨_,rfl⟩;clear q5y q6y hf3 k0 k1 k2 k3 k4 k5 m0 m1 m2 m3 m4 m5;rw [← hVV] at HF ⊢;clear hVV hb2 hf2 b6;obtain ⟨X,hX⟩:∃ X,X=(Y+1):=⟨_,rfl⟩;rw [← hX] at HF ⊢;clear hX;obtain ⟨y0,y1,y2,y3,y4,y5⟩:=HF.o.s;obtain ⟨r0,r1,r2,r3,r4,r5,s0,s1,s2,s3,s4,s5⟩:=HF.o.r;go_wp2
  refine bodyPost_ret (by simp [results,results89,go_sem,r0,r1,r2,r3,r4,r5];try rfl) rfl ?_
  exact ⟨b2,q2,rfl,HI2.o,HF.o.fr,HF.o.fin⟩
 ·rename_i hheld
  have HI2:Hid (Z7 101 b2):=hI2;clear hheld HPA HPB HPC HDC hI2;have hf3:=hf2
  have HF:Hid (LF B g R Y w b2 q2 ((((((u6.setCell ⟨Y,0,none⟩ (.int .i64 b2.today)).setCell ⟨Y,1,none⟩ (.slice q2.o b2.off.length q2.oc)).setCell ⟨Y,2,none⟩ (.slice q2.a b2.az.length q2.ac)).setCell ⟨Y,3,none⟩ (.slice q2.c b2.cs.length q2.cc)).setCell ⟨Y,4,none⟩ (.slice q2.l b2.ls.length q2.lc)).setCell ⟨Y,5,none⟩ (.slice q2.g b2.log.length q2.gc))):=Ac2 q6y hb2 hf3 q5y.le.r.lt q5y.y.lt HBR.o (by have:=q5y.hY;have:=HBW.o;omega)
  obtain ⟨VV,hVV⟩:∃ V,V=((((((u6.setCell ⟨Y,0,none⟩ (.int .i64 b2.today)).setCell ⟨Y,1,none⟩ (.slice q2.o b2.off.length q2.oc)).setCell ⟨Y,2,none⟩ (.slice q2.a b2.az.length q2.ac)).setCell ⟨Y,3,none⟩ (.slice q2.c b2.cs.length q2.cc)).setCell ⟨Y,4,none⟩ (.slice q2.l b2.ls.length q2.lc)).setCell ⟨Y,5,none⟩ (.slice q2.g b2.log.length q2.gc)):=⟨_,rfl⟩;clear q5y q6y hf3 k0 k1 k2 k3 k4 k5 m0 m1 m2 m3 m4 m5;rw [← hVV] at HF ⊢;clear hVV hb2 hf2 b6;obtain ⟨X,hX⟩:∃ X,X=Y:=⟨_,rfl⟩;rw [← hX] at HF ⊢;clear hX;obtain ⟨y0,y1,y2,y3,y4,y5⟩:=HF.o.s;obtain ⟨r0,r1,r2,r3,r4,r5,s0,s1,s2,s3,s4,s5⟩:=HF.o.r;go_wp2
  refine bodyPost_ret (by simp [results,results89,go_sem,r0,r1,r2,r3,r4,r5];try rfl) rfl ?_
  exact ⟨b2,q2,rfl,HI2.o,HF.o.fr,HF.o.fin⟩
def ExD (w:World) (e:Ending) (w':World):Prop:=∃ b p,e=.returned (C5 b p)∧Z7 101 b∧Aq w' b p∧BW w w'
theorem Ac3 (a:Option Addr) (len cap:Nat) (zs:List Int) (w:World) (hr:pZ .u8 w a len cap zs) (hn:len≤1048576) :
  Calls prog 36 #[.slice a len cap] w (ExD w):=by
 have bel:Below w.heap.size w (w.alloc (.cells qzB 31)):=by go_grown
 have hr1:=wZ hr bel;have zR:=Z6.new w (.int .i64 0) (.slice none 0 0) (.slice none 0 0) (.slice none 0 0) (.slice none 0 0) (.slice none 0 0) 31
 have hs0:(w.alloc (.cells qzB 31)).heap.size=w.heap.size+1:=by simp
 go_enter func36,ntmps36
 go_wp2_with fail
 refine (zK _ _ _ _ _ hr1 hn).mono ?_;rintro e u1 ⟨rfl,c1,b1⟩;have zR1:=zR.below b1;have q1:=next bel b1
 simp only [World.size_alloc] at c1 b1 ⊢
 clear hr hr1 bel b1 zR;go_wp2_with fail
 refine (xO a len cap 40 u1 hn (by omega)).mono ?_
 rintro e w' ⟨k,rfl,hk,hw'⟩;subst hw';go_wp2_with fail
 refine (G4 _ _ _ c1 (by omega)).mono ?_
 rintro e u2 ⟨x,rfl,x0,x1,c2,g2⟩;obtain ⟨n,rfl⟩:=Int.eq_ofNat_of_zero_le x0
 have hn40:n≤100:=by
  have:=x1 hk.1;omega
 have zR2:=zR1.grown g2 (by simp)
 have q2:BW w u2:=q1.grown g2 q1.size (fun k hk=>by cases hk;omega)
 clear c1 zR1 q1 x1 x0 g2;go_wp2_with fail
 refine (wW (w.heap.size+1) n u2 c2 hn40).mono ?_;rintro e u3 ⟨b,p,rfl,hI,hb,hog,hfr,c3,g3⟩;have lR:=zR2.lt
 have zR3:=zR2.grown g3 (by simp)
 have q3:BW w u3:=q2.grown g3 q2.size (fun k hk=>by cases hk;omega)
 clear c2 q2 zR2 g3 hfr;go_wp2_with fail
 refine (Ac6 (w.heap.size+1) b p u3 c3 hb hog hI).mono ?_;rintro e u4 ⟨b2,p2,rfl,hI2,hf2,hb2,c4,g4⟩
 have zR4:=zR3.grown g4 (by simp)
 have q4:BW w u4:=q3.grown g4 q3.size (fun k hk=>by cases hk;omega)
 have HI2:Hid (Z7 101 b2):=hI2;have HB2:Hid (Aq u4 b2 p2):=hb2;have HO2:Hid (Wq p2 w.heap.size):=K4 hf2 zR3.lt;have HQ4:Hid (BW w u4):=q4;unfold C5;clear c3 zR3 q3 lR hI hb hog hI2 hf2 hb2 c4 g4 q4;obtain ⟨r0,r1,r2,r3,r4,r5,s0,s1,s2,s3,s4,s5⟩:=zR4;go_wp2
 refine bodyPost_ret (by simp [results,results36,go_sem,r0,r1,r2,r3,r4,r5];try rfl) rfl ?_
 exact ⟨b2,p2,rfl,HI2.o,HB2.o.put6 HO2.o _ _ _ _ _ _,Ax nL HQ4.o _ _ _ _ _ _⟩
end Go.Proofs.YtomiclakhjncbaaGreatDoor.Kb
