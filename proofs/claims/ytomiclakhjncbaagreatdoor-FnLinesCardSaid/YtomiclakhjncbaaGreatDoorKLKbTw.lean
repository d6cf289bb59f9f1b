import Derived.Test.YtomiclakhjncbaaGreatDoorJL0a
import Derived.Test.YtomiclakhjncbaaGreatDoorKLBkDrJ
namespace Go.Proofs.YtomiclakhjncbaaGreatDoor.Kb
open Go.RowKit Go.Proofs.Tryz
set_option maxRecDepth 100000
set_option maxHeartbeats 12800000
theorem xO (a:Option Addr) (len cap:Nat) (m:Int) (w:World) (hn:len≤1048576) (hm:2≤m∧m≤100) :
  Calls prog 80 #[.slice a len cap,.int .i64 m] w fun e w'=>∃ k:Nat,e=.returned (.int .i64 k)∧(1≤(k:Int)∧(k:Int)≤m)∧w'=w:=by
 have hd:((len:Int).tdiv 20)=((len / 20:Nat):Int):=by have:=Int.tdiv_eq_ediv_of_nonneg (a:=(len:Int)) (b:=20) (by omega);omega
 obtain ⟨q,hq⟩:∃ q,len / 20=q:=⟨_,rfl⟩
 have hqb:q≤1048576:=by omega
 rw [hq] at hd
 by_cases h:m<2+(q:Int)
 ·obtain ⟨k,rfl⟩:=Int.eq_ofNat_of_zero_le (show 0≤m by omega)
  go_enter func80,ntmps80
  go_wp2;go_ret
  exact ⟨k,rfl,by omega,rfl⟩
 ·go_enter func80,ntmps80
  go_wp2;go_ret
  exact ⟨2+q,by simp,by omega,rfl⟩
structure TW (B g R T:Nat) (w:World) (b:Bk) (p:Bp) (u:World):Prop where
 cu:A2 B u g
 be:BW w u
 r:Z0 R u
 z:Z6b T b p u
 bk:Aq u b p
 og:Wq p g
 oR:Wq p R
 hg:w.heap.size≤g
 hR:R≠g
 hT:T≠g
 hRw:w.heap.size≤R
theorem TW.call {B g R T:Nat} {w:World} {b:Bk} {p:Bp} {u u':World} (q:TW B g R T w b p u) (c:A2 B u' g) (r:u.grownBy u' (some g)):TW B g R T w b p u' :=
 ⟨c,q.be.grown r q.be.size (fun k hk=>by cases hk;exact q.hg),q.r.grown r (by have:=q.hR;simp;omega),Z6.grown q.z r (by have:=q.hT;simp;omega),q.bk.farB r q.og,q.og,q.oR,q.hg,q.hR,q.hT,q.hRw⟩
theorem TW.below {B g R T:Nat} {w:World} {b:Bk} {p:Bp} {u u':World} (q:TW B g R T w b p u) (h:BW u u'):TW B g R T w b p u':=q.call (A4 q.cu h) (K8 h _)
theorem TW.drew {B g R T:Nat} {w:World} {b:Bk} {p:Bp} {u:World} (q:TW B g R T w b p u):TW B g R T w b p u.drew:=q.below (bR.drew)
theorem Aae {B g R T:Nat} {w:World} {b:Bk} {p:Bp} {u:World} (q:TW B g R T w b p u) (x0 x1 x2 x3 x4 x5:Value):Aq ((((((u.setCell ⟨R,0,none⟩ x0).setCell ⟨R,1,none⟩ x1).setCell ⟨R,2,none⟩ x2).setCell ⟨R,3,none⟩ x3).setCell ⟨R,4,none⟩ x4).setCell ⟨R,5,none⟩ x5) b p ∧
  Below w.heap.size w ((((((u.setCell ⟨R,0,none⟩ x0).setCell ⟨R,1,none⟩ x1).setCell ⟨R,2,none⟩ x2).setCell ⟨R,3,none⟩ x3).setCell ⟨R,4,none⟩ x4).setCell ⟨R,5,none⟩ x5) :=
 ⟨q.bk.put6 q.oR _ _ _ _ _ _,Ax q.hRw q.be _ _ _ _ _ _⟩
def DoD (w:World) (e:Ending) (w':World):Prop:=∃ b p,∃ l:List UInt8,e=.returned (.tuple #[C5 b p,.string ⟨l.toArray⟩])∧Z7 100 b∧l.length≤400∧K5 l∧Aq w' b p∧BW w w'
theorem wA (a:Option Addr) (len cap:Nat) (zs:List Int) (w:World) (hr:pZ .u8 w a len cap zs) (hn:len≤1048576) :
  Calls prog 29 #[.slice a len cap] w (DoD w):=by
 have bel:Below w.heap.size w (w.alloc (.cells #[.int .i64 0,.slice none 0 0,.slice none 0 0,.slice none 0 0,.slice none 0 0,.slice none 0 0] 31)):=by go_grown
 have hr1:=wZ hr bel;have zR:=Z6.new w (.int .i64 0) (.slice none 0 0) (.slice none 0 0) (.slice none 0 0) (.slice none 0 0) (.slice none 0 0) 31
 have hs0:(w.alloc (.cells #[.int .i64 0,.slice none 0 0,.slice none 0 0,.slice none 0 0,.slice none 0 0,.slice none 0 0] 31)).heap.size=w.heap.size+1:=by simp
 go_enter func29,ntmps29
 go_wp2_with fail
 refine (zK _ _ _ _ _ hr1 hn).mono ?_;rintro e u1 ⟨rfl,c1,b1⟩;have zR1:=zR.below b1;have q1:=next bel b1
 simp only [World.size_alloc] at c1 b1 ⊢
 clear hr hr1 bel b1 zR;go_wp2_with fail
 refine (xO a len cap 40 u1 hn (by omega)).mono ?_
 rintro e w' ⟨k,rfl,hk,hw'⟩;subst hw';go_wp2_with fail
 refine (G4 _ _ _ c1 (by omega)).mono ?_
 rintro e u2 ⟨x,rfl,x0,x1,c2,g2⟩;obtain ⟨n,rfl⟩:=Int.eq_ofNat_of_zero_le x0
 have hn40:n≤100:=by
  have:=x1 hk.1;omega
 have zR2:=zR1.grown g2 (by simp)
 have q2:BW w u2:=q1.grown g2 q1.size (fun k hk=>by cases hk;omega)
 clear c1 zR1 q1 x1 x0 g2;go_wp2_with fail
 refine (wW (w.heap.size+1) n u2 c2 hn40).mono ?_;rintro e u3 ⟨b,p,rfl,hI,hb,hog,hfr,c3,g3⟩;have lR:=zR2.lt
 have zR3:=zR2.grown g3 (by simp)
 have q3:BW w u3:=q2.grown g3 q2.size (fun k hk=>by cases hk;omega)
 have HI:Hid (Z7 100 b):=hI;have HFR:Hid (FrB p w.heap.size):=hfr.mono q2.size;have cb:=K6 c3
 have HT:Hid (TW (w.heap.size+1+1) (w.heap.size+1) w.heap.size u3.heap.size w b p (u3.alloc (.cells #[.int .i64 b.today,.slice p.o b.off.length p.oc,.slice p.a b.az.length p.ac,.slice p.c b.cs.length p.cc,.slice p.l b.ls.length p.lc,.slice p.g b.log.length p.gc] 31))):=by
  have bA:Below u3.heap.size u3 (u3.alloc (.cells #[.int .i64 b.today,.slice p.o b.off.length p.oc,.slice p.a b.az.length p.ac,.slice p.c b.cs.length p.cc,.slice p.l b.ls.length p.lc,.slice p.g b.log.length p.gc] 31)):=bR.alloc nL _
  exact ⟨A3 c3 _,next q3 bA,zR3.below bA,Z6.new u3 _ _ _ _ _ _ _,hb.below bA,hog,K4 hfr lR,by omega,by omega,by omega,nL⟩
 unfold C5;clear c2 q2 zR2 hI hb hog hfr c3 g3 zR3 q3 lR;go_upto_region 3 with fail
 obtain ⟨U,hU⟩:∃ U,U=u3.alloc (.cells #[.int .i64 b.today,.slice p.o b.off.length p.oc,.slice p.a b.az.length p.ac,.slice p.c b.cs.length p.cc,.slice p.l b.ls.length p.lc,.slice p.g b.log.length p.gc] 31):=⟨_,rfl⟩;rw [← hU] at HT ⊢;obtain ⟨T,hT⟩:∃ T,T=u3.heap.size:=⟨_,rfl⟩;rw [← hT] at HT ⊢;clear hU hT cb;obtain ⟨t0,t1,t2,t3,t4,t5,-,-,-,-,-,-⟩:=HT.o.z;obtain ⟨r0,r1,r2,r3,r4,r5,s0,s1,s2,s3,s4,s5⟩:=HT.o.r;have lT:T<U.heap.size:=Z6.lt HT.o.z
 have nT:¬ T=U.heap.size:=by omega
 have HLN:Hid (∀ u,TW (w.heap.size+1+1) (w.heap.size+1) w.heap.size T w b p u→Calls prog 81 #[.pointer (some ⟨w.heap.size+1,0,none⟩),.agg #[.int .i64 b.today,.slice p.o b.off.length p.oc,.slice p.a b.az.length p.ac,.slice p.c b.cs.length p.cc,.slice p.l b.ls.length p.lc,.slice p.g b.log.length p.gc]] u fun e u'=>∃ l:List UInt8,e=.returned (.string ⟨l.toArray⟩)∧Hid (l.length≤400∧K5 l)∧TW (w.heap.size+1+1) (w.heap.size+1) w.heap.size T w b p u'):=fun u q=>(tZ _ b p u q.cu q.bk q.og (tS HI.o.inv (by omega)).1 HI.o.par).mono (by
  rintro e u' ⟨l,he,hl,hgl,hc,hr⟩;exact ⟨l,he,⟨hl,hgl⟩,q.call hc hr⟩)
 clear lT nT
 go_region_with (go_at_call 81;(first | with_reducible refine Calls.mono (HLN.o _ HT.o) ?_ | with_reducible refine Calls.mono (HLN.o _ HT.o.drew) ?_);rintro e u6 ⟨l,rfl,hl6,q6⟩;have zr6:=q6.r;have zz6:=q6.z;obtain ⟨t0,t1,t2,t3,t4,t5,-,-,-,-,-,-⟩:=zz6;obtain ⟨r0,r1,r2,r3,r4,r5,s0,s1,s2,s3,s4,s5⟩:=zr6)
 all_goals
  have HE:Hid _:=Aae q6 (.int .i64 b.today) (.slice p.o b.off.length p.oc) (.slice p.a b.az.length p.ac) (.slice p.c b.cs.length p.cc) (.slice p.l b.ls.length p.lc) (.slice p.g b.log.length p.gc);clear q6 HT HLN;go_wp2
  refine bodyPost_ret (by simp [results,results29,go_sem,r0,r1,r2,r3,r4,r5];try rfl) rfl ?_
  exact ⟨b,p,l,rfl,HI.o,hl6.out.1,hl6.out.2,HE.o.1,HE.o.2⟩
end Go.Proofs.YtomiclakhjncbaaGreatDoor.Kb
