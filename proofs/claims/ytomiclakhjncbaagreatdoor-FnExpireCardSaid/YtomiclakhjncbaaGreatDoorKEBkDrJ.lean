import Derived.Test.YtomiclakhjncbaaGreatDoorJE4a
import Derived.Test.YtomiclakhjncbaaGreatDoorKELnG
namespace Go.Proofs.YtomiclakhjncbaaGreatDoor.Kb
open Go.RowKit Go.Proofs.Tryz
set_option maxRecDepth 100000
set_option maxHeartbeats 12800000
theorem vU {w:World} {base c:Nat} {ao:Option Addr} {xs:List Int} (h:w.ownsRow base 3 1 (.slice ao xs.length c) xs.length (xs.map (Value.int .i64))):Aw w ao xs:=by
 rcases h.2 with ⟨hv,h0⟩ | ⟨g,cap,uV,hv,_⟩
 ·exact .inl (List.eq_nil_of_length_eq_zero h0)
 ·obtain ⟨rfl,_⟩:ao=some ⟨g,0,none⟩∧c=cap:=by simpa using hv
  by_cases hx:xs=[]
  ·exact .inl hx
  ·have hp:0<xs.length:=List.length_pos_iff.2 hx
   refine .inr ⟨g,0,rfl,?_,fun i hi=>?_⟩
   ·have h0:=h.cellAt 0 (by omega)
    simp [hp] at h0
    exact World.block_lt_of_cell? w _ h0
   ·have:=h.cellAt i (by omega)
    simpa [hi] using this
theorem wK (zs:List Int) (hz:zs.length≤6):Inv 0 ⟨bsT 9000 zs,bsL 9000 zs,[],[],[],[]⟩:=by
 refine ⟨?_,nL,nL,nL,nL,(fun a ha=>by cases ha),?_,(fun l hl=>by cases hl)⟩
 ·show (bsL 9000 zs).length≤10
  unfold bsL;split
  ·omega
  ·simp
 ·show Dn (bsT 9000 zs)=true
  unfold bsT;split <;> decide
structure Z7 (k:Nat) (b:Bk):Prop where
 inv:Inv k b
 par:Par b
 jw:JW b
 offs:Sx 9000 b.off=true
 lg:∀ l ∈ b.log,l.length≤1000
theorem Z7.mono {k n:Nat} {b:Bk} (h:Z7 k b) (hk:k≤n):Z7 n b:=⟨h.inv.mono hk,h.par,h.jw,h.offs,h.lg⟩
theorem zG (b:Bk) (l:List UInt8) (r:Bk×Int) (h:Fu b l r):r.1.off=b.off:=by
 unfold Fu Db at h
 split at h
 ·rw [h];unfold Fr;split <;> rfl
 split at h
 ·split at h
  ·rw [h];unfold Fq;split <;> rfl
  ·rw [h]
 split at h
 ·split at h
  ·obtain ⟨x,-,rfl⟩:=h
   unfold Jk
   split
   ·rfl
   split
   ·rfl
   split
   ·rfl
   split <;> rfl
  ·rw [h]
 split at h
 ·split at h
  ·rw [h];unfold Ja
   split
   ·rfl
   split
   ·rfl
   split <;> rfl
  ·rw [h]
 ·rw [h]
theorem Aad {b:Bk} {l:List UInt8} {r:Bk×Int} (h:Fg Fu b l r):r.1.off=b.off:=by
 rcases h with ⟨-,rfl⟩ | ⟨-,s,hs,⟨-,rfl⟩ | ⟨-,rfl⟩⟩
 ·rfl
 ·rfl
 ·exact zG b l s hs
theorem Aaz {b:Bk} {l:List UInt8} {r:Bk×Int} (hb:∀ x ∈ b.log,x.length≤1000) (hl:l.length≤1000) (h:Fg Fu b l r):∀ x ∈ r.1.log,x.length≤1000:=by
 rcases h with ⟨-,rfl⟩ | ⟨-,s,hs,⟨-,rfl⟩ | ⟨-,rfl⟩⟩
 ·exact hb
 ·exact hb
 ·intro x hx
  have hx':x ∈ b.log++[l]:=hx
  rcases List.mem_append.1 hx' with hx' | hx'
  ·exact hb x hx'
  ·rw [List.mem_singleton.1 hx'];exact hl
theorem wJ (zs:List Int) (hz:zs.length≤6):Z7 0 ⟨bsT 9000 zs,bsL 9000 zs,[],[],[],[]⟩:=by
 have h:=wK zs hz
 refine ⟨h,⟨(fun a ha=>by cases ha),(fun c hc=>by cases hc)⟩,⟨⟨?_,nL,nL,(fun a ha=>by cases ha),(fun c hc=>by cases hc),(show At []=true by decide),h.day⟩,Nat.zero_le _,(fun l hl=>by cases hl)⟩,?_,(fun l hl=>by cases hl)⟩
 rotate_left
 ·show Sx 9000 (bsL 9000 zs)=true
  unfold bsL
  split
  ·assumption
  ·decide
 have:=h.off
 show (bsL 9000 zs).length≤1000
 have e:(bsL 9000 zs).length≤10:=this
 omega
theorem zA {k:Nat} {b:Bk} (h:Z7 k b) {line:List UInt8} (hl:line.length≤1000) (hg:K5 line) {r:Bk×Int} (hr:Fg Fu b line r):Z7 (k+1) r.1 :=
 ⟨Aab h.inv hl hr,Aal h.par hg hr,zW h.jw (by omega) hr,by rw [Aad hr];exact h.offs,Aaz h.lg hl hr⟩
theorem Aa3 {k:Nat} {b:Bk} (h:Z7 k b) (hk:k≤1000) (p:Bp) (line:List UInt8) (w:World) (hx:Aq w b p) (hl:line.length≤1000) (hg:K5 line) :
  Calls prog 31 #[C5 b p,.string ⟨line.toArray⟩] w fun e w'=>∃ b' q code,e=.returned (.tuple #[C5 b' q,.int .i64 code])∧Z7 (k+1) b'∧Aq w' b' q∧BW w w'∧FrB q w.heap.size :=
 (T5 lO b p line w hx (tS h.inv hk) (by omega)).mono (by
  rintro e w' ⟨r,q,hr,he,hb,hw,hf⟩;exact ⟨r.1,q,r.2,he,zA h hl hg hr,hb,hw,hf⟩)
def Aa4 (B g:Nat) (w:World) (e:Ending) (w':World):Prop :=
 ∃ b p,e=.returned (C5 b p)∧Z7 100 b∧Aq w' b p∧Wq p g∧FrB p w.heap.size∧A2 B w' g∧w.grownBy w' (some g)
theorem wW {B:Nat} (g n:Nat) (w:World) (hc:A2 B w g) (hn:n≤100) :
  Calls prog 78 #[.pointer (some ⟨g,0,none⟩),.int .i64 n] w (Aa4 B g w):=by
 have cb:=K6 hc;have zr:=Z6.new w (.int .i64 0) (.slice none 0 0) (.slice none 0 0) (.slice none 0 0) (.slice none 0 0) (.slice none 0 0) 31;have hc1:=A3 hc (.cells qzB 31);have g0:=World.grownBy_alloc w (.cells qzB 31) (some g)
 have hs0:(w.alloc (.cells qzB 31)).heap.size=w.heap.size+1:=by simp
 clear hc
 go_enter func78,ntmps78
 go_wp2_with fail
 refine (xR g _ hc1).mono ?_;rintro e u1 ⟨ao,c,xs,rfl,hxl,ox,c1,g1,s1⟩
 have zr1:=zr.grown g1 (by simp;omega)
 have gr1:=g0.trans g1;clear hc1 g1 zr g0;go_wp2_with fail
 refine (vR 9000 ao c xs u1 (vU ox) (by omega)).mono ?_
 rintro e u2 ⟨a,k,rfl,oy,b2⟩;have zr2:=zr1.below b2;have gr2:=gr1.trans (K8 b2 (some g));have c2:=A4 c1 b2;have s2:=b2.size;have hfr:Cm a u1.heap.size:=Cw oy;have hin:=wJ xs hxl;have hi2:=vU oy;unfold bk0;obtain ⟨zl,hzl⟩:∃ z,bsL 9000 xs=z:=⟨_,rfl⟩;obtain ⟨tt,htt⟩:∃ z,bsT 9000 xs=z:=⟨_,rfl⟩;rw [hzl] at oy hin hi2 ⊢;rw [htt] at hin ⊢;have HIN:Hid (Z7 0 ⟨tt,zl,[],[],[],[]⟩):=hin
 have HD:Hid (BD B g w u2.heap.size ⟨tt,zl,[],[],[],[]⟩ ⟨a,k,none,0,none,0,none,0,none,0⟩ (u2.alloc (.cells #[.int .i64 tt,.slice a zl.length k,.slice none 0 0,.slice none 0 0,.slice none 0 0,.slice none 0 0] 31))):=by
  have bA:Below u2.heap.size u2 (u2.alloc (.cells #[.int .i64 tt,.slice a zl.length k,.slice none 0 0,.slice none 0 0,.slice none 0 0,.slice none 0 0] 31)):=bR.alloc nL _
  have hna:∀ B',Im none B':=fun B' x hx=>by cases hx
  have hno:Cm none w.heap.size:=fun x hx=>by cases hx
  have hoa:∀ B',B' < u1.heap.size→Im a B':=fun B' h=>Bb hfr h
  have hlt:Im a u2.heap.size:=fun x hx e=>by
   have:=G8 oy nL x hx
   omega
  exact ⟨A4 c2 bA,gr2.trans (K8 bA _),Z6.new u2 _ _ _ _ _ _ _,zr2.below bA,⟨hi2.below bA,.inl rfl,.inl rfl,.inl rfl,.inl rfl⟩,⟨hoa g (by omega),hna _,hna _,hna _,hna _⟩,⟨hlt,hna _,hna _,hna _,hna _⟩,⟨hoa _ (by omega),hna _,hna _,hna _,hna _⟩,by omega,cb.2,cb.1,⟨Ey hfr (by omega),hno,hno,hno,hno⟩⟩
 clear zr1 zr2 gr1 gr2 c1 c2 ox oy b2 hfr hin hi2 hzl htt;go_wp2
 go_loopw [7] (fun i wr=>∃ (j:Nat) (b:Bk) (p:Bp),j≤n∧i=.int .i64 j∧Z7 j b∧BD B g w u2.heap.size b p wr) (fun i _=>n - (intOf i).toNat)
 case atStart=>exact ⟨0,_,_,Nat.zero_le _,rfl,HIN.o,HD.o⟩
 case round =>
  obtain ⟨j,b,p,hj,rfl,hI,hD⟩:=hrel;clear HIN HD
  by_cases hlt:j<n
  ·have hji:(j:Int)<(n:Int):=by omega
   obtain ⟨d0,d1,d2,d3,d4,d5⟩:=hD.s;have HDD:Hid (BD B g w u2.heap.size b p wr):=hD
   have HLC:Hid (∀ u,BD B g w u2.heap.size b p u→Calls prog 81 #[.pointer (some ⟨g,0,none⟩),.agg (qcB b p)] u fun e u'=>∃ l:List UInt8,e=.returned (.string ⟨l.toArray⟩)∧(l.length≤400∧Hid (K5 l))∧BD B g w u2.heap.size b p u'):=fun u q=>(tZ g b p u q.cu q.bk q.og (tS hI.inv (by omega)).1 hI.par).mono (by
    rintro e u' ⟨l,he,hl,hgl,hc,hr⟩;exact ⟨l,he,⟨hl,hgl⟩,q.call hc hr⟩)
   have HLY:Hid (∀ u Y,BY B g w u2.heap.size b p Y u→Calls prog 81 #[.pointer (some ⟨g,0,none⟩),.agg (qcB b p)] u fun e u'=>∃ l:List UInt8,e=.returned (.string ⟨l.toArray⟩)∧(l.length≤400∧Hid (K5 l))∧BY B g w u2.heap.size b p Y u'):=fun u Y q=>(tZ g b p u q.bd.cu q.bd.bk q.bd.og (tS hI.inv (by omega)).1 hI.par).mono (by
    rintro e u' ⟨l,he,hl,hgl,hc,hr⟩;exact ⟨l,he,⟨hl,hgl⟩,q.call hc hr⟩)
   have HDC:Hid (∀ u (l:List UInt8),BD B g w u2.heap.size b p u→(l.length≤400∧Hid (K5 l))→Calls prog 31 #[.agg (qcB b p),.string ⟨l.toArray⟩] u fun e u'=>∃ b' q code,e=.returned (.tuple #[C5 b' q,.int .i64 code])∧Z7 (j+1) b'∧Aq u' b' q∧BW u u'∧FrB q u.heap.size):=fun u l q hl=>Aa3 hI (by omega) p l u q.bk (by have:=hl.1;omega) hl.2.out
   clear hD hI;go_upto_region 5 with fail
   go_region_held3 (fun u=>u.cell? ⟨u2.heap.size,0,none⟩=some (.int .i64 b.today)∧u.cell? ⟨u2.heap.size,1,none⟩=some (.slice p.o b.off.length p.oc)∧u.cell? ⟨u2.heap.size,2,none⟩=some (.slice p.a b.az.length p.ac)∧u.cell? ⟨u2.heap.size,3,none⟩=some (.slice p.c b.cs.length p.cc)∧u.cell? ⟨u2.heap.size,4,none⟩=some (.slice p.l b.ls.length p.lc)∧u.cell? ⟨u2.heap.size,5,none⟩=some (.slice p.g b.log.length p.gc)) (first | with_reducible exact HDD.o.s | with_reducible exact HDD.o.drew.s | with_reducible exact (BY.new HDD.o _).bd.s | with_reducible exact (BY.new HDD.o.drew _).bd.s | with_reducible exact (BY.new HDD.o _).drew.bd.s | with_reducible exact q5.s | with_reducible exact q5.drew.s | with_reducible exact (BY.new q5 _).bd.s | with_reducible exact (BY.new q5.drew _).bd.s | with_reducible exact (BY.new q5 _).drew.bd.s | with_reducible exact q5y.bd.s | with_reducible exact q5y.drew.bd.s | with_reducible exact q6.s | with_reducible exact q6.drew.s | with_reducible exact (q6.al _).s | with_reducible exact (q6.drew.al _).s | with_reducible exact q6y.bd.s | with_reducible exact q6y.drew.bd.s | with_reducible exact q6y.ms _ _ _ _ _ _) ((first
    | (go_at_call 81;(first | with_reducible refine Calls.mono (HLC.o _ HDD.o) ?_ | with_reducible refine Calls.mono (HLC.o _ HDD.o.drew) ?_);rintro e u5 ⟨l,rfl,hl,q5⟩)
    | (go_at_call 81;(first | with_reducible refine Calls.mono (HLY.o _ _ (BY.new HDD.o _)) ?_ | with_reducible refine Calls.mono (HLY.o _ _ (BY.new HDD.o.drew _)) ?_ | with_reducible refine Calls.mono (HLY.o _ _ (BY.new HDD.o _).drew) ?_);rintro e u5 ⟨l,rfl,hl,q5z⟩;have q5y:BY B g w u2.heap.size b p wr.heap.size u5:=q5z;clear q5z)
    | (go_at_call 31;(with_reducible refine Calls.mono (HDC.o _ l q5 hl) ?_);rintro e u6 ⟨b2,q2,code,rfl,hI2,hb2,b6,hf2⟩;have q6:BD B g w u2.heap.size b p u6:=q5.below b6;unfold C5;simp only)
    | (go_at_call 31;(with_reducible refine Calls.mono (HDC.o _ l q5y.bd hl) ?_);rintro e u6 ⟨b2,q2,code,rfl,hI2,hb2,b6,hf2⟩;have q6y:=q5y.below b6;have zy6:=q6y.zy;obtain ⟨k0,k1,k2,k3,k4,k5,m0,m1,m2,m3,m4,m5⟩:=zy6;unfold C5;simp only)
    | (go_at_call 31;(with_reducible refine Calls.mono (HDC.o _ l (BY.new q5 _).bd hl) ?_);rintro e u6 ⟨b2,q2,code,rfl,hI2,hb2,b6,hf2⟩;have q5y:=BY.new q5 31;have q6y:=q5y.below b6;have zy6:=q6y.zy;obtain ⟨k0,k1,k2,k3,k4,k5,m0,m1,m2,m3,m4,m5⟩:=zy6;unfold C5;simp only)))
   all_goals
    rename_i hheld
    have HI2:Hid (Z7 (j+1) b2):=hI2;clear hheld HLC HLY HDC HDD d0 d1 d2 d3 d4 d5 hI2
    first
    | (
     revert q6;intro q6
     have bA:Below u6.heap.size u6 (u6.alloc (.cells (qcB b2 q2) 31)):=bR.alloc nL _;have zX:=(q6.al (.cells (qcB b2 q2) 31)).z;have HP:Hid _:=q5.put (next b6 bA) (hb2.below bA) hf2;obtain ⟨x0,x1,x2,x3,x4,x5,y0,y1,y2,y3,y4,y5⟩:=zX;clear hb2 hf2 b6 bA q6 q5;go_wp2
     go_roundw
     case rel=>exact ⟨j+1,b2,q2,by omega,by go_num,HI2.o,HP.o⟩
     case measure=>simp [intOf];omega)
    | (
     revert q5;intro q5
     have HP:Hid _:=q5y.put b6 hb2 hf2 (.int .i64 b2.today) (.slice q2.o b2.off.length q2.oc) (.slice q2.a b2.az.length q2.ac) (.slice q2.c b2.cs.length q2.cc) (.slice q2.l b2.ls.length q2.lc) (.slice q2.g b2.log.length q2.gc);have zX:=q6y.mid (.int .i64 b2.today) (.slice q2.o b2.off.length q2.oc) (.slice q2.a b2.az.length q2.ac) (.slice q2.c b2.cs.length q2.cc) (.slice q2.l b2.ls.length q2.lc) (.slice q2.g b2.log.length q2.gc);have zY:=Z6.put6 q6y.zy (.int .i64 b2.today) (.slice q2.o b2.off.length q2.oc) (.slice q2.a b2.az.length q2.ac) (.slice q2.c b2.cs.length q2.cc) (.slice q2.l b2.ls.length q2.lc) (.slice q2.g b2.log.length q2.gc);obtain ⟨VV,hVV⟩:∃ V,V=((((((u6.setCell ⟨u5.heap.size,0,none⟩ (.int .i64 b2.today)).setCell ⟨u5.heap.size,1,none⟩ (.slice q2.o b2.off.length q2.oc)).setCell ⟨u5.heap.size,2,none⟩ (.slice q2.a b2.az.length q2.ac)).setCell ⟨u5.heap.size,3,none⟩ (.slice q2.c b2.cs.length q2.cc)).setCell ⟨u5.heap.size,4,none⟩ (.slice q2.l b2.ls.length q2.lc)).setCell ⟨u5.heap.size,5,none⟩ (.slice q2.g b2.log.length q2.gc)):=⟨_,rfl⟩;rw [← hVV] at HP zX zY ⊢;obtain ⟨x0,x1,x2,x3,x4,x5,y0,y1,y2,y3,y4,y5⟩:=zX;obtain ⟨n0,n1,n2,n3,n4,n5,-,-,-,-,-,-⟩:=zY;clear hVV hb2 hf2 b6 q6y q5y k0 k1 k2 k3 k4 k5 m0 m1 m2 m3 m4 m5;go_wp2
     go_roundw
     case rel=>exact ⟨j+1,b2,q2,by omega,by go_num,HI2.o,HP.o⟩
     case measure=>simp [intOf];omega)
    | (
     skip
     have HP:Hid _:=q5y.put b6 hb2 hf2 (.int .i64 b2.today) (.slice q2.o b2.off.length q2.oc) (.slice q2.a b2.az.length q2.ac) (.slice q2.c b2.cs.length q2.cc) (.slice q2.l b2.ls.length q2.lc) (.slice q2.g b2.log.length q2.gc);have zX:=q6y.mid (.int .i64 b2.today) (.slice q2.o b2.off.length q2.oc) (.slice q2.a b2.az.length q2.ac) (.slice q2.c b2.cs.length q2.cc) (.slice q2.l b2.ls.length q2.lc) (.slice q2.g b2.log.length q2.gc);have zY:=Z6.put6 q6y.zy (.int .i64 b2.today) (.slice q2.o b2.off.length q2.oc) (.slice q2.a b2.az.length q2.ac) (.slice q2.c b2.cs.length q2.cc) (.slice q2.l b2.ls.length q2.lc) (.slice q2.g b2.log.length q2.gc);obtain ⟨VV,hVV⟩:∃ V,V=((((((u6.setCell ⟨wr.heap.size,0,none⟩ (.int .i64 b2.today)).setCell ⟨wr.heap.size,1,none⟩ (.slice q2.o b2.off.length q2.oc)).setCell ⟨wr.heap.size,2,none⟩ (.slice q2.a b2.az.length q2.ac)).setCell ⟨wr.heap.size,3,none⟩ (.slice q2.c b2.cs.length q2.cc)).setCell ⟨wr.heap.size,4,none⟩ (.slice q2.l b2.ls.length q2.lc)).setCell ⟨wr.heap.size,5,none⟩ (.slice q2.g b2.log.length q2.gc)):=⟨_,rfl⟩;rw [← hVV] at HP zX zY ⊢;obtain ⟨x0,x1,x2,x3,x4,x5,y0,y1,y2,y3,y4,y5⟩:=zX;obtain ⟨n0,n1,n2,n3,n4,n5,-,-,-,-,-,-⟩:=zY;clear hVV hb2 hf2 b6 q6y q5y k0 k1 k2 k3 k4 k5 m0 m1 m2 m3 m4 m5;go_wp2
     go_roundw
     case rel=>exact ⟨j+1,b2,q2,by omega,by go_num,HI2.o,HP.o⟩
     case measure=>simp [intOf];omega)
  ·have hji:¬ (j:Int)<(n:Int):=by omega
   have hz:=hD.z;obtain ⟨d0,d1,d2,d3,d4,d5,-,-,-,-,-,-⟩:=hz;obtain ⟨r0,r1,r2,r3,r4,r5,s0,s1',s2',s3,s4,s5⟩:=hD.r;have HDD:Hid (BD B g w u2.heap.size b p wr):=hD
   have HI:Hid (Z7 100 b):=hI.mono (by omega)
   clear hD hI;go_wp2
   refine bodyPost_ret (by simp [results,results78,go_sem,r0,r1,r2,r3,r4,r5];try rfl) rfl ?_
   have q:=HDD.o;have cg:=q.hB;have cg2:=q.hg
   have bel:=fun (x0 x1 x2 x3 x4 x5:Value)=>((((((Below.refl w.heap.size wr).setCell (p:=⟨w.heap.size,0,none⟩) nL x0).setCell (p:=⟨w.heap.size,1,none⟩) nL x1).setCell (p:=⟨w.heap.size,2,none⟩) nL x2).setCell (p:=⟨w.heap.size,3,none⟩) nL x3).setCell (p:=⟨w.heap.size,4,none⟩) nL x4).setCell (p:=⟨w.heap.size,5,none⟩) nL x5
   have bl:=bel (.int .i64 b.today) (.slice p.o b.off.length p.oc) (.slice p.a b.az.length p.ac) (.slice p.c b.cs.length p.cc) (.slice p.l b.ls.length p.lc) (.slice p.g b.log.length p.gc)
   exact ⟨b,p,rfl,HI.o,q.bk.put6 q.oR _ _ _ _ _ _,q.og,q.fr,B9 q.cu (bl.mono (by omega)),⟨bl.os.trans q.gr.os,bl.tape.trans q.gr.tape,bl.output.trans q.gr.output,Nat.le_trans q.gr.size bl.size,fun k hk hne=>(bl.block k hk).trans (q.gr.block k hk hne)⟩⟩
end Go.Proofs.YtomiclakhjncbaaGreatDoor.Kb
