import Derived.Test.YtomiclakhjncbaaGreatDoorJE3a
namespace Go.Proofs.YtomiclakhjncbaaGreatDoor
open Go.RowKit Go.Proofs.Tryz
set_option maxRecDepth 100000
set_option maxHeartbeats 12800000
theorem tZ {B:Nat} (g:Nat) (b:Bk) (p:Bp) (w:World) (hc:A2 B w g) (hx:Aq w b p) (ho:Wq p g) (hn:D0 b) (hP:Par b) :
  Calls prog 81 #[.pointer (some ⟨g,0,none⟩),C5 b p] w (LnG B g w):=by
 have hq0:=LS.new (b:=b) hc hx ho 31;have hna:b.az.length≤1048576:=hn.2.1;have hnc:b.cs.length≤1048576:=hn.2.2.1;have HBW:Hid (B≤w.heap.size):=(K6 hc).2
 have HPA:Hid (∀ k,k<b.az.length→0≤(Ak b.az k).iss∧(Ak b.az k).iss≤8):=fun k hk=>by
  have:=hP.ia (Ak b.az k) (by rw [Gw hk];exact List.getElem_mem hk)
  omega
 unfold C5;clear hc hx ho hn hP
 go_enter func81,ntmps81
 go_wp2_with fail
 refine (tY hq0 10 (by omega)).mono ?_
 rintro e u1 ⟨x,rfl,hx0,hx1,q1⟩;have HQ:Hid (LS B g w b p u1):=q1;clear hq0
 go_upto_block 0 with fail
 go_cut [10] (fun _ wz=>LS B g w b p wz)
 case first =>
  by_cases e0:x=0
  ·subst e0
   have c0:=q1.z0;clear q1;go_upto_region 3 with fail
   go_region_with (first | (go_at_call 79;(first | with_reducible refine (tY HQ.o _ (by omega)).mono ?_ | with_reducible refine (tY HQ.o.drew _ (by omega)).mono ?_);rintro e u2 ⟨y,rfl,hy0,hy1,q2⟩;have c2:=q2.z0) | (go_at_call 72;refine (R3 _ _).mono ?_;rintro e u2 ⟨l,rfl,hl,rfl⟩))
   all_goals
    go_wp2;go_ret
    exact tR (by assumption) (by simp only [O7,Fo,List.length_cons,List.length_nil];omega) (xK _)
  by_cases e12:x=1∨x=2
  ·clear hx0 hx1
   rcases e12 with rfl | rfl
   all_goals
    go_wp2_with (first | (go_at_call 79;refine (tY (by assumption) _ (by omega)).mono ?_;rintro e u2 ⟨y,rfl,hy0,hy1,q2⟩) | (go_at_call 130;refine (zV (by assumption) _ _).mono ?_;rintro e u2 ⟨l,rfl,hl,hnb0,q2⟩;have hnb:Hid (NoB l∧l≠[]):=⟨hnb0.out.1,hnb0.out.2 hy0 (hy1 (by omega)) rfl⟩) | (go_at_call 72;refine (vJ _ _).mono ?_;rintro e u2 ⟨l,rfl,hl,hgd,rfl⟩) | (go_at_call 131;refine (Aai (by assumption)).mono ?_;rintro e u2 ⟨y,rfl,q2⟩))
    go_ret
    refine tR (by assumption) (by simp only [O7,Fo,List.length_cons,List.length_nil];omega) ?_
    rw [wM]
    refine wL (by assumption) (Aa1 (by assumption) ?_ ?_)
    all_goals first | omega | (rw [X8 (by omega) (by omega)];omega)
  by_cases e34:x=3∨x=4
  ·clear hx0 hx1 q1 e0 e12
   rcases e34 with rfl | rfl
   all_goals
    go_wp2
    go_loopw [5] (fun i wr=>∃ k:Nat,k≤b.az.length∧i=.int .i64 k∧LS B g w b p wr) (fun i _=>b.az.length - (intOf i).toNat)
    case atStart=>exact ⟨0,Nat.zero_le _,rfl,HQ.o⟩
    case round =>
     obtain ⟨k,hk,rfl,qr⟩:=hrel;have HR:Hid (LS B g w b p wr):=qr;have z2:=qr.z2
     by_cases hlt:k<b.az.length
     ·have hki:(k:Int)<(b.az.length:Int):=by omega
      rcases qr.az with hE | ⟨ab,off,hpa,hal,hac⟩
      ·rw [hE] at hlt;simp at hlt
      rw [hpa] at z2;obtain ⟨f0,f1,f2,f3,f4,f5⟩:=hac k hlt;obtain ⟨A,hA⟩:∃ A,Ak b.az k=A:=⟨_,rfl⟩;rw [hA] at f0 f1 f2 f3 f4 f5;obtain ⟨ref,iY,uV,am,day,used⟩:=A
      simp only at f0 f1 f2 f3 f4 f5
      have hne:=R5 qr.cu
      have HL:Hid (LT B g w b p wr.heap.size (.int .i64 iY) (.int .i64 uV) (.int .i64 am) (wr.alloc (.cells #[.string ⟨ref.toArray⟩,.int .i64 iY,.int .i64 uV,.int .i64 am,.int .i64 day,.bool used] 107))):=⟨qr.alloc _,⟨by simp,by simp,by simp⟩,hne⟩
      have HIS:Hid (0≤iY∧iY≤8):=by
       have:=HPA.o k hlt
       rw [hA] at this;exact this
      clear hac hA qr
      cases used
      ·go_wp2_with fail
       refine (zQ HL.o _ (by omega)).mono ?_
       rintro e u3 ⟨x3,rfl,q3⟩;have HT:Hid (LT B g w b p wr.heap.size (.int .i64 iY) (.int .i64 uV) (.int .i64 am) u3):=q3;obtain ⟨d1,d2,d3⟩:=q3.s;clear HL f0 f1 f2 f3 f4 f5 z2 q3
       cases x3
       ·go_upto_region 14 with fail
        go_region_held3 (fun u=>u.cell? ⟨wr.heap.size,1,none⟩=some (.int .i64 iY)∧u.cell? ⟨wr.heap.size,2,none⟩=some (.int .i64 uV)∧u.cell? ⟨wr.heap.size,3,none⟩=some (.int .i64 am)) (first | with_reducible exact HT.o.s | with_reducible exact HT.o.drew.s | with_reducible exact q5.s | with_reducible exact q5.drew.s) ((first
         | (go_at_call 79;(first | with_reducible refine (uP HT.o).mono ?_ | with_reducible refine (uP HT.o.drew).mono ?_);rintro e u5 ⟨y,rfl,HY,q5⟩)
         | (first | (revert y3;intro y3;go_at_call 72;(with_reducible refine Calls.mono (vJ _ _) ?_);rintro e u2 ⟨l,rfl,hl,hgd,rfl⟩;obtain ⟨D4,hD⟩:∃ D:ByteArray,D=⟨l.toArray⟩:=⟨_,rfl⟩;have hd4:D4.size≤30:=(by rw [hD,Fo];omega);rw [← hD];clear hD hl hgd;obtain ⟨C4,E4,r4,s4,z4,y4,kq4⟩:=W8 E3 D4 97 y3 (by omega) hd4) | (revert y2;intro y2;go_at_call 72;(with_reducible refine Calls.mono (vJ _ _) ?_);rintro e u2 ⟨l,rfl,hl,hgd,rfl⟩;obtain ⟨D3,hD⟩:∃ D:ByteArray,D=⟨l.toArray⟩:=⟨_,rfl⟩;have hd3:D3.size≤30:=(by rw [hD,Fo];omega);rw [← hD];clear hD hl hgd;obtain ⟨C3,E3,r3,s3,z3,y3,kq3⟩:=W8 E2 D3 66 y2 (by omega) hd3) | (revert y1;intro y1;go_at_call 72;(with_reducible refine Calls.mono (vJ _ _) ?_);rintro e u2 ⟨l,rfl,hl,hgd,rfl⟩;obtain ⟨D2,hD⟩:∃ D:ByteArray,D=⟨l.toArray⟩:=⟨_,rfl⟩;have hd2:D2.size≤30:=(by rw [hD,Fo];omega);rw [← hD];have G2:Hid (GD D2):=(by rw [hD];have hyb:=HY.out;exact hgd.out (by first | omega | (unfold wrap64;omega) | (rw [X8 (by omega) (by omega)];omega)) (by first | omega | (unfold wrap64;omega) | (rw [X8 (by omega) (by omega)];omega)));clear hD hl hgd;obtain ⟨C2,E2,r2,s2,z2,y2,kq2⟩:=W8 E1 D2 35 y1 (by omega) hd2) | (go_at_call 72;(with_reducible refine Calls.mono (vJ _ _) ?_);rintro e u2 ⟨l,rfl,hl,hgd,rfl⟩;obtain ⟨D1,hD⟩:∃ D:ByteArray,D=⟨l.toArray⟩:=⟨_,rfl⟩;have hd1:D1.size≤30:=(by rw [hD,Fo];omega);rw [← hD];have G1:Hid (GD D1):=(by rw [hD];exact hgd.out HIS.o.1 HIS.o.2);clear hD hl hgd;obtain ⟨C1,E1,r1,s1,z1,y1,kq1⟩:=W8 ⟨#[112,97,121,32]⟩ D1 4 (by decide) (by omega) hd1))))
        all_goals
         go_wp2;go_ret
         exact tR q5.ls (by omega) (xP kq1 kq2 kq3 kq4 G1 G2)
       ·clear d1 d2 d3
        go_wp2
        go_simp
        exact ⟨⟨k+1,by omega,by omega,HT.o.ls⟩,by simp [intOf];omega⟩
      ·go_wp2
       go_roundw
       case rel=>exact ⟨k+1,by omega,by go_num,HL.o.ls⟩
       case measure=>simp [intOf];omega
     ·have hki:¬ (k:Int)<(b.az.length:Int):=by omega
      clear qr;go_wp2;go_ret
      exact tR HR.o (by decide) (tT (A:=[49]) (D:=[52]) (L2 (by decide)) (L2 (by decide)) (by decide) (by decide) [56,52,48,32,49,48,48])
  have h0:(x == 0)=false:=by simpa using e0
  have h1:(x == 1)=false:=by simp;omega
  have h2:(x == 2)=false:=by simp;omega
  have h3:(x == 3)=false:=by simp;omega
  have h4:(x == 4)=false:=by simp;omega
  clear e0 e12 e34 hx0 hx1 q1
  by_cases e5:x=5
  ·subst e5
   clear h0 h1 h2 h3 h4;go_wp2_with fail
   refine (Aay HQ.o _ (by omega)).mono ?_
   rintro e u2 ⟨x2,rfl,q2⟩;have HQ2:Hid (LS B g w b p u2):=q2;clear HQ q2
   cases x2
   ·go_wp2
    go_meet;exact HQ2.o
   ·go_wp2_with fail
    refine (Aaj HQ2.o _).mono ?_;rintro e u3 ⟨l,rfl,hl,hgd,q3⟩
    have HL:Hid (LnG B g w (.returned (.string ⟨l.toArray⟩)) u3):=⟨l,rfl,by omega,hgd.out,q3.cu,q3.gr⟩
    clear q3 hl hgd;go_wp2;go_ret;exact HL.o
  ·have h5:(x == 5)=false:=by simpa using e5
   clear e5;go_wp2;go_meet;exact HQ.o
 case rest =>
  clear HQ q1 hx0 hx1;obtain ⟨u1,hu1⟩:∃ x,x=wc:=⟨_,rfl⟩;subst hu1;obtain ⟨q1,hq1⟩:∃ _q:LS B g w b p u1,True:=⟨hcut,trivial⟩;clear hq1 hcut;have c3:=q1.z3
  by_cases hcs:b.cs.length=0
  ·have hcb:((b.cs.length:Int) == 0)=true:=beq_iff_eq.2 (by omega)
   clear hcs
   go_wp2_with (first | (go_at_call 79;refine (tY (by assumption) _ (by omega)).mono ?_;rintro e u2 ⟨y,rfl,hy0,hy1,q2⟩) | (go_at_call 130;refine (zV (by assumption) _ _).mono ?_;rintro e u2 ⟨l,rfl,hl,hnb0,q2⟩;have hnb:Hid (NoB l∧l≠[]):=⟨hnb0.out.1,hnb0.out.2 hy0 (hy1 (by omega)) rfl⟩))
   go_ret
   exact tR (by assumption) (by simp only [O7,Fo,List.length_cons,List.length_nil];omega) (wC (by assumption))
  ·have hcb:((b.cs.length:Int) == 0)=false:=beq_eq_false_iff_ne.2 (by omega)
   go_wp2_with fail
   refine (tY q1 _ (by omega)).mono ?_
   rintro e u3 ⟨y,rfl,hy0,hy1,q3⟩
   have hy:=hy1 (by omega)
   obtain ⟨i,rfl⟩:=Int.eq_ofNat_of_zero_le hy0
   have hi:i<b.cs.length:=by omega
   have hii:(i:Int)<(b.cs.length:Int):=by omega
   have z3:=q3.z3
   rcases q3.cs with hE | ⟨cb,off,hpc,hcl,hcc⟩
   ·rw [hE] at hi;simp at hi
   rw [hpc] at z3;obtain ⟨f0,f1,f2,f3,f4,f5,f6,f7,f8,f9,f10,f11⟩:=hcc i hi;have HCV:Hid _:=Aa2 q3 (A8 b.cs i);obtain ⟨K,hK⟩:∃ K,A8 b.cs i=K:=⟨_,rfl⟩;rw [hK] at f0 f1 f2 f3 f4 f5 f6 f7 f8 f9 f10 f11 HCV;obtain ⟨iY,aZ,uV,am,st,rJ,cl,bk,fW,cW,sS,dX⟩:=K
   simp only at f0 f1 f2 f3 f4 f5 f6 f7 f8 f9 f10 f11
   unfold cv at HCV
   simp only at HCV
   clear hcc hK c3 hcb hcs q3;go_upto_region 22 with fail
   go_cut [8] (fun v wz=>∃ T kd m rs,v=.pointer (some ⟨T,0,none⟩)∧LA B g w T (.int .i64 kd) (.int .i64 m) (.int .i64 rs) wz)
   case first =>
    go_wp2_with fail
    refine Calls.mono HCV.o ?_;rintro e u4 ⟨⟨kd,m,rs⟩,rfl,q4⟩;unfold av
    simp only
    have HA:Hid (LA B g w u4.heap.size (.int .i64 kd) (.int .i64 m) (.int .i64 rs) (u4.alloc (.cells #[.int .i64 kd,.int .i64 m,.int .i64 rs] 165))):=⟨(q4.alloc _).cu,(q4.alloc _).gr,⟨by simp,by simp,by simp⟩,⟨by simp,by simp,by simp⟩,(K6 q4.cu).2,q4.gr.size⟩
    clear f0 f1 f2 f3 f4 f5 f6 f7 f8 f9 f10 f11 HCV q4 z3;go_wp2;go_meet;exact ⟨u4.heap.size,kd,m,rs,rfl,HA.o⟩
   case rest =>
    obtain ⟨T,kd,m,rs,rfl,q8⟩:=hcut;obtain ⟨u4,hu4⟩:∃ x,x=wc:=⟨_,rfl⟩;subst hu4;have HA:Hid (LA B g w T (.int .i64 kd) (.int .i64 m) (.int .i64 rs) u4):=q8;obtain ⟨a0,a1,a2⟩:=q8.s;obtain ⟨b0,b1,b2⟩:=q8.z;clear f0 f1 f2 f3 f4 f5 f6 f7 f8 f9 f10 f11 HCV z3 q8;go_upto_region 23 with fail
    go_cut [124] (fun v wz=>∃ q,v=.bool q∧wz=u4∧(q=false→0≤kd∧kd≤9))
    case first =>
     by_cases hm:m<0
     ·go_wp2
      go_meet
      exact ⟨true,rfl,rfl,fun h=>by cases h⟩
     ·go_wp2_with (go_at_call 134;refine (Dl _ _ _ _).mono ?_;rintro e u5 ⟨rfl,rfl⟩;obtain ⟨ib,hib⟩:∃ x,Gk kd 0 9=x:=⟨_,rfl⟩;have HIB:Hid (Gk kd 0 9=ib):=hib;rw [hib];clear hib;cases ib)
      ·go_meet
       exact ⟨true,rfl,rfl,fun h=>by cases h⟩
      ·go_meet
       exact ⟨false,rfl,rfl,fun _=>of_decide_eq_true HIB.o⟩
    case rest =>
    obtain ⟨qb,rfl,hwz,hqb⟩:=hcut;replace hwz:=hwz.symm;subst hwz
    go_upto_if 124 with fail
    go_cut [8] (fun v wz=>v=.pointer (some ⟨T,0,none⟩)∧∃ (kn:Nat) (m r:Int),kn<10∧LA B g w T (.int .i64 kn) (.int .i64 m) (.int .i64 r) wz)
    case first =>
     cases qb
     ·have h9:=hqb rfl
      go_wp2;go_meet
      exact ⟨rfl,kd.toNat,m,rs,by omega,by rw [Int.toNat_of_nonneg h9.1];exact HA.o⟩
     ·go_wp2
      go_meet
      exact ⟨rfl,0,0,0,by omega,HA.o.zero _ _ _⟩
    case rest =>
     obtain ⟨rfl,kn,m2,r2,hkn,qa⟩:=hcut;obtain ⟨u5,hu5⟩:∃ x,x=wc:=⟨_,rfl⟩;subst hu5;clear a0 a1 a2 b0 b1 b2;have HT:Hid (LA B g w T (.int .i64 kn) (.int .i64 m2) (.int .i64 r2) u5):=qa
     have hki:(kn:Int)<10:=by omega
     obtain ⟨d0,d1,d2⟩:=qa.s;clear qa HA;go_upto_region 25 with fail
     refine wp_region_held_drew (S:=(fun u=>u.cell? ⟨T,0,none⟩=some (.int .i64 kn)∧u.cell? ⟨T,1,none⟩=some (.int .i64 m2)∧u.cell? ⟨T,2,none⟩=some (.int .i64 r2))) (by kernel_rfl) HT.o.drew.s (fun hHeld=>?_)
     (refine wpAnyH_take (i:=0) (oi:=_) (v:=?vq1) (by simp only [List.getElem?_toArray,List.getElem?_cons_zero];rfl) (by kernel_rfl) (by kernel_rfl) (by kernel_rfl) ?hq1 (Or.inl ⟨by rfl,?yq1⟩) (by assumption) ?rq1;(case hq1=>exact (fun _ _ _ h=>h));(case yq1=>(intro w hSw;(try dsimp only at hSw);go_simp;(try with_reducible rfl))))
     (refine wpAnyH_take (i:=5) (oi:=_) (v:=?vq2) (by simp only [List.getElem?_toArray,List.getElem?_cons_succ,List.getElem?_cons_zero];rfl) (by kernel_rfl) (by kernel_rfl) (by kernel_rfl) ?hq2 (Or.inl ⟨by rfl,?yq2⟩) (by assumption) ?rq2;(case hq2=>exact (fun _ _ _ h=>h));(case yq2=>(intro w hSw;(try dsimp only at hSw);go_simp;(try with_reducible rfl))))
     (refine wpAnyH_take (i:=6) (oi:=_) (v:=?vq3) (by simp only [List.getElem?_toArray,List.getElem?_cons_succ,List.getElem?_cons_zero];rfl) (by kernel_rfl) (by kernel_rfl) (by kernel_rfl) ?hq3 (Or.inl ⟨by rfl,?yq3⟩) (by assumption) ?rq3;(case hq3=>exact (fun _ _ _ h=>h));(case yq3=>(intro w hSw;(try dsimp only at hSw);go_simp;(try with_reducible rfl))))
     (refine wpAnyH_take (i:=11) (oi:=_) (v:=?vq4) (by simp only [List.getElem?_toArray,List.getElem?_cons_succ,List.getElem?_cons_zero];rfl) (by kernel_rfl) (by kernel_rfl) (by kernel_rfl) ?hq4 (Or.inl ⟨by rfl,?yq4⟩) (by assumption) ?rq4;(case hq4=>exact (fun _ _ _ h=>h));(case yq4=>(intro w hSw;(try dsimp only at hSw);go_simp;(try with_reducible rfl))))
     (refine wpAnyH_take (i:=12) (oi:=_) (v:=?vq5) (by simp only [List.getElem?_toArray,List.getElem?_cons_succ,List.getElem?_cons_zero];rfl) (by kernel_rfl) (by kernel_rfl) (by kernel_rfl) ?hq5 (Or.inl ⟨by rfl,?yq5⟩) (by assumption) ?rq5;(case hq5=>exact (fun _ _ _ h=>h));(case yq5=>(intro w hSw;(try dsimp only at hSw);go_simp;(try with_reducible rfl))))
     (refine wpAnyH_take (i:=16) (oi:=_) (v:=?vq6) (by simp only [List.getElem?_toArray,List.getElem?_cons_succ,List.getElem?_cons_zero];rfl) (by kernel_rfl) (by kernel_rfl) (by kernel_rfl) ?hq6 (Or.inl ⟨by rfl,?yq6⟩) (by assumption) ?rq6;(case hq6=>exact (fun _ _ _ h=>h));(case yq6=>(intro w hSw;(try dsimp only at hSw);go_simp;(try with_reducible rfl))))
     (refine wpAnyH_take (i:=17) (oi:=_) (v:=?vq7) (by simp only [List.getElem?_toArray,List.getElem?_cons_succ,List.getElem?_cons_zero];rfl) (by kernel_rfl) (by kernel_rfl) (by kernel_rfl) ?hq7 (Or.inl ⟨by rfl,?yq7⟩) (by assumption) ?rq7;(case hq7=>exact (fun _ _ _ h=>h));(case yq7=>(intro w hSw;(try dsimp only at hSw);go_simp;(try with_reducible rfl))))
     simp only [Act.put,List.setIfInBounds_toArray]
     refine wpAnyH_ready (rs:=[1]) (by kernel_rfl) (by simp) ?_
     refine AllReadyH.cons (o:=_) rfl (fun K hK=>?_) AllReadyH.nil
     go_simp
     (refine Calls.mono (R3 _ _) ?_;rintro e uu ⟨l,rfl,hl,rfl⟩;obtain ⟨D1,hD⟩:∃ D:ByteArray,D=⟨l.toArray⟩:=⟨_,rfl⟩;have hd1:D1.size≤30:=(by rw [hD,Fo];omega);rw [← hD];clear hD hl;obtain ⟨C1,E1,r1,s1,z1,y1,kq1⟩:=W8 ⟨#[97,99,116,32]⟩ D1 4 (by decide) (by omega) hd1)
     go_wp2_with fail
     refine hK.out _ _ HT.o.drew.s (fun hHeld=>?_)
     clear hK K
     (refine wpAnyH_take (i:=2) (oi:=_) (v:=?vq8) (by simp only [List.getElem?_toArray,List.getElem?_cons_succ,List.getElem?_cons_zero];rfl) (by kernel_rfl) (by kernel_rfl) (by kernel_rfl) ?hq8 (Or.inl ⟨by rfl,?yq8⟩) (by assumption) ?rq8;(case hq8=>exact (fun _ _ _ h=>h));(case yq8=>(intro w hSw;(try dsimp only at hSw);go_simp;(try with_reducible rfl))))
     (refine wpAnyH_take (i:=3) (oi:=_) (v:=?vq9) (by simp only [List.getElem?_toArray,List.getElem?_cons_succ,List.getElem?_cons_zero];rfl) (by kernel_rfl) (by kernel_rfl) (by kernel_rfl) ?hq9 (Or.inl ⟨by rfl,?yq9⟩) (by assumption) ?rq9;(case hq9=>exact (fun _ _ _ h=>h));(case yq9=>(intro w hSw;(try dsimp only at hSw);go_simp;(try with_reducible rfl))))
     simp only [Act.put,List.setIfInBounds_toArray]
     refine wpAnyH_ready (rs:=[4]) (by kernel_rfl) (by simp) ?_
     refine AllReadyH.cons (o:=_) rfl (fun K hK=>?_) AllReadyH.nil
     go_simp
     (refine Calls.mono (dL _) ?_;rintro e u6 ⟨rfl,hk6,b6⟩;have q6:LA B g w T (.int .i64 kn) (.int .i64 m2) (.int .i64 r2) u6:=HT.o.drew.below b6;obtain ⟨KB,hK⟩:∃ K:ByteArray,K=⟨(Al Dm kn).toArray⟩:=⟨_,rfl⟩;have hk:KB.size≤30:=(by have:=xN kn;rw [hK,Fo];omega);have k6:u6.cell? ⟨u5.heap.size,kn,none⟩=some (.string KB):=(by rw [hK];first | exact hk6 kn hkn | simpa using hk6 kn hkn);clear hk6 b6 hK;obtain ⟨C2,E2,r2',s2,z2,y2,kq2⟩:=W8 E1 KB 35 y1 (by omega) hk)
     go_wp2_with fail
     refine hK.out _ _ q6.s (fun hHeld=>?_)
     clear hK K
     (refine wpAnyH_take (i:=7) (oi:=_) (v:=?vq10) (by simp only [List.getElem?_toArray,List.getElem?_cons_succ,List.getElem?_cons_zero];rfl) (by kernel_rfl) (by kernel_rfl) (by kernel_rfl) ?hq10 (Or.inl ⟨by rfl,?yq10⟩) (by assumption) ?rq10;(case hq10=>exact (fun _ _ _ h=>h));(case yq10=>(intro w hSw;(try dsimp only at hSw);go_simp;(try with_reducible rfl))))
     simp only [Act.put,List.setIfInBounds_toArray]
     refine wpAnyH_ready (rs:=[8,13]) (by kernel_rfl) (by simp) ?_
     refine AllReadyH.cons (o:=_) rfl (fun K hK=>?_) (AllReadyH.cons (o:=_) rfl (fun K hK=>?_) AllReadyH.nil)
     ·go_simp
      refine hK.out _ _ q6.s (fun hHeld=>?_)
      clear hK K
      (refine wpAnyH_take (i:=9) (oi:=_) (v:=?vq11) (by simp only [List.getElem?_toArray,List.getElem?_cons_succ,List.getElem?_cons_zero];rfl) (by kernel_rfl) (by kernel_rfl) (by kernel_rfl) ?hq11 (Or.inl ⟨by rfl,?yq11⟩) (by assumption) ?rq11;(case hq11=>exact (fun _ _ _ h=>h));(case yq11=>(intro w hSw;(try dsimp only at hSw);go_simp;(try with_reducible rfl))))
      (refine wpAnyH_take (i:=10) (oi:=_) (v:=?vq12) (by simp only [List.getElem?_toArray,List.getElem?_cons_succ,List.getElem?_cons_zero];rfl) (by kernel_rfl) (by kernel_rfl) (by kernel_rfl) ?hq12 (Or.inl ⟨by rfl,?yq12⟩) (by assumption) ?rq12;(case hq12=>exact (fun _ _ _ h=>h));(case yq12=>(intro w hSw;(try dsimp only at hSw);go_simp;(try with_reducible rfl))))
      simp only [Act.put,List.setIfInBounds_toArray]
      refine wpAnyH_ready (rs:=[13]) (by kernel_rfl) (by simp) ?_
      refine AllReadyH.cons (o:=_) rfl (fun K hK=>?_) AllReadyH.nil
      go_simp
      (refine Calls.mono (R3 _ _) ?_;rintro e uu ⟨l,rfl,hl,rfl⟩;obtain ⟨D3,hD⟩:∃ D:ByteArray,D=⟨l.toArray⟩:=⟨_,rfl⟩;have hd3:D3.size≤30:=(by rw [hD,Fo];omega);rw [← hD];clear hD hl;obtain ⟨C3,E3,r3,s3,z3,y3,kq3⟩:=W8 E2 D3 66 y2 (by omega) hd3)
      go_wp2_with fail
      refine hK.out _ _ q6.s (fun hHeld=>?_)
      clear hK K
      (refine wpAnyH_take (i:=14) (oi:=_) (v:=?vq13) (by simp only [List.getElem?_toArray,List.getElem?_cons_succ,List.getElem?_cons_zero];rfl) (by kernel_rfl) (by kernel_rfl) (by kernel_rfl) ?hq13 (Or.inl ⟨by rfl,?yq13⟩) (by assumption) ?rq13;(case hq13=>exact (fun _ _ _ h=>h));(case yq13=>(intro w hSw;(try dsimp only at hSw);go_simp;(try with_reducible rfl))))
      (refine wpAnyH_take (i:=15) (oi:=_) (v:=?vq14) (by simp only [List.getElem?_toArray,List.getElem?_cons_succ,List.getElem?_cons_zero];rfl) (by kernel_rfl) (by kernel_rfl) (by kernel_rfl) ?hq14 (Or.inl ⟨by rfl,?yq14⟩) (by assumption) ?rq14;(case hq14=>exact (fun _ _ _ h=>h));(case yq14=>(intro w hSw;(try dsimp only at hSw);go_simp;(try with_reducible rfl))))
      simp only [Act.put,List.setIfInBounds_toArray]
      refine wpAnyH_ready (rs:=[18]) (by kernel_rfl) (by simp) ?_
      refine AllReadyH.cons (o:=_) rfl (fun K hK=>?_) AllReadyH.nil
      go_simp
      (refine Calls.mono (R3 _ _) ?_;rintro e uu ⟨l,rfl,hl,rfl⟩;obtain ⟨D4,hD⟩:∃ D:ByteArray,D=⟨l.toArray⟩:=⟨_,rfl⟩;have hd4:D4.size≤30:=(by rw [hD,Fo];omega);rw [← hD];clear hD hl;obtain ⟨C4,E4,r4,s4,z4,y4,kq4⟩:=W8 E3 D4 97 y3 (by omega) hd4)
      go_wp2_with fail
      refine hK.out _ _ q6.s (fun hHeld=>?_)
      clear hK K
      (refine wpAnyH_take (i:=19) (oi:=_) (v:=?vq15) (by simp only [List.getElem?_toArray,List.getElem?_cons_succ,List.getElem?_cons_zero];rfl) (by kernel_rfl) (by kernel_rfl) (by kernel_rfl) ?hq15 (Or.inl ⟨by rfl,?yq15⟩) (by assumption) ?rq15;(case hq15=>exact (fun _ _ _ h=>h));(case yq15=>(intro w hSw;(try dsimp only at hSw);go_simp;(try with_reducible rfl))))
      (refine wpAnyH_take (i:=20) (oi:=_) (v:=?vq16) (by simp only [List.getElem?_toArray,List.getElem?_cons_succ,List.getElem?_cons_zero];rfl) (by kernel_rfl) (by kernel_rfl) (by kernel_rfl) ?hq16 (Or.inl ⟨by rfl,?yq16⟩) (by assumption) ?rq16;(case hq16=>exact (fun _ _ _ h=>h));(case yq16=>(intro w hSw;(try dsimp only at hSw);go_simp;(try with_reducible rfl))))
      simp only [Act.put,List.setIfInBounds_toArray]
      refine wpAnyH_done (by kernel_rfl) ?_ _
      go_wp2;go_ret
      exact uU (s:=C4) q6 (Nat.le_trans z4 (by decide)) (uA kq1 kq2 kq3 kq4)
     ·go_simp
      (refine Calls.mono (R3 _ _) ?_;rintro e uu ⟨l,rfl,hl,rfl⟩;obtain ⟨D3,hD⟩:∃ D:ByteArray,D=⟨l.toArray⟩:=⟨_,rfl⟩;have hd3:D3.size≤30:=(by rw [hD,Fo];omega);rw [← hD];clear hD hl;obtain ⟨C3,E3,r3,s3,z3,y3,kq3⟩:=W8 E2 D3 66 y2 (by omega) hd3)
      go_wp2_with fail
      refine hK.out _ _ q6.s (fun hHeld=>?_)
      clear hK K
      refine wpAnyH_ready (rs:=[8,18]) (by kernel_rfl) (by simp) ?_
      refine AllReadyH.cons (o:=_) rfl (fun K hK=>?_) (AllReadyH.cons (o:=_) rfl (fun K hK=>?_) AllReadyH.nil)
      ·go_simp
       refine hK.out _ _ q6.s (fun hHeld=>?_)
       clear hK K
       (refine wpAnyH_take (i:=9) (oi:=_) (v:=?vq17) (by simp only [List.getElem?_toArray,List.getElem?_cons_succ,List.getElem?_cons_zero];rfl) (by kernel_rfl) (by kernel_rfl) (by kernel_rfl) ?hq17 (Or.inl ⟨by rfl,?yq17⟩) (by assumption) ?rq17;(case hq17=>exact (fun _ _ _ h=>h));(case yq17=>(intro w hSw;(try dsimp only at hSw);go_simp;(try with_reducible rfl))))
       (refine wpAnyH_take (i:=10) (oi:=_) (v:=?vq18) (by simp only [List.getElem?_toArray,List.getElem?_cons_succ,List.getElem?_cons_zero];rfl) (by kernel_rfl) (by kernel_rfl) (by kernel_rfl) ?hq18 (Or.inl ⟨by rfl,?yq18⟩) (by assumption) ?rq18;(case hq18=>exact (fun _ _ _ h=>h));(case yq18=>(intro w hSw;(try dsimp only at hSw);go_simp;(try with_reducible rfl))))
       (refine wpAnyH_take (i:=14) (oi:=_) (v:=?vq19) (by simp only [List.getElem?_toArray,List.getElem?_cons_succ,List.getElem?_cons_zero];rfl) (by kernel_rfl) (by kernel_rfl) (by kernel_rfl) ?hq19 (Or.inl ⟨by rfl,?yq19⟩) (by assumption) ?rq19;(case hq19=>exact (fun _ _ _ h=>h));(case yq19=>(intro w hSw;(try dsimp only at hSw);go_simp;(try with_reducible rfl))))
       (refine wpAnyH_take (i:=15) (oi:=_) (v:=?vq20) (by simp only [List.getElem?_toArray,List.getElem?_cons_succ,List.getElem?_cons_zero];rfl) (by kernel_rfl) (by kernel_rfl) (by kernel_rfl) ?hq20 (Or.inl ⟨by rfl,?yq20⟩) (by assumption) ?rq20;(case hq20=>exact (fun _ _ _ h=>h));(case yq20=>(intro w hSw;(try dsimp only at hSw);go_simp;(try with_reducible rfl))))
       simp only [Act.put,List.setIfInBounds_toArray]
       refine wpAnyH_ready (rs:=[18]) (by kernel_rfl) (by simp) ?_
       refine AllReadyH.cons (o:=_) rfl (fun K hK=>?_) AllReadyH.nil
       go_simp
       (refine Calls.mono (R3 _ _) ?_;rintro e uu ⟨l,rfl,hl,rfl⟩;obtain ⟨D4,hD⟩:∃ D:ByteArray,D=⟨l.toArray⟩:=⟨_,rfl⟩;have hd4:D4.size≤30:=(by rw [hD,Fo];omega);rw [← hD];clear hD hl;obtain ⟨C4,E4,r4,s4,z4,y4,kq4⟩:=W8 E3 D4 97 y3 (by omega) hd4)
       go_wp2_with fail
       refine hK.out _ _ q6.s (fun hHeld=>?_)
       clear hK K
       (refine wpAnyH_take (i:=19) (oi:=_) (v:=?vq21) (by simp only [List.getElem?_toArray,List.getElem?_cons_succ,List.getElem?_cons_zero];rfl) (by kernel_rfl) (by kernel_rfl) (by kernel_rfl) ?hq21 (Or.inl ⟨by rfl,?yq21⟩) (by assumption) ?rq21;(case hq21=>exact (fun _ _ _ h=>h));(case yq21=>(intro w hSw;(try dsimp only at hSw);go_simp;(try with_reducible rfl))))
       (refine wpAnyH_take (i:=20) (oi:=_) (v:=?vq22) (by simp only [List.getElem?_toArray,List.getElem?_cons_succ,List.getElem?_cons_zero];rfl) (by kernel_rfl) (by kernel_rfl) (by kernel_rfl) ?hq22 (Or.inl ⟨by rfl,?yq22⟩) (by assumption) ?rq22;(case hq22=>exact (fun _ _ _ h=>h));(case yq22=>(intro w hSw;(try dsimp only at hSw);go_simp;(try with_reducible rfl))))
       simp only [Act.put,List.setIfInBounds_toArray]
       refine wpAnyH_done (by kernel_rfl) ?_ _
       go_wp2;go_ret
       exact uU (s:=C4) q6 (Nat.le_trans z4 (by decide)) (uA kq1 kq2 kq3 kq4)
      ·go_simp
       (refine Calls.mono (R3 _ _) ?_;rintro e uu ⟨l,rfl,hl,rfl⟩;obtain ⟨D4,hD⟩:∃ D:ByteArray,D=⟨l.toArray⟩:=⟨_,rfl⟩;have hd4:D4.size≤30:=(by rw [hD,Fo];omega);rw [← hD];clear hD hl;obtain ⟨C4,E4,r4,s4,z4,y4,kq4⟩:=W8 E3 D4 97 y3 (by omega) hd4)
       go_wp2_with fail
       refine hK.out _ _ q6.s (fun hHeld=>?_)
       clear hK K
       refine wpAnyH_ready (rs:=[8]) (by kernel_rfl) (by simp) ?_
       refine AllReadyH.cons (o:=_) rfl (fun K hK=>?_) AllReadyH.nil
       go_simp
       refine hK.out _ _ q6.s (fun hHeld=>?_)
       clear hK K
       (refine wpAnyH_take (i:=9) (oi:=_) (v:=?vq23) (by simp only [List.getElem?_toArray,List.getElem?_cons_succ,List.getElem?_cons_zero];rfl) (by kernel_rfl) (by kernel_rfl) (by kernel_rfl) ?hq23 (Or.inl ⟨by rfl,?yq23⟩) (by assumption) ?rq23;(case hq23=>exact (fun _ _ _ h=>h));(case yq23=>(intro w hSw;(try dsimp only at hSw);go_simp;(try with_reducible rfl))))
       (refine wpAnyH_take (i:=10) (oi:=_) (v:=?vq24) (by simp only [List.getElem?_toArray,List.getElem?_cons_succ,List.getElem?_cons_zero];rfl) (by kernel_rfl) (by kernel_rfl) (by kernel_rfl) ?hq24 (Or.inl ⟨by rfl,?yq24⟩) (by assumption) ?rq24;(case hq24=>exact (fun _ _ _ h=>h));(case yq24=>(intro w hSw;(try dsimp only at hSw);go_simp;(try with_reducible rfl))))
       (refine wpAnyH_take (i:=14) (oi:=_) (v:=?vq25) (by simp only [List.getElem?_toArray,List.getElem?_cons_succ,List.getElem?_cons_zero];rfl) (by kernel_rfl) (by kernel_rfl) (by kernel_rfl) ?hq25 (Or.inl ⟨by rfl,?yq25⟩) (by assumption) ?rq25;(case hq25=>exact (fun _ _ _ h=>h));(case yq25=>(intro w hSw;(try dsimp only at hSw);go_simp;(try with_reducible rfl))))
       (refine wpAnyH_take (i:=15) (oi:=_) (v:=?vq26) (by simp only [List.getElem?_toArray,List.getElem?_cons_succ,List.getElem?_cons_zero];rfl) (by kernel_rfl) (by kernel_rfl) (by kernel_rfl) ?hq26 (Or.inl ⟨by rfl,?yq26⟩) (by assumption) ?rq26;(case hq26=>exact (fun _ _ _ h=>h));(case yq26=>(intro w hSw;(try dsimp only at hSw);go_simp;(try with_reducible rfl))))
       (refine wpAnyH_take (i:=19) (oi:=_) (v:=?vq27) (by simp only [List.getElem?_toArray,List.getElem?_cons_succ,List.getElem?_cons_zero];rfl) (by kernel_rfl) (by kernel_rfl) (by kernel_rfl) ?hq27 (Or.inl ⟨by rfl,?yq27⟩) (by assumption) ?rq27;(case hq27=>exact (fun _ _ _ h=>h));(case yq27=>(intro w hSw;(try dsimp only at hSw);go_simp;(try with_reducible rfl))))
       (refine wpAnyH_take (i:=20) (oi:=_) (v:=?vq28) (by simp only [List.getElem?_toArray,List.getElem?_cons_succ,List.getElem?_cons_zero];rfl) (by kernel_rfl) (by kernel_rfl) (by kernel_rfl) ?hq28 (Or.inl ⟨by rfl,?yq28⟩) (by assumption) ?rq28;(case hq28=>exact (fun _ _ _ h=>h));(case yq28=>(intro w hSw;(try dsimp only at hSw);go_simp;(try with_reducible rfl))))
       simp only [Act.put,List.setIfInBounds_toArray]
       refine wpAnyH_done (by kernel_rfl) ?_ _
       go_wp2;go_ret
       exact uU (s:=C4) q6 (Nat.le_trans z4 (by decide)) (uA kq1 kq2 kq3 kq4)
end Go.Proofs.YtomiclakhjncbaaGreatDoor
