import Derived.Test.YtomiclakhjncbaaGreatDoorJT5a
namespace Go.Proofs.YtomiclakhjncbaaGreatDoor
open Go.RowKit Go.Proofs.Tryz
set_option maxRecDepth 100000
set_option maxHeartbeats 12800000
theorem Aaq {B:Nat} (g:Nat) (b:Bk) (p:Bp) (w:World) (hc:A2 B w g) (hx:Aq w b p) (ho:Wq p g) (hn:D0 b) (hP:Par b) :
  Calls prog 81 #[.pointer (some (qzA g 0)),C5 b p] w (LnG B g w):=by
 have b8:=LS.new (b:=b) hc hx ho 31;have g6:b.az.length<=1048576:=hn.2.1;have g7:b.cs.length<=1048576:=hn.2.2.1;have g2:Hid (B<=w.heap.size):=(L2 hc).2
 have c8:Hid (∀ k,k<b.az.length->0<=(Ak b.az k).iss/\(Ak b.az k).iss<=8):=fun k hk=>by
  have:=hP.ia (Ak b.az k) (by rw [Gw hk];exact List.getElem_mem hk)
  omega
 unfold C5;clear hc hx ho hn hP
 go_enter func81,ntmps81
 go_wp2_with fail
 refine (uX b8 10 (by omega)).mono ?_
 rintro e u1 ⟨x,rfl,W,X,Y⟩;have HQ:Hid (LS B g w b p u1):=Y;clear b8
 go_upto_block 0 with fail
 go_cut [10] (fun _ wz=>LS B g w b p wz)
 case first =>
  by_cases e0:x=0
  ·subst e0
   have c0:=Y.z0;clear Y;go_upto_region 3 with fail
   go_region_with (first | (go_at_call 79;(first | with_reducible refine (uX HQ.o _ (by omega)).mono ?_ | with_reducible refine (uX HQ.o.drew _ (by omega)).mono ?_);rintro e H ⟨y,rfl,C,F,Z⟩;have c2:=Z.z0) | (go_at_call 72;refine (Xo _ _).mono ?_;rintro e H ⟨l,rfl,hl,rfl⟩))
   all_goals
    go_wp2;go_ret
    exact uR (by assumption) (by simp only [S8,Fo,List.length_cons,List.length_nil];omega) (Aad _)
  by_cases e12:x=1\/x=2
  ·clear W X
   rcases e12 with rfl | rfl
   all_goals
    go_wp2_with (first | (go_at_call 79;refine (uX (by assumption) _ (by omega)).mono ?_;rintro e H ⟨y,rfl,C,F,Z⟩) | (go_at_call 130;refine (Adx (by assumption) _ _).mono ?_;rintro e H ⟨l,rfl,hl,f,Z⟩;have d4:Hid (NoB l/\l≠[]):=⟨f.out.1,f.out.2 C (F (by omega)) rfl⟩) | (go_at_call 72;refine (xG _ _).mono ?_;rintro e H ⟨l,rfl,hl,d,rfl⟩) | (go_at_call 131;refine (Aej (by assumption)).mono ?_;rintro e H ⟨y,rfl,Z⟩))
    go_ret
    refine uR (by assumption) (by simp only [S8,Fo,List.length_cons,List.length_nil];omega) ?_
    rw [yJ]
    refine yR (by assumption) (Aem (by assumption) ?_ ?_)
    all_goals first | omega | (rw [tS (by omega) (by omega)];omega)
  by_cases e34:x=3\/x=4
  ·clear W X Y e0 e12
   rcases e34 with rfl | rfl
   all_goals
    go_wp2
    go_loopw [5] (fun i wr=>∃ k:Nat,k<=b.az.length/\i=qzI k/\LS B g w b p wr) (fun i _=>b.az.length - (intOf i).toNat)
    case atStart=>exact ⟨0,Nat.zero_le _,rfl,HQ.o⟩
    case round =>
     obtain ⟨k,hk,rfl,qr⟩:=hrel;have HR:Hid (LS B g w b p wr):=qr;have z2:=qr.z2
     by_cases hlt:k<b.az.length
     ·have b5:(k:Int)<(b.az.length:Int):=by omega
      rcases qr.az with hE | ⟨ab,off,d6,g3,a9⟩
      ·rw [hE] at hlt;simp at hlt
      rw [d6] at z2;obtain ⟨f0,f1,f2,f3,f4,f5⟩:=a9 k hlt;obtain ⟨A,hA⟩:∃ A,Ak b.az k=A:=⟨_,rfl⟩;rw [hA] at f0 f1 f2 f3 f4 f5;obtain ⟨ref,iY,cQ,am,day,used⟩:=A
      simp only at f0 f1 f2 f3 f4 f5
      have d5:=hF qr.cu
      have HL:Hid (LT B g w b p wr.heap.size (qzI iY) (qzI cQ) (qzI am) (wr.alloc (.cells #[.string ⟨ref.toArray⟩,qzI iY,qzI cQ,qzI am,qzI day,.bool used] 107))):=⟨qr.alloc _,⟨by simp,by simp,by simp⟩,d5⟩
      have a7:Hid (0<=iY/\iY<=8):=by
       have:=c8.o k hlt
       rw [hA] at this;exact this
      clear a9 hA qr
      cases used
      ·go_wp2_with fail
       refine (Acr HL.o _ (by omega)).mono ?_
       rintro e u3 ⟨x3,rfl,L⟩;have V:Hid (LT B g w b p wr.heap.size (qzI iY) (qzI cQ) (qzI am) u3):=L;obtain ⟨d1,d2,d3⟩:=L.s;clear HL f0 f1 f2 f3 f4 f5 z2 L
       cases x3
       ·go_upto_region 14 with fail
        go_region_held3 (fun u=>u.cell? ⟨wr.heap.size,1,none⟩=some (qzI iY)/\u.cell? ⟨wr.heap.size,2,none⟩=some (qzI cQ)/\u.cell? ⟨wr.heap.size,3,none⟩=some (qzI am)) (first | with_reducible exact V.o.s | with_reducible exact V.o.drew.s | with_reducible exact q5.s | with_reducible exact q5.drew.s) ((first
         | (go_at_call 79;(first | with_reducible refine (wE V.o).mono ?_ | with_reducible refine (wE V.o.drew).mono ?_);rintro e u5 ⟨y,rfl,HY,q5⟩)
         | (first | (revert y3;intro y3;go_at_call 72;(with_reducible refine Calls.mono (xG _ _) ?_);rintro e H ⟨l,rfl,hl,d,rfl⟩;obtain ⟨N,c⟩:∃ D:ByteArray,D=⟨l.toArray⟩:=⟨_,rfl⟩;have j:N.size<=30:=(by rw [c,Fo];omega);rw [<- c];clear c hl d;obtain ⟨C4,E4,r4,s4,z4,y4,n⟩:=tT E3 N 97 y3 (by omega) j) | (revert y2;intro y2;go_at_call 72;(with_reducible refine Calls.mono (xG _ _) ?_);rintro e H ⟨l,rfl,hl,d,rfl⟩;obtain ⟨D3,c⟩:∃ D:ByteArray,D=⟨l.toArray⟩:=⟨_,rfl⟩;have O:D3.size<=30:=(by rw [c,Fo];omega);rw [<- c];clear c hl d;obtain ⟨C3,E3,r3,s3,z3,y3,G⟩:=tT E2 D3 66 y2 (by omega) O) | (revert y1;intro y1;go_at_call 72;(with_reducible refine Calls.mono (xG _ _) ?_);rintro e H ⟨l,rfl,hl,d,rfl⟩;obtain ⟨D2,c⟩:∃ D:ByteArray,D=⟨l.toArray⟩:=⟨_,rfl⟩;have c9:D2.size<=30:=(by rw [c,Fo];omega);rw [<- c];have G2:Hid (GD D2):=(by rw [c];have g8:=HY.out;exact d.out (by first | omega | (unfold wrap64;omega) | (rw [tS (by omega) (by omega)];omega)) (by first | omega | (unfold wrap64;omega) | (rw [tS (by omega) (by omega)];omega)));clear c hl d;obtain ⟨C2,E2,r2,s2,z2,y2,U⟩:=tT E1 D2 35 y1 (by omega) c9) | (go_at_call 72;(with_reducible refine Calls.mono (xG _ _) ?_);rintro e H ⟨l,rfl,hl,d,rfl⟩;obtain ⟨D1,c⟩:∃ D:ByteArray,D=⟨l.toArray⟩:=⟨_,rfl⟩;have a3:D1.size<=30:=(by rw [c,Fo];omega);rw [<- c];have G1:Hid (GD D1):=(by rw [c];exact d.out a7.o.1 a7.o.2);clear c hl d;obtain ⟨C1,E1,r1,s1,z1,y1,R⟩:=tT ⟨#[112,97,121,32]⟩ D1 4 (by decide) (by omega) a3))))
        all_goals
         go_wp2;go_ret
         exact uR q5.ls (by omega) (zZ R U G n G1 G2)
       ·clear d1 d2 d3
        go_wp2
        go_simp
        exact ⟨⟨k+1,by omega,by omega,V.o.ls⟩,by simp [intOf];omega⟩
      ·go_wp2
       go_roundw
       case rel=>exact ⟨k+1,by omega,by go_num,HL.o.ls⟩
       case measure=>simp [intOf];omega
     ·have b5:¬ (k:Int)<(b.az.length:Int):=by omega
      clear qr;go_wp2;go_ret
      exact uR HR.o (by decide) (uL (A:=[49]) (D:=[52]) (O9 (by decide)) (O9 (by decide)) (by decide) (by decide) [56,52,48,32,49,48,48])
  have h0:(x == 0)=false:=by simpa using e0
  have h1:(x == 1)=false:=by simp;omega
  have h2:(x == 2)=false:=by simp;omega
  have h3:(x == 3)=false:=by simp;omega
  have h4:(x == 4)=false:=by simp;omega
  clear e0 e12 e34 W X Y
  by_cases e5:x=5
  ·subst e5
   clear h0 h1 h2 h3 h4;go_wp2_with fail
   refine (Aer HQ.o _ (by omega)).mono ?_
   rintro e H ⟨x2,rfl,Z⟩;have a8:Hid (LS B g w b p H):=Z;clear HQ Z
   cases x2
   ·go_wp2
    go_meet;exact a8.o
   ·go_wp2_with fail
    refine (Aeh a8.o _).mono ?_;rintro e u3 ⟨l,rfl,hl,d,L⟩
    have HL:Hid (LnG B g w (.returned (.string ⟨l.toArray⟩)) u3):=⟨l,rfl,by omega,d.out,L.cu,L.gr⟩
    clear L hl d;go_wp2;go_ret;exact HL.o
  ·have h5:(x == 5)=false:=by simpa using e5
   clear e5;go_wp2;go_meet;exact HQ.o
 case rest =>
  clear HQ Y W X;obtain ⟨u1,d9⟩:∃ x,x=wc:=⟨_,rfl⟩;subst d9;obtain ⟨Y,hq1⟩:∃ _q:LS B g w b p u1,True:=⟨hcut,trivial⟩;clear hq1 hcut;have c3:=Y.z3
  by_cases hcs:b.cs.length=0
  ·have b3:((b.cs.length:Int) == 0)=true:=beq_iff_eq.2 (by omega)
   clear hcs
   go_wp2_with (first | (go_at_call 79;refine (uX (by assumption) _ (by omega)).mono ?_;rintro e H ⟨y,rfl,C,F,Z⟩) | (go_at_call 130;refine (Adx (by assumption) _ _).mono ?_;rintro e H ⟨l,rfl,hl,f,Z⟩;have d4:Hid (NoB l/\l≠[]):=⟨f.out.1,f.out.2 C (F (by omega)) rfl⟩))
   go_ret
   exact uR (by assumption) (by simp only [S8,Fo,List.length_cons,List.length_nil];omega) (yI (by assumption))
  ·have b3:((b.cs.length:Int) == 0)=false:=beq_eq_false_iff_ne.2 (by omega)
   go_wp2_with fail
   refine (uX Y _ (by omega)).mono ?_
   rintro e u3 ⟨y,rfl,C,F,L⟩
   have hy:=F (by omega)
   obtain ⟨i,rfl⟩:=Int.eq_ofNat_of_zero_le C
   have hi:i<b.cs.length:=by omega
   have g5:(i:Int)<(b.cs.length:Int):=by omega
   have z3:=L.z3
   rcases L.cs with hE | ⟨cb,off,d7,g4,b4⟩
   ·rw [hE] at hi;simp at hi
   rw [d7] at z3;obtain ⟨f0,f1,f2,f3,f4,f5,f6,f7,f8,f9,f10,f11⟩:=b4 i hi;have t:Hid _:=Aev L (A8 b.cs i);obtain ⟨K,hK⟩:∃ K,A8 b.cs i=K:=⟨_,rfl⟩;rw [hK] at f0 f1 f2 f3 f4 f5 f6 f7 f8 f9 f10 f11 t;obtain ⟨iY,aZ,cQ,am,st,rW,cl,bk,fW,cW,sS,dX⟩:=K
   simp only at f0 f1 f2 f3 f4 f5 f6 f7 f8 f9 f10 f11
   unfold cv at t
   simp only at t
   clear b4 hK c3 b3 hcs L;go_upto_region 22 with fail
   go_cut [8] (fun v wz=>∃ T I m rs,v=.pointer (some (qzA T 0))/\LA B g w T (qzI I) (qzI m) (qzI rs) wz)
   case first =>
    go_wp2_with fail
    refine Calls.mono t.o ?_;rintro e u4 ⟨⟨I,m,rs⟩,rfl,q4⟩;unfold av
    simp only
    have HA:Hid (LA B g w u4.heap.size (qzI I) (qzI m) (qzI rs) (u4.alloc (.cells #[qzI I,qzI m,qzI rs] 165))):=⟨(q4.alloc _).cu,(q4.alloc _).gr,⟨by simp,by simp,by simp⟩,⟨by simp,by simp,by simp⟩,(L2 q4.cu).2,q4.gr.size⟩
    clear f0 f1 f2 f3 f4 f5 f6 f7 f8 f9 f10 f11 t q4 z3;go_wp2;go_meet;exact ⟨u4.heap.size,I,m,rs,rfl,HA.o⟩
   case rest =>
    obtain ⟨T,I,m,rs,rfl,q8⟩:=hcut;obtain ⟨u4,g0⟩:∃ x,x=wc:=⟨_,rfl⟩;subst g0;have HA:Hid (LA B g w T (qzI I) (qzI m) (qzI rs) u4):=q8;obtain ⟨a0,a1,a2⟩:=q8.s;obtain ⟨b0,b1,b2⟩:=q8.z;clear f0 f1 f2 f3 f4 f5 f6 f7 f8 f9 f10 f11 t z3 q8;go_upto_region 23 with fail
    go_cut [124] (fun v wz=>∃ q,v=.bool q/\wz=u4/\(q=false->0<=I/\I<=9))
    case first =>
     by_cases hm:m<0
     ·go_wp2
      go_meet
      exact ⟨true,rfl,rfl,fun h=>by cases h⟩
     ·go_wp2_with (go_at_call 134;refine (Dl _ _ _ _).mono ?_;rintro e u5 ⟨rfl,rfl⟩;obtain ⟨ib,a4⟩:∃ x,Gk I 0 9=x:=⟨_,rfl⟩;have b9:Hid (Gk I 0 9=ib):=a4;rw [a4];clear a4;cases ib)
      ·go_meet
       exact ⟨true,rfl,rfl,fun h=>by cases h⟩
      ·go_meet
       exact ⟨false,rfl,rfl,fun _=>of_decide_eq_true b9.o⟩
    case rest =>
    obtain ⟨qb,rfl,a6,d8⟩:=hcut;replace a6:=a6.symm;subst a6
    go_upto_if 124 with fail
    go_cut [8] (fun v wz=>v=.pointer (some (qzA T 0))/\∃ (J:Nat) (m r:Int),J<10/\LA B g w T (qzI J) (qzI m) (qzI r) wz)
    case first =>
     cases qb
     ·have h9:=d8 rfl
      go_wp2;go_meet
      exact ⟨rfl,I.toNat,m,rs,by omega,by rw [Int.toNat_of_nonneg h9.1];exact HA.o⟩
     ·go_wp2
      go_meet
      exact ⟨rfl,0,0,0,by omega,HA.o.zero _ _ _⟩
    case rest =>
     obtain ⟨rfl,J,m2,r2,b7,qa⟩:=hcut;obtain ⟨u5,g1⟩:∃ x,x=wc:=⟨_,rfl⟩;subst g1;clear a0 a1 a2 b0 b1 b2;have V:Hid (LA B g w T (qzI J) (qzI m2) (qzI r2) u5):=qa
     have b5:(J:Int)<10:=by omega
     obtain ⟨d0,d1,d2⟩:=qa.s;clear qa HA;go_upto_region 25 with fail
     refine wp_region_held_drew (S:=(fun u=>u.cell? (qzA T 0)=some (qzI J)/\u.cell? (qzA T 1)=some (qzI m2)/\u.cell? (qzA T 2)=some (qzI r2))) (by kernel_rfl) V.o.drew.s (fun hHeld=>?_)
     (refine wpAnyH_take (i:=0) (oi:=_) (v:=?vq1) (by simp only [List.getElem?_toArray,List.getElem?_cons_zero];rfl) (by kernel_rfl) (by kernel_rfl) (by kernel_rfl) ?hq1 (Or.inl ⟨by rfl,?yq1⟩) (by assumption) ?rq1;(case hq1=>exact (fun _ _ _ h=>h));(case yq1=>(intro w a;(try dsimp only at a);go_simp;(try with_reducible rfl))))
     (refine wpAnyH_take (i:=5) (oi:=_) (v:=?vq2) (by simp only [List.getElem?_toArray,List.getElem?_cons_succ,List.getElem?_cons_zero];rfl) (by kernel_rfl) (by kernel_rfl) (by kernel_rfl) ?hq2 (Or.inl ⟨by rfl,?yq2⟩) (by assumption) ?rq2;(case hq2=>exact (fun _ _ _ h=>h));(case yq2=>(intro w a;(try dsimp only at a);go_simp;(try with_reducible rfl))))
     (refine wpAnyH_take (i:=6) (oi:=_) (v:=?vq3) (by simp only [List.getElem?_toArray,List.getElem?_cons_succ,List.getElem?_cons_zero];rfl) (by kernel_rfl) (by kernel_rfl) (by kernel_rfl) ?hq3 (Or.inl ⟨by rfl,?yq3⟩) (by assumption) ?rq3;(case hq3=>exact (fun _ _ _ h=>h));(case yq3=>(intro w a;(try dsimp only at a);go_simp;(try with_reducible rfl))))
     (refine wpAnyH_take (i:=11) (oi:=_) (v:=?vq4) (by simp only [List.getElem?_toArray,List.getElem?_cons_succ,List.getElem?_cons_zero];rfl) (by kernel_rfl) (by kernel_rfl) (by kernel_rfl) ?hq4 (Or.inl ⟨by rfl,?yq4⟩) (by assumption) ?rq4;(case hq4=>exact (fun _ _ _ h=>h));(case yq4=>(intro w a;(try dsimp only at a);go_simp;(try with_reducible rfl))))
     (refine wpAnyH_take (i:=12) (oi:=_) (v:=?vq5) (by simp only [List.getElem?_toArray,List.getElem?_cons_succ,List.getElem?_cons_zero];rfl) (by kernel_rfl) (by kernel_rfl) (by kernel_rfl) ?hq5 (Or.inl ⟨by rfl,?yq5⟩) (by assumption) ?rq5;(case hq5=>exact (fun _ _ _ h=>h));(case yq5=>(intro w a;(try dsimp only at a);go_simp;(try with_reducible rfl))))
     (refine wpAnyH_take (i:=16) (oi:=_) (v:=?vq6) (by simp only [List.getElem?_toArray,List.getElem?_cons_succ,List.getElem?_cons_zero];rfl) (by kernel_rfl) (by kernel_rfl) (by kernel_rfl) ?hq6 (Or.inl ⟨by rfl,?yq6⟩) (by assumption) ?rq6;(case hq6=>exact (fun _ _ _ h=>h));(case yq6=>(intro w a;(try dsimp only at a);go_simp;(try with_reducible rfl))))
     (refine wpAnyH_take (i:=17) (oi:=_) (v:=?vq7) (by simp only [List.getElem?_toArray,List.getElem?_cons_succ,List.getElem?_cons_zero];rfl) (by kernel_rfl) (by kernel_rfl) (by kernel_rfl) ?hq7 (Or.inl ⟨by rfl,?yq7⟩) (by assumption) ?rq7;(case hq7=>exact (fun _ _ _ h=>h));(case yq7=>(intro w a;(try dsimp only at a);go_simp;(try with_reducible rfl))))
     simp only [Act.put,List.setIfInBounds_toArray]
     refine wpAnyH_ready (rs:=[1]) (by kernel_rfl) (by simp) ?_
     refine AllReadyH.cons (o:=_) rfl (fun K hK=>?_) AllReadyH.nil
     go_simp
     (refine Calls.mono (Xo _ _) ?_;rintro e uu ⟨l,rfl,hl,rfl⟩;obtain ⟨D1,c⟩:∃ D:ByteArray,D=⟨l.toArray⟩:=⟨_,rfl⟩;have a3:D1.size<=30:=(by rw [c,Fo];omega);rw [<- c];clear c hl;obtain ⟨C1,E1,r1,s1,z1,y1,R⟩:=tT ⟨#[97,99,116,32]⟩ D1 4 (by decide) (by omega) a3)
     go_wp2_with fail
     refine hK.out _ _ V.o.drew.s (fun hHeld=>?_)
     clear hK K
     (refine wpAnyH_take (i:=2) (oi:=_) (v:=?vq8) (by simp only [List.getElem?_toArray,List.getElem?_cons_succ,List.getElem?_cons_zero];rfl) (by kernel_rfl) (by kernel_rfl) (by kernel_rfl) ?hq8 (Or.inl ⟨by rfl,?yq8⟩) (by assumption) ?rq8;(case hq8=>exact (fun _ _ _ h=>h));(case yq8=>(intro w a;(try dsimp only at a);go_simp;(try with_reducible rfl))))
     (refine wpAnyH_take (i:=3) (oi:=_) (v:=?vq9) (by simp only [List.getElem?_toArray,List.getElem?_cons_succ,List.getElem?_cons_zero];rfl) (by kernel_rfl) (by kernel_rfl) (by kernel_rfl) ?hq9 (Or.inl ⟨by rfl,?yq9⟩) (by assumption) ?rq9;(case hq9=>exact (fun _ _ _ h=>h));(case yq9=>(intro w a;(try dsimp only at a);go_simp;(try with_reducible rfl))))
     simp only [Act.put,List.setIfInBounds_toArray]
     refine wpAnyH_ready (rs:=[4]) (by kernel_rfl) (by simp) ?_
     refine AllReadyH.cons (o:=_) rfl (fun K hK=>?_) AllReadyH.nil
     go_simp
     (refine Calls.mono (dL _) ?_;rintro e u6 ⟨rfl,a5,b6⟩;have M:LA B g w T (qzI J) (qzI m2) (qzI r2) u6:=V.o.drew.below b6;obtain ⟨KB,hK⟩:∃ K:ByteArray,K=⟨(Al Dm J).toArray⟩:=⟨_,rfl⟩;have hk:KB.size<=30:=(by have:=Aap J;rw [hK,Fo];omega);have k6:u6.cell? ⟨u5.heap.size,J,none⟩=some (.string KB):=(by rw [hK];first | exact a5 J b7 | simpa using a5 J b7);clear a5 b6 hK;obtain ⟨C2,E2,g9,s2,z2,y2,U⟩:=tT E1 KB 35 y1 (by omega) hk)
     go_wp2_with fail
     refine hK.out _ _ M.s (fun hHeld=>?_)
     clear hK K
     (refine wpAnyH_take (i:=7) (oi:=_) (v:=?vq10) (by simp only [List.getElem?_toArray,List.getElem?_cons_succ,List.getElem?_cons_zero];rfl) (by kernel_rfl) (by kernel_rfl) (by kernel_rfl) ?hq10 (Or.inl ⟨by rfl,?yq10⟩) (by assumption) ?rq10;(case hq10=>exact (fun _ _ _ h=>h));(case yq10=>(intro w a;(try dsimp only at a);go_simp;(try with_reducible rfl))))
     simp only [Act.put,List.setIfInBounds_toArray]
     refine wpAnyH_ready (rs:=[8,13]) (by kernel_rfl) (by simp) ?_
     refine AllReadyH.cons (o:=_) rfl (fun K hK=>?_) (AllReadyH.cons (o:=_) rfl (fun K hK=>?_) AllReadyH.nil)
     ·go_simp
      refine hK.out _ _ M.s (fun hHeld=>?_)
      clear hK K
      (refine wpAnyH_take (i:=9) (oi:=_) (v:=?vq11) (by simp only [List.getElem?_toArray,List.getElem?_cons_succ,List.getElem?_cons_zero];rfl) (by kernel_rfl) (by kernel_rfl) (by kernel_rfl) ?hq11 (Or.inl ⟨by rfl,?yq11⟩) (by assumption) ?rq11;(case hq11=>exact (fun _ _ _ h=>h));(case yq11=>(intro w a;(try dsimp only at a);go_simp;(try with_reducible rfl))))
      (refine wpAnyH_take (i:=10) (oi:=_) (v:=?vq12) (by simp only [List.getElem?_toArray,List.getElem?_cons_succ,List.getElem?_cons_zero];rfl) (by kernel_rfl) (by kernel_rfl) (by kernel_rfl) ?hq12 (Or.inl ⟨by rfl,?yq12⟩) (by assumption) ?rq12;(case hq12=>exact (fun _ _ _ h=>h));(case yq12=>(intro w a;(try dsimp only at a);go_simp;(try with_reducible rfl))))
      simp only [Act.put,List.setIfInBounds_toArray]
      refine wpAnyH_ready (rs:=[13]) (by kernel_rfl) (by simp) ?_
      refine AllReadyH.cons (o:=_) rfl (fun K hK=>?_) AllReadyH.nil
      go_simp
      (refine Calls.mono (Xo _ _) ?_;rintro e uu ⟨l,rfl,hl,rfl⟩;obtain ⟨D3,c⟩:∃ D:ByteArray,D=⟨l.toArray⟩:=⟨_,rfl⟩;have O:D3.size<=30:=(by rw [c,Fo];omega);rw [<- c];clear c hl;obtain ⟨C3,E3,r3,s3,z3,y3,G⟩:=tT E2 D3 66 y2 (by omega) O)
      go_wp2_with fail
      refine hK.out _ _ M.s (fun hHeld=>?_)
      clear hK K
      (refine wpAnyH_take (i:=14) (oi:=_) (v:=?vq13) (by simp only [List.getElem?_toArray,List.getElem?_cons_succ,List.getElem?_cons_zero];rfl) (by kernel_rfl) (by kernel_rfl) (by kernel_rfl) ?hq13 (Or.inl ⟨by rfl,?yq13⟩) (by assumption) ?rq13;(case hq13=>exact (fun _ _ _ h=>h));(case yq13=>(intro w a;(try dsimp only at a);go_simp;(try with_reducible rfl))))
      (refine wpAnyH_take (i:=15) (oi:=_) (v:=?vq14) (by simp only [List.getElem?_toArray,List.getElem?_cons_succ,List.getElem?_cons_zero];rfl) (by kernel_rfl) (by kernel_rfl) (by kernel_rfl) ?hq14 (Or.inl ⟨by rfl,?yq14⟩) (by assumption) ?rq14;(case hq14=>exact (fun _ _ _ h=>h));(case yq14=>(intro w a;(try dsimp only at a);go_simp;(try with_reducible rfl))))
      simp only [Act.put,List.setIfInBounds_toArray]
      refine wpAnyH_ready (rs:=[18]) (by kernel_rfl) (by simp) ?_
      refine AllReadyH.cons (o:=_) rfl (fun K hK=>?_) AllReadyH.nil
      go_simp
      (refine Calls.mono (Xo _ _) ?_;rintro e uu ⟨l,rfl,hl,rfl⟩;obtain ⟨N,c⟩:∃ D:ByteArray,D=⟨l.toArray⟩:=⟨_,rfl⟩;have j:N.size<=30:=(by rw [c,Fo];omega);rw [<- c];clear c hl;obtain ⟨C4,E4,r4,s4,z4,y4,n⟩:=tT E3 N 97 y3 (by omega) j)
      go_wp2_with fail
      refine hK.out _ _ M.s (fun hHeld=>?_)
      clear hK K
      (refine wpAnyH_take (i:=19) (oi:=_) (v:=?vq15) (by simp only [List.getElem?_toArray,List.getElem?_cons_succ,List.getElem?_cons_zero];rfl) (by kernel_rfl) (by kernel_rfl) (by kernel_rfl) ?hq15 (Or.inl ⟨by rfl,?yq15⟩) (by assumption) ?rq15;(case hq15=>exact (fun _ _ _ h=>h));(case yq15=>(intro w a;(try dsimp only at a);go_simp;(try with_reducible rfl))))
      (refine wpAnyH_take (i:=20) (oi:=_) (v:=?vq16) (by simp only [List.getElem?_toArray,List.getElem?_cons_succ,List.getElem?_cons_zero];rfl) (by kernel_rfl) (by kernel_rfl) (by kernel_rfl) ?hq16 (Or.inl ⟨by rfl,?yq16⟩) (by assumption) ?rq16;(case hq16=>exact (fun _ _ _ h=>h));(case yq16=>(intro w a;(try dsimp only at a);go_simp;(try with_reducible rfl))))
      simp only [Act.put,List.setIfInBounds_toArray]
      refine wpAnyH_done (by kernel_rfl) ?_ _
      go_wp2;go_ret
      exact wI (s:=C4) M (Nat.le_trans z4 (by decide)) (uU R U G n)
     ·go_simp
      (refine Calls.mono (Xo _ _) ?_;rintro e uu ⟨l,rfl,hl,rfl⟩;obtain ⟨D3,c⟩:∃ D:ByteArray,D=⟨l.toArray⟩:=⟨_,rfl⟩;have O:D3.size<=30:=(by rw [c,Fo];omega);rw [<- c];clear c hl;obtain ⟨C3,E3,r3,s3,z3,y3,G⟩:=tT E2 D3 66 y2 (by omega) O)
      go_wp2_with fail
      refine hK.out _ _ M.s (fun hHeld=>?_)
      clear hK K
      refine wpAnyH_ready (rs:=[8,18]) (by kernel_rfl) (by simp) ?_
      refine AllReadyH.cons (o:=_) rfl (fun K hK=>?_) (AllReadyH.cons (o:=_) rfl (fun K hK=>?_) AllReadyH.nil)
      ·go_simp
       refine hK.out _ _ M.s (fun hHeld=>?_)
       clear hK K
       (refine wpAnyH_take (i:=9) (oi:=_) (v:=?vq17) (by simp only [List.getElem?_toArray,List.getElem?_cons_succ,List.getElem?_cons_zero];rfl) (by kernel_rfl) (by kernel_rfl) (by kernel_rfl) ?hq17 (Or.inl ⟨by rfl,?yq17⟩) (by assumption) ?rq17;(case hq17=>exact (fun _ _ _ h=>h));(case yq17=>(intro w a;(try dsimp only at a);go_simp;(try with_reducible rfl))))
       (refine wpAnyH_take (i:=10) (oi:=_) (v:=?vq18) (by simp only [List.getElem?_toArray,List.getElem?_cons_succ,List.getElem?_cons_zero];rfl) (by kernel_rfl) (by kernel_rfl) (by kernel_rfl) ?hq18 (Or.inl ⟨by rfl,?yq18⟩) (by assumption) ?rq18;(case hq18=>exact (fun _ _ _ h=>h));(case yq18=>(intro w a;(try dsimp only at a);go_simp;(try with_reducible rfl))))
       (refine wpAnyH_take (i:=14) (oi:=_) (v:=?vq19) (by simp only [List.getElem?_toArray,List.getElem?_cons_succ,List.getElem?_cons_zero];rfl) (by kernel_rfl) (by kernel_rfl) (by kernel_rfl) ?hq19 (Or.inl ⟨by rfl,?yq19⟩) (by assumption) ?rq19;(case hq19=>exact (fun _ _ _ h=>h));(case yq19=>(intro w a;(try dsimp only at a);go_simp;(try with_reducible rfl))))
       (refine wpAnyH_take (i:=15) (oi:=_) (v:=?vq20) (by simp only [List.getElem?_toArray,List.getElem?_cons_succ,List.getElem?_cons_zero];rfl) (by kernel_rfl) (by kernel_rfl) (by kernel_rfl) ?hq20 (Or.inl ⟨by rfl,?yq20⟩) (by assumption) ?rq20;(case hq20=>exact (fun _ _ _ h=>h));(case yq20=>(intro w a;(try dsimp only at a);go_simp;(try with_reducible rfl))))
       simp only [Act.put,List.setIfInBounds_toArray]
       refine wpAnyH_ready (rs:=[18]) (by kernel_rfl) (by simp) ?_
       refine AllReadyH.cons (o:=_) rfl (fun K hK=>?_) AllReadyH.nil
       go_simp
       (refine Calls.mono (Xo _ _) ?_;rintro e uu ⟨l,rfl,hl,rfl⟩;obtain ⟨N,c⟩:∃ D:ByteArray,D=⟨l.toArray⟩:=⟨_,rfl⟩;have j:N.size<=30:=(by rw [c,Fo];omega);rw [<- c];clear c hl;obtain ⟨C4,E4,r4,s4,z4,y4,n⟩:=tT E3 N 97 y3 (by omega) j)
       go_wp2_with fail
       refine hK.out _ _ M.s (fun hHeld=>?_)
       clear hK K
       (refine wpAnyH_take (i:=19) (oi:=_) (v:=?vq21) (by simp only [List.getElem?_toArray,List.getElem?_cons_succ,List.getElem?_cons_zero];rfl) (by kernel_rfl) (by kernel_rfl) (by kernel_rfl) ?hq21 (Or.inl ⟨by rfl,?yq21⟩) (by assumption) ?rq21;(case hq21=>exact (fun _ _ _ h=>h));(case yq21=>(intro w a;(try dsimp only at a);go_simp;(try with_reducible rfl))))
       (refine wpAnyH_take (i:=20) (oi:=_) (v:=?vq22) (by simp only [List.getElem?_toArray,List.getElem?_cons_succ,List.getElem?_cons_zero];rfl) (by kernel_rfl) (by kernel_rfl) (by kernel_rfl) ?hq22 (Or.inl ⟨by rfl,?yq22⟩) (by assumption) ?rq22;(case hq22=>exact (fun _ _ _ h=>h));(case yq22=>(intro w a;(try dsimp only at a);go_simp;(try with_reducible rfl))))
       simp only [Act.put,List.setIfInBounds_toArray]
       refine wpAnyH_done (by kernel_rfl) ?_ _
       go_wp2;go_ret
       exact wI (s:=C4) M (Nat.le_trans z4 (by decide)) (uU R U G n)
      ·go_simp
       (refine Calls.mono (Xo _ _) ?_;rintro e uu ⟨l,rfl,hl,rfl⟩;obtain ⟨N,c⟩:∃ D:ByteArray,D=⟨l.toArray⟩:=⟨_,rfl⟩;have j:N.size<=30:=(by rw [c,Fo];omega);rw [<- c];clear c hl;obtain ⟨C4,E4,r4,s4,z4,y4,n⟩:=tT E3 N 97 y3 (by omega) j)
       go_wp2_with fail
       refine hK.out _ _ M.s (fun hHeld=>?_)
       clear hK K
       refine wpAnyH_ready (rs:=[8]) (by kernel_rfl) (by simp) ?_
       refine AllReadyH.cons (o:=_) rfl (fun K hK=>?_) AllReadyH.nil
       go_simp
       refine hK.out _ _ M.s (fun hHeld=>?_)
       clear hK K
       (refine wpAnyH_take (i:=9) (oi:=_) (v:=?vq23) (by simp only [List.getElem?_toArray,List.getElem?_cons_succ,List.getElem?_cons_zero];rfl) (by kernel_rfl) (by kernel_rfl) (by kernel_rfl) ?hq23 (Or.inl ⟨by rfl,?yq23⟩) (by assumption) ?rq23;(case hq23=>exact (fun _ _ _ h=>h));(case yq23=>(intro w a;(try dsimp only at a);go_simp;(try with_reducible rfl))))
       (refine wpAnyH_take (i:=10) (oi:=_) (v:=?vq24) (by simp only [List.getElem?_toArray,List.getElem?_cons_succ,List.getElem?_cons_zero];rfl) (by kernel_rfl) (by kernel_rfl) (by kernel_rfl) ?hq24 (Or.inl ⟨by rfl,?yq24⟩) (by assumption) ?rq24;(case hq24=>exact (fun _ _ _ h=>h));(case yq24=>(intro w a;(try dsimp only at a);go_simp;(try with_reducible rfl))))
       (refine wpAnyH_take (i:=14) (oi:=_) (v:=?vq25) (by simp only [List.getElem?_toArray,List.getElem?_cons_succ,List.getElem?_cons_zero];rfl) (by kernel_rfl) (by kernel_rfl) (by kernel_rfl) ?hq25 (Or.inl ⟨by rfl,?yq25⟩) (by assumption) ?rq25;(case hq25=>exact (fun _ _ _ h=>h));(case yq25=>(intro w a;(try dsimp only at a);go_simp;(try with_reducible rfl))))
       (refine wpAnyH_take (i:=15) (oi:=_) (v:=?vq26) (by simp only [List.getElem?_toArray,List.getElem?_cons_succ,List.getElem?_cons_zero];rfl) (by kernel_rfl) (by kernel_rfl) (by kernel_rfl) ?hq26 (Or.inl ⟨by rfl,?yq26⟩) (by assumption) ?rq26;(case hq26=>exact (fun _ _ _ h=>h));(case yq26=>(intro w a;(try dsimp only at a);go_simp;(try with_reducible rfl))))
       (refine wpAnyH_take (i:=19) (oi:=_) (v:=?vq27) (by simp only [List.getElem?_toArray,List.getElem?_cons_succ,List.getElem?_cons_zero];rfl) (by kernel_rfl) (by kernel_rfl) (by kernel_rfl) ?hq27 (Or.inl ⟨by rfl,?yq27⟩) (by assumption) ?rq27;(case hq27=>exact (fun _ _ _ h=>h));(case yq27=>(intro w a;(try dsimp only at a);go_simp;(try with_reducible rfl))))
       (refine wpAnyH_take (i:=20) (oi:=_) (v:=?vq28) (by simp only [List.getElem?_toArray,List.getElem?_cons_succ,List.getElem?_cons_zero];rfl) (by kernel_rfl) (by kernel_rfl) (by kernel_rfl) ?hq28 (Or.inl ⟨by rfl,?yq28⟩) (by assumption) ?rq28;(case hq28=>exact (fun _ _ _ h=>h));(case yq28=>(intro w a;(try dsimp only at a);go_simp;(try with_reducible rfl))))
       simp only [Act.put,List.setIfInBounds_toArray]
       refine wpAnyH_done (by kernel_rfl) ?_ _
       go_wp2;go_ret
       exact wI (s:=C4) M (Nat.le_trans z4 (by decide)) (uU R U G n)
end Go.Proofs.YtomiclakhjncbaaGreatDoor
