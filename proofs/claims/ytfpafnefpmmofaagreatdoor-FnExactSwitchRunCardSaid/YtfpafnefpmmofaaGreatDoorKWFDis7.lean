import Derived.Test.YtfpafnefpmmofaaGreatDoorJW5a
namespace Go.Proofs.YtfpafnefpmmofaaGreatDoor
open Go.RowKit Go.Proofs.Tryz
set_option maxRecDepth 100000
set_option maxHeartbeats 12800000
theorem lO {c:Cs} {a:Ac} {t:Int} {zs:List Int} (h:Ce c a t zs=0):1<=a.am/\a.am<=c.am:=by
 unfold Ce at h
 split at h
 ·cases h
 ·split at h
  ·cases h
  ·rename_i g
   exact Decidable.byContradiction λk=>g (.inl k)
theorem lT {b:Nat} {ao:qm} {l:Nat} {zs:List Int} {a:Ac} {t:Int} {c:Cs} {v:Value} {w:ql} (h:DS b ao l zs a t c [] v w) (hn:zs.length<=1099511627776) :
  qi 292 #[qh b] w (DR b ao l zs a t w (qzI (Ce c a t zs)) (if Ce c a t zs=0 then ⟨c.iss,c.acq,c.cur,c.am,3,a.rsn,a.am,a.am,c.fee,c.cop,c.sta,Dt t 30 zs⟩ else c) (if Ce c a t zs=0 then Ck c a.am else [])):=by
 have S:=Aa h;have T:=Aa h.lt;have L:=Aa (Zc h hn);have HP:qj (Ce c a t zs=0->1<=a.am/\a.am<=c.am):=lO;clear h;obtain ⟨r,hr⟩:=Ae (Ce c a t zs);rw [hr] at L HP ⊢;clear hr
 by_cases h0:r=0
 ·subst h0
  rw [if_pos rfl,if_pos rfl];have hx:=HP.o rfl
  go_enter func292,ntmps292
  go_wp2_with fail
  refine Calls.m L.o ?_;rintro e w1 ⟨rfl,i⟩;have h:=S.o.below i;have M:=h.db.a2;have c4:=h.db.cb.f4;have c5:=h.db.cb.f5;have z4:=h.db.fz.z4;have z5:=h.db.fz.z5
  simp only [qu] at c4 c5 z4 z5
  obtain ⟨V,B⟩:=A0 ((w1.setCell (qzA b 4) (qzI 3)).setCell (qzA b 5) (qzI a.rsn))
  have A:qj (DS b ao l zs a t ⟨c.iss,c.acq,c.cur,c.am,3,a.rsn,c.cl,c.bk,c.fee,c.cop,c.sta,c.due⟩ [] v V):=by rw [qj,B];exact (h.set4 3).set5 a.rsn
  have d:qj (Below b w V):=by rw [qj,B];exact ((i.m (jb T.o)).t (Bv _ _ 4 _)).t (Bv _ _ 5 _)
  have z:qj _:=B;clear i h B;go_upto_region 5 with fail
  rw [<- z.o];clear z M c4 c5 z4 z5;have h:=A.o;have f:=h.db.a1;have c6:=h.db.cb.f6;have c7:=h.db.cb.f7;have z6:=h.db.fz.z6;have z7:=h.db.fz.z7
  simp only [qu] at c6 c7 z6 z7
  clear h
  go_cut [2] (λC wc=>C=qzI 0/\(∃ vv,DS b ao l zs a t ⟨c.iss,c.acq,c.cur,c.am,3,a.rsn,a.am,a.am,c.fee,c.cop,c.sta,c.due⟩ [] vv wc)/\Below b w wc)
  case first =>
   go_region
   all_goals
    go_wp2_with fail
    go_meet;refine ⟨rfl,⟨v,?_⟩,?_⟩
    ·first
       | exact (A.o.set6 a.am).set7 a.am
       | exact ((A.o.below (bR.drew)).set6 a.am).set7 a.am
       | exact ((A.o.set6 a.am).set7 a.am).below (bR.drew)
    ·first
       | exact (d.o.t (Bv _ _ 6 _)).t (Bv _ _ 7 _)
       | exact ((d.o.drew).t (Bv _ _ 6 _)).t (Bv _ _ 7 _)
       | exact ((d.o.t (Bv _ _ 6 _)).t (Bv _ _ 7 _)).drew
  case rest =>
   obtain ⟨rfl,⟨C,p⟩,j⟩:=hcut;obtain ⟨U,hU⟩:=A0 wc;subst hU;have y:=Aa p;have x:=Aa j;clear j p f c6 c7 z6 z7
   have J:qj (∀ u,BW U u->qi 323 #[qh b,qzI c.acq,qzI c.iss,qzI a.am] u (DR b ao l zs a t u (.tuple #[]) ⟨c.iss,c.acq,c.cur,c.am,3,a.rsn,a.am,a.am,c.fee,c.cop,c.sta,c.due⟩ (Ck c a.am))):=λu hu=>by
    have g:=Od (y.o.below hu) (qw _) c.acq c.iss a.am
    have e:Ku ⟨c.iss,c.acq,c.cur,c.am,3,a.rsn,a.am,a.am,c.fee,c.cop,c.sta,c.due⟩ [] c.acq c.iss a.am=Ck c a.am:=O0 (c:=c) (by omega)
    rw [e] at g;exact g
   have h:=y.o;have f:=h.db.a1;have c0:=h.db.cb.f0;have c1:=h.db.cb.f1
   simp only [qu] at c0 c1
   obtain ⟨E,N⟩:=Ae (Ck c a.am);rw [N] at J;have I:qj _:=N;clear h N;have W:BW U U:=bR;go_upto_region 6 with fail
   go_cut [2] (λC wc=>C=qzI 0/\(∃ vv,DS b ao l zs a t ⟨c.iss,c.acq,c.cur,c.am,3,a.rsn,a.am,a.am,c.fee,c.cop,c.sta,c.due⟩ E vv wc)/\Below b w wc)
   case first =>
    go_region_with (go_at_call 323;(first|with_reducible refine (J.o _ W).m ?_|with_reducible refine (J.o _ W.drew).m ?_);rintro e w2 ⟨rfl,p,j⟩;(first|(have s:=Aa (x.o.t j))|(have s:=Aa ((x.o.drew).t j)));have HD:qj _:=p;clear p j)
    all_goals
     go_wp2_with fail
     go_meet;exact ⟨rfl,HD.o,s.o⟩
   case rest =>
    obtain ⟨rfl,⟨v3,O⟩,X⟩:=hcut;have G:=Aa O;have D:=Aa X;clear O X c0 c1 f;go_wp2_with fail
    refine (Ls G.o hn 0 30 rfl).m ?_;rintro e w4 ⟨rfl,R,Y⟩;have H:qj _:=R;have F:=Aa (D.o.t Y);clear R Y;go_wp2;go_ret
    exact ⟨rfl,by rw [I.o];exact H.o,F.o⟩
 ·rw [if_neg h0,if_neg h0]
  have a3:(r != 0)=true:=by simpa using h0
  clear h0
  go_enter func292,ntmps292
  go_wp2_with fail
  refine Calls.m L.o ?_;rintro e w1 ⟨rfl,i⟩;have s:=Aa i;clear i;go_wp2;go_ret;exact ⟨rfl,⟨v,S.o.below s.o⟩,s.o.m (jb T.o)⟩
theorem Ack {st k:Int} (h:st<0\/6<st):Fi st k=false:=by
 cases e:Fi st k
 ·rfl
 ·have:=Ol e;omega
theorem Abo (k st:Int) (w:ql):qi 261 #[qzI k,qzI st] w λe w'=>e=.returned (.bool (Fi st k))/\w'=w:=by
 obtain ⟨q,n⟩:=Ae (Fi st k);rw [n]
 by_cases hs:st<0\/6<st
 ·rw [Ack hs] at n
  have g0:(st == 0)=false:=A8 (by omega)
  have g1:(st == 1)=false:=A8 (by omega)
  have g2:(st == 2)=false:=A8 (by omega)
  have g3:(st == 3)=false:=A8 (by omega)
  have g4:(st == 4)=false:=A8 (by omega)
  have g5:(st == 5)=false:=A8 (by omega)
  have g6:(st == 6)=false:=A8 (by omega)
  clear hs;subst n
  go_enter func261,ntmps261
  go_wp2;go_ret;exact ⟨rfl,rfl⟩
 ·by_cases hk:k<0\/9<k
  ·have Z:Fi st k=false:=by
     cases e:Fi st k
     ·rfl
     ·have:=Ol e;omega
   rw [Z] at n
   have g0:(k == 0)=false:=A8 (by omega)
   have g1:(k == 1)=false:=A8 (by omega)
   have g2:(k == 2)=false:=A8 (by omega)
   have g3:(k == 3)=false:=A8 (by omega)
   have g4:(k == 4)=false:=A8 (by omega)
   have g5:(k == 5)=false:=A8 (by omega)
   have g6:(k == 6)=false:=A8 (by omega)
   have g7:(k == 7)=false:=A8 (by omega)
   have g8:(k == 8)=false:=A8 (by omega)
   have g9:(k == 9)=false:=A8 (by omega)
   clear hk Z;subst n
   rcases (show st=0\/st=1\/st=2\/st=3\/st=4\/st=5\/st=6 by omega) with rfl|rfl|rfl|rfl|rfl|rfl|rfl
   all_goals
    clear hs
    go_enter func261,ntmps261
    go_wp2;go_ret;exact ⟨rfl,rfl⟩
  ·rcases (show st=0\/st=1\/st=2\/st=3\/st=4\/st=5\/st=6 by omega) with rfl|rfl|rfl|rfl|rfl|rfl|rfl
   all_goals
    rcases (show k=0\/k=1\/k=2\/k=3\/k=4\/k=5\/k=6\/k=7\/k=8\/k=9 by omega) with rfl|rfl|rfl|rfl|rfl|rfl|rfl|rfl|rfl|rfl
    all_goals
     clear hs hk;subst n
     go_enter func261,ntmps261
     go_wp2;go_ret;exact ⟨rfl,rfl⟩
end Go.Proofs.YtfpafnefpmmofaaGreatDoor
