import Derived.Test.YtfpafnefpmmofaaGreatDoorJW4a
namespace Go.Proofs.YtfpafnefpmmofaaGreatDoor
open Go.RowKit Go.Proofs.Tryz
set_option maxRecDepth 100000
set_option maxHeartbeats 12800000
theorem nU {b:Nat} {ao:qm} {A:Nat} {zs:List Int} {a:Ac} {t:Int} {c:Cs} {v:Value} {w:ql} (h:DS b ao A zs a t c [] v w) (hb:0<=c.bk/\c.bk<=1000000000000) (J:0<=c.cl/\c.cl<=1000000000000) (U:0<=c.fee/\c.fee<=1000000) :
  qi 298 #[qh b] w (DR b ao A zs a t w (qzI (if Cr t c.due=true then 0 else 4)) (if Cr t c.due=true then De c else c) (if Cr t c.due=true then C6 c else [])):=by
 have B:=Aa h;have C:=Aa h.lt;have p:=Aa (Jv h);clear h
 cases hl:Cr t c.due
 ·rw [hl] at p
  clear hl
  rw [if_neg (by decide),if_neg (by decide),if_neg (by decide)]
  go_enter func298,ntmps298
  go_wp2_with fail
  refine Calls.m p.o ?_;rintro e I ⟨rfl,d⟩;have l:=Aa d;clear d;go_wp2;go_ret;exact ⟨rfl,⟨v,B.o.below l.o⟩,l.o.m (jb C.o)⟩
 rw [hl] at p;clear hl;rw [if_pos rfl,if_pos rfl,if_pos rfl];obtain ⟨s,hs⟩:=Ae c.st
 by_cases h1:s=1
 ·have q:qj (De c=Oe c):=by rw [qj,De,hs,if_pos h1]
  have D:qj (C6 c=[]):=by rw [qj,C6,hs,if_pos h1]
  have F:qj _:=hs;subst h1;rw [q.o,D.o];clear hs hb J U
  go_enter func298,ntmps298
  go_wp2_with fail
  refine Calls.m p.o ?_;rintro e I ⟨rfl,d⟩;have l:=Aa d;have h:=B.o.below d;have c4:=h.db.cb.f4
  simp only [qu] at c4
  rw [F.o] at c4;have n:=Aa h;clear d h;go_wp2_with fail
  refine (Qf n.o).m ?_;rintro e W ⟨rfl,j,k⟩;have i:qj _:=j;have f:=Aa ((l.o.m (jb C.o)).t k);clear j k;go_wp2;go_ret;exact ⟨rfl,i.o,f.o⟩
 have N:=A8 h1
 by_cases h5:s=5
 ·have q:qj (De c=Mr c c.cl):=by rw [qj,De,hs,if_neg h1,if_pos h5]
  have D:qj (C6 c=Ck c c.cl):=by rw [qj,C6,hs,if_neg h1,if_pos h5]
  have F:qj _:=hs;subst h5;rw [q.o,D.o];clear hs h1 N
  go_enter func298,ntmps298
  go_wp2_with fail
  refine Calls.m p.o ?_;rintro e I ⟨rfl,d⟩;have l:=Aa d;have h:=B.o.below d;have c4:=h.db.cb.f4
  simp only [qu] at c4
  rw [F.o] at c4;have n:=Aa h;clear d h;go_wp2_with fail
  refine (Xv n.o hb J).m ?_;rintro e W ⟨rfl,j,k⟩;have i:qj _:=j;have f:=Aa ((l.o.m (jb C.o)).t k);clear j k;go_wp2;go_ret;exact ⟨rfl,i.o,f.o⟩
 have a5:=A8 h5
 by_cases h6:s=6
 ·have q:qj (De c=Gp c (c.cl / 2)):=by rw [qj,De,hs,if_neg h1,if_neg h5,if_pos h6]
  have D:qj (C6 c=Fc c (c.cl / 2)):=by rw [qj,C6,hs,if_neg h1,if_neg h5,if_pos h6]
  have F:qj _:=hs;subst h6;rw [q.o,D.o]
  have HR:qj (∀ u,DS b ao A zs a t c [] v u->qi 327 #[qh b,qzI (c.cl / 2)] u (DR b ao A zs a t u (qzI 0) (Gp c (c.cl / 2)) (Fc c (c.cl / 2)))):=λu hu=>Tt hu (c.cl / 2) ⟨by omega,by omega⟩ hb U
  have HT:qj (c.cl.tdiv 2=c.cl / 2):=Int.tdiv_eq_ediv_of_nonneg J.1;clear hs h1 N h5 a5 hb U
  go_enter func298,ntmps298
  go_wp2_with fail
  refine Calls.m p.o ?_;rintro e I ⟨rfl,d⟩;have l:=Aa d;have h:=B.o.below d;have c4:=h.db.cb.f4;have c6:=h.db.cb.f6
  simp only [qu] at c4 c6
  rw [F.o] at c4;have n:=Aa h;clear d h;go_wp2_with fail
  try rw [HT.o]
  refine (HR.o _ n.o).m ?_;rintro e W ⟨rfl,j,k⟩;have i:qj _:=j;have f:=Aa ((l.o.m (jb C.o)).t k);clear j k;go_wp2;go_ret;exact ⟨rfl,i.o,f.o⟩
 have a9:=A8 h6
 ·have q:qj (De c=Mr c 0):=by rw [qj,De,hs,if_neg h1,if_neg h5,if_neg h6]
  have D:qj (C6 c=[]):=by rw [qj,C6,hs,if_neg h1,if_neg h5,if_neg h6]
  have HZ:qj (c.bk+0=c.bk):=Int.add_zero _;have F:qj _:=hs;rw [q.o,D.o,Mr,HZ.o];clear hs h1 h5 h6 hb J U
  go_enter func298,ntmps298
  go_wp2_with fail
  refine Calls.m p.o ?_;rintro e I ⟨rfl,d⟩;have l:=Aa d;have h:=B.o.below d;have c4:=h.db.cb.f4
  simp only [qu] at c4
  rw [F.o] at c4;have n:=Aa h;clear d h;go_wp2_with fail
  refine (U8 n.o 8 (.inr (.inr rfl))).m ?_;rintro e W ⟨rfl,j,k⟩;have i:qj _:=j;have f:=Aa ((l.o.m (jb C.o)).t k);clear j k;go_wp2;go_ret;exact ⟨rfl,i.o,f.o⟩
theorem lH {b:Nat} {ao:qm} {A:Nat} {zs:List Int} {a:Ac} {t:Int} {c:Cs} {v:Value} {w:ql} (h:DS b ao A zs a t c [] v w) (hn:zs.length<=1099511627776) (hb:0<=c.bk/\c.bk<=1000000000000) (J:0<=c.cl/\c.cl<=1000000000000) :
  qi 293 #[qh b] w (DR b ao A zs a t w (qzI (Ep c a t)) (if Ep c a t=0 then ⟨c.iss,c.acq,c.cur,c.am,4,c.rsn,a.am,c.bk - a.am,c.fee,c.cop,c.sta,Dt t 30 zs⟩ else c) (if Ep c a t=0 then Ez c a.am else [])):=by
 have B:=Aa h;have C:=Aa h.lt;have p:=Aa (aW h);have HP:qj (Ep c a t=0->1<=a.am/\a.am<=c.cl):=Zu;clear h;obtain ⟨r,hr⟩:=Ae (Ep c a t);rw [hr] at p HP ⊢;clear hr
 by_cases h0:r=0
 ·subst h0
  rw [if_pos rfl,if_pos rfl];have hx:=HP.o rfl
  go_enter func293,ntmps293
  go_wp2_with fail
  refine Calls.m p.o ?_;rintro e I ⟨rfl,d⟩;have h:=B.o.below d;have G:=h.db.a1;have c4:=h.db.cb.f4;have c6:=h.db.cb.f6;have z4:=h.db.fz.z4;have z6:=h.db.fz.z6
  simp only [qu] at c4 c6 z4 z6
  obtain ⟨V,T⟩:=A0 ((I.setCell (qzA b 4) (qzI 4)).setCell (qzA b 6) (qzI a.am))
  have q:qj (DS b ao A zs a t ⟨c.iss,c.acq,c.cur,c.am,4,c.rsn,a.am,c.bk,c.fee,c.cop,c.sta,c.due⟩ [] v V):=by rw [qj,T];exact (h.set4 4).set6 a.am
  have L:qj (Below b w V):=by rw [qj,T];exact ((d.m (jb C.o)).t (Bv _ _ 4 _)).t (Bv _ _ 6 _)
  have a7:=Aa q.o.lt;have M:qj _:=T;clear d h T;go_upto_region 5 with fail
  rw [<- M.o];clear M G c4 c6 z4 z6
  have S:qj (∀ u,BW V u->qi 323 #[qh b,qzI c.iss,qzI c.acq,qzI a.am] u (DR b ao A zs a t u (.tuple #[]) ⟨c.iss,c.acq,c.cur,c.am,4,c.rsn,a.am,c.bk,c.fee,c.cop,c.sta,c.due⟩ (Ez c a.am))):=λu hu=>by
   have g:=Od (q.o.below hu) (qw _) c.iss c.acq a.am
   have e:Ku ⟨c.iss,c.acq,c.cur,c.am,4,c.rsn,a.am,c.bk,c.fee,c.cop,c.sta,c.due⟩ [] c.iss c.acq a.am=Ez c a.am:=nJ (c:=c) (by omega)
   rw [e] at g;exact g
  have h:=q.o;have G:=h.db.a1;have c0:=h.db.cb.f0;have c1:=h.db.cb.f1
  simp only [qu] at c0 c1
  obtain ⟨E,hE⟩:=Ae (Ez c a.am);rw [hE] at S;have a4:qj _:=hE;clear h hE;have b0:BW V V:=bR
  go_cut [2] (λO wc=>O=qzI 0/\(∃ vv,DS b ao A zs a t ⟨c.iss,c.acq,c.cur,c.am,4,c.rsn,a.am,c.bk,c.fee,c.cop,c.sta,c.due⟩ E vv wc)/\Below b w wc)
  case first =>
   go_region_with (go_at_call 323;(first|with_reducible refine (S.o _ b0).m ?_|with_reducible refine (S.o _ b0.drew).m ?_);rintro e W ⟨rfl,j,k⟩;(first|(have l:=Aa (L.o.t k))|(have l:=Aa ((L.o.drew).t k)));have HD:qj _:=j;clear j k)
   all_goals
    go_wp2_with fail
    go_meet;exact ⟨rfl,HD.o,l.o⟩
  case rest =>
   obtain ⟨rfl,⟨O,j⟩,k⟩:=hcut;have c7:=j.db.cb.f7;have y7:=j.db.fz.z7;have R:=j.db.a1
   simp only [qu] at c7 y7
   have i:=Aa j;have f:=Aa k;obtain ⟨x,H⟩:=Ae a.am;obtain ⟨z,hz⟩:=Ae c.bk
   have HZ:qj (z - x=c.bk - a.am):=by rw [qj,hz,H]
   obtain ⟨y,hy⟩:=Ae c.cl;rw [hz] at c7 hb;rw [H] at R hx;rw [hy] at hx J;clear j k G c0 c1 H hz hy b0 S HP;obtain ⟨W2,a6⟩:=A0 wc;subst a6;go_upto_region 6 with fail
   go_cut [2] (λO wc=>O=qzI 0/\(∃ vv,DS b ao A zs a t ⟨c.iss,c.acq,c.cur,c.am,4,c.rsn,a.am,c.bk - a.am,c.fee,c.cop,c.sta,c.due⟩ E vv wc)/\Below b w wc)
   case first =>
    go_region
    all_goals
     go_wp2_with fail
     go_meet;refine ⟨rfl,⟨O,?_⟩,?_⟩
     ·rw [<- HZ.o]
      first
       | exact i.o.set7 (z - x)
       | exact (i.o.below (bR.drew)).set7 (z - x)
       | exact (i.o.set7 (z - x)).below (bR.drew)
     ·first
        | exact f.o.t (Bv _ _ 7 _)
        | exact (f.o.drew).t (Bv _ _ 7 _)
        | exact (f.o.t (Bv _ _ 7 _)).drew
   case rest =>
    obtain ⟨rfl,⟨v3,D3⟩,b3⟩:=hcut;have Z:=Aa D3;have X:=Aa b3;clear D3 b3 c7 y7 R;go_wp2_with fail
    refine (Ls Z.o hn 1 30 rfl).m ?_;rintro e w4 ⟨rfl,D4,b4⟩;have a3:qj _:=D4;have Y:=Aa (X.o.t b4);clear D4 b4;go_wp2;go_ret
    exact ⟨rfl,by rw [a4.o];exact a3.o,Y.o⟩
 ·rw [if_neg h0,if_neg h0]
  have a8:(r != 0)=true:=by simpa using h0
  clear h0
  go_enter func293,ntmps293
  go_wp2_with fail
  refine Calls.m p.o ?_;rintro e I ⟨rfl,d⟩;have l:=Aa d;clear d;go_wp2;go_ret;exact ⟨rfl,⟨v,B.o.below l.o⟩,l.o.m (jb C.o)⟩
end Go.Proofs.YtfpafnefpmmofaaGreatDoor
