import Derived.Test.YtomiclakhjncbaaGreatDoorJT4a
namespace Go.Proofs.YtomiclakhjncbaaGreatDoor
open Go.RowKit Go.Proofs.Tryz
set_option maxRecDepth 100000
set_option maxHeartbeats 12800000
theorem Y0 {b:Nat} {k:Option Addr} {l:Nat} {zs:List Int} {a:Ac} {t:Int} {c:Cs} {v:Value} {w:World} (h:DS b k l zs a t c [] v w) (hb:0<=c.bk/\c.bk<=1000000000000) (L:0<=c.cl/\c.cl<=1000000000000) (W:0<=c.fee/\c.fee<=1000000) :
  Calls prog 296 #[.pointer (some (qzA b 0))] w (DR b k l zs a t w (qzI (if Bv t c.due=true then 0 else 4)) (if Bv t c.due=true then Cx c else c) (if Bv t c.due=true then Ck c else [])):=by
 have D:Hid (DS b k l zs a t c [] v w):=h;have F:Hid (b<w.heap.size):=h.lt
 have A:Hid (Calls prog 318 #[.pointer (some (qzA b 0))] w fun e w'=>e=.returned (.bool (Bv t c.due))/\BW w w'):=Hn h
 clear h
 cases hl:Bv t c.due
 ·rw [hl] at A
  clear hl
  rw [if_neg (by decide),if_neg (by decide),if_neg (by decide)]
  go_enter func296,ntmps296
  go_wp2_with fail
  refine Calls.mono A.o ?_;rintro e n ⟨rfl,d⟩;have p:Hid (BW w n):=d;clear d;go_wp2;go_ret;exact ⟨rfl,⟨v,D.o.below p.o⟩,p.o.mono (Nat.le_of_lt F.o)⟩
 rw [hl] at A;clear hl;rw [if_pos rfl,if_pos rfl,if_pos rfl];obtain ⟨s,hs⟩:∃ s,c.st=s:=⟨_,rfl⟩
 by_cases h1:s=1
 ·have B:Hid (Cx c=J9 c):=by rw [Hid,Cx,hs,if_pos h1]
  have G:Hid (Ck c=[]):=by rw [Hid,Ck,hs,if_pos h1]
  have H:Hid _:=hs;subst h1;rw [B.o,G.o];clear hs hb L W
  go_enter func296,ntmps296
  go_wp2_with fail
  refine Calls.mono A.o ?_;rintro e n ⟨rfl,d⟩;have p:Hid (BW w n):=d;have h:=D.o.below d;have c4:=h.db.cb.f4
  simp only [Nat.zero_add] at c4
  rw [H.o] at c4;have q:Hid (DS b k l zs a t c [] v n):=h;clear d h;go_wp2_with fail
  refine (Lj q.o).mono ?_;rintro e C ⟨rfl,j,m⟩;have i:Hid _:=j;have f:Hid (Below b w C):=(p.o.mono (Nat.le_of_lt F.o)).trans m;clear j m;go_wp2;go_ret;exact ⟨rfl,i.o,f.o⟩
 have R:=Ay h1
 by_cases h5:s=5
 ·have B:Hid (Cx c=I5 c c.cl):=by rw [Hid,Cx,hs,if_neg h1,if_pos h5]
  have G:Hid (Ck c=Bg c c.cl):=by rw [Hid,Ck,hs,if_neg h1,if_pos h5]
  have H:Hid _:=hs;subst h5;rw [B.o,G.o];clear hs h1 R
  go_enter func296,ntmps296
  go_wp2_with fail
  refine Calls.mono A.o ?_;rintro e n ⟨rfl,d⟩;have p:Hid (BW w n):=d;have h:=D.o.below d;have c4:=h.db.cb.f4
  simp only [Nat.zero_add] at c4
  rw [H.o] at c4;have q:Hid (DS b k l zs a t c [] v n):=h;clear d h;go_wp2_with fail
  refine (Rl q.o hb L).mono ?_;rintro e C ⟨rfl,j,m⟩;have i:Hid _:=j;have f:Hid (Below b w C):=(p.o.mono (Nat.le_of_lt F.o)).trans m;clear j m;go_wp2;go_ret;exact ⟨rfl,i.o,f.o⟩
 have a5:=Ay h5
 by_cases h6:s=6
 ·have B:Hid (Cx c=Es c (c.cl / 2)):=by rw [Hid,Cx,hs,if_neg h1,if_neg h5,if_pos h6]
  have G:Hid (Ck c=Dg c (c.cl / 2)):=by rw [Hid,Ck,hs,if_neg h1,if_neg h5,if_pos h6]
  have H:Hid _:=hs;subst h6;rw [B.o,G.o]
  have HR:Hid (∀ u,DS b k l zs a t c [] v u->Calls prog 325 #[.pointer (some (qzA b 0)),qzI (c.cl / 2)] u (DR b k l zs a t u (qzI 0) (Es c (c.cl / 2)) (Dg c (c.cl / 2)))):=fun u hu=>O6 hu (c.cl / 2) ⟨by omega,by omega⟩ hb W
  have HT:Hid (c.cl.tdiv 2=c.cl / 2):=Int.tdiv_eq_ediv_of_nonneg L.1;clear hs h1 R h5 a5 hb W
  go_enter func296,ntmps296
  go_wp2_with fail
  refine Calls.mono A.o ?_;rintro e n ⟨rfl,d⟩;have p:Hid (BW w n):=d;have h:=D.o.below d;have c4:=h.db.cb.f4;have c6:=h.db.cb.f6
  simp only [Nat.zero_add] at c4 c6
  rw [H.o] at c4;have q:Hid (DS b k l zs a t c [] v n):=h;clear d h;go_wp2_with fail
  try rw [HT.o]
  refine (HR.o _ q.o).mono ?_;rintro e C ⟨rfl,j,m⟩;have i:Hid _:=j;have f:Hid (Below b w C):=(p.o.mono (Nat.le_of_lt F.o)).trans m;clear j m;go_wp2;go_ret;exact ⟨rfl,i.o,f.o⟩
 have a9:=Ay h6
 ·have B:Hid (Cx c=I5 c 0):=by rw [Hid,Cx,hs,if_neg h1,if_neg h5,if_neg h6]
  have G:Hid (Ck c=[]):=by rw [Hid,Ck,hs,if_neg h1,if_neg h5,if_neg h6]
  have HZ:Hid (c.bk+0=c.bk):=Int.add_zero _;have H:Hid _:=hs;rw [B.o,G.o,I5,HZ.o];clear hs h1 h5 h6 hb L W
  go_enter func296,ntmps296
  go_wp2_with fail
  refine Calls.mono A.o ?_;rintro e n ⟨rfl,d⟩;have p:Hid (BW w n):=d;have h:=D.o.below d;have c4:=h.db.cb.f4
  simp only [Nat.zero_add] at c4
  rw [H.o] at c4;have q:Hid (DS b k l zs a t c [] v n):=h;clear d h;go_wp2_with fail
  refine (Pn q.o 8 (.inr (.inr rfl))).mono ?_;rintro e C ⟨rfl,j,m⟩;have i:Hid _:=j;have f:Hid (Below b w C):=(p.o.mono (Nat.le_of_lt F.o)).trans m;clear j m;go_wp2;go_ret;exact ⟨rfl,i.o,f.o⟩
theorem aE {b:Nat} {k:Option Addr} {l:Nat} {zs:List Int} {a:Ac} {t:Int} {c:Cs} {v:Value} {w:World} (h:DS b k l zs a t c [] v w) (hn:zs.length<=1099511627776) (hb:0<=c.bk/\c.bk<=1000000000000) (L:0<=c.cl/\c.cl<=1000000000000) :
  Calls prog 291 #[.pointer (some (qzA b 0))] w (DR b k l zs a t w (qzI (Dd c a t)) (if Dd c a t=0 then ⟨c.iss,c.acq,c.cur,c.am,4,c.rsn,a.am,c.bk - a.am,c.fee,c.cop,c.sta,C6 t 30 zs⟩ else c) (if Dd c a t=0 then Dw c a.am else [])):=by
 have D:Hid (DS b k l zs a t c [] v w):=h;have F:Hid (b<w.heap.size):=h.lt
 have A:Hid (Calls prog 322 #[.pointer (some (qzA b 0))] w fun e w'=>e=.returned (qzI (Dd c a t))/\BW w w'):=S2 h
 have HP:Hid (Dd c a t=0->1<=a.am/\a.am<=c.cl):=Sj;clear h;obtain ⟨r,hr⟩:∃ r,Dd c a t=r:=⟨_,rfl⟩;rw [hr] at A HP ⊢;clear hr
 by_cases h0:r=0
 ·subst h0
  rw [if_pos rfl,if_pos rfl];have hx:=HP.o rfl
  go_enter func291,ntmps291
  go_wp2_with fail
  refine Calls.mono A.o ?_;rintro e n ⟨rfl,d⟩;have h:=D.o.below d;have I:=h.db.a1;have c4:=h.db.cb.f4;have c6:=h.db.cb.f6;have z4:=h.db.fz.z4;have z6:=h.db.fz.z6
  simp only [Nat.zero_add] at c4 c6 z4 z6
  obtain ⟨V,U⟩:∃ V,V=(n.setCell (qzA b 4) (qzI 4)).setCell (qzA b 6) (qzI a.am):=⟨_,rfl⟩
  have B:Hid (DS b k l zs a t ⟨c.iss,c.acq,c.cur,c.am,4,c.rsn,a.am,c.bk,c.fee,c.cop,c.sta,c.due⟩ [] v V):=by rw [Hid,U];exact (h.set4 4).set6 a.am
  have N:Hid (Below b w V):=by rw [Hid,U];exact ((d.mono (Nat.le_of_lt F.o)).trans (Bn _ _ 4 _)).trans (Bn _ _ 6 _)
  have a7:Hid (b<V.heap.size):=B.o.lt;have O:Hid _:=U;clear d h U;go_upto_region 5 with fail
  rw [<- O.o];clear O I c4 c6 z4 z6
  have T:Hid (∀ u,BW V u->Calls prog 321 #[.pointer (some (qzA b 0)),qzI c.iss,qzI c.acq,qzI a.am] u (DR b k l zs a t u (.tuple #[]) ⟨c.iss,c.acq,c.cur,c.am,4,c.rsn,a.am,c.bk,c.fee,c.cop,c.sta,c.due⟩ (Dw c a.am))):=fun u hu=>by
   have g:=J1 (B.o.below hu) (Nat.zero_le _) c.iss c.acq a.am
   have e:H0 ⟨c.iss,c.acq,c.cur,c.am,4,c.rsn,a.am,c.bk,c.fee,c.cop,c.sta,c.due⟩ [] c.iss c.acq a.am=Dw c a.am:=aO (c:=c) (by omega)
   rw [e] at g;exact g
  have h:=B.o;have I:=h.db.a1;have c0:=h.db.cb.f0;have c1:=h.db.cb.f1
  simp only [Nat.zero_add] at c0 c1
  obtain ⟨E,hE⟩:∃ E,Dw c a.am=E:=⟨_,rfl⟩;rw [hE] at T;have a4:Hid _:=hE;clear h hE;have b0:BW V V:=bR
  go_cut [2] (fun M wc=>M=qzI 0/\(∃ vv,DS b k l zs a t ⟨c.iss,c.acq,c.cur,c.am,4,c.rsn,a.am,c.bk,c.fee,c.cop,c.sta,c.due⟩ E vv wc)/\Below b w wc)
  case first =>
   go_region_with (go_at_call 321;(first | with_reducible refine (T.o _ b0).mono ?_ | with_reducible refine (T.o _ b0.drew).mono ?_);rintro e C ⟨rfl,j,m⟩;(first | (have p:Hid (Below b w C):=N.o.trans m) | (have p:Hid (Below b w C):=(N.o.drew).trans m));have HD:Hid _:=j;clear j m)
   all_goals
    go_wp2_with fail
    go_meet;exact ⟨rfl,HD.o,p.o⟩
  case rest =>
   obtain ⟨rfl,⟨M,j⟩,m⟩:=hcut;have c7:=j.db.cb.f7;have y7:=j.db.fz.z7;have S:=j.db.a1
   simp only [Nat.zero_add] at c7 y7
   have i:Hid (DS b k l zs a t ⟨c.iss,c.acq,c.cur,c.am,4,c.rsn,a.am,c.bk,c.fee,c.cop,c.sta,c.due⟩ E M wc):=j;have f:Hid (Below b w wc):=m;obtain ⟨x,J⟩:∃ x,a.am=x:=⟨_,rfl⟩;obtain ⟨z,hz⟩:∃ z,c.bk=z:=⟨_,rfl⟩
   have HZ:Hid (z - x=c.bk - a.am):=by rw [Hid,hz,J]
   obtain ⟨y,hy⟩:∃ y,c.cl=y:=⟨_,rfl⟩;rw [hz] at c7 hb;rw [J] at S hx;rw [hy] at hx L;clear j m I c0 c1 J hz hy b0 T HP;obtain ⟨W2,a6⟩:∃ x,x=wc:=⟨_,rfl⟩;subst a6;go_upto_region 6 with fail
   go_cut [2] (fun M wc=>M=qzI 0/\(∃ vv,DS b k l zs a t ⟨c.iss,c.acq,c.cur,c.am,4,c.rsn,a.am,c.bk - a.am,c.fee,c.cop,c.sta,c.due⟩ E vv wc)/\Below b w wc)
   case first =>
    go_region
    all_goals
     go_wp2_with fail
     go_meet;refine ⟨rfl,⟨M,?_⟩,?_⟩
     ·rw [<- HZ.o]
      first
       | exact i.o.set7 (z - x)
       | exact (i.o.below (bR.drew)).set7 (z - x)
       | exact (i.o.set7 (z - x)).below (bR.drew)
     ·first
        | exact f.o.trans (Bn _ _ 7 _)
        | exact (f.o.drew).trans (Bn _ _ 7 _)
        | exact (f.o.trans (Bn _ _ 7 _)).drew
   case rest =>
    obtain ⟨rfl,⟨v3,D3⟩,b3⟩:=hcut;have Z:Hid (DS b k l zs a t ⟨c.iss,c.acq,c.cur,c.am,4,c.rsn,a.am,c.bk - a.am,c.fee,c.cop,c.sta,c.due⟩ E v3 wc):=D3;have X:Hid (Below b w wc):=b3;clear D3 b3 c7 y7 S;go_wp2_with fail
    refine (Is Z.o hn 1 30 rfl).mono ?_;rintro e w4 ⟨rfl,D4,b4⟩;have a3:Hid _:=D4;have Y:Hid (Below b w w4):=X.o.trans b4;clear D4 b4;go_wp2;go_ret
    exact ⟨rfl,by rw [a4.o];exact a3.o,Y.o⟩
 ·rw [if_neg h0,if_neg h0]
  have a8:(r != 0)=true:=by simpa using h0
  clear h0
  go_enter func291,ntmps291
  go_wp2_with fail
  refine Calls.mono A.o ?_;rintro e n ⟨rfl,d⟩;have p:Hid (BW w n):=d;clear d;go_wp2;go_ret;exact ⟨rfl,⟨v,D.o.below p.o⟩,p.o.mono (Nat.le_of_lt F.o)⟩
end Go.Proofs.YtomiclakhjncbaaGreatDoor
