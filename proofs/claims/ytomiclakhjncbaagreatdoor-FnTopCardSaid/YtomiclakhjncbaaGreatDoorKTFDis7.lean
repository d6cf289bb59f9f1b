import Derived.Test.YtomiclakhjncbaaGreatDoorJT5a
namespace Go.Proofs.YtomiclakhjncbaaGreatDoor
open Go.RowKit Go.Proofs.Tryz
set_option maxRecDepth 100000
set_option maxHeartbeats 12800000
theorem Yy {c:Cs} {a:Ac} {t:Int} {zs:List Int} (h:Bs c a t zs=0):1<=a.am/\a.am<=c.am:=by
 unfold Bs at h
 split at h
 ·cases h
 ·split at h
  ·cases h
  ·rename_i g
   exact Decidable.byContradiction fun k=>g (.inl k)
theorem Yw {b:Nat} {d:Option Addr} {f:Nat} {zs:List Int} {a:Ac} {t:Int} {c:Cs} {v:Value} {w:World} (h:DS b d f zs a t c [] v w) (hn:zs.length<=1099511627776) :
  Calls prog 290 #[.pointer (some (qzA b 0))] w (DR b d f zs a t w (qzI (Bs c a t zs)) (if Bs c a t zs=0 then ⟨c.iss,c.acq,c.cur,c.am,3,a.rsn,a.am,a.am,c.fee,c.cop,c.sta,C6 t 30 zs⟩ else c) (if Bs c a t zs=0 then Bg c a.am else [])):=by
 have W:Hid (DS b d f zs a t c [] v w):=h;have X:Hid (b<w.heap.size):=h.lt
 have M:Hid (Calls prog 320 #[.pointer (some (qzA b 0))] w fun e w'=>e=.returned (qzI (Bs c a t zs))/\BW w w'):=Rw h hn
 have HP:Hid (Bs c a t zs=0->1<=a.am/\a.am<=c.am):=Yy;clear h;obtain ⟨r,hr⟩:∃ r,Bs c a t zs=r:=⟨_,rfl⟩;rw [hr] at M HP ⊢;clear hr
 by_cases h0:r=0
 ·subst h0
  rw [if_pos rfl,if_pos rfl];have hx:=HP.o rfl
  go_enter func290,ntmps290
  go_wp2_with fail
  refine Calls.mono M.o ?_;rintro e R ⟨rfl,l⟩;have h:=W.o.below l;have N:=h.db.a2;have c4:=h.db.cb.f4;have c5:=h.db.cb.f5;have z4:=h.db.fz.z4;have z5:=h.db.fz.z5
  simp only [Nat.zero_add] at c4 c5 z4 z5
  obtain ⟨V,D⟩:∃ V,V=(R.setCell (qzA b 4) (qzI 3)).setCell (qzA b 5) (qzI a.rsn):=⟨_,rfl⟩
  have C:Hid (DS b d f zs a t ⟨c.iss,c.acq,c.cur,c.am,3,a.rsn,c.cl,c.bk,c.fee,c.cop,c.sta,c.due⟩ [] v V):=by rw [Hid,D];exact (h.set4 3).set5 a.rsn
  have i:Hid (Below b w V):=by rw [Hid,D];exact ((l.mono (Nat.le_of_lt X.o)).trans (Bn _ _ 4 _)).trans (Bn _ _ 5 _)
  have A:Hid _:=D;clear l h D;go_upto_region 5 with fail
  rw [<- A.o];clear A N c4 c5 z4 z5;have h:=C.o;have j:=h.db.a1;have c6:=h.db.cb.f6;have c7:=h.db.cb.f7;have z6:=h.db.fz.z6;have z7:=h.db.fz.z7
  simp only [Nat.zero_add] at c6 c7 z6 z7
  clear h
  go_cut [2] (fun B wc=>B=qzI 0/\(∃ vv,DS b d f zs a t ⟨c.iss,c.acq,c.cur,c.am,3,a.rsn,a.am,a.am,c.fee,c.cop,c.sta,c.due⟩ [] vv wc)/\Below b w wc)
  case first =>
   go_region
   all_goals
    go_wp2_with fail
    go_meet;refine ⟨rfl,⟨v,?_⟩,?_⟩
    ·first
       | exact (C.o.set6 a.am).set7 a.am
       | exact ((C.o.below (bR.drew)).set6 a.am).set7 a.am
       | exact ((C.o.set6 a.am).set7 a.am).below (bR.drew)
    ·first
       | exact (i.o.trans (Bn _ _ 6 _)).trans (Bn _ _ 7 _)
       | exact ((i.o.drew).trans (Bn _ _ 6 _)).trans (Bn _ _ 7 _)
       | exact ((i.o.trans (Bn _ _ 6 _)).trans (Bn _ _ 7 _)).drew
  case rest =>
   obtain ⟨rfl,⟨B,p⟩,m⟩:=hcut;obtain ⟨U,hU⟩:∃ x,x=wc:=⟨_,rfl⟩;subst hU;have z:Hid (DS b d f zs a t ⟨c.iss,c.acq,c.cur,c.am,3,a.rsn,a.am,a.am,c.fee,c.cop,c.sta,c.due⟩ [] B U):=p;have y:Hid (Below b w U):=m;clear m p j c6 c7 z6 z7
   have L:Hid (∀ u,BW U u->Calls prog 321 #[.pointer (some (qzA b 0)),qzI c.acq,qzI c.iss,qzI a.am] u (DR b d f zs a t u (.tuple #[]) ⟨c.iss,c.acq,c.cur,c.am,3,a.rsn,a.am,a.am,c.fee,c.cop,c.sta,c.due⟩ (Bg c a.am))):=fun u hu=>by
    have g:=J1 (z.o.below hu) (Nat.zero_le _) c.acq c.iss a.am
    have e:H0 ⟨c.iss,c.acq,c.cur,c.am,3,a.rsn,a.am,a.am,c.fee,c.cop,c.sta,c.due⟩ [] c.acq c.iss a.am=Bg c a.am:=Le (c:=c) (by omega)
    rw [e] at g;exact g
   have h:=z.o;have j:=h.db.a1;have c0:=h.db.cb.f0;have c1:=h.db.cb.f1
   simp only [Nat.zero_add] at c0 c1
   obtain ⟨E,O⟩:∃ E,Bg c a.am=E:=⟨_,rfl⟩;rw [O] at L;have J:Hid _:=O;clear h O;have Y:BW U U:=bR;go_upto_region 6 with fail
   go_cut [2] (fun B wc=>B=qzI 0/\(∃ vv,DS b d f zs a t ⟨c.iss,c.acq,c.cur,c.am,3,a.rsn,a.am,a.am,c.fee,c.cop,c.sta,c.due⟩ E vv wc)/\Below b w wc)
   case first =>
    go_region_with (go_at_call 321;(first | with_reducible refine (L.o _ Y).mono ?_ | with_reducible refine (L.o _ Y.drew).mono ?_);rintro e w2 ⟨rfl,p,m⟩;(first | (have s:Hid (Below b w w2):=y.o.trans m) | (have s:Hid (Below b w w2):=(y.o.drew).trans m));have HD:Hid _:=p;clear p m)
    all_goals
     go_wp2_with fail
     go_meet;exact ⟨rfl,HD.o,s.o⟩
   case rest =>
    obtain ⟨rfl,⟨v3,S⟩,Z⟩:=hcut;have H:Hid (DS b d f zs a t ⟨c.iss,c.acq,c.cur,c.am,3,a.rsn,a.am,a.am,c.fee,c.cop,c.sta,c.due⟩ E v3 wc):=S;have F:Hid (Below b w wc):=Z;clear S Z c0 c1 j;go_wp2_with fail
    refine (Is H.o hn 0 30 rfl).mono ?_;rintro e w4 ⟨rfl,T,b4⟩;have I:Hid _:=T;have G:Hid (Below b w w4):=F.o.trans b4;clear T b4;go_wp2;go_ret
    exact ⟨rfl,by rw [J.o];exact I.o,G.o⟩
 ·rw [if_neg h0,if_neg h0]
  have a3:(r != 0)=true:=by simpa using h0
  clear h0
  go_enter func290,ntmps290
  go_wp2_with fail
  refine Calls.mono M.o ?_;rintro e R ⟨rfl,l⟩;have s:Hid (BW w R):=l;clear l;go_wp2;go_ret;exact ⟨rfl,⟨v,W.o.below s.o⟩,s.o.mono (Nat.le_of_lt X.o)⟩
theorem lG {st k:Int} (h:st<0\/6<st):Dx st k=false:=by
 cases e:Dx st k
 ·rfl
 ·have:=Jt e;omega
theorem mO (k st:Int) (w:World):Calls prog 256 #[qzI k,qzI st] w fun e w'=>e=.returned (.bool (Dx st k))/\w'=w:=by
 obtain ⟨q,n⟩:∃ q,Dx st k=q:=⟨_,rfl⟩;rw [n]
 by_cases hs:st<0\/6<st
 ·rw [lG hs] at n
  have g0:(st == 0)=false:=Ay (by omega)
  have g1:(st == 1)=false:=Ay (by omega)
  have g2:(st == 2)=false:=Ay (by omega)
  have g3:(st == 3)=false:=Ay (by omega)
  have g4:(st == 4)=false:=Ay (by omega)
  have g5:(st == 5)=false:=Ay (by omega)
  have g6:(st == 6)=false:=Ay (by omega)
  clear hs;subst n
  go_enter func256,ntmps256
  go_wp2;go_ret;exact ⟨rfl,rfl⟩
 ·by_cases hk:k<0\/9<k
  ·have hf:Dx st k=false:=by
     cases e:Dx st k
     ·rfl
     ·have:=Jt e;omega
   rw [hf] at n
   have g0:(k == 0)=false:=Ay (by omega)
   have g1:(k == 1)=false:=Ay (by omega)
   have g2:(k == 2)=false:=Ay (by omega)
   have g3:(k == 3)=false:=Ay (by omega)
   have g4:(k == 4)=false:=Ay (by omega)
   have g5:(k == 5)=false:=Ay (by omega)
   have g6:(k == 6)=false:=Ay (by omega)
   have g7:(k == 7)=false:=Ay (by omega)
   have g8:(k == 8)=false:=Ay (by omega)
   have g9:(k == 9)=false:=Ay (by omega)
   clear hk hf;subst n
   rcases (show st=0\/st=1\/st=2\/st=3\/st=4\/st=5\/st=6 by omega) with rfl | rfl | rfl | rfl | rfl | rfl | rfl
   all_goals
    clear hs
    go_enter func256,ntmps256
    go_wp2;go_ret;exact ⟨rfl,rfl⟩
  ·rcases (show st=0\/st=1\/st=2\/st=3\/st=4\/st=5\/st=6 by omega) with rfl | rfl | rfl | rfl | rfl | rfl | rfl
   all_goals
    rcases (show k=0\/k=1\/k=2\/k=3\/k=4\/k=5\/k=6\/k=7\/k=8\/k=9 by omega) with rfl | rfl | rfl | rfl | rfl | rfl | rfl | rfl | rfl | rfl
    all_goals
     clear hs hk;subst n
     go_enter func256,ntmps256
     go_wp2;go_ret;exact ⟨rfl,rfl⟩
end Go.Proofs.YtomiclakhjncbaaGreatDoor
