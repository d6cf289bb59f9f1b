import Derived.Test.YtfpafnefpmmofaaGreatDoorKWSDo6
import Derived.Test.YtfpafnefpmmofaaGreatDoorKWBkPayS
import Derived.Test.YtfpafnefpmmofaaGreatDoorKWFDis7
import Derived.Test.YtfpafnefpmmofaaGreatDoorJW3c
set_option maxRecDepth 100000
set_option maxHeartbeats 12800000
namespace Go.Proofs.YtfpafnefpmmofaaGreatDoor
open Go.RowKit Go.Proofs.Tryz
def F0:Ii where
 prune:=Wr
 use:=Q3
 useOk:=useOk
 add:=Ps
 addOk:=addOk
 best:=Mp
 stC:=Mi
 stE:=Hf
 stOk:=λd f b am day=>Aq (Dp d f b am day)
 doC:=doC
 doE:=doE
 doV:=doV
 all:=Ke
 allOk:=allOk
theorem V4 (d f b am day:Int):(Hf d f b am day).length<=1:=by unfold Hf;split <;> simp
theorem pO:Vw F0 where
 use:=λao cap az i w h hn=>Ada ao cap az i w h (by omega)
 add:=λao cap az a w h hn hl=>oF ao cap az a w h hn (by omega)
 best:=λao cap az d b am day w h hn hd w3 w4=>uT ao cap az d b am day w h hn (λa ha=>by have:=hd a ha;omega) w3 w4
 start:=λd f b am day w=>kX d f b am day w
 small:=λd f b am day=>by have:=V4 d f b am day;show (Hf d f b am day).length<=1048576;omega
 act:=λc a t ao cp zs w h hn=>Aer c a t ao cp zs w h (by omega)
 few:=λc a t zs=>by have:=rV c a t zs;show (doE c a t zs).length<=1048576;omega
 code:=λc a t zs=>by have:=Ac4 c a t zs;show 0<=doV c a t zs/\doV c a t zs<=1000;omega
 post:=λao cap ls eo ec es w h hn hy hm=>dV ao cap ls eo ec es w h hn hy hm
def Ail (b:Bk) (n0 n1 n2 n3:Int) (r:Bk×Int):Prop:=∃ x,Mp b.az n0 n2 n3 b.today x/\r=Lx F0 b n0 n1 n2 n3 x
def Hw:Bk->qn->Bk×Int->Prop:=Em F0 Ail (Mc F0)
namespace Kb
theorem wI {ws:Bn} (h:(ws.drop 1).length=1):∃ a c,ws=[a,c]:=by
 match ws,h with
 | [a,c],_=>exact ⟨a,c,rfl⟩
theorem Qj {ws:Bn} (h:(ws.drop 1).length=4):∃ a c d e f,ws=[a,c,d,e,f]:=by
 match ws,h with
 | [a,c,d,e,f],_=>exact ⟨a,c,d,e,f,rfl⟩
theorem Sg {ws:Bn} (h:ws.length=5):∃ a c d e f,ws=[a,c,d,e,f]:=by
 match ws,h with
 | [a,c,d,e,f],_=>exact ⟨a,c,d,e,f,rfl⟩
theorem Adx {ws:Bn} (h:ws.length=2):∃ a c,ws=[a,c]:=by
 match ws,h with
 | [a,c],_=>exact ⟨a,c,rfl⟩
def Nr (ws:Bn):Prop:=B6 ws=true/\Ao ws 1=[]
theorem Ag4 {az:List Au} {n0 n1 n2 t:Int} : addOk az ⟨[],n0,n1,n2,t,false⟩=false:=by
 simp [addOk,I2,Nt]
theorem yO {ws:Bn} {t:qn} (h:Ao ws 0=t):(t≠F1->C7 ws=false)/\(t≠Eo->B6 ws=false)/\(t≠M7->Ed ws=false)/\(t≠S5->Ho ws=false):=by
 refine ⟨λe=>?_,λe=>?_,λe=>?_,λe=>?_⟩
 ·rw [C7,h,decide_eq_false e];rfl
 ·rw [B6,h,decide_eq_false e];rfl
 ·rw [Ed,h,decide_eq_false e];rfl
 ·rw [Ho,h,decide_eq_false e];rfl
def Agr (ws:Bn) (r l:Bk×Int):Prop:=r.1=l.1/\(r.2=l.2\/(r.2=1/\l.2=3/\Nr ws))
theorem Gz {ws:Bn} {r l:Bk×Int} (h:r=l):Agr ws r l:=by rw [h];exact ⟨rfl,.inl rfl⟩
theorem Aft {c:qn} : Ax [c]=decide (0<=Ah c):=by simp [Ax]
theorem iP {b:Bk} {i:qn} {r l:Bk×Int} (h:Hq F0 b (Ad i) r) (g:Hw b i l):Agr (Ad i) r l:=by
 unfold Hw Em at g;unfold Hq at h
 generalize Ad i=ws at h g ⊢
 by_cases h1:Ao ws 0=F1
 ·rw [if_pos h1] at h
  obtain ⟨-,z,n,k⟩:=yO h1
  have z:=z (by decide)
  have n:=n (by decide)
  have k:=k (by decide)
  by_cases hd:C7 ws=true
  ·rw [if_pos hd] at g
   have v:=hd
   simp only [C7,jf,decide_eq_true_eq] at v
   obtain ⟨-,p,q⟩:=v;obtain ⟨a,c,rfl⟩:=Adx p
   have e:eF F0 b ([a,c].drop 1)=Xu F0 b (Ah c):=if_pos ⟨by show Ax [c]=true;rw [Aft];exact decide_eq_true q,rfl⟩
   rw [e] at h;exact Gz (h.t g.s)
  ·rw [if_neg hd,if_neg (by rw [z];decide),if_neg (by rw [n];decide),if_neg (by rw [k];decide)] at g
   have e:eF F0 b (ws.drop 1)=(b,1):=if_neg (λ⟨e1,e2⟩=>hd (by
    obtain ⟨a,c,rfl⟩:=wI e2;have e3:Ax [c]=true:=e1;rw [Aft] at e3;have u:a=F1:=h1;subst u
    simp only [C7,jf,decide_eq_true_eq]
    exact ⟨rfl,rfl,by show 0<=Ah c;simpa using e3⟩))
   rw [e] at h;exact Gz (h.t g.s)
 rw [if_neg h1] at h
 have H:C7 ws=false:=by rw [C7,decide_eq_false h1];rfl
 rw [if_neg (by rw [H];decide)] at g
 by_cases p:Ao ws 0=Eo
 ·rw [if_pos p] at h
  obtain ⟨-,-,n,k⟩:=yO p
  have n:=n (by decide)
  have k:=k (by decide)
  by_cases ha:B6 ws=true
  ·rw [if_pos ha] at g
   have j:=ha
   simp only [B6,jf,decide_eq_true_eq] at j
   obtain ⟨a,c,d,e,f,rfl⟩:=Sg j.2
   by_cases hn:Ax [d,e,f]=true
   ·rw [if_pos (show Ax ([a,c,d,e,f].drop 2)=true from hn)] at g
    by_cases o:c=[]
    ·subst o
     have e1:Ko F0 b ([a,[],d,e,f].drop 1)=(b,1):=if_neg (λe=>e.2.1 rfl)
     have e2:Gy F0 b (Ao [a,[],d,e,f] 1) (Ah (Ao [a,[],d,e,f] 2)) (Ah (Ao [a,[],d,e,f] 3)) (Ah (Ao [a,[],d,e,f] 4))=(b,3):=pV F0 (show addOk b.az ⟨[],Ah d,Ah e,Ah f,b.today,false⟩=false from Ag4)
     rw [e1] at h;rw [e2] at g;subst h g;exact ⟨rfl,.inr ⟨rfl,rfl,ha,rfl⟩⟩
    ·have e1:Ko F0 b ([a,c,d,e,f].drop 1)=Gy F0 b c (Ah d) (Ah e) (Ah f):=if_pos ⟨rfl,o,hn⟩
     rw [e1] at h;exact Gz (h.t g.s)
   ·rw [if_neg (show ¬ Ax ([a,c,d,e,f].drop 2)=true from hn)] at g
    have e1:Ko F0 b ([a,c,d,e,f].drop 1)=(b,1):=if_neg (λe=>hn e.2.2)
    rw [e1] at h;exact Gz (h.t g.s)
  ·rw [if_neg ha,if_neg (by rw [n];decide),if_neg (by rw [k];decide)] at g
   have e:Ko F0 b (ws.drop 1)=(b,1):=if_neg (λ⟨e1,_⟩=>ha (by
    obtain ⟨a,c,d,e,f,rfl⟩:=Qj e1
    simp only [B6,jf,decide_eq_true_eq]
    exact ⟨p,rfl⟩))
   rw [e] at h;exact Gz (h.t g.s)
 rw [if_neg p] at h
 have z:B6 ws=false:=by rw [B6,decide_eq_false p];rfl
 rw [if_neg (by rw [z];decide)] at g
 by_cases q:Ao ws 0=M7
 ·rw [if_pos q] at h
  obtain ⟨-,-,-,k⟩:=yO q
  have k:=k (by decide)
  by_cases ha:Ed ws=true
  ·rw [if_pos ha] at g
   have j:=ha
   simp only [Ed,jf,decide_eq_true_eq] at j
   obtain ⟨a,c,d,e,f,rfl⟩:=Sg j.2;unfold Km at h
   by_cases hn:Ax [c,d,e,f]=true
   ·rw [if_pos (show Ax ([a,c,d,e,f].drop 1)=true from hn)] at g
    rw [if_pos ⟨hn,rfl⟩] at h;obtain ⟨x,G,rfl⟩:=h;obtain ⟨y,hy,rfl⟩:=g;have A:=kQ G hy;subst A;exact Gz rfl
   ·rw [if_neg (show ¬ Ax ([a,c,d,e,f].drop 1)=true from hn)] at g
    rw [if_neg (λe=>hn e.1)] at h
    exact Gz (h.t g.s)
  ·rw [if_neg ha,if_neg (by rw [k];decide)] at g
   unfold Km at h
   rw [if_neg (λ⟨_,e2⟩=>ha (by
    obtain ⟨a,c,d,e,f,rfl⟩:=Qj e2
    simp only [Ed,jf,decide_eq_true_eq]
    exact ⟨q,rfl⟩))] at h
   exact Gz (h.t g.s)
 rw [if_neg q] at h
 have n:Ed ws=false:=by rw [Ed,decide_eq_false q];rfl
 rw [if_neg (by rw [n];decide)] at g
 by_cases h4:Ao ws 0=S5
 ·rw [if_pos h4] at h
  by_cases ha:Ho ws=true
  ·rw [if_pos ha] at g
   have j:=ha
   simp only [Ho,jf,decide_eq_true_eq] at j
   obtain ⟨-,C,D⟩:=j;obtain ⟨a,c,d,e,f,rfl⟩:=Sg C
   by_cases hn:Ax [c,e,f]=true
   ·rw [if_pos (show Ax [Ao [a,c,d,e,f] 1,Ao [a,c,d,e,f] 3,Ao [a,c,d,e,f] 4]=true from hn)] at g
    have e1:Pt F0 b ([a,c,d,e,f].drop 1)=Mc F0 b (Ah c) ⟨Cp d,Ah e,Ah f⟩:=if_pos ⟨rfl,D,hn⟩;rw [e1] at h;exact Gz (h.t g.s)
   ·rw [if_neg (show ¬ Ax [Ao [a,c,d,e,f] 1,Ao [a,c,d,e,f] 3,Ao [a,c,d,e,f] 4]=true from hn)] at g
    have e1:Pt F0 b ([a,c,d,e,f].drop 1)=(b,1):=if_neg (λe=>hn e.2.2)
    rw [e1] at h;exact Gz (h.t g.s)
  ·rw [if_neg ha] at g
   have e:Pt F0 b (ws.drop 1)=(b,1):=if_neg (λ⟨e1,e2,_⟩=>ha (by
    obtain ⟨a,c,d,e,f,rfl⟩:=Qj e1
    simp only [Ho,jf,decide_eq_true_eq]
    exact ⟨h4,rfl,e2⟩))
   rw [e] at h;exact Gz (h.t g.s)
 rw [if_neg h4] at h
 have k:Ho ws=false:=by rw [Ho,decide_eq_false h4];rfl
 rw [if_neg (by rw [k];decide)] at g
 exact Gz (h.t g.s)
theorem Ws {b:Bk} {i:qn} {r l:Bk×Int} (h:Ip F0 b i r) (g:Ia Hw b i l):Agr (Ad i) r l:=by
 unfold Ip at h
 rcases g with ⟨B,rfl⟩|⟨B,s,hs,F⟩
 ·rw [if_pos B] at h
  exact Gz h
 ·rw [if_neg (by omega)] at h
  obtain ⟨r0,u,rfl⟩:=h;obtain ⟨e1,e2⟩:=iP u hs;have w:=Zx u
  rcases F with ⟨o,rfl⟩|⟨o,rfl⟩
  ·have m:r0.2≠0:=by
     rcases e2 with e2|⟨e2,_⟩
     ·rw [e2];exact o
     ·rw [e2];decide
   rw [if_neg m];exact ⟨eM u m,e2⟩
  ·have m:r0.2=0:=by
     rcases e2 with e2|⟨_,e3,_⟩
     ·rw [e2];exact o
     ·rw [e3] at o;exact absurd o (by decide)
   rw [if_pos m];refine Gz ?_
   simp only [Q8]
   rw [w,e1]
theorem Aef {c:Cs} {a:Ac} {t:Int} {zs:List Int} (h:doV c a t zs=0):Fm c t zs=true/\Fi c.st a.kind=true/\Cj c a t zs=0/\Aq (Ca c a t zs)=true:=by
 unfold doV at h
 split at h
 ·cases h
 ·rename_i i
  split at h
  ·cases h
  ·rename_i k
   split at h
   ·rename_i f;exact absurd h f
   ·rename_i f
    split at h
    ·rename_i l
     exact ⟨by simpa using i,by simpa using k,by simpa using f,l⟩
    ·cases h
theorem Ab9 {c:Int} (h:0<=D6 c):Bs c:=by
 refine Dd ?_
 have:=cJ h
 simp [I7] at this
 omega
theorem qR {c:Cs} (h:Aq c=true):Zg c:=by
 obtain ⟨i,k,-,f,l,n,g,o,p,q,j,d⟩:=Mz h
 simp [Gr,Cm] at i k
 have hd:=G6 j
 refine ⟨Dd (by omega),Dd (by omega),Ab9 f,Dd (by omega),Dd (by omega),Dd ?_,Dd (by omega),Dd (by omega),Dd (by omega),Dd (by omega),Dd ?_⟩
 ·simp only [Di,Bool.or_eq_true,jf,decide_eq_true_eq] at g
  rcases g with g|g
  ·simp [Ty] at g;omega
  ·omega
 ·rcases d with d|d
  ·have:=G6 d;omega
  ·omega
theorem aJ {az:List Au} {x:Int} {a:Au} (h:a ∈ Q3 az x):∃ b ∈ az,b.ref=a.ref/\b.cur=a.cur:=by
 unfold Q3 at h
 split at h
 ·rename_i m
  have hi:x.toNat<az.length:=by
   simp [useOk] at m;omega
  rcases List.mem_or_eq_of_mem_set h with h|h
  ·exact ⟨a,h,rfl,rfl⟩
  ·subst h
   exact ⟨Ch az x.toNat,by rw [Pn hi];exact List.getElem_mem hi,rfl,rfl⟩
 ·exact ⟨a,h,rfl,rfl⟩
end Kb
def F6 (b:Nat) (ao:qm) (d:Nat) (zs:List Int) (a:Ac) (t:Int) (c:Cs) (w:ql) (e:Ending) (w':ql):Prop :=
 DR b ao d zs a t w (qzI (Cj c a t zs)) (if Cj c a t zs=0 then Ca c a t zs else c) (if Cj c a t zs=0 then Cc c a else []) e w'
section
variable {b:Nat} {ao:qm} {d:Nat} {zs:List Int} {a:Ac} {t:Int} {c:Cs} {v:Value} {w:ql}
theorem Ga {f:FuncId} {r:Int} {n:Cs} {es:List En} {l:Cs} {j:List En} (g:Calls prog f #[qh b] w (DR b ao d zs a t w (qzI r) l j)) (m:Cj c a t zs=r) (o:Ca c a t zs=n) (p:Cc c a=es)
  (h4:l=if r=0 then n else c) (h5:j=if r=0 then es else []):Calls prog f #[qh b] w (F6 b ao d zs a t c w):=by
 subst m o p h4 h5;exact g
theorem Aik (h:DS b ao d zs a t c [] v w) (hn:zs.length<=1099511627776) (hk:a.kind=0):qi 290 #[qh b] w (F6 b ao d zs a t c w) :=
 Ga (Afk h hn) (by simp [Cj,hk]) (by simp [Ca,hk];rfl) (by simp [Cc,hk];rfl) (by rfl) (by rfl)
theorem Ah2 (h:DS b ao d zs a t c [] v w) (hk:a.kind=1):qi 291 #[qh b] w (F6 b ao d zs a t c w):=by
 refine Ga (Ab6 h) (show Cj c a t zs=if Cr t c.due=true then 4 else 0 by simp [Cj,hk]) (show Ca c a t zs=Oe c by simp [Ca,hk]) (show Cc c a=[] by simp [Cc,hk]) ?_ ?_
 ·cases Cr t c.due <;> simp
 ·simp
theorem Aie (h:DS b ao d zs a t c [] v w) (hn:zs.length<=1099511627776) (hk:a.kind=2):qi 292 #[qh b] w (F6 b ao d zs a t c w) :=
 Ga (lT h hn) (by simp [Cj,hk]) (by simp [Ca,hk]) (by simp [Cc,hk]) rfl rfl
theorem Ahv (h:DS b ao d zs a t c [] v w) (hn:zs.length<=1099511627776) (hb:0<=c.bk/\c.bk<=1000000000000) (i:0<=c.cl/\c.cl<=1000000000000) (hk:a.kind=3):qi 293 #[qh b] w (F6 b ao d zs a t c w) :=
 Ga (lH h hn hb i) (by simp [Cj,hk,Ep]) (by simp [Ca,hk]) (by simp [Cc,hk]) rfl rfl
theorem Aia (h:DS b ao d zs a t c [] v w) (hn:zs.length<=1099511627776) (hk:a.kind=4):qi 294 #[qh b] w (F6 b ao d zs a t c w) :=
 Ga (mV h hn) (by simp [Cj,hk,Ep]) (by simp [Ca,hk]) (show Cc c a=[] by simp [Cc,hk]) rfl (by simp)
theorem Aiv (h:DS b ao d zs a t c [] v w) (hb:0<=c.bk/\c.bk<=1000000000000) (i:0<=c.cl/\c.cl<=1000000000000) (hk:a.kind=5):qi 295 #[qh b] w (F6 b ao d zs a t c w) :=
 Ga (Xv h hb i) (by simp [Cj,hk]) (by simp [Ca,hk];rfl) (by simp [Cc,hk];rfl) (by rfl) (by rfl)
theorem Air (h:DS b ao d zs a t c [] v w) (hn:zs.length<=1099511627776) (hk:a.kind=6):qi 296 #[qh b] w (F6 b ao d zs a t c w):=by
 refine Ga (oJ h hn) (show Cj c a t zs=if Cr t c.due=true then 4 else 0 by simp [Cj,hk]) (show Ca c a t zs=⟨c.iss,c.acq,c.cur,c.am,6,c.rsn,c.cl,c.bk,c.fee,c.cop,c.sta,Dt t 60 zs⟩ by simp [Ca,hk]) (show Cc c a=[] by simp [Cc,hk]) ?_ ?_
 ·cases Cr t c.due <;> simp
 ·simp
theorem Ahu (h:DS b ao d zs a t c [] v w) (hb:0<=c.bk/\c.bk<=1000000000000) (i:0<=c.cl/\c.cl<=1000000000000) (k:0<=c.fee/\c.fee<=1000000) (hk:a.kind=7):qi 297 #[qh b] w (F6 b ao d zs a t c w):=by
 refine Ga (yX h hb i k) (show Cj c a t zs=if 0<=a.am/\a.am<=c.cl then 0 else 2 by simp [Cj,hk]) (show Ca c a t zs=Gp c a.am by simp [Ca,hk]) (show Cc c a=Fc c a.am by simp [Cc,hk]) ?_ ?_
 ·by_cases hx:0<=a.am/\a.am<=c.cl
  ·rw [if_pos hx,if_pos hx,if_pos rfl]
  ·rw [if_neg hx,if_neg hx,if_neg (by decide)]
 ·by_cases hx:0<=a.am/\a.am<=c.cl
  ·rw [if_pos hx,if_pos hx,if_pos rfl]
  ·rw [if_neg hx,if_neg hx,if_neg (by decide)]
theorem Aij (h:DS b ao d zs a t c [] v w) (hb:0<=c.bk/\c.bk<=1000000000000) (i:0<=c.cl/\c.cl<=1000000000000) (k:0<=c.fee/\c.fee<=1000000) (hk:a.kind=8):qi 298 #[qh b] w (F6 b ao d zs a t c w):=by
 refine Ga (nU h hb i k) (show Cj c a t zs=if Cr t c.due=true then 0 else 4 by simp [Cj,hk]) (show Ca c a t zs=De c by simp [Ca,hk]) (show Cc c a=C6 c by simp [Cc,hk]) ?_ ?_
 ·cases Cr t c.due <;> simp
 ·cases Cr t c.due <;> simp
theorem Ah8 (h:DS b ao d zs a t c [] v w) (hk:a.kind=9):qi 299 #[qh b] w (F6 b ao d zs a t c w) :=
 Ga (Ac7 h) (by simp [Cj,hk]) (by simp [Ca,hk];rfl) (show Cc c a=[] by simp [Cc,hk]) (by rfl) (by rfl)
end
def Aip (b:Bk):Prop:=Ld b/\(∀ a ∈ b.az,a.ref.length<=1048576)/\(Lit.int .i64 b.today).wf=true
theorem Afg {x:Int} (f:-1<=x) (d:x<=1000000000000000000):(Lit.int .i64 x).wf=true:=by
 simp [Lit.wf,IntKind.min,IntKind.max,IntKind.signed,IntKind.bits];omega
theorem Agz:eQ Aip Ail (Mc F0) where
 pay:=λb p g k n0 n1 n2 n3 w c _ hp c0 c1 c2 c3 f d=>(zR F0 pO b p g k n0 n1 n2 n3 w c hp.1 hp.2.1 hp.2.2 (Afg d (by omega)) c0 c1 c2 c3).m (by
  rintro e w' ⟨x,c,h⟩;exact ⟨_,⟨x,c,rfl⟩,h⟩)
 act:=λb p i x w c _ hp=>Aac F0 pO b p i x w c hp.1
theorem Adg (b:Bk) (l:qn) (r:Bk×Int) (h:Hw b l r):r.1.log=b.log:=by
 unfold Hw Em at h
 split at h
 ·rw [h];unfold Xu;split <;> rfl
 split at h
 ·split at h
  ·rw [h];unfold Gy;split <;> rfl
  ·rw [h]
 split at h
 ·split at h
  ·obtain ⟨x,-,rfl⟩:=h
   unfold Lx
   split
   ·rfl
   split
   ·rfl
   split
   ·rfl
   split <;> rfl
  ·rw [h]
 split at h
 ·split at h
  ·rw [h];unfold Mc
   split
   ·rfl
   split
   ·rfl
   split <;> rfl
  ·rw [h]
 ·rw [h]
end Go.Proofs.YtfpafnefpmmofaaGreatDoor
