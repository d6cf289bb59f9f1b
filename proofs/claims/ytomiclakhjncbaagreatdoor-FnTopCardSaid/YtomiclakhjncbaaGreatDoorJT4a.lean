import Derived.Test.YtomiclakhjncbaaGreatDoorKTKbAct
import Derived.Test.YtomiclakhjncbaaGreatDoorKTKbHand
import Derived.Test.YtomiclakhjncbaaGreatDoorKTSDo1
import Derived.Test.YtomiclakhjncbaaGreatDoorKTFDis1
import Derived.Test.YtomiclakhjncbaaGreatDoorKTKbIs
set_option maxRecDepth 100000
set_option maxHeartbeats 12800000
namespace Go.Proofs.YtomiclakhjncbaaGreatDoor
namespace Kb
open Go.RowKit Go.Proofs.Tryz
theorem Wc {F:Ff} {b:Bk} {ws:Be} {r:Bk×Int} (h:D6 F b ws r) (a:r.2≠0):r.1=b:=by
 unfold D6 at h
 split at h
 ·rw [h] at a ⊢;unfold N8 Fr at a ⊢;split at a
  ·split at a
   ·exact absurd rfl a
   ·rw [if_pos ‹_›,if_neg ‹_›]
  ·rw [if_neg ‹_›]
 split at h
 ·rw [h] at a ⊢;unfold Gt Fq at a ⊢;split at a
  ·split at a
   ·exact absurd rfl a
   ·rw [if_pos ‹_›,if_neg ‹_›]
  ·rw [if_neg ‹_›]
 split at h
 ·unfold Fh at h
  split at h
  ·obtain ⟨x,-,rfl⟩:=h
   unfold Jk at a ⊢
   split at a
   ·rw [if_pos ‹_›]
   rw [if_neg ‹_›]
   split at a
   ·rw [if_pos ‹_›]
   rw [if_neg ‹_›]
   split at a
   ·rw [if_pos ‹_›]
   rw [if_neg ‹_›]
   split at a
   ·rw [if_pos ‹_›]
   ·exact absurd rfl a
  ·rw [h]
 split at h
 ·rw [h] at a ⊢;unfold Hx at a ⊢;split at a
  ·rw [if_pos ‹_›]
   unfold Ja at a ⊢
   split at a
   ·rw [if_pos ‹_›]
   rw [if_neg ‹_›]
   split at a
   ·rw [if_pos ‹_›]
   rw [if_neg ‹_›]
   split at a
   ·rw [if_pos ‹_›]
   ·exact absurd rfl a
  ·rw [if_neg ‹_›]
 ·rw [h]
theorem sP {F:Ff} {b:Bk} {l:List UInt8} {r:Bk×Int} (h:D9 F b l r) (a:r.2≠0):r.1=b:=by
 unfold D9 at h
 split at h
 ·rw [h]
 ·obtain ⟨r0,h0,rfl⟩:=h
  split at a
  ·exact absurd rfl a
  ·rw [if_neg ‹_›];exact Wc h0 a
def Did (F:Ff):Bk->Be->Bk->Prop
 | b,[],c=>c=b
 | b,l::ls,c=>∃ t,D9 F b l (t,0)/\Did F t ls c
theorem vJ {F:Ff} {l:List UInt8} {t d:Bk} : ∀ {b:Bk} {ls:Be},Did F b ls t->D9 F t l (d,0)->Did F b (ls++[l]) d
 | b,[],h,hd=>by
  rw [Did] at h;subst h
  exact ⟨d,hd,by rw [Did]⟩
 | b,x::xs,h,hd=>by
  obtain ⟨b3,M,h4⟩:=h;exact ⟨b3,M,vJ h4 hd⟩
theorem yN {w w':World} {B:Nat} {f:Option Addr} {rs:Be} (h:Bh w f rs) (ha:rs≠[]->∀ x,f=some x->x.block<B) (hb:Below B w w'):Bh w' f rs:=by
 rcases h with h | ⟨g,off,rfl,O,M⟩
 ·exact .inl h
 ·by_cases H:rs=[]
  ·exact .inl H
  have hl:g<B:=ha H (qzA g off) rfl
  exact .inr ⟨g,off,rfl,Nat.lt_of_lt_of_le O hb.size,fun i hi=>(hb.cell (p:=(qzA g (off+i))) hl).trans (M i hi)⟩
def UnR (B K:Nat) (F:Ff) (J:Bk->Prop) (b:Bk) (rs:Be) (w:World) (e:Ending) (w':World):Prop :=
 ∃ (n:Nat) (c:Bk) (q:Bp),e=.returned (qzI (n:Int))/\n<=rs.length/\Did F b (rs.take n) c/\(n<rs.length->∃ r,D9 F c (Al rs n) r/\r.2≠0)/\J c/\KS B K 0 c q w'/\Below B w w'
theorem Adf (rs:Be) (k:Nat) (h:k<rs.length):rs.take (k+1)=rs.take k++[Al rs k]:=by
 rw [List.take_succ_eq_append_getElem h]
 congr 2
 simp [Al,h]
theorem yU {F:Ff} {E:World->Prop} {G B K:Nat} (KI:Rq F E G) (z:G<=B) {J:Bk->Prop} (Y:∀ b,J b->Ej b) (Z:∀ b l d,l.length<1048576->J b->D9 F b l (d,0)->J d) (b:Bk) (q:Bp) (f:Option Addr) (cap:Nat) (rs:Be) (w:World) (D:KS B K 0 b q w) (hE:E w) (hJ:J b) (hz:Bh w f rs) (ha:rs≠[]->∀ x,f=some x->x.block<B) (hn:rs.length<=1048576) (hd:∀ r ∈ rs,r.length<1048576) :
  Calls prog 51 #[.pointer (some (qzA K 0)),.slice f rs.length cap] w (UnR B K F J b rs w):=by
 have b0:Hid (∀ (k:Nat) (c:Bk) (A:Bp) (u:World),k<rs.length->J c->KS B K 0 c A u->Below B w u->Calls prog 83 #[.pointer (some (qzA K 0)),.string ⟨(Al rs k).toArray⟩] u (pM E B K F c (Al rs k) u)):=fun k c A u D hj ks hb=>iDo_any KI z (fun b q f cap rs w X O M h4 h5=>lZ KI z b q f cap rs w X O M h4 h5) c A _ u ks (KI.keep _ _ hE (hb.mono z)) (Y _ hj) (hd _ (F7 D))
 have b6:Hid (∀ (k:Nat) (t d:Bk),k<rs.length->J t->D9 F t (Al rs k) (d,0)->J d):=fun k t d D X O=>Z _ _ _ (hd _ (F7 D)) X O
 have HZ:Hid (Bh w f rs):=hz;have a6:Hid (rs≠[]->∀ x,f=some x->x.block<B):=ha;have b7:Hid (KS B K 0 b q w):=D;have b4:Hid (J b):=hJ
 have a8:Hid (Did F b (rs.take 0) b):=by rw [Hid,List.take_zero,Did]
 have a7:Hid (Below B w w):=bR;clear KI z Y Z D hE hJ hz ha hd
 go_enter func51,ntmps51
 go_wp2
 go_loopw [9] (fun i wr=>∃ (k:Nat) (c:Bk) (A:Bp),i=qzI (k:Int)/\k<=rs.length/\Did F b (rs.take k) c/\J c/\KS B K 0 c A wr/\Below B w wr) (fun i _=>rs.length - (intOf i).toNat)
 case atStart=>exact ⟨0,b,q,rfl,Nat.zero_le _,a8.o,b4.o,b7.o,a7.o⟩
 case round =>
  obtain ⟨k,c,A,rfl,D,C,hj,a4,a3⟩:=hrel;have L:Hid (Did F b (rs.take k) c):=C;have s:Hid (J c):=hj;have T:Hid (KS B K 0 c A wr):=a4;have m:Hid (Below B w wr):=a3;clear C hj a4 a3
  by_cases hlt:k<rs.length
  ·have b9:(k:Int)<(rs.length:Int):=by omega
   obtain ⟨gb,off,rfl,j⟩:∃ gb off,f=some (qzA gb off)/\wr.cell? (qzA gb (off+k))=some (.string ⟨(Al rs k).toArray⟩):=by
    rcases yN HZ.o a6.o m.o with h | ⟨gb,off,X,O,M⟩
    ·rw [h] at hlt;simp at hlt
    ·exact ⟨gb,off,X,M k hlt⟩
   have I:Hid (Calls prog 83 #[.pointer (some (qzA K 0)),.string ⟨(Al rs k).toArray⟩] wr (pM E B K F c (Al rs k) wr)):=b0.o k c A wr hlt s.o T.o m.o
   have V:Hid (∀ d,D9 F c (Al rs k) (d,0)->J d/\Did F b (rs.take (k+1)) d):=fun d h=>⟨b6.o k c d hlt s.o h,by rw [Adf rs k hlt];exact vJ L.o h⟩
   have U:Hid (∀ r,D9 F c (Al rs k) r->r.2≠0->r.1=c):=fun r h a=>sP h a
   have W:Hid (∀ (N:Bp) (u:World) r,D9 F c (Al rs k) r->r.2≠0->KS B K 0 c N u->Below B w u->UnR B K F J b rs w (.returned (qzI (k:Int))) u):=fun N u r h a ks hb=>⟨k,c,N,rfl,D,L.o,fun _=>⟨r,h,a⟩,s.o,ks,hb⟩
   obtain ⟨ln,a5⟩:∃ x,Al rs k=x:=⟨_,rfl⟩;rw [a5] at j I V U W;clear a5;go_wp2_with fail
   refine Calls.mono I.o ?_;rintro e w2 ⟨⟨d,c2⟩,N,v,H,rfl,hv,k2,p2⟩;have S:Hid (KS B K 0 d N w2):=k2;have R:Hid (Below B w w2):=m.o.trans p2.b;clear k2 p2 j I
   simp only at hv
   rcases hv with ⟨a,rfl⟩ | ⟨a,y,-,rfl⟩
   ·subst a
    obtain ⟨j2,d2⟩:=V.o d H;have b5:Hid (J d):=j2;have a9:Hid (Did F b (rs.take (k+1)) d):=d2;clear j2 d2 H;go_wp2
    go_roundw
    case rel=>exact ⟨k+1,d,N,by go_num,by omega,a9.o,b5.o,S.o,R.o⟩
    case measure=>simp [intOf];omega
   ·have HF:Hid (UnR B K F J b rs w (.returned (qzI (k:Int))) w2):=by
      have e1:d=c:=U.o _ H a;have h:=S.o;rw [e1] at h;exact W.o N w2 _ H a h R.o
    clear H a;go_wp2;go_ret;exact HF.o
  ·have b8:k=rs.length:=by omega
   subst b8
   have b9:¬ (rs.length:Int)<(rs.length:Int):=by omega
   have HF:Hid (UnR B K F J b rs w (.returned (qzI (rs.length:Int))) wr):=⟨rs.length,c,A,rfl,nL,L.o,fun h=>absurd h (Nat.lt_irrefl _),s.o,T.o,m.o⟩
   go_wp2;go_ret;exact HF.o
end Kb
end Go.Proofs.YtomiclakhjncbaaGreatDoor
namespace Go.Proofs.YtomiclakhjncbaaGreatDoor
open Go.RowKit Go.Proofs.Tryz
theorem oU (st k:Int) (w:World):Calls prog 167 #[qzI st,qzI k] w fun e w'=>e=.returned (.bool (Dx st k))/\w'=w:=by
 by_cases hk:k<0\/9<k
 ·have d:Hid (Dx st k=false):=by
    cases e:Dx st k
    ·rfl
    ·have:=Jt e;omega
  have g0:(k == 0)=false:=Ay (by omega)
  have V:(k == 1)=false:=Ay (by omega)
  have g2:(k == 2)=false:=Ay (by omega)
  have g3:(k == 3)=false:=Ay (by omega)
  have g4:(k == 4)=false:=Ay (by omega)
  have g5:(k == 5)=false:=Ay (by omega)
  have g6:(k == 6)=false:=Ay (by omega)
  have g7:(k == 7)=false:=Ay (by omega)
  have g8:(k == 8)=false:=Ay (by omega)
  have g9:(k == 9)=false:=Ay (by omega)
  clear hk
  go_enter func167,ntmps167
  go_wp2;go_ret;exact ⟨Aa d.o.symm,rfl⟩
 ·rcases (show k=0\/k=1\/k=2\/k=3\/k=4\/k=5\/k=6\/k=7\/k=8\/k=9 by omega) with rfl | rfl | rfl | rfl | rfl | rfl | rfl | rfl | rfl | rfl
  ·have d:Hid (Dx st 0=(st == 0)):=by
     by_cases h:st=0 <;> simp [Hid,Dx,h]
   clear hk
   go_enter func167,ntmps167
   go_wp2;go_ret;exact ⟨Aa d.o.symm,rfl⟩
  ·have d:Hid (Dx st 1=(st == 1)):=by
     by_cases h:st=1 <;> simp [Hid,Dx,h]
   clear hk
   go_enter func167,ntmps167
   go_wp2;go_ret;exact ⟨Aa d.o.symm,rfl⟩
  ·clear hk
   go_enter func167,ntmps167
   go_wp2_with (go_at_call 134;refine (Dl _ _ _ _).mono ?_;rintro e w' ⟨rfl,rfl⟩)
   go_ret;exact ⟨rfl,rfl⟩
  ·have d:Hid (Dx st 3=(st == 3)):=by
     by_cases h:st=3 <;> simp [Hid,Dx,h]
   clear hk
   go_enter func167,ntmps167
   go_wp2;go_ret;exact ⟨Aa d.o.symm,rfl⟩
  ·have d:Hid (Dx st 4=(st == 4)):=by
     by_cases h:st=4 <;> simp [Hid,Dx,h]
   clear hk
   go_enter func167,ntmps167
   go_wp2;go_ret;exact ⟨Aa d.o.symm,rfl⟩
  ·have d:Hid (Dx st 5=(st == 5)):=by
     by_cases h:st=5 <;> simp [Hid,Dx,h]
   clear hk
   go_enter func167,ntmps167
   go_wp2;go_ret;exact ⟨Aa d.o.symm,rfl⟩
  ·have d:Hid (Dx st 6=(st == 5)):=by
     by_cases h:st=5 <;> simp [Hid,Dx,h]
   clear hk
   go_enter func167,ntmps167
   go_wp2;go_ret;exact ⟨Aa d.o.symm,rfl⟩
  ·have d:Hid (Dx st 7=(st == 6)):=by
     by_cases h:st=6 <;> simp [Hid,Dx,h]
   clear hk
   go_enter func167,ntmps167
   go_wp2;go_ret;exact ⟨Aa d.o.symm,rfl⟩
  ·by_cases h1:st=1
   ·have d:Hid (Dx st 8=true):=by simp [Hid,Dx,h1]
    have A:(st == 1)=true:=by simpa using h1
    clear hk h1
    go_enter func167,ntmps167
    go_wp2;go_ret;exact ⟨Aa d.o.symm,rfl⟩
   ·have d:Hid (Dx st 8=Gk st 3 6):=by simp [Hid,Dx,h1,Gk]
    have A:=Ay h1;clear hk h1
    go_enter func167,ntmps167
    go_wp2_with (go_at_call 134;refine (Dl _ _ _ _).mono ?_;rintro e w' ⟨rfl,rfl⟩)
    go_ret;exact ⟨Aa d.o.symm,rfl⟩
  ·by_cases h1:st=0
   ·have d:Hid (Dx st 9=true):=by simp [Hid,Dx,h1]
    have A:(st == 0)=true:=by simpa using h1
    clear hk h1
    go_enter func167,ntmps167
    go_wp2;go_ret;exact ⟨Aa d.o.symm,rfl⟩
   ·have d:Hid (Dx st 9=(st == 2)):=by
      by_cases h:st=2 <;> simp [Hid,Dx,h1,h]
    have A:=Ay h1;clear hk h1
    go_enter func167,ntmps167
    go_wp2;go_ret;exact ⟨Aa d.o.symm,rfl⟩
structure B2 (s:Nat) (c:Cs) (a:Ac) (u:World):Prop where
 cb:CB s 0 c u
 a0:u.cell? ⟨s+1,0,none⟩=some (qzI a.kind)
 a1:u.cell? ⟨s+1,1,none⟩=some (qzI a.am)
 a2:u.cell? ⟨s+1,2,none⟩=some (qzI a.rsn)
theorem B2.below {s:Nat} {c:Cs} {a:Ac} {u u':World} (h:B2 s c a u) (b:BW u u'):B2 s c a u':=by
 have l:s+1<u.heap.size:=World.block_lt_of_cell? u _ h.a0;exact ⟨h.cb.below b,(b.cell (p:=⟨s+1,0,none⟩) l).trans h.a0,(b.cell (p:=⟨s+1,1,none⟩) l).trans h.a1,(b.cell (p:=⟨s+1,2,none⟩) l).trans h.a2⟩
theorem B2.new (w:World) (c:Cs) (a:Ac) (t1 t2:TypeId):B2 w.heap.size c a ((w.alloc (.cells #[qzI c.iss,qzI c.acq,qzI c.cur,qzI c.am,qzI c.st,qzI c.rsn,qzI c.cl,qzI c.bk,qzI c.fee,.bool c.cop,qzI c.sta,qzI c.due] t1)).alloc (.cells #[qzI a.kind,qzI a.am,qzI a.rsn] t2)) :=
 ⟨(CB.new w c t1).below (bR.alloc nL _),by simp [go_sem],by simp [go_sem],by simp [go_sem]⟩
theorem Xk (c:Cs) (a:Ac) (t:Int) (ao:Option Addr) (cp:Nat) (zs:List Int) (w:World) (hx:Aw w ao zs) (hn:zs.length<=1099511627776) :
  Calls prog 263 #[cv c,av a,qzI t,.slice ao zs.length cp] w fun e w'=>e=.returned (qzI (Bs c a t zs))/\BW w w':=by
 obtain ⟨W,hW⟩:∃ W,W=(w.alloc (.cells #[qzI c.iss,qzI c.acq,qzI c.cur,qzI c.am,qzI c.st,qzI c.rsn,qzI c.cl,qzI c.bk,qzI c.fee,.bool c.cop,qzI c.sta,qzI c.due] 61)).alloc (.cells #[qzI a.kind,qzI a.am,qzI a.rsn] 165):=⟨_,rfl⟩
 have HX:Hid (B2 w.heap.size c a W):=by rw [Hid,hW];exact B2.new w c a _ _
 have y:Hid (BW w W):=by rw [Hid,hW];go_grown
 have HW:Hid _:=hW;have HI:Hid (Aw W ao zs):=hx.below y.o
 obtain ⟨p,hp⟩:∃ p,(!Oy a.rsn || (E8 a.rsn && !E4 c t))=p:=⟨_,rfl⟩
 obtain ⟨q,hq⟩:∃ q,(decide (a.am<1) || (decide (c.am<a.am) || (decide (a.am<c.am) && !Gb a.rsn)))=q:=⟨_,rfl⟩
 obtain ⟨l,hl⟩:∃ l,Bv t (C6 c.sta (Fs a.rsn) zs)=l:=⟨_,rfl⟩;have HV:Hid _:=Qy hp hq hl;have z:Hid _:=hp;have G:Hid _:=hq;have F:Hid _:=hl
 have J:E4 c t=(c.cop || (decide (c.st=1) && Bv t c.due)):=rfl
 obtain ⟨cc,X⟩:∃ cc,E4 c t=cc:=⟨_,rfl⟩
 have D:Hid (cc=(c.cop || (decide (c.st=1) && Bv t c.due))):=by rw [Hid,<- X,J]
 rw [X] at z;clear hp hq hl hx hW J X;obtain ⟨k,m,r⟩:=a;obtain ⟨Z,S,T,am,st,rW,cl,bk,U,H,i,I⟩:=c;unfold cv av
 simp only at HW z G F D ⊢
 have O:Hid (∀ u,BW W u->Calls prog 222 #[qzI i,qzI (Fs r),.slice ao zs.length cp] u fun e w'=>e=.returned (qzI (C6 i (Fs r) zs))/\BW u w'):=fun u hu=>Ir i (Fs r) ao cp zs u (HI.o.below hu) hn
 go_enter func263,ntmps263
 go_upto_region 1 with fail
 rw [<- HW.o];clear HW;obtain ⟨⟨f0,f1,f2,f3,f4,f5,f6,f7,f8,f9,f10,f11⟩,k0,k1,M⟩:=HX.o
 simp only [Nat.zero_add] at f0 f1 f2 f3 f4 f5 f6 f7 f8 f9 f10 f11 k0 k1 M
 clear f0 f1 f2 f5 f6 f7 f8
 go_cut [9] (fun v wc=>v=.bool cc/\wc=W)
 case first =>
  cases H
  ·by_cases h1:st=1
   ·have d:Hid (cc=Bv t I):=by rw [Hid,D.o,decide_eq_true h1,Bool.false_or,Bool.true_and]
    have A:(st == 1)=true:=by simpa using h1
    clear h1
    go_wp2_with (go_at_call 92;refine (Kp _ _ _).mono ?_;rintro e w' ⟨rfl,rfl⟩)
    go_meet
    exact ⟨by rw [d.o],rfl⟩
   ·have d:Hid (cc=false):=by rw [Hid,D.o,decide_eq_false h1,Bool.false_or,Bool.false_and]
    have A:=Ay h1;clear h1;go_wp2;go_meet
    exact ⟨by rw [d.o],rfl⟩
  ·have d:Hid (cc=true):=by rw [Hid,D.o,Bool.true_or]
   go_wp2;go_meet
   exact ⟨by rw [d.o],rfl⟩
 case rest =>
  obtain ⟨rfl,B⟩:=hcut;rw [B];clear B;go_upto_region 2 with fail
  go_cut [23] (fun v wc=>v=.bool p/\BW W wc)
  case first =>
   go_wp2_with fail
   refine (V7 r _).mono ?_;rintro e u1 ⟨rfl,b1⟩;have N:Hid (BW W u1):=b1;have j2:=(HX.o.below b1).a2
   simp only at j2
   clear b1
   cases h1:Oy r
   ·have d:Hid (p=true):=by rw [Hid,<- z.o,h1];rfl
    clear h1;go_wp2;go_meet
    exact ⟨by rw [d.o],N.o⟩
   go_wp2_with fail
   refine (Wt r _).mono ?_;rintro e u2 ⟨rfl,a8⟩;rw [a8];clear a8
   cases h2:E8 r
   ·have d:Hid (p=false):=by rw [Hid,<- z.o,h1,h2];rfl
    clear h1 h2;go_wp2;go_meet
    exact ⟨by rw [d.o],N.o⟩
   have d:Hid (p = !cc):=by rw [Hid,<- z.o,h1,h2];rfl
   clear h1 h2;go_wp2;go_meet
   exact ⟨by rw [d.o],N.o⟩
  case rest =>
   obtain ⟨rfl,b4⟩:=hcut;obtain ⟨u4,b5⟩:∃ x,x=wc:=⟨_,rfl⟩;subst b5;have f:Hid (BW W u4):=b4;have b3:Hid (B2 w.heap.size ⟨Z,S,T,am,st,rW,cl,bk,U,H,i,I⟩ ⟨k,m,r⟩ u4):=HX.o.below b4;clear b4 f3 f4 f9 f10 f11 k0 k1 M
   cases p
   rotate_left
   ·have d:Hid (Bs ⟨Z,S,T,am,st,rW,cl,bk,U,H,i,I⟩ ⟨k,m,r⟩ t zs=3):=by rw [Hid,HV.o,if_pos rfl]
    go_wp2;go_ret;exact ⟨Af d.o.symm,next y.o f.o⟩
   have R:Hid (Bs ⟨Z,S,T,am,st,rW,cl,bk,U,H,i,I⟩ ⟨k,m,r⟩ t zs=if q=true then 2 else if l=true then 4 else 0):=by rw [Hid,HV.o,if_neg (by decide)]
   obtain ⟨⟨f0,f1,f2,f3,f4,f5,f6,f7,f8,f9,f10,f11⟩,k0,k1,M⟩:=b3.o
   simp only [Nat.zero_add] at f0 f1 f2 f3 f4 f5 f6 f7 f8 f9 f10 f11 k0 k1 M
   clear HV f0 f1 f2 f4 f5 f6 f7 f8 f9 f10 f11;go_upto_region 4 with fail
   go_cut [37] (fun v wc=>v=.bool q/\wc=u4)
   case first =>
    go_wp2_with fail
    cases h1:Gk m 1 am
    ·have d:Hid (q=true):=by
       have:=E7 h1
       have g:m<1\/am<m:=by simp at this;omega
       rw [Hid,<- G.o]
       rcases g with g | g <;> simp [g]
     refine (Fa h1 _).mono ?_;rintro e v1 ⟨rfl,L⟩;rw [L];clear L h1;go_wp2;go_meet
     exact ⟨by rw [d.o],rfl⟩
    have V:¬ m<1/\¬ am<m:=by have:=E7 h1;simp at this;omega
    refine (Fa h1 _).mono ?_;rintro e v1 ⟨rfl,L⟩;rw [L];clear L h1
    by_cases h3:m<am
    ·have d:Hid (q = !Gb r):=by rw [Hid,<- G.o,decide_eq_false V.1,decide_eq_false V.2,decide_eq_true h3];rfl
     clear V;go_wp2_with fail
     refine (aT r _).mono ?_;rintro e v2 ⟨rfl,L⟩;rw [L];clear L;go_wp2;go_meet
     exact ⟨by rw [d.o],rfl⟩
    ·have d:Hid (q=false):=by rw [Hid,<- G.o,decide_eq_false V.1,decide_eq_false V.2,decide_eq_false h3];rfl
     clear V;go_wp2;go_meet
     exact ⟨by rw [d.o],rfl⟩
   case rest =>
    obtain ⟨rfl,B⟩:=hcut;rw [B];clear B f3 k0 k1 M
    cases q
    rotate_left
    ·have d:Hid (Bs ⟨Z,S,T,am,st,rW,cl,bk,U,H,i,I⟩ ⟨k,m,r⟩ t zs=2):=by rw [Hid,R.o,if_pos rfl]
     go_wp2;go_ret;exact ⟨Af d.o.symm,next y.o f.o⟩
    have a4:Hid (Bs ⟨Z,S,T,am,st,rW,cl,bk,U,H,i,I⟩ ⟨k,m,r⟩ t zs=if l=true then 4 else 0):=by rw [Hid,R.o,if_neg (by decide)]
    clear R
    have j:Hid (∀ u,BW W u->u.cell? ⟨w.heap.size,10,none⟩=some (qzI i)/\u.cell? ⟨w.heap.size+1,2,none⟩=some (qzI r)):=fun u hu=>by
     have g:=HX.o.below hu;have a5:=g.cb.f10
     simp only [Nat.zero_add] at a5
     exact ⟨a5,g.a2⟩
    obtain ⟨a9,M⟩:=j.o u4 f.o;obtain ⟨n,Y⟩:∃ n,Fs r=n:=⟨_,rfl⟩
    have b2:Hid (∀ u,Calls prog 302 #[qzI r] u fun e w'=>e=.returned (qzI n)/\BW u w'):=fun u=>by rw [<- Y];exact Xy r u
    rw [Y] at O F;obtain ⟨dd,a6⟩:∃ dd,C6 i n zs=dd:=⟨_,rfl⟩;rw [a6] at O F
    have b0:Hid (∀ u,Calls prog 92 #[qzI t,qzI dd] u fun e w'=>e=.returned (.bool l)/\w'=u):=fun u=>by rw [<- F.o];exact Kp t dd u
    clear Y a6;have d5:BW W u4.drew:=f.o.drew;go_upto_region 6 with fail
    go_cut [57] (fun v wc=>v=.bool l/\BW W wc)
    case first =>
     go_region_held3 (fun u=>u.cell? ⟨w.heap.size,10,none⟩=some (qzI i)/\u.cell? ⟨w.heap.size+1,2,none⟩=some (qzI r)) (first | exact ⟨a9,M⟩ | exact j.o _ f.o | exact j.o _ d5 | exact j.o _ C.o | exact j.o _ a3.o) ((first
      | (go_at_call 302;refine (b2.o _).mono ?_;rintro e u6 ⟨rfl,b6⟩;(first | (have C:Hid (BW W u6):=next d5 b6) | (have C:Hid (BW W u6):=next f.o b6));clear b6)
      | (go_at_call 222;refine (O.o _ C.o).mono ?_;rintro e u7 ⟨rfl,b7⟩;(have a3:Hid (BW W u7):=next C.o b7);clear b7)
      | (go_at_call 92;refine (b0.o _).mono ?_;rintro e u8 ⟨rfl,a7⟩;rw [a7];clear a7)))
     all_goals
      go_wp2_with fail
      go_meet;exact ⟨rfl,a3.o⟩
    case rest =>
     obtain ⟨rfl,b8⟩:=hcut;clear a9 M
     cases l
     ·have d:Hid (Bs ⟨Z,S,T,am,st,rW,cl,bk,U,H,i,I⟩ ⟨k,m,r⟩ t zs=0):=by rw [Hid,a4.o,if_neg (by decide)]
      go_wp2;go_ret;exact ⟨Af d.o.symm,next y.o b8⟩
     ·have d:Hid (Bs ⟨Z,S,T,am,st,rW,cl,bk,U,H,i,I⟩ ⟨k,m,r⟩ t zs=4):=by rw [Hid,a4.o,if_pos rfl]
      go_wp2;go_ret;exact ⟨Af d.o.symm,next y.o b8⟩
theorem fX (c:Cs) (a:Ac) (t:Int) (s:Option Addr) (A:Nat) (zs:List Int) (w:World) (F:Aw w s zs) (N:zs.length<=1099511627776) (M:0<=a.kind/\a.kind<=9) :
  Calls prog 221 #[cv c,av a,qzI t,.slice s zs.length A] w fun e w'=>e=.returned (qzI (B4 c a t zs))/\BW w w':=by
 obtain ⟨W,v⟩:∃ W,W=(w.alloc (.cells #[qzI c.iss,qzI c.acq,qzI c.cur,qzI c.am,qzI c.st,qzI c.rsn,qzI c.cl,qzI c.bk,qzI c.fee,.bool c.cop,qzI c.sta,qzI c.due] 61)).alloc (.cells #[qzI a.kind,qzI a.am,qzI a.rsn] 165):=⟨_,rfl⟩
 have G:Hid (B2 w.heap.size c a W):=by rw [Hid,v];exact B2.new w c a _ _
 have b:Hid (BW w W):=by rw [Hid,v];go_grown
 have z:Hid _:=v
 have f:Hid (∀ u,BW W u->Calls prog 263 #[cv c,av a,qzI t,.slice s zs.length A] u fun e w'=>e=.returned (qzI (Bs c a t zs))/\BW u w'):=fun u x=>Xk c a t s A zs u ((F.below b.o).below x) N
 obtain ⟨r,C⟩:∃ r,B4 c a t zs=r:=⟨_,rfl⟩;have j:Hid _:=C;rw [C];clear F v C;obtain ⟨k,m,q⟩:=a;obtain ⟨O,H,I,am,st,U,cl,bk,L,J,V,B⟩:=c;unfold cv av at f ⊢
 simp only at z f M ⊢
 go_enter func221,ntmps221
 go_upto_region 1 with fail
 rw [<- z.o];clear z;obtain ⟨⟨f0,f1,f2,f3,f4,f5,f6,f7,f8,f9,f10,f11⟩,R,S,T⟩:=G.o
 simp only [Nat.zero_add] at f0 f1 f2 f3 f4 f5 f6 f7 f8 f9 f10 f11 R S T
 go_wp2_with fail
 refine (Kp t B _).mono ?_;rintro e Y ⟨rfl,x⟩;rw [x];clear x;obtain ⟨l,hl⟩:∃ l,Bv t B=l:=⟨_,rfl⟩;have n:Hid _:=hl;rw [hl];clear hl
 rcases (show k=0\/k=1\/k=2\/k=3\/k=4\/k=5\/k=6\/k=7\/k=8\/k=9 by omega) with rfl | rfl | rfl | rfl | rfl | rfl | rfl | rfl | rfl | rfl
 ·have d:Hid (r=0):=by rw [Hid,<- j.o];simp [B4]
  clear f;go_wp2;go_ret;exact ⟨Af d.o.symm,b.o⟩
 ·have d:Hid (r=if l=true then 4 else 0):=by rw [Hid,<- j.o,<- n.o];simp [B4]
  clear f
  cases l
  ·go_wp2
   go_ret
   exact ⟨Af (by rw [d.o];rfl),b.o⟩
  ·go_wp2
   go_ret
   exact ⟨Af (by rw [d.o];rfl),b.o⟩
 ·have d:Hid (Bs ⟨O,H,I,am,st,U,cl,bk,L,J,V,B⟩ ⟨2,m,q⟩ t zs=r):=by rw [Hid,<- j.o];simp [B4]
  go_wp2_with fail
  refine (f.o _ bR).mono ?_;rintro e X ⟨rfl,D⟩;have y:Hid (BW w X):=next b.o D;clear D;rw [d.o];go_wp2;go_ret;exact ⟨rfl,y.o⟩
 ·have d:Hid (r=if l=true then 4 else if 1<=m/\m<=cl then 0 else 2):=by rw [Hid,<- j.o,<- n.o];simp [B4]
  clear f
  cases l
  ·rw [if_neg (by decide)] at d
   go_wp2_with fail
   cases h1:Gk m 1 cl
   ·have g:=E7 h1
    have h:Hid (r=2):=by rw [Hid,d.o,if_neg (of_decide_eq_false g)]
    refine (Fa h1 _).mono ?_;rintro e p ⟨rfl,i⟩;rw [i];clear i h1 g;go_wp2;go_ret;exact ⟨Af h.o.symm,b.o⟩
   ·have g:=E7 h1
    have h:Hid (r=0):=by rw [Hid,d.o,if_pos (of_decide_eq_true g)]
    refine (Fa h1 _).mono ?_;rintro e p ⟨rfl,i⟩;rw [i];clear i h1 g;go_wp2;go_ret;exact ⟨Af h.o.symm,b.o⟩
  ·go_wp2
   go_ret
   exact ⟨Af (by rw [d.o];rfl),b.o⟩
 ·have d:Hid (r=if l=true then 4 else if 1<=m/\m<=cl then 0 else 2):=by rw [Hid,<- j.o,<- n.o];simp [B4]
  clear f
  cases l
  ·rw [if_neg (by decide)] at d
   go_wp2_with fail
   cases h1:Gk m 1 cl
   ·have g:=E7 h1
    have h:Hid (r=2):=by rw [Hid,d.o,if_neg (of_decide_eq_false g)]
    refine (Fa h1 _).mono ?_;rintro e p ⟨rfl,i⟩;rw [i];clear i h1 g;go_wp2;go_ret;exact ⟨Af h.o.symm,b.o⟩
   ·have g:=E7 h1
    have h:Hid (r=0):=by rw [Hid,d.o,if_pos (of_decide_eq_true g)]
    refine (Fa h1 _).mono ?_;rintro e p ⟨rfl,i⟩;rw [i];clear i h1 g;go_wp2;go_ret;exact ⟨Af h.o.symm,b.o⟩
  ·go_wp2
   go_ret
   exact ⟨Af (by rw [d.o];rfl),b.o⟩
 ·have d:Hid (r=0):=by rw [Hid,<- j.o];simp [B4]
  clear f;go_wp2;go_ret;exact ⟨Af d.o.symm,b.o⟩
 ·have d:Hid (r=if l=true then 4 else 0):=by rw [Hid,<- j.o,<- n.o];simp [B4]
  clear f
  cases l
  ·go_wp2
   go_ret
   exact ⟨Af (by rw [d.o];rfl),b.o⟩
  ·go_wp2
   go_ret
   exact ⟨Af (by rw [d.o];rfl),b.o⟩
 ·have d:Hid (r=if 0<=m/\m<=cl then 0 else 2):=by rw [Hid,<- j.o];simp [B4]
  clear f;go_wp2_with fail
  cases h1:Gk m 0 cl
  ·have g:=E7 h1
   have h:Hid (r=2):=by rw [Hid,d.o,if_neg (of_decide_eq_false g)]
   refine (Fa h1 _).mono ?_;rintro e p ⟨rfl,i⟩;rw [i];clear i h1 g;go_wp2;go_ret;exact ⟨Af h.o.symm,b.o⟩
  ·have g:=E7 h1
   have h:Hid (r=0):=by rw [Hid,d.o,if_pos (of_decide_eq_true g)]
   refine (Fa h1 _).mono ?_;rintro e p ⟨rfl,i⟩;rw [i];clear i h1 g;go_wp2;go_ret;exact ⟨Af h.o.symm,b.o⟩
 ·have d:Hid (r=if l=true then 0 else 4):=by rw [Hid,<- j.o,<- n.o];simp [B4]
  clear f
  cases l
  ·go_wp2
   go_ret
   exact ⟨Af (by rw [d.o];rfl),b.o⟩
  ·go_wp2
   go_ret
   exact ⟨Af (by rw [d.o];rfl),b.o⟩
 ·have d:Hid (r=0):=by rw [Hid,<- j.o];simp [B4]
  clear f;go_wp2;go_ret;exact ⟨Af d.o.symm,b.o⟩
theorem Lj {b:Nat} {d:Option Addr} {f:Nat} {zs:List Int} {a:Ac} {t:Int} {c:Cs} {es:List En} {v:Value} {w:World} (h:DS b d f zs a t c es v w) :
  Calls prog 319 #[.pointer (some (qzA b 0))] w (DR b d f zs a t w (qzI 0) (J9 c) es):=by
 have c4:=h.db.cb.f4;have l:=h.db.cb.f11;have B:=h.db.cb.f9;have z4:=h.db.fz.z4;have z11:=h.db.fz.z11;have z9:=h.db.fz.z9
 simp only [Nat.zero_add] at c4 l B z4 z11 z9
 have i:Hid (DS b d f zs a t c es v w):=h;clear h
 go_enter func319,ntmps319
 go_wp2;go_ret;exact ⟨rfl,⟨v,((i.o.set4 2).set11 (-1)).set9 true⟩,((Bn _ _ 4 _).trans (Bn _ _ 11 _)).trans (Bn _ _ 9 _)⟩
theorem Pn {b:Nat} {d:Option Addr} {f:Nat} {zs:List Int} {a:Ac} {t:Int} {c:Cs} {es:List En} {v:Value} {w:World} (h:DS b d f zs a t c es v w) (k:Int) (C:k=5\/k=7\/k=8) :
  Calls prog 324 #[.pointer (some (qzA b 0)),qzI k] w (DR b d f zs a t w (qzI 0) ⟨c.iss,c.acq,c.cur,c.am,7,c.rsn,0,c.bk,c.fee,c.cop,c.sta,-1⟩ es):=by
 have c4:=h.db.cb.f4;have c6:=h.db.cb.f6;have l:=h.db.cb.f11;have z4:=h.db.fz.z4;have z6:=h.db.fz.z6;have z11:=h.db.fz.z11
 simp only [Nat.zero_add] at c4 c6 l z4 z6 z11
 have i:Hid (DS b d f zs a t c es v w):=h;clear h
 rcases C with rfl | rfl | rfl
 iterate 3
  ·go_enter func324,ntmps324
   go_wp2;go_ret;exact ⟨rfl,⟨v,((i.o.set6 0).set4 7).set11 (-1)⟩,((Bn _ _ 6 _).trans (Bn _ _ 4 _)).trans (Bn _ _ 11 _)⟩
theorem iT {b:Nat} {d:Option Addr} {f:Nat} {zs:List Int} {a:Ac} {t:Int} {c:Cs} {es:List En} {v:Value} {w:World} (h:DS b d f zs a t c es v w) :
  Calls prog 324 #[.pointer (some (qzA b 0)),qzI 9] w (DR b d f zs a t w (qzI 0) ⟨c.iss,c.acq,c.cur,c.am,7,c.rsn,c.cl,c.bk,c.fee,c.cop,c.sta,-1⟩ es):=by
 have c4:=h.db.cb.f4;have l:=h.db.cb.f11;have z4:=h.db.fz.z4;have z11:=h.db.fz.z11
 simp only [Nat.zero_add] at c4 l z4 z11
 have i:Hid (DS b d f zs a t c es v w):=h;clear h
 go_enter func324,ntmps324
 go_wp2;go_ret;exact ⟨rfl,⟨v,(i.o.set4 7).set11 (-1)⟩,(Bn _ _ 4 _).trans (Bn _ _ 11 _)⟩
theorem iR {b:Nat} {d:Option Addr} {f:Nat} {zs:List Int} {a:Ac} {t:Int} {c:Cs} {es:List En} {v:Value} {w:World} (h:DS b d f zs a t c es v w) :
  Calls prog 297 #[.pointer (some (qzA b 0))] w (DR b d f zs a t w (qzI 0) ⟨c.iss,c.acq,c.cur,c.am,7,c.rsn,c.cl,c.bk,c.fee,c.cop,c.sta,-1⟩ es):=by
 have i:Hid (DS b d f zs a t c es v w):=h;clear h
 go_enter func297,ntmps297
 go_wp2_with fail
 refine (iT i.o).mono ?_;rintro e m ⟨rfl,x,g⟩;go_wp2;go_ret;exact ⟨rfl,x,g⟩
theorem oI {b:Nat} {d:Option Addr} {f:Nat} {zs:List Int} {a:Ac} {t:Int} {c:Cs} {es:List En} {v:Value} {w:World} (h:DS b d f zs a t c es v w) (z:zs.length<=1099511627776) :
  Calls prog 288 #[.pointer (some (qzA b 0))] w (DR b d f zs a t w (qzI 0) ⟨c.iss,c.acq,c.cur,c.am,1,c.rsn,c.cl,c.bk,c.fee,c.cop,c.sta,C6 t 20 zs⟩ es):=by
 have c4:=h.db.cb.f4;have z4:=h.db.fz.z4
 simp only [Nat.zero_add] at c4 z4
 have i:Hid (DS b d f zs a t c es v w):=h;clear h
 go_enter func288,ntmps288
 go_wp2_with fail
 refine (Is (i.o.set4 1) z 4 20 rfl).mono ?_;rintro e m ⟨rfl,x,g⟩;have r:Hid _:=x;have j:Hid (Below b w m):=(Bn _ _ 4 _).trans g;clear x g;go_wp2;go_ret;exact ⟨rfl,r.o,j.o⟩
theorem mH {b:Nat} {d:Option Addr} {f:Nat} {zs:List Int} {a:Ac} {t:Int} {c:Cs} {es:List En} {v:Value} {w:World} (h:DS b d f zs a t c es v w) :
  Calls prog 289 #[.pointer (some (qzA b 0))] w (DR b d f zs a t w (qzI (if Bv t c.due=true then 4 else 0)) (if Bv t c.due=true then c else J9 c) es):=by
 have i:Hid (DS b d f zs a t c es v w):=h;have s:Hid (b<w.heap.size):=h.lt
 have n:Hid (Calls prog 318 #[.pointer (some (qzA b 0))] w fun e w'=>e=.returned (.bool (Bv t c.due))/\BW w w'):=Hn h
 clear h
 cases hl:Bv t c.due
 ·rw [hl] at n
  clear hl
  rw [if_neg (by decide),if_neg (by decide)]
  go_enter func289,ntmps289
  go_wp2_with fail
  refine Calls.mono n.o ?_;rintro e m ⟨rfl,g⟩;have j:Hid (BW w m):=g;clear g;go_wp2_with fail
  refine (Lj (i.o.below j.o)).mono ?_;rintro e A ⟨rfl,q,u⟩;have r:Hid _:=q;have p:Hid (Below b w A):=(j.o.mono (Nat.le_of_lt s.o)).trans u;clear q u;go_wp2;go_ret;exact ⟨rfl,r.o,p.o⟩
 ·rw [hl] at n
  clear hl;rw [if_pos rfl,if_pos rfl]
  go_enter func289,ntmps289
  go_wp2_with fail
  refine Calls.mono n.o ?_;rintro e m ⟨rfl,g⟩;have j:Hid (BW w m):=g;clear g;go_wp2;go_ret;exact ⟨rfl,⟨v,i.o.below j.o⟩,j.o.mono (Nat.le_of_lt s.o)⟩
theorem Yn {b:Nat} {d:Option Addr} {f:Nat} {zs:List Int} {a:Ac} {t:Int} {c:Cs} {es:List En} {v:Value} {w:World} (h:DS b d f zs a t c es v w) (z:zs.length<=1099511627776) :
  Calls prog 294 #[.pointer (some (qzA b 0))] w (DR b d f zs a t w (qzI (if Bv t c.due=true then 4 else 0)) (if Bv t c.due=true then c else ⟨c.iss,c.acq,c.cur,c.am,6,c.rsn,c.cl,c.bk,c.fee,c.cop,c.sta,C6 t 60 zs⟩) es):=by
 have i:Hid (DS b d f zs a t c es v w):=h;have s:Hid (b<w.heap.size):=h.lt
 have n:Hid (Calls prog 318 #[.pointer (some (qzA b 0))] w fun e w'=>e=.returned (.bool (Bv t c.due))/\BW w w'):=Hn h
 clear h
 cases hl:Bv t c.due
 ·rw [hl] at n
  clear hl
  rw [if_neg (by decide),if_neg (by decide)]
  go_enter func294,ntmps294
  go_wp2_with fail
  refine Calls.mono n.o ?_;rintro e m ⟨rfl,g⟩;have j:Hid (BW w m):=g;have h:=i.o.below g;have c4:=h.db.cb.f4;have z4:=h.db.fz.z4
  simp only [Nat.zero_add] at c4 z4
  have y:Hid (DS b d f zs a t c es v m):=h;clear g h;go_wp2_with fail
  refine (Is (y.o.set4 6) z 3 60 rfl).mono ?_;rintro e A ⟨rfl,q,u⟩;have r:Hid _:=q;have p:Hid (Below b w A):=((j.o.mono (Nat.le_of_lt s.o)).trans (Bn _ _ 4 _)).trans u;clear q u;go_wp2;go_ret;exact ⟨rfl,r.o,p.o⟩
 ·rw [hl] at n
  clear hl;rw [if_pos rfl,if_pos rfl]
  go_enter func294,ntmps294
  go_wp2_with fail
  refine Calls.mono n.o ?_;rintro e m ⟨rfl,g⟩;have j:Hid (BW w m):=g;clear g;go_wp2;go_ret;exact ⟨rfl,⟨v,i.o.below j.o⟩,j.o.mono (Nat.le_of_lt s.o)⟩
theorem Le {c:Cs} {x:Int} (h:0<=x):H0 c [] c.acq c.iss x=Bg c x:=by
 unfold H0 Bg
 by_cases m:x=0
 ·rw [if_pos m,if_neg (by omega)]
 ·rw [if_neg m,if_pos (by omega)];rfl
theorem aO {c:Cs} {x:Int} (h:0<=x):H0 c [] c.iss c.acq x=Dw c x:=by
 unfold H0 Dw
 by_cases m:x=0
 ·rw [if_pos m,if_neg (by omega)]
 ·rw [if_neg m,if_pos (by omega)];rfl
theorem eT (c:Cs) (es:List En) (f g s:Int):(H0 c es f g s).length<=es.length+1:=by unfold H0;split <;> simp
theorem S2 {b:Nat} {k:Option Addr} {l:Nat} {zs:List Int} {a:Ac} {t:Int} {c:Cs} {es:List En} {v:Value} {w:World} (h:DS b k l zs a t c es v w) :
  Calls prog 322 #[.pointer (some (qzA b 0))] w fun e w'=>e=.returned (qzI (Dd c a t))/\BW w w':=by
 have F:Hid (DS b k l zs a t c es v w):=h
 have A:Hid (Calls prog 318 #[.pointer (some (qzA b 0))] w fun e w'=>e=.returned (.bool (Bv t c.due))/\BW w w'):=Hn h
 clear h
 cases hl:Bv t c.due
 ·rw [hl] at A
  have j:Hid (Dd c a t=if 1<=a.am/\a.am<=c.cl then 0 else 2):=if_neg (by rw [hl];decide)
  clear hl
  go_enter func322,ntmps322
  go_wp2_with fail
  refine Calls.mono A.o ?_;rintro e p ⟨rfl,d⟩;have i:Hid (BW w p):=d;have h:=F.o.below d;have C:=h.db.a1;have c6:=h.db.cb.f6
  simp only [Nat.zero_add] at c6
  clear d h;obtain ⟨x,n⟩:∃ x,a.am=x:=⟨_,rfl⟩;obtain ⟨y,hy⟩:∃ y,c.cl=y:=⟨_,rfl⟩;rw [n] at C j;rw [hy] at c6 j;clear n hy
  by_cases h1:x<1
  ·have q:Hid (Dd c a t=2):=by rw [Hid,j.o,if_neg (by omega)]
   go_wp2
   go_quiet (fail)
   all_goals
    go_wp2;go_ret;exact ⟨Af q.o.symm,below_drewN i.o _⟩
  ·by_cases h2:y<x
   ·have q:Hid (Dd c a t=2):=by rw [Hid,j.o,if_neg (by omega)]
    go_wp2
    go_quiet (fail)
    all_goals
     go_wp2;go_ret;exact ⟨Af q.o.symm,below_drewN i.o _⟩
   ·have q:Hid (Dd c a t=0):=by rw [Hid,j.o,if_pos (by omega)]
    go_wp2
    go_quiet (fail)
    all_goals
     go_wp2;go_ret;exact ⟨Af q.o.symm,below_drewN i.o _⟩
 ·rw [hl] at A
  have j:Hid (Dd c a t=4):=if_pos hl;clear hl
  go_enter func322,ntmps322
  go_wp2_with fail
  refine Calls.mono A.o ?_;rintro e p ⟨rfl,d⟩;have i:Hid (BW w p):=d;clear d;go_wp2;go_ret;exact ⟨Af j.o.symm,i.o⟩
theorem Na {b:Nat} {k:Option Addr} {l:Nat} {zs:List Int} {a:Ac} {t:Int} {c:Cs} {es:List En} {v:Value} {w:World} (h:DS b k l zs a t c es v w) (hl:es.length<=100) (s:Int) (m:0<=s/\s<=1000000000000) (hb:0<=c.bk/\c.bk<=1000000000000) :
  Calls prog 323 #[.pointer (some (qzA b 0)),qzI s] w (DR b k l zs a t w (.tuple #[]) ⟨c.iss,c.acq,c.cur,c.am,c.st,c.rsn,c.cl,c.bk+s,c.fee,c.cop,c.sta,c.due⟩ (H0 c es c.acq c.iss s)):=by
 have F:Hid (DS b k l zs a t c es v w):=h;have S:Hid (b<w.heap.size):=h.lt
 have r:Hid (∀ u,BW w u->Calls prog 321 #[.pointer (some (qzA b 0)),qzI c.acq,qzI c.iss,qzI s] u (DR b k l zs a t u (.tuple #[]) c (H0 c es c.acq c.iss s))):=fun u hu=>J1 (h.below hu) hl c.acq c.iss s
 have c0:=h.db.cb.f0;have c1:=h.db.cb.f1
 simp only [Nat.zero_add] at c0 c1
 obtain ⟨x,n⟩:∃ x,c.acq=x:=⟨_,rfl⟩;obtain ⟨y,hy⟩:∃ y,c.iss=y:=⟨_,rfl⟩;obtain ⟨M,H⟩:∃ M,H0 c es c.acq c.iss s=M:=⟨_,rfl⟩;rw [H] at r ⊢;rw [n] at c1;rw [hy] at c0;rw [n,hy] at r;clear h n hy H;have G:BW w w:=bR
 go_enter func323,ntmps323
 go_wp2_with fail
 go_region_with (go_at_call 321;(first | with_reducible refine (r.o _ G).mono ?_ | with_reducible refine (r.o _ G.drew).mono ?_);rintro e p ⟨rfl,J,d⟩;(first | (have i:Hid (Below b w p):=(Below.refl b w).trans d) | (have i:Hid (Below b w p):=((Below.refl b w).drew).trans d));obtain ⟨O,B⟩:=J;have L:Hid _:=B;have I:=B.db.cb.f7;have R:=B.db.fz.z7;simp only [Nat.zero_add] at I R;clear B d)
 all_goals
  obtain ⟨z,D⟩:∃ z,c.bk=z:=⟨_,rfl⟩;rw [D] at I hb
  have N:Hid (z+s=c.bk+s):=by rw [Hid,D]
  clear D;go_wp2;go_end0
  exact ⟨rfl,⟨O,by rw [<- N.o];exact L.o.set7 (z+s)⟩,i.o.trans (Bn _ _ 7 _)⟩
theorem Z2 {b:Nat} {d:Option Addr} {f:Nat} {zs:List Int} {a:Ac} {t:Int} {c:Cs} {v:Value} {w:World} (h:DS b d f zs a t c [] v w) (hn:zs.length<=1099511627776) :
  Calls prog 292 #[.pointer (some (qzA b 0))] w (DR b d f zs a t w (qzI (Dd c a t)) (if Dd c a t=0 then ⟨c.iss,c.acq,c.cur,c.am,5,c.rsn,a.am,c.bk,c.fee,c.cop,c.sta,C6 t 15 zs⟩ else c) []):=by
 have L:Hid (DS b d f zs a t c [] v w):=h;have X:Hid (b<w.heap.size):=h.lt
 have HQ:Hid (Calls prog 322 #[.pointer (some (qzA b 0))] w fun e w'=>e=.returned (qzI (Dd c a t))/\BW w w'):=S2 h
 clear h;obtain ⟨r,hr⟩:∃ r,Dd c a t=r:=⟨_,rfl⟩;rw [hr] at HQ ⊢;clear hr
 by_cases h0:r=0
 ·subst h0
  rw [if_pos rfl]
  go_enter func292,ntmps292
  go_wp2_with fail
  refine Calls.mono HQ.o ?_;rintro e l ⟨rfl,i⟩;have A:Hid (BW w l):=i;have h:=L.o.below i;have M:=h.db.a1;have c4:=h.db.cb.f4;have c6:=h.db.cb.f6;have z4:=h.db.fz.z4;have z6:=h.db.fz.z6
  simp only [Nat.zero_add] at c4 c6 z4 z6
  have a5:Hid (DS b d f zs a t c [] v l):=h;clear i h;go_wp2_with fail
  refine (Is ((a5.o.set4 5).set6 a.am) hn 2 15 rfl).mono ?_;rintro e R ⟨rfl,j,p⟩;have H:Hid _:=j;have k:Hid (Below b w R):=(((A.o.mono (Nat.le_of_lt X.o)).trans (Bn _ _ 4 _)).trans (Bn _ _ 6 _)).trans p;clear j p;go_wp2;go_ret;exact ⟨rfl,H.o,k.o⟩
 ·rw [if_neg h0]
  have a6:(r != 0)=true:=by simpa using h0
  clear h0
  go_enter func292,ntmps292
  go_wp2_with fail
  refine Calls.mono HQ.o ?_;rintro e l ⟨rfl,i⟩;have A:Hid (BW w l):=i;clear i;go_wp2;go_ret;exact ⟨rfl,⟨v,L.o.below A.o⟩,A.o.mono (Nat.le_of_lt X.o)⟩
theorem Rl {b:Nat} {d:Option Addr} {f:Nat} {zs:List Int} {a:Ac} {t:Int} {c:Cs} {v:Value} {w:World} (h:DS b d f zs a t c [] v w) (hb:0<=c.bk/\c.bk<=1000000000000) (F:0<=c.cl/\c.cl<=1000000000000) :
  Calls prog 293 #[.pointer (some (qzA b 0))] w (DR b d f zs a t w (qzI 0) (I5 c c.cl) (Bg c c.cl)):=by
 have L:Hid (DS b d f zs a t c [] v w):=h
 have D:Hid (Calls prog 323 #[.pointer (some (qzA b 0)),qzI c.cl] w (DR b d f zs a t w (.tuple #[]) ⟨c.iss,c.acq,c.cur,c.am,c.st,c.rsn,c.cl,c.bk+c.cl,c.fee,c.cop,c.sta,c.due⟩ (Bg c c.cl))):=by
  have g:=Na h (Nat.zero_le _) c.cl F hb;rw [Le F.1] at g;exact g
 have c6:=h.db.cb.f6
 simp only [Nat.zero_add] at c6
 clear h
 go_enter func293,ntmps293
 go_wp2_with fail
 refine Calls.mono D.o ?_;rintro e l ⟨rfl,⟨W,m⟩,i⟩;have H:Hid (DS b d f zs a t ⟨c.iss,c.acq,c.cur,c.am,c.st,c.rsn,c.cl,c.bk+c.cl,c.fee,c.cop,c.sta,c.due⟩ (Bg c c.cl) W l):=m;have A:Hid (Below b w l):=i;clear m i;go_wp2_with fail
 refine (Pn H.o 5 (.inl rfl)).mono ?_;rintro e R ⟨rfl,j,p⟩;have n:Hid _:=j;have k:Hid (Below b w R):=A.o.trans p;clear j p;go_wp2;go_ret;exact ⟨rfl,n.o,k.o⟩
theorem O6 {b:Nat} {d:Option Addr} {f:Nat} {zs:List Int} {a:Ac} {t:Int} {c:Cs} {v:Value} {w:World} (h:DS b d f zs a t c [] v w) (s:Int) (hs:0<=s/\s<=1000000000000) (hb:0<=c.bk/\c.bk<=1000000000000) (Y:0<=c.fee/\c.fee<=1000000) :
  Calls prog 325 #[.pointer (some (qzA b 0)),qzI s] w (DR b d f zs a t w (qzI 0) (Es c s) (Dg c s)):=by
 have L:Hid (DS b d f zs a t c [] v w):=h;have X:Hid (b<w.heap.size):=h.lt
 have D:Hid (Calls prog 323 #[.pointer (some (qzA b 0)),qzI s] w (DR b d f zs a t w (.tuple #[]) ⟨c.iss,c.acq,c.cur,c.am,c.st,c.rsn,c.cl,c.bk+s,c.fee,c.cop,c.sta,c.due⟩ (Bg c s))):=by
  have g:=Na h (Nat.zero_le _) s hs hb;rw [Le hs.1] at g;exact g
 have HT:Hid ((Bg c s).length<=100):=by rw [Hid,<- Le hs.1];have:=eT c [] c.acq c.iss s;simp only [List.length_nil] at this;omega
 have c0:=h.db.cb.f0;have c1:=h.db.cb.f1;have c6:=h.db.cb.f6
 simp only [Nat.zero_add] at c0 c1 c6
 obtain ⟨y,hy⟩:∃ y,c.cl=y:=⟨_,rfl⟩;have HY:Hid _:=hy;rw [hy] at c6;obtain ⟨lo,O⟩:∃ lo,Oo c s=lo:=⟨_,rfl⟩;have T:Hid _:=O
 have HE:Hid (Dg c s=Bg c s++[(lo,9999,c.cur,50000)]):=by rw [Hid,Dg,O]
 obtain ⟨fe,N⟩:∃ fe,c.fee=fe:=⟨_,rfl⟩;have B:Hid _:=N;rw [N] at Y;clear h hy O N hb
 by_cases F:y<=2*s
 ·have Z:Hid (lo=c.acq):=by rw [Hid,<- T.o,Oo,HY.o,if_pos F]
  go_enter func325,ntmps325
  go_wp2_with fail
  refine Calls.mono D.o ?_;rintro e l ⟨rfl,⟨W,m⟩,i⟩;have H:Hid (DS b d f zs a t ⟨c.iss,c.acq,c.cur,c.am,c.st,c.rsn,c.cl,c.bk+s,c.fee,c.cop,c.sta,c.due⟩ (Bg c s) W l):=m;have A:Hid (Below b w l):=i;clear m i;go_wp2_with fail
  refine (J1 H.o HT.o _ 9999 50000).mono ?_;rintro e R ⟨rfl,⟨v2,j⟩,p⟩;have k:Hid (Below b w R):=A.o.trans p;have V:=j.db.cb.f8;have z8:=j.db.fz.z8
  simp only [Nat.zero_add] at V z8
  rw [B.o] at V;have n:Hid _:=j;clear j p;go_wp2_with fail
  refine (Pn (n.o.set8 (fe+50000)) 7 (.inr (.inl rfl))).mono ?_;rintro e w3 ⟨rfl,⟨v3,S⟩,U⟩;have I:Hid _:=S;have G:Hid (Below b w w3):=(k.o.trans (Bn _ _ 8 _)).trans U;clear S U;go_wp2;go_ret;refine ⟨rfl,⟨v3,?_⟩,G.o⟩;rw [HE.o,Z.o,Es,B.o];exact I.o
 ·have Z:Hid (lo=c.iss):=by rw [Hid,<- T.o,Oo,HY.o,if_neg F]
  go_enter func325,ntmps325
  go_wp2_with fail
  refine Calls.mono D.o ?_;rintro e l ⟨rfl,⟨W,m⟩,i⟩;have H:Hid (DS b d f zs a t ⟨c.iss,c.acq,c.cur,c.am,c.st,c.rsn,c.cl,c.bk+s,c.fee,c.cop,c.sta,c.due⟩ (Bg c s) W l):=m;have A:Hid (Below b w l):=i;clear m i;go_wp2_with fail
  refine (J1 H.o HT.o _ 9999 50000).mono ?_;rintro e R ⟨rfl,⟨v2,j⟩,p⟩;have k:Hid (Below b w R):=A.o.trans p;have V:=j.db.cb.f8;have z8:=j.db.fz.z8
  simp only [Nat.zero_add] at V z8
  rw [B.o] at V;have n:Hid _:=j;clear j p;go_wp2_with fail
  refine (Pn (n.o.set8 (fe+50000)) 7 (.inr (.inl rfl))).mono ?_;rintro e w3 ⟨rfl,⟨v3,S⟩,U⟩;have I:Hid _:=S;have G:Hid (Below b w w3):=(k.o.trans (Bn _ _ 8 _)).trans U;clear S U;go_wp2;go_ret;refine ⟨rfl,⟨v3,?_⟩,G.o⟩;rw [HE.o,Z.o,Es,B.o];exact I.o
theorem mB {b:Nat} {d:Option Addr} {f:Nat} {zs:List Int} {a:Ac} {t:Int} {c:Cs} {v:Value} {w:World} (h:DS b d f zs a t c [] v w) (hb:0<=c.bk/\c.bk<=1000000000000) (F:0<=c.cl/\c.cl<=1000000000000) (Y:0<=c.fee/\c.fee<=1000000) :
  Calls prog 295 #[.pointer (some (qzA b 0))] w (DR b d f zs a t w (qzI (if 0<=a.am/\a.am<=c.cl then 0 else 2)) (if 0<=a.am/\a.am<=c.cl then Es c a.am else c) (if 0<=a.am/\a.am<=c.cl then Dg c a.am else [])):=by
 have L:Hid (DS b d f zs a t c [] v w):=h;have X:Hid (b<w.heap.size):=h.lt;have M:=h.db.a1;have c6:=h.db.cb.f6
 simp only [Nat.zero_add] at c6
 have D:Hid (0<=a.am/\a.am<=c.cl->∀ u,BW w u->Calls prog 325 #[.pointer (some (qzA b 0)),qzI a.am] u (DR b d f zs a t u (qzI 0) (Es c a.am) (Dg c a.am))):=fun hx u hu=>O6 (h.below hu) a.am ⟨hx.1,by omega⟩ hb Y
 clear h hb Y
 by_cases hx:0<=a.am/\a.am<=c.cl
 ·rw [if_pos hx,if_pos hx,if_pos hx]
  have J:Hid (∀ u,BW w u->Calls prog 325 #[.pointer (some (qzA b 0)),qzI a.am] u (DR b d f zs a t u (qzI 0) (Es c a.am) (Dg c a.am))):=D.o hx;obtain ⟨x,q⟩:∃ x,a.am=x:=⟨_,rfl⟩;obtain ⟨y,z⟩:∃ y,c.cl=y:=⟨_,rfl⟩;obtain ⟨C,hC⟩:∃ C,Es c a.am=C:=⟨_,rfl⟩;obtain ⟨E,hE⟩:∃ E,Dg c a.am=E:=⟨_,rfl⟩;rw [hC,hE] at J ⊢;rw [q] at M hx J;rw [z] at c6 hx;obtain ⟨h1,h2⟩:=hx;clear q z hC hE D F;have b0:BW w w:=bR
  go_enter func295,ntmps295
  go_wp2
  go_quiet (fail)
  all_goals
   go_wp2_with fail
   refine (J.o _ (below_drewN b0 _)).mono ?_;rintro e l ⟨rfl,m,i⟩;have a4:Hid _:=m;have a3:Hid (Below b w l):=(below_drewN (Below.refl b w) _).trans i;clear m i;go_wp2;go_ret;exact ⟨rfl,a4.o,a3.o⟩
 ·rw [if_neg hx,if_neg hx,if_neg hx]
  obtain ⟨x,q⟩:∃ x,a.am=x:=⟨_,rfl⟩;obtain ⟨y,z⟩:∃ y,c.cl=y:=⟨_,rfl⟩;rw [q] at M hx;rw [z] at c6 hx;clear q z D F
  by_cases h1:x<0
  ·clear hx
   go_enter func295,ntmps295
   go_wp2
   go_quiet (fail)
   all_goals
    go_wp2;go_ret;exact ⟨rfl,⟨v,L.o.below (below_drewN bR _)⟩,below_drewN bR _⟩
  ·have h2:y<x:=by omega
   clear hx
   go_enter func295,ntmps295
   go_wp2
   go_quiet (fail)
   all_goals
    go_wp2;go_ret;exact ⟨rfl,⟨v,L.o.below (below_drewN bR _)⟩,below_drewN bR _⟩
structure AB (h:Nat) (a:Ac) (u:World):Prop where
 c0:u.cell? (qzA h 0)=some (qzI a.kind)
 c1:u.cell? (qzA h 1)=some (qzI a.am)
 c2:u.cell? (qzA h 2)=some (qzI a.rsn)
 z0:u.frozen? (qzA h 0)=false
 z1:u.frozen? (qzA h 1)=false
 z2:u.frozen? (qzA h 2)=false
theorem AB.lt {h:Nat} {a:Ac} {u:World} (x:AB h a u):h<u.heap.size:=World.block_lt_of_cell? u _ x.c0
theorem AB.grown {h:Nat} {a:Ac} {u f:World} {row:Option Nat} (x:AB h a u) (g:u.grownBy f row) (d:some h≠row):AB h a f:=by
 have l:=x.lt;exact ⟨(g.cell_far (qzA h 0) l d).trans x.c0,(g.cell_far (qzA h 1) l d).trans x.c1,(g.cell_far (qzA h 2) l d).trans x.c2,(g.frozen_far (qzA h 0) l d).trans x.z0,(g.frozen_far (qzA h 1) l d).trans x.z1,(g.frozen_far (qzA h 2) l d).trans x.z2⟩
theorem AB.new (w:World) (a:Ac) (t:TypeId):AB w.heap.size a (w.alloc (.cells #[qzI a.kind,qzI a.am,qzI a.rsn] t)) :=
 ⟨by simp,by simp,by simp,by simp [go_sem],by simp [go_sem],by simp [go_sem]⟩
theorem AB.set0 {h:Nat} {a:Ac} {u:World} (q:AB h a u) (x:Int):AB h ⟨x,a.am,a.rsn⟩ (u.setCell (qzA h 0) (qzI x)):=by
 obtain ⟨c0,c1,c2,z0,z1,z2⟩:=q
 constructor<;>simp [go_sem, *]
theorem AB.set1 {h:Nat} {a:Ac} {u:World} (q:AB h a u) (x:Int):AB h ⟨a.kind,x,a.rsn⟩ (u.setCell (qzA h 1) (qzI x)):=by
 obtain ⟨c0,c1,c2,z0,z1,z2⟩:=q
 constructor<;>simp [go_sem, *]
theorem AB.set2 {h:Nat} {a:Ac} {u:World} (q:AB h a u) (x:Int):AB h ⟨a.kind,a.am,x⟩ (u.setCell (qzA h 2) (qzI x)):=by
 obtain ⟨c0,c1,c2,z0,z1,z2⟩:=q
 constructor<;>simp [go_sem, *]
structure AS (B g:Nat) (w:World) (k:Cs) (h:Nat) (a:Ac) (u:World):Prop where
 cb:CB w.heap.size 0 k u
 rb:AB (w.heap.size+1) ⟨0,0,0⟩ u
 ab:AB h a u
 cur:A2 B u g
 gr:w.grownBy u (some g)
 gl:g<w.heap.size
 hl:w.heap.size+1<h
 bl:B<=w.heap.size
theorem AS.call {B g:Nat} {w:World} {k:Cs} {h:Nat} {a:Ac} {u f:World} (q:AS B g w k h a u) (c:A2 B f g) (r:u.grownBy f (some g)):AS B g w k h a f :=
 ⟨q.cb.grown r (by have:=q.gl;simp;omega),q.rb.grown r (by have:=q.gl;simp;omega),q.ab.grown r (by have:=q.gl;have:=q.hl;simp;omega),c,q.gr.trans r,q.gl,q.hl,q.bl⟩
theorem AS.alloc {B g:Nat} {w:World} {k:Cs} {h:Nat} {a:Ac} {u:World} (q:AS B g w k h a u) (o:Obj):AS B g w k h a (u.alloc o) :=
 q.call (A3 q.cur o) (World.grownBy_alloc u o _)
theorem AS.at {B g:Nat} {w:World} {k:Cs} {h:Nat} {a m:Ac} {u:World} (q:AS B g w k h a u) (i:Nat) (x:Value) (e:AB h m (u.setCell (qzA h i) x)):AS B g w k h m (u.setCell (qzA h i) x):=by
 have l:=q.hl;have gl:=q.gl;have b:Below h u (u.setCell (qzA h i) x):=Bn u h i x
 refine ⟨q.cb.under b (by omega),?_,e,L1 q.cur (b.mono (by have:=q.bl;omega)),⟨b.os.trans q.gr.os,b.tape.trans q.gr.tape,b.output.trans q.gr.output,Nat.le_trans q.gr.size b.size,fun j hj hne=>(b.block j (by omega)).trans (q.gr.block j hj hne)⟩,gl,l,q.bl⟩
 ·obtain ⟨c0,c1,c2,z0,z1,z2⟩:=q.rb
  exact ⟨(b.cell (p:=⟨w.heap.size+1,0,none⟩) l).trans c0,(b.cell (p:=⟨w.heap.size+1,1,none⟩) l).trans c1,(b.cell (p:=⟨w.heap.size+1,2,none⟩) l).trans c2,(b.frozen (p:=⟨w.heap.size+1,0,none⟩) l).trans z0,(b.frozen (p:=⟨w.heap.size+1,1,none⟩) l).trans z1,(b.frozen (p:=⟨w.heap.size+1,2,none⟩) l).trans z2⟩
structure AZ (B g:Nat) (w:World) (k:Cs) (u:World) (a d:Option Nat):Prop where
 cb:CB w.heap.size 0 k u
 rb:AB (w.heap.size+1) ⟨0,0,0⟩ u
 cur:A2 B u g
 gr:w.grownBy u (some g)
 gl:g<w.heap.size
 bl:B<=w.heap.size
 box:∀ h,a=some h->w.heap.size+1<h/\AB h ⟨0,0,0⟩ u
 ls:∀ b,d=some b->w.heap.size+1<b/\∀ i,i<6->u.cell? (qzA b i)=some (qzI (rL.getD i 0))
theorem AZ.call {B g:Nat} {w:World} {k:Cs} {u l:World} {a d:Option Nat} (q:AZ B g w k u a d) (c:A2 B l g) (r:u.grownBy l (some g)):AZ B g w k l a d:=by
 have gl:=q.gl
 refine ⟨q.cb.grown r (by simp;omega),q.rb.grown r (by simp;omega),c,q.gr.trans r,gl,q.bl,fun h hh=>?_,fun b hb=>?_⟩
 ·obtain ⟨j,f⟩:=q.box h hh
  exact ⟨j,f.grown r (by simp;omega)⟩
 ·obtain ⟨j,f⟩:=q.ls b hb
  exact ⟨j,fun i hi=>(r.cell_far (qzA b i) (World.block_lt_of_cell? u _ (f i hi)) (by simp;omega)).trans (f i hi)⟩
theorem AZ.drew {B g:Nat} {w:World} {k:Cs} {u:World} {a d:Option Nat} (q:AZ B g w k u a d):AZ B g w k u.drew a d:=q.call (B9 q.cur (bR.drew)) ⟨rfl,rfl,rfl,nL,fun _ _ _=>rfl⟩
theorem AZ.al {B g:Nat} {w:World} {k:Cs} {u:World} {d:Option Nat} (q:AZ B g w k u none d) (t:TypeId):AZ B g w k (u.alloc (.cells #[qzI 0,qzI 0,qzI 0] t)) (some u.heap.size) d:=by
 have p:=q.call (A3 q.cur (.cells #[qzI 0,qzI 0,qzI 0] t)) (World.grownBy_alloc u _ _)
 refine ⟨p.cb,p.rb,p.cur,p.gr,p.gl,p.bl,fun h hh=>?_,p.ls⟩
 injection hh with hh
 subst hh;exact ⟨q.rb.lt,AB.new u ⟨0,0,0⟩ t⟩
theorem AZ.lit {B g:Nat} {w:World} {k:Cs} {u:World} {a:Option Nat} (q:AZ B g w k u a none) (t:TypeId):AZ B g w k (u.alloc (.cells #[qzI 4837,qzI 4855,qzI 4834,qzI 4831,qzI 4853,qzI 4841] t)) a (some u.heap.size):=by
 have p:=q.call (A3 q.cur (.cells #[qzI 4837,qzI 4855,qzI 4834,qzI 4831,qzI 4853,qzI 4841] t)) (World.grownBy_alloc u _ _)
 refine ⟨p.cb,p.rb,p.cur,p.gr,p.gl,p.bl,p.box,fun b hb=>?_⟩
 injection hb with hb
 subst hb
 refine ⟨q.rb.lt,fun i hi=>?_⟩
 rcases (show i=0\/i=1\/i=2\/i=3\/i=4\/i=5 by omega) with rfl | rfl | rfl | rfl | rfl | rfl <;> simp [rL]
theorem O7 {B g:Nat} {w:World} {k:Cs} {u:World} {d c:Option Nat} (z:AZ B g w k u d c) (n:Int) (o:n<=1099511627776) :
  Calls prog 79 #[.pointer (some (qzA g 0)),qzI n] u fun e u'=>∃ x:Int,e=.returned (qzI x)/\0<=x/\(1<=n->x<n)/\AZ B g w k u' d c :=
 (K8 g n u z.cur o).mono fun _ _ ⟨x,he,h0,f,hc,hg⟩=>⟨x,he,h0,f,z.call hc hg⟩
theorem Aec {B g:Nat} {w:World} {k:Cs} {u:World} {d:Option Nat} {b:Nat} (z:AZ B g w k u d (some b)) :
  Calls prog 131 #[.pointer (some (qzA g 0)),.slice (some (qzA b 0)) 6 6] u fun e u'=>∃ x:Int,e=.returned (qzI x)/\x ∈ rL/\AZ B g w k u' d (some b):=by
 obtain ⟨f,j⟩:=z.ls b rfl
 exact (W8 g b 6 rL u z.cur (by have:=z.gl;omega) (fun i hi=>j i (by simpa [rL] using hi)) (by decide) (by decide)).mono fun _ _ ⟨x,he,hx,hc,hg⟩=>⟨x,he,hx,z.call hc hg⟩
theorem AZ.now3 {B g:Nat} {w:World} {k:Cs} {u:World} {d c:Option Nat} (z:AZ B g w k u d c):u.cell? ⟨w.heap.size,3,none⟩=some (qzI k.am):=by have:=z.cb.f3;simpa using this
theorem AS.new {B g:Nat} {w:World} {k:Cs} {u:World} {c:Option Nat} (z:AZ B g w k u none c) (a:Ac) (t:TypeId):AS B g w k u.heap.size a (u.alloc (.cells #[qzI a.kind,qzI a.am,qzI a.rsn] t)):=by
 have p:=z.call (A3 z.cur (.cells #[qzI a.kind,qzI a.am,qzI a.rsn] t)) (World.grownBy_alloc u _ _);exact ⟨p.cb,p.rb,AB.new u a t,p.cur,p.gr,p.gl,z.rb.lt,p.bl⟩
theorem AS.of {B g:Nat} {w:World} {k:Cs} {u:World} {h:Nat} {c:Option Nat} (z:AZ B g w k u (some h) c) (a:Ac):AS B g w k h a (((u.setCell (qzA h 0) (qzI a.kind)).setCell (qzA h 1) (qzI a.am)).setCell (qzA h 2) (qzI a.rsn)):=by
 obtain ⟨f,j⟩:=z.box h rfl;have q:AS B g w k h ⟨0,0,0⟩ u:=⟨z.cb,z.rb,j,z.cur,z.gr,z.gl,f,z.bl⟩;have l:=q.at 0 _ (q.ab.set0 a.kind);have m:=l.at 1 _ (l.ab.set1 a.am);exact m.at 2 _ (m.ab.set2 a.rsn)
namespace Kb
open Go.RowKit Go.Extern.Stop Go.Stop Go.Extern Go.Proofs.Tryz
theorem xW (t:Addr) (w:World):(ReflectliteValue.unpack (.iface 172 (.pointer (some t)))).run prog w
  = .ok (.agg #[.pointer (some (qzA 17 172)),.pointer (some ⟨w.heap.size,0,none⟩),.int .u64 150]) (w.alloc (.cells #[.pointer (some t)] 172)):=by kernel_rfl
theorem Abw (a : Addr) (w : World) : (ReflectliteValue.methodAny (ReflectliteValue.valueError "reflectlite.Value.Type" 0) (fun t _ _ _ => ReflectliteType.toType t) #[.agg #[.pointer (some ⟨17, 172, none⟩), .pointer (some a), .int .u64 150]]).run prog w
  = .ok (.iface 247 (.agg #[.pointer (some (qzA 17 172))])) w:=by kernel_rfl
theorem vR (h : Value) (w : World) : (Go.method 501 247 (.agg #[h]) "Kind").run prog w = .ok (376, h) w := by kernel_rfl
theorem Ab4 (w:World):((ReflectliteType.abiMethod fun t=>(fun a:Nat=>Value.int IntKind.u8 (a:Int)) <$> Rtype.kind t) #[.pointer (some (qzA 17 172))]).run prog w=.ok (.int .u8 22) w:=by kernel_rfl
theorem Aa8 (w:World):((ReflectliteType.abiMethod fun t=>(fun a:Nat=>Value.int IntKind.u8 (a:Int)) <$> Rtype.kind t) #[.pointer (some (qzA 17 170))]).run prog w=.ok (.int .u8 25) w:=by kernel_rfl
theorem Abk (z:Sem Value) (f:TypeId->Addr->Nat->Nat->Sem Value) (v:Value) :
  ReflectliteValue.method z f #[v]=(do match <- ReflectliteValue.parts v with | none=>z | some (t,a,fl)=>f t a fl (fl % 32)):=rfl
theorem vX (a:Addr) (w:World):(ReflectliteValue.parts (.agg #[.pointer (some (qzA 17 172)),.pointer (some a),.int .u64 150])).run prog w=.ok (some (172,a,150)) w:=by kernel_rfl
theorem Aaf (a p:Addr) (W:World) (c:W.cell? a=some (.pointer (some p))) :
  (ReflectliteValue.method (ReflectliteValue.valueError "reflectlite.Value.IsNil" 0) ReflectliteValue.isNil #[.agg #[.pointer (some ⟨17, 172, none⟩), .pointer (some a), .int .u64 150]]).run prog W = .ok (.bool false) W := by
 rw [Abk]
 simp only [Sem.run_bind,vX,Result.andThen]
 simp [ReflectliteValue.isNil,loadVar,isAgg,underlying,underlying172,c,Result.andThen]
theorem vU (h : Value) (w : World) : (Go.method 501 247 (.agg #[h]) "Elem").run prog w = .ok (391, .agg #[h]) w := by kernel_rfl
theorem uE (h : Value) (w : World) : (Go.method 501 247 (.agg #[h]) "Implements").run prog w = .ok (392, .agg #[h]) w := by kernel_rfl
theorem nE (h : Value) (w : World) : (Go.method 501 247 (.agg #[h]) "AssignableTo").run prog w = .ok (389, .agg #[h]) w := by kernel_rfl
theorem Acj (w:World):(ReflectliteType.method ReflectliteType.elem #[.agg #[.pointer (some (qzA 17 172))]]).run prog w=.ok (.iface 247 (.agg #[.pointer (some (qzA 17 170))])) w:=by kernel_rfl
theorem Acd (w : World) : (ReflectliteType.relation "Implements" ReflectliteType.implements_ #[.agg #[.pointer (some ⟨17, 170, none⟩)], .iface 247 (.agg #[.pointer (some ⟨17, 104, none⟩)])]).run prog w = .ok (.bool true) w := by kernel_rfl
theorem zG (v:Value) (w:World):(ReflectliteType.typeOf #[.iface 170 v]).run prog w=.ok (.iface 247 (.agg #[.pointer (some (qzA 17 170))])) w:=by kernel_rfl
theorem Abb (w : World) : (ReflectliteType.relation "AssignableTo" ReflectliteType.assignableTo #[.agg #[.pointer (some ⟨17, 170, none⟩)], .iface 247 (.agg #[.pointer (some ⟨17, 170, none⟩)])]).run prog w = .ok (.bool true) w := by kernel_rfl
theorem xA (d:TypeId) (y:Value) (a:Int) (w:World):(ReflectliteValue.unpack (.iface 170 (.agg #[.iface d y,qzI a]))).run prog w
  = .ok (.agg #[.pointer (some (qzA 17 170)),.pointer (some ⟨w.heap.size,0,none⟩),.int .u64 153]) (w.alloc (.cells #[.iface d y,qzI a] 170)):=by kernel_rfl
theorem yM (w:World):(Rtype.elem? 172).run prog w=.ok (some 170) w:=by kernel_rfl
theorem Aeg (p:Addr) (w:World):(ReflectliteValue.mk 170 p ReflectliteValue.flagAddr).run prog w=.ok (.agg #[.pointer (some (qzA 17 170)),.pointer (some p),.int .u64 409]) w:=by kernel_rfl
theorem Aak (a p:Addr) (W:World) (c:W.cell? a=some (.pointer (some p))) :
  (ReflectliteValue.method (ReflectliteValue.valueError "reflectlite.Value.Elem" 0) ReflectliteValue.elem #[.agg #[.pointer (some ⟨17, 172, none⟩), .pointer (some a), .int .u64 150]]).run prog W
   = .ok (.agg #[.pointer (some (qzA 17 170)),.pointer (some p),.int .u64 409]) W:=by
 rw [Abk]
 simp only [Sem.run_bind,vX,Result.andThen]
 simp [ReflectliteValue.elem,loadVar,isAgg,underlying,underlying172,c,Result.andThen,yM,Aeg]
theorem Aed (v x:Value):ReflectliteValue.set #[v,x]=(do
  let (some (dst,a,fl),some (src,b,_)):=(<- ReflectliteValue.parts v,<- ReflectliteValue.parts x)
   | unsupported (.noEntry "extern/(internal/reflectlite.Value).Set.zeroValue")
  if fl / ReflectliteValue.flagAddr % 2 == 0 then unsupported (.noEntry "extern/(internal/reflectlite.Value).Set.unaddressable")
  let val <- loadVar src b
  if <- Rtype.directlyAssignable dst src then storeVar dst a val
  else if <- Rtype.implements dst src then
   if (<- Rtype.kind src) == 20 then
    match val with
    | .nilIface => unsupported (.noEntry "extern/reflectlite: a nil value of one interface type handed on as a value of another")
    | _=>storeVar dst a val
   else storeVar dst a (.iface src val)
  else panicString ("reflectlite.Set: value of type " ++ (<- Rtype.spelt src) ++ " is not assignable to type " ++ (<- Rtype.spelt dst))
  pure (.tuple #[])):=rfl
theorem Aa4 (a:Addr) (w:World):(ReflectliteValue.parts (.agg #[.pointer (some (qzA 17 170)),.pointer (some a),.int .u64 409])).run prog w=.ok (some (170,a,409)) w:=by kernel_rfl
theorem Aar (a:Addr) (w:World):(ReflectliteValue.parts (.agg #[.pointer (some (qzA 17 170)),.pointer (some a),.int .u64 153])).run prog w=.ok (some (170,a,153)) w:=by kernel_rfl
theorem yQ (w:World):(Rtype.directlyAssignable 170 170).run prog w=.ok true w:=by kernel_rfl
theorem Ads (B:Nat) (b:TypeId) (y:Value) (a:Int) (W:World) (d:W.cell? (qzA B 0)=some (.iface b y)) (f:W.cell? (qzA B 1)=some (qzI a)) :
  (loadVar 170 (qzA B 0)).run prog W=.ok (.agg #[.iface b y,qzI a]) W:=by
 simp [loadVar,isAgg,underlying,underlying170,loadCells,loadCellsFrom,Addr.add,d,f,Result.andThen]
theorem Ace (T:Nat) (b:TypeId) (y:Value) (a:Int) (g i:Value) (W:World) (d:W.cell? (qzA T 0)=some g) (f:W.cell? (qzA T 1)=some i) (f0:W.frozen? (qzA T 0)=false) (f1:W.frozen? (qzA T 1)=false) :
  (storeVar 170 (qzA T 0) (.agg #[.iface b y,qzI a])).run prog W=.ok () ((W.setCell (qzA T 0) (.iface b y)).setCell (qzA T 1) (qzI a)):=by
 simp [storeVar,Value.cells,storeCells,Addr.add,Result.andThen,d,f,f0,f1,go_sem]
theorem Adg (T B:Nat) (b:TypeId) (y:Value) (a:Int) (g i:Value) (W:World) (k:W.cell? (qzA B 0)=some (.iface b y)) (l:W.cell? (qzA B 1)=some (qzI a)) (d:W.cell? (qzA T 0)=some g) (f:W.cell? (qzA T 1)=some i) (f0:W.frozen? (qzA T 0)=false) (f1:W.frozen? (qzA T 1)=false) :
  (ReflectliteValue.set #[.agg #[.pointer (some (qzA 17 170)),.pointer (some (qzA T 0)),.int .u64 409],.agg #[.pointer (some (qzA 17 170)),.pointer (some (qzA B 0)),.int .u64 153]]).run prog W
   = .ok (.tuple #[]) ((W.setCell (qzA T 0) (.iface b y)).setCell (qzA T 1) (qzI a)):=by
 rw [Aed]
 simp only [Sem.run_bind,Aa4,Aar,Result.andThen]
 simp [ReflectliteValue.flagAddr,Ads B b y a W k l,yQ,Ace T b y a g i W d f f0 f1,Result.andThen]
def mU (w:World):Prop:=w.cell? (qzA 2 0)=some (.iface 247 (.agg #[.pointer (some (qzA 17 104))]))
theorem mU.below {w w':World} (h:mU w) (hb:BW w w'):mU w':=(hb.cell (p:=(qzA 2 0)) (World.block_lt_of_cell? w _ h)).trans h
theorem Ad7 (b:TypeId) (y:Value) (a:Int) (T:Nat) (g i:Value) (w:World) (hg:mU w) (d:w.cell? (qzA T 0)=some g) (f:w.cell? (qzA T 1)=some i) (f0:w.frozen? (qzA T 0)=false) (f1:w.frozen? (qzA T 1)=false) :
  Calls prog 136 #[.iface 170 (.agg #[.iface b y,qzI a]),.iface 172 (.pointer (some (qzA T 0)))] w fun ev w'=>ev=.returned (.bool true) /\
   ∃ w4,BW w w4/\w'=(w4.setCell (qzA T 0) (.iface b y)).setCell (qzA T 1) (qzI a):=by
 have q:=@run_callFunc_extern prog 168 _ (fun args=>ReflectliteValue.unpack (args.getD 0 (.tuple #[]))) func168 (by kernel_rfl) (by kernel_rfl) (by kernel_rfl) (by kernel_rfl)
 have r := @run_callFunc_extern prog 169 _ (ReflectliteValue.methodAny (ReflectliteValue.valueError "reflectlite.Value.Type" 0) (fun t _ _ _ => ReflectliteType.toType t)) func169 (by kernel_rfl) (by kernel_rfl) (by kernel_rfl) (by kernel_rfl)
 have s := @run_callFunc_extern prog 170 _ (ReflectliteValue.method (ReflectliteValue.valueError "reflectlite.Value.IsNil" 0) ReflectliteValue.isNil) func170 (by kernel_rfl) (by kernel_rfl) (by kernel_rfl) (by kernel_rfl)
 have z:=@run_callFunc_extern prog 376 _ (ReflectliteType.abiMethod fun t=>do pure (.int .u8 (<- Rtype.kind t))) func376 (by kernel_rfl) (by kernel_rfl) (by kernel_rfl) (by kernel_rfl)
 have v:=@run_callFunc_extern prog 391 _ (ReflectliteType.method ReflectliteType.elem) func391 (by kernel_rfl) (by kernel_rfl) (by kernel_rfl) (by kernel_rfl)
 have x := @run_callFunc_extern prog 392 _ (ReflectliteType.relation "Implements" ReflectliteType.implements_) func392 (by kernel_rfl) (by kernel_rfl) (by kernel_rfl) (by kernel_rfl)
 have A:=@run_callFunc_extern prog 164 _ ReflectliteType.typeOf func164 (by kernel_rfl) (by kernel_rfl) (by kernel_rfl) (by kernel_rfl)
 have u := @run_callFunc_extern prog 389 _ (ReflectliteType.relation "AssignableTo" ReflectliteType.assignableTo) func389 (by kernel_rfl) (by kernel_rfl) (by kernel_rfl) (by kernel_rfl)
 have C := @run_callFunc_extern prog 204 _ (ReflectliteValue.method (ReflectliteValue.valueError "reflectlite.Value.Elem" 0) ReflectliteValue.elem) func204 (by kernel_rfl) (by kernel_rfl) (by kernel_rfl) (by kernel_rfl)
 have D:=@run_callFunc_extern prog 205 _ ReflectliteValue.set func205 (by kernel_rfl) (by kernel_rfl) (by kernel_rfl) (by kernel_rfl)
 have tO:=zG;have J:=nE;have G:=Abb;have M:=xA;have L:=xW;have tP:=Abw;have mK:=vR;have mE:=vU;have mI:=uE;have I:=Ab4;have kS:=Aa8;have eP:=Acj;have H:=Acd;obtain ⟨j,c⟩:∃ W,(w.alloc (.cells #[.pointer (some (qzA T 0))] 172)).alloc (.cells #[.pointer (some (qzA 17 172)),.pointer (some ⟨w.heap.size,0,none⟩),.int .u64 150] 206)=W:=⟨_,rfl⟩;have hT:T<w.heap.size:=World.block_lt_of_cell? w _ d;have m:2<w.heap.size:=World.block_lt_of_cell? w _ hg
 have n8:=Aaf ⟨w.heap.size,0,none⟩ (qzA T 0) j (by rw [<- c];simp)
 have F:j.cell? (qzA 2 0)=some (.iface 247 (.agg #[.pointer (some (qzA 17 104))])):=by
  rw [<- c,World.cell?_alloc_lt _ _ (qzA 2 0) (by have:=m;simp only [World.size_alloc];omega),World.cell?_alloc_lt _ _ (qzA 2 0) m];exact hg
 have el:=Aak ⟨w.heap.size,0,none⟩ (qzA T 0) (j.alloc (.cells #[.pointer (some (qzA 17 172)),.pointer (some ⟨w.heap.size,0,none⟩),.int .u64 150] 206)) (by rw [World.cell?_alloc_lt _ _ ⟨w.heap.size,0,none⟩ (by rw [<- c];simp;omega),<- c];simp)
 subst c
 have st:=Adg T (w.heap.size+1+1+1) b y a g i ((((w.alloc (.cells #[.pointer (some (qzA T 0))] 172)).alloc (.cells #[.pointer (some (qzA 17 172)),.pointer (some ⟨w.heap.size,0,none⟩),.int .u64 150] 206)).alloc (.cells #[.pointer (some (qzA 17 172)),.pointer (some ⟨w.heap.size,0,none⟩),.int .u64 150] 206)).alloc (.cells #[.iface b y,qzI a] 170))
  (by rw [World.cell?_alloc_at _ _ _ _ (by simp)];rfl)
  (by rw [World.cell?_alloc_at _ _ _ _ (by simp)];rfl)
  (by rw [World.cell?_alloc_lt _ _ (qzA T 0) (by simp;omega),World.cell?_alloc_lt _ _ (qzA T 0) (by simp;omega),World.cell?_alloc_lt _ _ (qzA T 0) (by simp;omega),World.cell?_alloc_lt _ _ (qzA T 0) hT];exact d)
  (by rw [World.cell?_alloc_lt _ _ (qzA T 1) (by simp;omega),World.cell?_alloc_lt _ _ (qzA T 1) (by simp;omega),World.cell?_alloc_lt _ _ (qzA T 1) (by simp;omega),World.cell?_alloc_lt _ _ (qzA T 1) hT];exact f)
  (by rw [World.frozen?_alloc_old _ _ (qzA T 0) (by simp;omega),World.frozen?_alloc_old _ _ (qzA T 0) (by simp;omega),World.frozen?_alloc_old _ _ (qzA T 0) (by simp;omega),World.frozen?_alloc_old _ _ (qzA T 0) (Nat.ne_of_lt hT)];exact f0)
  (by rw [World.frozen?_alloc_old _ _ (qzA T 1) (by simp;omega),World.frozen?_alloc_old _ _ (qzA T 1) (by simp;omega),World.frozen?_alloc_old _ _ (qzA T 1) (by simp;omega),World.frozen?_alloc_old _ _ (qzA T 1) (Nat.ne_of_lt hT)];exact f1)
 have n:Hid (Below w.heap.size w ((((w.alloc (.cells #[.pointer (some (qzA T 0))] 172)).alloc (.cells #[.pointer (some (qzA 17 172)),.pointer (some ⟨w.heap.size,0,none⟩),.int .u64 150] 206)).alloc (.cells #[.pointer (some (qzA 17 172)),.pointer (some ⟨w.heap.size,0,none⟩),.int .u64 150] 206)).alloc (.cells #[.iface b y,qzI a] 170))) :=
  (((bR.alloc nL _).alloc (by simp) _).alloc (by simp;omega) _).alloc (by simp;omega) _
 go_enter func136,ntmps136
 go_wp2;refine wp_loop_rounds 1 ?_;rw [rounds_succ];go_wp2;go_ret;exact ⟨rfl,_,n.o,rfl⟩
end Kb
namespace Kb
theorem Aee (T:Nat) (w:World) :
  Calls prog 136 #[.nilIface,.iface 172 (.pointer (some (qzA T 0)))] w fun ev w'=>ev=.returned (.bool false)/\BW w w':=by
 go_enter func136,ntmps136
 go_wp2;go_ret;exact ⟨rfl,bR⟩
theorem Ack (w:World):Calls prog 82 #[.nilIface] w fun e w'=>e=.returned (qzI 0)/\BW w w':=by
 go_enter func82,ntmps82
 go_wp2_with fail
 refine (Aee _ _).mono ?_;rintro e n ⟨rfl,k⟩
 have h:=next (show Below w.heap.size w (w.alloc (.cells #[.nilIface,qzI 0] 170)) by go_grown) k
 clear k;go_wp2;go_ret;exact ⟨rfl,h⟩
theorem Aat (l:TypeId) (y:Value) (a:Int) (w:World) (hg:mU w):Calls prog 82 #[.iface 170 (.agg #[.iface l y,qzI a])] w fun e w'=>e=.returned (qzI a)/\BW w w':=by
 obtain ⟨W,b⟩:∃ W,W=w.alloc (.cells #[.nilIface,qzI 0] 170):=⟨_,rfl⟩
 have f:BW w W:=by rw [b];exact bR.alloc nL _
 have d:W.cell? ⟨w.heap.size,0,none⟩=some .nilIface:=by rw [b];simp [go_sem]
 have g:W.cell? ⟨w.heap.size,1,none⟩=some (qzI 0):=by rw [b];simp [go_sem]
 have f0:W.frozen? ⟨w.heap.size,0,none⟩=false:=by rw [b];simp [go_sem]
 have f1:W.frozen? ⟨w.heap.size,1,none⟩=false:=by rw [b];simp [go_sem]
 have hs:w.heap.size<W.heap.size:=World.block_lt_of_cell? W _ d;have i:=Ad7 l y a w.heap.size _ _ W (hg.below f) d g f0 f1;have j:Hid _:=b;have m:Hid _:=f;clear b f hg
 go_enter func82,ntmps82
 go_upto_region 2 with fail
 rw [<- j.o];clear j;go_wp2_with fail
 refine i.mono ?_;rintro e n ⟨rfl,q,c,rfl⟩;have c1:=(c.cell (p:=⟨w.heap.size,1,none⟩) hs).trans g;have c0:=(c.cell (p:=⟨w.heap.size,0,none⟩) hs).trans d;have h:=(m.o.trans (c.mono (Nat.le_of_lt hs)));clear d g f0 f1 i c;go_wp2;go_ret;exact ⟨rfl,(h.setCell (p:=⟨w.heap.size,0,none⟩) nL _).setCell (p:=⟨w.heap.size,1,none⟩) nL _⟩
end Kb
end Go.Proofs.YtomiclakhjncbaaGreatDoor
