import Derived.Test.YtfpafnefpmmofaaGreatDoorJW1b
namespace Go.Proofs.YtfpafnefpmmofaaGreatDoor
open Go.RowKit Go.Proofs.Tryz
set_option maxRecDepth 100000
set_option maxHeartbeats 12800000
def Gq (ls:List Ln) (k:Nat):Option Ln:=if k=0 then none else some (Cw ls (k - 1))
def Rq (p:Option Ln) (x:Ln):Bool:=match p with|none=>true|some y=>Gi y x
theorem dL (p:Option Ln) (x:Ln) (r:List Ln):Bc p (x::r)=((I3 x && Rq p x) && Bc (some x) r):=by
 cases p <;> simp [Bc,Rq]
theorem Sb (ls:List Ln) (k:Nat) (h:k<ls.length):Bc (Gq ls k) (ls.drop k)=((I3 (Cw ls k) && Rq (Gq ls k) (Cw ls k)) && Bc (Gq ls (k+1)) (ls.drop (k+1))):=by
 have e:Gq ls (k+1)=some (Cw ls k):=by simp [Gq]
 rw [Zo ls k h,dL,e]
theorem Uf (p:Option Ln) (ls:List Ln):Bc p (ls.drop ls.length)=true:=by
 rw [ji nL];cases p <;> rfl
def Lv (j:Nat) (ls:List Ln):Bool:=(I7.drop j).all λc=>decide (Gh c ls=0)
theorem Yx (j:Nat) (ls:List Ln) (h:j<8):Lv j ls=(decide (Gh (I7.getD j 0) ls=0) && Lv (j+1) ls):=by
 have hl:j<I7.length:=h
 have e:I7.getD j 0=I7[j]:=by simp [hl]
 unfold Lv
 rw [jc hl,e];rfl
theorem Aes {ls:List Ln} (h:Bc none ls=true) (cw:Int) (k:Nat):-1000000000000 * (k:Int)<=Gh cw (ls.take k)/\Gh cw (ls.take k)<=1000000000000 * (k:Int):=by
 have hm:=Ew h
 induction k with
 | zero=>simp [Gh]
 | succ k ih =>
  by_cases hk:k<ls.length
  ·rw [Tr cw ls k hk]
   have:=(Ks (hm _ (F8 hk))).2.2.1
   split <;> omega
  ·rw [List.take_of_length_le (by omega)]
   rw [List.take_of_length_le (by omega)] at ih
   omega
theorem La (ao:qm) (cap:Nat) (ls:List Ln) (w:ql) (hz:Ar w ao ls) (hn:ls.length<=1099511627776) :
  qi 195 #[.agg #[qf ao ls.length cap]] w λe w'=>e=.returned (.bool (A6 ls))/\BW w w':=by
 obtain ⟨W,hW⟩:=A0 (w.alloc (.cells #[qf ao ls.length cap] 38))
 have bW:BW w W:=by rw [hW];go_grown
 have Z:w.heap.size<W.heap.size:=by rw [hW];simp
 have HK:qj (W.cell? ⟨w.heap.size,0,none⟩=some (qf ao ls.length cap)):=by rw [qj,hW];simp
 have HZ:=Aa (hz.below bW);clear hz
 go_enter func195,ntmps195
 go_wp2;rw [<- hW];clear hW
 go_loopw [3] (λi wr=>∃ k:Nat,k<=ls.length/\i=qzI k/\Bc none ls=Bc (Gq ls k) (ls.drop k)/\BW W wr) (λi _=>ls.length - (intOf i).toNat)
 case atStart=>exact ⟨0,qw _,rfl,rfl,bR⟩
 case round =>
  obtain ⟨k,hk,rfl,b9,F⟩:=hrel;have D:=Aa b9;have k0:=(F.cell (p:=⟨w.heap.size,0,none⟩) Z).t HK.o;have b6:=F.size;have g7:=jd Z b6;clear b9
  by_cases hlt:k<ls.length
  ·have a4:(k:Int)<(ls.length:Int):=by omega
   obtain ⟨b,off,rfl,g4,c1,c2,c3⟩:=(HZ.o.below F).at hlt;have g:=Sb ls k hlt;obtain ⟨p,hp⟩:=Ae (Gq ls k);have HP:=Aa hp;rw [hp] at g D;obtain ⟨⟨x,y,z⟩,hx⟩:∃ x,Cw ls k=x:=⟨_,rfl⟩;rw [hx] at c1 c2 c3 g
   simp only at c1 c2 c3
   have f:=Aa (D.o.t g);have bx:Below W.heap.size W (wr.alloc (.cells #[qzI x,qzI y,qzI z] 151)):=F.alloc b6 _
   have a:qj (I3 (x,y,z)=false->A6 ls=false):=λh=>by
    unfold A6
    rw [f.o,h];rfl
   clear g hx hp D;have Qb:=Aa (next bW bx)
   cases h1:Cm x
   ·have l:=Aa (a.o (by simp [I3,h1]))
    have H1:=Aa h1;clear h1 f a;go_wp2_with fail
    refine (El H1.o _).m ?_;rintro e w1 ⟨rfl,hw⟩;rw [hw];clear hw;go_wp2;go_ret;exact ⟨Ab l.o.s,Qb.o⟩
   have H1:=Aa h1;obtain ⟨d,hd⟩:=Ae (D6 y);have HD:=Aa hd
   by_cases h2:d<0
   ·have l:=Aa (a.o (by simp [I3,hd];intro _ h;omega))
    clear h1 hd f a;go_wp2_with fail
    refine (El H1.o _).m ?_;rintro e w1 ⟨rfl,hw⟩;rw [hw];clear hw;go_wp2_with fail
    refine (Mw _ d HD.o).m ?_;rintro e H ⟨rfl,v⟩;have q3:=next Qb.o v;clear v;go_wp2;go_ret;exact ⟨Ab l.o.s,q3⟩
   have d2:∀ u,Below (wr.alloc (.cells #[qzI x,qzI y,qzI z] 151)).heap.size (wr.alloc (.cells #[qzI x,qzI y,qzI z] 151)) u->u.cell? ⟨wr.heap.size,0,none⟩=some (qzI x)/\u.cell? ⟨wr.heap.size,1,none⟩=some (qzI y)/\u.cell? ⟨wr.heap.size,2,none⟩=some (qzI z):=λu hu =>
    ⟨(hu.cell (p:=⟨wr.heap.size,0,none⟩) (by simp)).t (by simp),(hu.cell (p:=⟨wr.heap.size,1,none⟩) (by simp)).t (by simp),(hu.cell (p:=⟨wr.heap.size,2,none⟩) (by simp)).t (by simp)⟩
   have X:=Aa d2;clear d2
   cases h3:mOk z
   ·have l:=Aa (a.o (by simp [I3,h3]))
    have H3:=Aa h3;clear h1 hd h3 f a;go_wp2_with fail
    refine (El H1.o _).m ?_;rintro e w1 ⟨rfl,hw⟩;rw [hw];clear hw;go_wp2_with fail
    refine (Mw _ d HD.o).m ?_;rintro e H ⟨rfl,v⟩;have q3:=next Qb.o v;obtain ⟨y0,y1,y2⟩:=X.o H v;clear v;go_wp2_with fail
    refine (Mt _ _).m ?_;rintro e w4 ⟨rfl,hw⟩;rw [hw,H3.o];clear hw;go_wp2;go_ret;exact ⟨Ab l.o.s,q3⟩
   have H3:=Aa h3
   by_cases O:z=0
   ·have l:qj (A6 ls=false):=a.o (by simp [I3,O])
    have g2:(z == 0)=true:=by simpa using O
    clear h1 hd h3 f a O;go_wp2_with fail
    refine (El H1.o _).m ?_;rintro e w1 ⟨rfl,hw⟩;rw [hw];clear hw;go_wp2_with fail
    refine (Mw _ d HD.o).m ?_;rintro e H ⟨rfl,v⟩;have q3:=next Qb.o v;obtain ⟨y0,y1,y2⟩:=X.o H v;clear v;go_wp2_with fail
    refine (Mt _ _).m ?_;rintro e w4 ⟨rfl,hw⟩;rw [hw,H3.o];clear hw;go_wp2;go_ret;exact ⟨Ab l.o.s,q3⟩
   have g2:(z == 0)=false:=by simpa using O
   have T:I3 (x,y,z)=true:=by simp [I3,h1,hd,h3,O];omega
   have B:qj (Bc none ls=(Rq p (x,y,z) && Bc (Gq ls (k+1)) (ls.drop (k+1)))):=by rw [qj,f.o,T];rfl
   clear h1 hd h3 f a O T;go_wp2_with fail
   refine (El H1.o _).m ?_;rintro e w1 ⟨rfl,hw⟩;rw [hw];clear hw;go_wp2_with fail
   refine (Mw _ d HD.o).m ?_;rintro e H ⟨rfl,v⟩;have q3:=next Qb.o v;have J:=bx.t (v.m bx.size);obtain ⟨y0,y1,y2⟩:=X.o H v;have c9:=qs H _ y0;have a8:qj (Ar H (some (qzA b off)) ls):=HZ.o.below J;have j0:=(J.cell (p:=⟨w.heap.size,0,none⟩) Z).t HK.o;clear v bx c1 c2 c3 k0;go_wp2_with fail
   refine (Mt _ _).m ?_;rintro e w4 ⟨rfl,hw⟩;rw [hw,H3.o];clear hw
   cases k with
   | zero =>
    have U:qj (Bc none ls=Bc (Gq ls (0+1)) (ls.drop (0+1))):=by
     have g6:p=none:=by rw [<- HP.o];rfl
     rw [qj,B.o,g6];rfl
    clear B HP;go_wp2
    go_roundw
    case rel=>exact ⟨1,by omega,by go_num,U.o,J⟩
    case measure=>simp [intOf];omega
   | succ k =>
    have c8:p=some (Cw ls k):=by rw [<- HP.o];simp [Gq]
    obtain ⟨b',d3,b1,g9,e1,e2,e3⟩:=a8.o.at (k:=k) (by omega)
    obtain ⟨rfl,rfl⟩:b=b'/\off=d3:=by simpa using b1
    obtain ⟨⟨M,y',z'⟩,d1⟩:∃ x,Cw ls k=x:=⟨_,rfl⟩;rw [d1] at e1 e2 e3 c8
    simp only at e1 e2 e3
    subst c8;have q:qj (Bc none ls=(Gi (M,y',z') (x,y,z) && Bc (Gq ls (k+1+1)) (ls.drop (k+1+1)))):=B.o;have Y:Below W.heap.size W (H.alloc (.cells #[qzI M,qzI y',qzI z'] 151)):=J.alloc J.size _
    have g0:∀ o,(H.alloc o).cell? ⟨wr.heap.size,0,none⟩=some (qzI x):=λo=>(jg _ _ ⟨wr.heap.size,0,none⟩ c9).t y0
    have g1:∀ o,(H.alloc o).cell? ⟨wr.heap.size,1,none⟩=some (qzI y):=λo=>(jg _ _ ⟨wr.heap.size,1,none⟩ c9).t y1
    have h6:((k+1:Nat):Int) - 1=(k:Int):=by omega
    have h7:(0:Int)<((k+1:Nat):Int):=by omega
    have h8:(k:Int)<(ls.length:Int):=by omega
    have QB:qj (Below w.heap.size w (H.alloc (.cells #[qzI M,qzI y',qzI z'] 151))):=next bW Y
    have a:qj (Gi (M,y',z') (x,y,z)=false->A6 ls=false):=λh=>by
     unfold A6
     rw [q.o,h];rfl
    clear B HP d1 b1 a8
    by_cases v1:x<M
    ·have l:qj (A6 ls=false):=a.o (by simp [Gi];omega)
     clear a q;go_wp2;go_ret;exact ⟨Ab l.o.s,QB.o⟩
    by_cases v2:M=x
    ·have g8:(M == x)=true:=by simpa using v2
     by_cases v3:y<=y'
     ·have l:qj (A6 ls=false):=a.o (by simp [Gi];omega)
      clear a q v2;go_wp2;go_ret;exact ⟨Ab l.o.s,QB.o⟩
     ·have U:qj (Bc none ls=Bc (Gq ls (k+1+1)) (ls.drop (k+1+1))):=by
        have:Gi (M,y',z') (x,y,z)=true:=by simp [Gi];omega
        rw [qj,q.o,this];rfl
      clear a q v2;go_wp2
      go_roundw
      case rel=>exact ⟨k+1+1,by omega,by go_num,U.o,Y⟩
      case measure=>simp [intOf];omega
    ·have g8:(M == x)=false:=by simpa using v2
     have U:qj (Bc none ls=Bc (Gq ls (k+1+1)) (ls.drop (k+1+1))):=by
      have:Gi (M,y',z') (x,y,z)=true:=by simp [Gi];omega
      rw [qj,q.o,this];rfl
     clear a q v2;go_wp2
     go_roundw
     case rel=>exact ⟨k+1+1,by omega,by go_num,U.o,Y⟩
     case measure=>simp [intOf];omega
  ·have a3:k=ls.length:=by omega
   subst a3
   have a4:¬ (ls.length:Int)<(ls.length:Int):=by omega
   have n:=D.o.t (Uf _ ls);have Q0:=next bW F
   by_cases h400:(400:Int)<(ls.length:Int)
   ·have l:qj (A6 ls=false):=by
      have:¬ ls.length<=400:=by omega
      simp [qj,A6,this]
    clear n D;go_wp2;go_ret;exact ⟨Ab l.o.s,Q0⟩
   have a7:qj (A6 ls=Lv 0 ls):=by
    have O:ls.length<=400:=by omega
    rw [qj,A6,n,decide_eq_true O];rfl
   have d7:=Aa λ(c:Int) (k:Nat)=>Aes n c k
   have d4:=Aa λk (hk:k<ls.length)=>(Ks (Ew n _ (F8 hk))).2.2.1
   have h9:ls.length<=400:=by omega
   obtain ⟨R,hR⟩:=A0 wr;subst hR;clear n D h400
   go_wp2_with (go_at_call 193;refine (Na _).m ?_;rintro e w5 ⟨rfl,G⟩;have a9:=Aa G;clear G)
   have G:=a9.o
   have b5:BW R w5:=by rw [G];go_grown
   have b7:∀ j,j<8->w5.cell? ⟨R.heap.size,j,none⟩=some (qzI (I7.getD j 0)):=by
    intro j hj;rw [G]
    rcases cB hj with rfl|rfl|rfl|rfl|rfl|rfl|rfl|rfl <;> simp [I7]
   have d5:=Aa b7;have j0:=(b5.cell (p:=⟨w.heap.size,0,none⟩) g7).t k0;have b4:=next F b5;have d6:=Aa (HZ.o.below b4);have Q5:=next Q0 b5;clear b7 G a9 b5 k0;go_wp2
   go_loopw [7] (λi wr=>∃ j:Nat,j<=8/\i=qzI j/\A6 ls=Lv j ls/\BW w5 wr) (λi _=>8 - (intOf i).toNat)
   case atStart=>exact ⟨0,by omega,rfl,a7.o,bR⟩
   case round =>
    obtain ⟨j,hj,rfl,b8,b2⟩:=hrel;have N:=Aa b8;clear b8 a7;obtain ⟨V,hV⟩:=A0 wr;subst hV
    by_cases hj8:j<8
    ·have h5:(j:Int)<8:=by omega
     have C:=Aa (N.o.t (Yx j ls hj8));obtain ⟨I,L⟩:=Ae (I7.getD j 0);rw [L] at C
     have a6:qj (w5.cell? ⟨R.heap.size,j,none⟩=some (qzI I)):=by have:=d5.o j hj8;rw [L] at this;exact this
     have g3:=qs w5 _ a6.o;have d0:=qs w5 _ j0;clear L N;go_wp2
     go_loopw [8,9] (λs i wr=>∃ k:Nat,k<=ls.length/\i=qzI k/\s=qzI (Gh I (ls.take k))/\BW w5 wr) (λ_ i _=>ls.length - (intOf i).toNat)
     case atStart=>exact ⟨0,qw _,rfl,rfl,b2⟩
     case round =>
      obtain ⟨k,hk,rfl,rfl,A⟩:=hrel;have k0:=(A.cell (p:=⟨w.heap.size,0,none⟩) d0).t j0;have kc:=(A.cell (p:=⟨R.heap.size,j,none⟩) g3).t a6.o;have a5:=d7.o I k
      by_cases hlt:k<ls.length
      ·have a4:(k:Int)<(ls.length:Int):=by omega
       obtain ⟨b,off,rfl,g4,c1,c2,c3⟩:=(d6.o.below A).at hlt;have b0:=d4.o k hlt;have g:=Tr I ls k hlt;obtain ⟨⟨x,y,z⟩,hx⟩:∃ x,Cw ls k=x:=⟨_,rfl⟩;rw [hx] at c1 c2 c3 g b0
       simp only at c1 c2 c3 g b0
       obtain ⟨S,hS⟩:=Ae (Gh I (ls.take k));rw [hS] at g a5 ⊢;have f:=Aa g;clear g hx hS
       by_cases h1:y=I
       ·have d9:(y == I)=true:=by simpa using h1
        have HV:qj (Gh I (ls.take (k+1))=S+z):=by rw [qj,f.o,if_pos h1]
        clear f h1;go_wp2
        go_region
        all_goals
         go_wp2
         go_roundw
         case rel=>exact ⟨k+1,by omega,by go_num,by rw [HV.o],A.drew⟩
         case measure=>simp [intOf];omega
       ·have d9:(y == I)=false:=by simpa using h1
        have HV:qj (Gh I (ls.take (k+1))=S):=by rw [qj,f.o,if_neg h1];simp
        clear f h1;go_wp2
        go_region
        all_goals
         go_wp2
         go_roundw
         case rel=>exact ⟨k+1,by omega,by go_num,by rw [HV.o],A.drew⟩
         case measure=>simp [intOf];omega
      ·have a3:k=ls.length:=by omega
       subst a3
       have a4:¬ (ls.length:Int)<(ls.length:Int):=by omega
       rw [List.take_length] at a5 ⊢;obtain ⟨S,hS⟩:=Ae (Gh I ls);rw [hS] at a5 C ⊢;clear hS
       by_cases h0:S=0
       ·have U:qj (A6 ls=Lv (j+1) ls):=by rw [qj,C.o,decide_eq_true h0];rfl
        have d8:(S != 0)=false:=by simpa using h0
        clear C h0;go_wp2
        go_roundw
        case rel=>exact ⟨j+1,by omega,by go_num,U.o,A⟩
        case measure=>simp [intOf];omega
       ·have l:qj (A6 ls=false):=by rw [qj,C.o,decide_eq_false h0];rfl
        have d8:(S != 0)=true:=by simpa using h0
        have Q7:=next Q5 A;clear C h0;go_wp2;go_ret;exact ⟨Ab l.o.s,Q7⟩
    ·have g5:j=8:=by omega
     subst g5;have l:=Aa N.o;have Q6:=next Q5 b2;clear N;go_wp2;go_ret;exact ⟨Ab l.o.s,Q6⟩
end Go.Proofs.YtfpafnefpmmofaaGreatDoor
