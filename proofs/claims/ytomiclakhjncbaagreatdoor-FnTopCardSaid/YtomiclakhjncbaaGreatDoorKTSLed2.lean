import Derived.Test.YtomiclakhjncbaaGreatDoorJT1a
namespace Go.Proofs.YtomiclakhjncbaaGreatDoor
open Go.RowKit Go.Proofs.Tryz
set_option maxRecDepth 100000
set_option maxHeartbeats 12800000
def Fc (ls:List Ln) (k:Nat):Option Ln:=if k=0 then none else some (Cg ls (k - 1))
def Ni (p:Option Ln) (x:Ln):Bool:=match p with | none=>true | some y=>E3 y x
theorem Ty (p:Option Ln) (x:Ln) (r:List Ln):Az p (x::r)=((G7 x && Ni p x) && Az (some x) r):=by
 cases p <;> simp [Az,Ni]
theorem Mq (ls:List Ln) (k:Nat) (h:k<ls.length):Az (Fc ls k) (ls.drop k)=((G7 (Cg ls k) && Ni (Fc ls k) (Cg ls k)) && Az (Fc ls (k+1)) (ls.drop (k+1))):=by
 have e:Fc ls (k+1)=some (Cg ls k):=by simp [Fc]
 rw [Tu ls k h,Ty,e]
theorem Pf (p:Option Ln) (ls:List Ln):Az p (ls.drop ls.length)=true:=by
 rw [List.drop_of_length_le nL];cases p <;> rfl
def I2 (j:Nat) (ls:List Ln):Bool:=(Gi.drop j).all fun c=>decide (Ec c ls=0)
theorem Sc (j:Nat) (ls:List Ln) (h:j<8):I2 j ls=(decide (Ec (Gi.getD j 0) ls=0) && I2 (j+1) ls):=by
 have hl:j<Gi.length:=h
 have e:Gi.getD j 0=Gi[j]:=by simp [List.getD_eq_getElem?_getD,hl]
 unfold I2
 rw [List.drop_eq_getElem_cons hl,e];rfl
theorem nY {ls:List Ln} (h:Az none ls=true) (cQ:Int) (k:Nat):-1000000000000 * (k:Int)<=Ec cQ (ls.take k)/\Ec cQ (ls.take k)<=1000000000000 * (k:Int):=by
 have hm:=Dv h
 induction k with
 | zero=>simp [Ec]
 | succ k ih =>
  by_cases hk:k<ls.length
  ·rw [N5 cQ ls k hk]
   have:=(Ig (hm _ (Ex hk))).2.2.1
   split <;> omega
  ·rw [List.take_of_length_le (by omega)]
   rw [List.take_of_length_le (by omega)] at ih
   omega
theorem Ik (ao:Option Addr) (cap:Nat) (ls:List Ln) (w:World) (hz:Ai w ao ls) (hn:ls.length<=1099511627776) :
  Calls prog 260 #[.agg #[.slice ao ls.length cap]] w fun e w'=>e=.returned (.bool (At ls))/\BW w w':=by
 obtain ⟨W,hW⟩:∃ W,W=w.alloc (.cells #[.slice ao ls.length cap] 29):=⟨_,rfl⟩
 have bW:BW w W:=by rw [hW];go_grown
 have X:w.heap.size<W.heap.size:=by rw [hW];simp
 have HK:Hid (W.cell? ⟨w.heap.size,0,none⟩=some (.slice ao ls.length cap)):=by rw [Hid,hW];simp
 have HZ:Hid (Ai W ao ls):=hz.below bW;clear hz
 go_enter func260,ntmps260
 go_wp2;rw [<- hW];clear hW
 go_loopw [3] (fun i wr=>∃ k:Nat,k<=ls.length/\i=qzI k/\Az none ls=Az (Fc ls k) (ls.drop k)/\BW W wr) (fun i _=>ls.length - (intOf i).toNat)
 case atStart=>exact ⟨0,Nat.zero_le _,rfl,rfl,bR⟩
 case round =>
  obtain ⟨k,hk,rfl,b7,D⟩:=hrel;have C:Hid _:=b7;have k0:=(D.cell (p:=⟨w.heap.size,0,none⟩) X).trans HK.o;have b2:=D.size;have g5:w.heap.size<wr.heap.size:=Nat.lt_of_lt_of_le X b2;clear b7
  by_cases hlt:k<ls.length
  ·have Z:(k:Int)<(ls.length:Int):=by omega
   obtain ⟨b,off,rfl,g2,c1,c2,c3⟩:=(HZ.o.below D).at hlt;have g:=Mq ls k hlt;obtain ⟨p,hp⟩:∃ p,Fc ls k=p:=⟨_,rfl⟩;have HP:Hid _:=hp;rw [hp] at g C;obtain ⟨⟨x,y,z⟩,hx⟩:∃ x,Cg ls k=x:=⟨_,rfl⟩;rw [hx] at c1 c2 c3 g
   simp only at c1 c2 c3
   have f:Hid _:=C.o.trans g;have bx:Below W.heap.size W (wr.alloc (.cells #[qzI x,qzI y,qzI z] 113)):=D.alloc b2 _
   have a:Hid (G7 (x,y,z)=false->At ls=false):=fun h=>by
    unfold At
    rw [f.o,h];rfl
   clear g hx hp C;have Qb:Hid (Below w.heap.size w (wr.alloc (.cells #[qzI x,qzI y,qzI z] 113))):=next bW bx
   cases h1:Cb x
   ·have l:Hid (At ls=false):=a.o (by simp [G7,h1])
    have H1:Hid _:=h1;clear h1 f a;go_wp2_with fail
    refine (Do H1.o _).mono ?_;rintro e w1 ⟨rfl,hw⟩;rw [hw];clear hw;go_wp2;go_ret;exact ⟨Aa l.o.symm,Qb.o⟩
   have H1:Hid _:=h1;obtain ⟨d,hd⟩:∃ d,Dc y=d:=⟨_,rfl⟩;have HD:Hid _:=hd
   by_cases h2:d<0
   ·have l:Hid (At ls=false):=a.o (by simp [G7,hd];intro _ h;omega)
    clear h1 hd f a;go_wp2_with fail
    refine (Do H1.o _).mono ?_;rintro e w1 ⟨rfl,hw⟩;rw [hw];clear hw;go_wp2_with fail
    refine (Jf _ d HD.o).mono ?_;rintro e A ⟨rfl,q⟩;have q3:=next Qb.o q;clear q;go_wp2;go_ret;exact ⟨Aa l.o.symm,q3⟩
   have d0:∀ u,Below (wr.alloc (.cells #[qzI x,qzI y,qzI z] 113)).heap.size (wr.alloc (.cells #[qzI x,qzI y,qzI z] 113)) u->u.cell? ⟨wr.heap.size,0,none⟩=some (qzI x)/\u.cell? ⟨wr.heap.size,1,none⟩=some (qzI y)/\u.cell? ⟨wr.heap.size,2,none⟩=some (qzI z):=fun u hu =>
    ⟨(hu.cell (p:=⟨wr.heap.size,0,none⟩) (by simp)).trans (by simp),(hu.cell (p:=⟨wr.heap.size,1,none⟩) (by simp)).trans (by simp),(hu.cell (p:=⟨wr.heap.size,2,none⟩) (by simp)).trans (by simp)⟩
   have T:Hid _:=d0;clear d0
   cases h3:fL z
   ·have l:Hid (At ls=false):=a.o (by simp [G7,h3])
    have H3:Hid _:=h3;clear h1 hd h3 f a;go_wp2_with fail
    refine (Do H1.o _).mono ?_;rintro e w1 ⟨rfl,hw⟩;rw [hw];clear hw;go_wp2_with fail
    refine (Jf _ d HD.o).mono ?_;rintro e A ⟨rfl,q⟩;have q3:=next Qb.o q;obtain ⟨y0,y1,y2⟩:=T.o A q;clear q;go_wp2_with fail
    refine (I6 _ _).mono ?_;rintro e w4 ⟨rfl,hw⟩;rw [hw,H3.o];clear hw;go_wp2;go_ret;exact ⟨Aa l.o.symm,q3⟩
   have H3:Hid _:=h3
   by_cases M:z=0
   ·have l:Hid (At ls=false):=a.o (by simp [G7,M])
    have d8:(z == 0)=true:=by simpa using M
    clear h1 hd h3 f a M;go_wp2_with fail
    refine (Do H1.o _).mono ?_;rintro e w1 ⟨rfl,hw⟩;rw [hw];clear hw;go_wp2_with fail
    refine (Jf _ d HD.o).mono ?_;rintro e A ⟨rfl,q⟩;have q3:=next Qb.o q;obtain ⟨y0,y1,y2⟩:=T.o A q;clear q;go_wp2_with fail
    refine (I6 _ _).mono ?_;rintro e w4 ⟨rfl,hw⟩;rw [hw,H3.o];clear hw;go_wp2;go_ret;exact ⟨Aa l.o.symm,q3⟩
   have d8:(z == 0)=false:=by simpa using M
   have N:G7 (x,y,z)=true:=by simp [G7,h1,hd,h3,M];omega
   have v:Hid (Az none ls=(Ni p (x,y,z) && Az (Fc ls (k+1)) (ls.drop (k+1)))):=by rw [Hid,f.o,N];rfl
   clear h1 hd h3 f a M N;go_wp2_with fail
   refine (Do H1.o _).mono ?_;rintro e w1 ⟨rfl,hw⟩;rw [hw];clear hw;go_wp2_with fail
   refine (Jf _ d HD.o).mono ?_;rintro e A ⟨rfl,q⟩;have q3:=next Qb.o q;have H:BW W A:=bx.trans (q.mono bx.size);obtain ⟨y0,y1,y2⟩:=T.o A q;have b9:wr.heap.size<A.heap.size:=World.block_lt_of_cell? A _ y0;have a6:Hid (Ai A (some (qzA b off)) ls):=HZ.o.below H;have j0:=(H.cell (p:=⟨w.heap.size,0,none⟩) X).trans HK.o;clear q bx c1 c2 c3 k0;go_wp2_with fail
   refine (I6 _ _).mono ?_;rintro e w4 ⟨rfl,hw⟩;rw [hw,H3.o];clear hw
   cases k with
   | zero =>
    have O:Hid (Az none ls=Az (Fc ls (0+1)) (ls.drop (0+1))):=by
     have g4:p=none:=by rw [<- HP.o];rfl
     rw [Hid,v.o,g4];rfl
    clear v HP;go_wp2
    go_roundw
    case rel=>exact ⟨1,by omega,by go_num,O.o,H⟩
    case measure=>simp [intOf];omega
   | succ k =>
    have b8:p=some (Cg ls k):=by rw [<- HP.o];simp [Fc]
    obtain ⟨b',d1,a9,g7,e1,e2,e3⟩:=a6.o.at (k:=k) (by omega)
    obtain ⟨rfl,rfl⟩:b=b'/\off=d1:=by simpa using a9
    obtain ⟨⟨J,y',z'⟩,c9⟩:∃ x,Cg ls k=x:=⟨_,rfl⟩;rw [c9] at e1 e2 e3 b8
    simp only at e1 e2 e3
    subst b8;have n:Hid (Az none ls=(E3 (J,y',z') (x,y,z) && Az (Fc ls (k+1+1)) (ls.drop (k+1+1)))):=v.o;have U:Below W.heap.size W (A.alloc (.cells #[qzI J,qzI y',qzI z'] 113)):=H.alloc H.size _
    have g0:∀ o,(A.alloc o).cell? ⟨wr.heap.size,0,none⟩=some (qzI x):=fun o=>(World.cell?_alloc_lt _ _ ⟨wr.heap.size,0,none⟩ b9).trans y0
    have g1:∀ o,(A.alloc o).cell? ⟨wr.heap.size,1,none⟩=some (qzI y):=fun o=>(World.cell?_alloc_lt _ _ ⟨wr.heap.size,1,none⟩ b9).trans y1
    have g9:((k+1:Nat):Int) - 1=(k:Int):=by omega
    have h6:(0:Int)<((k+1:Nat):Int):=by omega
    have h8:(k:Int)<(ls.length:Int):=by omega
    have QB:Hid (Below w.heap.size w (A.alloc (.cells #[qzI J,qzI y',qzI z'] 113))):=next bW U
    have a:Hid (E3 (J,y',z') (x,y,z)=false->At ls=false):=fun h=>by
     unfold At
     rw [n.o,h];rfl
    clear v HP c9 a9 a6
    by_cases v1:x<J
    ·have l:Hid (At ls=false):=a.o (by simp [E3];omega)
     clear a n;go_wp2;go_ret;exact ⟨Aa l.o.symm,QB.o⟩
    by_cases v2:J=x
    ·have g6:(J == x)=true:=by simpa using v2
     by_cases v3:y<=y'
     ·have l:Hid (At ls=false):=a.o (by simp [E3];omega)
      clear a n v2;go_wp2;go_ret;exact ⟨Aa l.o.symm,QB.o⟩
     ·have O:Hid (Az none ls=Az (Fc ls (k+1+1)) (ls.drop (k+1+1))):=by
        have:E3 (J,y',z') (x,y,z)=true:=by simp [E3];omega
        rw [Hid,n.o,this];rfl
      clear a n v2;go_wp2
      go_roundw
      case rel=>exact ⟨k+1+1,by omega,by go_num,O.o,U⟩
      case measure=>simp [intOf];omega
    ·have g6:(J == x)=false:=by simpa using v2
     have O:Hid (Az none ls=Az (Fc ls (k+1+1)) (ls.drop (k+1+1))):=by
      have:E3 (J,y',z') (x,y,z)=true:=by simp [E3];omega
      rw [Hid,n.o,this];rfl
     clear a n v2;go_wp2
     go_roundw
     case rel=>exact ⟨k+1+1,by omega,by go_num,O.o,U⟩
     case measure=>simp [intOf];omega
  ·have Y:k=ls.length:=by omega
   subst Y
   have Z:¬ (ls.length:Int)<(ls.length:Int):=by omega
   have m:Az none ls=true:=C.o.trans (Pf _ ls);have Q0:=next bW D
   by_cases h400:(400:Int)<(ls.length:Int)
   ·have l:Hid (At ls=false):=by
      have:¬ ls.length<=400:=by omega
      simp [Hid,At,this]
    clear m C;go_wp2;go_ret;exact ⟨Aa l.o.symm,Q0⟩
   have a5:Hid (At ls=I2 0 ls):=by
    have M:ls.length<=400:=by omega
    rw [Hid,At,m,decide_eq_true M];rfl
   have d5:Hid (∀ (c:Int) (k:Nat),-1000000000000 * (k:Int)<=Ec c (ls.take k)/\Ec c (ls.take k)<=1000000000000 * (k:Int)):=fun c k=>nY m c k
   have d2:Hid (∀ k,k<ls.length->-1000000000000<=(Cg ls k).2.2/\(Cg ls k).2.2<=1000000000000):=fun k hk=>(Ig (Dv m _ (Ex hk))).2.2.1
   have h9:ls.length<=400:=by omega
   obtain ⟨R,hR⟩:∃ R,R=wr:=⟨_,rfl⟩;subst hR;clear m C h400
   go_wp2_with (go_at_call 258;refine (Jn _).mono ?_;rintro e G ⟨rfl,F⟩;have a7:Hid _:=F;clear F)
   have F:=a7.o
   have b5:BW R G:=by rw [F];go_grown
   have b4:∀ j,j<8->G.cell? ⟨R.heap.size,j,none⟩=some (qzI (Gi.getD j 0)):=by
    intro j hj;rw [F]
    rcases U0 hj with rfl | rfl | rfl | rfl | rfl | rfl | rfl | rfl <;> simp [Gi]
   have d3:Hid (∀ j,j<8->G.cell? ⟨R.heap.size,j,none⟩=some (qzI (Gi.getD j 0))):=b4;have j0:=(b5.cell (p:=⟨w.heap.size,0,none⟩) g5).trans k0;have b1:BW W G:=next D b5;have d4:Hid (Ai G ao ls):=HZ.o.below b1;have Q5:=next Q0 b5;clear b4 F a7 b5 k0;go_wp2
   go_loopw [7] (fun i wr=>∃ j:Nat,j<=8/\i=qzI j/\At ls=I2 j ls/\BW G wr) (fun i _=>8 - (intOf i).toNat)
   case atStart=>exact ⟨0,by omega,rfl,a5.o,bR⟩
   case round =>
    obtain ⟨j,hj,rfl,b6,b0⟩:=hrel;have L:Hid _:=b6;clear b6 a5;obtain ⟨V,hV⟩:∃ V,V=wr:=⟨_,rfl⟩;subst hV
    by_cases hj8:j<8
    ·have g8:(j:Int)<8:=by omega
     have B:Hid _:=L.o.trans (Sc j ls hj8);obtain ⟨cu,I⟩:∃ c,Gi.getD j 0=c:=⟨_,rfl⟩;rw [I] at B
     have a4:Hid (G.cell? ⟨R.heap.size,j,none⟩=some (qzI cu)):=by have:=d3.o j hj8;rw [I] at this;exact this
     have d9:R.heap.size<G.heap.size:=World.block_lt_of_cell? G _ a4.o;have c8:w.heap.size<G.heap.size:=World.block_lt_of_cell? G _ j0;clear I L;go_wp2
     go_loopw [8,9] (fun s i wr=>∃ k:Nat,k<=ls.length/\i=qzI k/\s=qzI (Ec cu (ls.take k))/\BW G wr) (fun _ i _=>ls.length - (intOf i).toNat)
     case atStart=>exact ⟨0,Nat.zero_le _,rfl,rfl,b0⟩
     case round =>
      obtain ⟨k,hk,rfl,rfl,t⟩:=hrel;have k0:=(t.cell (p:=⟨w.heap.size,0,none⟩) c8).trans j0;have kc:=(t.cell (p:=⟨R.heap.size,j,none⟩) d9).trans a4.o;have a3:=d5.o cu k
      by_cases hlt:k<ls.length
      ·have Z:(k:Int)<(ls.length:Int):=by omega
       obtain ⟨b,off,rfl,g2,c1,c2,c3⟩:=(d4.o.below t).at hlt;have a8:=d2.o k hlt;have g:=N5 cu ls k hlt;obtain ⟨⟨x,y,z⟩,hx⟩:∃ x,Cg ls k=x:=⟨_,rfl⟩;rw [hx] at c1 c2 c3 g a8
       simp only at c1 c2 c3 g a8
       obtain ⟨S,hS⟩:∃ S,Ec cu (ls.take k)=S:=⟨_,rfl⟩;rw [hS] at g a3 ⊢;have f:Hid _:=g;clear g hx hS
       by_cases h1:y=cu
       ·have d7:(y == cu)=true:=by simpa using h1
        have HV:Hid (Ec cu (ls.take (k+1))=S+z):=by rw [Hid,f.o,if_pos h1]
        clear f h1;go_wp2
        go_region
        all_goals
         go_wp2
         go_roundw
         case rel=>exact ⟨k+1,by omega,by go_num,by rw [HV.o],t.drew⟩
         case measure=>simp [intOf];omega
       ·have d7:(y == cu)=false:=by simpa using h1
        have HV:Hid (Ec cu (ls.take (k+1))=S):=by rw [Hid,f.o,if_neg h1];simp
        clear f h1;go_wp2
        go_region
        all_goals
         go_wp2
         go_roundw
         case rel=>exact ⟨k+1,by omega,by go_num,by rw [HV.o],t.drew⟩
         case measure=>simp [intOf];omega
      ·have Y:k=ls.length:=by omega
       subst Y
       have Z:¬ (ls.length:Int)<(ls.length:Int):=by omega
       rw [List.take_length] at a3 ⊢;obtain ⟨S,hS⟩:∃ S,Ec cu ls=S:=⟨_,rfl⟩;rw [hS] at a3 B ⊢;clear hS
       by_cases h0:S=0
       ·have O:Hid (At ls=I2 (j+1) ls):=by rw [Hid,B.o,decide_eq_true h0];rfl
        have d6:(S != 0)=false:=by simpa using h0
        clear B h0;go_wp2
        go_roundw
        case rel=>exact ⟨j+1,by omega,by go_num,O.o,t⟩
        case measure=>simp [intOf];omega
       ·have l:Hid (At ls=false):=by rw [Hid,B.o,decide_eq_false h0];rfl
        have d6:(S != 0)=true:=by simpa using h0
        have Q7:=next Q5 t;clear B h0;go_wp2;go_ret;exact ⟨Aa l.o.symm,Q7⟩
    ·have g3:j=8:=by omega
     subst g3;have l:Hid (At ls=true):=L.o;have Q6:=next Q5 b0;clear L;go_wp2;go_ret;exact ⟨Aa l.o.symm,Q6⟩
end Go.Proofs.YtomiclakhjncbaaGreatDoor
