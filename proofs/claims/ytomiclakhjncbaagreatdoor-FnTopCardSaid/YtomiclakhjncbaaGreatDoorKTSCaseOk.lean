import Derived.Test.YtomiclakhjncbaaGreatDoorJT1a
namespace Go.Proofs.YtomiclakhjncbaaGreatDoor
open Go.RowKit Go.Proofs.Tryz
set_option maxRecDepth 100000
set_option maxHeartbeats 12800000
theorem Fa {x a b:Int} {q:Bool} (h:Gk x a b=q) (w:World):Calls prog 134 #[qzI x,qzI a,qzI b] w fun e w'=>e=.returned (.bool q)/\w'=w:=by rw [<- h];exact Dl x a b w
theorem E7 {x a b:Int} {q:Bool} (h:Gk x a b=q):decide (a<=x/\x<=b)=q:=h
theorem J6 (c:Cs) (w:World) :
  Calls prog 219 #[cv c] w fun e w'=>e=.returned (.bool (Ao c))/\BW w w':=by
 obtain ⟨W,J⟩:∃ W,W=w.alloc (.cells #[qzI c.iss,qzI c.acq,qzI c.cur,qzI c.am,qzI c.st,qzI c.rsn,qzI c.cl,qzI c.bk,qzI c.fee,.bool c.cop,qzI c.sta,qzI c.due] 61):=⟨_,rfl⟩
 have B:CB w.heap.size 0 c W:=by rw [J];exact CB.new w c _
 have bW:BW w W:=by rw [J];exact bR.alloc nL _
 obtain ⟨k,j,t,am,st,l,cl,bk,n,y,s,i⟩:=c;unfold cv
 simp only at J ⊢
 have D:Hid (CB w.heap.size 0 ⟨k,j,t,am,st,l,cl,bk,n,y,s,i⟩ W):=B;have HW:Hid _:=J;have u:Hid (BW w W):=bW;obtain ⟨f0,f1,f2,f3,f4,f5,f6,f7,f8,f9,f10,f11⟩:=B
 simp only [Nat.zero_add] at f0 f1 f2 f3 f4 f5 f6 f7 f8 f9 f10 f11
 clear J bW f9
 go_enter func219,ntmps219
 go_upto_region 1 with fail
 rw [<- HW.o];go_wp2_with fail
 refine (Ro k _).mono ?_;rintro e w1 ⟨rfl,hw⟩;rw [hw];clear hw
 cases h1:Cb k
 ·have f:Hid (Ao ⟨k,j,t,am,st,l,cl,bk,n,y,s,i⟩=false):=by simp [Hid,Ao,Fb,h1]
  clear h1;go_wp2;go_ret;exact ⟨Aa f.o.symm,u.o⟩
 go_wp2_with fail
 refine (Ro j _).mono ?_;rintro e w1 ⟨rfl,hw⟩;rw [hw];clear hw
 cases h2:Cb j
 ·have f:Hid (Ao ⟨k,j,t,am,st,l,cl,bk,n,y,s,i⟩=false):=by simp [Hid,Ao,Fb,h2]
  clear h1 h2;go_wp2;go_ret;exact ⟨Aa f.o.symm,u.o⟩
 by_cases h3:k=j
 ·have f:Hid (Ao ⟨k,j,t,am,st,l,cl,bk,n,y,s,i⟩=false):=by simp [Hid,Ao,h3]
  have I:(k == j)=true:=by simpa using h3
  clear h1 h2 h3;go_wp2;go_ret;exact ⟨Aa f.o.symm,u.o⟩
 have I:=Ay h3
 by_cases k1:k=9999
 ·have f:Hid (Ao ⟨k,j,t,am,st,l,cl,bk,n,y,s,i⟩=false):=by simp [Hid,Ao,Fb,k1]
  have N:(k == 9999)=true:=by simpa using k1
  clear h1 h2 h3 k1;go_wp2;go_ret;exact ⟨Aa f.o.symm,u.o⟩
 have N:=Ay k1
 by_cases k2:j=9999
 ·have f:Hid (Ao ⟨k,j,t,am,st,l,cl,bk,n,y,s,i⟩=false):=by simp [Hid,Ao,Fb,k2]
  have O:(j == 9999)=true:=by simpa using k2
  clear h1 h2 h3 k1 k2;go_wp2;go_ret;exact ⟨Aa f.o.symm,u.o⟩
 have O:=Ay k2
 have H1:Hid (Fb k=true):=by simp [Hid,Fb,h1,k1]
 have H2:Hid (Fb j=true):=by simp [Hid,Fb,h2,k2]
 have H3:Hid (decide (k≠j)=true):=decide_eq_true h3;clear h1 h2 h3 k1 k2;go_upto_region 3 with fail
 go_cut [3] (fun v wc=>v=.bool (Ls st)/\wc=W)
 case first =>
  cases he:Gk st 0 2
  ·have V:Hid (Ls st=(st == 7)):=by
     simp only [Hid,Ls,E7 he,Bool.false_or]
     by_cases h:st=7 <;> simp [h]
   go_wp2_with (go_at_call 134;refine (Fa he _).mono ?_;rintro e w' ⟨rfl,rfl⟩)
   go_meet
   exact ⟨by rw [V.o],rfl⟩
  ·have V:Hid (Ls st=true):=by simp only [Hid,Ls,E7 he,Bool.true_or]
   go_wp2_with (go_at_call 134;refine (Fa he _).mono ?_;rintro e w' ⟨rfl,rfl⟩)
   go_meet
   exact ⟨by rw [V.o],rfl⟩
 case rest =>
  obtain ⟨rfl,L⟩:=hcut;rw [L];clear L;obtain ⟨E,hE⟩:∃ E,Ls st=E:=⟨_,rfl⟩;rw [hE];have U:Hid _:=hE;obtain ⟨d,hd⟩:∃ d,Dc t=d:=⟨_,rfl⟩;have HD:Hid _:=hd;clear hd hE I N O
  obtain ⟨m,hm⟩:∃ m,(decide (0<=d) && (decide (1<=am/\am<=100000000000) && (decide (0<=st/\st<=7) && (Oy l || (decide (l=0) && E)))))=m:=⟨_,rfl⟩
  have F:Hid _:=hm;clear hm;go_upto_region 4 with fail
  go_cut [69] (fun v wc=>v=.bool (!m)/\BW W wc)
  case first =>
   go_wp2_with fail
   refine (Jf _ d HD.o).mono ?_;rintro e w3 ⟨rfl,X⟩;have B3:=D.o.below X;have z:Hid (BW W w3):=X;clear X f0 f1 f2 f3 f4 f5 f6 f7 f8 f10 f11;obtain ⟨f0,f1,f2,f3,f4,f5,f6,f7,f8,f9,f10,f11⟩:=B3
   simp only [Nat.zero_add] at f0 f1 f2 f3 f4 f5 f6 f7 f8 f9 f10 f11
   clear f9 f0 f1 f2 f6 f7 f8 f10 f11
   by_cases h4:d<0
   ·have f:Hid (m=false):=by
      have:¬ 0<=d:=by omega
      rw [Hid,<- F.o];simp [this]
    go_wp2;go_meet
    exact ⟨by rw [f.o];rfl,z.o⟩
   have H4:Hid (decide (0<=d)=true):=decide_eq_true (by omega)
   have R:Hid (decide (d<0)=false):=decide_eq_false h4;go_wp2_with fail
   cases h5:Gk am 1 100000000000
   ·have f:Hid (m=false):=by rw [Hid,<- F.o,E7 h5];simp
    refine (Fa h5 _).mono ?_;rintro e A ⟨rfl,hw⟩;rw [hw];clear hw;clear h5;go_wp2;go_meet
    exact ⟨by rw [f.o];rfl,z.o⟩
   have H5:Hid (decide (1<=am/\am<=100000000000)=true):=h5;refine (Fa h5 _).mono ?_;rintro e A ⟨rfl,hw⟩;rw [hw];clear hw;clear h5;go_wp2_with fail
   cases h7:Gk st 0 7
   ·have f:Hid (m=false):=by rw [Hid,<- F.o,E7 h7];simp
    refine (Fa h7 _).mono ?_;rintro e A ⟨rfl,hw⟩;rw [hw];clear hw;clear h7;go_wp2;go_meet
    exact ⟨by rw [f.o];rfl,z.o⟩
   have H7:Hid (decide (0<=st/\st<=7)=true):=h7;refine (Fa h7 _).mono ?_;rintro e A ⟨rfl,hw⟩;rw [hw];clear hw;clear h7;go_wp2_with fail
   refine (V7 l _).mono ?_;rintro e w5 ⟨rfl,Y⟩;have g5:=(Y.cell (p:=⟨w.heap.size,5,none⟩) (World.block_lt_of_cell? _ _ f5)).trans f5;have g:Hid (BW W w5):=next z.o Y;clear Y f3 f4 f5
   have C:Hid (m=(Oy l || (decide (l=0) && E))):=by rw [Hid,<- F.o,H4.o,H5.o,H7.o];rfl
   cases h8:Oy l
   ·rw [h8,Bool.false_or] at C
    clear h8
    by_cases h9:l=0
    ·rw [decide_eq_true h9,Bool.true_and] at C
     have a3:(l == 0)=true:=by simpa using h9
     clear h9
     cases E
     ·go_wp2
      go_meet
      exact ⟨by rw [C.o];first | rfl | (rw [R.o];rfl),g.o⟩
     ·go_wp2
      go_meet
      exact ⟨by rw [C.o];first | rfl | (rw [R.o];rfl),g.o⟩
    ·rw [decide_eq_false h9,Bool.false_and] at C
     have a3:=Ay h9;clear h9;go_wp2;go_meet
     exact ⟨by rw [C.o];first | rfl | (rw [R.o];rfl),g.o⟩
   ·rw [h8,Bool.true_or] at C
    clear h8;go_wp2;go_meet
    exact ⟨by rw [C.o];first | rfl | (rw [R.o];rfl),g.o⟩
  case rest =>
   obtain ⟨rfl,Z⟩:=hcut;have B5:=D.o.below Z;have g:Hid (BW w wc):=next u.o Z;clear Z f0 f1 f2 f3 f4 f5 f6 f7 f8 f10 f11;obtain ⟨f0,f1,f2,f3,f4,f5,f6,f7,f8,f9,f10,f11⟩:=B5
   simp only [Nat.zero_add] at f0 f1 f2 f3 f4 f5 f6 f7 f8 f9 f10 f11
   clear f9 f0 f1 f2 f4 f5
   have M:∀ r:Bool,(decide (0<=cl/\cl<=am) && (decide (0<=bk/\bk<=am) && (decide (0<=n/\n<=500000) && (Dn s && (Dn i || decide (i = -1))))))=r->Ao ⟨k,j,t,am,st,l,cl,bk,n,y,s,i⟩=(m && r):=by
    intro r hr;subst hr
    simp only [Ao,Cy,H1.o,H2.o,HD.o,H3.o,Bool.true_and,<- F.o,U.o,Bool.and_assoc]
   cases m
   ·have f:Hid (Ao ⟨k,j,t,am,st,l,cl,bk,n,y,s,i⟩=false):=M _ rfl
    clear M;go_wp2;go_ret;exact ⟨Aa f.o.symm,g.o⟩
   simp only [Bool.true_and] at M
   have G:Hid (∀ r:Bool,(decide (0<=cl/\cl<=am) && (decide (0<=bk/\bk<=am) && (decide (0<=n/\n<=500000) && (Dn s && (Dn i || decide (i = -1))))))=r->Ao ⟨k,j,t,am,st,l,cl,bk,n,y,s,i⟩=r):=M
   clear M;go_wp2_with fail
   cases h9:Gk cl 0 am
   ·have f:Hid (Ao ⟨k,j,t,am,st,l,cl,bk,n,y,s,i⟩=false):=G.o _ (by rw [E7 h9];rfl)
    refine (Fa h9 _).mono ?_;rintro e A ⟨rfl,hw⟩;rw [hw];clear hw;clear h9;go_wp2;go_ret;exact ⟨Aa f.o.symm,g.o⟩
   refine (Fa h9 _).mono ?_;rintro e A ⟨rfl,hw⟩;rw [hw];clear hw;have H9:Hid (decide (0<=cl/\cl<=am)=true):=h9;clear h9;go_wp2_with fail
   cases h10:Gk bk 0 am
   ·have f:Hid (Ao ⟨k,j,t,am,st,l,cl,bk,n,y,s,i⟩=false):=G.o _ (by rw [E7 h10];simp)
    refine (Fa h10 _).mono ?_;rintro e A ⟨rfl,hw⟩;rw [hw];clear hw;clear h10;go_wp2;go_ret;exact ⟨Aa f.o.symm,g.o⟩
   refine (Fa h10 _).mono ?_;rintro e A ⟨rfl,hw⟩;rw [hw];clear hw;have S:Hid (decide (0<=bk/\bk<=am)=true):=h10;clear h10;go_wp2_with fail
   cases h11:Gk n 0 500000
   ·have f:Hid (Ao ⟨k,j,t,am,st,l,cl,bk,n,y,s,i⟩=false):=G.o _ (by rw [E7 h11];simp)
    refine (Fa h11 _).mono ?_;rintro e A ⟨rfl,hw⟩;rw [hw];clear hw;clear h11;go_wp2;go_ret;exact ⟨Aa f.o.symm,g.o⟩
   refine (Fa h11 _).mono ?_;rintro e A ⟨rfl,hw⟩;rw [hw];clear hw;have T:Hid (decide (0<=n/\n<=500000)=true):=h11;clear h11
   have f:Hid (Ao ⟨k,j,t,am,st,l,cl,bk,n,y,s,i⟩=(Dn s && (Dn i || decide (i = -1)))):=G.o _ (by rw [H9.o,S.o,T.o];rfl)
   clear G;go_wp2_with fail
   refine (A9 s _).mono ?_;rintro e w6 ⟨rfl,hw⟩;rw [hw];clear hw
   cases h15:Dn s
   ·rw [h15,Bool.false_and] at f
    clear h15;go_wp2;go_ret;exact ⟨Aa f.o.symm,g.o⟩
   rw [h15,Bool.true_and] at f;clear h15
   by_cases h17:i = -1
   ·rw [decide_eq_true h17,Bool.or_true] at f
    have H:(i == -1)=true:=by simpa using h17
    clear h17;go_wp2;go_ret;exact ⟨Aa f.o.symm,g.o⟩
   ·rw [decide_eq_false h17,Bool.or_false] at f
    have H:=Ay h17;clear h17;go_wp2_with fail
    refine (A9 i _).mono ?_;rintro e w7 ⟨rfl,hw⟩;rw [hw];clear hw;go_wp2;go_ret;exact ⟨Aa f.o.symm,g.o⟩
end Go.Proofs.YtomiclakhjncbaaGreatDoor
