import Derived.Test.YtomiclakhjncbaaGreatDoorJT1a
namespace Go.Proofs.YtomiclakhjncbaaGreatDoor
open Go.RowKit Go.Proofs.Tryz
set_option maxRecDepth 100000
set_option maxHeartbeats 12800000
def stOk (x:Int):Bool:=decide (0<=x/\x<=7)
theorem eD (x:Int) (w:World):Calls prog 285 #[qzI x] w fun e w'=>e=.returned (.bool (stOk x))/\w'=w:=by
 by_cases h1:0<=x
 ·by_cases h2:x<8
  ·have a:Hid (stOk x=true):=decide_eq_true ⟨h1,by omega⟩
   go_enter func285,ntmps285
   go_wp2;go_ret;exact ⟨Aa a.o.symm,rfl⟩
  ·have a:Hid (stOk x=false):=decide_eq_false (by omega)
   go_enter func285,ntmps285
   go_wp2;go_ret;exact ⟨Aa a.o.symm,rfl⟩
 ·have a:Hid (stOk x=false):=decide_eq_false (by omega)
  go_enter func285,ntmps285
  go_wp2;go_ret;exact ⟨Aa a.o.symm,rfl⟩
theorem Qs (x:Int) (w:World):Calls prog 284 #[qzI x] w fun e w'=>e=.returned (.bool (Fb x))/\w'=w:=by
 cases h:Cb x
 ·have a:Hid (Fb x=false):=by simp [Hid,Fb,h]
  go_enter func284,ntmps284
  go_wp2_with fail
  refine (C9 h _).mono ?_;rintro e A ⟨rfl,hw⟩;subst hw;go_wp2;go_ret;exact ⟨Aa a.o.symm,rfl⟩
 ·have a:Hid (Fb x=(x != 9999)):=by
    simp only [Hid,Fb,h,Bool.true_and]
    by_cases h9:x=9999 <;> simp [h9]
  go_enter func284,ntmps284
  go_wp2_with fail
  refine (C9 h _).mono ?_;rintro e A ⟨rfl,hw⟩;subst hw;go_wp2;go_ret;exact ⟨Aa a.o.symm,rfl⟩
theorem Wx (r st:Int) (w:World):Calls prog 286 #[qzI r,qzI st] w fun e w'=>e=.returned (.bool (Cy r st))/\BW w w':=by
 by_cases he:st=0\/st=1\/st=2\/st=7
 ·have t:Ls st=true:=by rcases he with rfl | rfl | rfl | rfl <;> rfl
  by_cases h0:r=0
  ·have a:Hid (Cy r st=true):=by simp [Hid,Cy,t,h0]
   subst h0;clear t
   rcases he with rfl | rfl | rfl | rfl
   iterate 4
    ·go_enter func286,ntmps286
     go_wp2;go_ret;exact ⟨Aa a.o.symm,bR⟩
  ·have a:Hid (Cy r st=Oy r):=by simp [Hid,Cy,h0]
   have a3:=Ay h0;clear t h0
   rcases he with rfl | rfl | rfl | rfl
   iterate 4
    ·go_enter func286,ntmps286
     go_wp2_with fail
     refine (Rg r _).mono ?_;rintro e A ⟨rfl,D⟩;go_wp2;go_ret;exact ⟨Aa a.o.symm,D⟩
 ·have t:Ls st=false:=by simp [Ls];omega
  have a:Hid (Cy r st=Oy r):=by simp [Hid,Cy,t]
  have g0:(st == 0)=false:=Ay (by omega)
  have U:(st == 1)=false:=Ay (by omega)
  have V:(st == 2)=false:=Ay (by omega)
  have g7:(st == 7)=false:=Ay (by omega)
  clear t he
  go_enter func286,ntmps286
  go_wp2_with fail
  refine (Rg r _).mono ?_;rintro e A ⟨rfl,D⟩;go_wp2;go_ret;exact ⟨Aa a.o.symm,D⟩
theorem Jr (c:Cs) (w:World) (H:(Lit.int .i64 c.cur).wf=true) :
  Calls prog 254 #[cv c] w fun e w'=>e=.returned (.bool (Ao c))/\BW w w':=by
 obtain ⟨W,z⟩:∃ W,W=w.alloc (.cells #[qzI c.iss,qzI c.acq,qzI c.cur,qzI c.am,qzI c.st,qzI c.rsn,qzI c.cl,qzI c.bk,qzI c.fee,.bool c.cop,qzI c.sta,qzI c.due] 61):=⟨_,rfl⟩
 have B:CB w.heap.size 0 c W:=by rw [z];exact CB.new w c _
 have T:BW w W:=by rw [z];exact bR.alloc nL _
 obtain ⟨j,i,k,am,st,m,cl,bk,b,n,l,g⟩:=c;unfold cv
 simp only at z H ⊢
 have u:Hid (CB w.heap.size 0 ⟨j,i,k,am,st,m,cl,bk,b,n,l,g⟩ W):=B;have Z:Hid _:=H;have HW:Hid _:=z;have q:Hid (BW w W):=T;obtain ⟨f0,f1,f2,f3,f4,f5,f6,f7,f8,f9,f10,f11⟩:=B
 simp only [Nat.zero_add] at f0 f1 f2 f3 f4 f5 f6 f7 f8 f9 f10 f11
 clear H z T f9
 go_enter func254,ntmps254
 go_upto_region 1 with fail
 rw [<- HW.o];go_wp2_with fail
 refine (Qs j _).mono ?_;rintro e A ⟨rfl,hw⟩;rw [hw];clear hw
 cases h1:Fb j
 ·have a:Hid (Ao ⟨j,i,k,am,st,m,cl,bk,b,n,l,g⟩=false):=by simp [Hid,Ao,h1]
  clear h1;go_wp2;go_ret;exact ⟨Aa a.o.symm,q.o⟩
 go_wp2_with fail
 refine (Qs i _).mono ?_;rintro e A ⟨rfl,hw⟩;rw [hw];clear hw
 cases h2:Fb i
 ·have a:Hid (Ao ⟨j,i,k,am,st,m,cl,bk,b,n,l,g⟩=false):=by simp [Hid,Ao,h2]
  clear h1 h2;go_wp2;go_ret;exact ⟨Aa a.o.symm,q.o⟩
 by_cases h3:j=i
 ·have a:Hid (Ao ⟨j,i,k,am,st,m,cl,bk,b,n,l,g⟩=false):=by simp [Hid,Ao,h3]
  have y:(j == i)=true:=by simpa using h3
  clear h1 h2 h3;go_wp2;go_ret;exact ⟨Aa a.o.symm,q.o⟩
 have y:=Ay h3;have J:Hid _:=h1;have L:Hid _:=h2;have M:Hid (decide (j≠i)=true):=decide_eq_true h3;obtain ⟨d,hd⟩:∃ d,Dc k=d:=⟨_,rfl⟩;have C:Hid _:=hd;clear h1 h2 h3 hd;go_wp2_with fail
 refine (Rd _ d C.o Z.o).mono ?_;rintro e X ⟨rfl,F⟩;have I:=u.o.below F;have p:Hid (BW w X):=next q.o F;clear F f0 f1 f2 f3 f4 f5 f6 f7 f8 f10 f11 y;have s:Hid (CB w.heap.size 0 ⟨j,i,k,am,st,m,cl,bk,b,n,l,g⟩ X):=I;obtain ⟨f0,f1,f2,f3,f4,f5,f6,f7,f8,f9,f10,f11⟩:=I
 simp only [Nat.zero_add] at f0 f1 f2 f3 f4 f5 f6 f7 f8 f9 f10 f11
 clear f9 f0 f1 f2
 by_cases h4:d<0
 ·have a:Hid (Ao ⟨j,i,k,am,st,m,cl,bk,b,n,l,g⟩=false):=by
    have:¬ 0<=Dc k:=by rw [C.o];omega
    simp [Hid,Ao,this]
  go_wp2;go_ret;exact ⟨Aa a.o.symm,p.o⟩
 by_cases h5:am<1
 ·have a:Hid (Ao ⟨j,i,k,am,st,m,cl,bk,b,n,l,g⟩=false):=by
    have:¬ (1<=am/\am<=100000000000):=by omega
    simp [Hid,Ao,this]
  go_wp2;go_ret;exact ⟨Aa a.o.symm,p.o⟩
 by_cases h6:100000000000<am
 ·have a:Hid (Ao ⟨j,i,k,am,st,m,cl,bk,b,n,l,g⟩=false):=by
    have:¬ (1<=am/\am<=100000000000):=by omega
    simp [Hid,Ao,this]
  go_wp2;go_ret;exact ⟨Aa a.o.symm,p.o⟩
 have N:Hid (0<=Dc k):=by rw [Hid,C.o];omega
 have O:Hid (1<=am/\am<=100000000000):=⟨by omega,by omega⟩
 clear C;go_wp2_with fail
 refine (eD st _).mono ?_;rintro e w4 ⟨rfl,hw⟩;rw [hw];clear hw
 cases h7:stOk st
 ·have a:Hid (Ao ⟨j,i,k,am,st,m,cl,bk,b,n,l,g⟩=false):=by
    have h:decide (0<=st/\st<=7)=false:=h7
    simp only [Hid,Ao,h,Bool.false_and,Bool.and_false]
  clear h7;go_wp2;go_ret;exact ⟨Aa a.o.symm,p.o⟩
 have R:Hid (decide (0<=st/\st<=7)=true):=h7;clear h7 h4 h5 h6;go_wp2_with fail
 refine (Wx m st _).mono ?_;rintro e w5 ⟨rfl,G⟩;have Y:=s.o.below G;have f:Hid (BW w w5):=next p.o G;clear G f3 f4 f5 f6 f7 f8 f10 f11;obtain ⟨f0,f1,f2,f3,f4,f5,f6,f7,f8,f9,f10,f11⟩:=Y
 simp only [Nat.zero_add] at f0 f1 f2 f3 f4 f5 f6 f7 f8 f9 f10 f11
 clear f9 f0 f1 f2 f4 f5
 cases h8:Cy m st
 ·have a:Hid (Ao ⟨j,i,k,am,st,m,cl,bk,b,n,l,g⟩=false):=by simp [Hid,Ao,h8]
  clear h8;go_wp2;go_ret;exact ⟨Aa a.o.symm,f.o⟩
 have S:Hid _:=h8;clear h8
 by_cases h9:cl<0
 ·have a:Hid (Ao ⟨j,i,k,am,st,m,cl,bk,b,n,l,g⟩=false):=by
    have:¬ (0<=cl/\cl<=am):=by omega
    simp [Hid,Ao,this]
  go_wp2;go_ret;exact ⟨Aa a.o.symm,f.o⟩
 by_cases h10:am<cl
 ·have a:Hid (Ao ⟨j,i,k,am,st,m,cl,bk,b,n,l,g⟩=false):=by
    have:¬ (0<=cl/\cl<=am):=by omega
    simp [Hid,Ao,this]
  go_wp2;go_ret;exact ⟨Aa a.o.symm,f.o⟩
 by_cases h11:bk<0
 ·have a:Hid (Ao ⟨j,i,k,am,st,m,cl,bk,b,n,l,g⟩=false):=by
    have:¬ (0<=bk/\bk<=am):=by omega
    simp [Hid,Ao,this]
  go_wp2;go_ret;exact ⟨Aa a.o.symm,f.o⟩
 by_cases h12:am<bk
 ·have a:Hid (Ao ⟨j,i,k,am,st,m,cl,bk,b,n,l,g⟩=false):=by
    have:¬ (0<=bk/\bk<=am):=by omega
    simp [Hid,Ao,this]
  go_wp2;go_ret;exact ⟨Aa a.o.symm,f.o⟩
 by_cases h13:b<0
 ·have a:Hid (Ao ⟨j,i,k,am,st,m,cl,bk,b,n,l,g⟩=false):=by
    have:¬ (0<=b/\b<=500000):=by omega
    simp [Hid,Ao,this]
  go_wp2;go_ret;exact ⟨Aa a.o.symm,f.o⟩
 by_cases h14:500000<b
 ·have a:Hid (Ao ⟨j,i,k,am,st,m,cl,bk,b,n,l,g⟩=false):=by
    have:¬ (0<=b/\b<=500000):=by omega
    simp [Hid,Ao,this]
  go_wp2;go_ret;exact ⟨Aa a.o.symm,f.o⟩
 have a:Hid (Ao ⟨j,i,k,am,st,m,cl,bk,b,n,l,g⟩=(Dn l && (Dn g || decide (g = -1)))):=by
  have U:(0<=cl/\cl<=am):=⟨by omega,by omega⟩
  have V:(0<=bk/\bk<=am):=⟨by omega,by omega⟩
  have g3:(0<=b/\b<=500000):=⟨by omega,by omega⟩
  simp only [Hid,Ao,J.o,L.o,R.o,S.o,M.o,decide_eq_true N.o,decide_eq_true O.o,decide_eq_true U,decide_eq_true V,decide_eq_true g3,Bool.true_and]
 clear u s q p J L M N O R S;go_wp2_with fail
 refine (Bm l _).mono ?_;rintro e w6 ⟨rfl,hw⟩;rw [hw];clear hw
 cases h15:Dn l
 ·rw [h15,Bool.false_and] at a
  clear h15;go_wp2;go_ret;exact ⟨Aa a.o.symm,f.o⟩
 rw [h15,Bool.true_and] at a;clear h15;go_wp2_with fail
 refine (Bm g _).mono ?_;rintro e w7 ⟨rfl,hw⟩;rw [hw];clear hw
 cases h16:Dn g
 ·rw [h16,Bool.false_or] at a
  clear h16
  by_cases h17:g = -1
  ·rw [decide_eq_true h17] at a
   have v:(g == -1)=true:=by simpa using h17
   clear h17;go_wp2;go_ret;exact ⟨Aa a.o.symm,f.o⟩
  ·rw [decide_eq_false h17] at a
   have v:=Ay h17;clear h17;go_wp2;go_ret;exact ⟨Aa a.o.symm,f.o⟩
 ·rw [h16,Bool.true_or] at a
  clear h16;go_wp2;go_ret;exact ⟨Aa a.o.symm,f.o⟩
end Go.Proofs.YtomiclakhjncbaaGreatDoor
