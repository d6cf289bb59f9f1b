import Derived.Test.YtfpafnefpmmofaaGreatDoorKWRReas
import Derived.Test.YtfpafnefpmmofaaGreatDoorJW1c
namespace Go.Proofs.YtfpafnefpmmofaaGreatDoor
open Go.RowKit Go.Proofs.Tryz
set_option maxRecDepth 100000
set_option maxHeartbeats 12800000
def stOk (x:Int):Bool:=decide (0<=x/\x<=7)
theorem uG (x:Int) (w:ql):qi 287 #[qzI x] w λe w'=>e=.returned (.bool (stOk x))/\w'=w:=by
 by_cases h1:0<=x
 ·by_cases h2:x<8
  ·have a:qj (stOk x=true):=decide_eq_true ⟨h1,by omega⟩
   go_enter func287,ntmps287
   go_wp2;go_ret;exact ⟨Ab a.o.s,rfl⟩
  ·have a:qj (stOk x=false):=decide_eq_false (by omega)
   go_enter func287,ntmps287
   go_wp2;go_ret;exact ⟨Ab a.o.s,rfl⟩
 ·have a:qj (stOk x=false):=decide_eq_false (by omega)
  go_enter func287,ntmps287
  go_wp2;go_ret;exact ⟨Ab a.o.s,rfl⟩
theorem Wk (x:Int) (w:ql):qi 286 #[qzI x] w λe w'=>e=.returned (.bool (Gr x))/\w'=w:=by
 cases h:Cm x
 ·have a:qj (Gr x=false):=by simp [qj,Gr,h]
  go_enter func286,ntmps286
  go_wp2_with fail
  refine (Dv h _).m ?_;rintro e D ⟨rfl,hw⟩;subst hw;go_wp2;go_ret;exact ⟨Ab a.o.s,rfl⟩
 ·have a:qj (Gr x=(x != 9999)):=by
    simp only [qj,Gr,h,ja]
    by_cases h9:x=9999 <;> simp [h9]
  go_enter func286,ntmps286
  go_wp2_with fail
  refine (Dv h _).m ?_;rintro e D ⟨rfl,hw⟩;subst hw;go_wp2;go_ret;exact ⟨Ab a.o.s,rfl⟩
theorem fA (r st:Int) (w:ql):qi 288 #[qzI r,qzI st] w λe w'=>e=.returned (.bool (Di r st))/\BW w w':=by
 by_cases he:st=0\/st=1\/st=2\/st=7
 ·have v:Qh st=true:=by rcases he with rfl|rfl|rfl|rfl <;> rfl
  by_cases h0:r=0
  ·have a:qj (Di r st=true):=by simp [qj,Di,v,h0]
   subst h0;clear v
   rcases he with rfl|rfl|rfl|rfl
   iterate 4
    ·go_enter func288,ntmps288
     go_wp2;go_ret;exact ⟨Ab a.o.s,bR⟩
  ·have a:qj (Di r st=Ty r):=by simp [qj,Di,h0]
   have a3:=A8 h0;clear v h0
   rcases he with rfl|rfl|rfl|rfl
   iterate 4
    ·go_enter func288,ntmps288
     go_wp2_with fail
     refine (X5 r _).m ?_;rintro e D ⟨rfl,G⟩;go_wp2;go_ret;exact ⟨Ab a.o.s,G⟩
 ·have v:Qh st=false:=by simp [Qh];omega
  have a:qj (Di r st=Ty r):=by simp [qj,Di,v]
  have g0:(st == 0)=false:=A8 (by omega)
  have X:(st == 1)=false:=A8 (by omega)
  have Y:(st == 2)=false:=A8 (by omega)
  have g7:(st == 7)=false:=A8 (by omega)
  clear v he
  go_enter func288,ntmps288
  go_wp2_with fail
  refine (X5 r _).m ?_;rintro e D ⟨rfl,G⟩;go_wp2;go_ret;exact ⟨Ab a.o.s,G⟩
theorem N5 (c:Cs) (w:ql) (J:(Lit.int .i64 c.cur).wf=true) :
  qi 258 #[cv c] w λe w'=>e=.returned (.bool (Aq c))/\BW w w':=by
 obtain ⟨W,C⟩:=A0 (w.alloc (.cells #[qzI c.iss,qzI c.acq,qzI c.cur,qzI c.am,qzI c.st,qzI c.rsn,qzI c.cl,qzI c.bk,qzI c.fee,.bool c.cop,qzI c.sta,qzI c.due] 111))
 have B:CB w.heap.size 0 c W:=by rw [C];exact CB.new w c _
 have V:BW w W:=by rw [C];exact bR.alloc nL _
 obtain ⟨j,i,k,am,st,n,cl,bk,b,p,l,g⟩:=c;unfold cv
 simp only at C J ⊢
 have y:=Aa B;have HC:qj _:=J;have HW:qj _:=C;have t:=Aa V;obtain ⟨f0,f1,f2,f3,f4,f5,f6,f7,f8,f9,f10,f11⟩:=B
 simp only [qu] at f0 f1 f2 f3 f4 f5 f6 f7 f8 f9 f10 f11
 clear J C V f9
 go_enter func258,ntmps258
 go_upto_region 1 with fail
 rw [<- HW.o];go_wp2_with fail
 refine (Wk j _).m ?_;rintro e D ⟨rfl,hw⟩;rw [hw];clear hw
 cases h1:Gr j
 ·have a:qj (Aq ⟨j,i,k,am,st,n,cl,bk,b,p,l,g⟩=false):=by simp [qj,Aq,h1]
  clear h1;go_wp2;go_ret;exact ⟨Ab a.o.s,t.o⟩
 go_wp2_with fail
 refine (Wk i _).m ?_;rintro e D ⟨rfl,hw⟩;rw [hw];clear hw
 cases h2:Gr i
 ·have a:qj (Aq ⟨j,i,k,am,st,n,cl,bk,b,p,l,g⟩=false):=by simp [qj,Aq,h2]
  clear h1 h2;go_wp2;go_ret;exact ⟨Ab a.o.s,t.o⟩
 by_cases h3:j=i
 ·have a:qj (Aq ⟨j,i,k,am,st,n,cl,bk,b,p,l,g⟩=false):=by simp [qj,Aq,h3]
  have A:(j == i)=true:=by simpa using h3
  clear h1 h2 h3;go_wp2;go_ret;exact ⟨Ab a.o.s,t.o⟩
 have A:=A8 h3;have M:qj _:=h1;have N:qj _:=h2;have O:=Aa (decide_eq_true h3);obtain ⟨d,hd⟩:=Ae (D6 k);have F:qj _:=hd;clear h1 h2 h3 hd;go_wp2_with fail
 refine (Yd _ d F.o HC.o).m ?_;rintro e w3 ⟨rfl,H⟩;have L:=y.o.below H;have q:=Aa (next t.o H);clear H f0 f1 f2 f3 f4 f5 f6 f7 f8 f10 f11 A;have u:qj (CB w.heap.size 0 ⟨j,i,k,am,st,n,cl,bk,b,p,l,g⟩ w3):=L;obtain ⟨f0,f1,f2,f3,f4,f5,f6,f7,f8,f9,f10,f11⟩:=L
 simp only [qu] at f0 f1 f2 f3 f4 f5 f6 f7 f8 f9 f10 f11
 clear f9 f0 f1 f2
 by_cases h4:d<0
 ·have a:qj (Aq ⟨j,i,k,am,st,n,cl,bk,b,p,l,g⟩=false):=by
    have:¬ 0<=D6 k:=by rw [F.o];omega
    simp [qj,Aq,this]
  go_wp2;go_ret;exact ⟨Ab a.o.s,q.o⟩
 by_cases h5:am<1
 ·have a:qj (Aq ⟨j,i,k,am,st,n,cl,bk,b,p,l,g⟩=false):=by
    have:¬ (1<=am/\am<=100000000000):=by omega
    simp [qj,Aq,this]
  go_wp2;go_ret;exact ⟨Ab a.o.s,q.o⟩
 by_cases h6:100000000000<am
 ·have a:qj (Aq ⟨j,i,k,am,st,n,cl,bk,b,p,l,g⟩=false):=by
    have:¬ (1<=am/\am<=100000000000):=by omega
    simp [qj,Aq,this]
  go_wp2;go_ret;exact ⟨Ab a.o.s,q.o⟩
 have R:qj (0<=D6 k):=by rw [qj,F.o];omega
 have S:qj (1<=am/\am<=100000000000):=⟨by omega,by omega⟩
 clear F;go_wp2_with fail
 refine (uG st _).m ?_;rintro e w4 ⟨rfl,hw⟩;rw [hw];clear hw
 cases h7:stOk st
 ·have a:qj (Aq ⟨j,i,k,am,st,n,cl,bk,b,p,l,g⟩=false):=by
    have h:decide (0<=st/\st<=7)=false:=h7
    simp only [qj,Aq,h,Bool.false_and,Bool.and_false]
  clear h7;go_wp2;go_ret;exact ⟨Ab a.o.s,q.o⟩
 have T:qj (decide (0<=st/\st<=7)=true):=h7;clear h7 h4 h5 h6;go_wp2_with fail
 refine (fA n st _).m ?_;rintro e w5 ⟨rfl,I⟩;have Z:=u.o.below I;have f:qj (BW w w5):=next q.o I;clear I f3 f4 f5 f6 f7 f8 f10 f11;obtain ⟨f0,f1,f2,f3,f4,f5,f6,f7,f8,f9,f10,f11⟩:=Z
 simp only [qu] at f0 f1 f2 f3 f4 f5 f6 f7 f8 f9 f10 f11
 clear f9 f0 f1 f2 f4 f5
 cases h8:Di n st
 ·have a:qj (Aq ⟨j,i,k,am,st,n,cl,bk,b,p,l,g⟩=false):=by simp [qj,Aq,h8]
  clear h8;go_wp2;go_ret;exact ⟨Ab a.o.s,f.o⟩
 have U:qj _:=h8;clear h8
 by_cases h9:cl<0
 ·have a:qj (Aq ⟨j,i,k,am,st,n,cl,bk,b,p,l,g⟩=false):=by
    have:¬ (0<=cl/\cl<=am):=by omega
    simp [qj,Aq,this]
  go_wp2;go_ret;exact ⟨Ab a.o.s,f.o⟩
 by_cases h10:am<cl
 ·have a:qj (Aq ⟨j,i,k,am,st,n,cl,bk,b,p,l,g⟩=false):=by
    have:¬ (0<=cl/\cl<=am):=by omega
    simp [qj,Aq,this]
  go_wp2;go_ret;exact ⟨Ab a.o.s,f.o⟩
 by_cases h11:bk<0
 ·have a:qj (Aq ⟨j,i,k,am,st,n,cl,bk,b,p,l,g⟩=false):=by
    have:¬ (0<=bk/\bk<=am):=by omega
    simp [qj,Aq,this]
  go_wp2;go_ret;exact ⟨Ab a.o.s,f.o⟩
 by_cases h12:am<bk
 ·have a:qj (Aq ⟨j,i,k,am,st,n,cl,bk,b,p,l,g⟩=false):=by
    have:¬ (0<=bk/\bk<=am):=by omega
    simp [qj,Aq,this]
  go_wp2;go_ret;exact ⟨Ab a.o.s,f.o⟩
 by_cases h13:b<0
 ·have a:qj (Aq ⟨j,i,k,am,st,n,cl,bk,b,p,l,g⟩=false):=by
    have:¬ (0<=b/\b<=500000):=by omega
    simp [qj,Aq,this]
  go_wp2;go_ret;exact ⟨Ab a.o.s,f.o⟩
 by_cases h14:500000<b
 ·have a:qj (Aq ⟨j,i,k,am,st,n,cl,bk,b,p,l,g⟩=false):=by
    have:¬ (0<=b/\b<=500000):=by omega
    simp [qj,Aq,this]
  go_wp2;go_ret;exact ⟨Ab a.o.s,f.o⟩
 have a:qj (Aq ⟨j,i,k,am,st,n,cl,bk,b,p,l,g⟩=(Fh l && (Fh g || decide (g = -1)))):=by
  have X:(0<=cl/\cl<=am):=⟨by omega,by omega⟩
  have Y:(0<=bk/\bk<=am):=⟨by omega,by omega⟩
  have g3:(0<=b/\b<=500000):=⟨by omega,by omega⟩
  simp only [qj,Aq,M.o,N.o,T.o,U.o,O.o,decide_eq_true R.o,decide_eq_true S.o,decide_eq_true X,decide_eq_true Y,decide_eq_true g3,ja]
 clear y u t q M N O R S T U;go_wp2_with fail
 refine (Ci l _).m ?_;rintro e w6 ⟨rfl,hw⟩;rw [hw];clear hw
 cases h15:Fh l
 ·rw [h15,Bool.false_and] at a
  clear h15;go_wp2;go_ret;exact ⟨Ab a.o.s,f.o⟩
 rw [h15,ja] at a;clear h15;go_wp2_with fail
 refine (Ci g _).m ?_;rintro e w7 ⟨rfl,hw⟩;rw [hw];clear hw
 cases h16:Fh g
 ·rw [h16,Bool.false_or] at a
  clear h16
  by_cases h17:g = -1
  ·rw [decide_eq_true h17] at a
   have z:(g == -1)=true:=by simpa using h17
   clear h17;go_wp2;go_ret;exact ⟨Ab a.o.s,f.o⟩
  ·rw [decide_eq_false h17] at a
   have z:=A8 h17;clear h17;go_wp2;go_ret;exact ⟨Ab a.o.s,f.o⟩
 ·rw [h16,Bool.true_or] at a
  clear h16;go_wp2;go_ret;exact ⟨Ab a.o.s,f.o⟩
end Go.Proofs.YtfpafnefpmmofaaGreatDoor
