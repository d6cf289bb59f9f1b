import Derived.Test.YtfpafnefpmmofaaGreatDoorKWRReas
import Derived.Test.YtfpafnefpmmofaaGreatDoorJW1b
namespace Go.Proofs.YtfpafnefpmmofaaGreatDoor
open Go.RowKit Go.Proofs.Tryz
set_option maxRecDepth 100000
set_option maxHeartbeats 12800000
theorem Eu {x a b:Int} {q:Bool} (h:Gb x a b=q) (w:ql):qi 89 #[qzI x,qzI a,qzI b] w λe w'=>e=.returned (.bool q)/\w'=w:=by rw [<- h];exact Cg x a b w
theorem Gl {x a b:Int} {q:Bool} (h:Gb x a b=q):decide (a<=x/\x<=b)=q:=h
theorem N9 (c:Cs) (w:ql) :
  qi 148 #[cv c] w λe w'=>e=.returned (.bool (Aq c))/\BW w w':=by
 obtain ⟨W,M⟩:=A0 (w.alloc (.cells #[qzI c.iss,qzI c.acq,qzI c.cur,qzI c.am,qzI c.st,qzI c.rsn,qzI c.cl,qzI c.bk,qzI c.fee,.bool c.cop,qzI c.sta,qzI c.due] 111))
 have B:CB w.heap.size 0 c W:=by rw [M];exact CB.new w c _
 have bW:BW w W:=by rw [M];exact bR.alloc nL _
 obtain ⟨n,k,z,am,st,j,cl,bk,l,A,u,i⟩:=c;unfold cv
 simp only at M ⊢
 have G:=Aa B;have HW:qj _:=M;have y:=Aa bW;obtain ⟨f0,f1,f2,f3,f4,f5,f6,f7,f8,f9,f10,f11⟩:=B
 simp only [qu] at f0 f1 f2 f3 f4 f5 f6 f7 f8 f9 f10 f11
 clear M bW f9
 go_enter func148,ntmps148
 go_upto_region 1 with fail
 rw [<- HW.o];go_wp2_with fail
 refine (Wn n _).m ?_;rintro e w1 ⟨rfl,hw⟩;rw [hw];clear hw
 cases h1:Cm n
 ·have f:qj (Aq ⟨n,k,z,am,st,j,cl,bk,l,A,u,i⟩=false):=by simp [qj,Aq,Gr,h1]
  clear h1;go_wp2;go_ret;exact ⟨Ab f.o.s,y.o⟩
 go_wp2_with fail
 refine (Wn k _).m ?_;rintro e w1 ⟨rfl,hw⟩;rw [hw];clear hw
 cases h2:Cm k
 ·have f:qj (Aq ⟨n,k,z,am,st,j,cl,bk,l,A,u,i⟩=false):=by simp [qj,Aq,Gr,h2]
  clear h1 h2;go_wp2;go_ret;exact ⟨Ab f.o.s,y.o⟩
 by_cases h3:n=k
 ·have f:qj (Aq ⟨n,k,z,am,st,j,cl,bk,l,A,u,i⟩=false):=by simp [qj,Aq,h3]
  have L:(n == k)=true:=by simpa using h3
  clear h1 h2 h3;go_wp2;go_ret;exact ⟨Ab f.o.s,y.o⟩
 have L:=A8 h3
 by_cases k1:n=9999
 ·have f:qj (Aq ⟨n,k,z,am,st,j,cl,bk,l,A,u,i⟩=false):=by simp [qj,Aq,Gr,k1]
  have R:(n == 9999)=true:=by simpa using k1
  clear h1 h2 h3 k1;go_wp2;go_ret;exact ⟨Ab f.o.s,y.o⟩
 have R:=A8 k1
 by_cases k2:k=9999
 ·have f:qj (Aq ⟨n,k,z,am,st,j,cl,bk,l,A,u,i⟩=false):=by simp [qj,Aq,Gr,k2]
  have S:(k == 9999)=true:=by simpa using k2
  clear h1 h2 h3 k1 k2;go_wp2;go_ret;exact ⟨Ab f.o.s,y.o⟩
 have S:=A8 k2
 have H1:qj (Gr n=true):=by simp [qj,Gr,h1,k1]
 have H2:qj (Gr k=true):=by simp [qj,Gr,h2,k2]
 have H3:=Aa (decide_eq_true h3);clear h1 h2 h3 k1 k2;go_upto_region 3 with fail
 go_cut [3] (λv wc=>v=.bool (Qh st)/\wc=W)
 case first =>
  cases he:Gb st 0 2
  ·have Y:qj (Qh st=(st == 7)):=by
     simp only [qj,Qh,Gl he,Bool.false_or]
     by_cases h:st=7 <;> simp [h]
   go_wp2_with (go_at_call 89;refine (Eu he _).m ?_;rintro e w' ⟨rfl,rfl⟩)
   go_meet
   exact ⟨by rw [Y.o],rfl⟩
  ·have Y:qj (Qh st=true):=by simp only [qj,Qh,Gl he,Bool.true_or]
   go_wp2_with (go_at_call 89;refine (Eu he _).m ?_;rintro e w' ⟨rfl,rfl⟩)
   go_meet
   exact ⟨by rw [Y.o],rfl⟩
 case rest =>
  obtain ⟨rfl,N⟩:=hcut;rw [N];clear N;obtain ⟨E,hE⟩:=Ae (Qh st);rw [hE];have X:qj _:=hE;obtain ⟨d,hd⟩:=Ae (D6 z);have HD:qj _:=hd;clear hd hE L R S
  obtain ⟨m,hm⟩:=Ae ((decide (0<=d) && (decide (1<=am/\am<=100000000000) && (decide (0<=st/\st<=7) && (Ty j || (decide (j=0) && E))))))
  have H:qj _:=hm;clear hm;go_upto_region 4 with fail
  go_cut [69] (λv wc=>v=.bool (!m)/\BW W wc)
  case first =>
   go_wp2_with fail
   refine (Mw _ d HD.o).m ?_;rintro e w3 ⟨rfl,Z⟩;have B3:=G.o.below Z;have C:qj (BW W w3):=Z;clear Z f0 f1 f2 f3 f4 f5 f6 f7 f8 f10 f11;obtain ⟨f0,f1,f2,f3,f4,f5,f6,f7,f8,f9,f10,f11⟩:=B3
   simp only [qu] at f0 f1 f2 f3 f4 f5 f6 f7 f8 f9 f10 f11
   clear f9 f0 f1 f2 f6 f7 f8 f10 f11
   by_cases h4:d<0
   ·have f:qj (m=false):=by
      have:¬ 0<=d:=by omega
      rw [qj,<- H.o];simp [this]
    go_wp2;go_meet
    exact ⟨by rw [f.o];rfl,C.o⟩
   have H4:qj (decide (0<=d)=true):=decide_eq_true (by omega)
   have T:qj (decide (d<0)=false):=decide_eq_false h4;go_wp2_with fail
   cases h5:Gb am 1 100000000000
   ·have f:qj (m=false):=by rw [qj,<- H.o,Gl h5];simp
    refine (Eu h5 _).m ?_;rintro e D ⟨rfl,hw⟩;rw [hw];clear hw;clear h5;go_wp2;go_meet
    exact ⟨by rw [f.o];rfl,C.o⟩
   have H5:qj (decide (1<=am/\am<=100000000000)=true):=h5;refine (Eu h5 _).m ?_;rintro e D ⟨rfl,hw⟩;rw [hw];clear hw;clear h5;go_wp2_with fail
   cases h7:Gb st 0 7
   ·have f:qj (m=false):=by rw [qj,<- H.o,Gl h7];simp
    refine (Eu h7 _).m ?_;rintro e D ⟨rfl,hw⟩;rw [hw];clear hw;clear h7;go_wp2;go_meet
    exact ⟨by rw [f.o];rfl,C.o⟩
   have H7:qj (decide (0<=st/\st<=7)=true):=h7;refine (Eu h7 _).m ?_;rintro e D ⟨rfl,hw⟩;rw [hw];clear hw;clear h7;go_wp2_with fail
   refine (fR j _).m ?_;rintro e w5 ⟨rfl,b5⟩;have g5:=(b5.cell (p:=⟨w.heap.size,5,none⟩) (qs _ _ f5)).t f5;have g:qj (BW W w5):=next C.o b5;clear b5 f3 f4 f5
   have F:qj (m=(Ty j || (decide (j=0) && E))):=by rw [qj,<- H.o,H4.o,H5.o,H7.o];rfl
   cases h8:Ty j
   ·rw [h8,Bool.false_or] at F
    clear h8
    by_cases h9:j=0
    ·rw [decide_eq_true h9,ja] at F
     have a3:(j == 0)=true:=by simpa using h9
     clear h9
     cases E
     ·go_wp2
      go_meet
      exact ⟨by rw [F.o];first|rfl|(rw [T.o];rfl),g.o⟩
     ·go_wp2
      go_meet
      exact ⟨by rw [F.o];first|rfl|(rw [T.o];rfl),g.o⟩
    ·rw [decide_eq_false h9,Bool.false_and] at F
     have a3:=A8 h9;clear h9;go_wp2;go_meet
     exact ⟨by rw [F.o];first|rfl|(rw [T.o];rfl),g.o⟩
   ·rw [h8,Bool.true_or] at F
    clear h8;go_wp2;go_meet
    exact ⟨by rw [F.o];first|rfl|(rw [T.o];rfl),g.o⟩
  case rest =>
   obtain ⟨rfl,bc⟩:=hcut;have B5:=G.o.below bc;have g:qj (BW w wc):=next y.o bc;clear bc f0 f1 f2 f3 f4 f5 f6 f7 f8 f10 f11;obtain ⟨f0,f1,f2,f3,f4,f5,f6,f7,f8,f9,f10,f11⟩:=B5
   simp only [qu] at f0 f1 f2 f3 f4 f5 f6 f7 f8 f9 f10 f11
   clear f9 f0 f1 f2 f4 f5
   have O:∀ r:Bool,(decide (0<=cl/\cl<=am) && (decide (0<=bk/\bk<=am) && (decide (0<=l/\l<=500000) && (Fh u && (Fh i || decide (i = -1))))))=r->Aq ⟨n,k,z,am,st,j,cl,bk,l,A,u,i⟩=(m && r):=by
    intro r hr;subst hr
    simp only [Aq,Di,H1.o,H2.o,HD.o,H3.o,ja,<- H.o,X.o,Bool.and_assoc]
   cases m
   ·have f:qj (Aq ⟨n,k,z,am,st,j,cl,bk,l,A,u,i⟩=false):=O _ rfl
    clear O;go_wp2;go_ret;exact ⟨Ab f.o.s,g.o⟩
   simp only [ja] at O
   have I:qj (∀ r:Bool,(decide (0<=cl/\cl<=am) && (decide (0<=bk/\bk<=am) && (decide (0<=l/\l<=500000) && (Fh u && (Fh i || decide (i = -1))))))=r->Aq ⟨n,k,z,am,st,j,cl,bk,l,A,u,i⟩=r):=O
   clear O;go_wp2_with fail
   cases h9:Gb cl 0 am
   ·have f:qj (Aq ⟨n,k,z,am,st,j,cl,bk,l,A,u,i⟩=false):=I.o _ (by rw [Gl h9];rfl)
    refine (Eu h9 _).m ?_;rintro e D ⟨rfl,hw⟩;rw [hw];clear hw;clear h9;go_wp2;go_ret;exact ⟨Ab f.o.s,g.o⟩
   refine (Eu h9 _).m ?_;rintro e D ⟨rfl,hw⟩;rw [hw];clear hw;have H9:qj (decide (0<=cl/\cl<=am)=true):=h9;clear h9;go_wp2_with fail
   cases h10:Gb bk 0 am
   ·have f:qj (Aq ⟨n,k,z,am,st,j,cl,bk,l,A,u,i⟩=false):=I.o _ (by rw [Gl h10];simp)
    refine (Eu h10 _).m ?_;rintro e D ⟨rfl,hw⟩;rw [hw];clear hw;clear h10;go_wp2;go_ret;exact ⟨Ab f.o.s,g.o⟩
   refine (Eu h10 _).m ?_;rintro e D ⟨rfl,hw⟩;rw [hw];clear hw;have U:qj (decide (0<=bk/\bk<=am)=true):=h10;clear h10;go_wp2_with fail
   cases h11:Gb l 0 500000
   ·have f:qj (Aq ⟨n,k,z,am,st,j,cl,bk,l,A,u,i⟩=false):=I.o _ (by rw [Gl h11];simp)
    refine (Eu h11 _).m ?_;rintro e D ⟨rfl,hw⟩;rw [hw];clear hw;clear h11;go_wp2;go_ret;exact ⟨Ab f.o.s,g.o⟩
   refine (Eu h11 _).m ?_;rintro e D ⟨rfl,hw⟩;rw [hw];clear hw;have V:qj (decide (0<=l/\l<=500000)=true):=h11;clear h11
   have f:qj (Aq ⟨n,k,z,am,st,j,cl,bk,l,A,u,i⟩=(Fh u && (Fh i || decide (i = -1)))):=I.o _ (by rw [H9.o,U.o,V.o];rfl)
   clear I;go_wp2_with fail
   refine (Br u _).m ?_;rintro e w6 ⟨rfl,hw⟩;rw [hw];clear hw
   cases h15:Fh u
   ·rw [h15,Bool.false_and] at f
    clear h15;go_wp2;go_ret;exact ⟨Ab f.o.s,g.o⟩
   rw [h15,ja] at f;clear h15
   by_cases h17:i = -1
   ·rw [decide_eq_true h17,Bool.or_true] at f
    have J:(i == -1)=true:=by simpa using h17
    clear h17;go_wp2;go_ret;exact ⟨Ab f.o.s,g.o⟩
   ·rw [decide_eq_false h17,Bool.or_false] at f
    have J:=A8 h17;clear h17;go_wp2_with fail
    refine (Br i _).m ?_;rintro e w7 ⟨rfl,hw⟩;rw [hw];clear hw;go_wp2;go_ret;exact ⟨Ab f.o.s,g.o⟩
end Go.Proofs.YtfpafnefpmmofaaGreatDoor
