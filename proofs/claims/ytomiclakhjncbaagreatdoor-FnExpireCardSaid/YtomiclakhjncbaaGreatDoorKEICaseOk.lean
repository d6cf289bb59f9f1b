import Derived.Test.YtomiclakhjncbaaGreatDoorJE1a
namespace Go.Proofs.YtomiclakhjncbaaGreatDoor
open Go.RowKit Go.Proofs.Tryz
set_option maxRecDepth 100000
set_option maxHeartbeats 12800000
def stOk (x:Int):Bool:=decide (0≤x∧x≤7)
theorem eD (x:Int) (w:World):Calls prog 285 #[.int .i64 x] w fun e w'=>e=.returned (.bool (stOk x))∧w'=w:=by
 by_cases h1:0≤x
 ·by_cases h2:x<8
  ·have HE:Hid (stOk x=true):=decide_eq_true ⟨h1,by omega⟩
   go_enter func285,ntmps285
   go_wp2;go_ret;exact ⟨Aa HE.o.symm,rfl⟩
  ·have HE:Hid (stOk x=false):=decide_eq_false (by omega)
   go_enter func285,ntmps285
   go_wp2;go_ret;exact ⟨Aa HE.o.symm,rfl⟩
 ·have HE:Hid (stOk x=false):=decide_eq_false (by omega)
  go_enter func285,ntmps285
  go_wp2;go_ret;exact ⟨Aa HE.o.symm,rfl⟩
theorem Qs (x:Int) (w:World):Calls prog 284 #[.int .i64 x] w fun e w'=>e=.returned (.bool (Fb x))∧w'=w:=by
 cases h:Cb x
 ·have HE:Hid (Fb x=false):=by simp [Hid,Fb,h]
  go_enter func284,ntmps284
  go_wp2_with fail
  refine (C9 h _).mono ?_;rintro e w1 ⟨rfl,hw⟩;subst hw;go_wp2;go_ret;exact ⟨Aa HE.o.symm,rfl⟩
 ·have HE:Hid (Fb x=(x != 9999)):=by
    simp only [Hid,Fb,h,Bool.true_and]
    by_cases h9:x=9999 <;> simp [h9]
  go_enter func284,ntmps284
  go_wp2_with fail
  refine (C9 h _).mono ?_;rintro e w1 ⟨rfl,hw⟩;subst hw;go_wp2;go_ret;exact ⟨Aa HE.o.symm,rfl⟩
theorem Wx (r st:Int) (w:World):Calls prog 286 #[.int .i64 r,.int .i64 st] w fun e w'=>e=.returned (.bool (Cy r st))∧BW w w':=by
 by_cases he:st=0∨st=1∨st=2∨st=7
 ·have hE:Ls st=true:=by rcases he with rfl | rfl | rfl | rfl <;> rfl
  by_cases h0:r=0
  ·have HE:Hid (Cy r st=true):=by simp [Hid,Cy,hE,h0]
   subst h0;clear hE
   rcases he with rfl | rfl | rfl | rfl
   iterate 4
    ·go_enter func286,ntmps286
     go_wp2;go_ret;exact ⟨Aa HE.o.symm,bR⟩
  ·have HE:Hid (Cy r st=Oy r):=by simp [Hid,Cy,h0]
   have h0':=Ay h0;clear hE h0
   rcases he with rfl | rfl | rfl | rfl
   iterate 4
    ·go_enter func286,ntmps286
     go_wp2_with fail
     refine (Rg r _).mono ?_;rintro e w1 ⟨rfl,b1⟩;go_wp2;go_ret;exact ⟨Aa HE.o.symm,b1⟩
 ·have hE:Ls st=false:=by simp [Ls];omega
  have HE:Hid (Cy r st=Oy r):=by simp [Hid,Cy,hE]
  have g0:(st == 0)=false:=Ay (by omega)
  have g1:(st == 1)=false:=Ay (by omega)
  have g2:(st == 2)=false:=Ay (by omega)
  have g7:(st == 7)=false:=Ay (by omega)
  clear hE he
  go_enter func286,ntmps286
  go_wp2_with fail
  refine (Rg r _).mono ?_;rintro e w1 ⟨rfl,b1⟩;go_wp2;go_ret;exact ⟨Aa HE.o.symm,b1⟩
theorem Jr (c:Cs) (w:World) (hc:(Lit.int .i64 c.cur).wf=true) :
  Calls prog 254 #[cv c] w fun e w'=>e=.returned (.bool (Ao c))∧BW w w':=by
 obtain ⟨W,hW⟩:∃ W,W=w.alloc (.cells #[.int .i64 c.iss,.int .i64 c.acq,.int .i64 c.cur,.int .i64 c.am,.int .i64 c.st,.int .i64 c.rsn,.int .i64 c.cl,.int .i64 c.bk,.int .i64 c.fee,.bool c.cop,.int .i64 c.sta,.int .i64 c.due] 61):=⟨_,rfl⟩
 have B:CB w.heap.size 0 c W:=by rw [hW];exact CB.new w c _
 have bW:BW w W:=by rw [hW];exact bR.alloc nL _
 obtain ⟨iY,aZ,uV,am,st,rJ,cl,bk,fW,cW,sS,dX⟩:=c;unfold cv
 simp only at hW hc ⊢
 have HBC:Hid (CB w.heap.size 0 ⟨iY,aZ,uV,am,st,rJ,cl,bk,fW,cW,sS,dX⟩ W):=B;have HC:Hid _:=hc;have HW:Hid _:=hW;have HBW:Hid (BW w W):=bW;obtain ⟨f0,f1,f2,f3,f4,f5,f6,f7,f8,f9,f10,f11⟩:=B
 simp only [Nat.zero_add] at f0 f1 f2 f3 f4 f5 f6 f7 f8 f9 f10 f11
 clear hc hW bW f9
 go_enter func254,ntmps254
 go_upto_region 1 with fail
 rw [← HW.o];go_wp2_with fail
 refine (Qs iY _).mono ?_;rintro e w1 ⟨rfl,hw⟩;rw [hw];clear hw
 cases h1:Fb iY
 ·have HE:Hid (Ao ⟨iY,aZ,uV,am,st,rJ,cl,bk,fW,cW,sS,dX⟩=false):=by simp [Hid,Ao,h1]
  clear h1;go_wp2;go_ret;exact ⟨Aa HE.o.symm,HBW.o⟩
 go_wp2_with fail
 refine (Qs aZ _).mono ?_;rintro e w1 ⟨rfl,hw⟩;rw [hw];clear hw
 cases h2:Fb aZ
 ·have HE:Hid (Ao ⟨iY,aZ,uV,am,st,rJ,cl,bk,fW,cW,sS,dX⟩=false):=by simp [Hid,Ao,h2]
  clear h1 h2;go_wp2;go_ret;exact ⟨Aa HE.o.symm,HBW.o⟩
 by_cases h3:iY=aZ
 ·have HE:Hid (Ao ⟨iY,aZ,uV,am,st,rJ,cl,bk,fW,cW,sS,dX⟩=false):=by simp [Hid,Ao,h3]
  have h3':(iY == aZ)=true:=by simpa using h3
  clear h1 h2 h3;go_wp2;go_ret;exact ⟨Aa HE.o.symm,HBW.o⟩
 have h3':=Ay h3;have H1:Hid _:=h1;have H2:Hid _:=h2;have H3:Hid (decide (iY≠aZ)=true):=decide_eq_true h3;obtain ⟨d,hd⟩:∃ d,Dc uV=d:=⟨_,rfl⟩;have HD:Hid _:=hd;clear h1 h2 h3 hd;go_wp2_with fail
 refine (Rd _ d HD.o HC.o).mono ?_;rintro e w3 ⟨rfl,b3⟩;have B3:=HBC.o.below b3;have HB3:Hid (BW w w3):=next HBW.o b3;clear b3 f0 f1 f2 f3 f4 f5 f6 f7 f8 f10 f11 h3';have HBC3:Hid (CB w.heap.size 0 ⟨iY,aZ,uV,am,st,rJ,cl,bk,fW,cW,sS,dX⟩ w3):=B3;obtain ⟨f0,f1,f2,f3,f4,f5,f6,f7,f8,f9,f10,f11⟩:=B3
 simp only [Nat.zero_add] at f0 f1 f2 f3 f4 f5 f6 f7 f8 f9 f10 f11
 clear f9 f0 f1 f2
 by_cases h4:d<0
 ·have HE:Hid (Ao ⟨iY,aZ,uV,am,st,rJ,cl,bk,fW,cW,sS,dX⟩=false):=by
    have:¬ 0≤Dc uV:=by rw [HD.o];omega
    simp [Hid,Ao,this]
  go_wp2;go_ret;exact ⟨Aa HE.o.symm,HB3.o⟩
 by_cases h5:am<1
 ·have HE:Hid (Ao ⟨iY,aZ,uV,am,st,rJ,cl,bk,fW,cW,sS,dX⟩=false):=by
    have:¬ (1≤am∧am≤100000000000):=by omega
    simp [Hid,Ao,this]
  go_wp2;go_ret;exact ⟨Aa HE.o.symm,HB3.o⟩
 by_cases h6:100000000000<am
 ·have HE:Hid (Ao ⟨iY,aZ,uV,am,st,rJ,cl,bk,fW,cW,sS,dX⟩=false):=by
    have:¬ (1≤am∧am≤100000000000):=by omega
    simp [Hid,Ao,this]
  go_wp2;go_ret;exact ⟨Aa HE.o.symm,HB3.o⟩
 have H4:Hid (0≤Dc uV):=by rw [Hid,HD.o];omega
 have H5:Hid (1≤am∧am≤100000000000):=⟨by omega,by omega⟩
 clear HD;go_wp2_with fail
 refine (eD st _).mono ?_;rintro e w4 ⟨rfl,hw⟩;rw [hw];clear hw
 cases h7:stOk st
 ·have HE:Hid (Ao ⟨iY,aZ,uV,am,st,rJ,cl,bk,fW,cW,sS,dX⟩=false):=by
    have h:decide (0≤st∧st≤7)=false:=h7
    simp only [Hid,Ao,h,Bool.false_and,Bool.and_false]
  clear h7;go_wp2;go_ret;exact ⟨Aa HE.o.symm,HB3.o⟩
 have H7:Hid (decide (0≤st∧st≤7)=true):=h7;clear h7 h4 h5 h6;go_wp2_with fail
 refine (Wx rJ st _).mono ?_;rintro e w5 ⟨rfl,b5⟩;have B5:=HBC3.o.below b5;have HB5:Hid (BW w w5):=next HB3.o b5;clear b5 f3 f4 f5 f6 f7 f8 f10 f11;obtain ⟨f0,f1,f2,f3,f4,f5,f6,f7,f8,f9,f10,f11⟩:=B5
 simp only [Nat.zero_add] at f0 f1 f2 f3 f4 f5 f6 f7 f8 f9 f10 f11
 clear f9 f0 f1 f2 f4 f5
 cases h8:Cy rJ st
 ·have HE:Hid (Ao ⟨iY,aZ,uV,am,st,rJ,cl,bk,fW,cW,sS,dX⟩=false):=by simp [Hid,Ao,h8]
  clear h8;go_wp2;go_ret;exact ⟨Aa HE.o.symm,HB5.o⟩
 have H8:Hid _:=h8;clear h8
 by_cases h9:cl<0
 ·have HE:Hid (Ao ⟨iY,aZ,uV,am,st,rJ,cl,bk,fW,cW,sS,dX⟩=false):=by
    have:¬ (0≤cl∧cl≤am):=by omega
    simp [Hid,Ao,this]
  go_wp2;go_ret;exact ⟨Aa HE.o.symm,HB5.o⟩
 by_cases h10:am<cl
 ·have HE:Hid (Ao ⟨iY,aZ,uV,am,st,rJ,cl,bk,fW,cW,sS,dX⟩=false):=by
    have:¬ (0≤cl∧cl≤am):=by omega
    simp [Hid,Ao,this]
  go_wp2;go_ret;exact ⟨Aa HE.o.symm,HB5.o⟩
 by_cases h11:bk<0
 ·have HE:Hid (Ao ⟨iY,aZ,uV,am,st,rJ,cl,bk,fW,cW,sS,dX⟩=false):=by
    have:¬ (0≤bk∧bk≤am):=by omega
    simp [Hid,Ao,this]
  go_wp2;go_ret;exact ⟨Aa HE.o.symm,HB5.o⟩
 by_cases h12:am<bk
 ·have HE:Hid (Ao ⟨iY,aZ,uV,am,st,rJ,cl,bk,fW,cW,sS,dX⟩=false):=by
    have:¬ (0≤bk∧bk≤am):=by omega
    simp [Hid,Ao,this]
  go_wp2;go_ret;exact ⟨Aa HE.o.symm,HB5.o⟩
 by_cases h13:fW<0
 ·have HE:Hid (Ao ⟨iY,aZ,uV,am,st,rJ,cl,bk,fW,cW,sS,dX⟩=false):=by
    have:¬ (0≤fW∧fW≤500000):=by omega
    simp [Hid,Ao,this]
  go_wp2;go_ret;exact ⟨Aa HE.o.symm,HB5.o⟩
 by_cases h14:500000<fW
 ·have HE:Hid (Ao ⟨iY,aZ,uV,am,st,rJ,cl,bk,fW,cW,sS,dX⟩=false):=by
    have:¬ (0≤fW∧fW≤500000):=by omega
    simp [Hid,Ao,this]
  go_wp2;go_ret;exact ⟨Aa HE.o.symm,HB5.o⟩
 have HE:Hid (Ao ⟨iY,aZ,uV,am,st,rJ,cl,bk,fW,cW,sS,dX⟩=(Dn sS && (Dn dX || decide (dX = -1)))):=by
  have g1:(0≤cl∧cl≤am):=⟨by omega,by omega⟩
  have g2:(0≤bk∧bk≤am):=⟨by omega,by omega⟩
  have g3:(0≤fW∧fW≤500000):=⟨by omega,by omega⟩
  simp only [Hid,Ao,H1.o,H2.o,H7.o,H8.o,H3.o,decide_eq_true H4.o,decide_eq_true H5.o,decide_eq_true g1,decide_eq_true g2,decide_eq_true g3,Bool.true_and]
 clear HBC HBC3 HBW HB3 H1 H2 H3 H4 H5 H7 H8;go_wp2_with fail
 refine (Bm sS _).mono ?_;rintro e w6 ⟨rfl,hw⟩;rw [hw];clear hw
 cases h15:Dn sS
 ·rw [h15,Bool.false_and] at HE
  clear h15;go_wp2;go_ret;exact ⟨Aa HE.o.symm,HB5.o⟩
 rw [h15,Bool.true_and] at HE;clear h15;go_wp2_with fail
 refine (Bm dX _).mono ?_;rintro e w7 ⟨rfl,hw⟩;rw [hw];clear hw
 cases h16:Dn dX
 ·rw [h16,Bool.false_or] at HE
  clear h16
  by_cases h17:dX = -1
  ·rw [decide_eq_true h17] at HE
   have h17':(dX == -1)=true:=by simpa using h17
   clear h17;go_wp2;go_ret;exact ⟨Aa HE.o.symm,HB5.o⟩
  ·rw [decide_eq_false h17] at HE
   have h17':=Ay h17;clear h17;go_wp2;go_ret;exact ⟨Aa HE.o.symm,HB5.o⟩
 ·rw [h16,Bool.true_or] at HE
  clear h16;go_wp2;go_ret;exact ⟨Aa HE.o.symm,HB5.o⟩
end Go.Proofs.YtomiclakhjncbaaGreatDoor
