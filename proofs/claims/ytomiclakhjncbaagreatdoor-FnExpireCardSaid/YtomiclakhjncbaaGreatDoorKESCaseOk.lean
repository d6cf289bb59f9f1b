import Derived.Test.YtomiclakhjncbaaGreatDoorJE1a
namespace Go.Proofs.YtomiclakhjncbaaGreatDoor
open Go.RowKit Go.Proofs.Tryz
set_option maxRecDepth 100000
set_option maxHeartbeats 12800000
theorem Fa {x a b:Int} {q:Bool} (h:Gk x a b=q) (w:World):Calls prog 134 #[.int .i64 x,.int .i64 a,.int .i64 b] w fun e w'=>e=.returned (.bool q)∧w'=w:=by rw [← h];exact Dl x a b w
theorem E7 {x a b:Int} {q:Bool} (h:Gk x a b=q):decide (a≤x∧x≤b)=q:=h
theorem J6 (c:Cs) (w:World) :
  Calls prog 219 #[cv c] w fun e w'=>e=.returned (.bool (Ao c))∧BW w w':=by
 obtain ⟨W,hW⟩:∃ W,W=w.alloc (.cells #[.int .i64 c.iss,.int .i64 c.acq,.int .i64 c.cur,.int .i64 c.am,.int .i64 c.st,.int .i64 c.rsn,.int .i64 c.cl,.int .i64 c.bk,.int .i64 c.fee,.bool c.cop,.int .i64 c.sta,.int .i64 c.due] 61):=⟨_,rfl⟩
 have B:CB w.heap.size 0 c W:=by rw [hW];exact CB.new w c _
 have bW:BW w W:=by rw [hW];exact bR.alloc nL _
 obtain ⟨iY,aZ,uV,am,st,rJ,cl,bk,fW,cW,sS,dX⟩:=c;unfold cv
 simp only at hW ⊢
 have HBC:Hid (CB w.heap.size 0 ⟨iY,aZ,uV,am,st,rJ,cl,bk,fW,cW,sS,dX⟩ W):=B;have HW:Hid _:=hW;have HBW:Hid (BW w W):=bW;obtain ⟨f0,f1,f2,f3,f4,f5,f6,f7,f8,f9,f10,f11⟩:=B
 simp only [Nat.zero_add] at f0 f1 f2 f3 f4 f5 f6 f7 f8 f9 f10 f11
 clear hW bW f9
 go_enter func219,ntmps219
 go_upto_region 1 with fail
 rw [← HW.o];go_wp2_with fail
 refine (Ro iY _).mono ?_;rintro e w1 ⟨rfl,hw⟩;rw [hw];clear hw
 cases h1:Cb iY
 ·have HE:Hid (Ao ⟨iY,aZ,uV,am,st,rJ,cl,bk,fW,cW,sS,dX⟩=false):=by simp [Hid,Ao,Fb,h1]
  clear h1;go_wp2;go_ret;exact ⟨Aa HE.o.symm,HBW.o⟩
 go_wp2_with fail
 refine (Ro aZ _).mono ?_;rintro e w1 ⟨rfl,hw⟩;rw [hw];clear hw
 cases h2:Cb aZ
 ·have HE:Hid (Ao ⟨iY,aZ,uV,am,st,rJ,cl,bk,fW,cW,sS,dX⟩=false):=by simp [Hid,Ao,Fb,h2]
  clear h1 h2;go_wp2;go_ret;exact ⟨Aa HE.o.symm,HBW.o⟩
 by_cases h3:iY=aZ
 ·have HE:Hid (Ao ⟨iY,aZ,uV,am,st,rJ,cl,bk,fW,cW,sS,dX⟩=false):=by simp [Hid,Ao,h3]
  have h3':(iY == aZ)=true:=by simpa using h3
  clear h1 h2 h3;go_wp2;go_ret;exact ⟨Aa HE.o.symm,HBW.o⟩
 have h3':=Ay h3
 by_cases k1:iY=9999
 ·have HE:Hid (Ao ⟨iY,aZ,uV,am,st,rJ,cl,bk,fW,cW,sS,dX⟩=false):=by simp [Hid,Ao,Fb,k1]
  have k1':(iY == 9999)=true:=by simpa using k1
  clear h1 h2 h3 k1;go_wp2;go_ret;exact ⟨Aa HE.o.symm,HBW.o⟩
 have k1':=Ay k1
 by_cases k2:aZ=9999
 ·have HE:Hid (Ao ⟨iY,aZ,uV,am,st,rJ,cl,bk,fW,cW,sS,dX⟩=false):=by simp [Hid,Ao,Fb,k2]
  have k2':(aZ == 9999)=true:=by simpa using k2
  clear h1 h2 h3 k1 k2;go_wp2;go_ret;exact ⟨Aa HE.o.symm,HBW.o⟩
 have k2':=Ay k2
 have H1:Hid (Fb iY=true):=by simp [Hid,Fb,h1,k1]
 have H2:Hid (Fb aZ=true):=by simp [Hid,Fb,h2,k2]
 have H3:Hid (decide (iY≠aZ)=true):=decide_eq_true h3;clear h1 h2 h3 k1 k2;go_upto_region 3 with fail
 go_cut [3] (fun v wc=>v=.bool (Ls st)∧wc=W)
 case first =>
  cases he:Gk st 0 2
  ·have HV:Hid (Ls st=(st == 7)):=by
     simp only [Hid,Ls,E7 he,Bool.false_or]
     by_cases h:st=7 <;> simp [h]
   go_wp2_with (go_at_call 134;refine (Fa he _).mono ?_;rintro e w' ⟨rfl,rfl⟩)
   go_meet
   exact ⟨by rw [HV.o],rfl⟩
  ·have HV:Hid (Ls st=true):=by simp only [Hid,Ls,E7 he,Bool.true_or]
   go_wp2_with (go_at_call 134;refine (Fa he _).mono ?_;rintro e w' ⟨rfl,rfl⟩)
   go_meet
   exact ⟨by rw [HV.o],rfl⟩
 case rest =>
  obtain ⟨rfl,hwc⟩:=hcut;rw [hwc];clear hwc;obtain ⟨E,hE⟩:∃ E,Ls st=E:=⟨_,rfl⟩;rw [hE];have HEE:Hid _:=hE;obtain ⟨d,hd⟩:∃ d,Dc uV=d:=⟨_,rfl⟩;have HD:Hid _:=hd;clear hd hE h3' k1' k2'
  obtain ⟨m,hm⟩:∃ m,(decide (0≤d) && (decide (1≤am∧am≤100000000000) && (decide (0≤st∧st≤7) && (Oy rJ || (decide (rJ=0) && E)))))=m:=⟨_,rfl⟩
  have HM:Hid _:=hm;clear hm;go_upto_region 4 with fail
  go_cut [69] (fun v wc=>v=.bool (!m)∧BW W wc)
  case first =>
   go_wp2_with fail
   refine (Jf _ d HD.o).mono ?_;rintro e w3 ⟨rfl,b3⟩;have B3:=HBC.o.below b3;have HB3:Hid (BW W w3):=b3;clear b3 f0 f1 f2 f3 f4 f5 f6 f7 f8 f10 f11;obtain ⟨f0,f1,f2,f3,f4,f5,f6,f7,f8,f9,f10,f11⟩:=B3
   simp only [Nat.zero_add] at f0 f1 f2 f3 f4 f5 f6 f7 f8 f9 f10 f11
   clear f9 f0 f1 f2 f6 f7 f8 f10 f11
   by_cases h4:d<0
   ·have HE:Hid (m=false):=by
      have:¬ 0≤d:=by omega
      rw [Hid,← HM.o];simp [this]
    go_wp2;go_meet
    exact ⟨by rw [HE.o];rfl,HB3.o⟩
   have H4:Hid (decide (0≤d)=true):=decide_eq_true (by omega)
   have HN:Hid (decide (d<0)=false):=decide_eq_false h4;go_wp2_with fail
   cases h5:Gk am 1 100000000000
   ·have HE:Hid (m=false):=by rw [Hid,← HM.o,E7 h5];simp
    refine (Fa h5 _).mono ?_;rintro e w4 ⟨rfl,hw⟩;rw [hw];clear hw;clear h5;go_wp2;go_meet
    exact ⟨by rw [HE.o];rfl,HB3.o⟩
   have H5:Hid (decide (1≤am∧am≤100000000000)=true):=h5;refine (Fa h5 _).mono ?_;rintro e w4 ⟨rfl,hw⟩;rw [hw];clear hw;clear h5;go_wp2_with fail
   cases h7:Gk st 0 7
   ·have HE:Hid (m=false):=by rw [Hid,← HM.o,E7 h7];simp
    refine (Fa h7 _).mono ?_;rintro e w4 ⟨rfl,hw⟩;rw [hw];clear hw;clear h7;go_wp2;go_meet
    exact ⟨by rw [HE.o];rfl,HB3.o⟩
   have H7:Hid (decide (0≤st∧st≤7)=true):=h7;refine (Fa h7 _).mono ?_;rintro e w4 ⟨rfl,hw⟩;rw [hw];clear hw;clear h7;go_wp2_with fail
   refine (V7 rJ _).mono ?_;rintro e w5 ⟨rfl,b5⟩;have g5:=(b5.cell (p:=⟨w.heap.size,5,none⟩) (World.block_lt_of_cell? _ _ f5)).trans f5;have HB5:Hid (BW W w5):=next HB3.o b5;clear b5 f3 f4 f5
   have HQ:Hid (m=(Oy rJ || (decide (rJ=0) && E))):=by rw [Hid,← HM.o,H4.o,H5.o,H7.o];rfl
   cases h8:Oy rJ
   ·rw [h8,Bool.false_or] at HQ
    clear h8
    by_cases h9:rJ=0
    ·rw [decide_eq_true h9,Bool.true_and] at HQ
     have h9':(rJ == 0)=true:=by simpa using h9
     clear h9
     cases E
     ·go_wp2
      go_meet
      exact ⟨by rw [HQ.o];first | rfl | (rw [HN.o];rfl),HB5.o⟩
     ·go_wp2
      go_meet
      exact ⟨by rw [HQ.o];first | rfl | (rw [HN.o];rfl),HB5.o⟩
    ·rw [decide_eq_false h9,Bool.false_and] at HQ
     have h9':=Ay h9;clear h9;go_wp2;go_meet
     exact ⟨by rw [HQ.o];first | rfl | (rw [HN.o];rfl),HB5.o⟩
   ·rw [h8,Bool.true_or] at HQ
    clear h8;go_wp2;go_meet
    exact ⟨by rw [HQ.o];first | rfl | (rw [HN.o];rfl),HB5.o⟩
  case rest =>
   obtain ⟨rfl,bc⟩:=hcut;have B5:=HBC.o.below bc;have HB5:Hid (BW w wc):=next HBW.o bc;clear bc f0 f1 f2 f3 f4 f5 f6 f7 f8 f10 f11;obtain ⟨f0,f1,f2,f3,f4,f5,f6,f7,f8,f9,f10,f11⟩:=B5
   simp only [Nat.zero_add] at f0 f1 f2 f3 f4 f5 f6 f7 f8 f9 f10 f11
   clear f9 f0 f1 f2 f4 f5
   have hx:∀ r:Bool,(decide (0≤cl∧cl≤am) && (decide (0≤bk∧bk≤am) && (decide (0≤fW∧fW≤500000) && (Dn sS && (Dn dX || decide (dX = -1))))))=r→Ao ⟨iY,aZ,uV,am,st,rJ,cl,bk,fW,cW,sS,dX⟩=(m && r):=by
    intro r hr;subst hr
    simp only [Ao,Cy,H1.o,H2.o,HD.o,H3.o,Bool.true_and,← HM.o,HEE.o,Bool.and_assoc]
   cases m
   ·have HE:Hid (Ao ⟨iY,aZ,uV,am,st,rJ,cl,bk,fW,cW,sS,dX⟩=false):=hx _ rfl
    clear hx;go_wp2;go_ret;exact ⟨Aa HE.o.symm,HB5.o⟩
   simp only [Bool.true_and] at hx
   have HX:Hid (∀ r:Bool,(decide (0≤cl∧cl≤am) && (decide (0≤bk∧bk≤am) && (decide (0≤fW∧fW≤500000) && (Dn sS && (Dn dX || decide (dX = -1))))))=r→Ao ⟨iY,aZ,uV,am,st,rJ,cl,bk,fW,cW,sS,dX⟩=r):=hx
   clear hx;go_wp2_with fail
   cases h9:Gk cl 0 am
   ·have HE:Hid (Ao ⟨iY,aZ,uV,am,st,rJ,cl,bk,fW,cW,sS,dX⟩=false):=HX.o _ (by rw [E7 h9];rfl)
    refine (Fa h9 _).mono ?_;rintro e w4 ⟨rfl,hw⟩;rw [hw];clear hw;clear h9;go_wp2;go_ret;exact ⟨Aa HE.o.symm,HB5.o⟩
   refine (Fa h9 _).mono ?_;rintro e w4 ⟨rfl,hw⟩;rw [hw];clear hw;have H9:Hid (decide (0≤cl∧cl≤am)=true):=h9;clear h9;go_wp2_with fail
   cases h10:Gk bk 0 am
   ·have HE:Hid (Ao ⟨iY,aZ,uV,am,st,rJ,cl,bk,fW,cW,sS,dX⟩=false):=HX.o _ (by rw [E7 h10];simp)
    refine (Fa h10 _).mono ?_;rintro e w4 ⟨rfl,hw⟩;rw [hw];clear hw;clear h10;go_wp2;go_ret;exact ⟨Aa HE.o.symm,HB5.o⟩
   refine (Fa h10 _).mono ?_;rintro e w4 ⟨rfl,hw⟩;rw [hw];clear hw;have H10:Hid (decide (0≤bk∧bk≤am)=true):=h10;clear h10;go_wp2_with fail
   cases h11:Gk fW 0 500000
   ·have HE:Hid (Ao ⟨iY,aZ,uV,am,st,rJ,cl,bk,fW,cW,sS,dX⟩=false):=HX.o _ (by rw [E7 h11];simp)
    refine (Fa h11 _).mono ?_;rintro e w4 ⟨rfl,hw⟩;rw [hw];clear hw;clear h11;go_wp2;go_ret;exact ⟨Aa HE.o.symm,HB5.o⟩
   refine (Fa h11 _).mono ?_;rintro e w4 ⟨rfl,hw⟩;rw [hw];clear hw;have H11:Hid (decide (0≤fW∧fW≤500000)=true):=h11;clear h11
   have HE:Hid (Ao ⟨iY,aZ,uV,am,st,rJ,cl,bk,fW,cW,sS,dX⟩=(Dn sS && (Dn dX || decide (dX = -1)))):=HX.o _ (by rw [H9.o,H10.o,H11.o];rfl)
   clear HX;go_wp2_with fail
   refine (A9 sS _).mono ?_;rintro e w6 ⟨rfl,hw⟩;rw [hw];clear hw
   cases h15:Dn sS
   ·rw [h15,Bool.false_and] at HE
    clear h15;go_wp2;go_ret;exact ⟨Aa HE.o.symm,HB5.o⟩
   rw [h15,Bool.true_and] at HE;clear h15
   by_cases h17:dX = -1
   ·rw [decide_eq_true h17,Bool.or_true] at HE
    have h17':(dX == -1)=true:=by simpa using h17
    clear h17;go_wp2;go_ret;exact ⟨Aa HE.o.symm,HB5.o⟩
   ·rw [decide_eq_false h17,Bool.or_false] at HE
    have h17':=Ay h17;clear h17;go_wp2_with fail
    refine (A9 dX _).mono ?_;rintro e w7 ⟨rfl,hw⟩;rw [hw];clear hw;go_wp2;go_ret;exact ⟨Aa HE.o.symm,HB5.o⟩
end Go.Proofs.YtomiclakhjncbaaGreatDoor
