import Derived.Test.YtomiclakhjncbaaGreatDoorJE1a
namespace Go.Proofs.YtomiclakhjncbaaGreatDoor
open Go.RowKit Go.Proofs.Tryz
set_option maxRecDepth 100000
set_option maxHeartbeats 12800000
def Fc (ls:List Ln) (k:Nat):Option Ln:=if k=0 then none else some (Cg ls (k - 1))
def Ni (p:Option Ln) (x:Ln):Bool:=match p with | none=>true | some y=>E3 y x
theorem Ty (p:Option Ln) (x:Ln) (r:List Ln):Az p (x::r)=((G7 x && Ni p x) && Az (some x) r):=by
 cases p <;> simp [Az,Ni]
theorem Mq (ls:List Ln) (k:Nat) (h:k<ls.length):Az (Fc ls k) (ls.drop k)=((G7 (Cg ls k) && Ni (Fc ls k) (Cg ls k)) && Az (Fc ls (k+1)) (ls.drop (k+1))):=by
 have e:Fc ls (k+1)=some (Cg ls k):=by simp [Fc]
 rw [Tu ls k h,Ty,e]
theorem Pf (p:Option Ln) (ls:List Ln):Az p (ls.drop ls.length)=true:=by
 rw [List.drop_of_length_le nL];cases p <;> rfl
def I2 (j:Nat) (ls:List Ln):Bool:=(Gi.drop j).all fun c=>decide (Ec c ls=0)
theorem Sc (j:Nat) (ls:List Ln) (h:j<8):I2 j ls=(decide (Ec (Gi.getD j 0) ls=0) && I2 (j+1) ls):=by
 have hl:j<Gi.length:=h
 have e:Gi.getD j 0=Gi[j]:=by simp [List.getD_eq_getElem?_getD,hl]
 unfold I2
 rw [List.drop_eq_getElem_cons hl,e];rfl
theorem nY {ls:List Ln} (h:Az none ls=true) (uV:Int) (k:Nat):-1000000000000 * (k:Int)≤Ec uV (ls.take k)∧Ec uV (ls.take k)≤1000000000000 * (k:Int):=by
 have hm:=Dv h
 induction k with
 | zero=>simp [Ec]
 | succ k ih =>
  by_cases hk:k<ls.length
  ·rw [N5 uV ls k hk]
   have:=(Ig (hm _ (Ex hk))).2.2.1
   split <;> omega
  ·rw [List.take_of_length_le (by omega)]
   rw [List.take_of_length_le (by omega)] at ih
   omega
theorem Ik (ao:Option Addr) (cap:Nat) (ls:List Ln) (w:World) (hz:Ai w ao ls) (hn:ls.length≤1099511627776) :
  Calls prog 260 #[.agg #[.slice ao ls.length cap]] w fun e w'=>e=.returned (.bool (At ls))∧BW w w':=by
 obtain ⟨W,hW⟩:∃ W,W=w.alloc (.cells #[.slice ao ls.length cap] 29):=⟨_,rfl⟩
 have bW:BW w W:=by rw [hW];go_grown
 have hWs:w.heap.size<W.heap.size:=by rw [hW];simp
 have HK:Hid (W.cell? ⟨w.heap.size,0,none⟩=some (.slice ao ls.length cap)):=by rw [Hid,hW];simp
 have HZ:Hid (Ai W ao ls):=hz.below bW;clear hz
 go_enter func260,ntmps260
 go_wp2;rw [← hW];clear hW
 go_loopw [3] (fun i wr=>∃ k:Nat,k≤ls.length∧i=.int .i64 k∧Az none ls=Az (Fc ls k) (ls.drop k)∧BW W wr) (fun i _=>ls.length - (intOf i).toNat)
 case atStart=>exact ⟨0,Nat.zero_le _,rfl,rfl,bR⟩
 case round =>
  obtain ⟨k,hk,rfl,hok,hbr⟩:=hrel;have HOK:Hid _:=hok;have k0:=(hbr.cell (p:=⟨w.heap.size,0,none⟩) hWs).trans HK.o;have hbs:=hbr.size;have hws:w.heap.size<wr.heap.size:=Nat.lt_of_lt_of_le hWs hbs;clear hok
  by_cases hlt:k<ls.length
  ·have hki:(k:Int)<(ls.length:Int):=by omega
   obtain ⟨b,off,rfl,hb2,c1,c2,c3⟩:=(HZ.o.below hbr).at hlt;have hst:=Mq ls k hlt;obtain ⟨p,hp⟩:∃ p,Fc ls k=p:=⟨_,rfl⟩;have HP:Hid _:=hp;rw [hp] at hst HOK;obtain ⟨⟨x,y,z⟩,hx⟩:∃ x,Cg ls k=x:=⟨_,rfl⟩;rw [hx] at c1 c2 c3 hst
   simp only at c1 c2 c3
   have HST:Hid _:=HOK.o.trans hst;have bx:Below W.heap.size W (wr.alloc (.cells #[.int .i64 x,.int .i64 y,.int .i64 z] 113)):=hbr.alloc hbs _
   have HBAD:Hid (G7 (x,y,z)=false→At ls=false):=fun h=>by
    unfold At
    rw [HST.o,h];rfl
   clear hst hx hp HOK;have Qb:Hid (Below w.heap.size w (wr.alloc (.cells #[.int .i64 x,.int .i64 y,.int .i64 z] 113))):=next bW bx
   cases h1:Cb x
   ·have HE:Hid (At ls=false):=HBAD.o (by simp [G7,h1])
    have H1:Hid _:=h1;clear h1 HST HBAD;go_wp2_with fail
    refine (Do H1.o _).mono ?_;rintro e w1 ⟨rfl,hw⟩;rw [hw];clear hw;go_wp2;go_ret;exact ⟨Aa HE.o.symm,Qb.o⟩
   have H1:Hid _:=h1;obtain ⟨d,hd⟩:∃ d,Dc y=d:=⟨_,rfl⟩;have HD:Hid _:=hd
   by_cases h2:d<0
   ·have HE:Hid (At ls=false):=HBAD.o (by simp [G7,hd];intro _ h;omega)
    clear h1 hd HST HBAD;go_wp2_with fail
    refine (Do H1.o _).mono ?_;rintro e w1 ⟨rfl,hw⟩;rw [hw];clear hw;go_wp2_with fail
    refine (Jf _ d HD.o).mono ?_;rintro e w3 ⟨rfl,b3⟩;have q3:=next Qb.o b3;clear b3;go_wp2;go_ret;exact ⟨Aa HE.o.symm,q3⟩
   have hx3:∀ u,Below (wr.alloc (.cells #[.int .i64 x,.int .i64 y,.int .i64 z] 113)).heap.size (wr.alloc (.cells #[.int .i64 x,.int .i64 y,.int .i64 z] 113)) u→u.cell? ⟨wr.heap.size,0,none⟩=some (.int .i64 x)∧u.cell? ⟨wr.heap.size,1,none⟩=some (.int .i64 y)∧u.cell? ⟨wr.heap.size,2,none⟩=some (.int .i64 z):=fun u hu =>
    ⟨(hu.cell (p:=⟨wr.heap.size,0,none⟩) (by simp)).trans (by simp),(hu.cell (p:=⟨wr.heap.size,1,none⟩) (by simp)).trans (by simp),(hu.cell (p:=⟨wr.heap.size,2,none⟩) (by simp)).trans (by simp)⟩
   have HX3:Hid _:=hx3;clear hx3
   cases h3:fL z
   ·have HE:Hid (At ls=false):=HBAD.o (by simp [G7,h3])
    have H3:Hid _:=h3;clear h1 hd h3 HST HBAD;go_wp2_with fail
    refine (Do H1.o _).mono ?_;rintro e w1 ⟨rfl,hw⟩;rw [hw];clear hw;go_wp2_with fail
    refine (Jf _ d HD.o).mono ?_;rintro e w3 ⟨rfl,b3⟩;have q3:=next Qb.o b3;obtain ⟨y0,y1,y2⟩:=HX3.o w3 b3;clear b3;go_wp2_with fail
    refine (I6 _ _).mono ?_;rintro e w4 ⟨rfl,hw⟩;rw [hw,H3.o];clear hw;go_wp2;go_ret;exact ⟨Aa HE.o.symm,q3⟩
   have H3:Hid _:=h3
   by_cases h4:z=0
   ·have HE:Hid (At ls=false):=HBAD.o (by simp [G7,h4])
    have h4':(z == 0)=true:=by simpa using h4
    clear h1 hd h3 HST HBAD h4;go_wp2_with fail
    refine (Do H1.o _).mono ?_;rintro e w1 ⟨rfl,hw⟩;rw [hw];clear hw;go_wp2_with fail
    refine (Jf _ d HD.o).mono ?_;rintro e w3 ⟨rfl,b3⟩;have q3:=next Qb.o b3;obtain ⟨y0,y1,y2⟩:=HX3.o w3 b3;clear b3;go_wp2_with fail
    refine (I6 _ _).mono ?_;rintro e w4 ⟨rfl,hw⟩;rw [hw,H3.o];clear hw;go_wp2;go_ret;exact ⟨Aa HE.o.symm,q3⟩
   have h4':(z == 0)=false:=by simpa using h4
   have hok1:G7 (x,y,z)=true:=by simp [G7,h1,hd,h3,h4];omega
   have HST2:Hid (Az none ls=(Ni p (x,y,z) && Az (Fc ls (k+1)) (ls.drop (k+1)))):=by rw [Hid,HST.o,hok1];rfl
   clear h1 hd h3 HST HBAD h4 hok1;go_wp2_with fail
   refine (Do H1.o _).mono ?_;rintro e w1 ⟨rfl,hw⟩;rw [hw];clear hw;go_wp2_with fail
   refine (Jf _ d HD.o).mono ?_;rintro e w3 ⟨rfl,b3⟩;have q3:=next Qb.o b3;have hb3:BW W w3:=bx.trans (b3.mono bx.size);obtain ⟨y0,y1,y2⟩:=HX3.o w3 b3;have hs3:wr.heap.size<w3.heap.size:=World.block_lt_of_cell? w3 _ y0;have HLS:Hid (Ai w3 (some ⟨b,off,none⟩) ls):=HZ.o.below hb3;have j0:=(hb3.cell (p:=⟨w.heap.size,0,none⟩) hWs).trans HK.o;clear b3 bx c1 c2 c3 k0;go_wp2_with fail
   refine (I6 _ _).mono ?_;rintro e w4 ⟨rfl,hw⟩;rw [hw,H3.o];clear hw
   cases k with
   | zero =>
    have HN:Hid (Az none ls=Az (Fc ls (0+1)) (ls.drop (0+1))):=by
     have hp0:p=none:=by rw [← HP.o];rfl
     rw [Hid,HST2.o,hp0];rfl
    clear HST2 HP;go_wp2
    go_roundw
    case rel=>exact ⟨1,by omega,by go_num,HN.o,hb3⟩
    case measure=>simp [intOf];omega
   | succ k =>
    have hpe:p=some (Cg ls k):=by rw [← HP.o];simp [Fc]
    obtain ⟨b',off',hao,hb',e1,e2,e3⟩:=HLS.o.at (k:=k) (by omega)
    obtain ⟨rfl,rfl⟩:b=b'∧off=off':=by simpa using hao
    obtain ⟨⟨x',y',z'⟩,hx'⟩:∃ x,Cg ls k=x:=⟨_,rfl⟩;rw [hx'] at e1 e2 e3 hpe
    simp only at e1 e2 e3
    subst hpe;have HLT:Hid (Az none ls=(E3 (x',y',z') (x,y,z) && Az (Fc ls (k+1+1)) (ls.drop (k+1+1)))):=HST2.o;have bx2:Below W.heap.size W (w3.alloc (.cells #[.int .i64 x',.int .i64 y',.int .i64 z'] 113)):=hb3.alloc hb3.size _
    have g0:∀ o,(w3.alloc o).cell? ⟨wr.heap.size,0,none⟩=some (.int .i64 x):=fun o=>(World.cell?_alloc_lt _ _ ⟨wr.heap.size,0,none⟩ hs3).trans y0
    have g1:∀ o,(w3.alloc o).cell? ⟨wr.heap.size,1,none⟩=some (.int .i64 y):=fun o=>(World.cell?_alloc_lt _ _ ⟨wr.heap.size,1,none⟩ hs3).trans y1
    have hk1:((k+1:Nat):Int) - 1=(k:Int):=by omega
    have hk2:(0:Int)<((k+1:Nat):Int):=by omega
    have hkl:(k:Int)<(ls.length:Int):=by omega
    have QB:Hid (Below w.heap.size w (w3.alloc (.cells #[.int .i64 x',.int .i64 y',.int .i64 z'] 113))):=next bW bx2
    have HBAD:Hid (E3 (x',y',z') (x,y,z)=false→At ls=false):=fun h=>by
     unfold At
     rw [HLT.o,h];rfl
    clear HST2 HP hx' hao HLS
    by_cases v1:x<x'
    ·have HE:Hid (At ls=false):=HBAD.o (by simp [E3];omega)
     clear HBAD HLT;go_wp2;go_ret;exact ⟨Aa HE.o.symm,QB.o⟩
    by_cases v2:x'=x
    ·have v2':(x' == x)=true:=by simpa using v2
     by_cases v3:y≤y'
     ·have HE:Hid (At ls=false):=HBAD.o (by simp [E3];omega)
      clear HBAD HLT v2;go_wp2;go_ret;exact ⟨Aa HE.o.symm,QB.o⟩
     ·have HN:Hid (Az none ls=Az (Fc ls (k+1+1)) (ls.drop (k+1+1))):=by
        have:E3 (x',y',z') (x,y,z)=true:=by simp [E3];omega
        rw [Hid,HLT.o,this];rfl
      clear HBAD HLT v2;go_wp2
      go_roundw
      case rel=>exact ⟨k+1+1,by omega,by go_num,HN.o,bx2⟩
      case measure=>simp [intOf];omega
    ·have v2':(x' == x)=false:=by simpa using v2
     have HN:Hid (Az none ls=Az (Fc ls (k+1+1)) (ls.drop (k+1+1))):=by
      have:E3 (x',y',z') (x,y,z)=true:=by simp [E3];omega
      rw [Hid,HLT.o,this];rfl
     clear HBAD HLT v2;go_wp2
     go_roundw
     case rel=>exact ⟨k+1+1,by omega,by go_num,HN.o,bx2⟩
     case measure=>simp [intOf];omega
  ·have hke:k=ls.length:=by omega
   subst hke
   have hki:¬ (ls.length:Int)<(ls.length:Int):=by omega
   have hall:Az none ls=true:=HOK.o.trans (Pf _ ls);have Q0:=next bW hbr
   by_cases h400:(400:Int)<(ls.length:Int)
   ·have HE:Hid (At ls=false):=by
      have:¬ ls.length≤400:=by omega
      simp [Hid,At,this]
    clear hall HOK;go_wp2;go_ret;exact ⟨Aa HE.o.symm,Q0⟩
   have HEV:Hid (At ls=I2 0 ls):=by
    have h4:ls.length≤400:=by omega
    rw [Hid,At,hall,decide_eq_true h4];rfl
   have HSB:Hid (∀ (c:Int) (k:Nat),-1000000000000 * (k:Int)≤Ec c (ls.take k)∧Ec c (ls.take k)≤1000000000000 * (k:Int)):=fun c k=>nY hall c k
   have HAM:Hid (∀ k,k<ls.length→-1000000000000≤(Cg ls k).2.2∧(Cg ls k).2.2≤1000000000000):=fun k hk=>(Ig (Dv hall _ (Ex hk))).2.2.1
   have hl4:ls.length≤400:=by omega
   obtain ⟨R,hR⟩:∃ R,R=wr:=⟨_,rfl⟩;subst hR;clear hall HOK h400
   go_wp2_with (go_at_call 258;refine (Jn _).mono ?_;rintro e w5 ⟨rfl,hw5⟩;have HW5:Hid _:=hw5;clear hw5)
   have hw5:=HW5.o
   have b5:BW R w5:=by rw [hw5];go_grown
   have hcu:∀ j,j<8→w5.cell? ⟨R.heap.size,j,none⟩=some (.int .i64 (Gi.getD j 0)):=by
    intro j hj;rw [hw5]
    rcases U0 hj with rfl | rfl | rfl | rfl | rfl | rfl | rfl | rfl <;> simp [Gi]
   have HCU:Hid (∀ j,j<8→w5.cell? ⟨R.heap.size,j,none⟩=some (.int .i64 (Gi.getD j 0))):=hcu;have j0:=(b5.cell (p:=⟨w.heap.size,0,none⟩) hws).trans k0;have hbW5:BW W w5:=next hbr b5;have HL5:Hid (Ai w5 ao ls):=HZ.o.below hbW5;have Q5:=next Q0 b5;clear hcu hw5 HW5 b5 k0;go_wp2
   go_loopw [7] (fun i wr=>∃ j:Nat,j≤8∧i=.int .i64 j∧At ls=I2 j ls∧BW w5 wr) (fun i _=>8 - (intOf i).toNat)
   case atStart=>exact ⟨0,by omega,rfl,HEV.o,bR⟩
   case round =>
    obtain ⟨j,hj,rfl,hev,hb6⟩:=hrel;have HEJ:Hid _:=hev;clear hev HEV;obtain ⟨V,hV⟩:∃ V,V=wr:=⟨_,rfl⟩;subst hV
    by_cases hj8:j<8
    ·have hji:(j:Int)<8:=by omega
     have HES:Hid _:=HEJ.o.trans (Sc j ls hj8);obtain ⟨cu,hcue⟩:∃ c,Gi.getD j 0=c:=⟨_,rfl⟩;rw [hcue] at HES
     have HCJ:Hid (w5.cell? ⟨R.heap.size,j,none⟩=some (.int .i64 cu)):=by have:=HCU.o j hj8;rw [hcue] at this;exact this
     have hR5:R.heap.size<w5.heap.size:=World.block_lt_of_cell? w5 _ HCJ.o;have hw5s:w.heap.size<w5.heap.size:=World.block_lt_of_cell? w5 _ j0;clear hcue HEJ;go_wp2
     go_loopw [8,9] (fun s i wr=>∃ k:Nat,k≤ls.length∧i=.int .i64 k∧s=.int .i64 (Ec cu (ls.take k))∧BW w5 wr) (fun _ i _=>ls.length - (intOf i).toNat)
     case atStart=>exact ⟨0,Nat.zero_le _,rfl,rfl,hb6⟩
     case round =>
      obtain ⟨k,hk,rfl,rfl,hb7⟩:=hrel;have k0:=(hb7.cell (p:=⟨w.heap.size,0,none⟩) hw5s).trans j0;have kc:=(hb7.cell (p:=⟨R.heap.size,j,none⟩) hR5).trans HCJ.o;have hsb:=HSB.o cu k
      by_cases hlt:k<ls.length
      ·have hki:(k:Int)<(ls.length:Int):=by omega
       obtain ⟨b,off,rfl,hb2,c1,c2,c3⟩:=(HL5.o.below hb7).at hlt;have ham:=HAM.o k hlt;have hst:=N5 cu ls k hlt;obtain ⟨⟨x,y,z⟩,hx⟩:∃ x,Cg ls k=x:=⟨_,rfl⟩;rw [hx] at c1 c2 c3 hst ham
       simp only at c1 c2 c3 hst ham
       obtain ⟨S,hS⟩:∃ S,Ec cu (ls.take k)=S:=⟨_,rfl⟩;rw [hS] at hst hsb ⊢;have HST:Hid _:=hst;clear hst hx hS
       by_cases h1:y=cu
       ·have h1':(y == cu)=true:=by simpa using h1
        have HV:Hid (Ec cu (ls.take (k+1))=S+z):=by rw [Hid,HST.o,if_pos h1]
        clear HST h1;go_wp2
        go_region
        all_goals
         go_wp2
         go_roundw
         case rel=>exact ⟨k+1,by omega,by go_num,by rw [HV.o],hb7.drew⟩
         case measure=>simp [intOf];omega
       ·have h1':(y == cu)=false:=by simpa using h1
        have HV:Hid (Ec cu (ls.take (k+1))=S):=by rw [Hid,HST.o,if_neg h1];simp
        clear HST h1;go_wp2
        go_region
        all_goals
         go_wp2
         go_roundw
         case rel=>exact ⟨k+1,by omega,by go_num,by rw [HV.o],hb7.drew⟩
         case measure=>simp [intOf];omega
      ·have hke:k=ls.length:=by omega
       subst hke
       have hki:¬ (ls.length:Int)<(ls.length:Int):=by omega
       rw [List.take_length] at hsb ⊢;obtain ⟨S,hS⟩:∃ S,Ec cu ls=S:=⟨_,rfl⟩;rw [hS] at hsb HES ⊢;clear hS
       by_cases h0:S=0
       ·have HN:Hid (At ls=I2 (j+1) ls):=by rw [Hid,HES.o,decide_eq_true h0];rfl
        have h0':(S != 0)=false:=by simpa using h0
        clear HES h0;go_wp2
        go_roundw
        case rel=>exact ⟨j+1,by omega,by go_num,HN.o,hb7⟩
        case measure=>simp [intOf];omega
       ·have HE:Hid (At ls=false):=by rw [Hid,HES.o,decide_eq_false h0];rfl
        have h0':(S != 0)=true:=by simpa using h0
        have Q7:=next Q5 hb7;clear HES h0;go_wp2;go_ret;exact ⟨Aa HE.o.symm,Q7⟩
    ·have hje:j=8:=by omega
     subst hje;have HE:Hid (At ls=true):=HEJ.o;have Q6:=next Q5 hb6;clear HEJ;go_wp2;go_ret;exact ⟨Aa HE.o.symm,Q6⟩
end Go.Proofs.YtomiclakhjncbaaGreatDoor
