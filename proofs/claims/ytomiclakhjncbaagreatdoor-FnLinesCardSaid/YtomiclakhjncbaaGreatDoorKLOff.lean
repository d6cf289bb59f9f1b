import Derived.Test.YtomiclakhjncbaaGreatDoorJL0a
import Derived.Test.YtomiclakhjncbaaGreatDoorJL1a
namespace Go.Proofs.YtomiclakhjncbaaGreatDoor
open Go.RowKit Go.Proofs.Tryz
set_option maxRecDepth 100000
set_option maxHeartbeats 12800000
theorem Pp (ao:Option Addr) (c:Nat) (zs:List Int) (w:World) (hx:Aw w ao zs) (h1:zs.length≤1099511627776) :
  Calls prog 100 #[.slice ao zs.length c] w fun e w'=>e=.returned (.bool (Ct zs))∧w'=w:=by
 by_cases hbig:400<zs.length
 ·have HN:Hid _:=cP hbig
  have hbi:(400:Int)<(zs.length:Int):=by omega
  clear hbig
  go_enter func100,ntmps100
  go_wp2;go_ret;exact ⟨Aa HN.o.symm,rfl⟩
 ·have hbi:¬ (400:Int)<(zs.length:Int):=by omega
  have hb4:zs.length≤400:=by omega
  clear hbig
  rcases hx with rfl | ⟨b,off,rfl,hb,hcx⟩
  ·go_enter func100,ntmps100
   go_wp2;refine wp_loop_rounds 1 ?_;rw [rounds_succ];go_wp2;go_ret;exact ⟨rfl,rfl⟩
  ·go_enter func100,ntmps100
   go_wp2
   go_loop [3,5,11] (fun l _ i=>∃ (k:Nat) (p:Int),k≤zs.length∧i=.int .i64 k∧l=.int .i64 p∧Er (-1) zs=Er p (zs.drop k)) (fun _ _ i=>zs.length - (intOf i).toNat)
   case atStart=>exact ⟨0,-1,Nat.zero_le _,rfl,rfl,rfl⟩
   case round =>
    obtain ⟨k,p,hk,rfl,rfl,ht⟩:=hrel
    by_cases hlt:k<zs.length
    ·have e1:=hcx k hlt
     have hs:=Wj zs k p hlt;obtain ⟨x,hxk⟩:∃ x,zs.getD k 0=x:=⟨_,rfl⟩;rw [hxk] at e1 hs;have HK:Hid (Er (-1) zs=(decide (p<x∧0≤x∧x≤80000) && Er x (zs.drop (k+1)))):=ht.trans hs
     have hki:(k:Int)<(zs.length:Int):=by omega
     clear hcx hxk ht hs
     by_cases hp:p<x
     ·cases hd:Dn x
      ·have HN:Hid (Ct zs=false):=Mg (by rw [HK.o,decide_eq_false (fun hh=>by rw [Nq hh.2.1 hh.2.2] at hd;cases hd)];rfl)
       go_wp2_with (go_at_call 99;refine (Bm _ _).mono ?_;rintro e w' ⟨rfl,rfl⟩)
       go_ret;exact ⟨Aa HN.o.symm,rfl⟩
      ·have hb2:=Ei hd
       have HY:Hid (Er (-1) zs=Er x (zs.drop (k+1))):=by rw [Hid,HK.o,decide_eq_true ⟨hp,hb2.1,hb2.2⟩];rfl
       go_wp2_with (go_at_call 99;refine (Bm _ _).mono ?_;rintro e w' ⟨rfl,rfl⟩)
       go_round
       case rel=>exact ⟨k+1,x,by omega,by go_num,rfl,HY.o⟩
       case measure=>simp [intOf];omega
     ·have hp':x≤p:=by omega
      have HN:Hid (Ct zs=false):=Mg (by rw [HK.o,decide_eq_false (fun hh=>hp hh.1)];rfl)
      go_wp2_with fail
      go_ret;exact ⟨Aa HN.o.symm,rfl⟩
    ·have HE:Hid (Ct zs=true):=cG hb4 (by rw [ht,List.drop_of_length_le (by omega)];rfl)
     have hki:¬ (k:Int)<(zs.length:Int):=by omega
     clear hcx ht;go_wp2;go_ret;exact ⟨Aa HE.o.symm,rfl⟩
def Ng (zs:List Int) (k:Nat):Int:=if k=0 then -1 else zs.getD (k - 1) 0
theorem Rk (ao:Option Addr) (c:Nat) (zs:List Int) (w:World) (hx:Aw w ao zs) (h1:zs.length≤1099511627776) :
  Calls prog 103 #[.slice ao zs.length c] w fun e w'=>e=.returned (.bool (Ct zs))∧BW w w':=by
 rcases hx with rfl | ⟨b,off,rfl,hb,hcx⟩
 ·go_enter func103,ntmps103
  go_wp2;refine wp_loop_rounds 1 ?_;rw [rounds_succ];go_wp2;go_ret;exact ⟨rfl,bR⟩
 ·go_enter func103,ntmps103
  go_wp2
  go_loopw [3] (fun i wr=>∃ (k:Nat),k≤zs.length∧i=.int .i64 k∧Er (-1) zs=Er (Ng zs k) (zs.drop k)∧BW w wr) (fun i _=>zs.length - (intOf i).toNat)
  case atStart=>exact ⟨0,Nat.zero_le _,rfl,rfl,bR⟩
  case round =>
   obtain ⟨k,hk,rfl,ht,hbr⟩:=hrel
   by_cases hlt:k<zs.length
   ·have e1:wr.cell? ⟨b,off+k,none⟩=some (.int .i64 (zs.getD k 0)):=(hbr.cell (p:=⟨b,off+k,none⟩) hb).trans (hcx k hlt)
    have hs:=Wj zs k (Ng zs k) hlt
    have hnext:Ng zs (k+1)=zs.getD k 0:=by simp [Ng]
    have hki:(k:Int)<(zs.length:Int):=by omega
    by_cases hk0:k=0
    ·subst hk0
     obtain ⟨x,hxk⟩:∃ x,zs.getD 0 0=x:=⟨_,rfl⟩;rw [hxk] at e1 hs hnext;rw [Nat.add_zero] at e1;have HK:Hid (Er (-1) zs=(decide ((-1:Int)<x∧0≤x∧x≤80000) && Er x (zs.drop (0+1)))):=ht.trans hs;have HX:Hid _:=hnext;clear hcx hxk ht hs hnext
     cases hd:Dn x
     ·have HN:Hid (Ct zs=false):=Mg (by rw [HK.o,decide_eq_false (fun hh=>by rw [Nq hh.2.1 hh.2.2] at hd;cases hd)];rfl)
      go_wp2
      go_quiet (exact Calls.quiet_of_same (A9 _ _))
      go_wp2;go_ret;exact ⟨Aa HN.o.symm,below_drewN hbr _⟩
     ·have hb2:=Ei hd
      have HY:Hid (Er (-1) zs=Er x (zs.drop (0+1))):=by rw [Hid,HK.o,decide_eq_true ⟨by omega,hb2.1,hb2.2⟩];rfl
      go_wp2
      go_quiet (exact Calls.quiet_of_same (A9 _ _))
      go_wp2
      go_roundw
      case rel=>exact ⟨1,by omega,by go_num,by rw [HX.o];exact HY.o,below_drewN hbr _⟩
      case measure=>simp [intOf];omega
    ·obtain ⟨j,rfl⟩:∃ j,k=j+1:=⟨k - 1,by omega⟩
     have e2:wr.cell? ⟨b,off+j,none⟩=some (.int .i64 (zs.getD j 0)):=(hbr.cell (p:=⟨b,off+j,none⟩) hb).trans (hcx j (by omega))
     have hpv:Ng zs (j+1)=zs.getD j 0:=by simp [Ng]
     rw [hpv] at ht hs;obtain ⟨x,hxk⟩:∃ x,zs.getD (j+1) 0=x:=⟨_,rfl⟩;obtain ⟨y,hyk⟩:∃ y,zs.getD j 0=y:=⟨_,rfl⟩;rw [hxk] at e1 hs hnext;rw [hyk] at e2 ht hs;have HK:Hid (Er (-1) zs=(decide (y<x∧0≤x∧x≤80000) && Er x (zs.drop (j+1+1)))):=ht.trans hs;have HX:Hid _:=hnext;clear hcx hxk hyk ht hs hnext hpv
     cases hd:Dn x
     ·have HN:Hid (Ct zs=false):=Mg (by rw [HK.o,decide_eq_false (fun hh=>by rw [Nq hh.2.1 hh.2.2] at hd;cases hd)];rfl)
      go_wp2
      go_quiet (exact Calls.quiet_of_same (A9 _ _))
      go_wp2;go_ret;exact ⟨Aa HN.o.symm,below_drewN hbr _⟩
     ·have hb2:=Ei hd
      by_cases hp:y<x
      ·have HY:Hid (Er (-1) zs=Er x (zs.drop (j+1+1))):=by rw [Hid,HK.o,decide_eq_true ⟨hp,hb2.1,hb2.2⟩];rfl
       go_wp2
       go_quiet (exact Calls.quiet_of_same (A9 _ _))
       go_wp2
       go_roundw
       case rel=>exact ⟨j+1+1,by omega,by go_num,by rw [HX.o];exact HY.o,below_drewN hbr _⟩
       case measure=>simp [intOf];omega
      ·have hp':x≤y:=by omega
       have HN:Hid (Ct zs=false):=Mg (by rw [HK.o,decide_eq_false (fun hh=>hp hh.1)];rfl)
       go_wp2
       go_quiet (exact Calls.quiet_of_same (A9 _ _))
       go_wp2;go_ret;exact ⟨Aa HN.o.symm,below_drewN hbr _⟩
   ·have hasc:Er (-1) zs=true:=by rw [ht,List.drop_of_length_le (by omega)];rfl
    have HE:Hid (Ct zs=decide ((zs.length:Int)≤400)):=by
     by_cases h4:zs.length≤400
     ·rw [Hid,cG h4 hasc,decide_eq_true (by omega)]
     ·rw [Hid,cP (by omega),decide_eq_false (by omega)]
    have hki:¬ (k:Int)<(zs.length:Int):=by omega
    clear hcx ht hasc;go_wp2;go_ret;exact ⟨Aa HE.o.symm,hbr⟩
theorem sZ {zs:List Int} {d:Int} (h:d ∈ zs):wk zs d=false:=by simp [wk,h]
theorem jT {zs:List Int} {d:Int} (h:d ∉ zs):wk zs d=decide ((d+5) % 7<5):=by simp [wk,h]
theorem qF {zs:List Int} {d:Int} (h:∀ j,j<zs.length→zs.getD j 0≠d):d ∉ zs:=fun hm=>by
 obtain ⟨k,hk,e⟩:=List.mem_iff_getElem.1 hm
 exact h k hk (by simp [List.getD_eq_getElem?_getD,hk,e])
theorem Oh (d:Int) (ao:Option Addr) (c:Nat) (zs:List Int) (w:World) (hx:Aw w ao zs) (h1:zs.length≤1099511627776) (hd:Dn d=true) :
  Calls prog 303 #[.int .i64 d,.slice ao zs.length c] w fun e w'=>e=.returned (.bool (wk zs d))∧w'=w:=by
 have hwd:=Pt hd;have hdb:=Ei hd
 rcases hx with rfl | ⟨b,off,rfl,hb,hcx⟩
 ·have HV:Hid (wk [] d=decide ((d+5) % 7<5)):=jT (by simp)
  go_enter func303,ntmps303
  go_wp2;refine wp_loop_rounds 1 ?_;rw [rounds_succ]
  go_wp2_with (go_at_call 326;refine (M6 _ _).mono ?_;rintro e w' ⟨rfl,rfl⟩;rw [hwd])
  go_ret;exact ⟨Aa HV.o.symm,rfl⟩
 ·go_enter func303,ntmps303
  go_wp2
  go_loop [5] (fun i=>∃ k:Nat,k≤zs.length∧i=.int .i64 k∧∀ j,j<k→zs.getD j 0≠d) (fun i=>zs.length - (intOf i).toNat)
  case atStart=>exact ⟨0,Nat.zero_le _,rfl,fun j hj=>by omega⟩
  case round =>
   obtain ⟨k,hk,rfl,hno⟩:=hrel;have HN:Hid _:=hno;clear hno
   by_cases hlt:k<zs.length
   ·have e1:=hcx k hlt
    have hmem:zs.getD k 0 ∈ zs:=by simp [List.getD_eq_getElem?_getD,hlt]
    obtain ⟨x,hxk⟩:∃ x,zs.getD k 0=x:=⟨_,rfl⟩;rw [hxk] at e1 hmem;have HX:Hid _:=hxk
    have hki:(k:Int)<(zs.length:Int):=by omega
    clear hcx hxk
    cases he:(x == d)
    ·have hne:x≠d:=by simpa using he
     have HR:Hid (∀ j,j<k+1→zs.getD j 0≠d):=fun j hj=>by
      rcases (show j<k∨j=k from by omega) with h | rfl
      ·exact HN.o j h
      ·rw [HX.o];exact hne
     clear hmem hne;go_wp2
     go_round
     case rel=>exact ⟨k+1,by omega,by go_num,HR.o⟩
     case measure=>simp [intOf];omega
    ·have hxd:x=d:=by simpa using he
     have HV:Hid (wk zs d=false):=sZ (hxd ▸ hmem);clear hmem hxd;go_wp2;go_ret;exact ⟨Aa HV.o.symm,rfl⟩
   ·have HV:Hid (wk zs d=decide ((d+5) % 7<5)):=jT (qF (fun j hj=>HN.o j (by omega)))
    have hki:¬ (k:Int)<(zs.length:Int):=by omega
    clear hcx
    go_wp2_with (go_at_call 326;refine (M6 _ _).mono ?_;rintro e w' ⟨rfl,rfl⟩;rw [hwd])
    go_ret;exact ⟨Aa HV.o.symm,rfl⟩
end Go.Proofs.YtomiclakhjncbaaGreatDoor
