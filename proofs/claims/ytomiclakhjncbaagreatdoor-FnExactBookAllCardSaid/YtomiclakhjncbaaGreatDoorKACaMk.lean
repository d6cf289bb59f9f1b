import Derived.Test.YtomiclakhjncbaaGreatDoorJA3a
import Derived.Test.YtomiclakhjncbaaGreatDoorJA4a
namespace Go.Proofs.YtomiclakhjncbaaGreatDoor
open Go.RowKit
set_option maxRecDepth 100000
set_option maxHeartbeats 12800000
def mkC1 (m:Nat):Cs:=⟨((m:Int)),((m:Int)+1),((m:Int)+1+1),((m:Int)+1+1+1),((m:Int)+1+1+1+1),((m:Int)+1+1+1+1+1),((m:Int)+1+1+1+1+1+1),((m:Int)+1+1+1+1+1+1+1),((m:Int)+1+1+1+1+1+1+1+1),((((m:Int)+1+1+1+1+1+1+1+1+1) % 3 == 0)),((m:Int)+1+1+1+1+1+1+1+1+1+1),((m:Int)+1+1+1+1+1+1+1+1+1+1+1)⟩
def mkC (k n:Nat):List Cs:=(List.range n).map fun i=>mkC1 (k+12*i)
theorem mkC_len (k n:Nat):(mkC k n).length=n:=by simp [mkC]
theorem mkC_at (k n i:Nat) (h:i<n):csAt (mkC k n) i=mkC1 (k+12*i):=by simp [csAt,mkC,List.getD_eq_getElem?_getD,h]
def fillC (az:List Cs) (k j:Nat):List Cs:=mkC k j++az.drop j
theorem fillC_len (az:List Cs) (k j:Nat) (h:j≤az.length):(fillC az k j).length=az.length:=by simp [fillC,mkC_len];omega
theorem fillC_zero (az:List Cs) (k:Nat):fillC az k 0=az:=by simp [fillC,mkC]
theorem fillC_all (az:List Cs) (k:Nat):fillC az k az.length=mkC k az.length:=by simp [fillC]
theorem fillC_succ (az:List Cs) (k j:Nat) (h:j<az.length):(fillC az k j).set j (mkC1 (k+12*j))=fillC az k (j+1):=by
 unfold fillC
 rw [List.set_append,if_neg (by rw [mkC_len];omega),mkC_len,Nat.sub_self,List.drop_eq_getElem_cons h,List.set_cons_zero]
 simp [mkC,List.range_succ]
theorem putAt_gr (u:World) (g k:Nat) (D:Cs):u.grownBy (putAt u g k D) (some g):=by
 unfold putAt
 exact ((((((((((((set_grown _ g (k*12) _).trans (set_grown _ g (k*12+1) _)).trans (set_grown _ g (k*12+2) _)).trans (set_grown _ g (k*12+3) _)).trans (set_grown _ g (k*12+4) _)).trans (set_grown _ g (k*12+5) _)).trans (set_grown _ g (k*12+6) _)).trans (set_grown _ g (k*12+7) _)).trans (set_grown _ g (k*12+8) _)).trans (set_grown _ g (k*12+9) _)).trans (set_grown _ g (k*12+10) _)).trans (set_grown _ g (k*12+11) _))
theorem markCaseS_ex (ao:Option Addr) (cap base k:Nat) (cs:List Cs) (w:World) (ho:w.ownsRow base 61 12 (.slice ao cs.length cap) cs.length (cscells cs)) (hn:cs.length≤1048576) (k2:k≤1099511627) :
  Calls Tryz.prog 58 #[.slice ao cs.length cap,.int .i64 k] w fun e w'=>e=.returned (.int .i64 ((k+12*cs.length:Nat):Int))∧w'.ownsRow base 61 12 (.slice ao cs.length cap) cs.length (cscells (mkC k cs.length))∧w.grownBy w' (Value.slice ao cs.length cap).ownBlock:=by
 rcases ho.2 with ⟨hv,h0⟩ | ⟨g,cap',cur,hv,hrest⟩
 ·obtain rfl:cs=[]:=List.eq_nil_of_length_eq_zero h0
  obtain ⟨rfl,rfl⟩:ao=none∧cap=0:=by simpa using hv
  clear hv h0
  go_enter Tryz.func58,Tryz.ntmps58
  go_wp2
  refine wp_loop_rounds 1 ?_
  rw [rounds_succ]
  go_wp2
  go_ret
  exact ⟨rfl,ho,World.grownBy.refl _ _⟩
 ·obtain ⟨rfl,rfl⟩:ao=some ⟨g,0,none⟩∧cap=cap':=by simpa using hv
  clear hv hrest
  have HO0:Hid (w.ownsRow base 61 12 (.slice (some ⟨g,0,none⟩) cs.length cap) cs.length (cscells (fillC cs k 0))):=by rw [Hid,fillC_zero];exact ho
  clear ho
  go_enter Tryz.func58,Tryz.ntmps58
  go_wp2
  go_loopw [1,5] (fun c i wr=>∃ (j:Nat),j≤cs.length∧i=.int .i64 j∧c=.int .i64 ((k+12*j:Nat):Int)∧wr.ownsRow base 61 12 (.slice (some ⟨g,0,none⟩) cs.length cap) cs.length (cscells (fillC cs k j))∧w.grownBy wr (some g)) (fun _ i _=>cs.length - (intOf i).toNat)
  case atStart=>exact ⟨0,Nat.zero_le _,rfl,by simp,HO0.out,World.grownBy.refl _ _⟩
  case round =>
   obtain ⟨j,hj,rfl,rfl,ho,hg⟩:=hrel
   clear HO0
   have HG:Hid (w.grownBy wr (some g)):=hg
   clear hg
   by_cases hlt:j<cs.length
   ·have hji:(j:Int)<(cs.length:Int):=by omega
    have hfl:=fillC_len cs k j hj
    have HPR:Hid ((putAt wr g j (mkC1 (k+12*j))).ownsRow base 61 12 (.slice (some ⟨g,0,none⟩) cs.length cap) cs.length (cscells (fillC cs k (j+1)))):=by
     have h:=ho
     rw [← hfl] at h
     have r:=putAt_row (mkC1 (k+12*j)) (k:=j) (by omega) h
     rw [fillC_succ cs k j hlt,hfl] at r
     exact r
    have HPG:Hid (wr.grownBy (putAt wr g j (mkC1 (k+12*j))) (some g)):=putAt_gr wr g j _
    obtain ⟨m,hm⟩:∃ m:Nat,m=k+12*j:=⟨_,rfl⟩
    have hmb:m≤7696581390:=by omega
    have HM:Hid (m=k+12*j):=hm
    rw [← hm] at HPR HPG ⊢
    unfold putAt mkC1 at HPR HPG
    clear hm
    obtain ⟨ys,hys⟩:∃ ys,cscells (fillC cs k j)=ys:=⟨_,rfl⟩
    rw [hys] at ho
    have hyl:ys.length=cs.length*12:=by simpa using ho.1
    have hex:∀ p,p<cs.length*12→∃ v,wr.cell? ⟨g,p,none⟩=some v:=fun p hp=>by
     rw [ho.cellAt p (by omega)]
     exact ⟨_,List.getElem?_eq_getElem (by omega)⟩
    obtain ⟨o0,y0⟩:=hex (j*12) (by omega)
    have z0:wr.frozen? ⟨g,j*12,none⟩=false:=ho.frozenAt _
    obtain ⟨o1,y1⟩:=hex (j*12+1) (by omega)
    have z1:wr.frozen? ⟨g,j*12+1,none⟩=false:=ho.frozenAt _
    obtain ⟨o2,y2⟩:=hex (j*12+2) (by omega)
    have z2:wr.frozen? ⟨g,j*12+2,none⟩=false:=ho.frozenAt _
    obtain ⟨o3,y3⟩:=hex (j*12+3) (by omega)
    have z3:wr.frozen? ⟨g,j*12+3,none⟩=false:=ho.frozenAt _
    obtain ⟨o4,y4⟩:=hex (j*12+4) (by omega)
    have z4:wr.frozen? ⟨g,j*12+4,none⟩=false:=ho.frozenAt _
    obtain ⟨o5,y5⟩:=hex (j*12+5) (by omega)
    have z5:wr.frozen? ⟨g,j*12+5,none⟩=false:=ho.frozenAt _
    obtain ⟨o6,y6⟩:=hex (j*12+6) (by omega)
    have z6:wr.frozen? ⟨g,j*12+6,none⟩=false:=ho.frozenAt _
    obtain ⟨o7,y7⟩:=hex (j*12+7) (by omega)
    have z7:wr.frozen? ⟨g,j*12+7,none⟩=false:=ho.frozenAt _
    obtain ⟨o8,y8⟩:=hex (j*12+8) (by omega)
    have z8:wr.frozen? ⟨g,j*12+8,none⟩=false:=ho.frozenAt _
    obtain ⟨o9,y9⟩:=hex (j*12+9) (by omega)
    have z9:wr.frozen? ⟨g,j*12+9,none⟩=false:=ho.frozenAt _
    obtain ⟨o10,y10⟩:=hex (j*12+10) (by omega)
    have z10:wr.frozen? ⟨g,j*12+10,none⟩=false:=ho.frozenAt _
    obtain ⟨o11,y11⟩:=hex (j*12+11) (by omega)
    have z11:wr.frozen? ⟨g,j*12+11,none⟩=false:=ho.frozenAt _
    clear hex hyl ho hys hfl
    go_wp2
    go_roundw
    case rel=>exact ⟨j+1,by omega,by go_num,by have:=HM.out;congr 1;omega,HPR.out,HG.out.trans HPG.out⟩
    case measure=>simp [intOf];omega
   ·have hjn:j=cs.length:=by omega
    have hji:¬ (j:Int)<(cs.length:Int):=by omega
    subst hjn
    have HO:Hid (wr.ownsRow base 61 12 (.slice (some ⟨g,0,none⟩) cs.length cap) cs.length (cscells (mkC k cs.length))):=by rw [Hid,← fillC_all];exact ho
    clear ho
    go_wp2
    go_ret
    exact ⟨rfl,HO.out,HG.out⟩
theorem heldCaseS_any (ao:Option Addr) (cap n k:Nat) (w:World) (hz:CasesAt w ao (mkC k n)) (hn:n≤1048576) (k2:k≤1099511627) :
  Calls Tryz.prog 62 #[.slice ao n cap,.int .i64 k] w fun e w'=>e=.returned (.int .i64 ((k+12*n:Nat):Int))∧w'=w:=by
 have HZ:Hid (CasesAt w ao (mkC k n)):=hz
 clear hz
 go_enter Tryz.func62,Tryz.ntmps62
 go_wp2
 go_loopw [1,5] (fun c i wr=>∃ j:Nat,j≤n∧i=.int .i64 j∧c=.int .i64 ((k+12*j:Nat):Int)∧wr=w) (fun _ i _=>n - (intOf i).toNat)
 case atStart=>exact ⟨0,Nat.zero_le _,rfl,rfl,rfl⟩
 case round =>
  obtain ⟨j,hj,rfl,rfl,hwr⟩:=hrel
  subst hwr
  by_cases hlt:j<n
  ·have hji:(j:Int)<(n:Int):=by omega
   obtain ⟨b,off,rfl,hb,hc⟩:=HZ.out.at (k:=j) (by rw [mkC_len];exact hlt)
   rw [mkC_at k n j hlt] at hc
   obtain ⟨m,hm⟩:∃ m:Nat,k+12*j=m:=⟨_,rfl⟩
   rw [hm] at hc ⊢
   unfold mkC1 at hc
   obtain ⟨c0,c1,c2,c3,c4,c5,c6,c7,c8,c9,c10,c11⟩:=hc
   simp only at c0 c1 c2 c3 c4 c5 c6 c7 c8 c9 c10 c11
   have hmb:m≤7696581390:=by omega
   have HM:Hid (k+12 * (j+1)=m+1+1+1+1+1+1+1+1+1+1+1+1):=by rw [Hid];omega
   have n0:(((m:Int)) != ((m:Int)))=false:=by simp
   have n1:(((m:Int)+1) != ((m:Int)+1))=false:=by simp
   have n2:(((m:Int)+1+1) != ((m:Int)+1+1))=false:=by simp
   have n3:(((m:Int)+1+1+1) != ((m:Int)+1+1+1))=false:=by simp
   have n4:(((m:Int)+1+1+1+1) != ((m:Int)+1+1+1+1))=false:=by simp
   have n5:(((m:Int)+1+1+1+1+1) != ((m:Int)+1+1+1+1+1))=false:=by simp
   have n6:(((m:Int)+1+1+1+1+1+1) != ((m:Int)+1+1+1+1+1+1))=false:=by simp
   have n7:(((m:Int)+1+1+1+1+1+1+1) != ((m:Int)+1+1+1+1+1+1+1))=false:=by simp
   have n8:(((m:Int)+1+1+1+1+1+1+1+1) != ((m:Int)+1+1+1+1+1+1+1+1))=false:=by simp
   have n9:(((((m:Int)+1+1+1+1+1+1+1+1+1) % 3 == 0)) != ((((m:Int)+1+1+1+1+1+1+1+1+1) % 3 == 0)))=false:=by simp
   have n10:(((m:Int)+1+1+1+1+1+1+1+1+1+1) != ((m:Int)+1+1+1+1+1+1+1+1+1+1))=false:=by simp
   have n11:(((m:Int)+1+1+1+1+1+1+1+1+1+1+1) != ((m:Int)+1+1+1+1+1+1+1+1+1+1+1))=false:=by simp
   clear hm
   go_wp2
   go_roundw
   case rel=>exact ⟨j+1,by omega,by go_num,by rw [HM.out];go_num,trivial⟩
   case measure=>simp [intOf];omega
  ·have hjn:j=n:=by omega
   subst hjn
   go_wp2
   go_ret
   exact ⟨rfl,rfl⟩
end Go.Proofs.YtomiclakhjncbaaGreatDoor
