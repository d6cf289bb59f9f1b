import Derived.Test.YtomiclakhjncbaaGreatDoorJX0a
import Derived.Test.YtomiclakhjncbaaGreatDoorJX2a
import Derived.Test.YtomiclakhjncbaaGreatDoorJX3a
namespace Go.Proofs.YtomiclakhjncbaaGreatDoor
open Go.RowKit Go.Proofs.Tryz
set_option maxRecDepth 100000
set_option maxHeartbeats 12800000
def Vy (m:Nat):Cs:=⟨((m:Int)),((m:Int)+1),((m:Int)+1+1),((m:Int)+1+1+1),((m:Int)+1+1+1+1),((m:Int)+1+1+1+1+1),((m:Int)+1+1+1+1+1+1),((m:Int)+1+1+1+1+1+1+1),((m:Int)+1+1+1+1+1+1+1+1),((((m:Int)+1+1+1+1+1+1+1+1+1) % 3 == 0)),((m:Int)+1+1+1+1+1+1+1+1+1+1),((m:Int)+1+1+1+1+1+1+1+1+1+1+1)⟩
def Xu (k n:Nat):List Cs:=(List.range n).map fun i=>Vy (k+12*i)
theorem Pr (k n:Nat):(Xu k n).length=n:=by simp [Xu]
theorem qT (k n i:Nat) (h:i<n):A8 (Xu k n) i=Vy (k+12*i):=by simp [A8,Xu,List.getD_eq_getElem?_getD,h]
def Iy (az:List Cs) (k j:Nat):List Cs:=Xu k j++az.drop j
theorem gY (az:List Cs) (k j:Nat) (h:j≤az.length):(Iy az k j).length=az.length:=by simp [Iy,Pr];omega
theorem Ys (az:List Cs) (k:Nat):Iy az k 0=az:=by simp [Iy,Xu]
theorem eF (az:List Cs) (k:Nat):Iy az k az.length=Xu k az.length:=by simp [Iy]
theorem aH (az:List Cs) (k j:Nat) (h:j<az.length):(Iy az k j).set j (Vy (k+12*j))=Iy az k (j+1):=by
 unfold Iy
 rw [List.set_append,if_neg (by rw [Pr];omega),Pr,Nat.sub_self,List.drop_eq_getElem_cons h,List.set_cons_zero]
 simp [Xu,List.range_succ]
theorem iI (u:World) (g k:Nat) (D:Cs):u.grownBy (Gs u g k D) (some g):=by
 unfold Gs;exact ((((((((((((An _ g (k*12) _).trans (An _ g (k*12+1) _)).trans (An _ g (k*12+2) _)).trans (An _ g (k*12+3) _)).trans (An _ g (k*12+4) _)).trans (An _ g (k*12+5) _)).trans (An _ g (k*12+6) _)).trans (An _ g (k*12+7) _)).trans (An _ g (k*12+8) _)).trans (An _ g (k*12+9) _)).trans (An _ g (k*12+10) _)).trans (An _ g (k*12+11) _))
theorem Uy (ao:Option Addr) (cap base k:Nat) (cs:List Cs) (w:World) (ho:w.ownsRow base 61 12 (.slice ao cs.length cap) cs.length (Aj cs)) (hn:cs.length≤1048576) (k2:k≤1099511627) :
  Calls prog 58 #[.slice ao cs.length cap,.int .i64 k] w fun e w'=>e=.returned (.int .i64 ((k+12*cs.length:Nat):Int))∧w'.ownsRow base 61 12 (.slice ao cs.length cap) cs.length (Aj (Xu k cs.length))∧w.grownBy w' (Value.slice ao cs.length cap).ownBlock:=by
 rcases ho.2 with ⟨hv,h0⟩ | ⟨g,cap',cur,hv,hrest⟩
 ·obtain rfl:cs=[]:=List.eq_nil_of_length_eq_zero h0
  obtain ⟨rfl,rfl⟩:ao=none∧cap=0:=by simpa using hv
  clear hv h0
  go_enter func58,ntmps58
  go_wp2;refine wp_loop_rounds 1 ?_;rw [rounds_succ];go_wp2;go_ret;exact ⟨rfl,ho,World.grownBy.refl _ _⟩
 ·obtain ⟨rfl,rfl⟩:ao=some ⟨g,0,none⟩∧cap=cap':=by simpa using hv
  clear hv hrest
  have HO0:Hid (w.ownsRow base 61 12 (.slice (some ⟨g,0,none⟩) cs.length cap) cs.length (Aj (Iy cs k 0))):=by rw [Hid,Ys];exact ho
  clear ho
  go_enter func58,ntmps58
  go_wp2
  go_loopw [1,5] (fun c i wr=>∃ (j:Nat),j≤cs.length∧i=.int .i64 j∧c=.int .i64 ((k+12*j:Nat):Int)∧wr.ownsRow base 61 12 (.slice (some ⟨g,0,none⟩) cs.length cap) cs.length (Aj (Iy cs k j))∧w.grownBy wr (some g)) (fun _ i _=>cs.length - (intOf i).toNat)
  case atStart=>exact ⟨0,Nat.zero_le _,rfl,by simp,HO0.o,World.grownBy.refl _ _⟩
  case round =>
   obtain ⟨j,hj,rfl,rfl,ho,hg⟩:=hrel;clear HO0;have HG:Hid (w.grownBy wr (some g)):=hg;clear hg
   by_cases hlt:j<cs.length
   ·have hji:(j:Int)<(cs.length:Int):=by omega
    have hfl:=gY cs k j hj
    have HPR:Hid ((Gs wr g j (Vy (k+12*j))).ownsRow base 61 12 (.slice (some ⟨g,0,none⟩) cs.length cap) cs.length (Aj (Iy cs k (j+1)))):=by
     have h:=ho;rw [← hfl] at h
     have r:=Od (Vy (k+12*j)) (k:=j) (by omega) h
     rw [aH cs k j hlt,hfl] at r;exact r
    have HPG:Hid (wr.grownBy (Gs wr g j (Vy (k+12*j))) (some g)):=iI wr g j _;obtain ⟨m,hm⟩:∃ m:Nat,m=k+12*j:=⟨_,rfl⟩
    have hmb:m≤7696581390:=by omega
    have HM:Hid (m=k+12*j):=hm;rw [← hm] at HPR HPG ⊢;unfold Gs Vy at HPR HPG;clear hm;obtain ⟨ys,hys⟩:∃ ys,Aj (Iy cs k j)=ys:=⟨_,rfl⟩;rw [hys] at ho
    have hyl:ys.length=cs.length*12:=by simpa using ho.1
    have hex:∀ p,p<cs.length*12→∃ v,wr.cell? ⟨g,p,none⟩=some v:=fun p hp=>by
     rw [ho.cellAt p (by omega)]
     exact ⟨_,List.getElem?_eq_getElem (by omega)⟩
    obtain ⟨o0,y0⟩:=hex (j*12) (by omega)
    have z0:wr.frozen? ⟨g,j*12,none⟩=false:=ho.frozenAt _
    obtain ⟨o1,y1⟩:=hex (j*12+1) (by omega)
    have z1:wr.frozen? ⟨g,j*12+1,none⟩=false:=ho.frozenAt _
    obtain ⟨o2,y2⟩:=hex (j*12+2) (by omega)
    have z2:wr.frozen? ⟨g,j*12+2,none⟩=false:=ho.frozenAt _
    obtain ⟨o3,y3⟩:=hex (j*12+3) (by omega)
    have z3:wr.frozen? ⟨g,j*12+3,none⟩=false:=ho.frozenAt _
    obtain ⟨o4,y4⟩:=hex (j*12+4) (by omega)
    have z4:wr.frozen? ⟨g,j*12+4,none⟩=false:=ho.frozenAt _
    obtain ⟨o5,y5⟩:=hex (j*12+5) (by omega)
    have z5:wr.frozen? ⟨g,j*12+5,none⟩=false:=ho.frozenAt _
    obtain ⟨o6,y6⟩:=hex (j*12+6) (by omega)
    have z6:wr.frozen? ⟨g,j*12+6,none⟩=false:=ho.frozenAt _
    obtain ⟨o7,y7⟩:=hex (j*12+7) (by omega)
    have z7:wr.frozen? ⟨g,j*12+7,none⟩=false:=ho.frozenAt _
    obtain ⟨o8,y8⟩:=hex (j*12+8) (by omega)
    have z8:wr.frozen? ⟨g,j*12+8,none⟩=false:=ho.frozenAt _
    obtain ⟨o9,y9⟩:=hex (j*12+9) (by omega)
    have z9:wr.frozen? ⟨g,j*12+9,none⟩=false:=ho.frozenAt _
    obtain ⟨o10,y10⟩:=hex (j*12+10) (by omega)
    have z10:wr.frozen? ⟨g,j*12+10,none⟩=false:=ho.frozenAt _
    obtain ⟨o11,y11⟩:=hex (j*12+11) (by omega)
    have z11:wr.frozen? ⟨g,j*12+11,none⟩=false:=ho.frozenAt _;clear hex hyl ho hys hfl;go_wp2
    go_roundw
    case rel=>exact ⟨j+1,by omega,by go_num,by have:=HM.o;congr 1;omega,HPR.o,HG.o.trans HPG.o⟩
    case measure=>simp [intOf];omega
   ·have hjn:j=cs.length:=by omega
    have hji:¬ (j:Int)<(cs.length:Int):=by omega
    subst hjn
    have HO:Hid (wr.ownsRow base 61 12 (.slice (some ⟨g,0,none⟩) cs.length cap) cs.length (Aj (Xu k cs.length))):=by rw [Hid,← eF];exact ho
    clear ho;go_wp2;go_ret;exact ⟨rfl,HO.o,HG.o⟩
theorem R9 (ao:Option Addr) (cap n k:Nat) (w:World) (hz:A0 w ao (Xu k n)) (hn:n≤1048576) (k2:k≤1099511627) :
  Calls prog 62 #[.slice ao n cap,.int .i64 k] w fun e w'=>e=.returned (.int .i64 ((k+12*n:Nat):Int))∧w'=w:=by
 have HZ:Hid (A0 w ao (Xu k n)):=hz;clear hz
 go_enter func62,ntmps62
 go_wp2
 go_loopw [1,5] (fun c i wr=>∃ j:Nat,j≤n∧i=.int .i64 j∧c=.int .i64 ((k+12*j:Nat):Int)∧wr=w) (fun _ i _=>n - (intOf i).toNat)
 case atStart=>exact ⟨0,Nat.zero_le _,rfl,rfl,rfl⟩
 case round =>
  obtain ⟨j,hj,rfl,rfl,hwr⟩:=hrel;subst hwr
  by_cases hlt:j<n
  ·have hji:(j:Int)<(n:Int):=by omega
   obtain ⟨b,off,rfl,hb,hc⟩:=HZ.o.at (k:=j) (by rw [Pr];exact hlt)
   rw [qT k n j hlt] at hc;obtain ⟨m,hm⟩:∃ m:Nat,k+12*j=m:=⟨_,rfl⟩;rw [hm] at hc ⊢;unfold Vy at hc;obtain ⟨c0,c1,c2,c3,c4,c5,c6,c7,c8,c9,c10,c11⟩:=hc
   simp only at c0 c1 c2 c3 c4 c5 c6 c7 c8 c9 c10 c11
   have hmb:m≤7696581390:=by omega
   have HM:Hid (k+12 * (j+1)=m+1+1+1+1+1+1+1+1+1+1+1+1):=by rw [Hid];omega
   have n0:(((m:Int)) != ((m:Int)))=false:=by simp
   have n1:(((m:Int)+1) != ((m:Int)+1))=false:=by simp
   have n2:(((m:Int)+1+1) != ((m:Int)+1+1))=false:=by simp
   have n3:(((m:Int)+1+1+1) != ((m:Int)+1+1+1))=false:=by simp
   have n4:(((m:Int)+1+1+1+1) != ((m:Int)+1+1+1+1))=false:=by simp
   have n5:(((m:Int)+1+1+1+1+1) != ((m:Int)+1+1+1+1+1))=false:=by simp
   have n6:(((m:Int)+1+1+1+1+1+1) != ((m:Int)+1+1+1+1+1+1))=false:=by simp
   have n7:(((m:Int)+1+1+1+1+1+1+1) != ((m:Int)+1+1+1+1+1+1+1))=false:=by simp
   have n8:(((m:Int)+1+1+1+1+1+1+1+1) != ((m:Int)+1+1+1+1+1+1+1+1))=false:=by simp
   have n9:(((((m:Int)+1+1+1+1+1+1+1+1+1) % 3 == 0)) != ((((m:Int)+1+1+1+1+1+1+1+1+1) % 3 == 0)))=false:=by simp
   have n10:(((m:Int)+1+1+1+1+1+1+1+1+1+1) != ((m:Int)+1+1+1+1+1+1+1+1+1+1))=false:=by simp
   have n11:(((m:Int)+1+1+1+1+1+1+1+1+1+1+1) != ((m:Int)+1+1+1+1+1+1+1+1+1+1+1))=false:=by simp
   clear hm;go_wp2
   go_roundw
   case rel=>exact ⟨j+1,by omega,by go_num,by rw [HM.o];go_num,trivial⟩
   case measure=>simp [intOf];omega
  ·have hjn:j=n:=by omega
   subst hjn;go_wp2;go_ret;exact ⟨rfl,rfl⟩
end Go.Proofs.YtomiclakhjncbaaGreatDoor
