import Derived.Test.YtomiclakhjncbaaGreatDoorJX0a
import Derived.Test.YtomiclakhjncbaaGreatDoorJX1a
import Derived.Deep.RegionWith
namespace Go.Proofs.YtomiclakhjncbaaGreatDoor
open Go.RowKit Go.Proofs.Tryz
set_option maxRecDepth 100000
set_option maxHeartbeats 12800000
def V5 (l:List UInt8) (left:Int):Int:=if left - (l.length:Int)<0 then -1 else left - (l.length:Int)
theorem Qz (a:Au) (left:Int) (w:World) (hl:left≤1048576∧0≤left) (hm:a.ref.length≤9223372036854775807) :
  Calls prog 121 #[Fe a,.int .i64 left] w fun e w'=>e=.returned (.int .i64 (V5 a.ref left))∧BW w w':=by
 obtain ⟨r,i,c,m,d,u⟩:=a
 simp only [Fe] at hm ⊢
 by_cases h:left - (r.length:Int)<0
 ·have HE:Hid (V5 r left = -1):=if_pos h
  go_enter func121,ntmps121
  go_wp2;go_ret;exact ⟨Af HE.o.symm,bR.alloc nL _⟩
 ·have HE:Hid (V5 r left=left - (r.length:Int)):=if_neg h
  go_enter func121,ntmps121
  go_wp2;go_ret;exact ⟨Af HE.o.symm,bR.alloc nL _⟩
theorem Zc (a:Au) (w:World) :
  Calls prog 124 #[Fe a] w fun e w'=>e=.returned (Fe a)∧BW w w':=by
 obtain ⟨r,i,c,m,d,u⟩:=a
 simp only [Fe]
 go_enter func124,ntmps124
 go_wp2
 go_returns
 refine ⟨rfl,?_⟩
 go_grown
def Hl:List Au→Int→Int
 | [],left=>left
 | a::r,left=>if left - (a.ref.length:Int)<0 then -1 else Hl r (left - (a.ref.length:Int))
def Hr (az:List Au) (left:Int):Int:=if left - (az.length:Int)<0 then -1 else Hl az (left - (az.length:Int))
theorem Vk (az:List Au) (k:Nat) (left:Int) (h:k<az.length):Hl (az.drop k) left=if left - ((Ak az k).ref.length:Int)<0 then -1 else Hl (az.drop (k+1)) (left - ((Ak az k).ref.length:Int)):=by
 rw [List.drop_eq_getElem_cons h,Gw h];rfl
def Ws (az:List Au):Nat:=(az.map fun a=>a.ref.length).sum
theorem Ze (az:List Au):∀ left,0≤Hl az left→0≤left→(Ws az:Int)≤left∧Hl az left≤left:=by
 induction az with
 | nil=>intro left _ h;exact ⟨by simpa [Ws] using h,Int.le_refl _⟩
 | cons f r ih =>
  intro left h hl
  simp only [Hl] at h ⊢
  split at h
  ·omega
  ·rename_i hh
   rw [if_neg hh]
   have:=ih _ h (by omega)
   simp only [Ws,List.map_cons,List.sum_cons] at this ⊢
   omega
theorem Xz {az:List Au} {left:Int} (h:0≤Hr az left):(az.length:Int)+Ws az≤left∧Hr az left≤left:=by
 unfold Hr at h ⊢
 split at h
 ·omega
 ·rename_i hh
  rw [if_neg hh]
  have:=Ze az _ h (by omega)
  omega
theorem iY {az:List Au} {a:Au} (h:a ∈ az):a.ref.length≤Ws az:=by
 induction az with
 | nil=>cases h
 | cons g r ih =>
  simp only [Ws,List.map_cons,List.sum_cons] at ih ⊢
  rcases List.mem_cons.1 h with rfl | hr
  ·omega
  ·have:=ih hr;omega
theorem W6 (ao:Option Addr) (cap:Nat) (az:List Au) (left:Int) (w:World) (hz:Ar w ao az) (hd:Ml az) (hl0:0≤left) (hl1:left≤1048576) :
  Calls prog 68 #[.slice ao az.length cap,.int .i64 left] w fun e w'=>e=.returned (.int .i64 (Hr az left))∧BW w w':=by
 have hn:az.length≤9223372036854775807:=by have:=hd.1;unfold maxLen at this;omega
 have HD:Hid (∀ k,k<az.length→(Ak az k).ref.length≤9223372036854775807):=by
  intro k hk;have:=(hd.2 _ (J8 hk)).1;unfold maxLen at this;omega
 clear hd
 by_cases hneg:left - (az.length:Int)<0
 ·have HE:Hid (Hr az left = -1):=if_pos hneg
  go_enter func68,ntmps68
  go_wp2;go_ret;exact ⟨Af HE.o.symm,bR⟩
 ·have HE:Hid (Hr az left=Hl az (left - (az.length:Int))):=if_neg hneg
  rcases hz with rfl | ⟨b,off,rfl,hb,hcell⟩
  ·go_enter func68,ntmps68
   go_wp2;refine wp_loop_rounds 1 ?_;rw [rounds_succ];go_wp2;go_ret
   exact ⟨Af (by rw [HE.o];simp [Hl]),bR⟩
  ·have HC:Hid (∀ i,i<az.length→w.cell? ⟨b,off+i*6,none⟩=some (.string ⟨(Ak az i).ref.toArray⟩)∧w.cell? ⟨b,off+i*6+1,none⟩=some (.int .i64 (Ak az i).iss)∧w.cell? ⟨b,off+i*6+2,none⟩=some (.int .i64 (Ak az i).cur)∧w.cell? ⟨b,off+i*6+3,none⟩=some (.int .i64 (Ak az i).am)∧w.cell? ⟨b,off+i*6+4,none⟩=some (.int .i64 (Ak az i).day)∧w.cell? ⟨b,off+i*6+5,none⟩=some (.bool (Ak az i).used)):=hcell
   clear hcell
   go_enter func68,ntmps68
   go_wp2
   go_loopw [1,5] (fun v i wr=>∃ (k:Nat) (l:Int),k≤az.length∧i=.int .i64 k∧v=.int .i64 l∧0≤l∧l≤1048576∧Hr az left=Hl (az.drop k) l∧BW w wr) (fun _ i _=>az.length - (intOf i).toNat)
   case atStart=>exact ⟨0,_,Nat.zero_le _,rfl,rfl,by omega,by omega,HE.o,bR⟩
   case round =>
    obtain ⟨k,l,hk,rfl,rfl,h0,h1,hleft,hbr⟩:=hrel
    by_cases hlt:k<az.length
    ·have x0:wr.cell? ⟨b,off+k*6,none⟩=some (.string ⟨(Ak az k).ref.toArray⟩):=(hbr.cell (p:=⟨b,off+k*6,none⟩) hb).trans (HC.o k hlt).1
     have x1:wr.cell? ⟨b,off+k*6+1,none⟩=some (.int .i64 (Ak az k).iss):=(hbr.cell (p:=⟨b,off+k*6+1,none⟩) hb).trans (HC.o k hlt).2.1;have x2:wr.cell? ⟨b,off+k*6+2,none⟩=some (.int .i64 (Ak az k).cur):=(hbr.cell (p:=⟨b,off+k*6+2,none⟩) hb).trans (HC.o k hlt).2.2.1;have x3:wr.cell? ⟨b,off+k*6+3,none⟩=some (.int .i64 (Ak az k).am):=(hbr.cell (p:=⟨b,off+k*6+3,none⟩) hb).trans (HC.o k hlt).2.2.2.1;have x4:wr.cell? ⟨b,off+k*6+4,none⟩=some (.int .i64 (Ak az k).day):=(hbr.cell (p:=⟨b,off+k*6+4,none⟩) hb).trans (HC.o k hlt).2.2.2.2.1;have x5:wr.cell? ⟨b,off+k*6+5,none⟩=some (.bool (Ak az k).used):=(hbr.cell (p:=⟨b,off+k*6+5,none⟩) hb).trans (HC.o k hlt).2.2.2.2.2
     have hki:(k:Int)<(az.length:Int):=by omega
     have hst:=Vk az k l hlt;have hdk:=HD.o k hlt;obtain ⟨⟨r,i,c,m,d,u⟩,hf⟩:∃ f,Ak az k=f:=⟨_,rfl⟩;rw [hf] at x0 x1 x2 x3 x4 x5 hst hdk
     simp only at x0 x1 x2 x3 x4 x5 hst hdk
     by_cases hng:l - (r.length:Int)<0
     ·have HN:Hid (Hr az left = -1):=by rw [Hid,hleft,hst,if_pos hng]
      have HF:Hid (V5 r l = -1):=if_pos hng;clear hst hf hleft;go_wp2_with fail
      refine (Qz ⟨r,i,c,m,d,u⟩ _ _ ⟨h1,h0⟩ hdk).mono ?_;rintro e w1 ⟨rfl,b1⟩
      simp only
      rw [HF.o];go_wp2;go_ret;exact ⟨Af HN.o.symm,hbr.trans (b1.mono hbr.size)⟩
     ·have HN:Hid (Hr az left=Hl (az.drop (k+1)) (l - (r.length:Int))):=by rw [Hid,hleft,hst,if_neg hng]
      have HF:Hid (V5 r l=l - (r.length:Int)):=if_neg hng;clear hst hf hleft;go_wp2_with fail
      refine (Qz ⟨r,i,c,m,d,u⟩ _ _ ⟨h1,h0⟩ hdk).mono ?_;rintro e w1 ⟨rfl,b1⟩
      simp only
      rw [HF.o];go_wp2
      go_roundw
      case rel=>exact ⟨k+1,l - (r.length:Int),by omega,by go_num,rfl,by omega,by omega,HN.o,hbr.trans (b1.mono hbr.size)⟩
      case measure=>simp [intOf];omega
    ·have HE2:Hid (Hr az left=l):=by rw [Hid,hleft,List.drop_of_length_le (by omega)];rfl
     clear hleft;go_wp2;go_ret;exact ⟨Af HE2.o.symm,hbr⟩
theorem Wg (ao:Option Addr) (cap:Nat) (az:List Au) (w:World) (hz:Ar w ao az) (hn:az.length≤1048576) :
  Calls prog 73 #[.slice ao az.length cap] w fun e w'=>e=.returned (.slice (some ⟨w.heap.size,0,none⟩) az.length az.length) ∧
   w'.ownsRow w.heap.size 107 6 (.slice (some ⟨w.heap.size,0,none⟩) az.length az.length) az.length (Ah az)∧BW w w':=by
 obtain ⟨i0,hi,hz0,hz1,hz2⟩:=info_parts cF;have hm0:=Qx az.length
 rcases hz with rfl | ⟨b,off,rfl,hb,hcell⟩
 ·go_enter func73,ntmps73
  go_wp2_with (refine wpList_make_full _ rfl (.tmp 6) (.tmp 6) 25 rfl w.heap.size 107 i0 _ 6 underlying25 hi hz0 hz1 .i64 .i64 _ _ 0 rfl rfl rfl rfl (by rw [hz2];omega) (by unfold maxLen;omega) nL ?_;intro w1 hown hg)
  refine wp_loop_rounds 1 ?_;rw [rounds_succ];go_wp2;go_ret
  exact ⟨rfl,by simpa [madeCells,Ah] using hown,bR.grown hg nL (fun k hk=>by cases hk)⟩
 ·have HC:Hid (∀ i,i<az.length→w.cell? ⟨b,off+i*6,none⟩=some (.string ⟨(Ak az i).ref.toArray⟩)∧w.cell? ⟨b,off+i*6+1,none⟩=some (.int .i64 (Ak az i).iss)∧w.cell? ⟨b,off+i*6+2,none⟩=some (.int .i64 (Ak az i).cur)∧w.cell? ⟨b,off+i*6+3,none⟩=some (.int .i64 (Ak az i).am)∧w.cell? ⟨b,off+i*6+4,none⟩=some (.int .i64 (Ak az i).day)∧w.cell? ⟨b,off+i*6+5,none⟩=some (.bool (Ak az i).used)):=hcell
  clear hcell
  go_enter func73,ntmps73
  go_wp2_with (refine wpList_make_full _ rfl (.tmp 6) (.tmp 6) 25 rfl w.heap.size 107 i0 _ 6 underlying25 hi hz0 hz1 .i64 .i64 _ _ az.length rfl rfl rfl rfl (by rw [hz2];omega) (by unfold maxLen;omega) nL ?_;intro w1 hown hg)
  rw [hm0,← Pz az] at hown
  have hb1:BW w w1:=bR.grown hg nL (fun k hk=>by cases hk)
  clear hm0 hg
  go_loopw [4] (fun i wr=>∃ k:Nat,k≤az.length∧i=.int .i64 k∧wr.ownsRow w.heap.size 107 6 (.slice (some ⟨w.heap.size,0,none⟩) az.length az.length) az.length (Ah (Du az k))∧BW w wr) (fun i _=>az.length - (intOf i).toNat)
  case atStart=>exact ⟨0,Nat.zero_le _,rfl,hown,hb1⟩
  case round =>
   obtain ⟨k,hk,rfl,ho,hbr⟩:=hrel;clear hown hb1
   by_cases hlt:k<az.length
   ·have x0:wr.cell? ⟨b,off+k*6,none⟩=some (.string ⟨(Ak az k).ref.toArray⟩):=(hbr.cell (p:=⟨b,off+k*6,none⟩) hb).trans (HC.o k hlt).1
    have x1:wr.cell? ⟨b,off+k*6+1,none⟩=some (.int .i64 (Ak az k).iss):=(hbr.cell (p:=⟨b,off+k*6+1,none⟩) hb).trans (HC.o k hlt).2.1;have x2:wr.cell? ⟨b,off+k*6+2,none⟩=some (.int .i64 (Ak az k).cur):=(hbr.cell (p:=⟨b,off+k*6+2,none⟩) hb).trans (HC.o k hlt).2.2.1;have x3:wr.cell? ⟨b,off+k*6+3,none⟩=some (.int .i64 (Ak az k).am):=(hbr.cell (p:=⟨b,off+k*6+3,none⟩) hb).trans (HC.o k hlt).2.2.2.1;have x4:wr.cell? ⟨b,off+k*6+4,none⟩=some (.int .i64 (Ak az k).day):=(hbr.cell (p:=⟨b,off+k*6+4,none⟩) hb).trans (HC.o k hlt).2.2.2.2.1;have x5:wr.cell? ⟨b,off+k*6+5,none⟩=some (.bool (Ak az k).used):=(hbr.cell (p:=⟨b,off+k*6+5,none⟩) hb).trans (HC.o k hlt).2.2.2.2.2
    have hki:(k:Int)<(az.length:Int):=by omega
    have HS:Hid _:=Ly az k hlt
    have HT:Hid _:=Hu (Du az k) (Ak az k) k (by rw [Iu az k hk];exact hlt)
    obtain ⟨⟨r,i,c,m,d,u⟩,hf⟩:∃ f,Ak az k=f:=⟨_,rfl⟩;rw [hf] at x0 x1 x2 x3 x4 x5 HS HT
    simp only at x0 x1 x2 x3 x4 x5 HT
    have HO:Hid (wr.ownsRow w.heap.size 107 6 (.slice (some ⟨w.heap.size,0,none⟩) az.length az.length) az.length (Ah (Du az k))):=ho;have HA:Hid _:=Wu az k hlt;clear hf ho;go_wp2_with fail
    refine (Zc ⟨r,i,c,m,d,u⟩ _).mono ?_;rintro e w2 ⟨rfl,b2⟩
    simp only [Fe]
    have ho:=Iw HO.o b2
    have hat:=De (Du az k) k (by rw [Iu az k hk];exact hlt)
    rw [HA.o] at hat
    have y0:w2.cell? ⟨w.heap.size,k*6,none⟩=some (.string ⟨#[]⟩):=by rw [ho.cellAt (k*6) (by omega)];exact hat.1
    have z0:w2.frozen? ⟨w.heap.size,k*6,none⟩=false:=ho.frozenAt _
    have y1:w2.cell? ⟨w.heap.size,k*6+1,none⟩=some (.int .i64 0):=by rw [ho.cellAt (k*6+1) (by omega)];exact hat.2.1
    have z1:w2.frozen? ⟨w.heap.size,k*6+1,none⟩=false:=ho.frozenAt _
    have y2:w2.cell? ⟨w.heap.size,k*6+2,none⟩=some (.int .i64 0):=by rw [ho.cellAt (k*6+2) (by omega)];exact hat.2.2.1
    have z2:w2.frozen? ⟨w.heap.size,k*6+2,none⟩=false:=ho.frozenAt _
    have y3:w2.cell? ⟨w.heap.size,k*6+3,none⟩=some (.int .i64 0):=by rw [ho.cellAt (k*6+3) (by omega)];exact hat.2.2.2.1
    have z3:w2.frozen? ⟨w.heap.size,k*6+3,none⟩=false:=ho.frozenAt _
    have y4:w2.cell? ⟨w.heap.size,k*6+4,none⟩=some (.int .i64 0):=by rw [ho.cellAt (k*6+4) (by omega)];exact hat.2.2.2.2.1
    have z4:w2.frozen? ⟨w.heap.size,k*6+4,none⟩=false:=ho.frozenAt _
    have y5:w2.cell? ⟨w.heap.size,k*6+5,none⟩=some (.bool false):=by rw [ho.cellAt (k*6+5) (by omega)];exact hat.2.2.2.2.2
    have z5:w2.frozen? ⟨w.heap.size,k*6+5,none⟩=false:=ho.frozenAt _
    have HR:Hid ((((((((w2.setCell ⟨w.heap.size,k*6,none⟩ (.string ⟨r.toArray⟩)).setCell ⟨w.heap.size,k*6+1,none⟩ (.int .i64 i)).setCell ⟨w.heap.size,k*6+2,none⟩ (.int .i64 c)).setCell ⟨w.heap.size,k*6+3,none⟩ (.int .i64 m)).setCell ⟨w.heap.size,k*6+4,none⟩ (.int .i64 d)).setCell ⟨w.heap.size,k*6+5,none⟩ (.bool u))).ownsRow w.heap.size 107 6 (.slice (some ⟨w.heap.size,0,none⟩) az.length az.length) az.length (Ah (Du az (k+1)))):=by
     have R:=(((((((ho.stored (k*6) (.string ⟨r.toArray⟩)).1.stored (k*6+1) (.int .i64 i)).1.stored (k*6+2) (.int .i64 c)).1.stored (k*6+3) (.int .i64 m)).1.stored (k*6+4) (.int .i64 d)).1.stored (k*6+5) (.bool u))).1;rw [HT.o,HS.o] at R;exact R
    clear ho hat;go_wp2
    go_roundw
    case rel=>exact ⟨k+1,by omega,by go_num,HR.o,(((((((hbr.trans (b2.mono hbr.size)).setCell nL _).setCell nL _).setCell nL _).setCell nL _).setCell nL _).setCell nL _)⟩
    case measure=>simp [intOf];omega
   ·have:k=az.length:=by omega
    subst this;rw [Sv] at ho;go_wp2;go_ret;exact ⟨rfl,ho,hbr⟩
theorem Wn (a:Au) (w:World) :
  Calls prog 115 #[Fe a,Fe a] w fun e w'=>e=.returned (.bool true)∧BW w w':=by
 obtain ⟨r,i,c,m,d,u⟩:=a
 simp only [Fe]
 have n0:(r == r)=true:=by simp
 have n1:(i != i)=false:=by simp
 have n2:(c != c)=false:=by simp
 have n3:(m != m)=false:=by simp
 have n4:(d != d)=false:=by simp
 cases u
 ·go_enter func115,ntmps115
  go_wp2;go_ret
  exact ⟨rfl,by go_grown⟩
 ·go_enter func115,ntmps115
  go_wp2;go_ret
  exact ⟨rfl,by go_grown⟩
theorem T3 (ao bo:Option Addr) (c1 c2:Nat) (az:List Au) (w:World) (hx:Ar w ao az) (hy:Ar w bo az) (h1:az.length≤1099511627776) :
  Calls prog 53 #[.slice ao az.length c1,.slice bo az.length c2] w fun e w'=>e=.returned (.bool true)∧BW w w':=by
 rcases hx with rfl | ⟨b,off,rfl,hb,hcx⟩
 ·go_enter func53,ntmps53
  go_wp2;refine wp_loop_rounds 1 ?_;rw [rounds_succ];go_wp2;go_ret;exact ⟨rfl,bR⟩
 rcases hy with rfl | ⟨d,off2,rfl,hd,hcy⟩
 ·go_enter func53,ntmps53
  go_wp2;refine wp_loop_rounds 1 ?_;rw [rounds_succ];go_wp2;go_ret;exact ⟨rfl,bR⟩
 have HCX:Hid (∀ i,i<az.length→w.cell? ⟨b,off+i*6,none⟩=some (.string ⟨(Ak az i).ref.toArray⟩)∧w.cell? ⟨b,off+i*6+1,none⟩=some (.int .i64 (Ak az i).iss)∧w.cell? ⟨b,off+i*6+2,none⟩=some (.int .i64 (Ak az i).cur)∧w.cell? ⟨b,off+i*6+3,none⟩=some (.int .i64 (Ak az i).am)∧w.cell? ⟨b,off+i*6+4,none⟩=some (.int .i64 (Ak az i).day)∧w.cell? ⟨b,off+i*6+5,none⟩=some (.bool (Ak az i).used)):=hcx;have HCY:Hid (∀ i,i<az.length→w.cell? ⟨d,off2+i*6,none⟩=some (.string ⟨(Ak az i).ref.toArray⟩)∧w.cell? ⟨d,off2+i*6+1,none⟩=some (.int .i64 (Ak az i).iss)∧w.cell? ⟨d,off2+i*6+2,none⟩=some (.int .i64 (Ak az i).cur)∧w.cell? ⟨d,off2+i*6+3,none⟩=some (.int .i64 (Ak az i).am)∧w.cell? ⟨d,off2+i*6+4,none⟩=some (.int .i64 (Ak az i).day)∧w.cell? ⟨d,off2+i*6+5,none⟩=some (.bool (Ak az i).used)):=hcy;clear hcx hcy
 have nn:((az.length:Int) != (az.length:Int))=false:=by simp
 obtain ⟨n,hn⟩:∃ n,az.length=n:=⟨_,rfl⟩;rw [hn] at h1 nn HCX HCY ⊢;clear hn
 go_enter func53,ntmps53
 go_wp2
 go_loopw [5] (fun i wr=>∃ k:Nat,k≤n∧i=.int .i64 k∧BW w wr) (fun i _=>n - (intOf i).toNat)
 case atStart=>exact ⟨0,Nat.zero_le _,rfl,bR⟩
 case round =>
  obtain ⟨k,hk,rfl,hbr⟩:=hrel
  by_cases hlt:k<n
  ·have x0:wr.cell? ⟨b,off+k*6,none⟩=some (.string ⟨(Ak az k).ref.toArray⟩):=(hbr.cell (p:=⟨b,off+k*6,none⟩) hb).trans (HCX.o k hlt).1
   have x1:wr.cell? ⟨b,off+k*6+1,none⟩=some (.int .i64 (Ak az k).iss):=(hbr.cell (p:=⟨b,off+k*6+1,none⟩) hb).trans (HCX.o k hlt).2.1;have x2:wr.cell? ⟨b,off+k*6+2,none⟩=some (.int .i64 (Ak az k).cur):=(hbr.cell (p:=⟨b,off+k*6+2,none⟩) hb).trans (HCX.o k hlt).2.2.1;have x3:wr.cell? ⟨b,off+k*6+3,none⟩=some (.int .i64 (Ak az k).am):=(hbr.cell (p:=⟨b,off+k*6+3,none⟩) hb).trans (HCX.o k hlt).2.2.2.1;have x4:wr.cell? ⟨b,off+k*6+4,none⟩=some (.int .i64 (Ak az k).day):=(hbr.cell (p:=⟨b,off+k*6+4,none⟩) hb).trans (HCX.o k hlt).2.2.2.2.1;have x5:wr.cell? ⟨b,off+k*6+5,none⟩=some (.bool (Ak az k).used):=(hbr.cell (p:=⟨b,off+k*6+5,none⟩) hb).trans (HCX.o k hlt).2.2.2.2.2;have y0:wr.cell? ⟨d,off2+k*6,none⟩=some (.string ⟨(Ak az k).ref.toArray⟩):=(hbr.cell (p:=⟨d,off2+k*6,none⟩) hd).trans (HCY.o k hlt).1;have y1:wr.cell? ⟨d,off2+k*6+1,none⟩=some (.int .i64 (Ak az k).iss):=(hbr.cell (p:=⟨d,off2+k*6+1,none⟩) hd).trans (HCY.o k hlt).2.1;have y2:wr.cell? ⟨d,off2+k*6+2,none⟩=some (.int .i64 (Ak az k).cur):=(hbr.cell (p:=⟨d,off2+k*6+2,none⟩) hd).trans (HCY.o k hlt).2.2.1;have y3:wr.cell? ⟨d,off2+k*6+3,none⟩=some (.int .i64 (Ak az k).am):=(hbr.cell (p:=⟨d,off2+k*6+3,none⟩) hd).trans (HCY.o k hlt).2.2.2.1;have y4:wr.cell? ⟨d,off2+k*6+4,none⟩=some (.int .i64 (Ak az k).day):=(hbr.cell (p:=⟨d,off2+k*6+4,none⟩) hd).trans (HCY.o k hlt).2.2.2.2.1;have y5:wr.cell? ⟨d,off2+k*6+5,none⟩=some (.bool (Ak az k).used):=(hbr.cell (p:=⟨d,off2+k*6+5,none⟩) hd).trans (HCY.o k hlt).2.2.2.2.2
   have hki:(k:Int)<(n:Int):=by omega
   obtain ⟨⟨r,i,c,m,e,u⟩,hf⟩:∃ f,Ak az k=f:=⟨_,rfl⟩;rw [hf] at x0 x1 x2 x3 x4 x5 y0 y1 y2 y3 y4 y5
   simp only at x0 x1 x2 x3 x4 x5 y0 y1 y2 y3 y4 y5
   have HQ:Hid (∀ v,Calls prog 115 #[.agg #[.string ⟨r.toArray⟩,.int .i64 i,.int .i64 c,.int .i64 m,.int .i64 e,.bool u],.agg #[.string ⟨r.toArray⟩,.int .i64 i,.int .i64 c,.int .i64 m,.int .i64 e,.bool u]] v fun e v'=>e=.returned (.bool true)∧BW v v'):=fun v=>Wn ⟨r,i,c,m,e,u⟩ v
   clear hf;go_wp2
   go_region_with (refine (HQ.o _).mono ?_;rintro e w2 ⟨rfl,b2⟩)
   all_goals
    go_wp2
    go_roundw
    case rel=>exact ⟨k+1,by omega,by go_num,(below_drewN hbr _).trans (b2.mono hbr.size)⟩
    case measure=>simp [intOf];omega
  ·go_wp2
   go_ret;exact ⟨rfl,hbr⟩
end Go.Proofs.YtomiclakhjncbaaGreatDoor
