import Derived.Test.YtomiclakhjncbaaGreatDoorJL0a
import Derived.Test.YtomiclakhjncbaaGreatDoorJL1a
namespace Go.Proofs.YtomiclakhjncbaaGreatDoor
open Go.RowKit Go.Proofs.Tryz
set_option maxRecDepth 100000
set_option maxHeartbeats 12800000
def Ae (s:List UInt8):Int:=if s=[]∨15<s.length then -1 else if Dr s<0∨Lib.decDigits (Dr s).toNat≠s then -1 else Dr s
theorem rK:Ae [] = -1:=by simp [Ae]
theorem jY {s:List UInt8} (h:15<s.length):Ae s = -1:=if_pos (.inr h)
theorem qC {s:List UInt8} (h0:s≠[]) (h1:¬ 15<s.length) (h:Dr s<0):Ae s = -1:=by rw [Ae,if_neg (by rintro (h | h);exact h0 h;exact h1 h),if_pos (.inl h)]
theorem rC {s:List UInt8} (h0:s≠[]) (h1:¬ 15<s.length) (h:Lib.decDigits (Dr s).toNat≠s):Ae s = -1:=by rw [Ae,if_neg (by rintro (h | h);exact h0 h;exact h1 h),if_pos (.inr h)]
theorem kY {s:List UInt8} (h0:s≠[]) (h1:¬ 15<s.length) (h2:¬ Dr s<0) (h:Lib.decDigits (Dr s).toNat=s):Ae s=Dr s:=by rw [Ae,if_neg (by rintro (h | h);exact h0 h;exact h1 h),if_neg (by rintro (h' | h');exact h2 h';exact h' h)]
theorem Ib (s:List UInt8):-1≤Ae s∧Ae s<1000000000000000000:=by
 have:=Qj s
 unfold Ae
 split
 ·omega
 ·split
  ·omega
  ·omega
theorem Ha (s:List UInt8) (w:World) (hl:s.length≤1048576) :
  Calls prog 140 #[.string ⟨s.toArray⟩] w fun e w'=>e=.returned (.int .i64 (Ae s))∧w'=w:=by
 by_cases h0:s=[]
 ·subst h0
  have HE:Hid _:=rK
  go_enter func140,ntmps140
  go_wp2;go_ret;exact ⟨Af HE.o.symm,rfl⟩
 have hie:s.isEmpty=false:=by cases s with
  | nil=>exact absurd rfl h0
  | cons a t=>rfl
 by_cases h1:15<s.length
 ·have HE:Hid _:=jY h1
  have h1':(15:Int)<(s.length:Int):=by omega
  go_enter func140,ntmps140
  go_wp2;go_ret;exact ⟨Af HE.o.symm,rfl⟩
 have h1':¬ (15:Int)<(s.length:Int):=by omega
 have HN:Hid (∀ u,Calls prog 177 #[.string ⟨s.toArray⟩] u fun e w'=>e=.returned (.int .i64 (Dr s))∧w'=u):=fun u=>Tg.sNumOf_any s u (by omega)
 have hbd:=Qj s
 by_cases h2:Dr s<0
 ·have HE:Hid _:=qC h0 h1 h2
  obtain ⟨n,hn⟩:∃ n,Dr s=n:=⟨_,rfl⟩;rw [hn] at HN h2 hbd;clear hn h1
  go_enter func140,ntmps140
  go_wp2_with (go_at_call 177;refine (HN.o _).mono ?_;rintro e w' ⟨rfl,rfl⟩)
  go_ret;exact ⟨Af HE.o.symm,rfl⟩
 obtain ⟨m,hm⟩:=Int.eq_ofNat_of_zero_le (show 0≤Dr s by omega)
 have HD:Hid (∀ u,Calls prog 72 #[.int .i64 (m:Int)] u fun e w'=>e=.returned (.string ⟨(Lib.decDigits m).toArray⟩)∧w'=u):=fun u=>Tg.dec_up m u (by omega)
 by_cases h3:Lib.decDigits m=s
 ·have HE:Hid (Ae s=(m:Int)):=by rw [Hid,kY h0 h1 h2 (by rw [hm];exact h3),hm]
  rw [hm] at HN h2 hbd;rw [h3] at HD;clear h1 h3
  have hmm:¬ (m:Int)<0:=by omega
  go_enter func140,ntmps140
  go_wp2_with (first | (go_at_call 177;refine (HN.o _).mono ?_;rintro e w' ⟨rfl,rfl⟩) | (go_at_call 72;refine (HD.o _).mono ?_;rintro e w' ⟨rfl,rfl⟩))
  go_ret;exact ⟨Af HE.o.symm,rfl⟩
 ·have HE:Hid (Ae s = -1):=rC h0 h1 (by rw [hm];exact h3)
  rw [hm] at HN h2 hbd;clear h1;obtain ⟨D,hD⟩:∃ D,Lib.decDigits m=D:=⟨_,rfl⟩;rw [hD] at HD h3
  have hds:(D == s)=false:=by simpa using h3
  clear hD
  have hmm:¬ (m:Int)<0:=by omega
  go_enter func140,ntmps140
  go_wp2_with (first | (go_at_call 177;refine (HN.o _).mono ?_;rintro e w' ⟨rfl,rfl⟩) | (go_at_call 72;refine (HD.o _).mono ?_;rintro e w' ⟨rfl,rfl⟩))
  go_ret;exact ⟨Af HE.o.symm,rfl⟩
def Ap (rs:Be):Bool:=rs.all fun r=>decide (0≤Ae r)
def A7 (rs:Be):List Int:=if Ap rs=true then rs.map Ae else []
theorem S0 {rs:Be} {k:Nat} (h:k<rs.length) (hn:Ae (Al rs k)<0):Ap rs=false:=by
 cases e:Ap rs
 ·rfl
 ·have h1:=List.all_eq_true.1 e (Al rs k) (F7 h)
  have h2:0≤Ae (Al rs k):=by simpa using h1
  omega
theorem Qe {rs:Be} (h:∀ k,k<rs.length→0≤Ae (Al rs k)):Ap rs=true:=by
 refine List.all_eq_true.2 fun r hr=>?_
 obtain ⟨k,hk,rfl⟩:=List.getElem_of_mem hr
 have:=h k hk
 simpa [Al,List.getD_eq_getElem?_getD,hk] using this
theorem Tm (rs:Be) (k:Nat) (h:k<rs.length):(rs.take (k+1)).map Ae=(rs.take k).map Ae++[Ae (Al rs k)]:=by
 have e:Al rs k=rs[k]:=by simp [Al,List.getD_eq_getElem?_getD,h]
 rw [List.take_succ_eq_append_getElem h,List.map_append,e];rfl
theorem mG:(prog.info? 3).map (fun i=>(i.zero,i.size,i.bytes))=some (some (.int .i64 0),1,8):=by kernel_rfl
theorem cJ (x:Int):∀ u ∈ [Value.int .i64 x],u.oneCell'=true:=by
 intro u hu
 rw [List.mem_singleton.1 hu];rfl
theorem Nw (ao:Option Addr) (cap:Nat) (rs:Be) (w:World) (hz:Bh w ao rs) (hn:rs.length≤1048576) (hd:∀ r ∈ rs,r.length≤1048576) :
  Calls prog 142 #[.slice ao rs.length cap] w fun e w'=>∃ a k,e=.returned (.tuple #[.slice a (A7 rs).length k,.bool (Ap rs)])∧w'.ownsRow w.heap.size 3 1 (.slice a (A7 rs).length k) (A7 rs).length ((A7 rs).map (Value.int .i64))∧BW w w':=by
 obtain ⟨i0,hi,hz0,hz1,hz2⟩:=info_parts mG
 have HO0:Hid ((w.alloc (.cells #[] 3)).ownsRow w.heap.size 3 1 (.slice (some ⟨w.heap.size,0,none⟩) 0 0) 0 ((([]:Be).map Ae).map (Value.int .i64))):=by
  have h:=World.ownsRow_lit (base:=w.heap.size) (e:=3) (size:=1) w #[] 0 nL (by unfold maxLen;omega) rfl
  rw [Hid];simpa using h
 have HBA:Hid (Below w.heap.size w (w.alloc (.cells #[] 3))):=bR.alloc nL _;have HX:Hid (Bh w ao rs):=hz
 have HD:Hid (∀ k,k<rs.length→(Al rs k).length≤1048576):=fun k hk=>hd _ (F7 hk)
 clear hz hd
 go_enter func142,ntmps142
 go_wp2
 go_loopw [4,5] (fun s i wr=>∃ (v:Value) (k:Nat),v=s∧k≤rs.length∧i=.int .i64 (k:Int)∧(∀ j,j<k→0≤Ae (Al rs j))∧wr.ownsRow w.heap.size 3 1 v ((rs.take k).map Ae).length (((rs.take k).map Ae).map (Value.int .i64))∧BW w wr) (fun _ i _=>rs.length - (intOf i).toNat)
 case atStart=>exact ⟨_,0,rfl,Nat.zero_le _,rfl,fun j hj=>absurd hj (Nat.not_lt_zero _),HO0.o,HBA.o⟩
 case round =>
  obtain ⟨v,k,hvs,hk,rfl,hall,hown,hbr⟩:=hrel;subst hvs;have HBR:Hid (BW w wr):=hbr;have HALL:Hid (∀ j,j<k→0≤Ae (Al rs j)):=hall;have HSZ:Hid (w.heap.size≤wr.heap.size):=hbr.size
  have HLT:Hid (∀ j,v.ownBlock=some j→w.heap.size≤j):=fun j hj=>(hown.lt j hj).1
  have hml:((rs.take k).map Ae).length≤1048576:=by simp;omega
  by_cases hlt:k<rs.length
  ·have hki:(k:Int)<(rs.length:Int):=by omega
   obtain ⟨gb,off,rfl,hgb,hcell⟩:∃ gb off,ao=some ⟨gb,off,none⟩∧gb<wr.heap.size∧wr.cell? ⟨gb,off+k,none⟩=some (.string ⟨(Al rs k).toArray⟩):=by
    rcases HX.o.below hbr with h | ⟨gb,off,h1,h2,h3⟩
    ·rw [h] at hlt;simp at hlt
    ·exact ⟨gb,off,h1,h2,h3 k hlt⟩
   have HNX:Hid _:=Tm rs k hlt;have hrl:=HD.o k hlt;have hnb:=Ib (Al rs k);have HNO:Hid _:=@S0 rs k hlt
   have HNM:Hid (∀ u,Calls prog 140 #[.string ⟨(Al rs k).toArray⟩] u fun e w'=>e=.returned (.int .i64 (Ae (Al rs k)))∧w'=u):=fun u=>Ha _ u hrl
   have HAL2:Hid (0≤Ae (Al rs k)→∀ j,j<k+1→0≤Ae (Al rs j)):=fun h j hj=>by
    rcases (show j<k∨j=k by omega) with hj | rfl
    ·exact HALL.o j hj
    ·exact h
   obtain ⟨L,hL⟩:∃ L,(rs.take k).map Ae=L:=⟨_,rfl⟩;rw [hL] at HNX hown hml;obtain ⟨x,hx⟩:∃ x,Ae (Al rs k)=x:=⟨_,rfl⟩;rw [hx] at HNX HNM hnb HNO HAL2;obtain ⟨r,hr⟩:∃ r,Al rs k=r:=⟨_,rfl⟩;rw [hr] at hcell HNM hrl;have HO:Hid (wr.ownsRow w.heap.size 3 1 v L.length (L.map (Value.int .i64))):=hown;clear hL hx hr hown hbr hall HO0 HBA
   by_cases hxn:x<0
   ·have HE:Hid (Ap rs=false):=HNO.o hxn
    have HE2:Hid (A7 rs=[]):=if_neg (by rw [HE.o];decide)
    go_wp2_with (go_at_call 140;refine (HNM.o _).mono ?_;rintro e w' ⟨rfl,hw'⟩;replace hw':=hw'.symm;subst hw')
    go_ret2;rw [HE.o,HE2.o]
    exact ⟨_,_,rfl,by simpa using World.ownsRow_lit (base:=w.heap.size) (e:=3) (size:=1) wr #[] 0 HSZ.o (by unfold maxLen;omega) rfl,HBR.o.alloc HSZ.o _⟩
   ·go_wp2_with (first
      | (go_at_call 140;refine (HNM.o _).mono ?_;rintro e w' ⟨rfl,hw'⟩;replace hw':=hw'.symm;subst hw')
      | (at_builtin;refine wpList_append_own _ rfl (.tmp 22) (.tmp 24) 22 rfl w.heap.size 3 i0 (.int .i64 0) 1 8 underlying22 hi hz0 hz1 hz2 rfl (by decide) _ _ _ rfl (HO.o.alloc _) ⟨wr.heap.size,0,none⟩ 1 1 [.int .i64 x] rfl rfl (World.news_of_block (heap_alloc_new wr _)) (cJ _) (by unfold maxLen;omega) (by omega) (by simp;have:=HSZ.o;omega) ?_;intro v5 w5 o5 g5 _))
    have q5:BW w w5:=(HBR.o.alloc (by have:=HSZ.o;omega) _).grown g5 (by have:=HSZ.o;simp;omega) HLT.o
    have HR5:Hid (w5.ownsRow w.heap.size 3 1 v5 ((rs.take (k+1)).map Ae).length (((rs.take (k+1)).map Ae).map (Value.int .i64))):=by
     rw [Hid,HNX.o,List.length_append,List.map_append];exact o5
    clear o5 g5 hcell;go_wp2
    go_roundw
    case rel=>exact ⟨_,k+1,rfl,by omega,by go_num,HAL2.o (by omega),HR5.o,q5⟩
    case measure=>simp [intOf];omega
  ·have hke:k=rs.length:=by omega
   subst hke
   have hki:¬ (rs.length:Int)<(rs.length:Int):=by omega
   have HE:Hid (Ap rs=true):=Qe HALL.o;have HE2:Hid (A7 rs=rs.map Ae):=if_pos HE.o;rw [List.take_length] at hown;obtain ⟨L,hL⟩:∃ L,rs.map Ae=L:=⟨_,rfl⟩;rw [hL] at hown HE2;clear hL hml;obtain ⟨va,vk,hva⟩:=Fz hown;subst hva;have HO:Hid _:=hown;clear hbr hown hall;go_wp2;go_ret2;rw [HE.o,HE2.o];exact ⟨va,vk,rfl,HO.o,HBR.o⟩
def Dm:Be:=[[97,115,107],[103,105,118,101],[99,104,97,114,103,101],[97,110,115,119,101,114],[115,101,99,111,110,100],[97,99,99,101,112,116],[114,101,102,117,115,101],[114,117,108,101],[101,120,112,105,114,101],[99,108,111,115,101]]
def Dh (s:List UInt8):Be→Nat→Int
 | [],_=>-1
 | r::t,k=>if r=s then (k:Int) else Dh s t (k+1)
def Bz (s:List UInt8):Int:=Dh s Dm 0
theorem Sz (s:List UInt8) (rs:Be) (k:Nat) (h:k<rs.length):Dh s (rs.drop k) k=if Al rs k=s then (k:Int) else Dh s (rs.drop (k+1)) (k+1):=by
 have e:Al rs k=rs[k]:=by simp [Al,List.getD_eq_getElem?_getD,h]
 rw [List.drop_eq_getElem_cons h,e];rfl
theorem Ol (s:List UInt8):∀ (rs:Be) (k:Nat),-1≤Dh s rs k∧Dh s rs k<(k+rs.length:Nat)
 | [],k=>by simp [Dh];omega
 | r::t,k=>by
  have:=Ol s t (k+1)
  unfold Dh
  split
  ·simp;omega
  ·simp at this ⊢;omega
theorem lS (s:List UInt8):-1≤Bz s∧Bz s<10:=Ol s Dm 0
theorem dL (w:World) :
  Calls prog 135 #[] w fun e w'=>e=.returned (.slice (some ⟨w.heap.size,0,none⟩) 10 10)∧(∀ k,k<10→w'.cell? ⟨w.heap.size,k,none⟩=some (.string ⟨(Al Dm k).toArray⟩))∧BW w w':=by
 go_enter func135,ntmps135
 go_wp2;go_ret
 refine ⟨rfl,fun k hk=>?_,bR.alloc nL _⟩
 rcases (show k=0∨k=1∨k=2∨k=3∨k=4∨k=5∨k=6∨k=7∨k=8∨k=9 by omega) with rfl | rfl | rfl | rfl | rfl | rfl | rfl | rfl | rfl | rfl <;> simp [Al,Dm]
theorem Tl (s:List UInt8) (w:World) (hl:s.length≤1048576) :
  Calls prog 145 #[.string ⟨s.toArray⟩] w fun e w'=>e=.returned (.int .i64 (Bz s))∧BW w w':=by
 have HK:Hid (Bz s=Dh s (Dm.drop 0) 0):=rfl
 go_enter func145,ntmps145
 go_wp2
 go_loopw [3] (fun i wr=>∃ (k:Nat),k≤10∧i=.int .i64 (k:Int)∧Bz s=Dh s (Dm.drop k) k∧BW w wr) (fun i _=>10 - (intOf i).toNat)
 case atStart=>exact ⟨0,Nat.zero_le _,rfl,HK.o,bR⟩
 case round =>
  obtain ⟨k,hk,rfl,hkw,hbr⟩:=hrel;have HBR:Hid (BW w wr):=hbr
  by_cases hlt:k<10
  ·have hki:(k:Int)<10:=by omega
   have hst:=Sz s Dm k hlt
   have HA:Hid (Calls prog 135 #[] wr fun e w'=>e=.returned (.slice (some ⟨wr.heap.size,0,none⟩) 10 10)∧w'.cell? ⟨wr.heap.size,k,none⟩=some (.string ⟨(Al Dm k).toArray⟩)∧BW wr w'):=(dL wr).mono fun e w' h=>⟨h.1,h.2.1 k hlt,h.2.2⟩
   obtain ⟨r,hr⟩:∃ r,Al Dm k=r:=⟨_,rfl⟩;rw [hr] at hst HA;clear hr hbr HK
   by_cases hrs:r=s
   ·subst hrs
    rw [if_pos rfl] at hst;have HE:Hid (Bz r=(k:Int)):=hkw.trans hst;clear hst hkw;go_wp2_with fail
    refine HA.o.mono ?_;rintro e w2 ⟨rfl,c2,b2⟩;have HB2:Hid (BW w w2):=next HBR.o b2;clear b2 HA;go_wp2;go_ret;exact ⟨Af HE.o.symm,HB2.o⟩
   ·rw [if_neg hrs] at hst
    have HE:Hid (Bz s=Dh s (Dm.drop (k+1)) (k+1)):=hkw.trans hst
    have hds:(r == s)=false:=by simpa using hrs
    clear hst hkw;go_wp2_with fail
    refine HA.o.mono ?_;rintro e w2 ⟨rfl,c2,b2⟩;have HB2:Hid (BW w w2):=next HBR.o b2;clear b2 HA;go_wp2
    go_roundw
    case rel=>exact ⟨k+1,by omega,by go_num,HE.o,HB2.o⟩
    case measure=>simp [intOf];omega
  ·have hke:k=10:=by omega
   subst hke;have HE:Hid (Bz s = -1):=hkw;clear hbr hkw;go_wp2;go_ret;exact ⟨Af HE.o.symm,HBR.o⟩
end Go.Proofs.YtomiclakhjncbaaGreatDoor
