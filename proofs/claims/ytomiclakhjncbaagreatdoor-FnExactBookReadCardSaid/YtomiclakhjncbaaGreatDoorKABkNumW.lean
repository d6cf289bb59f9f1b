import Derived.Test.YtomiclakhjncbaaGreatDoorJA1a
import Derived.Test.YtomiclakhjncbaaGreatDoorJA0a
namespace Go.Proofs.YtomiclakhjncbaaGreatDoor
open Go.RowKit
set_option maxRecDepth 100000
set_option maxHeartbeats 12800000
def numW (s:List UInt8):Int:=if s=[]∨15<s.length then -1 else if numOf s<0∨Lib.decDigits (numOf s).toNat≠s then -1 else numOf s
theorem numW_e:numW [] = -1:=by simp [numW]
theorem numW_l {s:List UInt8} (h:15<s.length):numW s = -1:=if_pos (.inr h)
theorem numW_n {s:List UInt8} (h0:s≠[]) (h1:¬ 15<s.length) (h:numOf s<0):numW s = -1:=by rw [numW,if_neg (by rintro (h | h);exact h0 h;exact h1 h),if_pos (.inl h)]
theorem numW_d {s:List UInt8} (h0:s≠[]) (h1:¬ 15<s.length) (h:Lib.decDigits (numOf s).toNat≠s):numW s = -1:=by rw [numW,if_neg (by rintro (h | h);exact h0 h;exact h1 h),if_pos (.inr h)]
theorem numW_y {s:List UInt8} (h0:s≠[]) (h1:¬ 15<s.length) (h2:¬ numOf s<0) (h:Lib.decDigits (numOf s).toNat=s):numW s=numOf s:=by rw [numW,if_neg (by rintro (h | h);exact h0 h;exact h1 h),if_neg (by rintro (h' | h');exact h2 h';exact h' h)]
theorem numW_bd (s:List UInt8):-1≤numW s∧numW s<1000000000000000000:=by
 have:=numOf_bd s
 unfold numW
 split
 ·omega
 ·split
  ·omega
  ·omega
theorem sNumW_any (s:List UInt8) (w:World) (hl:s.length≤1048576) :
  Calls Tryz.prog 140 #[.string ⟨s.toArray⟩] w fun e w'=>e=.returned (.int .i64 (numW s))∧w'=w:=by
 by_cases h0:s=[]
 ·subst h0
  have HE:Hid _:=numW_e
  go_enter Tryz.func140,Tryz.ntmps140
  go_wp2
  go_ret
  exact ⟨one_int HE.out.symm,rfl⟩
 have hie:s.isEmpty=false:=by cases s with
  | nil=>exact absurd rfl h0
  | cons a t=>rfl
 by_cases h1:15<s.length
 ·have HE:Hid _:=numW_l h1
  have h1':(15:Int)<(s.length:Int):=by omega
  go_enter Tryz.func140,Tryz.ntmps140
  go_wp2
  go_ret
  exact ⟨one_int HE.out.symm,rfl⟩
 have h1':¬ (15:Int)<(s.length:Int):=by omega
 have HN:Hid (∀ u,Calls Tryz.prog 177 #[.string ⟨s.toArray⟩] u fun e w'=>e=.returned (.int .i64 (numOf s))∧w'=u):=fun u=>Tg.sNumOf_any s u (by omega)
 have hbd:=numOf_bd s
 by_cases h2:numOf s<0
 ·have HE:Hid _:=numW_n h0 h1 h2
  obtain ⟨n,hn⟩:∃ n,numOf s=n:=⟨_,rfl⟩
  rw [hn] at HN h2 hbd
  clear hn h1
  go_enter Tryz.func140,Tryz.ntmps140
  go_wp2_with (go_at_call 177;refine (HN.out _).mono ?_;rintro e w' ⟨rfl,rfl⟩)
  go_ret
  exact ⟨one_int HE.out.symm,rfl⟩
 obtain ⟨m,hm⟩:=Int.eq_ofNat_of_zero_le (show 0≤numOf s by omega)
 have HD:Hid (∀ u,Calls Tryz.prog 72 #[.int .i64 (m:Int)] u fun e w'=>e=.returned (.string ⟨(Lib.decDigits m).toArray⟩)∧w'=u):=fun u=>Tg.dec_up m u (by omega)
 by_cases h3:Lib.decDigits m=s
 ·have HE:Hid (numW s=(m:Int)):=by rw [Hid,numW_y h0 h1 h2 (by rw [hm];exact h3),hm]
  rw [hm] at HN h2 hbd
  rw [h3] at HD
  clear h1 h3
  have hmm:¬ (m:Int)<0:=by omega
  go_enter Tryz.func140,Tryz.ntmps140
  go_wp2_with (first | (go_at_call 177;refine (HN.out _).mono ?_;rintro e w' ⟨rfl,rfl⟩) | (go_at_call 72;refine (HD.out _).mono ?_;rintro e w' ⟨rfl,rfl⟩))
  go_ret
  exact ⟨one_int HE.out.symm,rfl⟩
 ·have HE:Hid (numW s = -1):=numW_d h0 h1 (by rw [hm];exact h3)
  rw [hm] at HN h2 hbd
  clear h1
  obtain ⟨D,hD⟩:∃ D,Lib.decDigits m=D:=⟨_,rfl⟩
  rw [hD] at HD h3
  have hds:(D == s)=false:=by simpa using h3
  clear hD
  have hmm:¬ (m:Int)<0:=by omega
  go_enter Tryz.func140,Tryz.ntmps140
  go_wp2_with (first | (go_at_call 177;refine (HN.out _).mono ?_;rintro e w' ⟨rfl,rfl⟩) | (go_at_call 72;refine (HD.out _).mono ?_;rintro e w' ⟨rfl,rfl⟩))
  go_ret
  exact ⟨one_int HE.out.symm,rfl⟩
def numsOk (rs:Recs):Bool:=rs.all fun r=>decide (0≤numW r)
def numsV (rs:Recs):List Int:=if numsOk rs=true then rs.map numW else []
theorem numsOk_no {rs:Recs} {k:Nat} (h:k<rs.length) (hn:numW (nth rs k)<0):numsOk rs=false:=by
 cases e:numsOk rs
 ·rfl
 ·have h1:=List.all_eq_true.1 e (nth rs k) (nth_mem h)
  have h2:0≤numW (nth rs k):=by simpa using h1
  omega
theorem numsOk_yes {rs:Recs} (h:∀ k,k<rs.length→0≤numW (nth rs k)):numsOk rs=true:=by
 refine List.all_eq_true.2 fun r hr=>?_
 obtain ⟨k,hk,rfl⟩:=List.getElem_of_mem hr
 have:=h k hk
 simpa [nth,List.getD_eq_getElem?_getD,hk] using this
theorem nums_next (rs:Recs) (k:Nat) (h:k<rs.length):(rs.take (k+1)).map numW=(rs.take k).map numW++[numW (nth rs k)]:=by
 have e:nth rs k=rs[k]:=by simp [nth,List.getD_eq_getElem?_getD,h]
 rw [List.take_succ_eq_append_getElem h,List.map_append,e];rfl
theorem infoI2:(Tryz.prog.info? 3).map (fun i=>(i.zero,i.size,i.bytes))=some (some (.int .i64 0),1,8):=by kernel_rfl
theorem one_nu2 (x:Int):∀ u ∈ [Value.int .i64 x],u.oneCell'=true:=by
 intro u hu
 rw [List.mem_singleton.1 hu];rfl
theorem sNums_any (ao:Option Addr) (cap:Nat) (rs:Recs) (w:World) (hz:TxtsAt w ao rs) (hn:rs.length≤1048576) (hd:∀ r ∈ rs,r.length≤1048576) :
  Calls Tryz.prog 142 #[.slice ao rs.length cap] w fun e w'=>∃ a k,e=.returned (.tuple #[.slice a (numsV rs).length k,.bool (numsOk rs)])∧w'.ownsRow w.heap.size 3 1 (.slice a (numsV rs).length k) (numsV rs).length ((numsV rs).map (Value.int .i64))∧Below w.heap.size w w':=by
 obtain ⟨i0,hi,hz0,hz1,hz2⟩:=info_parts infoI2
 have HO0:Hid ((w.alloc (.cells #[] 3)).ownsRow w.heap.size 3 1 (.slice (some ⟨w.heap.size,0,none⟩) 0 0) 0 ((([]:Recs).map numW).map (Value.int .i64))):=by
  have h:=World.ownsRow_lit (base:=w.heap.size) (e:=3) (size:=1) w #[] 0 (Nat.le_refl _) (by unfold maxLen;omega) rfl
  rw [Hid];simpa using h
 have HBA:Hid (Below w.heap.size w (w.alloc (.cells #[] 3))):=(Below.refl _ _).alloc (Nat.le_refl _) _
 have HX:Hid (TxtsAt w ao rs):=hz
 have HD:Hid (∀ k,k<rs.length→(nth rs k).length≤1048576):=fun k hk=>hd _ (nth_mem hk)
 clear hz hd
 go_enter Tryz.func142,Tryz.ntmps142
 go_wp2
 go_loopw [4,5] (fun s i wr=>∃ (v:Value) (k:Nat),v=s∧k≤rs.length∧i=.int .i64 (k:Int)∧(∀ j,j<k→0≤numW (nth rs j))∧wr.ownsRow w.heap.size 3 1 v ((rs.take k).map numW).length (((rs.take k).map numW).map (Value.int .i64))∧Below w.heap.size w wr) (fun _ i _=>rs.length - (intOf i).toNat)
 case atStart=>exact ⟨_,0,rfl,Nat.zero_le _,rfl,fun j hj=>absurd hj (Nat.not_lt_zero _),HO0.out,HBA.out⟩
 case round =>
  obtain ⟨v,k,hvs,hk,rfl,hall,hown,hbr⟩:=hrel
  subst hvs
  have HBR:Hid (Below w.heap.size w wr):=hbr
  have HALL:Hid (∀ j,j<k→0≤numW (nth rs j)):=hall
  have HSZ:Hid (w.heap.size≤wr.heap.size):=hbr.size
  have HLT:Hid (∀ j,v.ownBlock=some j→w.heap.size≤j):=fun j hj=>(hown.lt j hj).1
  have hml:((rs.take k).map numW).length≤1048576:=by simp;omega
  by_cases hlt:k<rs.length
  ·have hki:(k:Int)<(rs.length:Int):=by omega
   obtain ⟨gb,off,rfl,hgb,hcell⟩:∃ gb off,ao=some ⟨gb,off,none⟩∧gb<wr.heap.size∧wr.cell? ⟨gb,off+k,none⟩=some (.string ⟨(nth rs k).toArray⟩):=by
    rcases HX.out.below hbr with h | ⟨gb,off,h1,h2,h3⟩
    ·rw [h] at hlt;simp at hlt
    ·exact ⟨gb,off,h1,h2,h3 k hlt⟩
   have HNX:Hid _:=nums_next rs k hlt
   have hrl:=HD.out k hlt
   have hnb:=numW_bd (nth rs k)
   have HNO:Hid _:=@numsOk_no rs k hlt
   have HNM:Hid (∀ u,Calls Tryz.prog 140 #[.string ⟨(nth rs k).toArray⟩] u fun e w'=>e=.returned (.int .i64 (numW (nth rs k)))∧w'=u):=fun u=>sNumW_any _ u hrl
   have HAL2:Hid (0≤numW (nth rs k)→∀ j,j<k+1→0≤numW (nth rs j)):=fun h j hj=>by
    rcases (show j<k∨j=k by omega) with hj | rfl
    ·exact HALL.out j hj
    ·exact h
   obtain ⟨L,hL⟩:∃ L,(rs.take k).map numW=L:=⟨_,rfl⟩
   rw [hL] at HNX hown hml
   obtain ⟨x,hx⟩:∃ x,numW (nth rs k)=x:=⟨_,rfl⟩
   rw [hx] at HNX HNM hnb HNO HAL2
   obtain ⟨r,hr⟩:∃ r,nth rs k=r:=⟨_,rfl⟩
   rw [hr] at hcell HNM hrl
   have HO:Hid (wr.ownsRow w.heap.size 3 1 v L.length (L.map (Value.int .i64))):=hown
   clear hL hx hr hown hbr hall HO0 HBA
   by_cases hxn:x<0
   ·have HE:Hid (numsOk rs=false):=HNO.out hxn
    have HE2:Hid (numsV rs=[]):=if_neg (by rw [HE.out];decide)
    go_wp2_with (go_at_call 140;refine (HNM.out _).mono ?_;rintro e w' ⟨rfl,hw'⟩;replace hw':=hw'.symm;subst hw')
    go_ret2
    rw [HE.out,HE2.out]
    exact ⟨_,_,rfl,by simpa using World.ownsRow_lit (base:=w.heap.size) (e:=3) (size:=1) wr #[] 0 HSZ.out (by unfold maxLen;omega) rfl,HBR.out.alloc HSZ.out _⟩
   ·go_wp2_with (first
      | (go_at_call 140;refine (HNM.out _).mono ?_;rintro e w' ⟨rfl,hw'⟩;replace hw':=hw'.symm;subst hw')
      | (at_builtin;refine wpList_append_own _ rfl (.tmp 22) (.tmp 24) 22 rfl w.heap.size 3 i0 (.int .i64 0) 1 8 Tryz.underlying22 hi hz0 hz1 hz2 rfl (by decide) _ _ _ rfl (HO.out.alloc _) ⟨wr.heap.size,0,none⟩ 1 1 [.int .i64 x] rfl rfl (World.news_of_block (heap_alloc_new wr _)) (one_nu2 _) (by unfold maxLen;omega) (by omega) (by simp;have:=HSZ.out;omega) ?_;intro v5 w5 o5 g5 _))
    have q5:Below w.heap.size w w5:=(HBR.out.alloc (by have:=HSZ.out;omega) _).grown g5 (by have:=HSZ.out;simp;omega) HLT.out
    have HR5:Hid (w5.ownsRow w.heap.size 3 1 v5 ((rs.take (k+1)).map numW).length (((rs.take (k+1)).map numW).map (Value.int .i64))):=by
     rw [Hid,HNX.out,List.length_append,List.map_append];exact o5
    clear o5 g5 hcell
    go_wp2
    go_roundw
    case rel=>exact ⟨_,k+1,rfl,by omega,by go_num,HAL2.out (by omega),HR5.out,q5⟩
    case measure=>simp [intOf];omega
  ·have hke:k=rs.length:=by omega
   subst hke
   have hki:¬ (rs.length:Int)<(rs.length:Int):=by omega
   have HE:Hid (numsOk rs=true):=numsOk_yes HALL.out
   have HE2:Hid (numsV rs=rs.map numW):=if_pos HE.out
   rw [List.take_length] at hown
   obtain ⟨L,hL⟩:∃ L,rs.map numW=L:=⟨_,rfl⟩
   rw [hL] at hown HE2
   clear hL hml
   obtain ⟨va,vk,hva⟩:=own_shape hown
   subst hva
   have HO:Hid _:=hown
   clear hbr hown hall
   go_wp2
   go_ret2
   rw [HE.out,HE2.out]
   exact ⟨va,vk,rfl,HO.out,HBR.out⟩
def actsW:Recs:=[[97,115,107],[103,105,118,101],[99,104,97,114,103,101],[97,110,115,119,101,114],[115,101,99,111,110,100],[97,99,99,101,112,116],[114,101,102,117,115,101],[114,117,108,101],[101,120,112,105,114,101],[99,108,111,115,101]]
def kindFrom (s:List UInt8):Recs→Nat→Int
 | [],_=>-1
 | r::t,k=>if r=s then (k:Int) else kindFrom s t (k+1)
def kindW (s:List UInt8):Int:=kindFrom s actsW 0
theorem kind_step (s:List UInt8) (rs:Recs) (k:Nat) (h:k<rs.length):kindFrom s (rs.drop k) k=if nth rs k=s then (k:Int) else kindFrom s (rs.drop (k+1)) (k+1):=by
 have e:nth rs k=rs[k]:=by simp [nth,List.getD_eq_getElem?_getD,h]
 rw [List.drop_eq_getElem_cons h,e];rfl
theorem kindFrom_bd (s:List UInt8):∀ (rs:Recs) (k:Nat),-1≤kindFrom s rs k∧kindFrom s rs k<(k+rs.length:Nat)
 | [],k=>by simp [kindFrom];omega
 | r::t,k=>by
  have:=kindFrom_bd s t (k+1)
  unfold kindFrom
  split
  ·simp;omega
  ·simp at this ⊢;omega
theorem kindW_bd (s:List UInt8):-1≤kindW s∧kindW s<10:=kindFrom_bd s actsW 0
theorem sActs_any (w:World) :
  Calls Tryz.prog 135 #[] w fun e w'=>e=.returned (.slice (some ⟨w.heap.size,0,none⟩) 10 10)∧(∀ k,k<10→w'.cell? ⟨w.heap.size,k,none⟩=some (.string ⟨(nth actsW k).toArray⟩))∧Below w.heap.size w w':=by
 go_enter Tryz.func135,Tryz.ntmps135
 go_wp2
 go_ret
 refine ⟨rfl,fun k hk=>?_,(Below.refl _ _).alloc (Nat.le_refl _) _⟩
 rcases (show k=0∨k=1∨k=2∨k=3∨k=4∨k=5∨k=6∨k=7∨k=8∨k=9 by omega) with rfl | rfl | rfl | rfl | rfl | rfl | rfl | rfl | rfl | rfl <;> simp [nth,actsW]
theorem sKind_any (s:List UInt8) (w:World) (hl:s.length≤1048576) :
  Calls Tryz.prog 145 #[.string ⟨s.toArray⟩] w fun e w'=>e=.returned (.int .i64 (kindW s))∧Below w.heap.size w w':=by
 have HK:Hid (kindW s=kindFrom s (actsW.drop 0) 0):=rfl
 go_enter Tryz.func145,Tryz.ntmps145
 go_wp2
 go_loopw [3] (fun i wr=>∃ (k:Nat),k≤10∧i=.int .i64 (k:Int)∧kindW s=kindFrom s (actsW.drop k) k∧Below w.heap.size w wr) (fun i _=>10 - (intOf i).toNat)
 case atStart=>exact ⟨0,Nat.zero_le _,rfl,HK.out,Below.refl _ _⟩
 case round =>
  obtain ⟨k,hk,rfl,hkw,hbr⟩:=hrel
  have HBR:Hid (Below w.heap.size w wr):=hbr
  by_cases hlt:k<10
  ·have hki:(k:Int)<10:=by omega
   have hst:=kind_step s actsW k hlt
   have HA:Hid (Calls Tryz.prog 135 #[] wr fun e w'=>e=.returned (.slice (some ⟨wr.heap.size,0,none⟩) 10 10)∧w'.cell? ⟨wr.heap.size,k,none⟩=some (.string ⟨(nth actsW k).toArray⟩)∧Below wr.heap.size wr w'):=(sActs_any wr).mono fun e w' h=>⟨h.1,h.2.1 k hlt,h.2.2⟩
   obtain ⟨r,hr⟩:∃ r,nth actsW k=r:=⟨_,rfl⟩
   rw [hr] at hst HA
   clear hr hbr HK
   by_cases hrs:r=s
   ·subst hrs
    rw [if_pos rfl] at hst
    have HE:Hid (kindW r=(k:Int)):=hkw.trans hst
    clear hst hkw
    go_wp2_with fail
    refine HA.out.mono ?_
    rintro e w2 ⟨rfl,c2,b2⟩
    have HB2:Hid (Below w.heap.size w w2):=next HBR.out b2
    clear b2 HA
    go_wp2
    go_ret
    exact ⟨one_int HE.out.symm,HB2.out⟩
   ·rw [if_neg hrs] at hst
    have HE:Hid (kindW s=kindFrom s (actsW.drop (k+1)) (k+1)):=hkw.trans hst
    have hds:(r == s)=false:=by simpa using hrs
    clear hst hkw
    go_wp2_with fail
    refine HA.out.mono ?_
    rintro e w2 ⟨rfl,c2,b2⟩
    have HB2:Hid (Below w.heap.size w w2):=next HBR.out b2
    clear b2 HA
    go_wp2
    go_roundw
    case rel=>exact ⟨k+1,by omega,by go_num,HE.out,HB2.out⟩
    case measure=>simp [intOf];omega
  ·have hke:k=10:=by omega
   subst hke
   have HE:Hid (kindW s = -1):=hkw
   clear hbr hkw
   go_wp2
   go_ret
   exact ⟨one_int HE.out.symm,HBR.out⟩
end Go.Proofs.YtomiclakhjncbaaGreatDoor
