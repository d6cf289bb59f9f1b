import Derived.Test.YtomiclakhjncbaaGreatDoorKAKbDo
import Derived.Test.YtomiclakhjncbaaGreatDoorKAKbAct
import Derived.Test.YtomiclakhjncbaaGreatDoorKAKbHand
import Derived.Test.YtomiclakhjncbaaGreatDoorKAFDis5
import Derived.Test.YtomiclakhjncbaaGreatDoorJA4a
namespace Go.Proofs.YtomiclakhjncbaaGreatDoor.Kb
open Go.RowKit
set_option maxRecDepth 100000
set_option maxHeartbeats 12800000
theorem words_no {F:Fns} {b:Bk} {ws:Recs} {r:Bk×Int} (h:WordsI F b ws r) (hc:r.2≠0):r.1=b:=by
 unfold WordsI at h
 split at h
 ·rw [h] at hc ⊢;unfold dayR dayB at hc ⊢;split at hc
  ·split at hc
   ·exact absurd rfl hc
   ·rw [if_pos ‹_›,if_neg ‹_›]
  ·rw [if_neg ‹_›]
 split at h
 ·rw [h] at hc ⊢;unfold authR authB at hc ⊢;split at hc
  ·split at hc
   ·exact absurd rfl hc
   ·rw [if_pos ‹_›,if_neg ‹_›]
  ·rw [if_neg ‹_›]
 split at h
 ·unfold PayRl at h
  split at h
  ·obtain ⟨x,-,rfl⟩:=h
   unfold payB at hc ⊢
   split at hc
   ·rw [if_pos ‹_›]
   rw [if_neg ‹_›]
   split at hc
   ·rw [if_pos ‹_›]
   rw [if_neg ‹_›]
   split at hc
   ·rw [if_pos ‹_›]
   rw [if_neg ‹_›]
   split at hc
   ·rw [if_pos ‹_›]
   ·exact absurd rfl hc
  ·rw [h]
 split at h
 ·rw [h] at hc ⊢;unfold actR at hc ⊢;split at hc
  ·rw [if_pos ‹_›]
   unfold actB at hc ⊢
   split at hc
   ·rw [if_pos ‹_›]
   rw [if_neg ‹_›]
   split at hc
   ·rw [if_pos ‹_›]
   rw [if_neg ‹_›]
   split at hc
   ·rw [if_pos ‹_›]
   ·exact absurd rfl hc
  ·rw [if_neg ‹_›]
 ·rw [h]
theorem do_no {F:Fns} {b:Bk} {l:List UInt8} {r:Bk×Int} (h:DoRl F b l r) (hc:r.2≠0):r.1=b:=by
 unfold DoRl at h
 split at h
 ·rw [h]
 ·obtain ⟨r0,h0,rfl⟩:=h
  split at hc
  ·exact absurd rfl hc
  ·rw [if_neg ‹_›];exact words_no h0 hc
def Did (F:Fns):Bk→Recs→Bk→Prop
 | b,[],b'=>b'=b
 | b,l::ls,b'=>∃ b1,DoRl F b l (b1,0)∧Did F b1 ls b'
theorem did_snoc {F:Fns} {l:List UInt8} {b1 b2:Bk} : ∀ {b:Bk} {ls:Recs},Did F b ls b1→DoRl F b1 l (b2,0)→Did F b (ls++[l]) b2
 | b,[],h,hd=>by
  rw [Did] at h
  subst h
  exact ⟨b2,hd,by rw [Did]⟩
 | b,x::xs,h,hd=>by
  obtain ⟨b3,h3,h4⟩:=h
  exact ⟨b3,h3,did_snoc h4 hd⟩
theorem txts_under {w w':World} {B:Nat} {ao:Option Addr} {rs:Recs} (h:TxtsAt w ao rs) (ha:rs≠[]→∀ x,ao=some x→x.block<B) (hb:Below B w w'):TxtsAt w' ao rs:=by
 rcases h with h | ⟨g,off,rfl,h2,h3⟩
 ·exact .inl h
 ·by_cases hr:rs=[]
  ·exact .inl hr
  have hl:g<B:=ha hr ⟨g,off,none⟩ rfl
  exact .inr ⟨g,off,rfl,Nat.lt_of_lt_of_le h2 hb.size,fun i hi=>(hb.cell (p:=⟨g,off+i,none⟩) hl).trans (h3 i hi)⟩
def UnR (B K:Nat) (F:Fns) (J:Bk→Prop) (b:Bk) (rs:Recs) (w:World) (e:Ending) (w':World):Prop :=
 ∃ (n:Nat) (b':Bk) (q:Bp),e=.returned (.int .i64 (n:Int))∧n≤rs.length∧Did F b (rs.take n) b'∧(n<rs.length→∃ r,DoRl F b' (nth rs n) r∧r.2≠0)∧J b'∧KS B K 0 b' q w'∧Below B w w'
theorem takeNth (rs:Recs) (k:Nat) (h:k<rs.length):rs.take (k+1)=rs.take k++[nth rs k]:=by
 rw [List.take_succ_eq_append_getElem h]
 congr 2
 simp [nth,h]
theorem iUntil_any {F:Fns} {E:World→Prop} {G B K:Nat} (KI:KnI F E G) (hGB:G≤B) {J:Bk→Prop} (hJP:∀ b,J b→PreI b) (hJS:∀ b l b2,l.length<1048576→J b→DoRl F b l (b2,0)→J b2) (b:Bk) (q:Bp) (ao:Option Addr) (cap:Nat) (rs:Recs) (w:World) (hk:KS B K 0 b q w) (hE:E w) (hJ:J b) (hz:TxtsAt w ao rs) (ha:rs≠[]→∀ x,ao=some x→x.block<B) (hn:rs.length≤1048576) (hd:∀ r ∈ rs,r.length<1048576) :
  Calls Tryz.prog 51 #[.pointer (some ⟨K,0,none⟩),.slice ao rs.length cap] w (UnR B K F J b rs w):=by
 have HDO:Hid (∀ (k:Nat) (b':Bk) (q':Bp) (u:World),k<rs.length→J b'→KS B K 0 b' q' u→Below B w u→Calls Tryz.prog 83 #[.pointer (some ⟨K,0,none⟩),.string ⟨(nth rs k).toArray⟩] u (DoR B K F b' (nth rs k) u)):=fun k b' q' u hk hj ks hb=>iDo_any KI hGB (fun b q ao cap rs w h1 h2 h3 h4 h5=>iAct_any KI hGB b q ao cap rs w h1 h2 h3 h4 h5) b' q' _ u ks (KI.keep _ _ hE (hb.mono hGB)) (hJP _ hj) (hd _ (nth_mem hk))
 have HJS:Hid (∀ (k:Nat) (b1 b2:Bk),k<rs.length→J b1→DoRl F b1 (nth rs k) (b2,0)→J b2):=fun k b1 b2 hk h1 h2=>hJS _ _ _ (hd _ (nth_mem hk)) h1 h2
 have HZ:Hid (TxtsAt w ao rs):=hz
 have HAB:Hid (rs≠[]→∀ x,ao=some x→x.block<B):=ha
 have HK0:Hid (KS B K 0 b q w):=hk
 have HJ0:Hid (J b):=hJ
 have HD0:Hid (Did F b (rs.take 0) b):=by rw [Hid,List.take_zero,Did]
 have HB0:Hid (Below B w w):=Below.refl _ _
 clear KI hGB hJP hJS hk hE hJ hz ha hd
 go_enter Tryz.func51,Tryz.ntmps51
 go_wp2
 go_loopw [9] (fun i wr=>∃ (k:Nat) (b':Bk) (q':Bp),i=.int .i64 (k:Int)∧k≤rs.length∧Did F b (rs.take k) b'∧J b'∧KS B K 0 b' q' wr∧Below B w wr) (fun i _=>rs.length - (intOf i).toNat)
 case atStart=>exact ⟨0,b,q,rfl,Nat.zero_le _,HD0.out,HJ0.out,HK0.out,HB0.out⟩
 case round =>
  obtain ⟨k,b',q',rfl,hk,hdid,hj,hks,hbr⟩:=hrel
  have HDD:Hid (Did F b (rs.take k) b'):=hdid
  have HJJ:Hid (J b'):=hj
  have HKK:Hid (KS B K 0 b' q' wr):=hks
  have HBR:Hid (Below B w wr):=hbr
  clear hdid hj hks hbr
  by_cases hlt:k<rs.length
  ·have hki:(k:Int)<(rs.length:Int):=by omega
   obtain ⟨gb,off,rfl,hcell⟩:∃ gb off,ao=some ⟨gb,off,none⟩∧wr.cell? ⟨gb,off+k,none⟩=some (.string ⟨(nth rs k).toArray⟩):=by
    rcases txts_under HZ.out HAB.out HBR.out with h | ⟨gb,off,h1,h2,h3⟩
    ·rw [h] at hlt;simp at hlt
    ·exact ⟨gb,off,h1,h3 k hlt⟩
   have HCA:Hid (Calls Tryz.prog 83 #[.pointer (some ⟨K,0,none⟩),.string ⟨(nth rs k).toArray⟩] wr (DoR B K F b' (nth rs k) wr)):=HDO.out k b' q' wr hlt HJJ.out HKK.out HBR.out
   have HNX:Hid (∀ b2,DoRl F b' (nth rs k) (b2,0)→J b2∧Did F b (rs.take (k+1)) b2):=fun b2 h=>⟨HJS.out k b' b2 hlt HJJ.out h,by rw [takeNth rs k hlt];exact did_snoc HDD.out h⟩
   have HNO:Hid (∀ r,DoRl F b' (nth rs k) r→r.2≠0→r.1=b'):=fun r h hc=>do_no h hc
   have HRE:Hid (∀ (q2:Bp) (u:World) r,DoRl F b' (nth rs k) r→r.2≠0→KS B K 0 b' q2 u→Below B w u→UnR B K F J b rs w (.returned (.int .i64 (k:Int))) u):=fun q2 u r h hc ks hb=>⟨k,b',q2,rfl,hk,HDD.out,fun _=>⟨r,h,hc⟩,HJJ.out,ks,hb⟩
   obtain ⟨ln,hln⟩:∃ x,nth rs k=x:=⟨_,rfl⟩
   rw [hln] at hcell HCA HNX HNO HRE
   clear hln
   go_wp2_with fail
   refine Calls.mono HCA.out ?_
   rintro e w2 ⟨⟨b2,c2⟩,q2,v,hr,rfl,hv,k2,p2⟩
   have HK2:Hid (KS B K 0 b2 q2 w2):=k2
   have HB2:Hid (Below B w w2):=HBR.out.trans p2
   clear k2 p2 hcell HCA
   simp only at hv
   rcases hv with ⟨hc,rfl⟩ | ⟨hc,y,rfl⟩
   ·subst hc
    obtain ⟨j2,d2⟩:=HNX.out b2 hr
    have HJ2:Hid (J b2):=j2
    have HD2:Hid (Did F b (rs.take (k+1)) b2):=d2
    clear j2 d2 hr
    go_wp2
    go_roundw
    case rel=>exact ⟨k+1,b2,q2,by go_num,by omega,HD2.out,HJ2.out,HK2.out,HB2.out⟩
    case measure=>simp [intOf];omega
   ·have HF:Hid (UnR B K F J b rs w (.returned (.int .i64 (k:Int))) w2):=by
      have e1:b2=b':=HNO.out _ hr hc
      have h:=HK2.out
      rw [e1] at h
      exact HRE.out q2 w2 _ hr hc h HB2.out
    clear hr hc
    go_wp2
    go_ret
    exact HF.out
  ·have hke:k=rs.length:=by omega
   subst hke
   have hki:¬ (rs.length:Int)<(rs.length:Int):=by omega
   have HF:Hid (UnR B K F J b rs w (.returned (.int .i64 (rs.length:Int))) wr):=⟨rs.length,b',q',rfl,Nat.le_refl _,HDD.out,fun h=>absurd h (Nat.lt_irrefl _),HJJ.out,HKK.out,HBR.out⟩
   go_wp2
   go_ret
   exact HF.out
end Go.Proofs.YtomiclakhjncbaaGreatDoor.Kb
namespace Go.Proofs.YtomiclakhjncbaaGreatDoor
open Go.RowKit
set_option maxRecDepth 100000
set_option maxHeartbeats 12800000
theorem hasProof_any {b:Nat} {ao:Option Addr} {cp:Nat} {zs:List Int} {a:Ac} {t:Int} {c:Cs} {v:Value} {w:World} (h:DS b ao cp zs a t c [] v w) :
  Calls Tryz.prog 333 #[.pointer (some ⟨b,0,none⟩)] w fun e w'=>e=.returned (.bool (copied c t))∧Below w.heap.size w w':=by
 have c9:=h.db.cb.f9
 have c4:=h.db.cb.f4
 simp only [Nat.zero_add] at c9 c4
 have HQ:Hid (Calls Tryz.prog 318 #[.pointer (some ⟨b,0,none⟩)] w fun e w'=>e=.returned (.bool (lateV t c.due))∧Below w.heap.size w w'):=isLate_any h
 obtain ⟨p,hp⟩:∃ p,c.cop=p:=⟨_,rfl⟩
 obtain ⟨s,hs⟩:∃ s,c.st=s:=⟨_,rfl⟩
 obtain ⟨l,hl⟩:∃ l,lateV t c.due=l:=⟨_,rfl⟩
 have HV:Hid (copied c t=(p || (decide (s=1) && l))):=by rw [Hid,copied,hp,hs,hl]
 rw [hp] at c9
 rw [hs] at c4
 rw [hl] at HQ
 clear h hp hs hl
 cases p
 ·by_cases h1:s=1
  ·have HE:Hid (copied c t=l):=by rw [Hid,HV.out,decide_eq_true h1,Bool.false_or,Bool.true_and]
   have h1':(s == 1)=true:=by simpa using h1
   clear h1
   go_enter Tryz.func333,Tryz.ntmps333
   go_wp2_with fail
   refine Calls.mono HQ.out ?_
   rintro e w1 ⟨rfl,b1⟩
   go_wp2
   go_ret
   exact ⟨one_bool HE.out.symm,b1⟩
  ·have HE:Hid (copied c t=false):=by rw [Hid,HV.out,decide_eq_false h1,Bool.false_or,Bool.false_and]
   have h1':=beq_no h1
   clear h1
   go_enter Tryz.func333,Tryz.ntmps333
   go_wp2
   go_ret
   exact ⟨one_bool HE.out.symm,Below.refl _ _⟩
 ·have HE:Hid (copied c t=true):=by rw [Hid,HV.out,Bool.true_or]
  go_enter Tryz.func333,Tryz.ntmps333
  go_wp2
  go_ret
  exact ⟨one_bool HE.out.symm,Below.refl _ _⟩
theorem chargeRef_any {b:Nat} {ao:Option Addr} {cp:Nat} {zs:List Int} {a:Ac} {t:Int} {c:Cs} {v:Value} {w:World} (h:DS b ao cp zs a t c [] v w) (hn:zs.length≤1099511627776) :
  Calls Tryz.prog 320 #[.pointer (some ⟨b,0,none⟩)] w fun e w'=>e=.returned (.int .i64 (chargeV c a t zs))∧Below w.heap.size w w':=by
 have c13:=h.db.a1
 have c14:=h.db.a2
 have HH:Hid (DS b ao cp zs a t c [] v w):=h
 obtain ⟨p,hp⟩:∃ p,(!rOk a.rsn || (rProof a.rsn && !copied c t))=p:=⟨_,rfl⟩
 obtain ⟨q,hq⟩:∃ q,(decide (a.am<1) || (decide (c.am<a.am) || (decide (a.am<c.am) && !rPart a.rsn)))=q:=⟨_,rfl⟩
 obtain ⟨l,hl⟩:∃ l,lateV t (dueV c.sta (rDays a.rsn) zs)=l:=⟨_,rfl⟩
 have HV:Hid _:=chargeV_is hp hq hl
 have HPP:Hid _:=hp
 have HQQ:Hid _:=hq
 have HLL:Hid _:=hl
 have HCO:Hid (∀ u,Below w.heap.size w u→Calls Tryz.prog 333 #[.pointer (some ⟨b,0,none⟩)] u fun e w'=>e=.returned (.bool (copied c t))∧Below u.heap.size u w'):=fun u hu=>hasProof_any (h.below hu)
 have HDU:Hid (∀ u,Below w.heap.size w u→Calls Tryz.prog 330 #[.int .i64 c.sta,.int .i64 (rDays a.rsn),.slice ao zs.length cp] u fun e w'=>e=.returned (.int .i64 (dueV c.sta (rDays a.rsn) zs))∧Below u.heap.size u w'):=fun u hu=>iDue_any c.sta (rDays a.rsn) ao cp zs u (h.below hu).offs hn
 clear h hp hq hl
 go_enter Tryz.func320,Tryz.ntmps320
 go_upto_region 1 with fail
 go_cut [3,4] (fun v3 v4 wc=>v3=.int .i64 a.am∧v4=.int .i64 a.rsn∧Below w.heap.size w wc)
 case first =>
  go_wp2
  go_quiet (fail)
  all_goals
   go_wp2_with fail
   go_meet
   exact ⟨rfl,rfl,below_drewN (Below.refl _ _) _⟩
 case rest =>
  obtain ⟨rfl,rfl,b0⟩:=hcut
  obtain ⟨u0,hu0⟩:∃ x,x=wc:=⟨_,rfl⟩
  subst hu0
  clear c13 c14
  have HB0:Hid (Below w.heap.size w u0):=b0
  clear b0
  go_upto_region 2 with fail
  go_cut [15] (fun v wc=>v=.bool p∧Below w.heap.size w wc)
  case first =>
   go_wp2_with fail
   refine (iROk_any a.rsn _).mono ?_
   rintro e u1 ⟨rfl,b1⟩
   have HB1:Hid (Below w.heap.size w u1):=next HB0.out b1
   clear b1
   cases h1:rOk a.rsn
   ·have HE:Hid (p=true):=by rw [Hid,← HPP.out,h1];rfl
    clear h1
    go_wp2
    go_meet
    exact ⟨by rw [HE.out],HB1.out⟩
   go_wp2_with fail
   refine (iRProof_any a.rsn _).mono ?_
   rintro e u2 ⟨rfl,b2⟩
   have HB2:Hid (Below w.heap.size w u2):=next HB1.out b2
   clear b2
   cases h2:rProof a.rsn
   ·have HE:Hid (p=false):=by rw [Hid,← HPP.out,h1,h2];rfl
    clear h1 h2
    go_wp2
    go_meet
    exact ⟨by rw [HE.out],HB2.out⟩
   go_wp2_with fail
   refine (HCO.out _ HB2.out).mono ?_
   rintro e u3 ⟨rfl,b3⟩
   have HB3:Hid (Below w.heap.size w u3):=next HB2.out b3
   clear b3
   have HE:Hid (p = !copied c t):=by rw [Hid,← HPP.out,h1,h2];rfl
   clear h1 h2
   go_wp2
   go_meet
   exact ⟨by rw [HE.out],HB3.out⟩
  case rest =>
   obtain ⟨rfl,b4⟩:=hcut
   obtain ⟨u4,hu4⟩:∃ x,x=wc:=⟨_,rfl⟩
   subst hu4
   have HB4:Hid (Below w.heap.size w u4):=b4
   clear b4 HB0
   cases p
   rotate_left
   ·have HE:Hid (chargeV c a t zs=3):=by rw [Hid,HV.out,if_pos rfl]
    go_wp2
    go_ret
    exact ⟨one_int HE.out.symm,HB4.out⟩
   have HV1:Hid (chargeV c a t zs=if q=true then 2 else if l=true then 4 else 0):=by rw [Hid,HV.out,if_neg (by decide)]
   have h4:=HH.out.below HB4.out
   have c3:=h4.db.cb.f3
   simp only [Nat.zero_add] at c3
   clear HV h4
   go_upto_region 4 with fail
   go_cut [28] (fun v wc=>v=.bool q∧Below w.heap.size w wc)
   case first =>
    have HQ2:Hid ((decide (a.am<1) || (decide (c.am<a.am) || (decide (a.am<c.am) && !rPart a.rsn)))=q):=HQQ.out
    by_cases h1:a.am<1
    ·have HE:Hid (q=true):=by rw [Hid,← HQ2.out,decide_eq_true h1];rfl
     go_wp2
     go_meet
     exact ⟨by rw [HE.out],HB4.out⟩
    by_cases h2:c.am<a.am
    ·have HE:Hid (q=true):=by rw [Hid,← HQ2.out,decide_eq_true h2];simp
     go_wp2
     go_meet
     exact ⟨by rw [HE.out],HB4.out⟩
    by_cases h3:a.am<c.am
    ·have HE:Hid (q = !rPart a.rsn):=by rw [Hid,← HQ2.out,decide_eq_false h1,decide_eq_false h2,decide_eq_true h3];rfl
     go_wp2_with fail
     refine (iRPart_any a.rsn _).mono ?_
     rintro e u5 ⟨rfl,b5⟩
     have HB5:Hid (Below w.heap.size w u5):=next HB4.out b5
     clear b5
     go_wp2
     go_meet
     exact ⟨by rw [HE.out],HB5.out⟩
    ·have HE:Hid (q=false):=by rw [Hid,← HQ2.out,decide_eq_false h1,decide_eq_false h2,decide_eq_false h3];rfl
     go_wp2
     go_meet
     exact ⟨by rw [HE.out],HB4.out⟩
   case rest =>
    obtain ⟨rfl,b5⟩:=hcut
    obtain ⟨u5,hu5⟩:∃ x,x=wc:=⟨_,rfl⟩
    subst hu5
    have HB5:Hid (Below w.heap.size w u5):=b5
    clear b5 c3 HB4
    cases q
    rotate_left
    ·have HE:Hid (chargeV c a t zs=2):=by rw [Hid,HV1.out,if_pos rfl]
     go_wp2
     go_ret
     exact ⟨one_int HE.out.symm,HB5.out⟩
    have HV2:Hid (chargeV c a t zs=if l=true then 4 else 0):=by rw [Hid,HV1.out,if_neg (by decide)]
    clear HV1
    have HAT:Hid (∀ u,Below w.heap.size w u→u.cell? ⟨b,15,none⟩=some (.int .i64 t)∧u.cell? ⟨b,10,none⟩=some (.int .i64 c.sta)∧u.cell? ⟨b,16,none⟩=some (.slice ao zs.length cp)):=fun u hu=>by
     have g:=HH.out.below hu
     have g10:=g.db.cb.f10
     simp only [Nat.zero_add] at g10
     exact ⟨g.db.td,g10,g.db.ho⟩
    obtain ⟨k15,k10,k16⟩:=HAT.out u5 HB5.out
    obtain ⟨n,hn'⟩:∃ n,rDays a.rsn=n:=⟨_,rfl⟩
    have HRD:Hid (∀ u,Calls Tryz.prog 335 #[.int .i64 a.rsn] u fun e w'=>e=.returned (.int .i64 n)∧Below u.heap.size u w'):=fun u=>by rw [← hn'];exact iRDays_any a.rsn u
    rw [hn'] at HDU HLL
    obtain ⟨dd,hdd⟩:∃ dd,dueV c.sta n zs=dd:=⟨_,rfl⟩
    rw [hdd] at HDU HLL
    have HLT:Hid (∀ u,Calls Tryz.prog 91 #[.int .i64 t,.int .i64 dd] u fun e w'=>e=.returned (.bool l)∧w'=u):=fun u=>by rw [← HLL.out];exact iLate_any t dd u
    clear hn' hdd
    have d5:Below w.heap.size w u5.drew:=HB5.out.drew
    go_upto_region 6 with fail
    go_cut [54] (fun v wc=>v=.bool l∧Below w.heap.size w wc)
    case first =>
     go_region_held3 (fun u=>u.cell? ⟨b,15,none⟩=some (.int .i64 t)∧u.cell? ⟨b,10,none⟩=some (.int .i64 c.sta)∧u.cell? ⟨b,16,none⟩=some (.slice ao zs.length cp)) (first | exact ⟨k15,k10,k16⟩ | exact HAT.out _ HB5.out | exact HAT.out _ d5 | exact HAT.out _ HB6.out | exact HAT.out _ HB7.out) ((first
      | (go_at_call 335;refine (HRD.out _).mono ?_;rintro e u6 ⟨rfl,b6⟩;(first | (have HB6:Hid (Below w.heap.size w u6):=next d5 b6) | (have HB6:Hid (Below w.heap.size w u6):=next HB5.out b6));clear b6)
      | (go_at_call 330;refine (HDU.out _ HB6.out).mono ?_;rintro e u7 ⟨rfl,b7⟩;(have HB7:Hid (Below w.heap.size w u7):=next HB6.out b7);clear b7)
      | (go_at_call 91;refine (HLT.out _).mono ?_;rintro e u8 ⟨rfl,hu8⟩;rw [hu8];clear hu8)))
     all_goals
      go_wp2_with fail
      go_meet
      exact ⟨rfl,HB7.out⟩
    case rest =>
     obtain ⟨rfl,b8⟩:=hcut
     clear k15 k10 k16
     cases l
     ·have HE:Hid (chargeV c a t zs=0):=by rw [Hid,HV2.out,if_neg (by decide)]
      go_wp2
      go_ret
      exact ⟨one_int HE.out.symm,b8⟩
     ·have HE:Hid (chargeV c a t zs=4):=by rw [Hid,HV2.out,if_pos rfl]
      go_wp2
      go_ret
      exact ⟨one_int HE.out.symm,b8⟩
end Go.Proofs.YtomiclakhjncbaaGreatDoor
