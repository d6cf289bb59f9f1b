import Derived.Test.YtomiclakhjncbaaGreatDoorJA7a
import Derived.Test.YtomiclakhjncbaaGreatDoorJA4a
import Derived.Laws.EntriesVeiled
namespace Go.Proofs.YtomiclakhjncbaaGreatDoor
open Go.RowKit
set_option maxRecDepth 100000
set_option maxHeartbeats 12800000
theorem charge_pos {c:Cs} {a:Ac} {t:Int} {zs:List Int} (h:chargeV c a t zs=0):1≤a.am∧a.am≤c.am:=by
 unfold chargeV at h
 split at h
 ·cases h
 ·split at h
  ·cases h
  ·rename_i g
   exact Decidable.byContradiction λk=>g (.inl k)
theorem charge_any {b:Nat} {ao:Option Addr} {cp:Nat} {zs:List Int} {a:Ac} {t:Int} {c:Cs} {v:Value} {w:World} (h:DS b ao cp zs a t c [] v w) (hn:zs.length≤1099511627776) :
  Calls Tryz.prog 290 #[.pointer (some ⟨b,0,none⟩)] w (DR b ao cp zs a t w (.int .i64 (chargeV c a t zs)) (if chargeV c a t zs=0 then ⟨c.iss,c.acq,c.cur,c.am,3,a.rsn,a.am,a.am,c.fee,c.cop,c.sta,dueV t 30 zs⟩ else c) (if chargeV c a t zs=0 then toIss c a.am else [])):=by
 have HH:Hid (DS b ao cp zs a t c [] v w):=h
 have HL:Hid (b<w.heap.size):=h.lt
 have HQ:Hid (Calls Tryz.prog 320 #[.pointer (some ⟨b,0,none⟩)] w λe w'=>e=.returned (.int .i64 (chargeV c a t zs))∧Below w.heap.size w w'):=chargeRef_any h hn
 have HP:Hid (chargeV c a t zs=0→1≤a.am∧a.am≤c.am):=charge_pos
 clear h
 obtain ⟨r,hr⟩:∃ r,chargeV c a t zs=r:=⟨_,rfl⟩
 rw [hr] at HQ HP ⊢
 clear hr
 by_cases h0:r=0
 ·subst h0
  rw [if_pos rfl,if_pos rfl]
  have hx:=HP.out rfl
  go_enter Tryz.func290,Tryz.ntmps290
  go_wp2_with fail
  refine Calls.mono HQ.out ?_
  rintro e w1 ⟨rfl,b1⟩
  have h:=HH.out.below b1
  have c14:=h.db.a2
  have c4:=h.db.cb.f4
  have c5:=h.db.cb.f5
  have z4:=h.db.fz.z4
  have z5:=h.db.fz.z5
  simp only [Nat.zero_add] at c4 c5 z4 z5
  obtain ⟨V,hV⟩:∃ V,V=(w1.setCell ⟨b,4,none⟩ (.int .i64 3)).setCell ⟨b,5,none⟩ (.int .i64 a.rsn):=⟨_,rfl⟩
  have HV:Hid (DS b ao cp zs a t ⟨c.iss,c.acq,c.cur,c.am,3,a.rsn,c.cl,c.bk,c.fee,c.cop,c.sta,c.due⟩ [] v V):=by rw [Hid,hV];exact (h.set4 3).set5 a.rsn
  have HBV:Hid (Below b w V):=by rw [Hid,hV];exact ((b1.mono (Nat.le_of_lt HL.out)).trans (bel_at _ _ 4 _)).trans (bel_at _ _ 5 _)
  have HVV:Hid _:=hV
  clear b1 h hV
  go_upto_region 5 with fail
  rw [← HVV.out]
  clear HVV c14 c4 c5 z4 z5
  have h:=HV.out
  have c13:=h.db.a1
  have c6:=h.db.cb.f6
  have c7:=h.db.cb.f7
  have z6:=h.db.fz.z6
  have z7:=h.db.fz.z7
  simp only [Nat.zero_add] at c6 c7 z6 z7
  clear h
  go_cut [2] (λv2 wc=>v2=.int .i64 0∧(∃ vv,DS b ao cp zs a t ⟨c.iss,c.acq,c.cur,c.am,3,a.rsn,a.am,a.am,c.fee,c.cop,c.sta,c.due⟩ [] vv wc)∧Below b w wc)
  case first =>
   go_region
   all_goals
    go_wp2_with fail
    go_meet
    refine ⟨rfl,⟨v,?_⟩,?_⟩
    ·first
       | exact (HV.out.set6 a.am).set7 a.am
       | exact ((HV.out.below ((Below.refl _ _).drew)).set6 a.am).set7 a.am
       | exact ((HV.out.set6 a.am).set7 a.am).below ((Below.refl _ _).drew)
    ·first
       | exact (HBV.out.trans (bel_at _ _ 6 _)).trans (bel_at _ _ 7 _)
       | exact ((HBV.out.drew).trans (bel_at _ _ 6 _)).trans (bel_at _ _ 7 _)
       | exact ((HBV.out.trans (bel_at _ _ 6 _)).trans (bel_at _ _ 7 _)).drew
  case rest =>
   obtain ⟨rfl,⟨v2,D2⟩,b2⟩:=hcut
   obtain ⟨U,hU⟩:∃ x,x=wc:=⟨_,rfl⟩
   subst hU
   have HD2:Hid (DS b ao cp zs a t ⟨c.iss,c.acq,c.cur,c.am,3,a.rsn,a.am,a.am,c.fee,c.cop,c.sta,c.due⟩ [] v2 U):=D2
   have HB2:Hid (Below b w U):=b2
   clear b2 D2 c13 c6 c7 z6 z7
   have HM:Hid (∀ u,Below U.heap.size U u→Calls Tryz.prog 321 #[.pointer (some ⟨b,0,none⟩),.int .i64 c.acq,.int .i64 c.iss,.int .i64 a.am] u (DR b ao cp zs a t u (.tuple #[]) ⟨c.iss,c.acq,c.cur,c.am,3,a.rsn,a.am,a.am,c.fee,c.cop,c.sta,c.due⟩ (toIss c a.am))):=λu hu=>by
    have g:=move_any (HD2.out.below hu) (Nat.zero_le _) c.acq c.iss a.am
    have e:moved ⟨c.iss,c.acq,c.cur,c.am,3,a.rsn,a.am,a.am,c.fee,c.cop,c.sta,c.due⟩ [] c.acq c.iss a.am=toIss c a.am:=moved_nil (c:=c) (by omega)
    rw [e] at g
    exact g
   have h:=HD2.out
   have c13:=h.db.a1
   have c0:=h.db.cb.f0
   have c1:=h.db.cb.f1
   simp only [Nat.zero_add] at c0 c1
   obtain ⟨E,hE⟩:∃ E,toIss c a.am=E:=⟨_,rfl⟩
   rw [hE] at HM
   have HEE:Hid _:=hE
   clear h hE
   have b0:Below U.heap.size U U:=Below.refl _ _
   go_upto_region 6 with fail
   go_cut [2] (λv2 wc=>v2=.int .i64 0∧(∃ vv,DS b ao cp zs a t ⟨c.iss,c.acq,c.cur,c.am,3,a.rsn,a.am,a.am,c.fee,c.cop,c.sta,c.due⟩ E vv wc)∧Below b w wc)
   case first =>
    go_region_with (go_at_call 321;(first | with_reducible refine (HM.out _ b0).mono ?_ | with_reducible refine (HM.out _ b0.drew).mono ?_);rintro e w2 ⟨rfl,D2,b2⟩;(first | (have HB:Hid (Below b w w2):=HB2.out.trans b2) | (have HB:Hid (Below b w w2):=(HB2.out.drew).trans b2));have HD:Hid _:=D2;clear D2 b2)
    all_goals
     go_wp2_with fail
     go_meet
     exact ⟨rfl,HD.out,HB.out⟩
   case rest =>
    obtain ⟨rfl,⟨v3,D3⟩,b3⟩:=hcut
    have HD3:Hid (DS b ao cp zs a t ⟨c.iss,c.acq,c.cur,c.am,3,a.rsn,a.am,a.am,c.fee,c.cop,c.sta,c.due⟩ E v3 wc):=D3
    have HB3:Hid (Below b w wc):=b3
    clear D3 b3 c0 c1 c13
    go_wp2_with fail
    refine (dueIn_any HD3.out hn 0 30 rfl).mono ?_
    rintro e w4 ⟨rfl,D4,b4⟩
    have HD4:Hid _:=D4
    have HB4:Hid (Below b w w4):=HB3.out.trans b4
    clear D4 b4
    go_wp2
    go_ret
    exact ⟨rfl,by rw [HEE.out];exact HD4.out,HB4.out⟩
 ·rw [if_neg h0,if_neg h0]
  have h0':(r != 0)=true:=by simpa using h0
  clear h0
  go_enter Tryz.func290,Tryz.ntmps290
  go_wp2_with fail
  refine Calls.mono HQ.out ?_
  rintro e w1 ⟨rfl,b1⟩
  have HB:Hid (Below w.heap.size w w1):=b1
  clear b1
  go_wp2
  go_ret
  exact ⟨rfl,⟨v,HH.out.below HB.out⟩,HB.out.mono (Nat.le_of_lt HL.out)⟩
theorem ofSt_out {st k:Int} (h:st<0∨6<st):ofSt st k=false:=by
 cases e:ofSt st k
 ·rfl
 ·have:=of_cases e;omega
theorem isOf_any (k st:Int) (w:World):Calls Tryz.prog 256 #[.int .i64 k,.int .i64 st] w λe w'=>e=.returned (.bool (ofSt st k))∧w'=w:=by
 obtain ⟨q,hq⟩:∃ q,ofSt st k=q:=⟨_,rfl⟩
 rw [hq]
 by_cases hs:st<0∨6<st
 ·rw [ofSt_out hs] at hq
  have g0:(st == 0)=false:=beq_no (by omega)
  have g1:(st == 1)=false:=beq_no (by omega)
  have g2:(st == 2)=false:=beq_no (by omega)
  have g3:(st == 3)=false:=beq_no (by omega)
  have g4:(st == 4)=false:=beq_no (by omega)
  have g5:(st == 5)=false:=beq_no (by omega)
  have g6:(st == 6)=false:=beq_no (by omega)
  clear hs
  subst hq
  go_enter Tryz.func256,Tryz.ntmps256
  go_wp2
  go_ret
  exact ⟨rfl,rfl⟩
 ·by_cases hk:k<0∨9<k
  ·have hf:ofSt st k=false:=by
     cases e:ofSt st k
     ·rfl
     ·have:=of_cases e;omega
   rw [hf] at hq
   have g0:(k == 0)=false:=beq_no (by omega)
   have g1:(k == 1)=false:=beq_no (by omega)
   have g2:(k == 2)=false:=beq_no (by omega)
   have g3:(k == 3)=false:=beq_no (by omega)
   have g4:(k == 4)=false:=beq_no (by omega)
   have g5:(k == 5)=false:=beq_no (by omega)
   have g6:(k == 6)=false:=beq_no (by omega)
   have g7:(k == 7)=false:=beq_no (by omega)
   have g8:(k == 8)=false:=beq_no (by omega)
   have g9:(k == 9)=false:=beq_no (by omega)
   clear hk hf
   subst hq
   rcases (show st=0∨st=1∨st=2∨st=3∨st=4∨st=5∨st=6 by omega) with rfl | rfl | rfl | rfl | rfl | rfl | rfl
   all_goals
    clear hs
    go_enter Tryz.func256,Tryz.ntmps256
    go_wp2
    go_ret
    exact ⟨rfl,rfl⟩
  ·rcases (show st=0∨st=1∨st=2∨st=3∨st=4∨st=5∨st=6 by omega) with rfl | rfl | rfl | rfl | rfl | rfl | rfl
   all_goals
    rcases (show k=0∨k=1∨k=2∨k=3∨k=4∨k=5∨k=6∨k=7∨k=8∨k=9 by omega) with rfl | rfl | rfl | rfl | rfl | rfl | rfl | rfl | rfl | rfl
    all_goals
     clear hs hk
     subst hq
     go_enter Tryz.func256,Tryz.ntmps256
     go_wp2
     go_ret
     exact ⟨rfl,rfl⟩
end Go.Proofs.YtomiclakhjncbaaGreatDoor
namespace Go.Proofs.YtomiclakhjncbaaGreatDoor
open Go.RowKit
set_option maxRecDepth 100000
set_option maxHeartbeats 12800000
theorem stepOf0 (w:World):Calls Tryz.prog 257 #[.int .i64 0] w λe w'=>e=.returned ((.func (.func 288) #[] #[]))∧Below w.heap.size w w':=by
 go_enter Tryz.func257,Tryz.ntmps257
 go_wp2
 go_ret
 exact ⟨rfl,by go_grown⟩
theorem stepOf1 (w:World):Calls Tryz.prog 257 #[.int .i64 1] w λe w'=>e=.returned ((.func (.func 289) #[] #[]))∧Below w.heap.size w w':=by
 go_enter Tryz.func257,Tryz.ntmps257
 go_wp2
 go_ret
 exact ⟨rfl,by go_grown⟩
theorem stepOf2 (w:World):Calls Tryz.prog 257 #[.int .i64 2] w λe w'=>e=.returned ((.func (.func 290) #[] #[]))∧Below w.heap.size w w':=by
 go_enter Tryz.func257,Tryz.ntmps257
 go_wp2
 go_ret
 exact ⟨rfl,by go_grown⟩
theorem stepOf3 (w:World):Calls Tryz.prog 257 #[.int .i64 3] w λe w'=>e=.returned ((.func (.func 291) #[] #[]))∧Below w.heap.size w w':=by
 go_enter Tryz.func257,Tryz.ntmps257
 go_wp2
 go_ret
 exact ⟨rfl,by go_grown⟩
theorem stepOf4 (w:World):Calls Tryz.prog 257 #[.int .i64 4] w λe w'=>e=.returned ((.func (.func 292) #[] #[]))∧Below w.heap.size w w':=by
 go_enter Tryz.func257,Tryz.ntmps257
 go_wp2
 go_ret
 exact ⟨rfl,by go_grown⟩
theorem stepOf5 (w:World):Calls Tryz.prog 257 #[.int .i64 5] w λe w'=>e=.returned ((.func (.func 293) #[] #[]))∧Below w.heap.size w w':=by
 go_enter Tryz.func257,Tryz.ntmps257
 go_wp2
 go_ret
 exact ⟨rfl,by go_grown⟩
theorem stepOf6 (w:World):Calls Tryz.prog 257 #[.int .i64 6] w λe w'=>e=.returned ((.func (.func 294) #[] #[]))∧Below w.heap.size w w':=by
 go_enter Tryz.func257,Tryz.ntmps257
 go_wp2
 go_ret
 exact ⟨rfl,by go_grown⟩
theorem stepOf7 (w:World):Calls Tryz.prog 257 #[.int .i64 7] w λe w'=>e=.returned ((.func (.func 295) #[] #[]))∧Below w.heap.size w w':=by
 go_enter Tryz.func257,Tryz.ntmps257
 go_wp2
 go_ret
 exact ⟨rfl,by go_grown⟩
theorem stepOf8 (w:World):Calls Tryz.prog 257 #[.int .i64 8] w λe w'=>e=.returned ((.func (.func 296) #[] #[]))∧Below w.heap.size w w':=by
 go_enter Tryz.func257,Tryz.ntmps257
 go_wp2
 go_ret
 exact ⟨rfl,by go_grown⟩
theorem stepOf9 (w:World):Calls Tryz.prog 257 #[.int .i64 9] w λe w'=>e=.returned ((.func (.func 297) #[] #[]))∧Below w.heap.size w w':=by
 go_enter Tryz.func257,Tryz.ntmps257
 go_wp2
 go_ret
 exact ⟨rfl,by go_grown⟩
end Go.Proofs.YtomiclakhjncbaaGreatDoor
