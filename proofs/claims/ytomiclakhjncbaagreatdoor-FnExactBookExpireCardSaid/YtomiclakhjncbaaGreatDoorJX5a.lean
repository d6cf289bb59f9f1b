import Derived.Test.YtomiclakhjncbaaGreatDoorJX0a
import Derived.Test.YtomiclakhjncbaaGreatDoorKXKbDo
import Derived.Test.YtomiclakhjncbaaGreatDoorKXKbAct
import Derived.Test.YtomiclakhjncbaaGreatDoorKXKbHand
import Derived.Test.YtomiclakhjncbaaGreatDoorKXFDis5
import Derived.Test.YtomiclakhjncbaaGreatDoorJX3a
namespace Go.Proofs.YtomiclakhjncbaaGreatDoor.Kb
open Go.RowKit Go.Proofs.Tryz
set_option maxRecDepth 100000
set_option maxHeartbeats 12800000
theorem Wc {F:Ff} {b:Bk} {ws:Be} {r:Bk×Int} (h:D6 F b ws r) (hc:r.2≠0):r.1=b:=by
 unfold D6 at h
 split at h
 ·rw [h] at hc ⊢;unfold N8 Fr at hc ⊢;split at hc
  ·split at hc
   ·exact absurd rfl hc
   ·rw [if_pos ‹_›,if_neg ‹_›]
  ·rw [if_neg ‹_›]
 split at h
 ·rw [h] at hc ⊢;unfold Gt Fq at hc ⊢;split at hc
  ·split at hc
   ·exact absurd rfl hc
   ·rw [if_pos ‹_›,if_neg ‹_›]
  ·rw [if_neg ‹_›]
 split at h
 ·unfold Fh at h
  split at h
  ·obtain ⟨x,-,rfl⟩:=h
   unfold Jk at hc ⊢
   split at hc
   ·rw [if_pos ‹_›]
   rw [if_neg ‹_›]
   split at hc
   ·rw [if_pos ‹_›]
   rw [if_neg ‹_›]
   split at hc
   ·rw [if_pos ‹_›]
   rw [if_neg ‹_›]
   split at hc
   ·rw [if_pos ‹_›]
   ·exact absurd rfl hc
  ·rw [h]
 split at h
 ·rw [h] at hc ⊢;unfold Hx at hc ⊢;split at hc
  ·rw [if_pos ‹_›]
   unfold Ja at hc ⊢
   split at hc
   ·rw [if_pos ‹_›]
   rw [if_neg ‹_›]
   split at hc
   ·rw [if_pos ‹_›]
   rw [if_neg ‹_›]
   split at hc
   ·rw [if_pos ‹_›]
   ·exact absurd rfl hc
  ·rw [if_neg ‹_›]
 ·rw [h]
theorem sP {F:Ff} {b:Bk} {l:List UInt8} {r:Bk×Int} (h:D9 F b l r) (hc:r.2≠0):r.1=b:=by
 unfold D9 at h
 split at h
 ·rw [h]
 ·obtain ⟨r0,h0,rfl⟩:=h
  split at hc
  ·exact absurd rfl hc
  ·rw [if_neg ‹_›];exact Wc h0 hc
end Go.Proofs.YtomiclakhjncbaaGreatDoor.Kb
namespace Go.Proofs.YtomiclakhjncbaaGreatDoor
open Go.RowKit Go.Proofs.Tryz
set_option maxRecDepth 100000
set_option maxHeartbeats 12800000
theorem Ub {b:Nat} {ao:Option Addr} {cp:Nat} {zs:List Int} {a:Ac} {t:Int} {c:Cs} {v:Value} {w:World} (h:DS b ao cp zs a t c [] v w) :
  Calls prog 333 #[.pointer (some ⟨b,0,none⟩)] w fun e w'=>e=.returned (.bool (E4 c t))∧BW w w':=by
 have c9:=h.db.cb.f9;have c4:=h.db.cb.f4
 simp only [Nat.zero_add] at c9 c4
 have HQ:Hid (Calls prog 318 #[.pointer (some ⟨b,0,none⟩)] w fun e w'=>e=.returned (.bool (Bv t c.due))∧BW w w'):=Hn h
 obtain ⟨p,hp⟩:∃ p,c.cop=p:=⟨_,rfl⟩;obtain ⟨s,hs⟩:∃ s,c.st=s:=⟨_,rfl⟩;obtain ⟨l,hl⟩:∃ l,Bv t c.due=l:=⟨_,rfl⟩
 have HV:Hid (E4 c t=(p || (decide (s=1) && l))):=by rw [Hid,E4,hp,hs,hl]
 rw [hp] at c9;rw [hs] at c4;rw [hl] at HQ;clear h hp hs hl
 cases p
 ·by_cases h1:s=1
  ·have HE:Hid (E4 c t=l):=by rw [Hid,HV.o,decide_eq_true h1,Bool.false_or,Bool.true_and]
   have h1':(s == 1)=true:=by simpa using h1
   clear h1
   go_enter func333,ntmps333
   go_wp2_with fail
   refine Calls.mono HQ.o ?_;rintro e w1 ⟨rfl,b1⟩;go_wp2;go_ret;exact ⟨Aa HE.o.symm,b1⟩
  ·have HE:Hid (E4 c t=false):=by rw [Hid,HV.o,decide_eq_false h1,Bool.false_or,Bool.false_and]
   have h1':=Ay h1;clear h1
   go_enter func333,ntmps333
   go_wp2;go_ret;exact ⟨Aa HE.o.symm,bR⟩
 ·have HE:Hid (E4 c t=true):=by rw [Hid,HV.o,Bool.true_or]
  go_enter func333,ntmps333
  go_wp2;go_ret;exact ⟨Aa HE.o.symm,bR⟩
theorem Rw {b:Nat} {ao:Option Addr} {cp:Nat} {zs:List Int} {a:Ac} {t:Int} {c:Cs} {v:Value} {w:World} (h:DS b ao cp zs a t c [] v w) (hn:zs.length≤1099511627776) :
  Calls prog 320 #[.pointer (some ⟨b,0,none⟩)] w fun e w'=>e=.returned (.int .i64 (Bs c a t zs))∧BW w w':=by
 have c13:=h.db.a1;have c14:=h.db.a2;have HH:Hid (DS b ao cp zs a t c [] v w):=h
 obtain ⟨p,hp⟩:∃ p,(!Oy a.rsn || (E8 a.rsn && !E4 c t))=p:=⟨_,rfl⟩
 obtain ⟨q,hq⟩:∃ q,(decide (a.am<1) || (decide (c.am<a.am) || (decide (a.am<c.am) && !Gb a.rsn)))=q:=⟨_,rfl⟩
 obtain ⟨l,hl⟩:∃ l,Bv t (C6 c.sta (Fs a.rsn) zs)=l:=⟨_,rfl⟩;have HV:Hid _:=Qy hp hq hl;have HPP:Hid _:=hp;have HQQ:Hid _:=hq;have HLL:Hid _:=hl
 have HCO:Hid (∀ u,BW w u→Calls prog 333 #[.pointer (some ⟨b,0,none⟩)] u fun e w'=>e=.returned (.bool (E4 c t))∧BW u w'):=fun u hu=>Ub (h.below hu)
 have HDU:Hid (∀ u,BW w u→Calls prog 330 #[.int .i64 c.sta,.int .i64 (Fs a.rsn),.slice ao zs.length cp] u fun e w'=>e=.returned (.int .i64 (C6 c.sta (Fs a.rsn) zs))∧BW u w'):=fun u hu=>Wi c.sta (Fs a.rsn) ao cp zs u (h.below hu).offs hn
 clear h hp hq hl
 go_enter func320,ntmps320
 go_upto_region 1 with fail
 go_cut [3,4] (fun v3 v4 wc=>v3=.int .i64 a.am∧v4=.int .i64 a.rsn∧BW w wc)
 case first =>
  go_wp2
  go_quiet (fail)
  all_goals
   go_wp2_with fail
   go_meet;exact ⟨rfl,rfl,below_drewN bR _⟩
 case rest =>
  obtain ⟨rfl,rfl,b0⟩:=hcut;obtain ⟨u0,hu0⟩:∃ x,x=wc:=⟨_,rfl⟩;subst hu0;clear c13 c14;have HB0:Hid (BW w u0):=b0;clear b0;go_upto_region 2 with fail
  go_cut [15] (fun v wc=>v=.bool p∧BW w wc)
  case first =>
   go_wp2_with fail
   refine (Rg a.rsn _).mono ?_;rintro e u1 ⟨rfl,b1⟩;have HB1:Hid (BW w u1):=next HB0.o b1;clear b1
   cases h1:Oy a.rsn
   ·have HE:Hid (p=true):=by rw [Hid,← HPP.o,h1];rfl
    clear h1;go_wp2;go_meet
    exact ⟨by rw [HE.o],HB1.o⟩
   go_wp2_with fail
   refine (Xc a.rsn _).mono ?_;rintro e u2 ⟨rfl,b2⟩;have HB2:Hid (BW w u2):=next HB1.o b2;clear b2
   cases h2:E8 a.rsn
   ·have HE:Hid (p=false):=by rw [Hid,← HPP.o,h1,h2];rfl
    clear h1 h2;go_wp2;go_meet
    exact ⟨by rw [HE.o],HB2.o⟩
   go_wp2_with fail
   refine (HCO.o _ HB2.o).mono ?_;rintro e u3 ⟨rfl,b3⟩;have HB3:Hid (BW w u3):=next HB2.o b3;clear b3
   have HE:Hid (p = !E4 c t):=by rw [Hid,← HPP.o,h1,h2];rfl
   clear h1 h2;go_wp2;go_meet
   exact ⟨by rw [HE.o],HB3.o⟩
  case rest =>
   obtain ⟨rfl,b4⟩:=hcut;obtain ⟨u4,hu4⟩:∃ x,x=wc:=⟨_,rfl⟩;subst hu4;have HB4:Hid (BW w u4):=b4;clear b4 HB0
   cases p
   rotate_left
   ·have HE:Hid (Bs c a t zs=3):=by rw [Hid,HV.o,if_pos rfl]
    go_wp2;go_ret;exact ⟨Af HE.o.symm,HB4.o⟩
   have HV1:Hid (Bs c a t zs=if q=true then 2 else if l=true then 4 else 0):=by rw [Hid,HV.o,if_neg (by decide)]
   have h4:=HH.o.below HB4.o;have c3:=h4.db.cb.f3
   simp only [Nat.zero_add] at c3
   clear HV h4;go_upto_region 4 with fail
   go_cut [28] (fun v wc=>v=.bool q∧BW w wc)
   case first =>
    have HQ2:Hid ((decide (a.am<1) || (decide (c.am<a.am) || (decide (a.am<c.am) && !Gb a.rsn)))=q):=HQQ.o
    by_cases h1:a.am<1
    ·have HE:Hid (q=true):=by rw [Hid,← HQ2.o,decide_eq_true h1];rfl
     go_wp2;go_meet
     exact ⟨by rw [HE.o],HB4.o⟩
    by_cases h2:c.am<a.am
    ·have HE:Hid (q=true):=by rw [Hid,← HQ2.o,decide_eq_true h2];simp
     go_wp2;go_meet
     exact ⟨by rw [HE.o],HB4.o⟩
    by_cases h3:a.am<c.am
    ·have HE:Hid (q = !Gb a.rsn):=by rw [Hid,← HQ2.o,decide_eq_false h1,decide_eq_false h2,decide_eq_true h3];rfl
     go_wp2_with fail
     refine (X0 a.rsn _).mono ?_;rintro e u5 ⟨rfl,b5⟩;have HB5:Hid (BW w u5):=next HB4.o b5;clear b5;go_wp2;go_meet
     exact ⟨by rw [HE.o],HB5.o⟩
    ·have HE:Hid (q=false):=by rw [Hid,← HQ2.o,decide_eq_false h1,decide_eq_false h2,decide_eq_false h3];rfl
     go_wp2;go_meet
     exact ⟨by rw [HE.o],HB4.o⟩
   case rest =>
    obtain ⟨rfl,b5⟩:=hcut;obtain ⟨u5,hu5⟩:∃ x,x=wc:=⟨_,rfl⟩;subst hu5;have HB5:Hid (BW w u5):=b5;clear b5 c3 HB4
    cases q
    rotate_left
    ·have HE:Hid (Bs c a t zs=2):=by rw [Hid,HV1.o,if_pos rfl]
     go_wp2;go_ret;exact ⟨Af HE.o.symm,HB5.o⟩
    have HV2:Hid (Bs c a t zs=if l=true then 4 else 0):=by rw [Hid,HV1.o,if_neg (by decide)]
    clear HV1
    have HAT:Hid (∀ u,BW w u→u.cell? ⟨b,15,none⟩=some (.int .i64 t)∧u.cell? ⟨b,10,none⟩=some (.int .i64 c.sta)∧u.cell? ⟨b,16,none⟩=some (.slice ao zs.length cp)):=fun u hu=>by
     have g:=HH.o.below hu;have g10:=g.db.cb.f10
     simp only [Nat.zero_add] at g10
     exact ⟨g.db.td,g10,g.db.ho⟩
    obtain ⟨k15,k10,k16⟩:=HAT.o u5 HB5.o;obtain ⟨n,hn'⟩:∃ n,Fs a.rsn=n:=⟨_,rfl⟩
    have HRD:Hid (∀ u,Calls prog 335 #[.int .i64 a.rsn] u fun e w'=>e=.returned (.int .i64 n)∧BW u w'):=fun u=>by rw [← hn'];exact X7 a.rsn u
    rw [hn'] at HDU HLL;obtain ⟨dd,hdd⟩:∃ dd,C6 c.sta n zs=dd:=⟨_,rfl⟩;rw [hdd] at HDU HLL
    have HLT:Hid (∀ u,Calls prog 91 #[.int .i64 t,.int .i64 dd] u fun e w'=>e=.returned (.bool l)∧w'=u):=fun u=>by rw [← HLL.o];exact N2 t dd u
    clear hn' hdd;have d5:BW w u5.drew:=HB5.o.drew;go_upto_region 6 with fail
    go_cut [54] (fun v wc=>v=.bool l∧BW w wc)
    case first =>
     go_region_held3 (fun u=>u.cell? ⟨b,15,none⟩=some (.int .i64 t)∧u.cell? ⟨b,10,none⟩=some (.int .i64 c.sta)∧u.cell? ⟨b,16,none⟩=some (.slice ao zs.length cp)) (first | exact ⟨k15,k10,k16⟩ | exact HAT.o _ HB5.o | exact HAT.o _ d5 | exact HAT.o _ HB6.o | exact HAT.o _ HB7.o) ((first
      | (go_at_call 335;refine (HRD.o _).mono ?_;rintro e u6 ⟨rfl,b6⟩;(first | (have HB6:Hid (BW w u6):=next d5 b6) | (have HB6:Hid (BW w u6):=next HB5.o b6));clear b6)
      | (go_at_call 330;refine (HDU.o _ HB6.o).mono ?_;rintro e u7 ⟨rfl,b7⟩;(have HB7:Hid (BW w u7):=next HB6.o b7);clear b7)
      | (go_at_call 91;refine (HLT.o _).mono ?_;rintro e u8 ⟨rfl,hu8⟩;rw [hu8];clear hu8)))
     all_goals
      go_wp2_with fail
      go_meet;exact ⟨rfl,HB7.o⟩
    case rest =>
     obtain ⟨rfl,b8⟩:=hcut;clear k15 k10 k16
     cases l
     ·have HE:Hid (Bs c a t zs=0):=by rw [Hid,HV2.o,if_neg (by decide)]
      go_wp2;go_ret;exact ⟨Af HE.o.symm,b8⟩
     ·have HE:Hid (Bs c a t zs=4):=by rw [Hid,HV2.o,if_pos rfl]
      go_wp2;go_ret;exact ⟨Af HE.o.symm,b8⟩
end Go.Proofs.YtomiclakhjncbaaGreatDoor
