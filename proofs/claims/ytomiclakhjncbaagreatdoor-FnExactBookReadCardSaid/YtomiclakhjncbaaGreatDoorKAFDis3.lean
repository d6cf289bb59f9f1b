import Derived.Test.YtomiclakhjncbaaGreatDoorJA5a
namespace Go.Proofs.YtomiclakhjncbaaGreatDoor
open Go.RowKit
set_option maxRecDepth 100000
set_option maxHeartbeats 12800000
theorem moved_nil {c:Cs} {x:Int} (h:0≤x):moved c [] c.acq c.iss x=toIss c x:=by
 unfold moved toIss
 by_cases h0:x=0
 ·rw [if_pos h0,if_neg (by omega)]
 ·rw [if_neg h0,if_pos (by omega)];rfl
theorem moved_from {c:Cs} {x:Int} (h:0≤x):moved c [] c.iss c.acq x=fromIss c x:=by
 unfold moved fromIss
 by_cases h0:x=0
 ·rw [if_pos h0,if_neg (by omega)]
 ·rw [if_neg h0,if_pos (by omega)];rfl
theorem moved_len (c:Cs) (es:List En) (f g s:Int):(moved c es f g s).length≤es.length+1:=by unfold moved;split <;> simp
theorem reply_any {b:Nat} {ao:Option Addr} {cp:Nat} {zs:List Int} {a:Ac} {t:Int} {c:Cs} {es:List En} {v:Value} {w:World} (h:DS b ao cp zs a t c es v w) :
  Calls Tryz.prog 322 #[.pointer (some ⟨b,0,none⟩)] w fun e w'=>e=.returned (.int .i64 (replyV c a t))∧Below w.heap.size w w':=by
 have HH:Hid (DS b ao cp zs a t c es v w):=h
 have HQ:Hid (Calls Tryz.prog 318 #[.pointer (some ⟨b,0,none⟩)] w fun e w'=>e=.returned (.bool (lateV t c.due))∧Below w.heap.size w w'):=isLate_any h
 clear h
 cases hl:lateV t c.due
 ·rw [hl] at HQ
  have HV:Hid (replyV c a t=if 1≤a.am∧a.am≤c.cl then 0 else 2):=if_neg (by rw [hl];decide)
  clear hl
  go_enter Tryz.func322,Tryz.ntmps322
  go_wp2_with fail
  refine Calls.mono HQ.out ?_
  rintro e w1 ⟨rfl,b1⟩
  have HB:Hid (Below w.heap.size w w1):=b1
  have h:=HH.out.below b1
  have c13:=h.db.a1
  have c6:=h.db.cb.f6
  simp only [Nat.zero_add] at c6
  clear b1 h
  obtain ⟨x,hx⟩:∃ x,a.am=x:=⟨_,rfl⟩
  obtain ⟨y,hy⟩:∃ y,c.cl=y:=⟨_,rfl⟩
  rw [hx] at c13 HV
  rw [hy] at c6 HV
  clear hx hy
  by_cases h1:x<1
  ·have HE:Hid (replyV c a t=2):=by rw [Hid,HV.out,if_neg (by omega)]
   go_wp2
   go_quiet (fail)
   all_goals
    go_wp2
    go_ret
    exact ⟨one_int HE.out.symm,below_drewN HB.out _⟩
  ·by_cases h2:y<x
   ·have HE:Hid (replyV c a t=2):=by rw [Hid,HV.out,if_neg (by omega)]
    go_wp2
    go_quiet (fail)
    all_goals
     go_wp2
     go_ret
     exact ⟨one_int HE.out.symm,below_drewN HB.out _⟩
   ·have HE:Hid (replyV c a t=0):=by rw [Hid,HV.out,if_pos (by omega)]
    go_wp2
    go_quiet (fail)
    all_goals
     go_wp2
     go_ret
     exact ⟨one_int HE.out.symm,below_drewN HB.out _⟩
 ·rw [hl] at HQ
  have HV:Hid (replyV c a t=4):=if_pos hl
  clear hl
  go_enter Tryz.func322,Tryz.ntmps322
  go_wp2_with fail
  refine Calls.mono HQ.out ?_
  rintro e w1 ⟨rfl,b1⟩
  have HB:Hid (Below w.heap.size w w1):=b1
  clear b1
  go_wp2
  go_ret
  exact ⟨one_int HV.out.symm,HB.out⟩
theorem giveBack_any {b:Nat} {ao:Option Addr} {cp:Nat} {zs:List Int} {a:Ac} {t:Int} {c:Cs} {es:List En} {v:Value} {w:World} (h:DS b ao cp zs a t c es v w) (hl:es.length≤100) (s:Int) (h0:0≤s∧s≤1000000000000) (hb:0≤c.bk∧c.bk≤1000000000000) :
  Calls Tryz.prog 323 #[.pointer (some ⟨b,0,none⟩),.int .i64 s] w (DR b ao cp zs a t w (.tuple #[]) ⟨c.iss,c.acq,c.cur,c.am,c.st,c.rsn,c.cl,c.bk+s,c.fee,c.cop,c.sta,c.due⟩ (moved c es c.acq c.iss s)):=by
 have HH:Hid (DS b ao cp zs a t c es v w):=h
 have HL:Hid (b<w.heap.size):=h.lt
 have HM:Hid (∀ u,Below w.heap.size w u→Calls Tryz.prog 321 #[.pointer (some ⟨b,0,none⟩),.int .i64 c.acq,.int .i64 c.iss,.int .i64 s] u (DR b ao cp zs a t u (.tuple #[]) c (moved c es c.acq c.iss s))):=fun u hu=>move_any (h.below hu) hl c.acq c.iss s
 have c0:=h.db.cb.f0
 have c1:=h.db.cb.f1
 simp only [Nat.zero_add] at c0 c1
 obtain ⟨x,hx⟩:∃ x,c.acq=x:=⟨_,rfl⟩
 obtain ⟨y,hy⟩:∃ y,c.iss=y:=⟨_,rfl⟩
 obtain ⟨M,hM⟩:∃ M,moved c es c.acq c.iss s=M:=⟨_,rfl⟩
 rw [hM] at HM ⊢
 rw [hx] at c1
 rw [hy] at c0
 rw [hx,hy] at HM
 clear h hx hy hM
 have b0:Below w.heap.size w w:=Below.refl _ _
 go_enter Tryz.func323,Tryz.ntmps323
 go_wp2_with fail
 go_region_with (go_at_call 321;(first | with_reducible refine (HM.out _ b0).mono ?_ | with_reducible refine (HM.out _ b0.drew).mono ?_);rintro e w1 ⟨rfl,D1,b1⟩;(first | (have HB:Hid (Below b w w1):=(Below.refl b w).trans b1) | (have HB:Hid (Below b w w1):=((Below.refl b w).drew).trans b1));obtain ⟨v1,d1⟩:=D1;have HD:Hid _:=d1;have q7:=d1.db.cb.f7;have y7:=d1.db.fz.z7;simp only [Nat.zero_add] at q7 y7;clear d1 b1)
 all_goals
  obtain ⟨z,hz⟩:∃ z,c.bk=z:=⟨_,rfl⟩
  rw [hz] at q7 hb
  have HZ:Hid (z+s=c.bk+s):=by rw [Hid,hz]
  clear hz
  go_wp2
  go_end0
  exact ⟨rfl,⟨v1,by rw [← HZ.out];exact HD.out.set7 (z+s)⟩,HB.out.trans (bel_at _ _ 7 _)⟩
end Go.Proofs.YtomiclakhjncbaaGreatDoor
