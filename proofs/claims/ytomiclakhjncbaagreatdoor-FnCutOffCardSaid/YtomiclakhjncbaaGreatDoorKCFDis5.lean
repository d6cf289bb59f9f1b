import Derived.Test.YtomiclakhjncbaaGreatDoorJC4a
namespace Go.Proofs.YtomiclakhjncbaaGreatDoor
open Go.RowKit Go.Proofs.Tryz
set_option maxRecDepth 100000
set_option maxHeartbeats 12800000
theorem Y0 {b:Nat} {ao:Option Addr} {cp:Nat} {zs:List Int} {a:Ac} {t:Int} {c:Cs} {v:Value} {w:World} (h:DS b ao cp zs a t c [] v w) (hb:0≤c.bk∧c.bk≤1000000000000) (hc:0≤c.cl∧c.cl≤1000000000000) (hf:0≤c.fee∧c.fee≤1000000) :
  Calls prog 296 #[.pointer (some ⟨b,0,none⟩)] w (DR b ao cp zs a t w (.int .i64 (if Bv t c.due=true then 0 else 4)) (if Bv t c.due=true then Cx c else c) (if Bv t c.due=true then Ck c else [])):=by
 have HH:Hid (DS b ao cp zs a t c [] v w):=h;have HL:Hid (b<w.heap.size):=h.lt
 have HQ:Hid (Calls prog 318 #[.pointer (some ⟨b,0,none⟩)] w fun e w'=>e=.returned (.bool (Bv t c.due))∧BW w w'):=Hn h
 clear h
 cases hl:Bv t c.due
 ·rw [hl] at HQ
  clear hl
  rw [if_neg (by decide),if_neg (by decide),if_neg (by decide)]
  go_enter func296,ntmps296
  go_wp2_with fail
  refine Calls.mono HQ.o ?_;rintro e w1 ⟨rfl,b1⟩;have HB:Hid (BW w w1):=b1;clear b1;go_wp2;go_ret;exact ⟨rfl,⟨v,HH.o.below HB.o⟩,HB.o.mono (Nat.le_of_lt HL.o)⟩
 rw [hl] at HQ;clear hl;rw [if_pos rfl,if_pos rfl,if_pos rfl];obtain ⟨s,hs⟩:∃ s,c.st=s:=⟨_,rfl⟩
 by_cases h1:s=1
 ·have HV:Hid (Cx c=J9 c):=by rw [Hid,Cx,hs,if_pos h1]
  have HE:Hid (Ck c=[]):=by rw [Hid,Ck,hs,if_pos h1]
  have HS:Hid _:=hs;subst h1;rw [HV.o,HE.o];clear hs hb hc hf
  go_enter func296,ntmps296
  go_wp2_with fail
  refine Calls.mono HQ.o ?_;rintro e w1 ⟨rfl,b1⟩;have HB:Hid (BW w w1):=b1;have h:=HH.o.below b1;have c4:=h.db.cb.f4
  simp only [Nat.zero_add] at c4
  rw [HS.o] at c4;have HH1:Hid (DS b ao cp zs a t c [] v w1):=h;clear b1 h;go_wp2_with fail
  refine (Lj HH1.o).mono ?_;rintro e w2 ⟨rfl,D2,b2⟩;have HD2:Hid _:=D2;have HB2:Hid (Below b w w2):=(HB.o.mono (Nat.le_of_lt HL.o)).trans b2;clear D2 b2;go_wp2;go_ret;exact ⟨rfl,HD2.o,HB2.o⟩
 have h1':=Ay h1
 by_cases h5:s=5
 ·have HV:Hid (Cx c=I5 c c.cl):=by rw [Hid,Cx,hs,if_neg h1,if_pos h5]
  have HE:Hid (Ck c=Bg c c.cl):=by rw [Hid,Ck,hs,if_neg h1,if_pos h5]
  have HS:Hid _:=hs;subst h5;rw [HV.o,HE.o];clear hs h1 h1'
  go_enter func296,ntmps296
  go_wp2_with fail
  refine Calls.mono HQ.o ?_;rintro e w1 ⟨rfl,b1⟩;have HB:Hid (BW w w1):=b1;have h:=HH.o.below b1;have c4:=h.db.cb.f4
  simp only [Nat.zero_add] at c4
  rw [HS.o] at c4;have HH1:Hid (DS b ao cp zs a t c [] v w1):=h;clear b1 h;go_wp2_with fail
  refine (Rl HH1.o hb hc).mono ?_;rintro e w2 ⟨rfl,D2,b2⟩;have HD2:Hid _:=D2;have HB2:Hid (Below b w w2):=(HB.o.mono (Nat.le_of_lt HL.o)).trans b2;clear D2 b2;go_wp2;go_ret;exact ⟨rfl,HD2.o,HB2.o⟩
 have h5':=Ay h5
 by_cases h6:s=6
 ·have HV:Hid (Cx c=Es c (c.cl / 2)):=by rw [Hid,Cx,hs,if_neg h1,if_neg h5,if_pos h6]
  have HE:Hid (Ck c=Dg c (c.cl / 2)):=by rw [Hid,Ck,hs,if_neg h1,if_neg h5,if_pos h6]
  have HS:Hid _:=hs;subst h6;rw [HV.o,HE.o]
  have HR:Hid (∀ u,DS b ao cp zs a t c [] v u→Calls prog 325 #[.pointer (some ⟨b,0,none⟩),.int .i64 (c.cl / 2)] u (DR b ao cp zs a t u (.int .i64 0) (Es c (c.cl / 2)) (Dg c (c.cl / 2)))):=fun u hu=>O6 hu (c.cl / 2) ⟨by omega,by omega⟩ hb hf
  have HT:Hid (c.cl.tdiv 2=c.cl / 2):=Int.tdiv_eq_ediv_of_nonneg hc.1;clear hs h1 h1' h5 h5' hb hf
  go_enter func296,ntmps296
  go_wp2_with fail
  refine Calls.mono HQ.o ?_;rintro e w1 ⟨rfl,b1⟩;have HB:Hid (BW w w1):=b1;have h:=HH.o.below b1;have c4:=h.db.cb.f4;have c6:=h.db.cb.f6
  simp only [Nat.zero_add] at c4 c6
  rw [HS.o] at c4;have HH1:Hid (DS b ao cp zs a t c [] v w1):=h;clear b1 h;go_wp2_with fail
  try rw [HT.o]
  refine (HR.o _ HH1.o).mono ?_;rintro e w2 ⟨rfl,D2,b2⟩;have HD2:Hid _:=D2;have HB2:Hid (Below b w w2):=(HB.o.mono (Nat.le_of_lt HL.o)).trans b2;clear D2 b2;go_wp2;go_ret;exact ⟨rfl,HD2.o,HB2.o⟩
 have h6':=Ay h6
 ·have HV:Hid (Cx c=I5 c 0):=by rw [Hid,Cx,hs,if_neg h1,if_neg h5,if_neg h6]
  have HE:Hid (Ck c=[]):=by rw [Hid,Ck,hs,if_neg h1,if_neg h5,if_neg h6]
  have HZ:Hid (c.bk+0=c.bk):=Int.add_zero _;have HS:Hid _:=hs;rw [HV.o,HE.o,I5,HZ.o];clear hs h1 h5 h6 hb hc hf
  go_enter func296,ntmps296
  go_wp2_with fail
  refine Calls.mono HQ.o ?_;rintro e w1 ⟨rfl,b1⟩;have HB:Hid (BW w w1):=b1;have h:=HH.o.below b1;have c4:=h.db.cb.f4
  simp only [Nat.zero_add] at c4
  rw [HS.o] at c4;have HH1:Hid (DS b ao cp zs a t c [] v w1):=h;clear b1 h;go_wp2_with fail
  refine (Pn HH1.o 8 (.inr (.inr rfl))).mono ?_;rintro e w2 ⟨rfl,D2,b2⟩;have HD2:Hid _:=D2;have HB2:Hid (Below b w w2):=(HB.o.mono (Nat.le_of_lt HL.o)).trans b2;clear D2 b2;go_wp2;go_ret;exact ⟨rfl,HD2.o,HB2.o⟩
theorem aE {b:Nat} {ao:Option Addr} {cp:Nat} {zs:List Int} {a:Ac} {t:Int} {c:Cs} {v:Value} {w:World} (h:DS b ao cp zs a t c [] v w) (hn:zs.length≤1099511627776) (hb:0≤c.bk∧c.bk≤1000000000000) (hc:0≤c.cl∧c.cl≤1000000000000) :
  Calls prog 291 #[.pointer (some ⟨b,0,none⟩)] w (DR b ao cp zs a t w (.int .i64 (Dd c a t)) (if Dd c a t=0 then ⟨c.iss,c.acq,c.cur,c.am,4,c.rsn,a.am,c.bk - a.am,c.fee,c.cop,c.sta,C6 t 30 zs⟩ else c) (if Dd c a t=0 then Dw c a.am else [])):=by
 have HH:Hid (DS b ao cp zs a t c [] v w):=h;have HL:Hid (b<w.heap.size):=h.lt
 have HQ:Hid (Calls prog 322 #[.pointer (some ⟨b,0,none⟩)] w fun e w'=>e=.returned (.int .i64 (Dd c a t))∧BW w w'):=S2 h
 have HP:Hid (Dd c a t=0→1≤a.am∧a.am≤c.cl):=Sj;clear h;obtain ⟨r,hr⟩:∃ r,Dd c a t=r:=⟨_,rfl⟩;rw [hr] at HQ HP ⊢;clear hr
 by_cases h0:r=0
 ·subst h0
  rw [if_pos rfl,if_pos rfl];have hx:=HP.o rfl
  go_enter func291,ntmps291
  go_wp2_with fail
  refine Calls.mono HQ.o ?_;rintro e w1 ⟨rfl,b1⟩;have h:=HH.o.below b1;have c13:=h.db.a1;have c4:=h.db.cb.f4;have c6:=h.db.cb.f6;have z4:=h.db.fz.z4;have z6:=h.db.fz.z6
  simp only [Nat.zero_add] at c4 c6 z4 z6
  obtain ⟨V,hV⟩:∃ V,V=(w1.setCell ⟨b,4,none⟩ (.int .i64 4)).setCell ⟨b,6,none⟩ (.int .i64 a.am):=⟨_,rfl⟩
  have HV:Hid (DS b ao cp zs a t ⟨c.iss,c.acq,c.cur,c.am,4,c.rsn,a.am,c.bk,c.fee,c.cop,c.sta,c.due⟩ [] v V):=by rw [Hid,hV];exact (h.set4 4).set6 a.am
  have HBV:Hid (Below b w V):=by rw [Hid,hV];exact ((b1.mono (Nat.le_of_lt HL.o)).trans (Bn _ _ 4 _)).trans (Bn _ _ 6 _)
  have HLV:Hid (b<V.heap.size):=HV.o.lt;have HVV:Hid _:=hV;clear b1 h hV;go_upto_region 5 with fail
  rw [← HVV.o];clear HVV c13 c4 c6 z4 z6
  have HM:Hid (∀ u,BW V u→Calls prog 321 #[.pointer (some ⟨b,0,none⟩),.int .i64 c.iss,.int .i64 c.acq,.int .i64 a.am] u (DR b ao cp zs a t u (.tuple #[]) ⟨c.iss,c.acq,c.cur,c.am,4,c.rsn,a.am,c.bk,c.fee,c.cop,c.sta,c.due⟩ (Dw c a.am))):=fun u hu=>by
   have g:=J1 (HV.o.below hu) (Nat.zero_le _) c.iss c.acq a.am
   have e:H0 ⟨c.iss,c.acq,c.cur,c.am,4,c.rsn,a.am,c.bk,c.fee,c.cop,c.sta,c.due⟩ [] c.iss c.acq a.am=Dw c a.am:=aO (c:=c) (by omega)
   rw [e] at g;exact g
  have h:=HV.o;have c13:=h.db.a1;have c0:=h.db.cb.f0;have c1:=h.db.cb.f1
  simp only [Nat.zero_add] at c0 c1
  obtain ⟨E,hE⟩:∃ E,Dw c a.am=E:=⟨_,rfl⟩;rw [hE] at HM;have HEE:Hid _:=hE;clear h hE;have b0:BW V V:=bR
  go_cut [2] (fun v2 wc=>v2=.int .i64 0∧(∃ vv,DS b ao cp zs a t ⟨c.iss,c.acq,c.cur,c.am,4,c.rsn,a.am,c.bk,c.fee,c.cop,c.sta,c.due⟩ E vv wc)∧Below b w wc)
  case first =>
   go_region_with (go_at_call 321;(first | with_reducible refine (HM.o _ b0).mono ?_ | with_reducible refine (HM.o _ b0.drew).mono ?_);rintro e w2 ⟨rfl,D2,b2⟩;(first | (have HB:Hid (Below b w w2):=HBV.o.trans b2) | (have HB:Hid (Below b w w2):=(HBV.o.drew).trans b2));have HD:Hid _:=D2;clear D2 b2)
   all_goals
    go_wp2_with fail
    go_meet;exact ⟨rfl,HD.o,HB.o⟩
  case rest =>
   obtain ⟨rfl,⟨v2,D2⟩,b2⟩:=hcut;have c7:=D2.db.cb.f7;have y7:=D2.db.fz.z7;have y13:=D2.db.a1
   simp only [Nat.zero_add] at c7 y7
   have HD2:Hid (DS b ao cp zs a t ⟨c.iss,c.acq,c.cur,c.am,4,c.rsn,a.am,c.bk,c.fee,c.cop,c.sta,c.due⟩ E v2 wc):=D2;have HB2:Hid (Below b w wc):=b2;obtain ⟨x,hxx⟩:∃ x,a.am=x:=⟨_,rfl⟩;obtain ⟨z,hz⟩:∃ z,c.bk=z:=⟨_,rfl⟩
   have HZ:Hid (z - x=c.bk - a.am):=by rw [Hid,hz,hxx]
   obtain ⟨y,hy⟩:∃ y,c.cl=y:=⟨_,rfl⟩;rw [hz] at c7 hb;rw [hxx] at y13 hx;rw [hy] at hx hc;clear D2 b2 c13 c0 c1 hxx hz hy b0 HM HP;obtain ⟨W2,hW2⟩:∃ x,x=wc:=⟨_,rfl⟩;subst hW2;go_upto_region 6 with fail
   go_cut [2] (fun v2 wc=>v2=.int .i64 0∧(∃ vv,DS b ao cp zs a t ⟨c.iss,c.acq,c.cur,c.am,4,c.rsn,a.am,c.bk - a.am,c.fee,c.cop,c.sta,c.due⟩ E vv wc)∧Below b w wc)
   case first =>
    go_region
    all_goals
     go_wp2_with fail
     go_meet;refine ⟨rfl,⟨v2,?_⟩,?_⟩
     ·rw [← HZ.o]
      first
       | exact HD2.o.set7 (z - x)
       | exact (HD2.o.below (bR.drew)).set7 (z - x)
       | exact (HD2.o.set7 (z - x)).below (bR.drew)
     ·first
        | exact HB2.o.trans (Bn _ _ 7 _)
        | exact (HB2.o.drew).trans (Bn _ _ 7 _)
        | exact (HB2.o.trans (Bn _ _ 7 _)).drew
   case rest =>
    obtain ⟨rfl,⟨v3,D3⟩,b3⟩:=hcut;have HD3:Hid (DS b ao cp zs a t ⟨c.iss,c.acq,c.cur,c.am,4,c.rsn,a.am,c.bk - a.am,c.fee,c.cop,c.sta,c.due⟩ E v3 wc):=D3;have HB3:Hid (Below b w wc):=b3;clear D3 b3 c7 y7 y13;go_wp2_with fail
    refine (Is HD3.o hn 1 30 rfl).mono ?_;rintro e w4 ⟨rfl,D4,b4⟩;have HD4:Hid _:=D4;have HB4:Hid (Below b w w4):=HB3.o.trans b4;clear D4 b4;go_wp2;go_ret
    exact ⟨rfl,by rw [HEE.o];exact HD4.o,HB4.o⟩
 ·rw [if_neg h0,if_neg h0]
  have h0':(r != 0)=true:=by simpa using h0
  clear h0
  go_enter func291,ntmps291
  go_wp2_with fail
  refine Calls.mono HQ.o ?_;rintro e w1 ⟨rfl,b1⟩;have HB:Hid (BW w w1):=b1;clear b1;go_wp2;go_ret;exact ⟨rfl,⟨v,HH.o.below HB.o⟩,HB.o.mono (Nat.le_of_lt HL.o)⟩
end Go.Proofs.YtomiclakhjncbaaGreatDoor
