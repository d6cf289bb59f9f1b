import Derived.Test.YtomiclakhjncbaaGreatDoorKAFDis1
import Derived.Test.YtomiclakhjncbaaGreatDoorJA1a
import Derived.Test.YtomiclakhjncbaaGreatDoorKABkLiD
import Derived.Test.YtomiclakhjncbaaGreatDoorKABkLiA
import Derived.Test.YtomiclakhjncbaaGreatDoorKABkLiP
import Derived.Test.YtomiclakhjncbaaGreatDoorKABkLiX
namespace Go.Proofs.YtomiclakhjncbaaGreatDoor
open Go.RowKit
set_option maxRecDepth 100000
set_option maxHeartbeats 12800000
theorem endAsking_any {b:Nat} {ao:Option Addr} {cp:Nat} {zs:List Int} {a:Ac} {t:Int} {c:Cs} {es:List En} {v:Value} {w:World} (h:DS b ao cp zs a t c es v w) :
  Calls Tryz.prog 319 #[.pointer (some ⟨b,0,none⟩)] w (DR b ao cp zs a t w (.int .i64 0) (givenC c) es):=by
 have c4:=h.db.cb.f4
 have c11:=h.db.cb.f11
 have c9:=h.db.cb.f9
 have z4:=h.db.fz.z4
 have z11:=h.db.fz.z11
 have z9:=h.db.fz.z9
 simp only [Nat.zero_add] at c4 c11 c9 z4 z11 z9
 have HH:Hid (DS b ao cp zs a t c es v w):=h
 clear h
 go_enter Tryz.func319,Tryz.ntmps319
 go_wp2
 go_ret
 exact ⟨rfl,⟨v,((HH.out.set4 2).set11 (-1)).set9 true⟩,((bel_at _ _ 4 _).trans (bel_at _ _ 11 _)).trans (bel_at _ _ 9 _)⟩
theorem end_any {b:Nat} {ao:Option Addr} {cp:Nat} {zs:List Int} {a:Ac} {t:Int} {c:Cs} {es:List En} {v:Value} {w:World} (h:DS b ao cp zs a t c es v w) (k:Int) (hk:k=5∨k=7∨k=8) :
  Calls Tryz.prog 324 #[.pointer (some ⟨b,0,none⟩),.int .i64 k] w (DR b ao cp zs a t w (.int .i64 0) ⟨c.iss,c.acq,c.cur,c.am,7,c.rsn,0,c.bk,c.fee,c.cop,c.sta,-1⟩ es):=by
 have c4:=h.db.cb.f4
 have c6:=h.db.cb.f6
 have c11:=h.db.cb.f11
 have z4:=h.db.fz.z4
 have z6:=h.db.fz.z6
 have z11:=h.db.fz.z11
 simp only [Nat.zero_add] at c4 c6 c11 z4 z6 z11
 have HH:Hid (DS b ao cp zs a t c es v w):=h
 clear h
 rcases hk with rfl | rfl | rfl
 iterate 3
  ·go_enter Tryz.func324,Tryz.ntmps324
   go_wp2
   go_ret
   exact ⟨rfl,⟨v,((HH.out.set6 0).set4 7).set11 (-1)⟩,((bel_at _ _ 6 _).trans (bel_at _ _ 4 _)).trans (bel_at _ _ 11 _)⟩
theorem end9_any {b:Nat} {ao:Option Addr} {cp:Nat} {zs:List Int} {a:Ac} {t:Int} {c:Cs} {es:List En} {v:Value} {w:World} (h:DS b ao cp zs a t c es v w) :
  Calls Tryz.prog 324 #[.pointer (some ⟨b,0,none⟩),.int .i64 9] w (DR b ao cp zs a t w (.int .i64 0) ⟨c.iss,c.acq,c.cur,c.am,7,c.rsn,c.cl,c.bk,c.fee,c.cop,c.sta,-1⟩ es):=by
 have c4:=h.db.cb.f4
 have c11:=h.db.cb.f11
 have z4:=h.db.fz.z4
 have z11:=h.db.fz.z11
 simp only [Nat.zero_add] at c4 c11 z4 z11
 have HH:Hid (DS b ao cp zs a t c es v w):=h
 clear h
 go_enter Tryz.func324,Tryz.ntmps324
 go_wp2
 go_ret
 exact ⟨rfl,⟨v,(HH.out.set4 7).set11 (-1)⟩,(bel_at _ _ 4 _).trans (bel_at _ _ 11 _)⟩
theorem shut_any {b:Nat} {ao:Option Addr} {cp:Nat} {zs:List Int} {a:Ac} {t:Int} {c:Cs} {es:List En} {v:Value} {w:World} (h:DS b ao cp zs a t c es v w) :
  Calls Tryz.prog 297 #[.pointer (some ⟨b,0,none⟩)] w (DR b ao cp zs a t w (.int .i64 0) ⟨c.iss,c.acq,c.cur,c.am,7,c.rsn,c.cl,c.bk,c.fee,c.cop,c.sta,-1⟩ es):=by
 have HH:Hid (DS b ao cp zs a t c es v w):=h
 clear h
 go_enter Tryz.func297,Tryz.ntmps297
 go_wp2_with fail
 refine (end9_any HH.out).mono ?_
 rintro e w1 ⟨rfl,D1,b1⟩
 go_wp2
 go_ret
 exact ⟨rfl,D1,b1⟩
theorem ask_any {b:Nat} {ao:Option Addr} {cp:Nat} {zs:List Int} {a:Ac} {t:Int} {c:Cs} {es:List En} {v:Value} {w:World} (h:DS b ao cp zs a t c es v w) (hn:zs.length≤1099511627776) :
  Calls Tryz.prog 288 #[.pointer (some ⟨b,0,none⟩)] w (DR b ao cp zs a t w (.int .i64 0) ⟨c.iss,c.acq,c.cur,c.am,1,c.rsn,c.cl,c.bk,c.fee,c.cop,c.sta,dueV t 20 zs⟩ es):=by
 have c4:=h.db.cb.f4
 have z4:=h.db.fz.z4
 simp only [Nat.zero_add] at c4 z4
 have HH:Hid (DS b ao cp zs a t c es v w):=h
 clear h
 go_enter Tryz.func288,Tryz.ntmps288
 go_wp2_with fail
 refine (dueIn_any (HH.out.set4 1) hn 4 20 rfl).mono ?_
 rintro e w1 ⟨rfl,D1,b1⟩
 have HD:Hid _:=D1
 have HB:Hid (Below b w w1):=(bel_at _ _ 4 _).trans b1
 clear D1 b1
 go_wp2
 go_ret
 exact ⟨rfl,HD.out,HB.out⟩
theorem give_any {b:Nat} {ao:Option Addr} {cp:Nat} {zs:List Int} {a:Ac} {t:Int} {c:Cs} {es:List En} {v:Value} {w:World} (h:DS b ao cp zs a t c es v w) :
  Calls Tryz.prog 289 #[.pointer (some ⟨b,0,none⟩)] w (DR b ao cp zs a t w (.int .i64 (if lateV t c.due=true then 4 else 0)) (if lateV t c.due=true then c else givenC c) es):=by
 have HH:Hid (DS b ao cp zs a t c es v w):=h
 have HL:Hid (b<w.heap.size):=h.lt
 have HQ:Hid (Calls Tryz.prog 318 #[.pointer (some ⟨b,0,none⟩)] w fun e w'=>e=.returned (.bool (lateV t c.due))∧Below w.heap.size w w'):=isLate_any h
 clear h
 cases hl:lateV t c.due
 ·rw [hl] at HQ
  clear hl
  rw [if_neg (by decide),if_neg (by decide)]
  go_enter Tryz.func289,Tryz.ntmps289
  go_wp2_with fail
  refine Calls.mono HQ.out ?_
  rintro e w1 ⟨rfl,b1⟩
  have HB:Hid (Below w.heap.size w w1):=b1
  clear b1
  go_wp2_with fail
  refine (endAsking_any (HH.out.below HB.out)).mono ?_
  rintro e w2 ⟨rfl,D2,b2⟩
  have HD:Hid _:=D2
  have HB2:Hid (Below b w w2):=(HB.out.mono (Nat.le_of_lt HL.out)).trans b2
  clear D2 b2
  go_wp2
  go_ret
  exact ⟨rfl,HD.out,HB2.out⟩
 ·rw [hl] at HQ
  clear hl
  rw [if_pos rfl,if_pos rfl]
  go_enter Tryz.func289,Tryz.ntmps289
  go_wp2_with fail
  refine Calls.mono HQ.out ?_
  rintro e w1 ⟨rfl,b1⟩
  have HB:Hid (Below w.heap.size w w1):=b1
  clear b1
  go_wp2
  go_ret
  exact ⟨rfl,⟨v,HH.out.below HB.out⟩,HB.out.mono (Nat.le_of_lt HL.out)⟩
theorem refuse_any {b:Nat} {ao:Option Addr} {cp:Nat} {zs:List Int} {a:Ac} {t:Int} {c:Cs} {es:List En} {v:Value} {w:World} (h:DS b ao cp zs a t c es v w) (hn:zs.length≤1099511627776) :
  Calls Tryz.prog 294 #[.pointer (some ⟨b,0,none⟩)] w (DR b ao cp zs a t w (.int .i64 (if lateV t c.due=true then 4 else 0)) (if lateV t c.due=true then c else ⟨c.iss,c.acq,c.cur,c.am,6,c.rsn,c.cl,c.bk,c.fee,c.cop,c.sta,dueV t 60 zs⟩) es):=by
 have HH:Hid (DS b ao cp zs a t c es v w):=h
 have HL:Hid (b<w.heap.size):=h.lt
 have HQ:Hid (Calls Tryz.prog 318 #[.pointer (some ⟨b,0,none⟩)] w fun e w'=>e=.returned (.bool (lateV t c.due))∧Below w.heap.size w w'):=isLate_any h
 clear h
 cases hl:lateV t c.due
 ·rw [hl] at HQ
  clear hl
  rw [if_neg (by decide),if_neg (by decide)]
  go_enter Tryz.func294,Tryz.ntmps294
  go_wp2_with fail
  refine Calls.mono HQ.out ?_
  rintro e w1 ⟨rfl,b1⟩
  have HB:Hid (Below w.heap.size w w1):=b1
  have h:=HH.out.below b1
  have c4:=h.db.cb.f4
  have z4:=h.db.fz.z4
  simp only [Nat.zero_add] at c4 z4
  have HH1:Hid (DS b ao cp zs a t c es v w1):=h
  clear b1 h
  go_wp2_with fail
  refine (dueIn_any (HH1.out.set4 6) hn 3 60 rfl).mono ?_
  rintro e w2 ⟨rfl,D2,b2⟩
  have HD:Hid _:=D2
  have HB2:Hid (Below b w w2):=((HB.out.mono (Nat.le_of_lt HL.out)).trans (bel_at _ _ 4 _)).trans b2
  clear D2 b2
  go_wp2
  go_ret
  exact ⟨rfl,HD.out,HB2.out⟩
 ·rw [hl] at HQ
  clear hl
  rw [if_pos rfl,if_pos rfl]
  go_enter Tryz.func294,Tryz.ntmps294
  go_wp2_with fail
  refine Calls.mono HQ.out ?_
  rintro e w1 ⟨rfl,b1⟩
  have HB:Hid (Below w.heap.size w w1):=b1
  clear b1
  go_wp2
  go_ret
  exact ⟨rfl,⟨v,HH.out.below HB.out⟩,HB.out.mono (Nat.le_of_lt HL.out)⟩
theorem sLine_any (F:Fns) (K:Known F) {Pre:Bk→Prop} (hsm:∀ b,Pre b→bkSm b) {Pay:Bk→Int→Int→Int→Int→Bk×Int→Prop} {Act:Bk→Int→Ac→Bk×Int} (ST:Steps Pre Pay Act) (b:Bk) (p:Bp) (line:List UInt8) (w:World) (hx:BookAt w b p) (hah:AhB p w.heap.size) (hp:Pre b) (hl:line.length≤1048575) :
  Calls Tryz.prog 84 #[bkv b p,.string ⟨line.toArray⟩] w fun e w'=>∃ r,LineRel F Pay Act b line r∧BdR w p r.1 r.2 e w':=by
 cases h1:isDay (wordsW line)
 case true=>exact sLineD_any F K hsm ST b p line w hx hah hp hl h1
 case false =>
  cases h2:isAuth (wordsW line)
  case true=>exact sLineA_any F K hsm ST b p line w hx hah hp hl ⟨h1,h2⟩
  case false =>
   cases h3:isPay (wordsW line)
   case true=>exact sLineP_any F K hsm ST b p line w hx hah hp hl ⟨h1,h2,h3⟩
   case false=>exact sLineX_any F K hsm ST b p line w hx hah hp hl ⟨h1,h2,h3⟩
end Go.Proofs.YtomiclakhjncbaaGreatDoor
