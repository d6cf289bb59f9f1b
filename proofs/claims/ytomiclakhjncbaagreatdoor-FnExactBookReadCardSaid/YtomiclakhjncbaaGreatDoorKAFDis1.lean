import Derived.Test.YtomiclakhjncbaaGreatDoorJA4a
import Derived.Deep.DeepCutAuto
import Derived.Deep.RegionHeld3
import Derived.Deep.RegionLaw
import Derived.Deep.RegionWith
namespace Go.Proofs.YtomiclakhjncbaaGreatDoor
open Go.RowKit
set_option maxRecDepth 100000
set_option maxHeartbeats 12800000
theorem isLate_any {b:Nat} {ao:Option Addr} {cp:Nat} {zs:List Int} {a:Ac} {t:Int} {c:Cs} {es:List En} {v:Value} {w:World} (h:DS b ao cp zs a t c es v w) :
  Calls Tryz.prog 318 #[.pointer (some ⟨b,0,none⟩)] w fun e w'=>e=.returned (.bool (lateV t c.due))∧Below w.heap.size w w':=by
 have c15:=h.db.td
 have c11:=h.db.cb.f11
 simp only [Nat.zero_add] at c11
 obtain ⟨d,hd⟩:∃ d,c.due=d:=⟨_,rfl⟩
 rw [hd] at c11 ⊢
 clear h hd
 go_enter Tryz.func318,Tryz.ntmps318
 go_wp2
 go_quiet (exact Calls.quiet_of_same (iLate_any _ _ _))
 all_goals
  go_wp2
  go_ret
  exact ⟨rfl,below_drewN (Below.refl _ _) _⟩
theorem dueIn_any {b:Nat} {ao:Option Addr} {cp:Nat} {zs:List Int} {a:Ac} {t:Int} {c:Cs} {es:List En} {v:Value} {w:World} (h:DS b ao cp zs a t c es v w) (hn:zs.length≤1099511627776) (k:Int) (n:Int) (hk:stepV k=n) :
  Calls Tryz.prog 317 #[.pointer (some ⟨b,0,none⟩),.int .i64 k] w (DR b ao cp zs a t w (.tuple #[]) ⟨c.iss,c.acq,c.cur,c.am,c.st,c.rsn,c.cl,c.bk,c.fee,c.cop,c.sta,dueV t n zs⟩ es):=by
 have c15:=h.db.td
 have c16:=h.db.ho
 have HD:Hid (∀ u,Below w.heap.size w u→DS b ao cp zs a t c es v u):=fun u hu=>h.below hu
 have HS:Hid (∀ u,Below w.heap.size w u→Calls Tryz.prog 331 #[.int .i64 k] u fun e w'=>e=.returned (.int .i64 n)∧w'=u):=fun u hu=>by
  have g:=iStep_any k u (h.below hu).env.tab
  rw [hk] at g
  exact g
 have HL:Hid (∀ u,Below w.heap.size w u→Calls Tryz.prog 330 #[.int .i64 t,.int .i64 n,.slice ao zs.length cp] u fun e w'=>e=.returned (.int .i64 (dueV t n zs))∧Below u.heap.size u w'):=fun u hu=>iDue_any t n ao cp zs u (h.below hu).offs hn
 have HB:Hid (b<w.heap.size):=h.lt
 obtain ⟨x,hx⟩:∃ x,dueV t n zs=x:=⟨_,rfl⟩
 rw [hx] at HL ⊢
 clear hx h hk
 have b0:Below w.heap.size w w:=Below.refl _ _
 go_enter Tryz.func317,Tryz.ntmps317
 go_wp2_with fail
 go_region_with (first
  | (go_at_call 331;(first | with_reducible refine (HS.out _ b0).mono ?_ | with_reducible refine (HS.out _ b0.drew).mono ?_);rintro e u1 ⟨rfl,hu⟩;rw [hu];clear hu)
  | (go_at_call 330;(first | with_reducible refine (HL.out _ b0).mono ?_ | with_reducible refine (HL.out _ b0.drew).mono ?_);rintro e u2 ⟨rfl,b2⟩;(first | (have HU:Hid (Below w.heap.size w u2):=next b0.drew b2) | (have HU:Hid (Below w.heap.size w u2):=next b0 b2));have q11:=(HD.out u2 HU.out).db.cb.f11;have y11:=(HD.out u2 HU.out).db.fz.z11;simp only [Nat.zero_add] at q11 y11;clear b2))
 all_goals
  go_wp2
  go_end0
  exact ⟨rfl,⟨v,(HD.out u2 HU.out).set11 x⟩,(HU.out.mono (Nat.le_of_lt HB.out)).trans (bel_at u2 b 11 _)⟩
theorem move_any {b:Nat} {ao:Option Addr} {cp:Nat} {zs:List Int} {a:Ac} {t:Int} {c:Cs} {es:List En} {v:Value} {w:World} (h:DS b ao cp zs a t c es v w) (hl:es.length≤100) (f g s:Int) :
  Calls Tryz.prog 321 #[.pointer (some ⟨b,0,none⟩),.int .i64 f,.int .i64 g,.int .i64 s] w (DR b ao cp zs a t w (.tuple #[]) c (moved c es f g s)):=by
 by_cases hs:0<s
 ·have HM:Hid (moved c es f g s=es++[(f,g,c.cur,s)]):=if_pos hs
  have HH:Hid (DS b ao cp zs a t c es v w):=h
  have c17:=h.db.he
  have c2:=h.db.cb.f2
  simp only [Nat.zero_add] at c2
  obtain ⟨cu,hcu⟩:∃ x,c.cur=x:=⟨_,rfl⟩
  rw [hcu] at c2 HM
  have HO:Hid (w.ownsRow (b+1) 269 4 v es.length (ecells es)):=h.own
  have HB:Hid (b<w.heap.size):=h.lt
  have HNE:Hid (some b≠v.ownBlock):=fun e=>own_ne h.own b e.symm rfl
  have k1:∀ o,(w.alloc o).cell? ⟨b,17,none⟩=some v:=fun o=>(h.db.below ((Below.refl _ _).alloc (Nat.le_refl _) o)).he
  have k2:∀ o,(w.drew.alloc o).cell? ⟨b,17,none⟩=some v:=fun o=>(h.db.below (((Below.refl _ _).drew).alloc (Nat.le_refl _) o)).he
  obtain ⟨i0,hi,hz0,hz1,hz2⟩:=infoE_parts
  clear h hcu
  go_enter Tryz.func321,Tryz.ntmps321
  go_wp2_with fail
  go_region_law (refine step_app_own rfl (.tmp 14) (.tmp 24) 216 rfl (b+1) 269 i0 _ 4 32 Tryz.underlying216 hi hz0 hz1 hz2 rfl (by decide) v es.length (ecells es) (by simp [Act.eval]) (keepL HO.out (((Below.refl _ _).drew).alloc (Nat.le_refl _) _)) ⟨w.heap.size,0,none⟩ 1 1 [.int .i64 f,.int .i64 g,.int .i64 cu,.int .i64 s] (by simp [Act.eval]) rfl (World.news_of_block (heap_alloc_new w.drew _)) (four_one f g cu s) (by unfold maxLen;omega) (by omega) (by have:=HB.out;simp;omega) ?_
                 intro v5 w5 o5 g5 _
                 have o6:w5.ownsRow (b+1) 269 4 v5 (es++[(f,g,cu,s)]).length (ecells (es++[(f,g,cu,s)])):=(by rw [ecells_app,List.length_append];exact o5)
                 obtain ⟨a5,n5,hv5,-,-⟩:=ents_of_own o6
                 subst hv5
                 have hl5:(es++[(f,g,cu,s)]).length=es.length+1:=(by simp)
                 rw [hl5] at o6 ⊢
                 have HO5:Hid (w5.ownsRow (b+1) 269 4 (.slice a5 (es.length+1) n5) (es.length+1) (ecells (es++[(f,g,cu,s)]))):=o6
                 clear hl5
                 have HD5:Hid (DB b c a t (.slice ao zs.length cp) v w5):=(HH.out.db.below (((Below.refl _ _).drew).alloc (Nat.le_refl _) _)).grown g5 HNE.out
                 have HE5:Hid (Below b w w5):=(((Below.refl _ _).drew).alloc (Nat.le_of_lt HB.out) _).grown g5 (by have:=HB.out;simp;omega) (fun x hx=>by have:=(HO.out.lt x hx).1;omega)
                 have HN5:Hid (∀ x,(Value.slice a5 (es.length+1) n5).ownBlock=some x→x≠b):=own_ne o6
                 have q17:=HD5.out.he
                 have y17:=HD5.out.fe
                 clear o5 o6 g5 k1 k2 c17 c2)
  all_goals
   go_wp2
   go_end0
   exact ⟨rfl,⟨_,⟨HD5.out.set17 _,by rw [HM.out,show (es++[(f,g,cu,s)]).length=es.length+1 from by simp];exact keepSetL HO5.out ⟨b,17,none⟩ _ HN5.out,(HH.out.env.keep HE5.out).keep (bel_at _ _ _ _)⟩⟩,HE5.out.trans (bel_at _ _ _ _)⟩
 ·have HM:Hid (moved c es f g s=es):=if_neg hs
  have HH:Hid (DS b ao cp zs a t c es v w):=h
  clear h
  go_enter Tryz.func321,Tryz.ntmps321
  go_wp2
  go_end0
  exact ⟨rfl,⟨v,by rw [HM.out];exact HH.out⟩,Below.refl _ _⟩
end Go.Proofs.YtomiclakhjncbaaGreatDoor
