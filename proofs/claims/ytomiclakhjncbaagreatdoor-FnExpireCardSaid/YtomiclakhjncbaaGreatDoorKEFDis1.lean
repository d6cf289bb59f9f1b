import Derived.Test.YtomiclakhjncbaaGreatDoorJE2b
namespace Go.Proofs.YtomiclakhjncbaaGreatDoor
open Go.RowKit Go.Proofs.Tryz
set_option maxRecDepth 100000
set_option maxHeartbeats 12800000
theorem Hn {b:Nat} {ao:Option Addr} {cp:Nat} {zs:List Int} {a:Ac} {t:Int} {c:Cs} {es:List En} {v:Value} {w:World} (h:DS b ao cp zs a t c es v w) :
  Calls prog 318 #[.pointer (some ⟨b,0,none⟩)] w fun e w'=>e=.returned (.bool (Bv t c.due))∧BW w w':=by
 have c15:=h.db.td;have c11:=h.db.cb.f11
 simp only [Nat.zero_add] at c11
 obtain ⟨d,hd⟩:∃ d,c.due=d:=⟨_,rfl⟩;rw [hd] at c11 ⊢;clear h hd
 go_enter func318,ntmps318
 go_wp2
 go_quiet (exact Calls.quiet_of_same (N2 _ _ _))
 all_goals
  go_wp2;go_ret;exact ⟨rfl,below_drewN bR _⟩
theorem Is {b:Nat} {ao:Option Addr} {cp:Nat} {zs:List Int} {a:Ac} {t:Int} {c:Cs} {es:List En} {v:Value} {w:World} (h:DS b ao cp zs a t c es v w) (hn:zs.length≤1099511627776) (k:Int) (n:Int) (hk:Ki k=n) :
  Calls prog 317 #[.pointer (some ⟨b,0,none⟩),.int .i64 k] w (DR b ao cp zs a t w (.tuple #[]) ⟨c.iss,c.acq,c.cur,c.am,c.st,c.rsn,c.cl,c.bk,c.fee,c.cop,c.sta,C6 t n zs⟩ es):=by
 have c15:=h.db.td;have c16:=h.db.ho
 have HD:Hid (∀ u,BW w u→DS b ao cp zs a t c es v u):=fun u hu=>h.below hu
 have HS:Hid (∀ u,BW w u→Calls prog 331 #[.int .i64 k] u fun e w'=>e=.returned (.int .i64 n)∧w'=u):=fun u hu=>by
  have g:=dS k u (h.below hu).env.tab;rw [hk] at g;exact g
 have HL:Hid (∀ u,BW w u→Calls prog 330 #[.int .i64 t,.int .i64 n,.slice ao zs.length cp] u fun e w'=>e=.returned (.int .i64 (C6 t n zs))∧BW u w'):=fun u hu=>Wi t n ao cp zs u (h.below hu).offs hn
 have HB:Hid (b<w.heap.size):=h.lt;obtain ⟨x,hx⟩:∃ x,C6 t n zs=x:=⟨_,rfl⟩;rw [hx] at HL ⊢;clear hx h hk;have b0:BW w w:=bR
 go_enter func317,ntmps317
 go_wp2_with fail
 go_region_with (first
  | (go_at_call 331;(first | with_reducible refine (HS.o _ b0).mono ?_ | with_reducible refine (HS.o _ b0.drew).mono ?_);rintro e u1 ⟨rfl,hu⟩;rw [hu];clear hu)
  | (go_at_call 330;(first | with_reducible refine (HL.o _ b0).mono ?_ | with_reducible refine (HL.o _ b0.drew).mono ?_);rintro e u2 ⟨rfl,b2⟩;(first | (have HU:Hid (BW w u2):=next b0.drew b2) | (have HU:Hid (BW w u2):=next b0 b2));have q11:=(HD.o u2 HU.o).db.cb.f11;have y11:=(HD.o u2 HU.o).db.fz.z11;simp only [Nat.zero_add] at q11 y11;clear b2))
 all_goals
  go_wp2;go_end0;exact ⟨rfl,⟨v,(HD.o u2 HU.o).set11 x⟩,(HU.o.mono (Nat.le_of_lt HB.o)).trans (Bn u2 b 11 _)⟩
theorem J1 {b:Nat} {ao:Option Addr} {cp:Nat} {zs:List Int} {a:Ac} {t:Int} {c:Cs} {es:List En} {v:Value} {w:World} (h:DS b ao cp zs a t c es v w) (hl:es.length≤100) (f g s:Int) :
  Calls prog 321 #[.pointer (some ⟨b,0,none⟩),.int .i64 f,.int .i64 g,.int .i64 s] w (DR b ao cp zs a t w (.tuple #[]) c (H0 c es f g s)):=by
 by_cases hs:0<s
 ·have HM:Hid (H0 c es f g s=es++[(f,g,c.cur,s)]):=if_pos hs
  have HH:Hid (DS b ao cp zs a t c es v w):=h;have c17:=h.db.he;have c2:=h.db.cb.f2
  simp only [Nat.zero_add] at c2
  obtain ⟨cu,hcu⟩:∃ x,c.cur=x:=⟨_,rfl⟩;rw [hcu] at c2 HM;have HO:Hid (w.ownsRow (b+1) 269 4 v es.length (Ba es)):=h.own;have HB:Hid (b<w.heap.size):=h.lt
  have HNE:Hid (some b≠v.ownBlock):=fun e=>Bj h.own b e.symm rfl
  have k1:∀ o,(w.alloc o).cell? ⟨b,17,none⟩=some v:=fun o=>(h.db.below (bR.alloc nL o)).he
  have k2:∀ o,(w.drew.alloc o).cell? ⟨b,17,none⟩=some v:=fun o=>(h.db.below ((bR.drew).alloc nL o)).he
  obtain ⟨i0,hi,hz0,hz1,hz2⟩:=Kd;clear h hcu
  go_enter func321,ntmps321
  go_wp2_with fail
  go_region_law (refine Jg rfl (.tmp 14) (.tmp 24) 216 rfl (b+1) 269 i0 _ 4 32 underlying216 hi hz0 hz1 hz2 rfl (by decide) v es.length (Ba es) (by simp [Act.eval]) (Av HO.o ((bR.drew).alloc nL _)) ⟨w.heap.size,0,none⟩ 1 1 [.int .i64 f,.int .i64 g,.int .i64 cu,.int .i64 s] (by simp [Act.eval]) rfl (World.news_of_block (heap_alloc_new w.drew _)) (Q1 f g cu s) (by unfold maxLen;omega) (by omega) (by have:=HB.o;simp;omega) ?_
                 intro v5 w5 o5 g5 _
                 have o6:w5.ownsRow (b+1) 269 4 v5 (es++[(f,g,cu,s)]).length (Ba (es++[(f,g,cu,s)])):=(by rw [Lt,List.length_append];exact o5)
                 obtain ⟨a5,n5,hv5,-,-⟩:=Gh o6;subst hv5
                 have hl5:(es++[(f,g,cu,s)]).length=es.length+1:=(by simp)
                 rw [hl5] at o6 ⊢;have HO5:Hid (w5.ownsRow (b+1) 269 4 (.slice a5 (es.length+1) n5) (es.length+1) (Ba (es++[(f,g,cu,s)]))):=o6;clear hl5;have HD5:Hid (DB b c a t (.slice ao zs.length cp) v w5):=(HH.o.db.below ((bR.drew).alloc nL _)).grown g5 HNE.o
                 have HE5:Hid (Below b w w5):=((bR.drew).alloc (Nat.le_of_lt HB.o) _).grown g5 (by have:=HB.o;simp;omega) (fun x hx=>by have:=(HO.o.lt x hx).1;omega)
                 have HN5:Hid (∀ x,(Value.slice a5 (es.length+1) n5).ownBlock=some x→x≠b):=Bj o6;have q17:=HD5.o.he;have y17:=HD5.o.fe;clear o5 o6 g5 k1 k2 c17 c2)
  all_goals
   go_wp2;go_end0
   exact ⟨rfl,⟨_,⟨HD5.o.set17 _,by rw [HM.o,show (es++[(f,g,cu,s)]).length=es.length+1 from by simp];exact A5 HO5.o ⟨b,17,none⟩ _ HN5.o,(HH.o.env.keep HE5.o).keep (Bn _ _ _ _)⟩⟩,HE5.o.trans (Bn _ _ _ _)⟩
 ·have HM:Hid (H0 c es f g s=es):=if_neg hs
  have HH:Hid (DS b ao cp zs a t c es v w):=h;clear h
  go_enter func321,ntmps321
  go_wp2;go_end0
  exact ⟨rfl,⟨v,by rw [HM.o];exact HH.o⟩,bR⟩
end Go.Proofs.YtomiclakhjncbaaGreatDoor
