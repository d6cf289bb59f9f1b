import Derived.Test.YtomiclakhjncbaaGreatDoorJT3a
namespace Go.Proofs.YtomiclakhjncbaaGreatDoor
open Go.RowKit Go.Proofs.Tryz
set_option maxRecDepth 100000
set_option maxHeartbeats 12800000
theorem Hn {b:Nat} {i:Option Addr} {j:Nat} {zs:List Int} {a:Ac} {t:Int} {c:Cs} {es:List En} {v:Value} {w:World} (h:DS b i j zs a t c es v w) :
  Calls prog 318 #[.pointer (some (qzA b 0))] w fun e w'=>e=.returned (.bool (Bv t c.due))/\BW w w':=by
 have S:=h.db.td;have A:=h.db.cb.f11
 simp only [Nat.zero_add] at A
 obtain ⟨d,hd⟩:∃ d,c.due=d:=⟨_,rfl⟩;rw [hd] at A ⊢;clear h hd
 go_enter func318,ntmps318
 go_wp2
 go_quiet (exact Calls.quiet_of_same (N2 _ _ _))
 all_goals
  go_wp2;go_ret;exact ⟨rfl,below_drewN bR _⟩
theorem Is {b:Nat} {i:Option Addr} {j:Nat} {zs:List Int} {a:Ac} {t:Int} {c:Cs} {es:List En} {v:Value} {w:World} (h:DS b i j zs a t c es v w) (hn:zs.length<=1099511627776) (k:Int) (n:Int) (hk:Ki k=n) :
  Calls prog 317 #[.pointer (some (qzA b 0)),qzI k] w (DR b i j zs a t w (.tuple #[]) ⟨c.iss,c.acq,c.cur,c.am,c.st,c.rsn,c.cl,c.bk,c.fee,c.cop,c.sta,C6 t n zs⟩ es):=by
 have S:=h.db.td;have a4:=h.db.ho
 have J:Hid (∀ u,BW w u->DS b i j zs a t c es v u):=fun u l=>h.below l
 have HS:Hid (∀ u,BW w u->Calls prog 331 #[qzI k] u fun e w'=>e=.returned (qzI n)/\w'=u):=fun u l=>by
  have g:=dS k u (h.below l).env.tab;rw [hk] at g;exact g
 have L:Hid (∀ u,BW w u->Calls prog 330 #[qzI t,qzI n,.slice i zs.length j] u fun e w'=>e=.returned (qzI (C6 t n zs))/\BW u w'):=fun u l=>Wi t n i j zs u (h.below l).offs hn
 have r:Hid (b<w.heap.size):=h.lt;obtain ⟨x,H⟩:∃ x,C6 t n zs=x:=⟨_,rfl⟩;rw [H] at L ⊢;clear H h hk;have p:BW w w:=bR
 go_enter func317,ntmps317
 go_wp2_with fail
 go_region_with (first
  | (go_at_call 331;(first | with_reducible refine (HS.o _ p).mono ?_ | with_reducible refine (HS.o _ p.drew).mono ?_);rintro e u1 ⟨rfl,l⟩;rw [l];clear l)
  | (go_at_call 330;(first | with_reducible refine (L.o _ p).mono ?_ | with_reducible refine (L.o _ p.drew).mono ?_);rintro e q ⟨rfl,R⟩;(first | (have z:Hid (BW w q):=next p.drew R) | (have z:Hid (BW w q):=next p R));have Z:=(J.o q z.o).db.cb.f11;have a3:=(J.o q z.o).db.fz.z11;simp only [Nat.zero_add] at Z a3;clear R))
 all_goals
  go_wp2;go_end0;exact ⟨rfl,⟨v,(J.o q z.o).set11 x⟩,(z.o.mono (Nat.le_of_lt r.o)).trans (Bn q b 11 _)⟩
theorem J1 {b:Nat} {i:Option Addr} {j:Nat} {zs:List Int} {a:Ac} {t:Int} {c:Cs} {es:List En} {v:Value} {w:World} (h:DS b i j zs a t c es v w) (hl:es.length<=100) (f g s:Int) :
  Calls prog 321 #[.pointer (some (qzA b 0)),qzI f,qzI g,qzI s] w (DR b i j zs a t w (.tuple #[]) c (H0 c es f g s)):=by
 by_cases hs:0<s
 ·have G:Hid (H0 c es f g s=es++[(f,g,c.cur,s)]):=if_pos hs
  have F:Hid (DS b i j zs a t c es v w):=h;have T:=h.db.he;have c2:=h.db.cb.f2
  simp only [Nat.zero_add] at c2
  obtain ⟨cu,B⟩:∃ x,c.cur=x:=⟨_,rfl⟩;rw [B] at c2 G;have HO:Hid (w.ownsRow (b+1) 269 4 v es.length (Ba es)):=h.own;have r:Hid (b<w.heap.size):=h.lt
  have N:Hid (some b≠v.ownBlock):=fun e=>Bj h.own b e.symm rfl
  have k1:∀ o,(w.alloc o).cell? (qzA b 17)=some v:=fun o=>(h.db.below (bR.alloc nL o)).he
  have k2:∀ o,(w.drew.alloc o).cell? (qzA b 17)=some v:=fun o=>(h.db.below ((bR.drew).alloc nL o)).he
  obtain ⟨i0,hi,W,X,Y⟩:=Kd;clear h B
  go_enter func321,ntmps321
  go_wp2_with fail
  go_region_law (refine Jg rfl (.tmp 14) (.tmp 24) 216 rfl (b+1) 269 i0 _ 4 32 underlying216 hi W X Y rfl (by decide) v es.length (Ba es) (by simp [Act.eval]) (Av HO.o ((bR.drew).alloc nL _)) ⟨w.heap.size,0,none⟩ 1 1 [qzI f,qzI g,qzI cu,qzI s] (by simp [Act.eval]) rfl (World.news_of_block (heap_alloc_new w.drew _)) (Q1 f g cu s) (by unfold maxLen;omega) (by omega) (by have:=r.o;simp;omega) ?_
                 intro v5 I o5 U _
                 have D:I.ownsRow (b+1) 269 4 v5 (es++[(f,g,cu,s)]).length (Ba (es++[(f,g,cu,s)])):=(by rw [Lt,List.length_append];exact o5)
                 obtain ⟨a5,n5,V,-,-⟩:=Gh D;subst V
                 have C:(es++[(f,g,cu,s)]).length=es.length+1:=(by simp)
                 rw [C] at D ⊢;have O:Hid (I.ownsRow (b+1) 269 4 (.slice a5 (es.length+1) n5) (es.length+1) (Ba (es++[(f,g,cu,s)]))):=D;clear C;have m:Hid (DB b c a t (.slice i zs.length j) v I):=(F.o.db.below ((bR.drew).alloc nL _)).grown U N.o
                 have y:Hid (Below b w I):=((bR.drew).alloc (Nat.le_of_lt r.o) _).grown U (by have:=r.o;simp;omega) (fun x H=>by have:=(HO.o.lt x H).1;omega)
                 have M:Hid (∀ x,(Value.slice a5 (es.length+1) n5).ownBlock=some x->x≠b):=Bj D;have a6:=m.o.he;have a7:=m.o.fe;clear o5 D U k1 k2 T c2)
  all_goals
   go_wp2;go_end0
   exact ⟨rfl,⟨_,⟨m.o.set17 _,by rw [G.o,show (es++[(f,g,cu,s)]).length=es.length+1 from by simp];exact A5 O.o (qzA b 17) _ M.o,(F.o.env.keep y.o).keep (Bn _ _ _ _)⟩⟩,y.o.trans (Bn _ _ _ _)⟩
 ·have G:Hid (H0 c es f g s=es):=if_neg hs
  have F:Hid (DS b i j zs a t c es v w):=h;clear h
  go_enter func321,ntmps321
  go_wp2;go_end0
  exact ⟨rfl,⟨v,by rw [G.o];exact F.o⟩,bR⟩
end Go.Proofs.YtomiclakhjncbaaGreatDoor
