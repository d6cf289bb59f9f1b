import Derived.Test.YtfpafnefpmmofaaGreatDoorJW3b
namespace Go.Proofs.YtfpafnefpmmofaaGreatDoor
open Go.RowKit Go.Proofs.Tryz
set_option maxRecDepth 100000
set_option maxHeartbeats 12800000
theorem Jv {b:Nat} {ao:qm} {i:Nat} {zs:List Int} {a:Ac} {t:Int} {c:Cs} {es:List En} {v:Value} {w:ql} (h:DS b ao i zs a t c es v w) :
  qi 320 #[qh b] w (qp (.bool (Cr t c.due)) w):=by
 have S:=h.db.td;have A:=h.db.cb.f11
 simp only [qu] at A
 obtain ⟨d,hd⟩:=Ae c.due;rw [hd] at A ⊢;clear h hd
 go_enter func320,ntmps320
 go_wp2
 go_quiet (exact Calls.quiet_of_same (Zr _ _ _))
 all_goals
  go_wp2;go_ret;exact ⟨rfl,below_drewN bR _⟩
theorem Ls {b:Nat} {ao:qm} {i:Nat} {zs:List Int} {a:Ac} {t:Int} {c:Cs} {es:List En} {v:Value} {w:ql} (h:DS b ao i zs a t c es v w) (hn:zs.length<=1099511627776) (k:Int) (n:Int) (hk:N4 k=n) :
  qi 319 #[qh b,qzI k] w (DR b ao i zs a t w (.tuple #[]) ⟨c.iss,c.acq,c.cur,c.am,c.st,c.rsn,c.cl,c.bk,c.fee,c.cop,c.sta,Dt t n zs⟩ es):=by
 have S:=h.db.td;have a4:=h.db.ho
 have J:qj (∀ u,BW w u->DS b ao i zs a t c es v u):=λu j=>h.below j
 have HS:qj (∀ u,BW w u->qi 345 #[qzI k] u λe w'=>e=.returned (qzI n)/\w'=u):=λu j=>by
  have g:=xN k u (h.below j).env.tab;rw [hk] at g;exact g
 have L:qj (∀ u,BW w u->qi 344 #[qzI t,qzI n,qf ao zs.length i] u λe w'=>e=.returned (qzI (Dt t n zs))/\BW u w'):=λu j=>gF t n ao i zs u (h.below j).offs hn
 have r:=Aa h.lt;obtain ⟨x,H⟩:=Ae (Dt t n zs);rw [H] at L ⊢;clear H h hk;have p:BW w w:=bR
 go_enter func319,ntmps319
 go_wp2_with fail
 go_region_with (first
  | (go_at_call 345;(first|with_reducible refine (HS.o _ p).m ?_|with_reducible refine (HS.o _ p.drew).m ?_);rintro e u1 ⟨rfl,j⟩;rw [j];clear j)
  | (go_at_call 344;(first|with_reducible refine (L.o _ p).m ?_|with_reducible refine (L.o _ p.drew).m ?_);rintro e I ⟨rfl,R⟩;(first|(have z:=Aa (next p.drew R))|(have z:=Aa (next p R)));have Z:=(J.o I z.o).db.cb.f11;have a3:=(J.o I z.o).db.fz.z11;simp only [qu] at Z a3;clear R))
 all_goals
  go_wp2;go_end0;exact ⟨rfl,⟨v,(J.o I z.o).set11 x⟩,(z.o.m (jb r.o)).t (Bv I b 11 _)⟩
theorem Od {b:Nat} {ao:qm} {i:Nat} {zs:List Int} {a:Ac} {t:Int} {c:Cs} {es:List En} {v:Value} {w:ql} (h:DS b ao i zs a t c es v w) (hl:es.length<=100) (f g s:Int) :
  qi 323 #[qh b,qzI f,qzI g,qzI s] w (DR b ao i zs a t w (.tuple #[]) c (Ku c es f g s)):=by
 by_cases hs:0<s
 ·have G:qj (Ku c es f g s=es++[(f,g,c.cur,s)]):=if_pos hs
  have F:=Aa h;have T:=h.db.he;have c2:=h.db.cb.f2
  simp only [qu] at c2
  obtain ⟨q,B⟩:=Ae c.cur;rw [B] at c2 G;have HO:=Aa h.own;have r:=Aa h.lt
  have N:qj (some b≠v.ownBlock):=λe=>A7 h.own b e.s rfl
  have k1:∀ o,(w.alloc o).cell? (qzA b 17)=some v:=λo=>(h.db.below (bR.alloc nL o)).he
  have k2:∀ o,(w.drew.alloc o).cell? (qzA b 17)=some v:=λo=>(h.db.below ((bR.drew).alloc nL o)).he
  obtain ⟨i0,hi,W,X,Y⟩:=Nu;clear h B
  go_enter func323,ntmps323
  go_wp2_with fail
  go_region_law (refine Mx rfl (.tmp 14) (.tmp 24) 178 rfl (b+1) 217 i0 _ 4 32 underlying178 hi W X Y rfl (by decide) v es.length (B9 es) (by simp [Act.eval]) (A5 HO.o ((bR.drew).alloc nL _)) ⟨w.heap.size,0,none⟩ 1 1 [qzI f,qzI g,qzI q,qzI s] (by simp [Act.eval]) rfl (World.news_of_block (heap_alloc_new w.drew _)) (X9 f g q s) (by unfold maxLen;omega) (by omega) (by have:=r.o;simp;omega) ?_
                 intro v5 w5 o5 U _
                 have D:w5.ownsRow (b+1) 217 4 v5 (es++[(f,g,q,s)]).length (B9 (es++[(f,g,q,s)])):=(by rw [Qp,qv];exact o5)
                 obtain ⟨a5,n5,V,-,-⟩:=Ik D;subst V
                 have C:(es++[(f,g,q,s)]).length=es.length+1:=(by simp)
                 rw [C] at D ⊢;have O:=Aa D;clear C;have l:=Aa ((F.o.db.below ((bR.drew).alloc nL _)).grown U N.o)
                 have y:=Aa (((bR.drew).alloc (jb r.o) _).grown U (by have:=r.o;simp;omega) (λx H=>by have:=(HO.o.lt x H).1;omega))
                 have M:=Aa (A7 D);have a6:=l.o.he;have a7:=l.o.fe;clear o5 D U k1 k2 T c2)
  all_goals
   go_wp2;go_end0
   exact ⟨rfl,⟨_,⟨l.o.set17 _,by rw [G.o,show (es++[(f,g,q,s)]).length=es.length+1 from by simp];exact Bf O.o (qzA b 17) _ M.o,(F.o.env.keep y.o).keep (Bv _ _ _ _)⟩⟩,y.o.t (Bv _ _ _ _)⟩
 ·have G:qj (Ku c es f g s=es):=if_neg hs
  have F:=Aa h;clear h
  go_enter func323,ntmps323
  go_wp2;go_end0
  exact ⟨rfl,⟨v,by rw [G.o];exact F.o⟩,bR⟩
end Go.Proofs.YtfpafnefpmmofaaGreatDoor
