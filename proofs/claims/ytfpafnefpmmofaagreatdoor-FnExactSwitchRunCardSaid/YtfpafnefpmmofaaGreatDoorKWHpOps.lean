import Derived.Test.YtfpafnefpmmofaaGreatDoorJW1d
namespace Go.Proofs.YtfpafnefpmmofaaGreatDoor
open Go.RowKit Go.Proofs.Tryz
set_option maxRecDepth 100000
set_option maxHeartbeats 12800000
def St (a b:Int):Int:=if a<b then -1 else if b<a then 1 else 0
def orC (x y:Int):Int:=if x≠0 then x else y
theorem Aho (x y:Cd):decide (orC (St x.1 y.1) (St x.2 y.2)<0)=Qa x y:=by
 unfold Qa;apply decide_eq_decide.2;unfold orC St
 by_cases h1:x.1<y.1
 ·simp [h1]
 ·by_cases h2:y.1<x.1
  ·have D:¬ (x.1=y.1):=by omega
   simp [h1,h2,D]
  ·have D:x.1=y.1:=by omega
   simp [D]
   by_cases h4:x.2<y.2
   ·simp [h4]
   ·by_cases h5:y.2<x.2
    ·simp [h4,h5]
    ·simp [h4,h5]
theorem Qk (a:Int) (w:ql):qi 370 #[.int .i64 a] w λe w'=>e=.returned (.bool false)/\w'=w:=by
 go_enter func370,ntmps370
 go_wp2;go_ret
 exact ⟨Ab (by simp),rfl⟩
theorem Rg (a b:Int) (w:ql):qi 363 #[.int .i64 a,.int .i64 b] w λe w'=>e=.returned (.int .i64 (St a b))/\w'=w:=by
 by_cases h1:a<b
 ·have c:qj (St a b = -1):=if_pos h1
  go_enter func363,ntmps363
  go_wp2_with (go_at_call 370;refine (Qk _ _).m ?_;rintro e w' ⟨rfl,rfl⟩)
  go_ret;exact ⟨Af c.o.s,rfl⟩
 ·by_cases h2:b<a
  ·have c:qj (St a b=1):=by rw [qj,St,if_neg h1,if_pos h2]
   go_enter func363,ntmps363
   go_wp2_with (go_at_call 370;refine (Qk _ _).m ?_;rintro e w' ⟨rfl,rfl⟩)
   go_ret;exact ⟨Af c.o.s,rfl⟩
  ·have c:qj (St a b=0):=by rw [qj,St,if_neg h1,if_neg h2]
   go_enter func363,ntmps363
   go_wp2_with (go_at_call 370;refine (Qk _ _).m ?_;rintro e w' ⟨rfl,rfl⟩)
   go_ret;exact ⟨Af c.o.s,rfl⟩
theorem Aeh (g:Nat) (x y:Int) (w:ql) (c0:w.cell? (qzA g 0)=some (.int .i64 x)) (c1:w.cell? (qzA g 1)=some (.int .i64 y)) :
  qi 362 #[qf (some (qzA g 0)) 2 2] w λe w'=>e=.returned (.int .i64 (orC x y))/\w'=w:=by
 by_cases h1:x=0
 ·have B:(x != 0)=false:=by simpa using h1
  by_cases h2:y=0
  ·have C:(y != 0)=false:=by simpa using h2
   have c:qj ((orC x y)=0):=by rw [qj,orC,if_neg (λh=>h h1),h2]
   clear h1 h2
   go_enter func362,ntmps362
   go_wp2;refine wp_loop_rounds 3 ?_;rw [rounds_succ];go_wp2;rw [rounds_succ];go_wp2;rw [rounds_succ];go_wp2;go_ret;exact ⟨Af c.o.s,rfl⟩
  ·have C:(y != 0)=true:=by simpa using h2
   have c:qj ((orC x y)=y):=by rw [qj,orC,if_neg (λh=>h h1)]
   clear h1 h2
   go_enter func362,ntmps362
   go_wp2;refine wp_loop_rounds 2 ?_;rw [rounds_succ];go_wp2;rw [rounds_succ];go_wp2;go_ret;exact ⟨Af c.o.s,rfl⟩
 ·have B:(x != 0)=true:=by simpa using h1
  have c:qj ((orC x y)=x):=by rw [qj,orC,if_pos h1]
  clear h1
  go_enter func362,ntmps362
  go_wp2;refine wp_loop_rounds 1 ?_;rw [rounds_succ];go_wp2;go_ret;exact ⟨Af c.o.s,rfl⟩
theorem Eg {q:Option (Nat×Obj)} {w u:ql} {H:List Cd} {g cap:Nat} (h:HP q w H (some (qzA g 0)) cap u) (i k:Nat) (hi:i<H.length) (hk:k<H.length) :
  qi 435 #[qf (some (qzA g 0)) H.length cap,.int .i64 i,.int .i64 k] u λe u'=>e=.returned (.bool (Qa (Bq H i) (Bq H k)))/\BW u u':=by
 obtain ⟨j,l⟩:=h.at hi;obtain ⟨n,t⟩:=h.at hk;have c:qj (decide (orC (St (Bq H i).1 (Bq H k).1) (St (Bq H i).2 (Bq H k).2)<0)=Qa (Bq H i) (Bq H k)):=Aho _ _;clear h;obtain ⟨⟨a,b⟩,d⟩:∃ x,Bq H i=x:=⟨_,rfl⟩;obtain ⟨⟨x,y⟩,f⟩:∃ x,Bq H k=x:=⟨_,rfl⟩;rw [d,f] at c ⊢;rw [d] at j l;rw [f] at n t
 simp only at j l n t c
 obtain ⟨p,hp⟩:=Ae (St a x);obtain ⟨r,I⟩:=Ae (St b y);rw [hp,I] at c
 have v:qj (∀ w,qi 363 #[.int .i64 a,.int .i64 x] w λe w'=>e=.returned (.int .i64 p)/\w'=w):=λw=>by rw [<- hp];exact Rg _ _ _
 have A:qj (∀ w,qi 363 #[.int .i64 b,.int .i64 y] w λe w'=>e=.returned (.int .i64 r)/\w'=w):=λw=>by rw [<- I];exact Rg _ _ _
 have F:(i:Int)<(H.length:Int):=by omega
 have G:(k:Int)<(H.length:Int):=by omega
 clear hp I d f
 go_enter func435,ntmps435
 go_wp2
 go_region_held3 (λw'=>w'.cell? (qzA g (i*2))=some (.int .i64 a)/\w'.cell? (qzA g (i*2+1))=some (.int .i64 b)/\w'.cell? (qzA g (k*2))=some (.int .i64 x)/\w'.cell? (qzA g (k*2+1))=some (.int .i64 y)) (first|exact ⟨j,l,n,t⟩|(simp [go_sem,World.cell?_alloc_some,j,l,n,t];done)) ((first
  | (go_at_call_of 363 (Value.int .i64 x);refine (v.o _).m ?_;rintro e w' ⟨rfl,rfl⟩)
  | (go_at_call_of 363 (Value.int .i64 y);refine (A.o _).m ?_;rintro e w' ⟨rfl,rfl⟩)
  | (go_at_call 362;refine (Aeh _ p r _ ?_ ?_).m ?_;simp [go_sem];simp [go_sem];rintro e w' ⟨rfl,rfl⟩)))
 all_goals
  go_wp2;go_ret
  exact ⟨Ab c.o,by go_grown⟩
theorem Nx {q:Option (Nat×Obj)} {w u:ql} {H:List Cd} {g cap:Nat} (h:HP q w H (some (qzA g 0)) cap u) (i k:Nat) (J:i<k) (hk:k<H.length) :
  qi 436 #[qf (some (qzA g 0)) H.length cap,.int .i64 i,.int .i64 k] u λe u'=>e=.returned (.tuple #[])/\HP q w (Dw H i k) (some (qzA g 0)) cap u':=by
 have hi:i<H.length:=by omega
 obtain ⟨j,l⟩:=h.at hi;obtain ⟨n,t⟩:=h.at hk;have f0:u.frozen? (qzA g (i*2))=false:=h.own.frozenAt _;have f1:u.frozen? (qzA g (i*2+1))=false:=h.own.frozenAt _;have f2:u.frozen? (qzA g (k*2))=false:=h.own.frozenAt _;have f3:u.frozen? (qzA g (k*2+1))=false:=h.own.frozenAt _
 have z:qj (HP q w (Dw H i k) (some (qzA g 0)) cap ((((u.setCell (qzA g (i*2)) (.int .i64 (Bq H k).1)).setCell (qzA g (i*2+1)) (.int .i64 (Bq H k).2)).setCell (qzA g (k*2)) (.int .i64 (Bq H i).1)).setCell (qzA g (k*2+1)) (.int .i64 (Bq H i).2))) :=
  (h.setAt hi (Bq H k)).setAt (by rw [List.length_set];exact hk) (Bq H i)
 obtain ⟨⟨a,b⟩,d⟩:∃ x,Bq H i=x:=⟨_,rfl⟩;obtain ⟨⟨x,y⟩,f⟩:∃ x,Bq H k=x:=⟨_,rfl⟩;rw [d,f] at z;rw [d] at j l;rw [f] at n t
 simp only at j l n t z
 have F:(i:Int)<(H.length:Int):=by omega
 have G:(k:Int)<(H.length:Int):=by omega
 have n1:¬ i*2=k*2:=by omega
 have n2:¬ i*2+1=k*2:=by omega
 have n3:¬ i*2=k*2+1:=by omega
 have n4:¬ i*2+1=k*2+1:=by omega
 have n5:¬ k*2=i*2:=by omega
 have n6:¬ k*2=i*2+1:=by omega
 have n7:¬ k*2+1=i*2:=by omega
 have n8:¬ k*2+1=i*2+1:=by omega
 clear h d f
 go_enter func436,ntmps436
 go_region_with (fail)
 all_goals
  go_wp2;go_end0;exact ⟨rfl,z.o.below (bR.drew)⟩
end Go.Proofs.YtfpafnefpmmofaaGreatDoor
