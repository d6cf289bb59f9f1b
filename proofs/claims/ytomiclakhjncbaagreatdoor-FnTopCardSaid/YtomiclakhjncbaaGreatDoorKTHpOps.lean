import Derived.Test.YtomiclakhjncbaaGreatDoorJT1a
import Derived.Deep.RegionLaw
namespace Go.Proofs.YtomiclakhjncbaaGreatDoor
open Go.RowKit Go.Proofs.Tryz
set_option maxRecDepth 100000
set_option maxHeartbeats 12800000
def N4 (a b:Int):Int:=if a<b then -1 else if b<a then 1 else 0
def mX (x y:Int):Int:=if x≠0 then x else y
theorem rD (x y:Cd):decide (mX (N4 x.1 y.1) (N4 x.2 y.2)<0)=Li x y:=by
 unfold Li;apply decide_eq_decide.2;unfold mX N4
 by_cases h1:x.1<y.1
 ·simp [h1]
 ·by_cases h2:y.1<x.1
  ·have C:¬ (x.1=y.1):=by omega
   simp [h1,h2,C]
  ·have C:x.1=y.1:=by omega
   simp [C]
   by_cases h4:x.2<y.2
   ·simp [h4]
   ·by_cases h5:y.2<x.2
    ·simp [h4,h5]
    ·simp [h4,h5]
theorem L6 (a:Int) (w:World):Calls prog 187 #[.int .i64 a] w fun e w'=>e=.returned (.bool false)/\w'=w:=by
 go_enter func187,ntmps187
 go_wp2;go_ret
 exact ⟨Aa (by simp),rfl⟩
theorem Mf (a b:Int) (w:World):Calls prog 151 #[.int .i64 a,.int .i64 b] w fun e w'=>e=.returned (.int .i64 (N4 a b))/\w'=w:=by
 by_cases h1:a<b
 ·have c:Hid (N4 a b = -1):=if_pos h1
  go_enter func151,ntmps151
  go_wp2_with (go_at_call 187;refine (L6 _ _).mono ?_;rintro e w' ⟨rfl,rfl⟩)
  go_ret;exact ⟨Af c.o.symm,rfl⟩
 ·by_cases h2:b<a
  ·have c:Hid (N4 a b=1):=by rw [Hid,N4,if_neg h1,if_pos h2]
   go_enter func151,ntmps151
   go_wp2_with (go_at_call 187;refine (L6 _ _).mono ?_;rintro e w' ⟨rfl,rfl⟩)
   go_ret;exact ⟨Af c.o.symm,rfl⟩
  ·have c:Hid (N4 a b=0):=by rw [Hid,N4,if_neg h1,if_neg h2]
   go_enter func151,ntmps151
   go_wp2_with (go_at_call 187;refine (L6 _ _).mono ?_;rintro e w' ⟨rfl,rfl⟩)
   go_ret;exact ⟨Af c.o.symm,rfl⟩
theorem oE (g:Nat) (x y:Int) (w:World) (c0:w.cell? (qzA g 0)=some (.int .i64 x)) (c1:w.cell? (qzA g 1)=some (.int .i64 y)) :
  Calls prog 150 #[.slice (some (qzA g 0)) 2 2] w fun e w'=>e=.returned (.int .i64 (mX x y))/\w'=w:=by
 by_cases h1:x=0
 ·have A:(x != 0)=false:=by simpa using h1
  by_cases h2:y=0
  ·have B:(y != 0)=false:=by simpa using h2
   have c:Hid ((mX x y)=0):=by rw [Hid,mX,if_neg (fun h=>h h1),h2]
   clear h1 h2
   go_enter func150,ntmps150
   go_wp2;refine wp_loop_rounds 3 ?_;rw [rounds_succ];go_wp2;rw [rounds_succ];go_wp2;rw [rounds_succ];go_wp2;go_ret;exact ⟨Af c.o.symm,rfl⟩
  ·have B:(y != 0)=true:=by simpa using h2
   have c:Hid ((mX x y)=y):=by rw [Hid,mX,if_neg (fun h=>h h1)]
   clear h1 h2
   go_enter func150,ntmps150
   go_wp2;refine wp_loop_rounds 2 ?_;rw [rounds_succ];go_wp2;rw [rounds_succ];go_wp2;go_ret;exact ⟨Af c.o.symm,rfl⟩
 ·have A:(x != 0)=true:=by simpa using h1
  have c:Hid ((mX x y)=x):=by rw [Hid,mX,if_pos h1]
  clear h1
  go_enter func150,ntmps150
  go_wp2;refine wp_loop_rounds 1 ?_;rw [rounds_succ];go_wp2;go_ret;exact ⟨Af c.o.symm,rfl⟩
theorem Dk {q:Option (Nat×Obj)} {w u:World} {H:List Cd} {g cap:Nat} (h:HP q w H (some (qzA g 0)) cap u) (i k:Nat) (hi:i<H.length) (s:k<H.length) :
  Calls prog 400 #[.slice (some (qzA g 0)) H.length cap,.int .i64 i,.int .i64 k] u fun e u'=>e=.returned (.bool (Li (Bc H i) (Bc H k)))/\BW u u':=by
 obtain ⟨j,l⟩:=h.at hi;obtain ⟨m,n⟩:=h.at s;have c:Hid (decide (mX (N4 (Bc H i).1 (Bc H k).1) (N4 (Bc H i).2 (Bc H k).2)<0)=Li (Bc H i) (Bc H k)):=rD _ _;clear h;obtain ⟨⟨a,b⟩,d⟩:∃ x,Bc H i=x:=⟨_,rfl⟩;obtain ⟨⟨x,y⟩,f⟩:∃ x,Bc H k=x:=⟨_,rfl⟩;rw [d,f] at c ⊢;rw [d] at j l;rw [f] at m n
 simp only at j l m n c
 obtain ⟨p,G⟩:∃ p,N4 a x=p:=⟨_,rfl⟩;obtain ⟨r,I⟩:∃ r,N4 b y=r:=⟨_,rfl⟩;rw [G,I] at c
 have t:Hid (∀ w,Calls prog 151 #[.int .i64 a,.int .i64 x] w fun e w'=>e=.returned (.int .i64 p)/\w'=w):=fun w=>by rw [<- G];exact Mf _ _ _
 have z:Hid (∀ w,Calls prog 151 #[.int .i64 b,.int .i64 y] w fun e w'=>e=.returned (.int .i64 r)/\w'=w):=fun w=>by rw [<- I];exact Mf _ _ _
 have D:(i:Int)<(H.length:Int):=by omega
 have F:(k:Int)<(H.length:Int):=by omega
 clear G I d f
 go_enter func400,ntmps400
 go_wp2
 go_region_held3 (fun w'=>w'.cell? (qzA g (i*2))=some (.int .i64 a)/\w'.cell? (qzA g (i*2+1))=some (.int .i64 b)/\w'.cell? (qzA g (k*2))=some (.int .i64 x)/\w'.cell? (qzA g (k*2+1))=some (.int .i64 y)) (first | exact ⟨j,l,m,n⟩ | (simp [go_sem,World.cell?_alloc_some,j,l,m,n];done)) ((first
  | (go_at_call_of 151 (Value.int .i64 x);refine (t.o _).mono ?_;rintro e w' ⟨rfl,rfl⟩)
  | (go_at_call_of 151 (Value.int .i64 y);refine (z.o _).mono ?_;rintro e w' ⟨rfl,rfl⟩)
  | (go_at_call 150;refine (oE _ p r _ ?_ ?_).mono ?_;simp [go_sem];simp [go_sem];rintro e w' ⟨rfl,rfl⟩)))
 all_goals
  go_wp2;go_ret
  exact ⟨Aa c.o,by go_grown⟩
theorem Ke {q:Option (Nat×Obj)} {w u:World} {H:List Cd} {g cap:Nat} (h:HP q w H (some (qzA g 0)) cap u) (i k:Nat) (J:i<k) (s:k<H.length) :
  Calls prog 401 #[.slice (some (qzA g 0)) H.length cap,.int .i64 i,.int .i64 k] u fun e u'=>e=.returned (.tuple #[])/\HP q w (Cu H i k) (some (qzA g 0)) cap u':=by
 have hi:i<H.length:=by omega
 obtain ⟨j,l⟩:=h.at hi;obtain ⟨m,n⟩:=h.at s;have f0:u.frozen? (qzA g (i*2))=false:=h.own.frozenAt _;have f1:u.frozen? (qzA g (i*2+1))=false:=h.own.frozenAt _;have f2:u.frozen? (qzA g (k*2))=false:=h.own.frozenAt _;have f3:u.frozen? (qzA g (k*2+1))=false:=h.own.frozenAt _
 have v:Hid (HP q w (Cu H i k) (some (qzA g 0)) cap ((((u.setCell (qzA g (i*2)) (.int .i64 (Bc H k).1)).setCell (qzA g (i*2+1)) (.int .i64 (Bc H k).2)).setCell (qzA g (k*2)) (.int .i64 (Bc H i).1)).setCell (qzA g (k*2+1)) (.int .i64 (Bc H i).2))) :=
  (h.setAt hi (Bc H k)).setAt (by rw [List.length_set];exact s) (Bc H i)
 obtain ⟨⟨a,b⟩,d⟩:∃ x,Bc H i=x:=⟨_,rfl⟩;obtain ⟨⟨x,y⟩,f⟩:∃ x,Bc H k=x:=⟨_,rfl⟩;rw [d,f] at v;rw [d] at j l;rw [f] at m n
 simp only at j l m n v
 have D:(i:Int)<(H.length:Int):=by omega
 have F:(k:Int)<(H.length:Int):=by omega
 have n1:¬ i*2=k*2:=by omega
 have n2:¬ i*2+1=k*2:=by omega
 have n3:¬ i*2=k*2+1:=by omega
 have n4:¬ i*2+1=k*2+1:=by omega
 have n5:¬ k*2=i*2:=by omega
 have n6:¬ k*2=i*2+1:=by omega
 have n7:¬ k*2+1=i*2:=by omega
 have n8:¬ k*2+1=i*2+1:=by omega
 clear h d f
 go_enter func401,ntmps401
 go_region_with (fail)
 all_goals
  go_wp2;go_end0;exact ⟨rfl,v.o.below (bR.drew)⟩
end Go.Proofs.YtomiclakhjncbaaGreatDoor
