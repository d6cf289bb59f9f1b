import Derived.Test.YtfpafnefpmmofaaGreatDoorJW0b
namespace Go.Proofs.YtfpafnefpmmofaaGreatDoor
open Go.RowKit Go.Proofs.Tryz
set_option maxRecDepth 100000
set_option maxHeartbeats 12800000
def txF:ByteArray:=⟨#[102,114,97,117,100]⟩
def txN:ByteArray:=⟨#[110,111,110,101]⟩
def txT:ByteArray:=⟨#[116,119,105,99,101]⟩
def txA:ByteArray:=⟨#[97,109,111,117,110,116]⟩
def txQ:ByteArray:=⟨#[113,117,97,108,105,116,121]⟩
def txC:ByteArray:=⟨#[99,97,110,99,101,108,108,101,100]⟩
def Ad3 (x:Int):ByteArray:=if x=4837 then txF else if x=4855 then txN else if x=4834 then txT else if x=4831 then txA else if x=4853 then txQ else if x=4841 then txC else ⟨#[]⟩
def rD0 (x:Int):Int:=if x=4837 then 85 else if x=4855 then 65 else if x=4834 then 45 else if x=4831 then 45 else if x=4853 then 65 else if x=4841 then 45 else 0
theorem Af8 {x:Int} (h:x≠4837/\x≠4855/\x≠4834/\x≠4831/\x≠4853/\x≠4841):rD0 x=0:=by simp [rD0,h]
theorem Aek {x:Int} (h:x≠4837/\x≠4855/\x≠4834/\x≠4831/\x≠4853/\x≠4841):Ad3 x=⟨#[]⟩:=by simp [Ad3,h]
theorem Afa {x:Int} (h:Ty x=true):rD0 x=Im x:=by
 rcases Ow x with rfl|rfl|rfl|rfl|rfl|rfl|g
 iterate 6 rfl
 rw [bK g] at h;cases h
theorem Zt {x:Int} (h:Ty x=false):Im x = -1:=by
 rcases Ow x with rfl|rfl|rfl|rfl|rfl|rfl|g
 iterate 6 cases h
 exact Aar g
theorem A8 {a b:Int} (h:a≠b):(a == b)=false:=by simpa using h
theorem Gt (x:Int) (w:ql) :
  qi 338 #[qzI x] w (qp (.tuple #[.agg #[.string (Ad3 x),qzI (rD0 x),.bool (Iw x),.bool (Gf x)],.bool (Ty x)]) w):=by
 rcases Ow x with rfl|rfl|rfl|rfl|rfl|rfl|h
 iterate 6
  ·go_enter func338,ntmps338
   go_wp2
   go_returns
   exact ⟨rfl,by go_grown⟩
 ·have f:qj (Ending.returned (.tuple #[.agg #[.string (Ad3 x),qzI (rD0 x),.bool (Iw x),.bool (Gf x)],.bool (Ty x)])=.returned (.tuple #[.agg #[.string ⟨#[]⟩,qzI 0,.bool false,.bool false],.bool false])):=by
    rw [qj,Aek h,Af8 h,Aai h,vU h,bK h]
  obtain ⟨y,z,A,B,C,J⟩:=h;have R:=A8 y;have S:=A8 z;have T:=A8 A;have U:=A8 B;have V:=A8 C;have W:=A8 J;clear y z A B C J
  go_enter func338,ntmps338
  go_wp2
  go_returns
  exact ⟨f.o.s,by go_grown⟩
theorem X5 (x:Int) (w:ql) :
  qi 313 #[qzI x] w (qp (.bool (Ty x)) w):=by
 go_enter func313,ntmps313
 go_wp2_with fail
 refine (Gt x _).m ?_;rintro e l ⟨rfl,d⟩;go_wp2;go_ret;exact ⟨rfl,d.alloc d.size _⟩
theorem oY (x:Int) (w:ql) :
  qi 350 #[qzI x] w (qp (qzI (Im x)) w):=by
 cases h:Ty x
 ·have f:qj _:=Zt h
  go_enter func350,ntmps350
  go_wp2_with fail
  refine (Gt x _).m ?_;rintro e l ⟨rfl,d⟩;go_wp2;go_ret;exact ⟨Af f.o.s,d.alloc d.size _⟩
 ·have f:qj _:=Afa h
  go_enter func350,ntmps350
  go_wp2_with fail
  refine (Gt x _).m ?_;rintro e l ⟨rfl,d⟩;go_wp2;go_ret;exact ⟨Af f.o,d.alloc d.size _⟩
theorem lZ (x:Int) (w:ql) :
  qi 349 #[qzI x] w (qp (.bool (Iw x)) w):=by
 go_enter func349,ntmps349
 go_wp2_with fail
 refine (Gt x _).m ?_;rintro e l ⟨rfl,d⟩;go_wp2;go_ret;exact ⟨rfl,d.alloc d.size _⟩
theorem eH (x:Int) (w:ql) :
  qi 347 #[qzI x] w (qp (.bool (Gf x)) w):=by
 go_enter func347,ntmps347
 go_wp2_with fail
 refine (Gt x _).m ?_;rintro e l ⟨rfl,d⟩;go_wp2;go_ret;exact ⟨rfl,d.alloc d.size _⟩
def rL:List Int:=[4837,4855,4834,4831,4853,4841]
def rAt (x:Int):Int:=if x=4837 then 0 else if x=4855 then 1 else if x=4834 then 2 else if x=4831 then 3 else if x=4853 then 4 else if x=4841 then 5 else -1
theorem nI {x:Int} (h:x≠4837/\x≠4855/\x≠4834/\x≠4831/\x≠4853/\x≠4841):rAt x = -1:=by simp [rAt,h]
theorem Agc (x:Int):decide (0<=rAt x)=Ty x:=by
 rcases Ow x with rfl|rfl|rfl|rfl|rfl|rfl|g
 iterate 6 rfl
 rw [nI g,bK g];rfl
theorem Aht {x:Int} {k:Nat} (hk:k<6) (h:rL.getD k 0=x):rAt x=k:=by
 rcases (show k=0\/k=1\/k=2\/k=3\/k=4\/k=5 by omega) with rfl|rfl|rfl|rfl|rfl|rfl <;> (subst h;rfl)
theorem Ad6 {x:Int} (h:∀ j,j<6->rL.getD j 0≠x):rAt x = -1:=by
 have O:=h 0 (by omega)
 have y:=h 1 (by omega)
 have z:=h 2 (by omega)
 have A:=h 3 (by omega)
 have B:=h 4 (by omega)
 have C:=h 5 (by omega)
 simp [rL] at O y z A B C
 exact nI ⟨by omega,by omega,by omega,by omega,by omega,by omega⟩
theorem dF (x:Int) (w:ql) :
  qi 231 #[qzI x] w λe w'=>e=.returned (qzI (rAt x))/\BW w w':=by
 have q:∀ k,k<6->(w.alloc (.cells #[qzI 4837,qzI 4855,qzI 4834,qzI 4831,qzI 4853,qzI 4841] 3)).cell? ⟨w.heap.size,k,none⟩=some (qzI (rL.getD k 0)):=by
  intro k hk
  rcases (show k=0\/k=1\/k=2\/k=3\/k=4\/k=5 by omega) with rfl|rfl|rfl|rfl|rfl|rfl <;> simp [rL]
 have n:Below w.heap.size w (w.alloc (.cells #[qzI 4837,qzI 4855,qzI 4834,qzI 4831,qzI 4853,qzI 4841] 3)):=bR.alloc nL _
 go_enter func231,ntmps231
 go_wp2
 go_loop [4] (λi=>∃ k:Nat,k<=6/\i=qzI k/\∀ j,j<k->rL.getD j 0≠x) (λi=>6 - (intOf i).toNat)
 case atStart=>exact ⟨0,by omega,rfl,λj hj=>by omega⟩
 case round =>
  obtain ⟨k,hk,rfl,u⟩:=hrel;have I:qj (∀ j,j<k->rL.getD j 0≠x):=u;clear u
  by_cases hlt:k<6
  ·have a1:=q k hlt
   clear q;obtain ⟨c,t⟩:∃ c,rL.getD k 0=c:=⟨_,rfl⟩;rw [t] at a1;have H:qj (rL.getD k 0=c):=t;clear t
   cases he:(c == x)
   ·have F:qj (rL.getD k 0≠x):=by rw [H.o];simpa [qj] using he
    go_wp2
    go_round
    case rel=>exact ⟨k+1,by omega,by go_num,λj hj=>by rcases (show j<k\/j=k from by omega) with h|rfl;exact I.o j h;exact F.o⟩
    case measure=>simp [intOf];omega
   ·have F:qj (rL.getD k 0=x):=by rw [H.o];simpa [qj] using he
    go_wp2;go_ret;exact ⟨Af (Aht hlt F.o).s,n⟩
  ·have:k=6:=by omega
   subst this;clear q;go_wp2;go_ret;exact ⟨Af (Ad6 I.o).s,n⟩
theorem fR (x:Int) (w:ql) :
  qi 194 #[qzI x] w λe w'=>e=.returned (.bool (Ty x))/\BW w w':=by
 have f:qj _:=Agc x
 go_enter func194,ntmps194
 go_wp2_with fail
 refine (dF x _).m ?_;rintro e l ⟨rfl,d⟩;go_wp2;go_ret;exact ⟨Ab f.o,d⟩
theorem mN (x:Int) (w:ql) :
  qi 234 #[qzI x] w (qr (.bool (Iw x)) w):=by
 obtain ⟨p,hp⟩:∃ p,(x == 4831)=p:=⟨_,rfl⟩
 have f:qj (Iw x=(p || x == 4853)):=by rw [qj,Iw,hp]
 cases p
 ·go_enter func234,ntmps234
  go_wp2;go_ret
  exact ⟨Ab (by rw [f.o];rfl),rfl⟩
 ·go_enter func234,ntmps234
  go_wp2;go_ret
  exact ⟨Ab (by rw [f.o];rfl),rfl⟩
theorem gG (x:Int) (w:ql) :
  qi 233 #[qzI x] w (qr (.bool (Gf x)) w):=by
 obtain ⟨p,hp⟩:∃ p,(x == 4837)=p:=⟨_,rfl⟩
 have f:qj (Gf x=(p || x == 4834)):=by rw [qj,Gf,hp]
 cases p
 ·go_enter func233,ntmps233
  go_wp2;go_ret
  exact ⟨Ab (by rw [f.o];rfl),rfl⟩
 ·go_enter func233,ntmps233
  go_wp2;go_ret
  exact ⟨Ab (by rw [f.o];rfl),rfl⟩
theorem Aa5 {x:Int} (h:Ty x=true):∃ k:Nat,k<6/\rAt x=k/\Im x=([85,65,45,45,65,45]:List Int).getD k 0:=by
 rcases Ow x with rfl|rfl|rfl|rfl|rfl|rfl|g
 ·exact ⟨0,by decide,rfl,rfl⟩
 ·exact ⟨1,by decide,rfl,rfl⟩
 ·exact ⟨2,by decide,rfl,rfl⟩
 ·exact ⟨3,by decide,rfl,rfl⟩
 ·exact ⟨4,by decide,rfl,rfl⟩
 ·exact ⟨5,by decide,rfl,rfl⟩
 ·rw [bK g] at h;cases h
theorem mT (x:Int) (w:ql) :
  qi 235 #[qzI x] w (qp (qzI (Im x)) w):=by
 cases h:Ty x
 ·have f:qj _:=Zt h
  have r:rAt x = -1:=by
   rcases Ow x with rfl|rfl|rfl|rfl|rfl|rfl|g
   iterate 6 cases h
   exact nI g
  have D:qj _:=r;clear r
  go_enter func235,ntmps235
  go_wp2_with fail
  refine (dF x _).m ?_;rintro e l ⟨rfl,d⟩;rw [D.o];go_wp2;go_ret;exact ⟨Af f.o.s,d⟩
 ·obtain ⟨k,hk,r,L⟩:=Aa5 h
  have D:qj _:=r;have N:qj _:=L;clear r L
  go_enter func235,ntmps235
  go_wp2_with fail
  refine (dF x _).m ?_;rintro e l ⟨rfl,d⟩;rw [D.o];have bel:Below w.heap.size w (l.alloc (.cells #[qzI 85,qzI 65,qzI 45,qzI 45,qzI 65,qzI 45] 3)):=d.alloc d.size _
  have t:(l.alloc (.cells #[qzI 85,qzI 65,qzI 45,qzI 45,qzI 65,qzI 45] 3)).cell? ⟨l.heap.size,k,none⟩=some (qzI (([85,65,45,45,65,45]:List Int).getD k 0)):=by
   rcases (show k=0\/k=1\/k=2\/k=3\/k=4\/k=5 by omega) with rfl|rfl|rfl|rfl|rfl|rfl <;> simp
  obtain ⟨v,G⟩:∃ v,([85,65,45,45,65,45]:List Int).getD k 0=v:=⟨_,rfl⟩;rw [G] at t;have f:qj _:=G;have M:qj _:=bel;clear G bel d h;go_wp2;go_ret
  exact ⟨Af (by rw [N.o,f.o]),M.o⟩
end Go.Proofs.YtfpafnefpmmofaaGreatDoor
