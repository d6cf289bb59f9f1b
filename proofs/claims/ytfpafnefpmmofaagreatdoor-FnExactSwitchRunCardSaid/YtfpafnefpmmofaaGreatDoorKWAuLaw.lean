import Derived.Test.YtfpafnefpmmofaaGreatDoorJW1a
namespace Go.Proofs.YtfpafnefpmmofaaGreatDoor
open Go.RowKit Go.Proofs.Tryz
set_option maxRecDepth 100000
set_option maxHeartbeats 12800000
def fX (l:qn) (left:Int):Int:=if left - (l.length:Int)<0 then -1 else left - (l.length:Int)
theorem V2 (a:Au) (left:Int) (w:ql) (hl:left<=1048576/\0<=left) (hm:a.ref.length<=9223372036854775807) :
  qi 54 #[Ha a,qzI left] w λe w'=>e=.returned (qzI (fX a.ref left))/\BW w w':=by
 obtain ⟨r,i,c,m,d,u⟩:=a
 simp only [Ha] at hm ⊢
 by_cases h:left - (r.length:Int)<0
 ·have I:qj (fX r left = -1):=if_pos h
  go_enter func54,ntmps54
  go_wp2;go_ret;exact ⟨Af I.o.s,bR.alloc nL _⟩
 ·have I:qj (fX r left=left - (r.length:Int)):=if_neg h
  go_enter func54,ntmps54
  go_wp2;go_ret;exact ⟨Af I.o.s,bR.alloc nL _⟩
theorem mY (a:Au) (w:ql) :
  qi 68 #[Ha a] w λe w'=>e=.returned (Ha a)/\BW w w':=by
 obtain ⟨r,i,c,m,d,u⟩:=a
 simp only [Ha]
 go_enter func68,ntmps68
 go_wp2
 go_returns
 refine ⟨rfl,?_⟩
 go_grown
def Ju:List Au->Int->Int
 | [],left=>left
 | a::r,left=>if left - (a.ref.length:Int)<0 then -1 else Ju r (left - (a.ref.length:Int))
def J1 (az:List Au) (left:Int):Int:=if left - (az.length:Int)<0 then -1 else Ju az (left - (az.length:Int))
theorem iN (az:List Au) (k:Nat) (left:Int) (h:k<az.length):Ju (az.drop k) left=if left - ((Ch az k).ref.length:Int)<0 then -1 else Ju (az.drop (k+1)) (left - ((Ch az k).ref.length:Int)):=by
 rw [jc h,Pn h];rfl
def iY (az:List Au):Nat:=(az.map λa=>a.ref.length).sum
theorem kE (az:List Au):∀ left,0<=Ju az left->0<=left->(iY az:Int)<=left/\Ju az left<=left:=by
 induction az with
 | nil=>intro left _ h;exact ⟨by simpa [iY] using h,Int.le_refl _⟩
 | cons f r ih =>
  intro left h hl
  simp only [Ju] at h ⊢
  split at h
  ·omega
  ·rename_i hh
   rw [if_neg hh]
   have:=ih _ h (by omega)
   simp only [iY,List.map_cons,List.sum_cons] at this ⊢
   omega
theorem lL {az:List Au} {left:Int} (h:0<=J1 az left):(az.length:Int)+iY az<=left/\J1 az left<=left:=by
 unfold J1 at h ⊢
 split at h
 ·omega
 ·rename_i hh
  rw [if_neg hh]
  have:=kE az _ h (by omega)
  omega
theorem yI {az:List Au} {a:Au} (h:a ∈ az):a.ref.length<=iY az:=by
 induction az with
 | nil=>cases h
 | cons g r ih =>
  simp only [iY,List.map_cons,List.sum_cons] at ih ⊢
  rcases List.mem_cons.1 h with rfl|hr
  ·omega
  ·have:=ih hr;omega
theorem iG (ao:qm) (cap:Nat) (az:List Au) (left:Int) (w:ql) (hz:Ba w ao az) (hd:Vq az) (a5:0<=left) (a6:left<=1048576) :
  qi 19 #[qf ao az.length cap,qzI left] w λe w'=>e=.returned (qzI (J1 az left))/\BW w w':=by
 have hn:az.length<=9223372036854775807:=by have:=hd.1;unfold maxLen at this;omega
 have HD:qj (∀ k,k<az.length->(Ch az k).ref.length<=9223372036854775807):=by
  intro k hk;have:=(hd.2 _ (Ob hk)).1;unfold maxLen at this;omega
 clear hd
 by_cases hneg:left - (az.length:Int)<0
 ·have I:qj (J1 az left = -1):=if_pos hneg
  go_enter func19,ntmps19
  go_wp2;go_ret;exact ⟨Af I.o.s,bR⟩
 ·have I:qj (J1 az left=Ju az (left - (az.length:Int))):=if_neg hneg
  rcases hz with rfl|⟨b,off,rfl,hb,q⟩
  ·go_enter func19,ntmps19
   go_wp2;refine wp_loop_rounds 1 ?_;rw [rounds_succ];go_wp2;go_ret
   exact ⟨Af (by rw [I.o];simp [Ju]),bR⟩
  ·have D:=Aa q
   clear q
   go_enter func19,ntmps19
   go_wp2
   go_loopw [1,5] (λv i wr=>∃ (k:Nat) (l:Int),k<=az.length/\i=qzI k/\v=qzI l/\0<=l/\l<=1048576/\J1 az left=Ju (az.drop k) l/\BW w wr) (λ_ i _=>az.length - (intOf i).toNat)
   case atStart=>exact ⟨0,_,qw _,rfl,rfl,by omega,by omega,I.o,bR⟩
   case round =>
    obtain ⟨k,l,hk,rfl,rfl,h0,h1,p,j⟩:=hrel
    by_cases hlt:k<az.length
    ·have J:=(j.c b (off+k*6) hb).t (D.o k hlt).1
     have L:=(j.c b (off+k*6+1) hb).t (D.o k hlt).2.1;have M:=(j.c b (off+k*6+2) hb).t (D.o k hlt).2.2.1;have N:=(j.c b (off+k*6+3) hb).t (D.o k hlt).2.2.2.1;have O:=(j.c b (off+k*6+4) hb).t (D.o k hlt).2.2.2.2.1;have S:=(j.c b (off+k*6+5) hb).t (D.o k hlt).2.2.2.2.2
     have W:(k:Int)<(az.length:Int):=by omega
     have F:=iN az k l hlt;have G:=HD.o k hlt;obtain ⟨⟨r,i,c,m,d,u⟩,H⟩:∃ f,Ch az k=f:=⟨_,rfl⟩;rw [H] at J L M N O S F G
     simp only at J L M N O S F G
     by_cases hng:l - (r.length:Int)<0
     ·have HN:qj (J1 az left = -1):=by rw [qj,p,F,if_pos hng]
      have HF:qj (fX r l = -1):=if_pos hng;clear F H p;go_wp2_with fail
      refine (V2 ⟨r,i,c,m,d,u⟩ _ _ ⟨h1,h0⟩ G).m ?_;rintro e w1 ⟨rfl,b1⟩
      simp only
      rw [HF.o];go_wp2;go_ret;exact ⟨Af HN.o.s,j.t (b1.m j.size)⟩
     ·have HN:qj (J1 az left=Ju (az.drop (k+1)) (l - (r.length:Int))):=by rw [qj,p,F,if_neg hng]
      have HF:qj (fX r l=l - (r.length:Int)):=if_neg hng;clear F H p;go_wp2_with fail
      refine (V2 ⟨r,i,c,m,d,u⟩ _ _ ⟨h1,h0⟩ G).m ?_;rintro e w1 ⟨rfl,b1⟩
      simp only
      rw [HF.o];go_wp2
      go_roundw
      case rel=>exact ⟨k+1,l - (r.length:Int),by omega,by go_num,rfl,by omega,by omega,HN.o,j.t (b1.m j.size)⟩
      case measure=>simp [intOf];omega
    ·have a4:qj (J1 az left=l):=by rw [qj,p,ji (by omega)];rfl
     clear p;go_wp2;go_ret;exact ⟨Af a4.o.s,j⟩
theorem jH (ao:qm) (cap:Nat) (az:List Au) (w:ql) (hz:Ba w ao az) (hn:az.length<=1048576) :
  qi 28 #[qf ao az.length cap] w λe w'=>e=.returned (qf (some ⟨w.heap.size,0,none⟩) az.length az.length) /\
   w'.ownsRow w.heap.size 108 6 (qf (some ⟨w.heap.size,0,none⟩) az.length az.length) az.length (Ap az)/\BW w w':=by
 obtain ⟨i0,hi,Y,Z,a3⟩:=info_parts Aap;have X:=Vv az.length
 rcases hz with rfl|⟨b,off,rfl,hb,q⟩
 ·go_enter func28,ntmps28
  go_wp2_with (refine wpList_make_full _ rfl (.tmp 6) (.tmp 6) 34 rfl w.heap.size 108 i0 _ 6 underlying34 hi Y Z .i64 .i64 _ _ 0 rfl rfl rfl rfl (by rw [a3];omega) (by unfold maxLen;omega) nL ?_;intro w1 z hg)
  refine wp_loop_rounds 1 ?_;rw [rounds_succ];go_wp2;go_ret
  exact ⟨rfl,by simpa [madeCells,Ap] using z,bR.grown hg nL (λk hk=>by cases hk)⟩
 ·have D:=Aa q
  clear q
  go_enter func28,ntmps28
  go_wp2_with (refine wpList_make_full _ rfl (.tmp 6) (.tmp 6) 34 rfl w.heap.size 108 i0 _ 6 underlying34 hi Y Z .i64 .i64 _ _ az.length rfl rfl rfl rfl (by rw [a3];omega) (by unfold maxLen;omega) nL ?_;intro w1 z hg)
  rw [X,<- Xg az] at z
  have T:=bR.grown hg nL (λk hk=>by cases hk)
  clear X hg
  go_loopw [4] (λi wr=>∃ k:Nat,k<=az.length/\i=qzI k/\wr.ownsRow w.heap.size 108 6 (qf (some ⟨w.heap.size,0,none⟩) az.length az.length) az.length (Ap (Fk az k))/\BW w wr) (λi _=>az.length - (intOf i).toNat)
  case atStart=>exact ⟨0,qw _,rfl,z,T⟩
  case round =>
   obtain ⟨k,hk,rfl,ho,j⟩:=hrel;clear z T
   by_cases hlt:k<az.length
   ·have J:=(j.c b (off+k*6) hb).t (D.o k hlt).1
    have L:=(j.c b (off+k*6+1) hb).t (D.o k hlt).2.1;have M:=(j.c b (off+k*6+2) hb).t (D.o k hlt).2.2.1;have N:=(j.c b (off+k*6+3) hb).t (D.o k hlt).2.2.2.1;have O:=(j.c b (off+k*6+4) hb).t (D.o k hlt).2.2.2.2.1;have S:=(j.c b (off+k*6+5) hb).t (D.o k hlt).2.2.2.2.2
    have W:(k:Int)<(az.length:Int):=by omega
    have HS:=Aa (Qu az k hlt)
    have HT:=Aa (My (Fk az k) (Ch az k) k (by rw [Lu az k hk];exact hlt))
    obtain ⟨⟨r,i,c,m,d,u⟩,H⟩:∃ f,Ch az k=f:=⟨_,rfl⟩;rw [H] at J L M N O S HS HT
    simp only at J L M N O S HT
    have HO:=Aa ho;have HA:=Aa (fW az k hlt);clear H ho;go_wp2_with fail
    refine (mY ⟨r,i,c,m,d,u⟩ _).m ?_;rintro e C ⟨rfl,b2⟩
    simp only [Ha]
    have ho:=Nn HO.o b2
    have y:=Ff (Fk az k) k (by rw [Lu az k hk];exact hlt)
    rw [HA.o] at y
    have y0:C.cell? ⟨w.heap.size,k*6,none⟩=some (.string ⟨#[]⟩):=by rw [ho.cellAt (k*6) (by omega)];exact y.1
    have z0:C.frozen? ⟨w.heap.size,k*6,none⟩=false:=ho.frozenAt _
    have y1:C.cell? ⟨w.heap.size,k*6+1,none⟩=some (qzI 0):=by rw [ho.cellAt (k*6+1) (by omega)];exact y.2.1
    have z1:C.frozen? ⟨w.heap.size,k*6+1,none⟩=false:=ho.frozenAt _
    have y2:C.cell? ⟨w.heap.size,k*6+2,none⟩=some (qzI 0):=by rw [ho.cellAt (k*6+2) (by omega)];exact y.2.2.1
    have z2:C.frozen? ⟨w.heap.size,k*6+2,none⟩=false:=ho.frozenAt _
    have y3:C.cell? ⟨w.heap.size,k*6+3,none⟩=some (qzI 0):=by rw [ho.cellAt (k*6+3) (by omega)];exact y.2.2.2.1
    have z3:C.frozen? ⟨w.heap.size,k*6+3,none⟩=false:=ho.frozenAt _
    have y4:C.cell? ⟨w.heap.size,k*6+4,none⟩=some (qzI 0):=by rw [ho.cellAt (k*6+4) (by omega)];exact y.2.2.2.2.1
    have z4:C.frozen? ⟨w.heap.size,k*6+4,none⟩=false:=ho.frozenAt _
    have y5:C.cell? ⟨w.heap.size,k*6+5,none⟩=some (.bool false):=by rw [ho.cellAt (k*6+5) (by omega)];exact y.2.2.2.2.2
    have z5:C.frozen? ⟨w.heap.size,k*6+5,none⟩=false:=ho.frozenAt _
    have HR:qj ((((((((C.setCell ⟨w.heap.size,k*6,none⟩ (qd r)).setCell ⟨w.heap.size,k*6+1,none⟩ (qzI i)).setCell ⟨w.heap.size,k*6+2,none⟩ (qzI c)).setCell ⟨w.heap.size,k*6+3,none⟩ (qzI m)).setCell ⟨w.heap.size,k*6+4,none⟩ (qzI d)).setCell ⟨w.heap.size,k*6+5,none⟩ (.bool u))).ownsRow w.heap.size 108 6 (qf (some ⟨w.heap.size,0,none⟩) az.length az.length) az.length (Ap (Fk az (k+1)))):=by
     have R:=(((((((ho.stored (k*6) (qd r)).1.stored (k*6+1) (qzI i)).1.stored (k*6+2) (qzI c)).1.stored (k*6+3) (qzI m)).1.stored (k*6+4) (qzI d)).1.stored (k*6+5) (.bool u))).1;rw [HT.o,HS.o] at R;exact R
    clear ho y;go_wp2
    go_roundw
    case rel=>exact ⟨k+1,by omega,by go_num,HR.o,(((((((j.t (b2.m j.size)).setCell nL _).setCell nL _).setCell nL _).setCell nL _).setCell nL _).setCell nL _)⟩
    case measure=>simp [intOf];omega
   ·have:k=az.length:=by omega
    subst this;rw [aE] at ho;go_wp2;go_ret;exact ⟨rfl,ho,j⟩
theorem jN (a:Au) (w:ql) :
  qi 80 #[Ha a,Ha a] w λe w'=>e=.returned (.bool true)/\BW w w':=by
 obtain ⟨r,i,c,m,d,u⟩:=a
 simp only [Ha]
 have n0:(r == r)=true:=by simp
 have n1:(i != i)=false:=by simp
 have n2:(c != c)=false:=by simp
 have n3:(m != m)=false:=by simp
 have n4:(d != d)=false:=by simp
 cases u
 ·go_enter func80,ntmps80
  go_wp2;go_ret
  exact ⟨rfl,by go_grown⟩
 ·go_enter func80,ntmps80
  go_wp2;go_ret
  exact ⟨rfl,by go_grown⟩
theorem bF (ao bo:qm) (c1 c2:Nat) (az:List Au) (w:ql) (hx:Ba w ao az) (hy:Ba w bo az) (h1:az.length<=1099511627776) :
  qi 37 #[qf ao az.length c1,qf bo az.length c2] w λe w'=>e=.returned (.bool true)/\BW w w':=by
 rcases hx with rfl|⟨b,off,rfl,hb,U⟩
 ·go_enter func37,ntmps37
  go_wp2;refine wp_loop_rounds 1 ?_;rw [rounds_succ];go_wp2;go_ret;exact ⟨rfl,bR⟩
 rcases hy with rfl|⟨d,x,rfl,hd,V⟩
 ·go_enter func37,ntmps37
  go_wp2;refine wp_loop_rounds 1 ?_;rw [rounds_succ];go_wp2;go_ret;exact ⟨rfl,bR⟩
 have A:=Aa U;have B:=Aa V;clear U V
 have nn:((az.length:Int) != (az.length:Int))=false:=by simp
 obtain ⟨n,hn⟩:=Ae az.length;rw [hn] at h1 nn A B ⊢;clear hn
 go_enter func37,ntmps37
 go_wp2
 go_loopw [5] (λi wr=>∃ k:Nat,k<=n/\i=qzI k/\BW w wr) (λi _=>n - (intOf i).toNat)
 case atStart=>exact ⟨0,qw _,rfl,bR⟩
 case round =>
  obtain ⟨k,hk,rfl,j⟩:=hrel
  by_cases hlt:k<n
  ·have J:=(j.c b (off+k*6) hb).t (A.o k hlt).1
   have L:=(j.c b (off+k*6+1) hb).t (A.o k hlt).2.1;have M:=(j.c b (off+k*6+2) hb).t (A.o k hlt).2.2.1;have N:=(j.c b (off+k*6+3) hb).t (A.o k hlt).2.2.2.1;have O:=(j.c b (off+k*6+4) hb).t (A.o k hlt).2.2.2.2.1;have S:=(j.c b (off+k*6+5) hb).t (A.o k hlt).2.2.2.2.2;have y0:=(j.c d (x+k*6) hd).t (B.o k hlt).1;have y1:=(j.c d (x+k*6+1) hd).t (B.o k hlt).2.1;have y2:=(j.c d (x+k*6+2) hd).t (B.o k hlt).2.2.1;have y3:=(j.c d (x+k*6+3) hd).t (B.o k hlt).2.2.2.1;have y4:=(j.c d (x+k*6+4) hd).t (B.o k hlt).2.2.2.2.1;have y5:=(j.c d (x+k*6+5) hd).t (B.o k hlt).2.2.2.2.2
   have W:(k:Int)<(n:Int):=by omega
   obtain ⟨⟨r,i,c,m,e,u⟩,H⟩:∃ f,Ch az k=f:=⟨_,rfl⟩;rw [H] at J L M N O S y0 y1 y2 y3 y4 y5
   simp only at J L M N O S y0 y1 y2 y3 y4 y5
   have HQ:=Aa λv=>jN ⟨r,i,c,m,e,u⟩ v
   clear H;go_wp2
   go_region_with (refine (HQ.o _).m ?_;rintro e C ⟨rfl,b2⟩)
   all_goals
    go_wp2
    go_roundw
    case rel=>exact ⟨k+1,by omega,by go_num,(below_drewN j _).t (b2.m j.size)⟩
    case measure=>simp [intOf];omega
  ·go_wp2
   go_ret;exact ⟨rfl,j⟩
end Go.Proofs.YtfpafnefpmmofaaGreatDoor
