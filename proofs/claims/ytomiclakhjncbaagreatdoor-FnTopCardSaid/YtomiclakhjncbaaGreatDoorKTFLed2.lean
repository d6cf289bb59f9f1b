import Derived.Test.YtomiclakhjncbaaGreatDoorJT1a
import Derived.Deep.RegionLaw
namespace Go.Proofs.YtomiclakhjncbaaGreatDoor
open Go.RowKit Go.Proofs.Tryz
set_option maxRecDepth 100000
set_option maxHeartbeats 12800000
theorem Ny (a:Int) (w:World):Calls prog 187 #[qzI a] w fun e w'=>e=.returned (.bool false)/\w'=w:=by
 go_enter func187,ntmps187
 go_wp2;go_ret
 exact ⟨Aa (by simp),rfl⟩
theorem O8 (a b:Int) (w:World):Calls prog 151 #[qzI a,qzI b] w fun e w'=>e=.returned (qzI (Qm a b))/\w'=w:=by
 by_cases h1:a<b
 ·have f:Hid (Qm a b = -1):=if_pos h1
  go_enter func151,ntmps151
  go_wp2_with (go_at_call 187;refine (Ny _ _).mono ?_;rintro e w' ⟨rfl,rfl⟩)
  go_ret;exact ⟨Af f.o.symm,rfl⟩
 ·by_cases h2:b<a
  ·have f:Hid (Qm a b=1):=by rw [Hid,Qm,if_neg h1,if_pos h2]
   go_enter func151,ntmps151
   go_wp2_with (go_at_call 187;refine (Ny _ _).mono ?_;rintro e w' ⟨rfl,rfl⟩)
   go_ret;exact ⟨Af f.o.symm,rfl⟩
  ·have f:Hid (Qm a b=0):=by rw [Hid,Qm,if_neg h1,if_neg h2]
   go_enter func151,ntmps151
   go_wp2_with (go_at_call 187;refine (Ny _ _).mono ?_;rintro e w' ⟨rfl,rfl⟩)
   go_ret;exact ⟨Af f.o.symm,rfl⟩
theorem rE (g:Nat) (x y:Int) (w:World) (c0:w.cell? (qzA g 0)=some (qzI x)) (c1:w.cell? (qzA g 1)=some (qzI y)) :
  Calls prog 150 #[.slice (some (qzA g 0)) 2 2] w fun e w'=>e=.returned (qzI (oL x y))/\w'=w:=by
 by_cases h1:x=0
 ·have l:(x != 0)=false:=by simpa using h1
  by_cases h2:y=0
  ·have n:(y != 0)=false:=by simpa using h2
   have f:Hid ((oL x y)=0):=by rw [Hid,oL,if_neg (fun h=>h h1),h2]
   clear h1 h2
   go_enter func150,ntmps150
   go_wp2;refine wp_loop_rounds 3 ?_;rw [rounds_succ];go_wp2;rw [rounds_succ];go_wp2;rw [rounds_succ];go_wp2;go_ret;exact ⟨Af f.o.symm,rfl⟩
  ·have n:(y != 0)=true:=by simpa using h2
   have f:Hid ((oL x y)=y):=by rw [Hid,oL,if_neg (fun h=>h h1)]
   clear h1 h2
   go_enter func150,ntmps150
   go_wp2;refine wp_loop_rounds 2 ?_;rw [rounds_succ];go_wp2;rw [rounds_succ];go_wp2;go_ret;exact ⟨Af f.o.symm,rfl⟩
 ·have l:(x != 0)=true:=by simpa using h1
  have f:Hid ((oL x y)=x):=if_pos h1;clear h1
  go_enter func150,ntmps150
  go_wp2;refine wp_loop_rounds 1 ?_;rw [rounds_succ];go_wp2;go_ret;exact ⟨Af f.o.symm,rfl⟩
theorem aY (a c m:Int) (w:World) (X:(Lit.int .i64 c).wf=true) :
  Calls prog 93 #[.agg #[qzI a,qzI c,qzI m]] w fun e w'=>e=.returned (.bool (G7 (a,c,m)))/\BW w w':=by
 have bel:Below w.heap.size w (w.alloc (.cells #[qzI a,qzI c,qzI m] 113)):=by go_grown
 have HC:Hid _:=X;clear X
 cases h1:Cb a
 ·have f:Hid (G7 (a,c,m)=false):=by simp [Hid,G7,h1]
  have I:Hid _:=h1;clear h1
  go_enter func93,ntmps93
  go_wp2_with fail
  refine (C9 I.o _).mono ?_;rintro e w1 ⟨rfl,hw⟩;rw [hw];clear hw;go_wp2;go_ret;exact ⟨Aa f.o.symm,bel⟩
 have I:Hid _:=h1;obtain ⟨d,hd⟩:∃ d,Dc c=d:=⟨_,rfl⟩;have HD:Hid _:=hd
 have f:Hid (G7 (a,c,m)=(decide (0<=d) && (fL m && decide (m≠0)))):=by simp only [Hid,G7,h1,hd,Bool.true_and]
 clear h1 hd
 go_enter func93,ntmps93
 go_wp2_with fail
 refine (C9 I.o _).mono ?_;rintro e w1 ⟨rfl,hw⟩;rw [hw];clear hw;go_wp2_with fail
 refine (Rd _ d HD.o HC.o).mono ?_;rintro e w3 ⟨rfl,N⟩
 have x3:=(N.cell (p:=⟨w.heap.size,2,none⟩) (by simp)).trans (show _=some (qzI m) by simp)
 have U:=bel.trans (N.mono bel.size);clear N bel
 by_cases h4:0<=d
 ·by_cases h5:m=0
  ·have A:Hid (G7 (a,c,m)=false):=by rw [Hid,f.o];simp [h5]
   have O:(m != 0)=false:=by simpa using h5
   clear f h5;go_wp2;go_ret;exact ⟨Aa A.o.symm,U⟩
  ·have A:Hid (G7 (a,c,m)=fL m):=by rw [Hid,f.o];simp [h4,h5]
   have O:(m != 0)=true:=by simpa using h5
   clear f h5;go_wp2_with fail
   refine (Uj _ _).mono ?_;rintro e w4 ⟨rfl,hw⟩;rw [hw];clear hw
   generalize fL m=q at A
   go_wp2;go_ret;exact ⟨Aa A.o.symm,U⟩
 ·have A:Hid (G7 (a,c,m)=false):=by rw [Hid,f.o];simp [h4]
  clear f;go_wp2;go_ret;exact ⟨Aa A.o.symm,U⟩
theorem tX (F:Option Addr) (cap:Nat) (ls:List Ln) (a c:Int) (w:World) (Z:Ai w F ls) (hn:ls.length<=1099511627776) :
  Calls prog 48 #[.agg #[.slice F ls.length cap],qzI a,qzI c] w fun e w'=>e=.returned (qzI (K2 ls a c))/\BW w w':=by
 obtain ⟨W,v⟩:∃ W,W=(w.alloc (.cells #[.slice F ls.length cap] 29)).alloc (.cells #[qzI a,qzI c] 128):=⟨_,rfl⟩
 have G:BW w W:=by rw [v];go_grown
 have a4:W.heap.size=w.heap.size+2:=by rw [v];simp
 have k0:W.cell? ⟨w.heap.size,0,none⟩=some (.slice F ls.length cap):=by rw [v];simp [go_sem]
 have k1:W.cell? ⟨w.heap.size+1,0,none⟩=some (qzI a):=by rw [v];simp [go_sem]
 have k2:W.cell? ⟨w.heap.size+1,1,none⟩=some (qzI c):=by rw [v];simp [go_sem]
 have L:Hid _:=k1;have M:Hid _:=k2;have HZ:Hid (Ai W F ls):=Z.below G;clear Z k1 k2
 go_enter func48,ntmps48
 go_wp2;rw [<- v];clear v
 go_loopw [16] (fun i wr=>∃ k:Nat,k<=ls.length/\i=qzI k/\K2 ls a c=K2 (ls.drop k) a c/\BW W wr) (fun i _=>ls.length - (intOf i).toNat)
 case atStart=>exact ⟨0,Nat.zero_le _,rfl,rfl,bR⟩
 case round =>
  obtain ⟨k,hk,rfl,hb,j⟩:=hrel;have R:=j.size
  by_cases hlt:k<ls.length
  ·have T:(k:Int)<(ls.length:Int):=by omega
   obtain ⟨b,off,rfl,a5,c1,c2,c3⟩:=(HZ.o.below j).at hlt;have t:=Aa1 ls k a c hlt;obtain ⟨⟨x,y,z⟩,Y⟩:∃ x,Cg ls k=x:=⟨_,rfl⟩;rw [Y] at c1 c2 c3 t
   simp only at c1 c2 c3 t
   have r:Hid _:=hb.trans t;obtain ⟨V,u⟩:∃ V,V=wr.alloc (.cells #[qzI x,qzI y,qzI z] 113):=⟨_,rfl⟩
   have B:BW W V:=by rw [u];exact j.alloc R _
   have a3:V.heap.size=wr.heap.size+1:=by rw [u];simp
   have v0:V.cell? ⟨wr.heap.size,0,none⟩=some (qzI x):=by rw [u];simp
   have v1:V.cell? ⟨wr.heap.size,1,none⟩=some (qzI y):=by rw [u];simp
   have v2:V.cell? ⟨wr.heap.size,2,none⟩=some (qzI z):=by rw [u];simp
   have e1:=(B.cell (p:=⟨w.heap.size+1,0,none⟩) (by show w.heap.size+1<W.heap.size;omega)).trans L.o
   have e2:=(B.cell (p:=⟨w.heap.size+1,1,none⟩) (by show w.heap.size+1<W.heap.size;omega)).trans M.o
   clear t hb Y;go_upto_region 5 with fail
   rw [<- u];clear u;have H:=B.size;have C:Hid _:=B;have J:Hid _:=G
   by_cases hq:x=a/\y=c
   ·have l:(x == a)=true:=by simpa using hq.1
    have n:(y == c)=true:=by simpa using hq.2
    have D:Hid (K2 ls a c=z):=by rw [Hid,r.o,if_pos hq]
    clear r hq B G j
    go_region_with (go_at_call 107;refine (kH _ _ _ _).mono ?_;rintro e w2 ⟨rfl,s⟩;have g1:=(s.cell (p:=⟨w.heap.size+1,0,none⟩) (by show w.heap.size+1<V.heap.size;omega)).trans e1;have g2:=(s.cell (p:=⟨w.heap.size+1,1,none⟩) (by show w.heap.size+1<V.heap.size;omega)).trans e2;have g3:=(s.cell (p:=⟨wr.heap.size,2,none⟩) (by show wr.heap.size<V.heap.size;omega)).trans v2)
    all_goals
     go_wp2;go_ret;exact ⟨Af D.o.symm,next J.o (C.o.trans ((bR.drew.trans s).mono H))⟩
   ·have D:Hid (K2 ls a c=K2 (ls.drop (k+1)) a c):=by rw [Hid,r.o,if_neg hq]
    have hs:((x == a)=false/\(y == c)=true)\/((x == a)=false/\(y == c)=false)\/((x == a)=true/\(y == c)=false):=by
     cases h1:(x == a) <;> cases h2:(y == c) <;> simp_all
    clear r hq B G j
    rcases hs with ⟨l,n⟩ | ⟨l,n⟩ | ⟨l,n⟩
    all_goals
     go_region_with (go_at_call 107;refine (kH _ _ _ _).mono ?_;rintro e w2 ⟨rfl,s⟩;have g1:=(s.cell (p:=⟨w.heap.size+1,0,none⟩) (by show w.heap.size+1<V.heap.size;omega)).trans e1;have g2:=(s.cell (p:=⟨w.heap.size+1,1,none⟩) (by show w.heap.size+1<V.heap.size;omega)).trans e2;have g3:=(s.cell (p:=⟨wr.heap.size,2,none⟩) (by show wr.heap.size<V.heap.size;omega)).trans v2)
     all_goals
      go_wp2
      go_roundw
      case rel=>exact ⟨k+1,by omega,by go_num,D.o,C.o.trans ((bR.drew.trans s).mono H)⟩
      case measure=>simp [intOf];omega
  ·have S:k=ls.length:=by omega
   subst S
   have D:Hid (K2 ls a c=0):=by rw [Hid,hb,List.drop_of_length_le nL];rfl
   have T:¬ (ls.length:Int)<(ls.length:Int):=by omega
   clear hb;go_wp2;go_ret;exact ⟨Af D.o.symm,next G j⟩
end Go.Proofs.YtomiclakhjncbaaGreatDoor
