import Derived.Test.YtomiclakhjncbaaGreatDoorJT1ar
import Derived.Test.YtomiclakhjncbaaGreatDoorJT2a
set_option maxRecDepth 100000
set_option maxHeartbeats 12800000
namespace Go.Proofs.YtomiclakhjncbaaGreatDoor
open Go.RowKit Go.Proofs.Tryz
theorem Dj (ao:Option Addr) (cap:Nat) (az:List Au) (w:World) (hz:Ar w ao az) (hn:az.length<=4194304) (hd:∀ a ∈ az,a.ref.length<=1099511627776) :
  Calls prog 110 #[.slice ao az.length cap] w fun e w'=>e=.returned (.slice (some ⟨w.heap.size,0,none⟩) az.length az.length) /\
   w'.ownsRow w.heap.size 107 6 (.slice (some ⟨w.heap.size,0,none⟩) az.length az.length) az.length (Ah az)/\BW w w':=by
 obtain ⟨i0,hi,F,G,H⟩:=info_parts cF;have x:=Qx az.length
 rcases hz with rfl | ⟨b,off,rfl,hb,q⟩
 ·go_enter func110,ntmps110
  go_wp2_with (refine wpList_make_full _ rfl (.tmp 7) (.tmp 7) 132 rfl w.heap.size 107 i0 _ 6 underlying132 hi F G .i64 .i64 _ _ 0 rfl rfl rfl rfl (by rw [H];omega) (by unfold maxLen;omega) nL ?_;intro w1 l hg)
  refine wp_loop_rounds 1 ?_;rw [rounds_succ];go_wp2;go_ret
  exact ⟨rfl,by simpa [madeCells,Ah] using l,bR.grown hg nL (fun k z=>by cases z)⟩
 rw [<- Pz az] at x;have y:Hid (∀ i,i<az.length->w.cell? (qzA b (off+i*6))=some (.string ⟨(Ak az i).ref.toArray⟩)/\w.cell? (qzA b (off+i*6+1))=some (qzI (Ak az i).iss)/\w.cell? (qzA b (off+i*6+2))=some (qzI (Ak az i).cur)/\w.cell? (qzA b (off+i*6+3))=some (qzI (Ak az i).am)/\w.cell? (qzA b (off+i*6+4))=some (qzI (Ak az i).day)/\w.cell? (qzA b (off+i*6+5))=some (.bool (Ak az i).used)):=q;clear q
 go_enter func110,ntmps110
 go_wp2_with (refine wpList_make_full _ rfl (.tmp 7) (.tmp 7) 132 rfl w.heap.size 107 i0 _ 6 underlying132 hi F G .i64 .i64 _ _ az.length rfl rfl rfl rfl (by rw [H];omega) (by unfold maxLen;omega) nL ?_;intro w1 l hg)
 rw [x] at l
 have D:BW w w1:=bR.grown hg nL (fun k z=>by cases z)
 clear x hg
 go_loopw [4,5,11] (fun _ _ i wr=>∃ k:Nat,k<=az.length/\i=qzI k/\wr.ownsRow w.heap.size 107 6 (.slice (some ⟨w.heap.size,0,none⟩) az.length az.length) az.length (Ah (Du az k))/\BW w wr) (fun _ _ i _=>az.length - (intOf i).toNat)
 case atStart=>exact ⟨0,Nat.zero_le _,rfl,l,D⟩
 case round =>
  obtain ⟨k,z,rfl,ho,j⟩:=hrel;clear l D
  by_cases hlt:k<az.length
  ·have x0:wr.cell? (qzA b (off+k*6))=some (.string ⟨(Ak az k).ref.toArray⟩):=(j.cell (p:=(qzA b (off+k*6))) hb).trans (y.o k hlt).1
   have x1:wr.cell? (qzA b (off+k*6+1))=some (qzI (Ak az k).iss):=(j.cell (p:=(qzA b (off+k*6+1))) hb).trans (y.o k hlt).2.1;have x2:wr.cell? (qzA b (off+k*6+2))=some (qzI (Ak az k).cur):=(j.cell (p:=(qzA b (off+k*6+2))) hb).trans (y.o k hlt).2.2.1;have x3:wr.cell? (qzA b (off+k*6+3))=some (qzI (Ak az k).am):=(j.cell (p:=(qzA b (off+k*6+3))) hb).trans (y.o k hlt).2.2.2.1;have x4:wr.cell? (qzA b (off+k*6+4))=some (qzI (Ak az k).day):=(j.cell (p:=(qzA b (off+k*6+4))) hb).trans (y.o k hlt).2.2.2.2.1;have x5:wr.cell? (qzA b (off+k*6+5))=some (.bool (Ak az k).used):=(j.cell (p:=(qzA b (off+k*6+5))) hb).trans (y.o k hlt).2.2.2.2.2
   have a4:(k:Int)<(az.length:Int):=by omega
   have v:=hd _ (J8 hlt);have X:Hid _:=Ly az k hlt
   have J:Hid _:=Hu (Du az k) (Ak az k) k (by rw [Iu az k z];exact hlt)
   have B:Hid (k<(Du az k).length):=by rw [Hid,Iu az k z];exact hlt
   have C:Hid (k<(Du az (k+1)).length):=by rw [Hid,Iu az (k+1) hlt];exact hlt
   have t:Hid (Ak (Du az (k+1)) k=Ak az k):=by
    rw [Hid,<- Ly az k hlt,Gw (by rw [List.length_set];exact B.o),List.getElem_set_self]
   obtain ⟨⟨r,i,c,m,d,u⟩,hf⟩:∃ f,Ak az k=f:=⟨_,rfl⟩;rw [hf] at x0 x1 x2 x3 x4 x5 X J v t
   simp only at x0 x1 x2 x3 x4 x5 J v
   have I:Hid (wr.ownsRow w.heap.size 107 6 (.slice (some ⟨w.heap.size,0,none⟩) az.length az.length) az.length (Ah (Du az k))):=ho;have HA:Hid _:=Wu az k hlt;have A:Hid (BW w wr):=j;have a5:w.heap.size<wr.heap.size:=(ho.lt _ rfl).2;clear hf ho j;go_upto_region 5 with fail
   clear x0 x1 x2 x3 x4 x5;obtain ⟨W,L⟩:∃ W,wr.alloc (.cells #[.string ⟨r.toArray⟩,qzI i,qzI c,qzI m,qzI d,.bool u] 107)=W:=⟨_,rfl⟩;have Z:BW wr W:=L ▸ bR.alloc nL _;have BX:Jo wr.heap.size ⟨r,i,c,m,d,u⟩ W:=L ▸ Jo.new wr ⟨r,i,c,m,d,u⟩ _;rw [L];clear L;have h:=Iw I.o Z;have g:=De (Du az k) k B.o;rw [HA.o] at g;have S:Hid (Jo wr.heap.size ⟨r,i,c,m,d,u⟩ W):=BX
   have y0:W.cell? ⟨w.heap.size,k*6,none⟩=some (.string ⟨#[]⟩):=by rw [h.cellAt (k*6) (by omega)];exact g.1
   have z0:W.frozen? ⟨w.heap.size,k*6,none⟩=false:=h.frozenAt _
   have y1:W.cell? ⟨w.heap.size,k*6+1,none⟩=some (qzI 0):=by rw [h.cellAt (k*6+1) (by omega)];exact g.2.1
   have z1:W.frozen? ⟨w.heap.size,k*6+1,none⟩=false:=h.frozenAt _
   have y2:W.cell? ⟨w.heap.size,k*6+2,none⟩=some (qzI 0):=by rw [h.cellAt (k*6+2) (by omega)];exact g.2.2.1
   have z2:W.frozen? ⟨w.heap.size,k*6+2,none⟩=false:=h.frozenAt _
   have y3:W.cell? ⟨w.heap.size,k*6+3,none⟩=some (qzI 0):=by rw [h.cellAt (k*6+3) (by omega)];exact g.2.2.2.1
   have z3:W.frozen? ⟨w.heap.size,k*6+3,none⟩=false:=h.frozenAt _
   have y4:W.cell? ⟨w.heap.size,k*6+4,none⟩=some (qzI 0):=by rw [h.cellAt (k*6+4) (by omega)];exact g.2.2.2.2.1
   have z4:W.frozen? ⟨w.heap.size,k*6+4,none⟩=false:=h.frozenAt _
   have y5:W.cell? ⟨w.heap.size,k*6+5,none⟩=some (.bool false):=by rw [h.cellAt (k*6+5) (by omega)];exact g.2.2.2.2.2
   have z5:W.frozen? ⟨w.heap.size,k*6+5,none⟩=false:=h.frozenAt _
   have T:Hid ((((((((W.setCell ⟨w.heap.size,k*6,none⟩ (.string ⟨r.toArray⟩)).setCell ⟨w.heap.size,k*6+1,none⟩ (qzI i)).setCell ⟨w.heap.size,k*6+2,none⟩ (qzI c)).setCell ⟨w.heap.size,k*6+3,none⟩ (qzI m)).setCell ⟨w.heap.size,k*6+4,none⟩ (qzI d)).setCell ⟨w.heap.size,k*6+5,none⟩ (.bool u))).ownsRow w.heap.size 107 6 (.slice (some ⟨w.heap.size,0,none⟩) az.length az.length) az.length (Ah (Du az (k+1)))):=by
    have R:=(((((((h.stored (k*6) (.string ⟨r.toArray⟩)).1.stored (k*6+1) (qzI i)).1.stored (k*6+2) (qzI c)).1.stored (k*6+3) (qzI m)).1.stored (k*6+4) (qzI d)).1.stored (k*6+5) (.bool u))).1;rw [J.o,X.o] at R;exact R
   have s:Hid (Below w.heap.size w (((((((W.setCell ⟨w.heap.size,k*6,none⟩ (.string ⟨r.toArray⟩)).setCell ⟨w.heap.size,k*6+1,none⟩ (qzI i)).setCell ⟨w.heap.size,k*6+2,none⟩ (qzI c)).setCell ⟨w.heap.size,k*6+3,none⟩ (qzI m)).setCell ⟨w.heap.size,k*6+4,none⟩ (qzI d)).setCell ⟨w.heap.size,k*6+5,none⟩ (.bool u)))):=(((((((A.o.trans (Z.mono A.o.size)).setCell nL _).setCell nL _).setCell nL _).setCell nL _).setCell nL _).setCell nL _)
   have n:Hid ((((((((W.setCell ⟨w.heap.size,k*6,none⟩ (.string ⟨r.toArray⟩)).setCell ⟨w.heap.size,k*6+1,none⟩ (qzI i)).setCell ⟨w.heap.size,k*6+2,none⟩ (qzI c)).setCell ⟨w.heap.size,k*6+3,none⟩ (qzI m)).setCell ⟨w.heap.size,k*6+4,none⟩ (qzI d)).setCell ⟨w.heap.size,k*6+5,none⟩ (.bool u))).cell? ⟨wr.heap.size,0,none⟩=some (.string ⟨r.toArray⟩)):=(World.grownBy.cell_far (row:=some w.heap.size) (((((((h.stored (k*6) (.string ⟨r.toArray⟩)).2).trans ((h.stored (k*6) (.string ⟨r.toArray⟩)).1.stored (k*6+1) (qzI i)).2).trans (((h.stored (k*6) (.string ⟨r.toArray⟩)).1.stored (k*6+1) (qzI i)).1.stored (k*6+2) (qzI c)).2).trans ((((h.stored (k*6) (.string ⟨r.toArray⟩)).1.stored (k*6+1) (qzI i)).1.stored (k*6+2) (qzI c)).1.stored (k*6+3) (qzI m)).2).trans (((((h.stored (k*6) (.string ⟨r.toArray⟩)).1.stored (k*6+1) (qzI i)).1.stored (k*6+2) (qzI c)).1.stored (k*6+3) (qzI m)).1.stored (k*6+4) (qzI d)).2).trans ((((((h.stored (k*6) (.string ⟨r.toArray⟩)).1.stored (k*6+1) (qzI i)).1.stored (k*6+2) (qzI c)).1.stored (k*6+3) (qzI m)).1.stored (k*6+4) (qzI d)).1.stored (k*6+5) (.bool u)).2) ⟨wr.heap.size,0,none⟩ BX.lt (by simp;omega)).trans BX.c0
   obtain ⟨q0,q1,q2,q3,q4,q5⟩:=BX
   simp only at q0 q1 q2 q3 q4 q5
   clear h g Z I HA X J;go_upto_region 6 with fail
   clear q0 q1 q2 q3 q4 q5 y0 z0 y1 z1 y2 z2 y3 z3 y4 z4 y5 z5;obtain ⟨V,hV⟩:∃ V,(((((((W.setCell ⟨w.heap.size,k*6,none⟩ (.string ⟨r.toArray⟩)).setCell ⟨w.heap.size,k*6+1,none⟩ (qzI i)).setCell ⟨w.heap.size,k*6+2,none⟩ (qzI c)).setCell ⟨w.heap.size,k*6+3,none⟩ (qzI m)).setCell ⟨w.heap.size,k*6+4,none⟩ (qzI d)).setCell ⟨w.heap.size,k*6+5,none⟩ (.bool u)))=V:=⟨_,rfl⟩;rw [hV] at T s n ⊢;clear hV;have v0:=n.o;have lb:wr.heap.size<V.heap.size:=World.block_lt_of_cell? V _ v0;go_wp2_with fail
   refine (Sm r _ v).mono ?_;rintro e N ⟨rfl,Y⟩;have M:=Iw T.o Y;have g:=De (Du az (k+1)) k C.o;rw [t.o] at g
   have t0:N.cell? ⟨w.heap.size,k*6,none⟩=some (.string ⟨r.toArray⟩):=by rw [M.cellAt (k*6) (by omega)];exact g.1
   have t1:N.frozen? ⟨w.heap.size,k*6,none⟩=false:=M.frozenAt _
   have U:Hid ((N.setCell ⟨w.heap.size,k*6,none⟩ (.string ⟨r.toArray⟩)).ownsRow w.heap.size 107 6 (.slice (some ⟨w.heap.size,0,none⟩) az.length az.length) az.length (Ah (Du az (k+1)))):=by
    have R:=(M.stored (k*6) (.string ⟨r.toArray⟩)).1;rw [G9 g.1] at R;exact R
   have O:Hid (Below w.heap.size w (N.setCell ⟨w.heap.size,k*6,none⟩ (.string ⟨r.toArray⟩))):=(s.o.trans (Y.mono s.o.size)).setCell nL _;clear M g Y T s v0 n S t;go_wp2
   go_roundw
   case rel=>exact ⟨k+1,by omega,by go_num,U.o,O.o⟩
   case measure=>simp [intOf];omega
  ·have a3:k=az.length:=by omega
   subst a3;rw [Sv] at ho;have I:Hid _:=ho;clear ho;go_wp2;go_ret;exact ⟨rfl,I.o,j⟩
def Gl (l:List UInt8) (a:Au):Bool:=a.ref == l
def addOk (az:List Au) (a:Au):Bool:=Gy a && (!az.any (Gl a.ref) && decide (az.length<100))
def Hp (az:List Au) (a:Au):List Au:=if addOk az a=true then az++[a] else az
theorem cZ {az:List Au} {a:Au} (h:addOk az a=false):Hp az a=az:=by rw [Hp,if_neg (by rw [h];decide)]
theorem Nk {az:List Au} {a:Au} (h:addOk az a=true):Hp az a=az++[a]:=by rw [Hp,if_pos h]
theorem jO (az:List Au) (a:Au):(Hp az a).length<=az.length+1:=by unfold Hp;split <;> simp
theorem Wr (p:Au->Bool) (az:List Au) (k:Nat) (h:k<az.length):(az.drop k).any p=(p (Ak az k) || (az.drop (k+1)).any p):=by
 rw [List.drop_eq_getElem_cons h,Gw h,List.any_cons]
theorem bP {w:World} {g:Nat} {a:Au} (h:Jo g a w):Ar w (some (qzA g 0)) [a] :=
 .inr ⟨g,0,rfl,h.lt,fun i hi=>by
  obtain rfl:i=0:=by simpa using hi
  exact ⟨h.c0,h.c1,h.c2,h.c3,h.c4,h.c5⟩⟩
theorem fA (a:Au) (l:List UInt8) (g:Nat) (w:World) (hc:w.cell? (qzA g 0)=some (.string ⟨l.toArray⟩)) :
  Calls prog 278 #[Fe a,.pointer (some (qzA g 0))] w fun e w'=>e=.returned (.bool (Gl l a))/\BW w w':=by
 have hg:g<w.heap.size:=World.block_lt_of_cell? w _ hc;obtain ⟨r,i,c,m,d,u⟩:=a;have A:Hid (Gl l ⟨r,i,c,m,d,u⟩=(r == l)):=rfl
 simp only [Fe]
 have d5:(w.alloc (.cells #[.string ⟨r.toArray⟩,qzI i,qzI c,qzI m,qzI d,.bool u] 107)).cell? (qzA g 0)=some (.string ⟨l.toArray⟩):=by rw [World.cell?_alloc_lt _ _ _ hg];exact hc
 go_enter func278,ntmps278
 go_wp2;go_ret;exact ⟨Aa A.o.symm,bR.alloc nL _⟩
theorem iA (j:Option Addr) (cap:Nat) (az:List Au) (l:List UInt8) (g:Nat) (w:World) (hz:Ar w j az) (hn:az.length<=4194304) (hc:w.cell? (qzA g 0)=some (.string ⟨l.toArray⟩)) :
  Calls prog 309 #[.slice j az.length cap,.func (.func 278) #[] #[.pointer (some (qzA g 0))]] w fun e w'=>∃ x:Int,e=.returned (qzI x)/\decide (0<=x)=az.any (Gl l)/\BW w w':=by
 have hg:g<w.heap.size:=World.block_lt_of_cell? w _ hc
 rcases hz with rfl | ⟨b,off,rfl,hb,T⟩
 ·go_enter func309,ntmps309
  go_wp2;refine wp_loop_rounds 1 ?_;rw [rounds_succ];go_wp2;go_ret
  exact ⟨_,rfl,by simp,bR⟩
 have HC:Hid (∀ i,i<az.length->w.cell? (qzA b (off+i*6))=some (.string ⟨(Ak az i).ref.toArray⟩)/\w.cell? (qzA b (off+i*6+1))=some (qzI (Ak az i).iss)/\w.cell? (qzA b (off+i*6+2))=some (qzI (Ak az i).cur)/\w.cell? (qzA b (off+i*6+3))=some (qzI (Ak az i).am)/\w.cell? (qzA b (off+i*6+4))=some (qzI (Ak az i).day)/\w.cell? (qzA b (off+i*6+5))=some (.bool (Ak az i).used)):=T;have HG:Hid _:=hc;clear T hc
 go_enter func309,ntmps309
 go_wp2
 go_loopw [5,8] (fun _ i wr=>∃ k:Nat,k<=az.length/\i=qzI k/\az.any (Gl l)=(az.drop k).any (Gl l)/\BW w wr) (fun _ i _=>az.length - (intOf i).toNat)
 case atStart=>exact ⟨0,Nat.zero_le _,rfl,rfl,bR⟩
 case round =>
  obtain ⟨k,hk,rfl,S,y⟩:=hrel
  by_cases hlt:k<az.length
  ·have x0:wr.cell? (qzA b (off+k*6))=some (.string ⟨(Ak az k).ref.toArray⟩):=(y.cell (p:=(qzA b (off+k*6))) hb).trans (HC.o k hlt).1
   have x1:wr.cell? (qzA b (off+k*6+1))=some (qzI (Ak az k).iss):=(y.cell (p:=(qzA b (off+k*6+1))) hb).trans (HC.o k hlt).2.1;have x2:wr.cell? (qzA b (off+k*6+2))=some (qzI (Ak az k).cur):=(y.cell (p:=(qzA b (off+k*6+2))) hb).trans (HC.o k hlt).2.2.1;have x3:wr.cell? (qzA b (off+k*6+3))=some (qzI (Ak az k).am):=(y.cell (p:=(qzA b (off+k*6+3))) hb).trans (HC.o k hlt).2.2.2.1;have x4:wr.cell? (qzA b (off+k*6+4))=some (qzI (Ak az k).day):=(y.cell (p:=(qzA b (off+k*6+4))) hb).trans (HC.o k hlt).2.2.2.2.1;have x5:wr.cell? (qzA b (off+k*6+5))=some (.bool (Ak az k).used):=(y.cell (p:=(qzA b (off+k*6+5))) hb).trans (HC.o k hlt).2.2.2.2.2
   have d6:(k:Int)<(az.length:Int):=by omega
   have a5:Hid _:=S.trans (Wr (Gl l) az k hlt);have b9:=(y.cell (p:=(qzA g 0)) hg).trans HG.o
   have I:Hid (Calls prog 278 #[Fe (Ak az k),.pointer (some (qzA g 0))] wr fun e w'=>e=.returned (.bool (Gl l (Ak az k)))/\BW wr w'):=fA _ l g wr b9
   obtain ⟨q,hq⟩:∃ q,Gl l (Ak az k)=q:=⟨_,rfl⟩;rw [hq] at a5 I;obtain ⟨⟨r,i,c,m,d,u⟩,hf⟩:∃ a,Ak az k=a:=⟨_,rfl⟩;rw [hf] at x0 x1 x2 x3 x4 x5 I;unfold Fe at I
   simp only at x0 x1 x2 x3 x4 x5 I
   have HB:Hid (BW w wr):=y;clear hf S b9 hq y;go_wp2_with fail
   refine (I.o).mono ?_;rintro e w2 ⟨rfl,s⟩;have f:Hid (BW w w2):=HB.o.trans (s.mono HB.o.size);clear s x0 x1 x2 x3 x4 x5
   cases q
   ·go_wp2
    go_roundw
    case rel=>exact ⟨k+1,by omega,by go_num,by rw [a5.o];rfl,f.o⟩
    case measure=>simp [intOf];omega
   ·go_wp2
    go_ret
    exact ⟨(k:Int),rfl,by rw [a5.o,decide_eq_true (show (0:Int)<=(k:Int) by omega)];rfl,f.o⟩
  ·have HE:Hid (az.any (Gl l)=false):=by rw [Hid,S,List.drop_of_length_le (by omega)];rfl
   go_wp2;go_ret
   exact ⟨_,rfl,by rw [HE.o];rfl,y⟩
theorem Zj (j:Option Addr) (cap:Nat) (az:List Au) (l:List UInt8) (w:World) (hz:Ar w j az) (hn:az.length<=4194304) :
  Calls prog 249 #[.slice j az.length cap,.string ⟨l.toArray⟩] w fun e w'=>e=.returned (.bool (az.any (Gl l)))/\BW w w':=by
 have bA:∀ t,Below w.heap.size w (w.alloc (.cells #[.string ⟨l.toArray⟩] t)):=fun t=>bR.alloc nL _
 have HC:Hid (∀ t,Calls prog 277 #[.slice j az.length cap,.func (.func 278) #[] #[.pointer (some ⟨w.heap.size,0,none⟩)]] (w.alloc (.cells #[.string ⟨l.toArray⟩] t)) fun e w'=>e=.returned (.bool (az.any (Gl l)))/\BW w w'):=fun t=>by
  have c9:=hz.below (bA t)
  have b8:(w.alloc (.cells #[.string ⟨l.toArray⟩] t)).cell? ⟨w.heap.size,0,none⟩=some (.string ⟨l.toArray⟩):=by simp
  have b6:Hid (Calls prog 309 #[.slice j az.length cap,.func (.func 278) #[] #[.pointer (some ⟨w.heap.size,0,none⟩)]] (w.alloc (.cells #[.string ⟨l.toArray⟩] t)) fun e w'=>∃ x:Int,e=.returned (qzI x)/\decide (0<=x)=az.any (Gl l)/\Below (w.alloc (.cells #[.string ⟨l.toArray⟩] t)).heap.size (w.alloc (.cells #[.string ⟨l.toArray⟩] t)) w'):=iA j cap az l w.heap.size _ c9 hn b8
  have a3:Hid (Below w.heap.size w (w.alloc (.cells #[.string ⟨l.toArray⟩] t))):=bA t
  generalize w.alloc (.cells #[.string ⟨l.toArray⟩] t)=W at b6 a3
  clear c9 b8 bA
  go_enter func277,ntmps277
  go_wp2_with fail
  refine Calls.mono b6.o ?_;rintro e w2 ⟨x,rfl,hx,s⟩;have HX:Hid _:=hx;have f:Hid (BW w w2):=a3.o.trans (s.mono a3.o.size);clear hx s;go_wp2;go_ret;exact ⟨Aa HX.o,f.o⟩
 clear bA hz
 go_enter func249,ntmps249
 go_wp2_with fail
 refine (HC.o _).mono ?_;rintro e w2 ⟨rfl,s⟩;have f:Hid _:=s;clear s;go_wp2;go_ret;exact ⟨rfl,f.o⟩
def Zb (w:World) (g:Nat) (a1:Option Addr) (c1:Nat) (a2:Option Addr) (c2:Nat) (C F:List Au):Prop :=
 w.cell? (qzA g 0)=some (.slice a1 C.length c1)/\w.cell? (qzA g 1)=some (.slice a2 F.length c2)/\Ar w a1 C/\Ar w a2 F
theorem Zb.below {w w':World} {g:Nat} {a1 a2:Option Addr} {c1 c2:Nat} {C F:List Au} (h:Zb w g a1 c1 a2 c2 C F) (hb:BW w w'):Zb w' g a1 c1 a2 c2 C F:=by
 obtain ⟨h1,h2,h3,h4⟩:=h;have hg:g<w.heap.size:=World.block_lt_of_cell? w _ h1;exact ⟨(hb.cell (p:=(qzA g 0)) hg).trans h1,(hb.cell (p:=(qzA g 1)) hg).trans h2,h3.below hb,h4.below hb⟩
theorem hI (g:Nat) (a1 a2:Option Addr) (c1 c2:Nat) (C F:List Au) (w:World) (h:Zb w g a1 c1 a2 c2 C F) (hx:C.length<=1048576) (hy:F.length<=1048576) :
  Calls prog 250 #[.slice (some (qzA g 0)) 2 2] w fun e w'=>∃ v,e=.returned v /\
   w'.ownsRow w.heap.size 107 6 v (C.length+F.length) (Ah (C++F))/\BW w w':=by
 have HT:Hid (Zb w g a1 c1 a2 c2 C F):=h;obtain ⟨e1,e2,f1,f2⟩:=h;have b0:Hid _:=f1;clear f1 f2
 go_enter func250,ntmps250
 go_wp2;refine wp_loop_rounds 3 ?_;rw [rounds_succ]
 go_wp2_with (at_builtin;refine Bu _ rfl (.tmp 12) (.tmp 13) rfl w.heap.size _ 0 [] rfl (World.ownsRow_nil _ _ _ _) a1 c1 C rfl b0.o (by omega) nL ?_;intro v2 w2 o2 g2 _)
 have q2:BW w w2:=bR.grown g2 nL (fun k hk=>by cases hk)
 obtain ⟨_,d2,f1,f2⟩:=HT.o.below q2;have b5:Hid _:=f2;have N:Hid (w2.ownsRow w.heap.size 107 6 v2 (0+C.length) ([]++Ah C)):=o2;have a8:=q2.size;clear e1 e2 f1 f2 o2 g2 b0;go_wp2;rw [rounds_succ]
 go_wp2_with (at_builtin;refine Bu _ rfl (.tmp 12) (.tmp 13) rfl w.heap.size _ _ _ rfl N.o a2 c2 F rfl b5.o (by omega) a8 ?_;intro v3 w3 o3 g3 _)
 have q3:BW w w3:=q2.grown g3 a8 (fun k hk=>(N.o.lt k hk).1)
 have O:Hid (w3.ownsRow w.heap.size 107 6 v3 (C.length+F.length) (Ah (C++F))):=by
  rw [F9];rw [Nat.zero_add,List.nil_append] at o3;exact o3
 clear d2 o3 g3 N a8 b5;go_wp2;rw [rounds_succ];go_wp2;go_ret;exact ⟨v3,rfl,O.o,q3⟩
theorem aI (j:Option Addr) (cap:Nat) (az:List Au) (a:Au) (w:World) (hz:Ar w j az) (hn:az.length<=1048576) (hd:∀ x ∈ az,x.ref.length<=1099511627776) (hl:a.ref.length<=1099511627776) (hc:Bf a.cur) :
  Calls prog 208 #[.slice j az.length cap,Fe a] w (Pi w (Hp az a) (addOk az a)):=by
 have Z:Hid (addOk az a=(Gy a && (!az.any (Gl a.ref) && decide (az.length<100)))):=rfl;have HN:Hid (addOk az a=false->Hp az a=az):=cZ;have HY:Hid (addOk az a=true->Hp az a=az++[a]):=Nk;have HZ:Hid (Ar w j az):=hz;clear hz;obtain ⟨q,hq⟩:∃ q,Gy a=q:=⟨_,rfl⟩
 have H:Hid (∀ u,Calls prog 248 #[Fe a] u fun e w'=>e=.returned (.bool q)/\BW u w'):=fun u=>by rw [<- hq];exact Oi a u hl hc
 obtain ⟨h,hh⟩:∃ h,az.any (Gl a.ref)=h:=⟨_,rfl⟩
 have HH:Hid (∀ u,Ar u j az->Calls prog 249 #[.slice j az.length cap,.string ⟨a.ref.toArray⟩] u fun e w'=>e=.returned (.bool h)/\BW u w'):=fun u hu=>by rw [<- hh];exact Zj j cap az a.ref u hu (by omega)
 have Y:Hid (∀ u,Ar u j az->Calls prog 110 #[.slice j az.length cap] u fun e w'=>e=.returned (.slice (some ⟨u.heap.size,0,none⟩) az.length az.length) /\
   w'.ownsRow u.heap.size 107 6 (.slice (some ⟨u.heap.size,0,none⟩) az.length az.length) az.length (Ah az)/\BW u w'):=fun u hu=>Dj j cap az u hu (by omega) hd
 have J:Hid (∀ (u:World) (R:Option Addr) (cb:Nat),Ar u R (az++[a])->Calls prog 110 #[.slice R (az++[a]).length cb] u fun e w'=>e=.returned (.slice (some ⟨u.heap.size,0,none⟩) (az++[a]).length (az++[a]).length) /\
   w'.ownsRow u.heap.size 107 6 (.slice (some ⟨u.heap.size,0,none⟩) (az++[a]).length (az++[a]).length) (az++[a]).length (Ah (az++[a]))/\BW u w'):=fun u R cb hu=>Dj R cb (az++[a]) u hu (by simp;omega) (fun x hx=>by
    rcases List.mem_append.1 hx with h1 | h1
    ·exact hd x h1
    ·have:x=a:=by simpa using h1
     rw [this];exact hl)
 obtain ⟨W,D⟩:∃ W,W=w.alloc (.cells #[.string ⟨a.ref.toArray⟩,qzI a.iss,qzI a.cur,qzI a.am,qzI a.day,.bool a.used] 107):=⟨_,rfl⟩
 have B:Jo w.heap.size a W:=by rw [D];exact Jo.new w a _
 have a4:Hid (Jo w.heap.size a W):=B
 have bW:BW w W:=by rw [D];exact bR.alloc nL _
 have X:Hid (BW w W):=bW;rw [hq,hh] at Z;clear bW hd hl hc hq hh
 cases q
 ·have A:Hid (addOk az a=false):=Z.o
  have M:Hid (Hp az a=az):=HN.o A.o;rw [A.o,M.o];clear Z HN HY A M J HH;obtain ⟨r,i,c,m,d,u⟩:=a;unfold Fe at H ⊢
  simp only at D H ⊢
  have HW:Hid _:=D;obtain ⟨f0,f1,f2,f3,f4,f5⟩:=B;clear D
  go_enter func208,ntmps208
  go_upto_region 1 with fail
  rw [<- HW.o];go_wp2_with fail
  refine (H.o _).mono ?_;rintro e u1 ⟨rfl,z⟩;have n:Hid (BW w u1):=next X.o z;clear z f0 f1 f2 f3 f4 f5;go_wp2_with fail
  refine (Y.o _ (HZ.o.below n.o)).mono ?_;rintro e u2 ⟨rfl,o2,s⟩;have N:Hid _:=Ri o2 n.o.size;have f:Hid (BW w u2):=next n.o s;clear o2 s;go_wp2;go_ret2;exact ⟨_,_,rfl,N.o,f.o⟩
 cases h
 ·by_cases h100:az.length<100
  ·have A:Hid (addOk az a=true):=by rw [Hid,Z.o,decide_eq_true h100];rfl
   have M:Hid (Hp az a=az++[a]):=HY.o A.o;rw [A.o,M.o]
   have a7:(az.length:Int)<100:=by omega
   have d4:Hid ((az++[a]).length=az.length+1):=by rw [Hid];simp
   have HJ:Hid (∀ (u:World) (g:Nat) (a2:Option Addr) (c2:Nat),Zb u g j cap a2 c2 az [a]->Calls prog 250 #[.slice (some (qzA g 0)) 2 2] u fun e w'=>∃ R cb,e=.returned (.slice R (az++[a]).length cb)/\Ar w' R (az++[a])/\BW u w'):=fun u g a2 c2 h2 =>
    (hI g j a2 cap c2 az [a] u h2 (by omega) (by simp)).mono fun e u' ⟨v,he,hv,hb⟩=>by
     obtain ⟨R,cb,rfl,hA,_⟩:=Lo hv;exact ⟨R,cb,he,hA,hb⟩
   clear Z HN HY A M Y;obtain ⟨L,hL⟩:∃ L,az++[a]=L:=⟨_,rfl⟩;rw [hL] at J HJ d4 ⊢
   have a6:Hid (∀ (u:World) (t1 t2:TypeId),Ar u j az->Zb ((u.alloc (.cells #[.string ⟨a.ref.toArray⟩,qzI a.iss,qzI a.cur,qzI a.am,qzI a.day,.bool a.used] t1)).alloc (.cells #[.slice j az.length cap,.slice (some ⟨u.heap.size,0,none⟩) 1 1] t2)) (u.heap.size+1) j cap (some ⟨u.heap.size,0,none⟩) 1 az [a]/\Below u.heap.size u ((u.alloc (.cells #[.string ⟨a.ref.toArray⟩,qzI a.iss,qzI a.cur,qzI a.am,qzI a.day,.bool a.used] t1)).alloc (.cells #[.slice j az.length cap,.slice (some ⟨u.heap.size,0,none⟩) 1 1] t2))):=fun u t1 t2 hu=>by
    have z:Below u.heap.size u (u.alloc (.cells #[.string ⟨a.ref.toArray⟩,qzI a.iss,qzI a.cur,qzI a.am,qzI a.day,.bool a.used] t1)):=bR.alloc nL _;have U:=Jo.new u a t1;have z1:=hu.below z
    have c8:(u.alloc (.cells #[.string ⟨a.ref.toArray⟩,qzI a.iss,qzI a.cur,qzI a.am,qzI a.day,.bool a.used] t1)).heap.size=u.heap.size+1:=by simp
    generalize u.alloc (.cells #[.string ⟨a.ref.toArray⟩,qzI a.iss,qzI a.cur,qzI a.am,qzI a.day,.bool a.used] t1)=V at z U z1 c8
    have s:Below V.heap.size V (V.alloc (.cells #[.slice j az.length cap,.slice (some ⟨u.heap.size,0,none⟩) 1 1] t2)):=bR.alloc nL _
    have k1:(V.alloc (.cells #[.slice j az.length cap,.slice (some ⟨u.heap.size,0,none⟩) 1 1] t2)).cell? ⟨V.heap.size,0,none⟩=some (.slice j az.length cap):=by simp
    have k2:(V.alloc (.cells #[.slice j az.length cap,.slice (some ⟨u.heap.size,0,none⟩) 1 1] t2)).cell? ⟨V.heap.size,1,none⟩=some (.slice (some ⟨u.heap.size,0,none⟩) 1 1):=by simp
    rw [c8] at k1 k2;exact ⟨⟨k1,k2,z1.below s,bP (U.below s)⟩,next z s⟩
   clear hL;obtain ⟨r,i,c,m,d,u⟩:=a;unfold Fe at H ⊢
   simp only at D H HH a6 ⊢
   have HW:Hid _:=D;obtain ⟨f0,f1,f2,f3,f4,f5⟩:=B;clear D
   go_enter func208,ntmps208
   go_upto_region 1 with fail
   rw [<- HW.o];go_wp2_with fail
   refine (H.o _).mono ?_;rintro e u1 ⟨rfl,z⟩;have n:Hid (BW w u1):=next X.o z;have U:=a4.o.below z;have a9:Hid (Jo w.heap.size ⟨r,i,c,m,d,u⟩ u1):=U;clear z f0 f1 f2 f3 f4 f5;obtain ⟨f0,f1,f2,f3,f4,f5⟩:=U
   simp only at f0 f1 f2 f3 f4 f5
   go_wp2_with fail
   refine (HH.o _ (HZ.o.below n.o)).mono ?_;rintro e u2 ⟨rfl,s⟩;have f:Hid (BW w u2):=next n.o s;have B2:=a9.o.below s;clear s f0 f1 f2 f3 f4 f5;obtain ⟨f0,f1,f2,f3,f4,f5⟩:=B2
   simp only at f0 f1 f2 f3 f4 f5
   go_wp2_with fail
   refine (HJ.o _ _ _ _ (a6.o u2 _ _ (HZ.o.below f.o)).1).mono ?_;rintro e u3 ⟨R,cb,rfl,b7,b3⟩;have G:Hid (BW w u3):=next (next f.o (a6.o u2 _ _ (HZ.o.below f.o)).2) b3;have d0:Hid (Ar u3 R L):=b7;clear b7 b3 f0 f1 f2 f3 f4 f5;go_wp2_with fail
   refine (J.o _ _ _ d0.o).mono ?_;rintro e u4 ⟨rfl,o4,b4⟩;have d3:Hid _:=Ri o4 G.o.size;have d1:Hid (BW w u4):=next G.o b4;clear o4 b4;go_wp2;go_ret2;exact ⟨_,_,rfl,d3.o,d1.o⟩
  ·have A:Hid (addOk az a=false):=by rw [Hid,Z.o,decide_eq_false h100];rfl
   have M:Hid (Hp az a=az):=HN.o A.o;rw [A.o,M.o]
   have a7:100<=(az.length:Int):=by omega
   clear Z HN HY A M J;obtain ⟨r,i,c,m,d,u⟩:=a;unfold Fe at H ⊢
   simp only at D H HH ⊢
   have HW:Hid _:=D;obtain ⟨f0,f1,f2,f3,f4,f5⟩:=B;clear D
   go_enter func208,ntmps208
   go_upto_region 1 with fail
   rw [<- HW.o];go_wp2_with fail
   refine (H.o _).mono ?_;rintro e u1 ⟨rfl,z⟩;have n:Hid (BW w u1):=next X.o z;have U:=a4.o.below z;clear z f0 f1 f2 f3 f4 f5;obtain ⟨f0,f1,f2,f3,f4,f5⟩:=U
   simp only at f0 f1 f2 f3 f4 f5
   go_wp2_with fail
   refine (HH.o _ (HZ.o.below n.o)).mono ?_;rintro e u2 ⟨rfl,s⟩;have f:Hid (BW w u2):=next n.o s;clear s f0 f1 f2 f3 f4 f5;go_wp2_with fail
   refine (Y.o _ (HZ.o.below f.o)).mono ?_;rintro e u3 ⟨rfl,o3,b3⟩;have O:Hid _:=Ri o3 f.o.size;have G:Hid (BW w u3):=next f.o b3;clear o3 b3;go_wp2;go_ret2;exact ⟨_,_,rfl,O.o,G.o⟩
 ·have A:Hid (addOk az a=false):=by rw [Hid,Z.o];rfl
  have M:Hid (Hp az a=az):=HN.o A.o;rw [A.o,M.o];clear Z HN HY A M J;obtain ⟨r,i,c,m,d,u⟩:=a;unfold Fe at H ⊢
  simp only at D H HH ⊢
  have HW:Hid _:=D;obtain ⟨f0,f1,f2,f3,f4,f5⟩:=B;clear D
  go_enter func208,ntmps208
  go_upto_region 1 with fail
  rw [<- HW.o];go_wp2_with fail
  refine (H.o _).mono ?_;rintro e u1 ⟨rfl,z⟩;have n:Hid (BW w u1):=next X.o z;have U:=a4.o.below z;clear z f0 f1 f2 f3 f4 f5;obtain ⟨f0,f1,f2,f3,f4,f5⟩:=U
  simp only at f0 f1 f2 f3 f4 f5
  go_wp2_with fail
  refine (HH.o _ (HZ.o.below n.o)).mono ?_;rintro e u2 ⟨rfl,s⟩;have f:Hid (BW w u2):=next n.o s;clear s f0 f1 f2 f3 f4 f5;go_wp2_with fail
  refine (Y.o _ (HZ.o.below f.o)).mono ?_;rintro e u3 ⟨rfl,o3,b3⟩;have O:Hid _:=Ri o3 f.o.size;have G:Hid (BW w u3):=next f.o b3;clear o3 b3;go_wp2;go_ret2;exact ⟨_,_,rfl,O.o,G.o⟩
theorem Yb (X:Option Addr) (cap:Nat) (az:List Au) (a:Au) (w:World) (hz:Ar w X az) (hn:az.length<=1048576) (hl:a.ref.length<=1099511627776) :
  Calls prog 143 #[.slice X az.length cap,Fe a] w (Pi w (Hp az a) (addOk az a)):=by
 have I:Hid (addOk az a=(Gy a && (!az.any (Gl a.ref) && decide (az.length<100)))):=rfl;have N:Hid (addOk az a=false->Hp az a=az):=cZ;have HY:Hid (addOk az a=true->Hp az a=az++[a]):=Nk;have HZ:Hid (Ar w X az):=hz;obtain ⟨q,Y⟩:∃ q,Gy a=q:=⟨_,rfl⟩
 have V:Hid (∀ u,Calls prog 179 #[Fe a] u fun e w'=>e=.returned (.bool q)/\BW u w'):=fun u=>by rw [<- Y];exact Pe a u hl
 obtain ⟨W,hW⟩:∃ W,W=w.alloc (.cells #[.string ⟨a.ref.toArray⟩,qzI a.iss,qzI a.cur,qzI a.am,qzI a.day,.bool a.used] 107):=⟨_,rfl⟩
 have B:Jo w.heap.size a W:=by rw [hW];exact Jo.new w a _
 have L:Hid (Jo w.heap.size a W):=B
 have bW:BW w W:=by rw [hW];exact bR.alloc nL _
 have Z:Hid (BW w W):=bW;have bA:Below W.heap.size W (W.alloc (.cells #[] 107)):=bR.alloc nL _;have a7:Hid (Ar (W.alloc (.cells #[] 107)) X az):=(hz.below bW).below bA;have a5:=kV W;rw [Y] at I;obtain ⟨A,hA⟩:∃ A,a=A:=⟨_,rfl⟩;rw [hA] at I N HY L ⊢
 have F:Hid (A.ref=a.ref):=by rw [hA];exact rfl
 have v:Hid (A=⟨a.ref,a.iss,a.cur,a.am,a.day,a.used⟩):=by rw [hA];exact rfl
 have e0:Fe A=Fe a:=by rw [hA]
 rw [e0];clear bW hl Y hz e0 hA;obtain ⟨r,i,c,m,d,u⟩:=a;unfold Fe at V ⊢
 simp only at hW V F v ⊢
 rw [F.o] at I;have HW:Hid _:=hW;clear hW B
 go_enter func143,ntmps143
 go_upto_region 1 with fail
 rw [<- HW.o]
 go_upto_region 2 with (at_builtin;refine Bu _ rfl (.tmp 8) (.tmp 9) rfl W.heap.size (.slice (some ⟨W.heap.size,0,none⟩) 0 0) 0 [] rfl a5 X cap az rfl a7.o (by omega) (by simp) ?_;intro v2 w2 o2 g2 n2)
 obtain ⟨g,cc,rfl⟩:=Oe o2 (n2 (by simp))
 simp only [Nat.zero_add,List.nil_append] at o2 ⊢
 have b2:BW W w2:=bA.grown g2 (by simp) (fun j hj=>by cases hj;exact nL)
 have B2:=L.o.below b2;rw [v.o] at B2;have G:Hid (BW w w2):=next Z.o b2;have J:Hid (Jo w.heap.size ⟨r,i,c,m,d,u⟩ w2):=B2;have HR:Hid (w2.ownsRow w.heap.size 107 6 (.slice (some (qzA g 0)) az.length cc) az.length (Ah az)):=Ri o2 Z.o.size;have HG:Hid (W.heap.size<=g):=(o2.lt g rfl).1;clear o2 b2 g2 n2 a5 bA a7;obtain ⟨f0,f1,f2,f3,f4,f5⟩:=B2
 simp only at f0 f1 f2 f3 f4 f5
 cases q
 ·have y:Hid (addOk az A=false):=I.o
  have M:Hid (Hp az A=az):=N.o y.o;clear I N HY v F;go_wp2_with fail
  refine (V.o _).mono ?_;rintro e D ⟨rfl,t⟩;have h:Hid (BW w D):=next G.o t;have s:Hid _:=Iw HR.o t;clear t f0 f1 f2 f3 f4 f5;go_wp2;go_ret2;rw [y.o,M.o];exact ⟨_,_,rfl,s.o,h.o⟩
 by_cases h100:az.length<100
 ·have T:(az.length:Int)<100:=by omega
  have S:Hid (addOk az A = !az.any (Gl r)):=by rw [Hid,I.o,decide_eq_true h100,Bool.and_true,Bool.true_and]
  clear I;go_wp2_with fail
  refine (V.o _).mono ?_;rintro e D ⟨rfl,t⟩;have h:Hid (BW w D):=next G.o t;have s:Hid (D.ownsRow w.heap.size 107 6 (.slice (some (qzA g 0)) az.length cc) az.length (Ah az)):=Iw HR.o t;have a4:Hid (Jo w.heap.size ⟨r,i,c,m,d,u⟩ D):=J.o.below t;have b4:Hid (Ar D X az):=HZ.o.below h.o;clear t f0 f1 f2 f3 f4 f5 HR J G V HZ L;go_wp2
  go_loopw [7] (fun i wr=>∃ k:Nat,k<=az.length/\i=qzI k/\az.any (Gl r)=(az.drop k).any (Gl r)/\BW D wr) (fun i _=>az.length - (intOf i).toNat)
  case atStart=>exact ⟨0,Nat.zero_le _,rfl,rfl,bR⟩
  case round =>
   obtain ⟨k,hk,rfl,n,f⟩:=hrel;obtain ⟨f0,f1,f2,f3,f4,f5⟩:=a4.o.below f
   simp only at f0 f1 f2 f3 f4 f5
   by_cases hlt:k<az.length
   ·have b5:(k:Int)<(az.length:Int):=by omega
    have H:Hid _:=n.trans (Wr (Gl r) az k hlt)
    rcases b4.o with h0 | ⟨b,off,rfl,hb,C⟩
    ·rw [h0] at hlt;simp at hlt
    have x0:wr.cell? (qzA b (off+k*6))=some (.string ⟨(Ak az k).ref.toArray⟩):=(f.cell (p:=(qzA b (off+k*6))) hb).trans (C k hlt).1;have x:Hid (Gl r (Ak az k)=((Ak az k).ref == r)):=rfl;obtain ⟨l,a8⟩:∃ l,(Ak az k).ref=l:=⟨_,rfl⟩;rw [a8] at x0 x;have a9:Hid (BW D wr):=f;have z:Hid (BW w wr):=next h.o f;have R:Hid _:=Iw s.o f;clear a8 n C f
    cases Y:(l == r)
    ·have U:Hid (az.any (Gl r)=(az.drop (k+1)).any (Gl r)):=by rw [Hid,H.o,x.o,Y];rfl
     clear H x;go_wp2
     go_quiet (fail)
     go_wp2
     go_roundw
     case rel=>exact ⟨k+1,by omega,by go_num,U.o,below_drewN a9.o _⟩
     case measure=>simp [intOf];omega
    ·have U:Hid (az.any (Gl r)=true):=by rw [Hid,H.o,x.o,Y];rfl
     have y:Hid (addOk az A=false):=by rw [Hid,S.o,U.o];rfl
     have M:Hid (Hp az A=az):=N.o y.o;clear H x;go_wp2
     go_quiet (fail)
     go_wp2;go_ret2;rw [y.o,M.o];exact ⟨_,_,rfl,Iw R.o (below_drewN bR _),below_drewN z.o _⟩
   ·have U:Hid (az.any (Gl r)=false):=by rw [Hid,n,List.drop_of_length_le (by omega)];rfl
    have y:Hid (addOk az A=true):=by rw [Hid,S.o,U.o];rfl
    have M:Hid (Hp az A=az++[⟨r,i,c,m,d,u⟩]):=by rw [Hid,HY.o y.o,v.o]
    have z:Hid (BW w wr):=next h.o f;have R:Hid (wr.ownsRow w.heap.size 107 6 (.slice (some (qzA g 0)) az.length cc) az.length (Ah az)):=Iw s.o f;have a6:Hid (Ar (wr.alloc (.cells #[.string ⟨r.toArray⟩,qzI i,qzI c,qzI m,qzI d,.bool u] 107)) (some ⟨wr.heap.size,0,none⟩) [⟨r,i,c,m,d,u⟩]):=bP (Jo.new wr ⟨r,i,c,m,d,u⟩ _);have O:Hid ((wr.alloc (.cells #[.string ⟨r.toArray⟩,qzI i,qzI c,qzI m,qzI d,.bool u] 107)).ownsRow w.heap.size 107 6 (.slice (some (qzA g 0)) az.length cc) az.length (Ah az)):=Iw R.o (bR.alloc nL _);have b6:w.heap.size<=wr.heap.size:=z.o.size;clear U n f N HY S
    go_wp2_with (at_builtin;refine Bu _ rfl (.tmp 35) (.tmp 37) rfl w.heap.size (.slice (some (qzA g 0)) az.length cc) az.length (Ah az) rfl O.o (some ⟨wr.heap.size,0,none⟩) 1 [⟨r,i,c,m,d,u⟩] rfl a6.o (by simp;omega) (by simp;omega) ?_;intro v3 w3 o3 g3 n3)
    obtain ⟨a3,c3,rfl⟩:=dI o3
    have b3:Hid (w3.ownsRow w.heap.size 107 6 (.slice a3 (az++([⟨r,i,c,m,d,u⟩]:List Au)).length c3) (az++([⟨r,i,c,m,d,u⟩]:List Au)).length (Ah (az++[⟨r,i,c,m,d,u⟩]))):=by rw [Hid,List.length_append,F9];exact o3
    have b0:Hid (BW w w3):=(z.o.alloc z.o.size _).grown g3 (by simp;omega) (fun j hj=>(O.o.lt j hj).1)
    clear o3 g3 n3 O a6;go_wp2;go_ret2;rw [y.o,M.o]
    exact ⟨a3,c3,by rw [List.length_append];rfl,b3.o,b0.o⟩
 ·have T:100<=(az.length:Int):=by omega
  have y:Hid (addOk az A=false):=by rw [Hid,I.o,decide_eq_false h100,Bool.and_false];rfl
  have M:Hid (Hp az A=az):=N.o y.o;clear I N HY v F;go_wp2_with fail
  refine (V.o _).mono ?_;rintro e D ⟨rfl,t⟩;have h:Hid (BW w D):=next G.o t;have s:Hid _:=Iw HR.o t;clear t f0 f1 f2 f3 f4 f5;go_wp2;go_ret2;rw [y.o,M.o];exact ⟨_,_,rfl,s.o,h.o⟩
def C7 (f:Int) (a:Au):Bool:=!a.used && decide (f<=a.day)
def E5 (az:List Au) (t:Int):List Au:=if Dn t=true then az.filter (C7 (t - 7)) else []
theorem Yp (az:List Au) (t:Int):(E5 az t).length<=az.length:=by unfold E5;split;exact List.length_filter_le _ _;exact Nat.zero_le _
theorem Jy (f:Int) (az:List Au) (k:Nat) (h:k<az.length):(az.take (k+1)).filter (C7 f)=(az.take k).filter (C7 f)++(if C7 f (Ak az k)=true then [Ak az k] else []):=by
 rw [List.take_succ_eq_append_getElem h,List.filter_append,Gw h]
 cases H:C7 f az[k] <;> simp [H]
theorem Uo {base n:Nat} {t:TypeId} {g cap:Nat} (Z:List Value):∀ (o:Nat) (w:World) (S:List Value),w.ownsRow base t 6 (.slice (some (qzA g 0)) n cap) n S->o+Z.length<=n*6 ->
  ∃ T,(w.setCells g o Z).ownsRow base t 6 (.slice (some (qzA g 0)) n cap) n T/\T.take o=S.take o/\w.grownBy (w.setCells g o Z) (some g):=by
 induction Z with
 | nil=>intro o w S h _;exact ⟨S,h,rfl,World.grownBy.refl _ _⟩
 | cons v r ih =>
  intro o w S h hl;have hs:=h.stored o v
  obtain ⟨T,h1,h2,h3⟩:=ih (o+1) _ _ hs.1 (by simp at hl;omega)
  refine ⟨T,h1,?_,hs.2.trans h3⟩
  have e:T.take o=(T.take (o+1)).take o:=by rw [List.take_take,Nat.min_eq_left (Nat.le_succ o)]
  rw [e,h2,List.take_take,Nat.min_eq_left (Nat.le_succ o),List.take_set_of_le (Nat.le_refl o)]
theorem dD {w:World} {base n s:Nat} {t:TypeId} {g cap:Nat} {S:List Value} (h:w.ownsRow base t 6 (.slice (some (qzA g 0)) n cap) n S) (hs:s<=n):w.ownsRow base t 6 (.slice (some (qzA g 0)) s cap) s (S.take (s*6)):=by
 obtain ⟨h1,h2⟩:=h
 rcases h2 with ⟨hv,_⟩ | ⟨g',b9,cQ,hv,hg,hh,a1,a2,a3,a4⟩
 ·cases hv
 ·obtain ⟨rfl,rfl⟩:g=g'/\cap=b9:=by simpa using hv
  refine ⟨by rw [List.length_take,h1];omega,.inr ⟨g,cap,cQ,rfl,hg,hh,by omega,a2,a3,?_⟩⟩
  rw [<- a4,List.take_take,Nat.min_eq_left (by omega)]
theorem fP (n:Nat):∀ v ∈ (Builtin.zeroCells (Value.agg #[.string ⟨#[]⟩,qzI 0,qzI 0,qzI 0,qzI 0,.bool false]).cells n).toList,v.oneCell'=true:=by
 intro v hv
 simp only [Builtin.zeroCells,Array.toList_map,List.mem_map] at hv
 obtain ⟨j,_,rfl⟩:=hv
 have:j % 6=0\/j % 6=1\/j % 6=2\/j % 6=3\/j % 6=4\/j % 6=5:=by omega
 simp only [Value.cells]
 show Value.oneCell' ((#[Value.string ⟨#[]⟩,qzI 0,qzI 0,qzI 0,qzI 0,.bool false]:Array Value)[j % 6]!)=true
 rcases this with e | e | e | e | e | e <;> rw [e] <;> rfl
theorem Z1 {W:World} {base n s g:Nat} {S:List Value} (ho:W.ownsRow base 107 6 (.slice (some (qzA g 0)) n n) n S) (hs:s<n) :
  ∃ V T,(∀ ty,(Builtin.clear_ #[132] ty #[.slice (some (qzA g (s*6))) (n - s) (n - s)]).run prog W=.ok (.tuple #[]) V)/\V.ownsRow base 107 6 (.slice (some (qzA g 0)) n n) n T/\T.take (s*6)=S.take (s*6)/\W.grownBy V (some g):=by
 have a8:(Builtin.zeroCells (Value.agg #[.string ⟨#[]⟩,qzI 0,qzI 0,qzI 0,qzI 0,.bool false]).cells (n - s)).toList.length=(n - s) * 6:=by simp [Builtin.zeroCells,Value.cells]
 obtain ⟨Z,a7⟩:∃ Z,(Builtin.zeroCells (Value.agg #[.string ⟨#[]⟩,qzI 0,qzI 0,qzI 0,qzI 0,.bool false]).cells (n - s)).toList=Z:=⟨_,rfl⟩
 have c9:∀ v ∈ Z,v.oneCell'=true:=by rw [<- a7];exact fP _
 rw [a7] at a8;have h8:=ho.1
 obtain ⟨T,h1,h2,h3⟩:=Uo Z (s*6) W S ho (by rw [a8];omega)
 refine ⟨_,T,fun ty=>?_,h1,h2,h3⟩
 have d1:=run_storeCells_cells (P:=prog) g (s*6) Z 0 W (fun j hj=>by rw [ho.cellAt _ (by omega)];simp;omega) (fun j hj=>ho.frozenAt _) c9
 simp only [Nat.add_zero] at d1
 obtain ⟨q,H⟩:∃ q,n - s=q+1:=⟨n - s - 1,by omega⟩
 rw [H] at a7 ⊢
 simp [Builtin.clear_,run_underlying underlying132,zeroValue107,a7,d1]
theorem qG {w:World} {g:Nat} {a:Au} (h:Jo g a w):Ar w (some (qzA g 0)) [a] :=
 .inr ⟨g,0,rfl,h.lt,fun i hi=>by
  obtain rfl:i=0:=by simpa using hi
  exact ⟨h.c0,h.c1,h.c2,h.c3,h.c4,h.c5⟩⟩
theorem U5:prog.elem 132=107:=by simp [Program.elem,underlying132]
theorem Vd:prog.underlying 132=some (.slice (prog.elem 132)):=by rw [U5];exact underlying132
theorem bG (w:World):(sizeOf 107).run prog w=.ok 6 w:=by
 obtain ⟨i0,hi,i1,g8,i2⟩:=info_parts cF
 simp [sizeOf,typeInfo,hi,g8]
theorem X4 {g n s:Nat} (hs:s<=n) (W:World):(Instr.slice 132 (.slice (some (qzA g 0)) n n) (some (qzI s)) none none).run prog W=.ok (.slice (some (if n=s then (qzA g 0) else (qzA g (s*6)))) (n - s) (n - s)) W:=by
 rw [run_slice_l W _ _ _ _ Vd .i64 _ (by omega) (by omega),U5,bG]
 by_cases h:n=s
 ·simp [Result.andThen,sliced,h]
 ·simp [Result.andThen,sliced,h,Addr.add]
  intro h0;exact h0.symm
theorem aB {g n s:Nat} (hs:s<=n) (W:World):(Instr.slice 132 (.slice (some (qzA g 0)) n n) none (some (qzI s)) none).run prog W=.ok (.slice (some (qzA g 0)) s n) W:=by
 rw [run_slice_h W _ _ _ _ Vd .i64 _ (by omega) (by omega),U5,bG]
 simp [Result.andThen,sliced,Addr.add]
structure Xs (f:Int) (az l:List Au) (s k:Nat):Prop where
 len:l.length=az.length
 le:s<=k
 front:l.take s=(az.take k).filter (C7 f)
 rest:∀ j,k<=j->j<az.length->Ak l j=Ak az j
theorem Xs.start (f:Int) (az:List Au):Xs f az az 0 0:=⟨rfl,nL,rfl,fun _ _ _=>rfl⟩
theorem Xs.skip {f:Int} {az l:List Au} {s k:Nat} (h:Xs f az l s k) (hk:k<az.length) (H:C7 f (Ak az k)=false):Xs f az l s (k+1) :=
 ⟨h.len,Nat.le_succ_of_le h.le,by rw [Jy f az k hk,H,h.front];simp,fun j h1 h2=>h.rest j (by omega) h2⟩
theorem Xs.keep {f:Int} {az l:List Au} {s k:Nat} (h:Xs f az l s k) (hk:k<az.length) (H:C7 f (Ak az k)=true):Xs f az (l.set s (Ak az k)) (s+1) (k+1):=by
 have hl:=h.len;have h4:=h.le
 refine ⟨by rw [List.length_set];exact hl,by omega,?_,fun j h1 h2=>?_⟩
 ·rw [Jy f az k hk,H,if_pos rfl,<- h.front,List.take_succ_eq_append_getElem (by rw [List.length_set];omega),List.take_set_of_le (Nat.le_refl s),List.getElem_set_self]
 ·rw [Gw (by rw [List.length_set];omega),List.getElem_set_ne (by omega),<- Gw (by omega)]
  exact h.rest j (by omega) h2
theorem aJ (g base:Nat) (az:List Au) (f:Int) (w:World) (ho:w.ownsRow base 107 6 (.slice (some (qzA g 0)) az.length az.length) az.length (Ah az)) (hn:az.length<=4194304) :
  Calls prog 247 #[.slice (some (qzA g 0)) az.length az.length,qzI f] w fun e w'=>e=.returned (.slice (some (qzA g 0)) (az.filter (C7 f)).length az.length) /\
   w'.ownsRow base 107 6 (.slice (some (qzA g 0)) (az.filter (C7 f)).length az.length) (az.filter (C7 f)).length (Ah (az.filter (C7 f)))/\w.grownBy w' (some g):=by
 have b7:Hid _:=ho;clear ho
 go_enter func247,ntmps247
 go_wp2
 go_loopw [5,7,10] (fun s _ i wr=>∃ (k y:Nat) (l:List Au),k<=az.length/\i=qzI k/\s=qzI y/\Xs f az l y k/\wr.ownsRow base 107 6 (.slice (some (qzA g 0)) az.length az.length) az.length (Ah l)/\w.grownBy wr (some g)) (fun _ _ i _=>az.length - (intOf i).toNat)
 case atStart=>exact ⟨0,0,az,Nat.zero_le _,rfl,rfl,Xs.start f az,b7.o,World.grownBy.refl _ _⟩
 case round =>
  obtain ⟨k,y,l,hk,rfl,rfl,hp,x,X⟩:=hrel;have Y:=hp.le;have HP:Hid (Xs f az l y k):=hp;have A:Hid (l.length=az.length):=hp.len;clear hp b7
  by_cases hlt:k<az.length
  ·have g4:(k:Int)<(az.length:Int):=by omega
   have L:=De l k (by have:=A.o;omega)
   rw [HP.o.rest k nL hlt] at L
   have x0:wr.cell? (qzA g (k*6))=some (.string ⟨(Ak az k).ref.toArray⟩):=by rw [x.cellAt (k*6) (by omega)];exact L.1
   have x1:wr.cell? (qzA g (k*6+1))=some (qzI (Ak az k).iss):=by rw [x.cellAt (k*6+1) (by omega)];exact L.2.1
   have x2:wr.cell? (qzA g (k*6+2))=some (qzI (Ak az k).cur):=by rw [x.cellAt (k*6+2) (by omega)];exact L.2.2.1
   have x3:wr.cell? (qzA g (k*6+3))=some (qzI (Ak az k).am):=by rw [x.cellAt (k*6+3) (by omega)];exact L.2.2.2.1
   have x4:wr.cell? (qzA g (k*6+4))=some (qzI (Ak az k).day):=by rw [x.cellAt (k*6+4) (by omega)];exact L.2.2.2.2.1
   have x5:wr.cell? (qzA g (k*6+5))=some (.bool (Ak az k).used):=by rw [x.cellAt (k*6+5) (by omega)];exact L.2.2.2.2.2
   have I:Hid (C7 f (Ak az k)=(!(Ak az k).used && decide (f<=(Ak az k).day))):=rfl
   have F:Hid (C7 f (Ak az k)=true->Xs f az (l.set y (Ak az k)) (y+1) (k+1)):=fun h=>HP.o.keep hlt h
   have O:Hid (C7 f (Ak az k)=false->Xs f az l y (k+1)):=fun h=>HP.o.skip hlt h
   have N:Hid _:=Hu l (Ak az k) y (by have:=A.o;omega)
   obtain ⟨⟨r,i,c,m,d,u⟩,hf⟩:∃ a,Ak az k=a:=⟨_,rfl⟩;rw [hf] at x0 x1 x2 x3 x4 x5 I F O N
   simp only at x0 x1 x2 x3 x4 x5 I N
   have z:Hid (wr.ownsRow base 107 6 (.slice (some (qzA g 0)) az.length az.length) az.length (Ah l)):=x;have HG:Hid (w.grownBy wr (some g)):=X;have g9:g<wr.heap.size:=(x.lt g rfl).2;clear hf x X L;go_upto_region 5 with fail
   clear x0 x1 x2 x3 x4 x5;obtain ⟨W,hW⟩:∃ W,wr.alloc (.cells #[.string ⟨r.toArray⟩,qzI i,qzI c,qzI m,qzI d,.bool u] 107)=W:=⟨_,rfl⟩;have bW:BW wr W:=hW ▸ bR.alloc nL _;have BX:Jo wr.heap.size ⟨r,i,c,m,d,u⟩ W:=hW ▸ Jo.new wr ⟨r,i,c,m,d,u⟩ _;rw [hW];clear hW;have D:=Iw z.o bW
   have gW:w.grownBy W (some g):=HG.o.trans ⟨bW.os,bW.tape,bW.output,bW.size,fun j hj _=>bW.block j hj⟩
   have b1:Hid (W.ownsRow base 107 6 (.slice (some (qzA g 0)) az.length az.length) az.length (Ah l)):=D;have a9:Hid (w.grownBy W (some g)):=gW;obtain ⟨q0,q1,q2,q3,q4,q5⟩:=BX
   simp only at q0 q1 q2 q3 q4 q5
   cases u
   ·by_cases hfd:f<=d
    ·have HY:Hid (Xs f az (l.set y ⟨r,i,c,m,d,false⟩) (y+1) (k+1)):=F.o (by rw [I.o,decide_eq_true hfd];rfl)
     have C:=De l y (by have:=A.o;omega)
     have y0:W.cell? (qzA g (y*6))=some (.string ⟨(Ak l y).ref.toArray⟩):=by rw [D.cellAt (y*6) (by omega)];exact C.1
     have z0:W.frozen? (qzA g (y*6))=false:=D.frozenAt _
     have y1:W.cell? (qzA g (y*6+1))=some (qzI (Ak l y).iss):=by rw [D.cellAt (y*6+1) (by omega)];exact C.2.1
     have z1:W.frozen? (qzA g (y*6+1))=false:=D.frozenAt _
     have y2:W.cell? (qzA g (y*6+2))=some (qzI (Ak l y).cur):=by rw [D.cellAt (y*6+2) (by omega)];exact C.2.2.1
     have z2:W.frozen? (qzA g (y*6+2))=false:=D.frozenAt _
     have y3:W.cell? (qzA g (y*6+3))=some (qzI (Ak l y).am):=by rw [D.cellAt (y*6+3) (by omega)];exact C.2.2.2.1
     have z3:W.frozen? (qzA g (y*6+3))=false:=D.frozenAt _
     have y4:W.cell? (qzA g (y*6+4))=some (qzI (Ak l y).day):=by rw [D.cellAt (y*6+4) (by omega)];exact C.2.2.2.2.1
     have z4:W.frozen? (qzA g (y*6+4))=false:=D.frozenAt _
     have y5:W.cell? (qzA g (y*6+5))=some (.bool (Ak l y).used):=by rw [D.cellAt (y*6+5) (by omega)];exact C.2.2.2.2.2
     have z5:W.frozen? (qzA g (y*6+5))=false:=D.frozenAt _;obtain ⟨⟨r',i',c',m',d',u'⟩,c8⟩:∃ a,Ak l y=a:=⟨_,rfl⟩;rw [c8] at y0 y1 y2 y3 y4 y5
     simp only at y0 y1 y2 y3 y4 y5
     have HR:Hid ((((((((W.setCell (qzA g (y*6)) (.string ⟨r.toArray⟩)).setCell (qzA g (y*6+1)) (qzI i)).setCell (qzA g (y*6+2)) (qzI c)).setCell (qzA g (y*6+3)) (qzI m)).setCell (qzA g (y*6+4)) (qzI d)).setCell (qzA g (y*6+5)) (.bool false))).ownsRow base 107 6 (.slice (some (qzA g 0)) az.length az.length) az.length (Ah (l.set y ⟨r,i,c,m,d,false⟩))):=by
      have R:=(((((((D.stored (y*6) (.string ⟨r.toArray⟩)).1.stored (y*6+1) (qzI i)).1.stored (y*6+2) (qzI c)).1.stored (y*6+3) (qzI m)).1.stored (y*6+4) (qzI d)).1.stored (y*6+5) (.bool false))).1;rw [N.o] at R;exact R
     have d5:Hid (w.grownBy (((((((W.setCell (qzA g (y*6)) (.string ⟨r.toArray⟩)).setCell (qzA g (y*6+1)) (qzI i)).setCell (qzA g (y*6+2)) (qzI c)).setCell (qzA g (y*6+3)) (qzI m)).setCell (qzA g (y*6+4)) (qzI d)).setCell (qzA g (y*6+5)) (.bool false))) (some g)):=gW.trans (((((((D.stored (y*6) (.string ⟨r.toArray⟩)).2).trans ((D.stored (y*6) (.string ⟨r.toArray⟩)).1.stored (y*6+1) (qzI i)).2).trans (((D.stored (y*6) (.string ⟨r.toArray⟩)).1.stored (y*6+1) (qzI i)).1.stored (y*6+2) (qzI c)).2).trans ((((D.stored (y*6) (.string ⟨r.toArray⟩)).1.stored (y*6+1) (qzI i)).1.stored (y*6+2) (qzI c)).1.stored (y*6+3) (qzI m)).2).trans (((((D.stored (y*6) (.string ⟨r.toArray⟩)).1.stored (y*6+1) (qzI i)).1.stored (y*6+2) (qzI c)).1.stored (y*6+3) (qzI m)).1.stored (y*6+4) (qzI d)).2).trans ((((((D.stored (y*6) (.string ⟨r.toArray⟩)).1.stored (y*6+1) (qzI i)).1.stored (y*6+2) (qzI c)).1.stored (y*6+3) (qzI m)).1.stored (y*6+4) (qzI d)).1.stored (y*6+5) (.bool false)).2)
     have h9:(y:Int)<(az.length:Int):=by omega
     clear c8 C D gW bW z HG b1 a9 HP I F O N A;go_wp2
     go_roundw
     case rel=>exact ⟨k+1,y+1,_,by omega,by go_num,by go_num,HY.o,HR.o,d5.o⟩
     case measure=>simp [intOf];omega
    ·have HY:Hid (Xs f az l y (k+1)):=O.o (by rw [I.o,decide_eq_false hfd];rfl)
     clear D gW bW z HG HP I F O N A;go_wp2
     go_roundw
     case rel=>exact ⟨k+1,y,l,by omega,by go_num,rfl,HY.o,b1.o,a9.o⟩
     case measure=>simp [intOf];omega
   ·have HY:Hid (Xs f az l y (k+1)):=O.o (by rw [I.o];rfl)
    clear D gW bW z HG HP I F O N A;go_wp2
    go_roundw
    case rel=>exact ⟨k+1,y,l,by omega,by go_num,rfl,HY.o,b1.o,a9.o⟩
    case measure=>simp [intOf];omega
  ·have b4:k=az.length:=by omega
   subst b4
   have a6:l.take y=az.filter (C7 f):=by have:=HP.o.front;rwa [List.take_length] at this
   have b3:(az.filter (C7 f)).length=y:=by rw [<- a6,List.length_take,A.o];omega
   have b5:(Ah l).take (y*6)=Ah (az.filter (C7 f)):=by
    have e:Ah l=Ah (l.take y)++Ah (l.drop y):=by rw [<- F9,List.take_append_drop]
    rw [e,List.take_append_of_le_length (by rw [E2,List.length_take,A.o];omega),List.take_of_length_le (by rw [E2,List.length_take,A.o];omega),a6]
   have b6:Hid _:=b3;have F:Hid _:=b5;have z:Hid (wr.ownsRow base 107 6 (.slice (some (qzA g 0)) az.length az.length) az.length (Ah l)):=x;have HG:Hid (w.grownBy wr (some g)):=X;have d0:=X4 (g:=g) (n:=az.length) (s:=y) Y;have g6:=aB (g:=g) (n:=az.length) (s:=y) Y
   by_cases hye:az.length=y
   ·have HR:Hid (wr.ownsRow base 107 6 (.slice (some (qzA g 0)) y az.length) y (Ah (az.filter (C7 f)))):=by
      have:=dD z.o Y
      rwa [F.o] at this
    rw [hye,Nat.sub_self,if_pos rfl] at d0;rw [hye] at g6;have d9:Hid _:=hye
    have g1:∀ ty,(Builtin.clear_ #[132] ty #[.slice (some (qzA g 0)) 0 0]).run prog wr=.ok (.tuple #[]) wr:=fun ty=>by
     simp [Builtin.clear_,run_underlying underlying132]
    rw [hye] at HR hn ⊢;clear x X a6 b3 b5 HP A hye Y hk hlt z F;go_wp2;go_ret;rw [b6.o,d9.o];exact ⟨rfl,HR.o,HG.o⟩
   ·obtain ⟨V,T,g1,oV,d2,gV⟩:=Z1 z.o (show y<az.length by omega)
    have HR:Hid (V.ownsRow base 107 6 (.slice (some (qzA g 0)) y az.length) y (Ah (az.filter (C7 f)))):=by
     have:=dD oV Y
     rwa [d2,F.o] at this
    have d6:Hid (w.grownBy V (some g)):=HG.o.trans gV;rw [if_neg hye] at d0;clear x X a6 b3 b5 HP A z F oV d2 gV;go_wp2;go_ret;rw [b6.o];exact ⟨rfl,HR.o,d6.o⟩
theorem Z4 (M:Option Addr) (cap:Nat) (az:List Au) (t:Int) (w:World) (hz:Ar w M az) (hn:az.length<=4194304) (hd:∀ a ∈ az,a.ref.length<=1099511627776) :
  Calls prog 207 #[.slice M az.length cap,qzI t] w (pA w (E5 az t)):=by
 cases H:Dn t
 ·have HL:Hid (E5 az t=[]):=by rw [Hid,E5,if_neg (by rw [H];decide)]
  go_enter func207,ntmps207
  go_wp2_with fail
  refine (Bm t _).mono ?_;rintro e w1 ⟨rfl,hw⟩;subst hw;rw [H];go_wp2;go_ret;rw [HL.o];exact ⟨none,0,rfl,World.ownsRow_nil _ _ _ _,bR⟩
 ·have g7:=Ei H
  have HL:Hid (E5 az t=az.filter (C7 (t - 7))):=by rw [Hid,E5,if_pos H]
  go_enter func207,ntmps207
  go_wp2_with fail
  refine (Bm t _).mono ?_;rintro e w1 ⟨rfl,hw⟩;subst hw;rw [H];go_wp2_with fail
  refine (Dj _ _ _ _ hz hn hd).mono ?_;rintro e w2 ⟨rfl,o2,b2⟩;have z:Hid _:=o2;have HB:Hid _:=b2;clear o2 b2 hz;go_wp2_with fail
  refine (aJ _ _ _ _ _ z.o hn).mono ?_;rintro e w3 ⟨rfl,o3,g3⟩;have d8:Hid _:=o3
  have d4:Hid _:=HB.o.grown g3 HB.o.size (fun k hk=>by cases hk;exact nL)
  clear o3 g3 z HB;go_wp2;go_ret;rw [HL.o];exact ⟨_,_,rfl,d8.o,d4.o⟩
theorem Zi (M:Option Addr) (cap:Nat) (az:List Au) (t:Int) (w:World) (hz:Ar w M az) (hn:az.length<=4194304) :
  Calls prog 178 #[.slice M az.length cap,qzI t] w (pA w (E5 az t)):=by
 have bA:Below w.heap.size w (w.alloc (.cells #[] 107)):=bR.alloc nL _;have oA:=kV w
 have a5:Hid (∀ u,Calls prog 102 #[qzI t] u fun e w'=>e=.returned (.bool (Dn t))/\w'=u):=fun u=>A9 t u
 cases H:Dn t
 ·have HL:Hid (E5 az t=[]):=by rw [Hid,E5,if_neg (by rw [H];decide)]
  rw [H] at a5;have z:Hid _:=And.intro oA bA;clear oA bA
  by_cases h0:0<az.length
  ·have g0:(0:Int)<(az.length:Int):=by omega
   go_enter func178,ntmps178
   go_wp2;refine wp_loop_rounds 1 ?_;rw [rounds_succ];go_wp2_with fail
   refine (a5.o _).mono ?_;rintro e w1 ⟨rfl,hw⟩;subst hw;go_wp2;go_ret;rw [HL.o];exact ⟨_,_,rfl,z.o.1,z.o.2⟩
  ·have g0:¬ (0:Int)<(az.length:Int):=by omega
   go_enter func178,ntmps178
   go_wp2;refine wp_loop_rounds 1 ?_;rw [rounds_succ];go_wp2;go_ret;rw [HL.o];exact ⟨_,_,rfl,z.o.1,z.o.2⟩
 ·have g7:=Ei H
  have HL:Hid (E5 az t=az.filter (C7 (t - 7))):=by rw [Hid,E5,if_pos H]
  rw [H] at a5
  rcases hz with rfl | ⟨b,off,rfl,hb,U⟩
  ·have z:Hid _:=And.intro oA bA
   clear oA bA
   go_enter func178,ntmps178
   go_wp2;refine wp_loop_rounds 1 ?_;rw [rounds_succ];go_wp2;go_ret;rw [HL.o];exact ⟨_,_,rfl,z.o.1,z.o.2⟩
  have HC:Hid (∀ i,i<az.length->w.cell? (qzA b (off+i*6))=some (.string ⟨(Ak az i).ref.toArray⟩)/\w.cell? (qzA b (off+i*6+1))=some (qzI (Ak az i).iss)/\w.cell? (qzA b (off+i*6+2))=some (qzI (Ak az i).cur)/\w.cell? (qzA b (off+i*6+3))=some (qzI (Ak az i).am)/\w.cell? (qzA b (off+i*6+4))=some (qzI (Ak az i).day)/\w.cell? (qzA b (off+i*6+5))=some (.bool (Ak az i).used)):=U;clear U
  go_enter func178,ntmps178
  go_wp2
  go_loopw [5,6] (fun v i wr=>∃ (k:Nat) (M:Option Addr) (c:Nat),k<=az.length/\i=qzI k/\v=.slice M ((az.take k).filter (C7 (t - 7))).length c/\wr.ownsRow w.heap.size 107 6 (.slice M ((az.take k).filter (C7 (t - 7))).length c) ((az.take k).filter (C7 (t - 7))).length (Ah ((az.take k).filter (C7 (t - 7))))/\BW w wr) (fun _ i _=>az.length - (intOf i).toNat)
  case atStart=>exact ⟨0,_,_,Nat.zero_le _,rfl,rfl,oA,bA⟩
  case round =>
   obtain ⟨k,M,cc,hk,rfl,rfl,x,G⟩:=hrel;clear oA bA
   by_cases hlt:k<az.length
   ·have x0:wr.cell? (qzA b (off+k*6))=some (.string ⟨(Ak az k).ref.toArray⟩):=(G.cell (p:=(qzA b (off+k*6))) hb).trans (HC.o k hlt).1
    have x1:wr.cell? (qzA b (off+k*6+1))=some (qzI (Ak az k).iss):=(G.cell (p:=(qzA b (off+k*6+1))) hb).trans (HC.o k hlt).2.1;have x2:wr.cell? (qzA b (off+k*6+2))=some (qzI (Ak az k).cur):=(G.cell (p:=(qzA b (off+k*6+2))) hb).trans (HC.o k hlt).2.2.1;have x3:wr.cell? (qzA b (off+k*6+3))=some (qzI (Ak az k).am):=(G.cell (p:=(qzA b (off+k*6+3))) hb).trans (HC.o k hlt).2.2.2.1;have x4:wr.cell? (qzA b (off+k*6+4))=some (qzI (Ak az k).day):=(G.cell (p:=(qzA b (off+k*6+4))) hb).trans (HC.o k hlt).2.2.2.2.1;have x5:wr.cell? (qzA b (off+k*6+5))=some (.bool (Ak az k).used):=(G.cell (p:=(qzA b (off+k*6+5))) hb).trans (HC.o k hlt).2.2.2.2.2
    have g4:(k:Int)<(az.length:Int):=by omega
    have J:Hid _:=Jy (t - 7) az k hlt;have I:Hid (C7 (t - 7) (Ak az k)=(!(Ak az k).used && decide (t - 7<=(Ak az k).day))):=rfl
    have g5:((az.take k).filter (C7 (t - 7))).length<=k:=Nat.le_trans (List.length_filter_le _ _) (by simp;omega)
    obtain ⟨B,hB⟩:∃ B,(az.take k).filter (C7 (t - 7))=B:=⟨_,rfl⟩;obtain ⟨⟨r,i,c,m,d,u⟩,hf⟩:∃ a,Ak az k=a:=⟨_,rfl⟩;rw [hf] at x0 x1 x2 x3 x4 x5 I J;rw [hB] at x g5 J ⊢
    simp only at x0 x1 x2 x3 x4 x5 I
    have z:Hid (wr.ownsRow w.heap.size 107 6 (.slice M B.length cc) B.length (Ah B)):=x;have HB:Hid (BW w wr):=G;clear hB hf x G;go_wp2_with fail
    refine (a5.o _).mono ?_;rintro e w1 ⟨rfl,hw⟩;subst hw
    cases u
    ·by_cases hfd:t - 7<=d
     ·have HE:Hid ((az.take (k+1)).filter (C7 (t - 7))=B++[⟨r,i,c,m,d,false⟩]):=by rw [Hid,J.o,I.o,decide_eq_true hfd];rfl
      have b8:Hid (Ar (w1.alloc (.cells #[.string ⟨r.toArray⟩,qzI i,qzI c,qzI m,qzI d,.bool false] 107)) (some ⟨w1.heap.size,0,none⟩) [⟨r,i,c,m,d,false⟩]):=qG (Jo.new w1 ⟨r,i,c,m,d,false⟩ _);have b0:Hid ((w1.alloc (.cells #[.string ⟨r.toArray⟩,qzI i,qzI c,qzI m,qzI d,.bool false] 107)).ownsRow w.heap.size 107 6 (.slice M B.length cc) B.length (Ah B)):=Iw z.o (bR.alloc nL _);have h6:w.heap.size<=w1.heap.size:=HB.o.size
      go_wp2_with (at_builtin;refine Bu _ rfl (.tmp 34) (.tmp 39) rfl w.heap.size (.slice M B.length cc) B.length (Ah B) rfl b0.o (some ⟨w1.heap.size,0,none⟩) 1 [⟨r,i,c,m,d,false⟩] rfl b8.o (by simp;omega) (by simp;omega) ?_;intro v2 w2 o2 g2 n2)
      obtain ⟨a2,c2,rfl⟩:=dI o2
      have d7:Hid (w2.ownsRow w.heap.size 107 6 (.slice a2 (B++([⟨r,i,c,m,d,false⟩]:List Au)).length c2) (B++([⟨r,i,c,m,d,false⟩]:List Au)).length (Ah (B++[⟨r,i,c,m,d,false⟩]))):=by rw [Hid,List.length_append,F9];exact o2
      have d3:Hid (BW w w2):=(HB.o.alloc HB.o.size _).grown g2 (by simp;omega) (fun j hj=>(b0.o.lt j hj).1)
      clear o2 g2 n2 b0 b8 J I;go_wp2
      go_roundw
      case rel=>exact ⟨k+1,a2,c2,by omega,by go_num,by rw [HE.o,List.length_append],by rw [HE.o];exact d7.o,d3.o⟩
      case measure=>simp [intOf];omega
     ·have HE:Hid ((az.take (k+1)).filter (C7 (t - 7))=B):=by rw [Hid,J.o,I.o,decide_eq_false hfd];simp
      clear J I;go_wp2
      go_roundw
      case rel=>exact ⟨k+1,M,cc,by omega,by go_num,by rw [HE.o],by rw [HE.o];exact z.o,HB.o⟩
      case measure=>simp [intOf];omega
    ·have HE:Hid ((az.take (k+1)).filter (C7 (t - 7))=B):=by rw [Hid,J.o,I.o];simp
     clear J I;go_wp2
     go_roundw
     case rel=>exact ⟨k+1,M,cc,by omega,by go_num,by rw [HE.o],by rw [HE.o];exact z.o,HB.o⟩
     case measure=>simp [intOf];omega
   ·have b4:k=az.length:=by omega
    subst b4;rw [List.take_length] at x ⊢;have z:Hid _:=And.intro x G;clear x G;go_wp2;go_ret;rw [HL.o];exact ⟨_,_,rfl,z.o.1,z.o.2⟩
def useOk (az:List Au) (i:Int):Bool:=decide (0<=i/\i<az.length) && !(Ak az i.toNat).used
def Lz (a:Au):Au:=⟨a.ref,a.iss,a.cur,a.am,a.day,true⟩
def M7 (az:List Au) (i:Int):List Au:=if useOk az i=true then az.set i.toNat (Lz (Ak az i.toNat)) else az
theorem jC (az:List Au) (i:Int):(M7 az i).length=az.length:=by unfold M7;split <;> simp
theorem Np {az:List Au} {i:Int} (h:useOk az i=false):M7 az i=az:=by rw [M7,if_neg (by rw [h];decide)]
theorem jU (C:Option Addr) (cap:Nat) (az:List Au) (i:Int) (w:World) (q:Ar w C az) (O:az.length<=4194304) (hd:∀ a ∈ az,a.ref.length<=1099511627776) :
  Calls prog 212 #[.slice C az.length cap,qzI i] w (Pi w (M7 az i) (useOk az i)):=by
 by_cases h0:i<0
 ·have c:Hid (useOk az i=false):=by rw [Hid,useOk,decide_eq_false (by omega)];rfl
  go_enter func212,ntmps212
  go_wp2_with fail
  refine (Dj _ _ _ _ q O hd).mono ?_;rintro e M ⟨rfl,r,y⟩;have d:Hid _:=And.intro r y;clear r y q;go_wp2;go_ret2;rw [c.o,Np c.o];exact ⟨_,_,rfl,d.o.1,d.o.2⟩
 by_cases h1:(az.length:Int)<=i
 ·have c:Hid (useOk az i=false):=by rw [Hid,useOk,decide_eq_false (by omega)];rfl
  go_enter func212,ntmps212
  go_wp2_with fail
  refine (Dj _ _ _ _ q O hd).mono ?_;rintro e M ⟨rfl,r,y⟩;have d:Hid _:=And.intro r y;clear r y q;go_wp2;go_ret2;rw [c.o,Np c.o];exact ⟨_,_,rfl,d.o.1,d.o.2⟩
 obtain ⟨k,rfl⟩:=Int.eq_ofNat_of_zero_le (show 0<=i by omega)
 have D:k<az.length:=by omega
 have U:(k:Int)<(az.length:Int):=by omega
 have l:Hid ((Ah az)[k*6+5]?=some (.bool (Ak az k).used)):=(De az k D).2.2.2.2.2;have z:Hid ((Ah az).set (k*6+5) (.bool true)=Ah (az.set k (Lz (Ak az k)))):=On az true k D
 have A:Hid (useOk az (k:Int) = !(Ak az k).used):=by rw [Hid,useOk,decide_eq_true (show 0<=(k:Int)/\(k:Int)<az.length by omega),Bool.true_and,Int.toNat_natCast]
 have B:Hid (useOk az (k:Int)=true->M7 az (k:Int)=az.set k (Lz (Ak az k))):=fun h=>by rw [M7,if_pos h,Int.toNat_natCast]
 obtain ⟨s,n⟩:∃ s,(Ak az k).used=s:=⟨_,rfl⟩;rw [n] at l A;clear n
 go_enter func212,ntmps212
 go_wp2_with fail
 refine (Dj _ _ _ _ q O hd).mono ?_;rintro e M ⟨rfl,r,y⟩
 have X:M.cell? ⟨w.heap.size,k*6+5,none⟩=some (.bool s):=by rw [r.cellAt (k*6+5) (by omega)];exact l.o
 have z5:M.frozen? ⟨w.heap.size,k*6+5,none⟩=false:=r.frozenAt _;have d:Hid _:=And.intro r y;clear r y q
 cases s
 ·have c:Hid (useOk az (k:Int)=true):=A.o
  have S:Hid ((M.setCell ⟨w.heap.size,k*6+5,none⟩ (.bool true)).ownsRow w.heap.size 107 6 (.slice (some ⟨w.heap.size,0,none⟩) az.length az.length) az.length (Ah (az.set k (Lz (Ak az k))))):=by
   have R:=(d.o.1.stored (k*6+5) (.bool true)).1;rw [z.o] at R;exact R
  go_wp2;go_ret2;rw [c.o,B.o c.o]
  exact ⟨some ⟨w.heap.size,0,none⟩,az.length,by rw [List.length_set];rfl,by rw [List.length_set];exact S.o,d.o.2.setCell nL _⟩
 ·have c:Hid (useOk az (k:Int)=false):=A.o
  go_wp2;go_ret2;rw [c.o,Np c.o];exact ⟨_,_,rfl,d.o.1,d.o.2⟩
theorem kZ (C:Option Addr) (cap:Nat) (az:List Au) (i:Int) (w:World) (q:Ar w C az) (O:az.length<=4194304) :
  Calls prog 183 #[.slice C az.length cap,qzI i] w (Pi w (M7 az i) (useOk az i)):=by
 have J:Below w.heap.size w (w.alloc (.cells #[] 107)):=bR.alloc nL _;have I:Hid (Ar (w.alloc (.cells #[] 107)) C az):=q.below J;have x:=kV w
 have v:Hid (∀ u,Calls prog 134 #[qzI i,qzI 0,qzI ((az.length:Int) - 1)] u fun e w'=>e=.returned (.bool (decide (0<=i/\i<az.length)))/\w'=u):=fun u=>by
  have:=Dl i 0 ((az.length:Int) - 1) u
  rwa [show Gk i 0 ((az.length:Int) - 1)=decide (0<=i/\i<az.length) by unfold Gk;exact decide_eq_decide.2 (by omega)] at this
 by_cases hin:0<=i/\i<az.length
 ·obtain ⟨k,rfl⟩:=Int.eq_ofNat_of_zero_le hin.1
  have D:k<az.length:=by omega
  have U:(k:Int)<(az.length:Int):=by omega
  rw [decide_eq_true hin] at v;have l:Hid ((Ah az)[k*6+5]?=some (.bool (Ak az k).used)):=(De az k D).2.2.2.2.2;have z:Hid ((Ah az).set (k*6+5) (.bool true)=Ah (az.set k (Lz (Ak az k)))):=On az true k D
  have A:Hid (useOk az (k:Int) = !(Ak az k).used):=by rw [Hid,useOk,decide_eq_true (show 0<=(k:Int)/\(k:Int)<az.length by omega),Bool.true_and,Int.toNat_natCast]
  have B:Hid (useOk az (k:Int)=true->M7 az (k:Int)=az.set k (Lz (Ak az k))):=fun h=>by rw [M7,if_pos h,Int.toNat_natCast]
  rcases q with rfl | ⟨b,off,rfl,hb,m⟩
  ·simp at D
  have H:Hid (w.cell? (qzA b (off+k*6+5))=some (.bool (Ak az k).used)):=(m k D).2.2.2.2.2;obtain ⟨s,n⟩:∃ s,(Ak az k).used=s:=⟨_,rfl⟩;rw [n] at l A H;clear n m hin
  go_enter func183,ntmps183
  go_wp2_with (at_builtin;refine Bu _ rfl (.tmp 7) (.tmp 8) rfl w.heap.size (.slice (some ⟨w.heap.size,0,none⟩) 0 0) 0 [] rfl x _ cap az rfl I.o (by omega) (by simp) ?_;intro W t f L n2)
  obtain ⟨g,cc,rfl⟩:=Oe f (n2 (by simp))
  simp only [Nat.zero_add,List.nil_append] at f ⊢
  have G:BW w t:=J.grown L (by simp) (fun j hj=>by cases hj;exact nL)
  have X:t.cell? (qzA g (k*6+5))=some (.bool s):=by rw [f.cellAt (k*6+5) (by omega)];exact l.o
  have z5:t.frozen? (qzA g (k*6+5))=false:=f.frozenAt _;have Y:t.cell? (qzA b (off+k*6+5))=some (.bool s):=(G.cell (p:=(qzA b (off+k*6+5))) hb).trans H.o;have N:Hid (BW w t):=G;have d:Hid (t.ownsRow w.heap.size 107 6 (.slice (some (qzA g 0)) az.length cc) az.length (Ah az)):=f;have T:=(f.lt g rfl).1;clear f G L n2 x J;go_wp2_with fail
  refine (v.o _).mono ?_;rintro e V ⟨rfl,F⟩;subst F
  cases s
  ·have c:Hid (useOk az (k:Int)=true):=A.o
   have S:Hid ((V.setCell (qzA g (k*6+5)) (.bool true)).ownsRow w.heap.size 107 6 (.slice (some (qzA g 0)) az.length cc) az.length (Ah (az.set k (Lz (Ak az k))))):=by
    have R:=(d.o.stored (k*6+5) (.bool true)).1;rw [z.o] at R;exact R
   go_wp2;go_ret2;rw [c.o,B.o c.o]
   exact ⟨some (qzA g 0),cc,by rw [List.length_set];rfl,by rw [List.length_set];exact S.o,N.o.setCell T _⟩
  ·have c:Hid (useOk az (k:Int)=false):=A.o
   go_wp2;go_ret2;rw [c.o,Np c.o];exact ⟨_,_,rfl,d.o,N.o⟩
 ·have c:Hid (useOk az i=false):=by rw [Hid,useOk,decide_eq_false hin];rfl
  rw [decide_eq_false hin] at v;clear hin
  go_enter func183,ntmps183
  go_wp2_with (at_builtin;refine Bu _ rfl (.tmp 7) (.tmp 8) rfl w.heap.size (.slice (some ⟨w.heap.size,0,none⟩) 0 0) 0 [] rfl x C cap az rfl I.o (by omega) (by simp) ?_;intro W t f L n2)
  obtain ⟨g,cc,rfl⟩:=Oe f (n2 (by simp))
  simp only [Nat.zero_add,List.nil_append] at f ⊢
  have G:BW w t:=J.grown L (by simp) (fun j hj=>by cases hj;exact nL)
  have N:Hid (BW w t):=G;have d:Hid (t.ownsRow w.heap.size 107 6 (.slice (some (qzA g 0)) az.length cc) az.length (Ah az)):=f;clear f G L n2 x J q;go_wp2_with fail
  refine (v.o _).mono ?_;rintro e V ⟨rfl,F⟩;subst F;go_wp2;go_ret2;rw [c.o,Np c.o];exact ⟨_,_,rfl,d.o,N.o⟩
end Go.Proofs.YtomiclakhjncbaaGreatDoor
namespace Go.Proofs.YtomiclakhjncbaaGreatDoor
open Go.RowKit Go.Sort Go.Shelf Go.Lib Go.Proofs.Tryz
theorem Ot (ls:List Ln):flatK Lm 3 ls.toArray=(Ag ls).toArray:=by
 apply ext_get!
 ·simp [Cn]
 ·intro t G
  simp only [size_flatK,List.size_toArray] at G
  rw [get_flatK _ _ _ _ (by simpa using G)]
  have J:t / 3<ls.length:=by omega
  have R:ls.toArray[t / 3]! = Cg ls (t / 3):=by simp [Cg,List.getD_eq_getElem?_getD,J]
  have h:=Hj ls (t / 3) J;rw [R]
  have hg:(Ag ls).toArray[t]! = ((Ag ls)[t]?).getD default:=by simp
  rw [hg]
  rcases (show t % 3=0\/t % 3=1\/t % 3=2 by omega) with e | e | e
  ·rw [e,show t=t / 3*3 by omega,h.1,show (t / 3*3) / 3=t / 3 by omega];rfl
  ·rw [e,show t=t / 3*3+1 by omega,h.2.1,show (t / 3*3+1) / 3=t / 3 by omega];rfl
  ·rw [e,show t=t / 3*3+2 by omega,h.2.2,show (t / 3*3+2) / 3=t / 3 by omega];rfl
theorem gT {w:World} {base n cap g:Nat} {t:TypeId} {ls:List Ln} (h:w.ownsRow base t 3 (.slice (some (qzA g 0)) n cap) n (Ag ls)):HoldsK Lm 3 w g 0 ls.toArray:=by
 have F:n=ls.length:=by have:=h.1;rw [Cn] at this;omega
 intro j b;rw [Ot] at b ⊢
 simp only [List.size_toArray,Cn] at b
 refine ⟨?_,h.frozenAt _⟩
 rw [Nat.zero_add,h.cellAt j (by omega)]
 have:j<(Ag ls).length:=by rw [Cn];omega
 simp [getElem!_pos,this]
theorem Zf {w:World} {base n cap g m:Nat} {t:TypeId} {ls a:List Ln} {os:Array Obj} (h:w.ownsRow base t 3 (.slice (some (qzA g 0)) n cap) n (Ag ls)) (hl:a.length=ls.length) :
  (sortWorldK Lm 3 w g 0 m a.toArray os).ownsRow base t 3 (.slice (some (qzA g 0)) n cap) n (Ag a):=by
 have F:n=ls.length:=by have:=h.1;rw [Cn] at this;omega
 have c:g<w.heap.size:=(h.lt g rfl).2
 rcases h.2 with ⟨e0,_⟩ | ⟨T,f,r,e0,hb,hg,o,O,hs,G⟩
 ·cases e0
 ·injection e0 with e1 _ e3
  injection e1 with e1
  injection e1 with e1
  subst e1;subst e3
  refine ⟨by rw [Cn];omega,.inr ⟨g,cap,putCells id 0 (Ag a).toArray r,rfl,hb,?_,o,O,by simpa [putCells] using hs,?_⟩⟩
  ·unfold sortWorldK putRowK
   rw [Ot]
   have e1:((w.heap.modify g (onCells (putCells id 0 (Ag a).toArray)))++os)[g]?=some (.cells (putCells id 0 (Ag a).toArray r) t):=by
    rw [Array.getElem?_append_left (by simpa using c),Array.getElem?_modify,if_pos rfl,hg];rfl
   exact e1
  ·apply List.ext_getElem?
   intro j;rw [List.getElem?_take,Array.getElem?_toList]
   by_cases b:j<n*3
   ·have D:j<r.size:=by rw [hs];exact Nat.lt_of_lt_of_le b (Nat.mul_le_mul_right 3 o)
    have hd:j<(Ag a).length:=by rw [Cn];omega
    simp only [if_pos b,putCells,Array.getElem?_mapIdx,Array.getElem?_eq_getElem D,Option.map_some]
    rw [if_pos ⟨Nat.zero_le _,by simpa using hd⟩,List.getElem?_eq_getElem hd]
    simp [getElem!_pos,hd]
   ·rw [if_neg b,List.getElem?_eq_none (by rw [Cn];omega)]
theorem Tz {B:Nat} {w0 w:World} {g m:Nat} {d:Array Ln} {os:Array Obj} (h:RowKit.Below B w0 w) (hB:B<=w0.heap.size) (hg:B<=g):RowKit.Below B w0 (sortWorldK Lm 3 w g 0 m d os):=by
 refine ⟨h.os,h.tape,h.output,?_,fun k hk=>?_⟩
 ·have:=h.size
  simp [sortWorldK,putRowK,grow,putRow,mapBlock,Sort.ahead];omega
 ·rw [<- h.block k hk]
  have hs:=h.size
  have e1:((w.heap.modify g (onCells (putCells id 0 (flatK Lm 3 d))))++os)[k]?=w.heap[k]?:=by
   rw [Array.getElem?_append_left (by simp;omega),Array.getElem?_modify,if_neg (by omega)]
  exact e1
theorem Nl (x y:Ln):ltOf Qh x y=E3 x y:=by
 unfold ltOf
 rw [Bool.eq_iff_iff,decide_eq_true_eq];exact cY x y
theorem tN:SWO (ltOf Qh) where
 irrefl x:=by rw [Nl];simp [E3]
 trans x y z s h2:=by rw [Nl] at *;exact Jj s h2
 ntrans x y z s h2:=by rw [Nl] at *;simp [E3] at *;omega
theorem nO (blk off size:Nat) (w:World):CmpLays prog 94 #[] Lm 3 Qh blk off size w :=
 fun _ _ _ _ x y=>Nr x.1 x.2.1 x.2.2 y.1 y.2.1 y.2.2 _
theorem oJ {ls:List Ln} {d:Array Ln} (h:PermIn 0 ls.toArray.size ls.toArray d):d.toList.Perm ls/\d.size=ls.length:=by
 obtain ⟨s,_,H⟩:=h
 have hs:d.size=ls.length:=by simpa using s
 refine ⟨?_,hs⟩
 have e1:d.extract 0 ls.toArray.size=d:=by simp [<- hs]
 have e2:ls.toArray.extract 0 ls.toArray.size=ls.toArray:=by simp
 rw [e1,e2] at H
 simpa using H
theorem fY {n:Nat} {d:Array Ln} (h:SortedIn (ltOf Qh) 0 n d) (F:d.size=n):d.toList.Pairwise (fun x y=>E3 y x=false):=by
 rw [List.pairwise_iff_getElem];intro i j hi b C
 simp only [Array.length_toList] at hi b
 have:=h i j (Nat.zero_le _) C (by omega)
 rw [Nl,getElem!_pos d j b,getElem!_pos d i hi] at this
 simpa using this
theorem iN (q:Option Addr) (n cap base:Nat) (ls:List Ln) (w:World) (ho:w.ownsRow base 113 3 (.slice q n cap) n (Ag ls)) (F:ls.length<=1000) (hb:base<=w.heap.size) :
  Calls prog 329 #[.slice q n cap,.func (.func 94) #[] #[]] w fun e w'=>e=.returned (.tuple #[])/\∃ a:List Ln,a.Perm ls/\a.Pairwise (fun x y=>E3 y x=false)/\w'.ownsRow base 113 3 (.slice q n cap) n (Ag a)/\RowKit.Below base w w':=by
 have p:n=ls.length:=by have:=ho.1;rw [Cn] at this;omega
 rcases ho.2 with ⟨e0,N⟩ | ⟨g,f,r,e0,A,_⟩
 ·have l:ls=[]:=List.eq_nil_of_length_eq_zero (by omega)
  subst N;have h:=AnyF.slices_SortFunc_none Tryz.sortLn q cap (.func (.func 94) #[] #[]) w
  change Calls prog 329 _ _ _ at h
  refine h.mono ?_;rintro e w' ⟨rfl,rfl⟩
  refine ⟨rfl,[],by rw [l],List.Pairwise.nil,?_,bR⟩
  rw [l] at ho;exact ho
 ·injection e0 with e1 _ e3
  subst e1;have c:=(ho.lt g rfl).2
  have M:∀ args w,(callFunc 94 args).run prog w=.ok (.enter 94 args) w:=enters_of func94 (by kernel_rfl) rfl
  have h:=AnyQ.slices_SortFunc Tryz.sortLn 3 isAgg113 sizeOf113 Lm (fun _=>rfl) (fun x v hv=>by simp [Lm] at hv;rcases hv with rfl | rfl | rfl <;> rfl) Qh tN 94 #[] g 0 cap ls.toArray w M (nO g 0 ls.toArray.size w) (gT ho) c (by simp;omega)
  change Calls prog 329 _ _ _ at h
  have L:ls.toArray.size=n:=by simp [p]
  rw [L] at h;refine h.mono ?_;rintro e w' ⟨rfl,u,m,os,I,hs,rfl⟩;rw [<- L] at I;obtain ⟨S,p2⟩:=oJ I
  have hd:u=u.toList.toArray:=by simp
  refine ⟨rfl,u.toList,S,fY hs (by rw [p2,p]),?_,Tz bR hb A⟩
  rw [hd]
  exact Zf ho (by simp [p2])
end Go.Proofs.YtomiclakhjncbaaGreatDoor
namespace Go.Proofs.YtomiclakhjncbaaGreatDoor
open Go.RowKit Go.Maps Go.Proofs.Tryz
theorem Ql {d6:Array Oper} {rest:List Oper} {o:Oper} {a:Act} {Q:Exit->Act->World->Prop} (w:World) (hg:o.guard=none) (it:Operand) (j1:o.op=Op.next it false)
  (b r n:Nat) (D:DataW Unit) (left:Lit->Bool) (U:Nat) (hit:a.eval it=.pointer (some (qzA r 0))) (h:w.ranges prog 128 (plainElem (H:=Unit) prog 3) b r n D left U)
  (hDone:U=0->(∀ kl,left kl=false)->wpList prog d6 Q rest (a.put o.dst (.tuple #[.bool false])) w)
  (hMore:∀ (x c v:Int) (w':World) (cnt':Nat),Bf x->Bf c->left (Dp x c)=true->(∀ zd,D.atKey (Dp x c) zd=.lit (.int .i64 v))->w'.ranges prog 128 (plainElem (H:=Unit) prog 3) b r n D (fun z=>left z && !z.sameKey (Dp x c)) cnt'->cnt' < U ->
   w.grownBy w' (some r)->w'.heap.size=w.heap.size->(Instr.entry (.pointer (some (qzA r 0)))).run prog w'=.ok (.tuple #[.agg #[.int .i64 x,.int .i64 c],.int .i64 v]) w'->wpList prog d6 Q rest (a.put o.dst (.tuple #[.bool true,.agg #[.int .i64 x,.int .i64 c],.int .i64 v])) w') :
  wpList prog d6 Q (o::rest) a w :=
 wpList_next_ranges (α:=Int×Int) (β:=Int) w hg it j1 128 Tx (plainElem (H:=Unit) prog 3) (fun p=>.agg #[.int .i64 p.1,.int .i64 p.2]) (Value.int .i64)
  (fun key kl hkey=>by obtain ⟨x,c,rfl,_⟩:=Sg hkey;exact ⟨(x,c),rfl⟩) (fun v y hv=>by obtain ⟨c,rfl,_⟩:=plainElem_int_inv underlying3 hv;exact ⟨c,rfl⟩)
  b r n D left U hit h hDone (fun ⟨x,c⟩ v kl y w' cnt' hkey hlk hv N a6 a5 hgr hsz d3=>by
   obtain ⟨x',c',ex,rfl,hx,hc⟩:=Sg hkey
   obtain ⟨rfl,rfl⟩:x=x'/\c=c':=by simpa using ex
   obtain ⟨v',ev,rfl,k2⟩:=plainElem_int_inv underlying3 hv
   cases ev
   exact hMore x c v w' cnt' hx hc hlk N a6 a5 hgr hsz d3)
structure pR (f:Int->Int->Option Int) (left:Lit->Bool) (d:List Ln):Prop where
 apart:cV d
 from_:∀ x ∈ d,f x.1 x.2.1=some x.2.2/\left (Dp x.1 x.2.1)=false/\Bf x.1/\Bf x.2.1
 into:∀ a c v,f a c=some v->left (Dp a c)=false->(a,c,v) ∈ d
theorem pR.step {f:Int->Int->Option Int} {left:Lit->Bool} {d:List Ln} (h:pR f left d) (a7:∀ a c,f a c≠none->Bf a/\Bf c) {x c v:Int} (hx:Bf x) (hc:Bf c) (hl:left (Dp x c)=true) (F:f x c=some v) :
  pR f (fun z=>left z && !z.sameKey (Dp x c)) (d++[(x,c,v)]):=by
 have d4:(Dp x c).sameKey (Dp x c)=true:=WideAt.sameKey_self (Nh _ _);refine ⟨?_,?_,?_⟩
 ·refine List.pairwise_append.2 ⟨h.apart,List.pairwise_singleton _ _,fun y hy z hz he=>?_⟩
  simp only [List.mem_singleton] at hz
  subst hz
  have:=(h.from_ y hy).2.1
  simp only at he
  rw [he.1,he.2,hl] at this
  cases this
 ·intro y hy
  rcases List.mem_append.1 hy with hy | hy
  ·obtain ⟨a1,a2,a3,a4⟩:=h.from_ y hy
   exact ⟨a1,by rw [a2];rfl,a3,a4⟩
  ·simp only [List.mem_singleton] at hy
   subst hy
   exact ⟨F,by simp only [d4];simp,hx,hc⟩
 ·intro a' c' v' G h6
  by_cases he:a'=x/\c'=c
  ·obtain ⟨rfl,rfl⟩:=he
   rw [F] at G
   injection G with G
   subst G;exact List.mem_append.2 (.inr (List.mem_singleton.2 rfl))
  ·obtain ⟨B,w2⟩:=a7 a' c' (by rw [G];simp)
   have j0:(Dp a' c').sameKey (Dp x c)=false:=Maps.sameKey_ne fun e=>he (Rh B w2 hx hc e)
   rw [j0] at h6
   exact List.mem_append.2 (.inl (h.into a' c' v' G (by simpa using h6)))
theorem pR.all {f:Int->Int->Option Int} {left:Lit->Bool} {d C:List Ln} (h:pR f left d) (hl:∀ k,left k=false) (hp:C.Perm d) (hs:C.Pairwise (fun x y=>E3 y x=false)):Va C/\Cf C=f:=by
 have h0:cV C:=(hp.symm.pairwise_iff (R:=fun x y:Ln=>¬ (x.1=y.1/\x.2.1=y.2.1)) (fun hxy he=>hxy ⟨he.1.symm,he.2.symm⟩)).1 h.apart
 have b4:∀ a c v,(a,c,v) ∈ C ↔ f a c=some v:=fun a c v=>by
  rw [hp.mem_iff]
  exact ⟨fun hm=>(h.from_ _ hm).1,fun F=>h.into a c v F (hl _)⟩
 constructor
 ·refine (hs.and h0).imp fun {x y} ⟨h1,h2⟩=>?_
  rw [Ev]
  simp [E3] at h1
  omega
 ·funext a c
  cases F:f a c with
  | some v=>exact (Q3 h0).1 ((b4 a c v).2 F)
  | none =>
   cases hk:Cf C a c with
   | none=>rfl
   | some v =>
    have:=(b4 a c v).1 (Mr hk)
    rw [F] at this;cases this
theorem Y1 (b n:Nat) (f:Int->Int->Option Int) (w:World) (hM:F5 w b n f) (hn:n<=1000) :
  Calls prog 316 #[.map (some b)] w fun e w'=>∃ ao cap L,e=.returned (.agg #[.slice ao (List.length L) cap])/\Va L/\Cf L=f/\L.length<=n/\w'.ownsRow w.heap.size 113 3 (.slice ao L.length cap) L.length (Ag L)/\BW w w':=by
 obtain ⟨i0,hi,j7,j8,j9⟩:=info_parts bY;have k1:=hM.lt;obtain ⟨W,hW⟩:∃ W,W=w.alloc (.cells #[.slice none 0 0] 29):=⟨_,rfl⟩
 have bW:BW w W:=by rw [hW];go_grown
 have g9:W.heap.size=w.heap.size+1:=by rw [hW];simp
 have r0:W.cell? ⟨w.heap.size,0,none⟩=some (.slice none 0 0):=by rw [hW];simp
 have rf:W.frozen? ⟨w.heap.size,0,none⟩=false:=by rw [hW];simp [go_sem]
 obtain ⟨D,b6,T,a7⟩:=hM.below bW;have HO:Hid (W.ownsMap prog 128 (plainElem (H:=Unit) prog 3) b n D):=b6;have g6:Hid _:=T;have g7:Hid (∀ a c,f a c≠none->Bf a/\Bf c):=a7;have d8:Hid (BW w W):=bW;have i6:Hid _:=r0;have i8:Hid _:=rf;have q:Hid (W.heap.size=w.heap.size+1):=g9;clear hM b6 T a7 bW r0 rf g9
 go_enter func316,ntmps316
 go_wp2_with (first
  | (at_range;rw [<- hW];clear hW;refine wpList_range_own _ rfl _ 338 rfl 128 3 Tx underlying338 _ b n D rfl HO.o ?_;intro w0 b7 Z j3)
  | go_in)
 try go_frame
 have a9:Hid (w0.ranges prog 128 (plainElem (H:=Unit) prog 3) b W.heap.size n D (Maps.has D) (Maps.size D)):=b7
 have q0:BW w w0:=d8.o.grown Z d8.o.size (fun j hj=>by cases hj)
 have d9:Hid (w0.cell? ⟨w.heap.size,0,none⟩=some (.slice none 0 0)/\w0.frozen? ⟨w.heap.size,0,none⟩=false):=⟨(Z.cell_far ⟨w.heap.size,0,none⟩ (by have:=q.o;show w.heap.size<W.heap.size;omega) (by simp)).trans i6.o,(Z.frozen_far ⟨w.heap.size,0,none⟩ (by have:=q.o;show w.heap.size<W.heap.size;omega) (by simp)).trans i8.o⟩
 have b9:=HO.o.size_le;clear b7 Z
 go_loopw [3] (fun v3 wr=>∃ (left:Lit->Bool) (U:Nat) (d:List Ln),wr.ranges prog 128 (plainElem (H:=Unit) prog 3) b W.heap.size n D left U/\d.length+U<=n/\pR f left d /\
   wr.ownsRow (w.heap.size+2) 113 3 v3 d.length (Ag d)/\(wr.cell? ⟨w.heap.size,0,none⟩=some (.slice none 0 0)/\wr.frozen? ⟨w.heap.size,0,none⟩=false)/\BW w wr/\w.heap.size+2<=wr.heap.size) (fun _ wr=>wr.rangeLeft b W.heap.size)
 case atStart =>
  refine ⟨_,_,[],a9.o,by simpa using b9,⟨List.Pairwise.nil,(fun x hx=>by cases hx),fun a c v F hl=>?_⟩,World.ownsRow_nil _ _ _ _,d9.o,q0,by have:=q.o;omega⟩
  have I:=g7.o a c (by rw [F];simp)
  rw [(g6.o a c I.1 I.2).1,F] at hl
  cases hl
 case round =>
  obtain ⟨left,U,d,a6,k0,b5,b3,O,Y,j4⟩:=hrel;have g3:Hid (wr.ranges prog 128 (plainElem (H:=Unit) prog 3) b W.heap.size n D left U):=a6;have M:Hid (pR f left d):=b5;have m:Hid (wr.ownsRow (w.heap.size+2) 113 3 u3 d.length (Ag d)):=b3;have i:Hid _:=O;clear a6 b5 b3 O a9 q0 d9 b9 j3
  go_wp2_with (first
   | (at_next;refine Ql _ rfl _ rfl b W.heap.size n D left U rfl g3.o ?_ ?_)
   | go_in)
  ·intro _ h8
   obtain ⟨ao,cap,j6,-,-⟩:=Ef m.o;subst j6;have i4:Hid (∀ kl,left kl=false):=h8;clear h8;go_wp2_with fail
   refine (iN ao d.length cap (w.heap.size+2) d wr m.o (by omega) j4).mono ?_
   rintro e w2 ⟨rfl,C,hp,hs,o2,b2⟩
   have d0:=(b2.cell (p:=⟨w.heap.size,0,none⟩) (by show w.heap.size<w.heap.size+2;omega)).trans i.o.1
   have d1:=(b2.frozen (p:=⟨w.heap.size,0,none⟩) (by show w.heap.size<w.heap.size+2;omega)).trans i.o.2
   have s:C.length=d.length:=hp.length_eq;have a8:Hid (Va C/\Cf C=f):=M.o.all i4.o hp hs;have g2:Hid (w2.ownsRow (w.heap.size+2) 113 3 (.slice ao d.length cap) d.length (Ag C)):=o2
   have i5:Hid (BW w w2):=Y.trans (b2.mono (by omega))
   have g0:Hid _:=s;clear hp hs o2 b2 s i;go_wp2
   refine bodyPost_ret (by simp [results,results316,go_sem,d0];try rfl) rfl ?_
   have s:=g0.o
   refine ⟨ao,cap,C,by rw [s],a8.o.1,a8.o.2,by omega,?_,i5.o.setCell nL _⟩
   have h:=Bi (A5 g2.o ⟨w.heap.size,0,none⟩ (.slice ao d.length cap) (fun g hg=>by have:=(g2.o.lt g hg).1;simp only;omega)) (base':=w.heap.size) (by omega)
   rw [s];exact h
  ·intro x c v B A I d5 h9 N b8 a5 S i1 d3
   have h4:f x c=some v:=by
    have h1:=g6.o x c I d5;have h2:=Maps.has_true_of_atKey N;rw [h1.1] at h2;have h3:=(N (.lit (.int .i64 0))).symm.trans h1.2
    cases F:f x c with
    | none=>rw [F] at h2;cases h2
    | some v' =>
     rw [F] at h3
     injection h3 with e1;injection e1 with _ e2
     simp at e2
     rw [e2]
   have d2:Hid (pR f (fun z=>left z && !z.sameKey (Dp x c)) (d++[(x,c,v)])):=M.o.step g7.o I d5 h9 h4
   have u:∀ g,u3.ownBlock=some g->w.heap.size+2<=g:=fun g hg=>(m.o.lt g hg).1
   have J:Hid (B.ownsRow (w.heap.size+2) 113 3 u3 d.length (Ag d)):=sH m.o S (fun g hg e=>by have:=u g hg;have:=q.o;cases e;omega)
   have q1:BW w B:=Y.grown S Y.size (fun j hj=>by have:=q.o;cases hj;omega)
   have b0:Hid (B.ranges prog 128 (plainElem (H:=Unit) prog 3) b W.heap.size n D (fun z=>left z && !z.sameKey (Dp x c)) A):=b8
   have c8:Hid (B.cell? ⟨w.heap.size,0,none⟩=some (.slice none 0 0)/\B.frozen? ⟨w.heap.size,0,none⟩=false):=⟨(S.cell_far ⟨w.heap.size,0,none⟩ (by show w.heap.size<wr.heap.size;omega) (by have:=q.o;simp;omega)).trans i.o.1,(S.frozen_far ⟨w.heap.size,0,none⟩ (by show w.heap.size<wr.heap.size;omega) (by have:=q.o;simp;omega)).trans i.o.2⟩
   obtain ⟨V,X⟩:∃ V,V=B.alloc (.cells #[.int .i64 x,.int .i64 c] 128):=⟨_,rfl⟩
   have g8:V.heap.size=B.heap.size+1:=by rw [X];simp
   have v0:V.cell? ⟨B.heap.size,0,none⟩=some (.int .i64 x):=by rw [X];simp
   have v1:V.cell? ⟨B.heap.size,1,none⟩=some (.int .i64 c):=by rw [X];simp
   have d7:Hid (V.ownsRow (w.heap.size+2) 113 3 u3 d.length (Ag d)):=by rw [Hid,X];exact J.o.alloc _
   have g4:Hid (V.ranges prog 128 (plainElem (H:=Unit) prog 3) b W.heap.size n D (fun z=>left z && !z.sameKey (Dp x c)) A):=by rw [Hid,X];exact b0.o.alloc _
   have c9:Hid (V.cell? ⟨w.heap.size,0,none⟩=some (.slice none 0 0)/\V.frozen? ⟨w.heap.size,0,none⟩=false):=by
    have g:=World.grownBy_alloc B (.cells #[.int .i64 x,.int .i64 c] 128) none;rw [Hid,X]
    exact ⟨(g.cell_far ⟨w.heap.size,0,none⟩ (by show w.heap.size<B.heap.size;omega) (by simp)).trans c8.o.1,(g.frozen_far ⟨w.heap.size,0,none⟩ (by show w.heap.size<B.heap.size;omega) (by simp)).trans c8.o.2⟩
   have qV:BW w V:=by rw [X];exact q1.alloc q1.size _
   have l:Hid _:=u;have g1:Hid _:=a5
   have t:Hid (V.heap.size=wr.heap.size+1):=by rw [Hid,g8,i1]
   clear g8 i1 N b8 a5 S h4 I d5 h9 M m J b0 c8 i q1 u Y;go_upto_region 5 with fail
   rw [<- X];clear X d3
   go_wp2_with (at_builtin;refine wpList_append_own _ rfl (.tmp 13) (.tmp 20) 27 rfl (w.heap.size+2) 113 i0 _ 3 24 underlying27 hi j7 j8 j9 rfl (by decide) _ _ _ rfl (d7.o.alloc _) ⟨V.heap.size,0,none⟩ 1 1 [.int .i64 x,.int .i64 c,.int .i64 v] rfl rfl (World.news_of_block (heap_alloc_new V _)) (Ve x c v) (by unfold maxLen;omega) (by omega) (by have:=t.o;simp;omega) ?_;intro v5 w5 o5 g5 _)
   have gA:=World.grownBy_alloc V (.cells #[.int .i64 x,.int .i64 c,.int .i64 v] 113) none
   have i7:Hid (w5.ownsRow (w.heap.size+2) 113 3 v5 (d++[(x,c,v)]).length (Ag (d++[(x,c,v)]))):=by rw [Hid,List.length_append];exact aD o5
   have i9:some b≠u3.ownBlock:=fun e=>by have:=l.o b e.symm;omega
   have j2:some W.heap.size≠u3.ownBlock:=fun e=>by have:=l.o _ e.symm;have:=q.o;omega
   have i2:some w.heap.size≠u3.ownBlock:=fun e=>by have:=l.o _ e.symm;omega
   have b1:Hid (w5.ranges prog 128 (plainElem (H:=Unit) prog 3) b W.heap.size n D (fun z=>left z && !z.sameKey (Dp x c)) A):=(g4.o.alloc _).kept g5 i9 j2
   have i3:Hid (w5.cell? ⟨w.heap.size,0,none⟩=some (.slice none 0 0)/\w5.frozen? ⟨w.heap.size,0,none⟩=false):=⟨(g5.cell_far ⟨w.heap.size,0,none⟩ (by have:=t.o;simp;omega) i2).trans ((gA.cell_far ⟨w.heap.size,0,none⟩ (by have:=t.o;show w.heap.size<V.heap.size;omega) (by simp)).trans c9.o.1),(g5.frozen_far ⟨w.heap.size,0,none⟩ (by have:=t.o;simp;omega) i2).trans ((gA.frozen_far ⟨w.heap.size,0,none⟩ (by have:=t.o;show w.heap.size<V.heap.size;omega) (by simp)).trans c9.o.2)⟩
   have q5:BW w w5:=(qV.alloc qV.size _).grown g5 (by have:=t.o;simp;omega) (fun j hj=>by have:=l.o j hj;omega)
   have j5:w.heap.size+2<=w5.heap.size:=by have:=g5.size;have:=t.o;simp at *;omega
   clear o5 g5 gA d7 g4 c9 qV;go_wp2
   go_roundw
   case rel=>exact ⟨_,A,_,b1.o,by have:=g1.o;simp;omega,d2.o,i7.o,i3.o,q5,j5⟩
   case measure=>rw [b1.o.left_eq,g3.o.left_eq];exact g1.o
end Go.Proofs.YtomiclakhjncbaaGreatDoor
namespace Go.Proofs.YtomiclakhjncbaaGreatDoor
open Go.RowKit Go.Proofs.Tryz
theorem PB.grown {s:Nat} {d:Option Addr} {cap n:Nat} {a b c m:Int} {u u':World} {g:Nat} (h:PB s d cap n a b c m u) (hg:u.grownBy u' (some g)) (i9:s+1+1<g):PB s d cap n a b c m u':=by
 have H:=h.sz
 exact ⟨(hg.cell_far (qzA s 0) (by show s<u.heap.size;omega) (by simp;omega)).trans h.l0,(hg.cell_far ⟨s+1,0,none⟩ (by show s+1<u.heap.size;omega) (by simp;omega)).trans h.e0,(hg.cell_far ⟨s+1,1,none⟩ (by show s+1<u.heap.size;omega) (by simp;omega)).trans h.e1,
  (hg.cell_far ⟨s+1,2,none⟩ (by show s+1<u.heap.size;omega) (by simp;omega)).trans h.e2,(hg.cell_far ⟨s+1,3,none⟩ (by show s+1<u.heap.size;omega) (by simp;omega)).trans h.e3,(hg.cell_far ⟨s+1+1,0,none⟩ H (by simp;omega)).trans h.r0,(hg.frozen_far ⟨s+1+1,0,none⟩ H (by simp;omega)).trans h.rf,Nat.lt_of_lt_of_le H hg.size⟩
theorem jW {ls:List Ln} (h:∀ x ∈ ls,-4000000000000<=x.2.2/\x.2.2<=4000000000000) (a c:Int):-4000000000000<=(Cf ls a c).getD 0/\(Cf ls a c).getD 0<=4000000000000:=by
 cases hl:Cf ls a c with
 | none=>simp
 | some v=>have:=h _ (Mr hl);simpa using this
theorem cR {ls:List Ln} {a c m:Int} (h:∀ x ∈ ls,Hw x) (hb:∀ x ∈ ls,-4000000000000<=x.2.2/\x.2.2<=4000000000000) (ha:Bf a) (hc:Bf c) (hm:-1000000000000<=m/\m<=1000000000000):∀ x ∈ Cr ls a c m,Hw x:=by
 intro x hx
 have hk:Bf x.1/\Bf x.2.1:=by
  rcases Wf hx with H | ⟨H,h2⟩
  ·exact ⟨(h x H).1,(h x H).2.1⟩
  ·rw [H,h2];exact ⟨ha,hc⟩
 refine ⟨hk.1,hk.2,WalkArith.wf_i64 ?_⟩
 rcases P0 x hx with H | H | ⟨y,hy,H⟩
 ·have:=hb x H;omega
 ·omega
 ·have:=hb y hy;omega
theorem K9 (d:Option Addr) (cap:Nat) (ls:List Ln) (a b c m:Int) (w:World) (hz:Ai w d ls) (hn:ls.length<=1048576) (F:∀ x ∈ ls,Hw x) (d9:Ma (a,b,c,m)) :
  Calls prog 287 #[.agg #[.slice d ls.length cap],.agg #[qzI a,qzI b,qzI c,qzI m]] w (Jl w (Gg ls (a,b,c,m)) (Cj ls (a,b,c,m))):=by
 obtain ⟨W,hW⟩:∃ W,W=((w.alloc (.cells #[.slice d ls.length cap] 29)).alloc (.cells #[qzI a,qzI b,qzI c,qzI m] 269)).alloc (.cells #[.slice none 0 0] 29):=⟨_,rfl⟩
 have bW:BW w W:=by rw [hW];go_grown
 have PW:PB w.heap.size d cap ls.length a b c m W:=by
  rw [hW];exact ⟨by simp [go_sem],by simp [go_sem],by simp [go_sem],by simp [go_sem],by simp [go_sem],by simp [go_sem],by simp [go_sem],by simp⟩
 have d7:Hid (Ai w d ls):=hz;have HZ:Hid (Ai W d ls):=hz.below bW;have HW:Hid _:=hW;have l0:=PW.l0;have a8:Hid (PB w.heap.size d cap ls.length a b c m W):=PW;have U:Hid (∀ x ∈ ls,Hw x):=F;have i:Hid (Ma (a,b,c,m)):=d9;clear hz hW PW F d9
 cases hL:At ls
 ·have f:Cj ls (a,b,c,m)=false:=by simp [Cj,hL]
  have t:Hid _:=Hs f;rw [f]
  have HC:Hid (Calls prog 39 #[.agg #[.slice d ls.length cap]] W fun e w'=>e=.returned (.bool false)/\BW W w'):=by
   have h:=Ij d cap ls W HZ.o (by omega) U.o
   rw [hL] at h;exact h
  clear f hL
  go_enter func287,ntmps287
  go_upto_region 1 with fail
  rw [<- HW.o];go_wp2_with fail
  refine HC.o.mono ?_;rintro e B ⟨rfl,D⟩;have l:=a8.o.below D;have q1:=next bW D;have b0:Hid (Ai B d ls):=HZ.o.below D;have j0:=l.l0;have C:Hid (PB w.heap.size d cap ls.length a b c m B):=l;clear HC D l l0;go_wp2_with fail
  refine (Hg d cap ls B b0.o (by omega)).mono ?_
  rintro e w2 ⟨g2,c2,rfl,o2,G⟩;have N:=C.o.below G;have r0:=N.r0;have rf:=N.rf;have HE:Hid _:=Gd (w:=w) (ok:=false) t.o o2 C.o.sz (next q1 G);clear o2 G N j0;go_wp2
  refine bodyPost_ret (by simp [results,results287,go_sem,r0];try rfl) rfl ?_
  exact HE.o
 have T:Hid (Calls prog 39 #[.agg #[.slice d ls.length cap]] W fun e w'=>e=.returned (.bool true)/\BW W w'):=by
  have h:=Ij d cap ls W HZ.o (by omega) U.o
  rw [hL] at h;exact h
 cases hE:Bt (a,b,c,m)
 ·have f:Cj ls (a,b,c,m)=false:=by simp [Cj,hE]
  have t:Hid _:=Hs f;rw [f];have a5:Hid _:=hE;clear f hL hE
  go_enter func287,ntmps287
  go_upto_region 1 with fail
  rw [<- HW.o];go_wp2_with fail
  refine T.o.mono ?_;rintro e B ⟨rfl,D⟩;have l:=a8.o.below D;have q1:=next bW D;have b0:Hid (Ai B d ls):=HZ.o.below D;have k0:=l.e0;have k1:=l.e1;have k2:=l.e2;have k3:=l.e3
  have I:Hid (Calls prog 313 #[.agg #[qzI a,qzI b,qzI c,qzI m]] B fun e w'=>e=.returned (.bool false)/\BW B w'):=by
   have h:=Nm a b c m B i.o.2.2.1;rw [a5.o] at h;exact h
  have C:Hid (PB w.heap.size d cap ls.length a b c m B):=l;clear T D l l0;go_wp2_with fail
  refine I.o.mono ?_;rintro e w2 ⟨rfl,G⟩;have N:=C.o.below G;have q2:=next q1 G;have b4:Hid (Ai w2 d ls):=b0.o.below G;have j0:=N.l0;have M:Hid (PB w.heap.size d cap ls.length a b c m w2):=N;clear I G N k0 k1 k2 k3;go_wp2_with fail
  refine (Hg d cap ls w2 b4.o (by omega)).mono ?_
  rintro e w3 ⟨g3,c3,rfl,o3,b3⟩;have Y:=M.o.below b3;have r0:=Y.r0;have rf:=Y.rf;have HE:Hid _:=Gd (w:=w) (ok:=false) t.o o3 M.o.sz (next q2 b3);clear o3 b3 Y j0;go_wp2
  refine bodyPost_ret (by simp [results,results287,go_sem,r0];try rfl) rfl ?_
  exact HE.o
 ·obtain ⟨Z,i4,_⟩:=Dq hL
  obtain ⟨_,_,_,_,i5,i6⟩:=Lq hE
  simp only at i5 i6
  have r:=Qn Z;have g7:=Rz Z
  have O:∀ x ∈ ls,-1000000000000<=x.2.2/\x.2.2<=1000000000000:=fun x hx=>(Ig (Dv Z x hx)).2.2.1
  have h0:Hid (∀ x ∈ ls,-4000000000000<=x.2.2/\x.2.2<=4000000000000):=fun x hx=>by have:=O x hx;omega
  have a3:Hid (∀ x ∈ Cr ls a c (-m),-4000000000000<=x.2.2/\x.2.2<=4000000000000):=fun x hx=>by
   rcases P0 x hx with h | h | ⟨y,hy,h⟩
   ·have:=O x h;omega
   ·omega
   ·have:=O y hy;omega
  have g1:=Mp ls a c (-m);have F:=Mp (Cr ls a c (-m)) b c m;have a7:Hid (G5 ls (a,b,c,m)=Cr (Cr ls a c (-m)) b c m):=rfl
  have X:Hid (Cj ls (a,b,c,m)=At (Cr (Cr ls a c (-m)) b c m)):=by rw [Hid,Cj,hL,hE];rfl
  have J:Hid _:=Tb r a c (show -m≠0 by omega)
  have z:Hid _:=Tb (Rn r a c (-m)) b c (show m≠0 by omega)
  have a9:Hid (Va (Cr (Cr ls a c (-m)) b c m)):=Rn (Rn r a c (-m)) b c m
  have a4:Hid (∀ x ∈ Cr (Cr ls a c (-m)) b c m,Hw x):=cR (cR U.o h0.o i.o.1 i.o.2.2.1 ⟨by omega,by omega⟩) a3.o i.o.2.1 i.o.2.2.1 ⟨by omega,by omega⟩
  obtain ⟨A1,d8⟩:∃ A1,Cr ls a c (-m)=A1:=⟨_,rfl⟩;rw [d8] at a3 g1 F a7 X J z a9 a4;obtain ⟨A,hA⟩:∃ A,Cr A1 b c m=A:=⟨_,rfl⟩;rw [hA] at F a7 X z a9 a4;have a5:Hid _:=hE;have HS:Hid (Va ls):=r;have h3:Hid (NZ ls):=g7;have b5:Hid (∀ x ∈ ls,-1000000000000<=x.2.2/\x.2.2<=1000000000000):=O
  have i8:A.length<=402:=by omega
  clear hL hE Z O g1 F d8 hA r g7
  have j1:IntKind.i64.wrap (-m) = -m:=by simp [IntKind.wrap,IntKind.bits,IntKind.signed];omega
  go_enter func287,ntmps287
  go_upto_region 1 with fail
  rw [<- HW.o];go_wp2_with fail
  refine T.o.mono ?_;rintro e B ⟨rfl,D⟩;have l:=a8.o.below D;have q1:=next bW D;have k0:=l.e0;have k1:=l.e1;have k2:=l.e2;have k3:=l.e3
  have I:Hid (Calls prog 313 #[.agg #[qzI a,qzI b,qzI c,qzI m]] B fun e w'=>e=.returned (.bool true)/\BW B w'):=by
   have h:=Nm a b c m B i.o.2.2.1;rw [a5.o] at h;exact h
  have C:Hid (PB w.heap.size d cap ls.length a b c m B):=l;clear T D l l0;go_wp2_with fail
  refine I.o.mono ?_;rintro e w2 ⟨rfl,G⟩;have N:=C.o.below G;have q2:=next q1 G;have b4:Hid (Ai w2 d ls):=d7.o.below q2;have j0:=N.l0;have M:Hid (PB w.heap.size d cap ls.length a b c m w2):=N;clear I G N k0 k1 k2 k3;go_wp2_with fail
  refine (Ut d cap ls w2 b4.o i4 HS.o h3.o b5.o U.o).mono ?_;rintro e w3 ⟨g,rfl,hg,m3,b3⟩;have Y:=M.o.below b3;have q3:=next q2 b3;have g0:w.heap.size+1+1<g:=Nat.lt_of_lt_of_le M.o.sz hg;have b9:Hid (F5 w3 g ls.length (Cf ls)):=m3;have i0:=Y.e0;have i2:=Y.e2;have i3:=Y.e3;have d2:Hid (PB w.heap.size d cap ls.length a b c m w3):=Y;have h4:Hid _:=tP b5.o a c;clear m3 b3 Y j0 hg;go_wp2_with fail
  refine (U6 g ls.length (Cf ls) a c (-m) _ w3 b9.o i.o.1 i.o.2.2.1 rfl (by have:=h4.o;omega) (by unfold maxLen;omega)).mono ?_
  rintro e w4 ⟨rfl,m4,g4⟩;have P4:=d2.o.grown g4 g0
  have q4:BW w w4:=q3.grown g4 q3.size (fun j hj=>by cases hj;omega)
  have c9:Hid (F5 w4 g (ls.length+1) (Cf A1)):=by rw [J.o];exact m4
  have i1:=P4.e1;have i2:=P4.e2;have i3:=P4.e3;have d3:Hid (PB w.heap.size d cap ls.length a b c m w4):=P4;have h6:Hid _:=jW a3.o b c;clear m4 g4 P4 i0 b9 d2;go_wp2_with fail
  refine (U6 g (ls.length+1) (Cf A1) b c m _ w4 c9.o i.o.2.1 i.o.2.2.1 rfl (by have:=h6.o;omega) (by unfold maxLen;omega)).mono ?_
  rintro e w5 ⟨rfl,m5,g5⟩;have P5:=d3.o.grown g5 g0
  have q5:BW w w5:=q4.grown g5 q4.size (fun j hj=>by cases hj;omega)
  have d0:Hid (F5 w5 g (ls.length+1+1) (Cf A)):=by rw [z.o];exact m5
  have d4:Hid (PB w.heap.size d cap ls.length a b c m w5):=P5;clear m5 g5 P5 i1 i2 i3 c9 d3 q3 q4;go_wp2_with fail
  refine (Y1 g (ls.length+1+1) (Cf A) w5 d0.o (by omega)).mono ?_
  rintro e w6 ⟨g6,k6,L,rfl,s6,g9,_,o6,b6⟩
  have q:L=A:=aQ s6 a9.o (fun x y=>by rw [g9])
  subst q;have P6:=d4.o.below b6;have q6:=next q5 b6;obtain ⟨V,hV⟩:∃ V,V=w6.alloc (.cells #[.slice g6 L.length k6] 29):=⟨_,rfl⟩
  have bV:BW w6 V:=by rw [hV];go_grown
  have v0:V.cell? ⟨w6.heap.size,0,none⟩=some (.slice g6 L.length k6):=by rw [hV];simp
  have PV:=P6.below bV;have qV:=next q6 bV;have d1:Hid (V.ownsRow w5.heap.size 113 3 (.slice g6 L.length k6) L.length (Ag L)):=Av o6 bV;have h9:Hid (Ai V d ls):=d7.o.below qV;have d6:Hid (PB w.heap.size d cap ls.length a b c m V):=PV
  have k:Hid (Calls prog 39 #[.agg #[.slice g6 L.length k6]] V fun e w'=>e=.returned (.bool (At L))/\BW V w'):=Ij g6 k6 L V (Df d1.o) (by omega) a4.o
  have i7:w.heap.size+1+1<w5.heap.size:=d4.o.sz;clear s6 g9 o6 b6 bV P6 PV q6 d0 J z;go_upto_region 7 with fail
  rw [<- hV];clear hV
  cases q:At L
  ·have f:Cj ls (a,b,c,m)=false:=X.o.trans q
   have t:Hid _:=Hs f;have a6:Hid _:=f;rw [q] at k;clear f q;go_wp2_with fail
   refine k.o.mono ?_;rintro e w7 ⟨rfl,S⟩;have P7:=d6.o.below S;have q7:=next qV S;have h8:Hid (Ai w7 d ls):=h9.o.below S;have j0:=P7.l0;have d5:Hid (PB w.heap.size d cap ls.length a b c m w7):=P7;clear k S P7 v0;go_wp2_with fail
   refine (Hg d cap ls w7 h8.o (by omega)).mono ?_
   rintro e w8 ⟨g8,c8,rfl,o8,b8⟩;have P8:=d5.o.below b8;have r0:=P8.r0;have rf:=P8.rf;have HE:Hid _:=Gd (w:=w) (ok:=false) t.o o8 d5.o.sz (next q7 b8);clear o8 b8 P8 j0;go_wp2
   refine bodyPost_ret (by simp [results,results287,go_sem,r0];try rfl) rfl ?_
   rw [a6.o];exact HE.o
  ·have R:Cj ls (a,b,c,m)=true:=X.o.trans q
   have t:Hid (Gg ls (a,b,c,m)=L):=(N9 R).trans a7.o;have a6:Hid _:=R;rw [q] at k;clear R q;go_wp2_with fail
   refine k.o.mono ?_;rintro e w7 ⟨rfl,S⟩;have P7:=d6.o.below S;have q7:=next qV S;have v7:=(S.cell (p:=⟨w6.heap.size,0,none⟩) (World.block_lt_of_cell? V _ v0)).trans v0;have r0:=P7.r0;have rf:=P7.rf;have HE:Hid _:=Gd (w:=w) (ok:=true) t.o (Av d1.o S) i7 q7;clear k S P7 v0;go_wp2
   refine bodyPost_ret (by simp [results,results287,go_sem,r0];try rfl) rfl ?_
   rw [a6.o];exact HE.o
theorem Um (g:Option Addr) (cap:Nat) (ls:List Ln) (eo:Option Addr) (ec:Nat) (es:List En) (w:World) (hz:Ai w g ls) (hn:ls.length<=1048576) (O:∀ x ∈ ls,Hw x) (hy:C8 w eo es) (hm:es.length<=1048576) (N:∀ x ∈ es,Ma x) :
  Calls prog 255 #[.agg #[.slice g ls.length cap],.slice eo es.length ec] w (Jl w (Hv ls es) (allOk ls es)):=by
 obtain ⟨W,z⟩:∃ W,W=(w.alloc (.cells #[.slice g ls.length cap] 29)).alloc (.cells #[.slice none 0 0] 29):=⟨_,rfl⟩
 have bW:BW w W:=by rw [z];go_grown
 have J:W.heap.size=w.heap.size+2:=by rw [z];simp
 have l0:W.cell? ⟨w.heap.size,0,none⟩=some (.slice g ls.length cap):=by rw [z];simp [go_sem]
 have r0:W.cell? ⟨w.heap.size+1,0,none⟩=some (.slice none 0 0):=by rw [z];simp [go_sem]
 have rf:W.frozen? ⟨w.heap.size+1,0,none⟩=false:=by rw [z];simp [go_sem]
 have b0:Hid _:=l0;have b6:Hid _:=r0;have b7:Hid _:=rf;have HZ:Hid (Ai w g ls):=hz;have HY:Hid (C8 w eo es):=hy;have b2:Hid (∀ x ∈ ls,Hw x):=O;have a8:Hid (∀ x ∈ es,Ma x):=N;have F:Hid (BW w W):=bW;have b8:Hid _:=J;clear hz hy O N r0 rf bW J
 go_enter func255,ntmps255
 go_upto_region 1 with fail
 rw [<- z];clear z;go_wp2_with fail
 refine (Hg g cap ls W (HZ.o.below F.o) (by omega)).mono ?_
 rintro e w1 ⟨a1,T,rfl,o1,I⟩;have d2:=b8.o
 have P1:PA w.heap.size w1.heap.size g cap ls.length ls a1 T (w1.alloc (.cells #[.slice a1 ls.length T] 29)):=Vv ((I.cell (p:=⟨w.heap.size,0,none⟩) (by show w.heap.size<W.heap.size;omega)).trans b0.o) ((I.cell (p:=⟨w.heap.size+1,0,none⟩) (by show w.heap.size+1<W.heap.size;omega)).trans b6.o) ((I.frozen (p:=⟨w.heap.size+1,0,none⟩) (by show w.heap.size+1<W.heap.size;omega)).trans b7.o) (Bi o1 (by omega))
 have q1:=next F.o I;obtain ⟨V,hV⟩:∃ V,V=w1.alloc (.cells #[.slice a1 ls.length T] 29):=⟨_,rfl⟩
 have qV:BW w V:=by rw [hV];exact q1.alloc q1.size _
 have u:Hid (PA w.heap.size w1.heap.size g cap ls.length ls a1 T V):=by rw [Hid,hV];exact P1
 obtain ⟨B,v⟩:∃ B,B=w1.heap.size:=⟨_,rfl⟩;clear P1 q1 o1 I l0 d2;go_upto_region 2 with fail
 rw [<- hV,<- v];rw [<- v] at u;clear hV v;go_wp2
 go_loopw [7,14] (fun v7 i wr=>∃ (k:Nat) (d:List Ln) (a2:Option Addr) (D:Nat),k<=es.length/\i=qzI k/\v7=.bool true/\Ch ls es=Ch d (es.drop k)/\PA w.heap.size B g cap ls.length d a2 D wr/\(d.length<=1048576/\∀ x ∈ d,Hw x)/\BW w wr) (fun _ i _=>es.length - (intOf i).toNat)
 case atStart=>exact ⟨0,ls,a1,T,Nat.zero_le _,rfl,rfl,rfl,u.o,⟨hn,b2.o⟩,qV⟩
 case round =>
  obtain ⟨k,d,a2,D,hk,rfl,rfl,S,R,⟨c9,M⟩,r⟩:=hrel;have j:Hid (PA w.heap.size B g cap ls.length d a2 D wr):=R;have a7:Hid (∀ x ∈ d,Hw x):=M;have s:Hid (Ch ls es=Ch d (es.drop k)):=S;clear R M S u qV
  by_cases hlt:k<es.length
  ·have d1:(k:Int)<(es.length:Int):=by omega
   obtain ⟨b,off,rfl,d3,y1,y2,y3,y4⟩:=(HY.o.below r).at hlt;have C:=Rb d es k hlt;have A:=a8.o _ (lJ hlt);obtain ⟨⟨a,n,c,m⟩,hx⟩:∃ x,I4 es k=x:=⟨_,rfl⟩;rw [hx] at y1 y2 y3 y4 C A
   simp only at y1 y2 y3 y4
   have l:Hid _:=s.o.trans C;have a9:Hid (Ma (a,n,c,m)):=A;obtain ⟨U,y⟩:∃ U,U=wr.alloc (.cells #[qzI a,qzI n,qzI c,qzI m] 269):=⟨_,rfl⟩
   have bU:BW wr U:=by rw [y];go_grown
   have u0:U.cell? ⟨wr.heap.size,0,none⟩=some (qzI a):=by rw [y];simp
   have u1:U.cell? ⟨wr.heap.size,1,none⟩=some (qzI n):=by rw [y];simp
   have u2:U.cell? ⟨wr.heap.size,2,none⟩=some (qzI c):=by rw [y];simp
   have u3:U.cell? ⟨wr.heap.size,3,none⟩=some (qzI m):=by rw [y];simp
   have t:Hid (PA w.heap.size B g cap ls.length d a2 D U):=j.o.below bU;have c6:=t.o.c6;have qU:=next r bU;have a6:Hid (B<U.heap.size):=World.block_lt_of_cell? U _ c6;clear C A hx bU r;go_upto_region 5 with fail
   rw [<- y];clear y y1 y2 y3 y4;go_wp2_with fail
   refine (K9 a2 D d a n c m U (Df t.o.own) c9 a7.o a9.o).mono ?_;rintro e w2 ⟨H,Y,rfl,o3,b3⟩;have P3:=t.o.below b3;have d6:=P3.c6;have f6:=P3.f6;have q3:=next qU b3;have L:=a6.o;have h:Hid (PA w.heap.size B g cap ls.length (Gg d (a,n,c,m)) H Y (w2.setCell (qzA B 0) (.slice H (Gg d (a,n,c,m)).length Y))):=P3.put o3 L;have c8:=j.o.hB
   have Z:Below w.heap.size w (w2.setCell (qzA B 0) (.slice H (Gg d (a,n,c,m)).length Y)):=q3.setCell (by show w.heap.size<=B;omega) _
   clear P3 o3 b3 q3 L c6 u0 u1 u2 u3 qU c8
   cases hok:Cj d (a,n,c,m)
   ·rw [hok] at l
    have G:Hid (Ch ls es=none):=l.o;have b4:Hid (Gg d (a,n,c,m)=d):=Hs hok;rw [b4.o] at h Z ⊢;clear l hok;obtain ⟨X,hX⟩:∃ X,X=w2.setCell (qzA B 0) (.slice H d.length Y):=⟨_,rfl⟩;rw [<- hX] at h Z;have l4:=h.o.l0;have b9:Hid (Ai X g ls):=HZ.o.below Z;go_upto_region 7 with fail
    rw [<- hX];clear hX d6 f6;go_wp2_with fail
    refine (Hg g cap ls X b9.o (by omega)).mono ?_
    rintro e w5 ⟨a5,k5,rfl,o5,b5⟩;have P5:=h.o.below b5;have r5:=P5.r0;have d4:=P5.rf
    have HE:Hid (Jl w (Hv ls es) (allOk ls es) (.returned (.tuple #[.agg #[.slice a5 ls.length k5],.bool false])) (w5.setCell ⟨w.heap.size+1,0,none⟩ (.slice a5 ls.length k5))):=by
     have h1:allOk ls es=false:=by unfold allOk;rw [G.o];rfl
     have h2:Hv ls es=ls:=by unfold Hv;rw [G.o];rfl
     rw [Hid,h1];exact Pq (w:=w) h2 o5 (World.block_lt_of_cell? X _ h.o.r0) (next Z b5)
    clear o5 b5 P5 l4;go_wp2
    refine bodyPost_ret (by simp [results,results255,go_sem,r5];try rfl) rfl ?_
    exact HE.o
   ·have q:=N1 hok
    rw [hok] at l
    have HN:Hid (Ch ls es=Ch (Gg d (a,n,c,m)) (es.drop (k+1))):=by rw [Hid,l.o,q.1];rfl
    have a4:Hid ((Gg d (a,n,c,m)).length<=1048576/\∀ x ∈ Gg d (a,n,c,m),Hw x):=by
     rw [q.1]
     exact ⟨by have:=(Dq q.2).2.1;omega,Vm q.2⟩
    clear l hok q
    generalize Gg d (a,n,c,m)=nxt at *
    go_wp2
    go_roundw
    case rel=>exact ⟨k+1,nxt,H,Y,by omega,by go_num,rfl,HN.o,h.o,a4.o,Z⟩
    case measure=>simp [intOf];omega
  ·have d0:k=es.length:=by omega
   subst d0
   have d1:¬ (es.length:Int)<(es.length:Int):=by omega
   have f:Ch ls es=some d:=by rw [s.o,Te]
   have c6:=j.o.c6;have r0:=j.o.r0;have rf:=j.o.rf
   have HE:Hid (Jl w (Hv ls es) (allOk ls es) (.returned (.tuple #[.agg #[.slice a2 d.length D],.bool true])) (wr.setCell ⟨w.heap.size+1,0,none⟩ (.slice a2 d.length D))):=by
    have h1:allOk ls es=true:=by unfold allOk;rw [f];rfl
    have h2:Hv ls es=d:=by unfold Hv;rw [f];rfl
    rw [Hid,h1]
    exact Pq (w:=w) h2 j.o.own (by omega) r
   clear f s;go_wp2
   refine bodyPost_ret (by simp [results,results255,go_sem,r0];try rfl) rfl ?_
   exact HE.o
def X8 (rs:Be):List ByteArray:=rs.map fun r=>⟨r.toArray⟩
theorem vH (rs:Be):(X8 rs).length=rs.length:=by simp [X8]
theorem yA (rs:Be) (F:List UInt8):Lib.join ((X8 rs).map (·.data.toList)) F=Lib.join rs F:=by
 rw [X8,List.map_map]
 congr 1
 induction rs with
 | nil=>rfl
 | cons x r ih=>rw [List.map_cons,ih];simp
theorem Aaj {w:World} {base:Nat} {t:TypeId} {v:Value} {rs:Be} (h:w.ownsRow base t 1 v rs.length (Am rs)) (h0:rs≠[]) :
  ∃ g cap,v=.slice (some (qzA g 0)) (X8 rs).length cap/\g<w.heap.size/\(X8 rs).length<=cap/\∀ (j:Nat) x,(X8 rs)[j]?=some x->w.cell? (qzA g (0+j))=some (.string x):=by
 have m:=vH rs
 rcases h.2 with ⟨_,q⟩ | ⟨g,cap,cQ,rfl,hg,hh,a1,a2,a3,a4⟩
 ·exact absurd (List.eq_nil_of_length_eq_zero q) h0
 ·refine ⟨g,cap,by rw [m],(h.lt g rfl).2,by rw [m];omega,fun j x hj=>?_⟩
  have d:j<rs.length:=by rw [<- m];exact (List.getElem?_eq_some_iff.1 hj).1
  rw [Nat.zero_add,h.cellAt j (by omega),Hd rs j d]
  rw [X8,List.getElem?_map,List.getElem?_eq_getElem d] at hj
  simp at hj
  rw [<- hj]
  simp [Al,List.getD_eq_getElem?_getD,d]
theorem xL (g:Option Addr) (gc:Nat) (lg:Be) (w:World) (hz:Bh w g lg) (q:lg.length<=1048576) (hl:(K5 lg).length<=1099511627776) :
  Calls prog 108 #[.slice g lg.length gc] w fun e w'=>e=.returned (.string ⟨(K5 lg).toArray⟩)/\BW w w':=by
 obtain ⟨W,k⟩:∃ W,W=(w.alloc (.cells #[.string ⟨#[]⟩] 9)).alloc (.cells #[.slice g lg.length gc,.slice (some ⟨w.heap.size,0,none⟩) 1 1] 23):=⟨_,rfl⟩
 have z:BW w W:=by rw [k];go_grown
 have k0:W.cell? ⟨w.heap.size+1,0,none⟩=some (.slice g lg.length gc):=by rw [k];simp [go_sem]
 have k1:W.cell? ⟨w.heap.size+1,1,none⟩=some (.slice (some ⟨w.heap.size,0,none⟩) 1 1):=by rw [k];simp [go_sem]
 have S:W.cell? ⟨w.heap.size,0,none⟩=some (.string ⟨#[]⟩):=by rw [k];simp [go_sem]
 have hy:Bh W (some ⟨w.heap.size,0,none⟩) [[]]:=.inr ⟨w.heap.size,0,rfl,World.block_lt_of_cell? W _ S,fun i hi=>by
  obtain rfl:i=0:=by simpa using hi
  exact S⟩
 have U:Hid _:=yF (w.heap.size+1) g (some ⟨w.heap.size,0,none⟩) gc 1 lg [[]] W k0 k1 (hz.below z) hy (by simp;omega)
 have H:Hid ((K5 lg).length<=1099511627776):=hl;have G:Hid (lg.length<=1048576):=q;have s:Hid (BW w W):=z;have y:Hid _:=k;clear hz q hl k z k0 k1 S hy
 go_enter func108,ntmps108
 go_wp2_with fail
 rw [<- y.o];refine Calls.mono U.o ?_;rintro e I ⟨a2,c2,rfl,T,Y⟩
 have u:lg++[[]]≠[]:=by simp
 have d:=Aa3 lg
 have C:(lg++[[]]).length<=1048577:=by have:=G.o;simp;omega
 obtain ⟨L,hL⟩:∃ L:Be,lg++[[]]=L:=⟨_,rfl⟩;rw [hL] at T u d C ⊢;obtain ⟨g2,R,hv,B,A,f⟩:=Aaj T u;have J:Hid (BW w I):=next s.o Y;have D:=vH L;have n:=yA L [10];rw [d] at n;have hl:=H.o
 have V:Hid (Calls prog 153 #[.slice a2 L.length c2,.string ⟨#[10]⟩] I fun e w'=>e=.returned (.string ⟨(K5 lg).toArray⟩)/\BW I w'):=by
  rw [Hid,hv,<- n]
  exact strings_Join g2 0 R (X8 L) ⟨#[10]⟩ I f B (by rw [D];omega) A (by show (Lib.join ((X8 L).map (·.data.toList)) [10]).length<=_;rw [n];omega)
 clear hL u d C D n hl;clear T Y hv B A f y U;go_wp2_with fail
 refine Calls.mono V.o ?_;rintro e w3 ⟨rfl,Z⟩;have M:Hid (BW w w3):=next J.o Z;clear Z V;go_wp2;go_ret;exact ⟨rfl,M.o⟩
theorem vV (b:Bk) (p:Bp) (w:World) (hx:Aq w b p) (q:tL b) :
  Calls prog 49 #[C5 b p] w fun e w'=>e=.returned (.string ⟨(K5 b.log).toArray⟩)/\BW w w':=by
 obtain ⟨W,k⟩:∃ W,W=w.alloc (.cells (qcB b p) 31):=⟨_,rfl⟩
 have O:BW w W:=by rw [k];exact bR.alloc nL _
 have s6:S6 w.heap.size b p W:=by rw [k];exact S6.new w b p _
 have X:Hid (Bh W p.g b.log):=(hx.below O).log;have G:Hid (b.log.length<=1048576):=q.1.2.2.2.2
 have H:Hid ((K5 b.log).length<=1099511627776):=by rw [Hid];have:=wF b.log;have:=q.2;omega
 have y:Hid _:=k;have N:Hid (BW w W):=O;clear hx q k O;obtain ⟨td,fo,az,cs,ls,lg⟩:=b;obtain ⟨o,oc,a,ac,c,cc,l,lc,g,gc⟩:=p;unfold C5
 simp only at y X H G s6 ⊢
 obtain ⟨x0,x1,x2,x3,x4,x5⟩:=s6
 simp only at x0 x1 x2 x3 x4 x5
 go_enter func49,ntmps49
 go_upto_region 1 with fail
 rw [<- y.o];clear y;go_wp2_with fail
 refine (xL _ _ _ _ X.o G.o H.o).mono ?_;rintro e w1 ⟨rfl,z⟩;have s:Hid (BW w w1):=next N.o z;clear z x0 x1 x2 x3 x4 x5;go_wp2;go_ret;exact ⟨rfl,s.o⟩
end Go.Proofs.YtomiclakhjncbaaGreatDoor
