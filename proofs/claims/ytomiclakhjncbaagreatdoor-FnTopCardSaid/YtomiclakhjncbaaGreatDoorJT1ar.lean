import Derived.Test.YtomiclakhjncbaaGreatDoorJT1a
import Derived.Test.YtomiclakhjncbaaGreatDoorJT0ar
set_option maxRecDepth 100000
set_option maxHeartbeats 12800000
namespace Go.Proofs.YtomiclakhjncbaaGreatDoor
open Go.RowKit Go.Proofs.Tryz
theorem iQ (l:List UInt8):decide (0<=Lib.indexByte l 32)=l.any (fun c=>c == 32):=by
 induction l with
 | nil=>rfl
 | cons b l ih =>
  have hg:=Lib.indexByte_ge l 32
  by_cases hb:b=32
  ·have n:(b == 32)=true:=by simp [hb]
   have B:Lib.indexByte (b::l) 32=0:=by rw [Lib.indexByte,if_pos n]
   rw [B,List.any_cons,n];rfl
  ·have n:(b == 32)=false:=by simp [hb]
   rw [List.any_cons,n,Bool.false_or,<- ih]
   by_cases h:Lib.indexByte l 32 = -1
   ·have B:Lib.indexByte (b::l) 32 = -1:=by rw [Lib.indexByte,if_neg (by rw [n];decide),if_pos (by simp [h])]
    rw [B,h]
   ·have B:Lib.indexByte (b::l) 32=Lib.indexByte l 32+1:=by rw [Lib.indexByte,if_neg (by rw [n];decide),if_neg (by simp [h])]
    rw [B,decide_eq_true (show 0<=Lib.indexByte l 32+1 by omega),decide_eq_true (show 0<=Lib.indexByte l 32 by omega)]
theorem Y3 (l:List UInt8):A6 33 126 l=(A6 32 126 l && !decide (0<=Lib.indexByte l 32)):=by
 rw [iQ]
 induction l with
 | nil=>rfl
 | cons b l ih =>
  simp only [A6,List.all_cons,List.any_cons] at ih ⊢
  rw [ih]
  by_cases hb:b.toNat=32
  ·have n:(b == 32)=true:=by
     have:b=32:=UInt8.toNat_inj.1 hb
     simp [this]
   have L:decide (33<=b.toNat)=false:=by simp [hb]
   rw [n,L]
   simp
  ·have n:(b == 32)=false:=by
     cases h:(b == 32)
     ·rfl
     ·have:b=32:=by simpa using h
      subst this;exact absurd rfl hb
   have L:decide (33<=b.toNat)=decide (32<=b.toNat):=by
    by_cases h:33<=b.toNat
    ·rw [decide_eq_true h,decide_eq_true (show 32<=b.toNat by omega)]
    ·rw [decide_eq_false h,decide_eq_false (show ¬ 32<=b.toNat by omega)]
   rw [n,L,Bool.false_or]
   cases decide (32<=b.toNat) <;> cases decide (b.toNat<=126) <;> simp
theorem lU (l:List UInt8) (w:World) (hl:l.length<=1099511627776) :
  Calls prog 276 #[.string ⟨l.toArray⟩] w fun e w'=>e=.returned (.bool (Kk l))/\w'=w:=by
 by_cases h12:l.length=12
 ·have I:((l.length:Int) == 12)=true:=by simp [h12]
  have G:Hid (Kk l=(A6 32 126 l && !decide (0<=Lib.indexByte l 32))):=by rw [Hid,Kk,Y3,decide_eq_true h12,Bool.true_and]
  clear h12
  cases hp:A6 32 126 l
  ·go_enter func276,ntmps276
   go_wp2_with fail
   refine (Lx l _ hl).mono ?_;rintro e k ⟨rfl,hw⟩;subst hw;rw [hp];go_wp2;go_ret
   exact ⟨Aa (by rw [G.o,hp];rfl),rfl⟩
  ·go_enter func276,ntmps276
   go_wp2_with fail
   refine (Lx l _ hl).mono ?_;rintro e k ⟨rfl,hw⟩;subst hw;rw [hp];go_wp2_with fail
   refine (strings_Contains_one ⟨l.toArray⟩ 32 _).mono ?_;rintro e k ⟨rfl,hw⟩;subst hw;obtain ⟨q,y⟩:∃ q,decide (0<=Lib.indexByte (⟨l.toArray⟩:ByteArray).data.toList 32)=q:=⟨_,rfl⟩;rw [y];have F:Hid (decide (0<=Lib.indexByte l 32)=q):=y;clear y;go_wp2;go_ret
   exact ⟨Aa (by rw [G.o,hp,F.o];rfl),rfl⟩
 ·have I:((l.length:Int) == 12)=false:=by simp;omega
  have G:Hid (Kk l=false):=by rw [Hid,Kk,decide_eq_false h12];rfl
  clear h12
  go_enter func276,ntmps276
  go_wp2;go_ret;exact ⟨Aa G.o.symm,rfl⟩
theorem Nd {l:List UInt8} {q:Bool} (h:Kk l=q) (w:World) (hl:l.length<=1099511627776):Calls prog 276 #[.string ⟨l.toArray⟩] w fun e w'=>e=.returned (.bool q)/\w'=w:=by rw [<- h];exact lU l w hl
theorem Oi (a:Au) (w:World) (hl:a.ref.length<=1099511627776) (H:Bf a.cur) :
  Calls prog 248 #[Fe a] w fun e w'=>e=.returned (.bool (Gy a))/\BW w w':=by
 obtain ⟨r,i,c,m,d,u⟩:=a
 simp only [Fe] at hl H ⊢
 have t:Hid (Gy ⟨r,i,c,m,d,u⟩=(Kk r && (Cb i && (decide (0<=Dc c) && (decide (1<=m/\m<=100000000000) && Dn d))))):=rfl
 have J:∀ o,Below w.heap.size w (w.alloc o):=fun o=>bR.alloc nL _
 cases hr:Kk r
 ·go_enter func248,ntmps248
  go_wp2_with fail
  refine (Nd hr _ hl).mono ?_;rintro e k ⟨rfl,hw⟩;subst hw;go_wp2;go_ret
  exact ⟨Aa (by rw [t.o,hr];rfl),J _⟩
 cases hi:Cb i
 ·go_enter func248,ntmps248
  go_wp2_with fail
  refine (Nd hr _ hl).mono ?_;rintro e k ⟨rfl,hw⟩;subst hw;go_wp2_with fail
  refine (C9 hi _).mono ?_;rintro e k ⟨rfl,hw⟩;subst hw;go_wp2;go_ret
  exact ⟨Aa (by rw [t.o,hr,hi];rfl),J _⟩
 obtain ⟨W,x⟩:∃ W,w.alloc (.cells #[.string ⟨r.toArray⟩,qzI i,qzI c,qzI m,qzI d,.bool u] 107)=W:=⟨_,rfl⟩;have s:BW w W:=x ▸ J _
 have c3:W.cell? ⟨w.heap.size,3,none⟩=some (qzI m):=by rw [<- x];simp
 have c4:W.cell? ⟨w.heap.size,4,none⟩=some (qzI d):=by rw [<- x];simp
 have c2:W.cell? ⟨w.heap.size,2,none⟩=some (qzI c):=by rw [<- x];simp
 have M:w.heap.size<W.heap.size:=by rw [<- x];simp
 have A:Hid _:=x;clear x
 by_cases hd:0<=Dc c
 ·by_cases hm:1<=m/\m<=100000000000
  ·obtain ⟨C,D⟩:=hm
   obtain ⟨q,I⟩:∃ q,Dn d=q:=⟨_,rfl⟩;have F:Hid (Dn d=q):=I;clear I
   have f:Hid (Gy ⟨r,i,c,m,d,u⟩=q):=by rw [Hid,t.o,hr,hi,decide_eq_true hd,decide_eq_true (show 1<=m/\m<=100000000000 from ⟨C,D⟩),F.o];rfl
   clear t
   go_enter func248,ntmps248
   go_wp2_with fail
   refine (Nd hr _ hl).mono ?_;rintro e k ⟨rfl,hw⟩;subst hw;go_wp2_with fail
   refine (C9 hi _).mono ?_;rintro e k ⟨rfl,hw⟩;subst hw;rw [A.o];go_wp2_with fail
   refine (Eb c _ H).mono ?_;rintro e v ⟨rfl,j⟩;have e3:v.cell? ⟨w.heap.size,3,none⟩=some (qzI m):=(j.cell (p:=⟨w.heap.size,3,none⟩) M).trans c3;have N:v.cell? ⟨w.heap.size,4,none⟩=some (qzI d):=(j.cell (p:=⟨w.heap.size,4,none⟩) M).trans c4;have z:Hid (BW w v):=s.trans (j.mono s.size)
   generalize Dc c=g at hd
   clear c2 c3 c4 s j A;go_wp2_with fail
   refine (Bm d _).mono ?_;rintro e O ⟨rfl,hw⟩;subst hw;rw [F.o];go_wp2;go_ret;exact ⟨Aa f.o.symm,z.o⟩
  ·have f:Hid (Gy ⟨r,i,c,m,d,u⟩=false):=by rw [Hid,t.o,hr,hi,decide_eq_true hd,decide_eq_false hm];rfl
   clear t
   go_enter func248,ntmps248
   go_wp2_with fail
   refine (Nd hr _ hl).mono ?_;rintro e k ⟨rfl,hw⟩;subst hw;go_wp2_with fail
   refine (C9 hi _).mono ?_;rintro e k ⟨rfl,hw⟩;subst hw;rw [A.o];go_wp2_with fail
   refine (Eb c _ H).mono ?_;rintro e v ⟨rfl,j⟩;have e3:v.cell? ⟨w.heap.size,3,none⟩=some (qzI m):=(j.cell (p:=⟨w.heap.size,3,none⟩) M).trans c3;have z:Hid (BW w v):=s.trans (j.mono s.size)
   generalize Dc c=g at hd
   clear c2 c3 c4 s j A
   by_cases C:1<=m
   ·have D:100000000000<m:=by omega
    clear hm;go_wp2;go_ret;exact ⟨Aa f.o.symm,z.o⟩
   ·clear hm
    go_wp2;go_ret;exact ⟨Aa f.o.symm,z.o⟩
 ·have f:Hid (Gy ⟨r,i,c,m,d,u⟩=false):=by rw [Hid,t.o,hr,hi,decide_eq_false hd];rfl
  clear t
  go_enter func248,ntmps248
  go_wp2_with fail
  refine (Nd hr _ hl).mono ?_;rintro e k ⟨rfl,hw⟩;subst hw;go_wp2_with fail
  refine (C9 hi _).mono ?_;rintro e k ⟨rfl,hw⟩;subst hw;rw [A.o];go_wp2_with fail
  refine (Eb c _ H).mono ?_;rintro e v ⟨rfl,j⟩;have z:Hid (BW w v):=s.trans (j.mono s.size)
  generalize Dc c=g at hd
  clear c2 c3 c4 s j A;go_wp2;go_ret;exact ⟨Aa f.o.symm,z.o⟩
theorem cL {x:Int} (h:(Lit.int .i64 x).wf=true):-9223372036854775808<=x/\x<=9223372036854775807:=by
 simpa [Lit.wf,IntKind.min,IntKind.max,IntKind.signed,IntKind.bits] using h
theorem Vt {a:Au} {k j am day:Int} (h:Xr a k j am day=false):Co a k j am day = -1:=by rw [Co,if_neg (by rw [h];decide)]
theorem Tj {a:Au} {k j am day:Int} (h:Xr a k j am day=true):Co a k j am day=8*Ue (am - a.am)+day - a.day:=by rw [Co,if_pos h]
theorem lP (a:Au) (k j am day:Int):Xr a k j am day=(Gy a && (!a.used && (decide (a.iss=k) && (decide (a.cur=j) && (E9 a day && Ia a am))))):=rfl
theorem pK (x:Int):max x (-x)=Ue x:=by unfold Ue;split <;> omega
theorem eC (a:Au) (day:Int) (w:World) (hd:0<=a.day/\a.day<=80000) (hb:day<=9223372036854775807) :
  Calls prog 279 #[Fe a,qzI day] w fun e w'=>e=.returned (.bool (E9 a day))/\BW w w':=by
 obtain ⟨r,i,c,m,d,u⟩:=a
 simp only [Fe] at hd ⊢
 have X:∀ o,Below w.heap.size w (w.alloc o):=fun o=>bR.alloc nL _
 by_cases h1:d<=day
 ·by_cases h2:day - d<=7
  ·have b:Hid (E9 ⟨r,i,c,m,d,u⟩ day=true):=by rw [Hid,E9];exact decide_eq_true (show d<=day/\day<=d+7 by omega)
   go_enter func279,ntmps279
   go_wp2;go_ret;exact ⟨Aa b.o.symm,X _⟩
  ·have b:Hid (E9 ⟨r,i,c,m,d,u⟩ day=false):=by rw [Hid,E9];exact decide_eq_false (show ¬ (d<=day/\day<=d+7) by omega)
   go_enter func279,ntmps279
   go_wp2;go_ret;exact ⟨Aa b.o.symm,X _⟩
 ·have b:Hid (E9 ⟨r,i,c,m,d,u⟩ day=false):=by rw [Hid,E9];exact decide_eq_false (show ¬ (d<=day/\day<=d+7) by omega)
  go_enter func279,ntmps279
  go_wp2;go_ret;exact ⟨Aa b.o.symm,X _⟩
theorem jN (a:Au) (am:Int) (w:World) (hd:1<=a.am/\a.am<=100000000000) :
  Calls prog 280 #[Fe a,qzI am] w fun e w'=>e=.returned (.bool (Ia a am))/\BW w w':=by
 obtain ⟨r,i,c,m,d,u⟩:=a
 simp only [Fe] at hd ⊢
 have X:∀ o,Below w.heap.size w (w.alloc o):=fun o=>bR.alloc nL _
 have U:m.tdiv 10=m / 10:=Int.tdiv_eq_ediv_of_nonneg (by omega)
 obtain ⟨t,R⟩:∃ t,m / 10=t:=⟨_,rfl⟩
 have a9:0<=t/\t<=10000000000:=by omega
 have b:Hid (Ia ⟨r,i,c,m,d,u⟩ am=decide (1<=am/\am<=m+t)):=by rw [Hid,Ia,R]
 rw [R] at U
 by_cases h1:1<=am
 ·by_cases h2:am<=m+t
  ·have p:Hid (Ia ⟨r,i,c,m,d,u⟩ am=true):=by rw [Hid,b.o];exact decide_eq_true ⟨h1,h2⟩
   clear b
   go_enter func280,ntmps280
   go_wp2;go_ret;exact ⟨Aa p.o.symm,X _⟩
  ·have p:Hid (Ia ⟨r,i,c,m,d,u⟩ am=false):=by rw [Hid,b.o];exact decide_eq_false (fun h=>h2 h.2)
   clear b
   go_enter func280,ntmps280
   go_wp2;go_ret;exact ⟨Aa p.o.symm,X _⟩
 ·have p:Hid (Ia ⟨r,i,c,m,d,u⟩ am=false):=by rw [Hid,b.o];exact decide_eq_false (fun h=>h1 h.1)
  clear b
  go_enter func280,ntmps280
  go_wp2;go_ret;exact ⟨Aa p.o.symm,X _⟩
theorem aV (a:Au) (k j am day:Int) (w:World) (hl:a.ref.length<=1099511627776) (hc:Bf a.cur) (_w3:(Lit.int .i64 am).wf=true) (w4:(Lit.int .i64 day).wf=true) :
  Calls prog 251 #[Fe a,qzI k,qzI j,qzI am,qzI day] w fun e w'=>e=.returned (qzI (Co a k j am day))/\BW w w':=by
 have a4:=cL w4;have b:=lP a k j am day;obtain ⟨q,U⟩:∃ q,Gy a=q:=⟨_,rfl⟩
 have n:Hid (∀ u,Calls prog 248 #[Fe a] u fun e w'=>e=.returned (.bool q)/\BW u w'):=fun u=>by rw [<- U];exact Oi a u hl hc
 have L:Hid (Xr a k j am day=false->Co a k j am day = -1):=Vt;have T:Hid (Xr a k j am day=true->Co a k j am day=8*Ue (am - a.am)+day - a.day):=Tj;obtain ⟨W,l⟩:∃ W,W=w.alloc (.cells #[.string ⟨a.ref.toArray⟩,qzI a.iss,qzI a.cur,qzI a.am,qzI a.day,.bool a.used] 107):=⟨_,rfl⟩
 have B:Jo w.heap.size a W:=by rw [l];exact Jo.new w a _
 have v:Hid (Jo w.heap.size a W):=B
 have bW:BW w W:=by rw [l];exact bR.alloc nL _
 have y:Hid (BW w W):=bW;clear bW _w3 w4
 cases q
 ·have H:Hid (Co a k j am day = -1):=L.o (by rw [b,U];rfl)
  clear b L T U v;obtain ⟨r,i,c,m,d,u⟩:=a;unfold Fe at n ⊢
  simp only at l n ⊢
  have p:Hid _:=l;obtain ⟨f0,f1,f2,f3,f4,f5⟩:=B;clear l
  go_enter func251,ntmps251
  go_upto_region 1 with fail
  rw [<- p.o];go_wp2_with fail
  refine (n.o _).mono ?_;rintro e G ⟨rfl,g⟩;have f:Hid (BW w G):=next y.o g;clear g f0 f1 f2 f3 f4 f5;go_wp2;go_ret;exact ⟨Af H.o.symm,f.o⟩
 obtain ⟨-,-,-,F,a5⟩:=L0 U;have D:=Ei a5
 have I:Hid (∀ u,Calls prog 279 #[Fe a,qzI day] u fun e w'=>e=.returned (.bool (E9 a day))/\BW u w'):=fun u=>eC a day u D a4.2
 have M:Hid (∀ u,Calls prog 280 #[Fe a,qzI am] u fun e w'=>e=.returned (.bool (Ia a am))/\BW u w'):=fun u=>jN a am u F
 have A:Hid (E9 a day=true->a.day<=day/\day<=a.day+7):=fun h=>of_decide_eq_true h
 have z:Hid (Ia a am=true->1<=am/\am<=a.am+a.am / 10):=fun h=>of_decide_eq_true h
 rw [U,Bool.true_and] at b;clear U a5
 cases hu:a.used
 ·rw [hu,Bool.not_false,Bool.true_and] at b
  cases hi:(a.iss != k)
  ·have s:decide (a.iss=k)=true:=decide_eq_true (by simpa using hi)
   rw [s,Bool.true_and] at b
   cases hcu:(a.cur != j)
   ·have C:decide (a.cur=j)=true:=decide_eq_true (by simpa using hcu)
    rw [C,Bool.true_and] at b
    cases R:E9 a day
    ·have H:Hid (Co a k j am day = -1):=L.o (by rw [b,R];rfl)
     rw [R] at I;clear b L T R M A z s C;obtain ⟨r,i,c,m,d,u⟩:=a;unfold Fe at n I ⊢
     simp only at l n I hu hi hcu F D ⊢
     subst hu;have p:Hid _:=l;obtain ⟨f0,f1,f2,f3,f4,f5⟩:=B;clear l
     go_enter func251,ntmps251
     go_upto_region 1 with fail
     rw [<- p.o];go_wp2_with fail
     refine (n.o _).mono ?_;rintro e G ⟨rfl,g⟩;have J:=v.o.below g;have f:Hid (BW w G):=next y.o g;clear g f0 f1 f2 f3 f4 f5;obtain ⟨f0,f1,f2,f3,f4,f5⟩:=J
     simp only at f0 f1 f2 f3 f4 f5
     go_wp2_with fail
     refine (I.o _).mono ?_;rintro e Z ⟨rfl,S⟩;have N:Hid (BW w Z):=next f.o S;clear S f0 f1 f2 f3 f4 f5;go_wp2;go_ret;exact ⟨Af H.o.symm,N.o⟩
    ·rw [R,Bool.true_and] at b
     rw [R] at I;have a6:=A.o R
     cases hs:Ia a am
     ·have H:Hid (Co a k j am day = -1):=L.o (by rw [b,hs])
      rw [hs] at M;clear b L T R A z s C hs a6;obtain ⟨r,i,c,m,d,u⟩:=a;unfold Fe at n I M ⊢
      simp only at l n I M hu hi hcu F D ⊢
      subst hu;have p:Hid _:=l;obtain ⟨f0,f1,f2,f3,f4,f5⟩:=B;clear l
      go_enter func251,ntmps251
      go_upto_region 1 with fail
      rw [<- p.o];go_wp2_with fail
      refine (n.o _).mono ?_;rintro e G ⟨rfl,g⟩;have J:=v.o.below g;have O:Hid (Jo w.heap.size ⟨r,i,c,m,d,false⟩ G):=J;have f:Hid (BW w G):=next y.o g;clear g f0 f1 f2 f3 f4 f5;obtain ⟨f0,f1,f2,f3,f4,f5⟩:=J
      simp only at f0 f1 f2 f3 f4 f5
      go_wp2_with fail
      refine (I.o _).mono ?_;rintro e Z ⟨rfl,S⟩;have B2:=O.o.below S;have N:Hid (BW w Z):=next f.o S;clear S f0 f1 f2 f3 f4 f5;obtain ⟨f0,f1,f2,f3,f4,f5⟩:=B2
      simp only at f0 f1 f2 f3 f4 f5
      go_wp2_with fail
      refine (M.o _).mono ?_;rintro e u3 ⟨rfl,Y⟩;have V:Hid (BW w u3):=next N.o Y;clear Y f0 f1 f2 f3 f4 f5;go_wp2;go_ret;exact ⟨Af H.o.symm,V.o⟩
     ·have a8:=z.o hs
      have H:Hid (Co a k j am day=8*max (am - a.am) (-(am - a.am))+day - a.day):=by rw [Hid,T.o (by rw [b,hs]),pK]
      rw [hs] at M
      have a7:0<=max (am - a.am) (-(am - a.am))/\max (am - a.am) (-(am - a.am))<=100000000000:=by omega
      clear b L T R A z s C hs;obtain ⟨r,i,c,m,d,u⟩:=a;unfold Fe at n I M ⊢
      simp only at l n I M hu hi hcu F D a6 a8 H a7 ⊢
      subst hu;have p:Hid _:=l;obtain ⟨f0,f1,f2,f3,f4,f5⟩:=B;clear l
      go_enter func251,ntmps251
      go_upto_region 1 with fail
      rw [<- p.o];go_wp2_with fail
      refine (n.o _).mono ?_;rintro e G ⟨rfl,g⟩;have J:=v.o.below g;have O:Hid (Jo w.heap.size ⟨r,i,c,m,d,false⟩ G):=J;have f:Hid (BW w G):=next y.o g;clear g f0 f1 f2 f3 f4 f5;obtain ⟨f0,f1,f2,f3,f4,f5⟩:=J
      simp only at f0 f1 f2 f3 f4 f5
      go_wp2_with fail
      refine (I.o _).mono ?_;rintro e Z ⟨rfl,S⟩;have B2:=O.o.below S;have a3:Hid (Jo w.heap.size ⟨r,i,c,m,d,false⟩ Z):=B2;have N:Hid (BW w Z):=next f.o S;clear S f0 f1 f2 f3 f4 f5;obtain ⟨f0,f1,f2,f3,f4,f5⟩:=B2
      simp only at f0 f1 f2 f3 f4 f5
      go_wp2_with fail
      refine (M.o _).mono ?_;rintro e u3 ⟨rfl,Y⟩;have B3:=a3.o.below Y;have V:Hid (BW w u3):=next N.o Y;clear Y f0 f1 f2 f3 f4 f5;obtain ⟨f0,f1,f2,f3,f4,f5⟩:=B3
      simp only at f0 f1 f2 f3 f4 f5
      go_wp2;go_ret;exact ⟨Af H.o.symm,V.o⟩
   ·have C:decide (a.cur=j)=false:=decide_eq_false (by simpa using hcu)
    have H:Hid (Co a k j am day = -1):=L.o (by rw [b,C];rfl)
    clear b L T I M A z s C;obtain ⟨r,i,c,m,d,u⟩:=a;unfold Fe at n ⊢
    simp only at l n hu hi hcu F D ⊢
    subst hu;have p:Hid _:=l;obtain ⟨f0,f1,f2,f3,f4,f5⟩:=B;clear l
    go_enter func251,ntmps251
    go_upto_region 1 with fail
    rw [<- p.o];go_wp2_with fail
    refine (n.o _).mono ?_;rintro e G ⟨rfl,g⟩;have J:=v.o.below g;have f:Hid (BW w G):=next y.o g;clear g f0 f1 f2 f3 f4 f5;obtain ⟨f0,f1,f2,f3,f4,f5⟩:=J
    simp only at f0 f1 f2 f3 f4 f5
    go_wp2;go_ret;exact ⟨Af H.o.symm,f.o⟩
  ·have s:decide (a.iss=k)=false:=decide_eq_false (by simpa using hi)
   have H:Hid (Co a k j am day = -1):=L.o (by rw [b,s];rfl)
   clear b L T I M A z s;obtain ⟨r,i,c,m,d,u⟩:=a;unfold Fe at n ⊢
   simp only at l n hu hi F D ⊢
   subst hu;have p:Hid _:=l;obtain ⟨f0,f1,f2,f3,f4,f5⟩:=B;clear l
   go_enter func251,ntmps251
   go_upto_region 1 with fail
   rw [<- p.o];go_wp2_with fail
   refine (n.o _).mono ?_;rintro e G ⟨rfl,g⟩;have J:=v.o.below g;have f:Hid (BW w G):=next y.o g;clear g f0 f1 f2 f3 f4 f5;obtain ⟨f0,f1,f2,f3,f4,f5⟩:=J
   simp only at f0 f1 f2 f3 f4 f5
   go_wp2;go_ret;exact ⟨Af H.o.symm,f.o⟩
 ·have H:Hid (Co a k j am day = -1):=L.o (by rw [b,hu];rfl)
  clear b L T I M A z;obtain ⟨r,i,c,m,d,u⟩:=a;unfold Fe at n ⊢
  simp only at l n hu F D ⊢
  subst hu;have p:Hid _:=l;obtain ⟨f0,f1,f2,f3,f4,f5⟩:=B;clear l
  go_enter func251,ntmps251
  go_upto_region 1 with fail
  rw [<- p.o];go_wp2_with fail
  refine (n.o _).mono ?_;rintro e G ⟨rfl,g⟩;have J:=v.o.below g;have f:Hid (BW w G):=next y.o g;clear g f0 f1 f2 f3 f4 f5;obtain ⟨f0,f1,f2,f3,f4,f5⟩:=J
  simp only at f0 f1 f2 f3 f4 f5
  go_wp2;go_ret;exact ⟨Af H.o.symm,f.o⟩
theorem X6 (a:Au) (p n am day:Int) (w:World) (hl:a.ref.length<=1099511627776) (_w3:(Lit.int .i64 am).wf=true) (w4:(Lit.int .i64 day).wf=true) :
  Calls prog 218 #[Fe a,qzI p,qzI n,qzI am,qzI day] w fun e w'=>e=.returned (qzI (Co a p n am day))/\BW w w':=by
 have a3:=cL w4;have l:=lP a p n am day;obtain ⟨q,U⟩:∃ q,Gy a=q:=⟨_,rfl⟩
 have k:Hid (∀ u,Calls prog 179 #[Fe a] u fun e w'=>e=.returned (.bool q)/\BW u w'):=fun u=>by rw [<- U];exact Pe a u hl
 have L:Hid (Xr a p n am day=false->Co a p n am day = -1):=Vt;have R:Hid (Xr a p n am day=true->Co a p n am day=8*Ue (am - a.am)+day - a.day):=Tj;obtain ⟨W,j⟩:∃ W,W=w.alloc (.cells #[.string ⟨a.ref.toArray⟩,qzI a.iss,qzI a.cur,qzI a.am,qzI a.day,.bool a.used] 107):=⟨_,rfl⟩
 have B:Jo w.heap.size a W:=by rw [j];exact Jo.new w a _
 have s:Hid (Jo w.heap.size a W):=B
 have bW:BW w W:=by rw [j];exact bR.alloc nL _
 have v:Hid (BW w W):=bW;clear bW _w3 w4
 cases q
 ·have x:Hid (Co a p n am day = -1):=L.o (by rw [l,U];rfl)
  clear l L R U;obtain ⟨r,i,c,m,d,u⟩:=a;unfold Fe at k ⊢
  simp only at j k  ⊢
  have D:Hid _:=j;obtain ⟨f0,f1,f2,f3,f4,f5⟩:=B;clear j
  go_enter func218,ntmps218
  go_upto_region 1 with fail
  rw [<- D.o];go_wp2_with fail
  refine (k.o _).mono ?_;rintro e I ⟨rfl,f⟩;have z:=s.o.below f;have b:Hid (BW w I):=next v.o f;clear f f0 f1 f2 f3 f4 f5;obtain ⟨f0,f1,f2,f3,f4,f5⟩:=z
  simp only at f0 f1 f2 f3 f4 f5
  go_wp2;go_ret;exact ⟨Af x.o.symm,b.o⟩
 obtain ⟨-,-,-,H,X⟩:=L0 U;have G:=Ei X
 have C:Hid (E9 a day=true->a.day<=day/\day<=a.day+7):=fun h=>of_decide_eq_true h
 have A:Hid (Ia a am=true->1<=am/\am<=a.am+a.am / 10):=fun h=>of_decide_eq_true h
 have M:Hid (∀ u,Calls prog 134 #[qzI day,qzI a.day,qzI (a.day+7)] u fun e w'=>e=.returned (.bool (E9 a day))/\w'=u):=fun u=>Dl day a.day (a.day+7) u
 have J:Hid (∀ u,Calls prog 134 #[qzI am,qzI 1,qzI (a.am+a.am / 10)] u fun e w'=>e=.returned (.bool (Ia a am))/\w'=u):=fun u=>Dl am 1 (a.am+a.am / 10) u
 have hq10:a.am.tdiv 10=a.am / 10:=Int.tdiv_eq_ediv_of_nonneg (by omega)
 rw [U,Bool.true_and] at l;clear U X
 cases hu:a.used
 ·rw [hu,Bool.not_false,Bool.true_and] at l
  cases hi:(a.iss != p)
  ·have y:decide (a.iss=p)=true:=decide_eq_true (by simpa using hi)
   rw [y,Bool.true_and] at l
   cases hcu:(a.cur != n)
   ·have F:decide (a.cur=n)=true:=decide_eq_true (by simpa using hcu)
    rw [F,Bool.true_and] at l
    cases ht:E9 a day
    ·have x:Hid (Co a p n am day = -1):=L.o (by rw [l,ht];rfl)
     rw [ht] at M;clear l L R ht J C A y F hq10;obtain ⟨r,i,c,m,d,u⟩:=a;unfold Fe at k ⊢
     simp only at j k M hu hi hcu H G ⊢
     subst hu;have D:Hid _:=j;obtain ⟨f0,f1,f2,f3,f4,f5⟩:=B;clear j
     go_enter func218,ntmps218
     go_upto_region 1 with fail
     rw [<- D.o];go_wp2_with fail
     refine (k.o _).mono ?_;rintro e I ⟨rfl,f⟩;have z:=s.o.below f;have b:Hid (BW w I):=next v.o f;clear f f0 f1 f2 f3 f4 f5;obtain ⟨f0,f1,f2,f3,f4,f5⟩:=z
     simp only at f0 f1 f2 f3 f4 f5
     go_wp2_with fail
     refine (M.o _).mono ?_;rintro e V ⟨rfl,g⟩;subst g;go_wp2;go_ret;exact ⟨Af x.o.symm,b.o⟩
    ·rw [ht,Bool.true_and] at l
     rw [ht] at M;have T:=C.o ht
     cases hs:Ia a am
     ·have x:Hid (Co a p n am day = -1):=L.o (by rw [l,hs])
      rw [hs] at J;clear l L R ht C A y F hs T;obtain ⟨Y,N⟩:∃ t,a.am / 10=t:=⟨_,rfl⟩
      have Z:0<=Y/\Y<=10000000000:=by omega
      rw [N] at J hq10;clear N;obtain ⟨r,i,c,m,d,u⟩:=a;unfold Fe at k ⊢
      simp only at j k M J hu hi hcu H G hq10 ⊢
      subst hu;have D:Hid _:=j;obtain ⟨f0,f1,f2,f3,f4,f5⟩:=B;clear j
      go_enter func218,ntmps218
      go_upto_region 1 with fail
      rw [<- D.o];go_wp2_with fail
      refine (k.o _).mono ?_;rintro e I ⟨rfl,f⟩;have z:=s.o.below f;have b:Hid (BW w I):=next v.o f;clear f f0 f1 f2 f3 f4 f5;obtain ⟨f0,f1,f2,f3,f4,f5⟩:=z
      simp only at f0 f1 f2 f3 f4 f5
      go_wp2_with fail
      refine (M.o _).mono ?_;rintro e V ⟨rfl,g⟩;subst g;go_wp2_with fail
      refine (J.o _).mono ?_;rintro e V ⟨rfl,g⟩;subst g;go_wp2;go_ret;exact ⟨Af x.o.symm,b.o⟩
     ·have S:=A.o hs
      rw [hs] at J
      have O:Hid (Co a p n am day=8*Ue (am - a.am)+day - a.day):=by rw [Hid,R.o (by rw [l,hs])]
      clear l L R ht C A y F hs;obtain ⟨Y,N⟩:∃ t,a.am / 10=t:=⟨_,rfl⟩
      have Z:0<=Y/\Y<=10000000000:=by omega
      rw [N] at J hq10 S;clear N
      by_cases hng:am - a.am<0
      ·have x:Hid (Co a p n am day=8 * (-(am - a.am))+day - a.day):=by rw [Hid,O.o,Ue,if_pos hng]
       clear O;obtain ⟨r,i,c,m,d,u⟩:=a;unfold Fe at k ⊢
       simp only at j k M J x hu hi hcu H G T S hq10 hng ⊢
       subst hu;have D:Hid _:=j;obtain ⟨f0,f1,f2,f3,f4,f5⟩:=B;clear j
       go_enter func218,ntmps218
       go_upto_region 1 with fail
       rw [<- D.o];go_wp2_with fail
       refine (k.o _).mono ?_;rintro e I ⟨rfl,f⟩;have z:=s.o.below f;have b:Hid (BW w I):=next v.o f;clear f f0 f1 f2 f3 f4 f5;obtain ⟨f0,f1,f2,f3,f4,f5⟩:=z
       simp only at f0 f1 f2 f3 f4 f5
       go_wp2_with fail
       refine (M.o _).mono ?_;rintro e V ⟨rfl,g⟩;subst g;go_wp2_with fail
       refine (J.o _).mono ?_;rintro e V ⟨rfl,g⟩;subst g;go_wp2;go_ret;exact ⟨Af x.o.symm,b.o⟩
      ·have x:Hid (Co a p n am day=8 * (am - a.am)+day - a.day):=by rw [Hid,O.o,Ue,if_neg hng]
       clear O;obtain ⟨r,i,c,m,d,u⟩:=a;unfold Fe at k ⊢
       simp only at j k M J x hu hi hcu H G T S hq10 hng ⊢
       subst hu;have D:Hid _:=j;obtain ⟨f0,f1,f2,f3,f4,f5⟩:=B;clear j
       go_enter func218,ntmps218
       go_upto_region 1 with fail
       rw [<- D.o];go_wp2_with fail
       refine (k.o _).mono ?_;rintro e I ⟨rfl,f⟩;have z:=s.o.below f;have b:Hid (BW w I):=next v.o f;clear f f0 f1 f2 f3 f4 f5;obtain ⟨f0,f1,f2,f3,f4,f5⟩:=z
       simp only at f0 f1 f2 f3 f4 f5
       go_wp2_with fail
       refine (M.o _).mono ?_;rintro e V ⟨rfl,g⟩;subst g;go_wp2_with fail
       refine (J.o _).mono ?_;rintro e V ⟨rfl,g⟩;subst g;go_wp2;go_ret;exact ⟨Af x.o.symm,b.o⟩
   ·have F:decide (a.cur=n)=false:=decide_eq_false (by simpa using hcu)
    have x:Hid (Co a p n am day = -1):=L.o (by rw [l,F];rfl)
    clear l L R M J C A y F hq10;obtain ⟨r,i,c,m,d,u⟩:=a;unfold Fe at k ⊢
    simp only at j k hu hi hcu H G ⊢
    subst hu;have D:Hid _:=j;obtain ⟨f0,f1,f2,f3,f4,f5⟩:=B;clear j
    go_enter func218,ntmps218
    go_upto_region 1 with fail
    rw [<- D.o];go_wp2_with fail
    refine (k.o _).mono ?_;rintro e I ⟨rfl,f⟩;have z:=s.o.below f;have b:Hid (BW w I):=next v.o f;clear f f0 f1 f2 f3 f4 f5;obtain ⟨f0,f1,f2,f3,f4,f5⟩:=z
    simp only at f0 f1 f2 f3 f4 f5
    go_wp2;go_ret;exact ⟨Af x.o.symm,b.o⟩
  ·have y:decide (a.iss=p)=false:=decide_eq_false (by simpa using hi)
   have x:Hid (Co a p n am day = -1):=L.o (by rw [l,y];rfl)
   clear l L R M J C A y hq10;obtain ⟨r,i,c,m,d,u⟩:=a;unfold Fe at k ⊢
   simp only at j k hu hi H G ⊢
   subst hu;have D:Hid _:=j;obtain ⟨f0,f1,f2,f3,f4,f5⟩:=B;clear j
   go_enter func218,ntmps218
   go_upto_region 1 with fail
   rw [<- D.o];go_wp2_with fail
   refine (k.o _).mono ?_;rintro e I ⟨rfl,f⟩;have z:=s.o.below f;have b:Hid (BW w I):=next v.o f;clear f f0 f1 f2 f3 f4 f5;obtain ⟨f0,f1,f2,f3,f4,f5⟩:=z
   simp only at f0 f1 f2 f3 f4 f5
   go_wp2;go_ret;exact ⟨Af x.o.symm,b.o⟩
 ·have x:Hid (Co a p n am day = -1):=L.o (by rw [l,hu];rfl)
  clear l L R M J C A hq10;obtain ⟨r,i,c,m,d,u⟩:=a;unfold Fe at k ⊢
  simp only at j k hu H G ⊢
  subst hu;have D:Hid _:=j;obtain ⟨f0,f1,f2,f3,f4,f5⟩:=B;clear j
  go_enter func218,ntmps218
  go_upto_region 1 with fail
  rw [<- D.o];go_wp2_with fail
  refine (k.o _).mono ?_;rintro e I ⟨rfl,f⟩;have z:=s.o.below f;have b:Hid (BW w I):=next v.o f;clear f f0 f1 f2 f3 f4 f5;obtain ⟨f0,f1,f2,f3,f4,f5⟩:=z
  simp only at f0 f1 f2 f3 f4 f5
  go_wp2;go_ret;exact ⟨Af x.o.symm,b.o⟩
def scA (az:List Au) (b a am day:Int) (k:Nat):Int:=Co (Ak az k) b a am day
def Gm (az:List Au) (b a am day x:Int):Prop:=(az.length<=100/\Io (scA az b a am day) az.length x)\/(100<az.length/\x = -1)
theorem Zr {az:List Au} {b a am day x y:Int} (h:Gm az b a am day x) (g:Gm az b a am day y):x=y:=by
 rcases h with ⟨d,h⟩ | ⟨d,rfl⟩
 ·rcases g with ⟨_,g⟩ | ⟨c,_⟩
  ·exact kD h g
  ·omega
 ·rcases g with ⟨c,_⟩ | ⟨_,rfl⟩
  ·omega
  ·rfl
theorem eR (ao:Option Addr) (cap:Nat) (az:List Au) (F D am day:Int) (w:World) (hz:Ar w ao az) (hn:az.length<=1048576) (hd:∀ a ∈ az,a.ref.length<=1099511627776) (w3:(Lit.int .i64 am).wf=true) (w4:(Lit.int .i64 day).wf=true) :
  Calls prog 180 #[.slice ao az.length cap,qzI F,qzI D,qzI am,qzI day] w fun e w'=>∃ x,e=.returned (qzI x)/\Gm az F D am day x/\BW w w':=by
 by_cases hb:100<az.length
 ·have R:(100:Int)<(az.length:Int):=by omega
  have h0:(0:Int)<(az.length:Int):=by omega
  go_enter func180,ntmps180
  go_wp2;refine wp_loop_rounds 1 ?_;rw [rounds_succ];go_wp2;go_ret;exact ⟨_,rfl,.inr ⟨hb,rfl⟩,bR⟩
 have R:(az.length:Int)<=100:=by omega
 have I:Hid (∀ k,k<az.length->∀ u,Calls prog 218 #[Fe (Ak az k),qzI F,qzI D,qzI am,qzI day] u fun e w'=>e=.returned (qzI (scA az F D am day k))/\BW u w'):=fun k S u=>X6 _ F D am day u (hd _ (J8 S)) w3 w4
 obtain ⟨g,H⟩:∃ f,scA az F D am day=f:=⟨_,rfl⟩
 have O:Hid (∀ x,Io g az.length x->Gm az F D am day x):=fun x L=>.inl ⟨by omega,by rw [H];exact L⟩
 rw [H] at I;clear H hd w3 w4
 go_enter func180,ntmps180
 go_wp2
 go_loopw [11,12,13,14] (fun b t i _ wr=>∃ (k:Nat) (x y:Int),k<=az.length/\i=qzI k/\t=qzI x/\b=qzI y/\Io g k x/\(x = -1\/∃ j:Nat,x=(j:Int)/\y=g j)/\BW w wr) (fun _ _ i _ _=>az.length - (intOf i).toNat)
 case atStart=>exact ⟨0,-1,-1,Nat.zero_le _,rfl,rfl,rfl,.inl ⟨rfl,fun k S=>by omega⟩,.inl rfl,bR⟩
 case round =>
  obtain ⟨k,x,y,S,rfl,rfl,rfl,A,M,h⟩:=hrel;have v:Hid (Io g k x):=A;have N:Hid (BW w wr):=h;have J:Hid (x = -1\/∃ j:Nat,x=(j:Int)/\y=g j):=M;clear A M
  by_cases hlt:k<az.length
  ·rcases hz with h0 | ⟨b,off,rfl,q,B⟩
   ·rw [h0] at hlt;simp at hlt
   have n:Hid (∀ i,i<az.length->w.cell? (qzA b (off+i*6))=some (.string ⟨(Ak az i).ref.toArray⟩)/\w.cell? (qzA b (off+i*6+1))=some (qzI (Ak az i).iss)/\w.cell? (qzA b (off+i*6+2))=some (qzI (Ak az i).cur)/\w.cell? (qzA b (off+i*6+3))=some (qzI (Ak az i).am)/\w.cell? (qzA b (off+i*6+4))=some (qzI (Ak az i).day)/\w.cell? (qzA b (off+i*6+5))=some (.bool (Ak az i).used)):=B;have U:wr.cell? (qzA b (off+k*6))=some (.string ⟨(Ak az k).ref.toArray⟩):=(h.cell (p:=(qzA b (off+k*6))) q).trans (n.o k hlt).1;have V:wr.cell? (qzA b (off+k*6+1))=some (qzI (Ak az k).iss):=(h.cell (p:=(qzA b (off+k*6+1))) q).trans (n.o k hlt).2.1;have W:wr.cell? (qzA b (off+k*6+2))=some (qzI (Ak az k).cur):=(h.cell (p:=(qzA b (off+k*6+2))) q).trans (n.o k hlt).2.2.1;have X:wr.cell? (qzA b (off+k*6+3))=some (qzI (Ak az k).am):=(h.cell (p:=(qzA b (off+k*6+3))) q).trans (n.o k hlt).2.2.2.1;have Y:wr.cell? (qzA b (off+k*6+4))=some (qzI (Ak az k).day):=(h.cell (p:=(qzA b (off+k*6+4))) q).trans (n.o k hlt).2.2.2.2.1;have Z:wr.cell? (qzA b (off+k*6+5))=some (.bool (Ak az k).used):=(h.cell (p:=(qzA b (off+k*6+5))) q).trans (n.o k hlt).2.2.2.2.2
   have a4:(k:Int)<(az.length:Int):=by omega
   have z:Hid (∀ u,Calls prog 218 #[Fe (Ak az k),qzI F,qzI D,qzI am,qzI day] u fun e w'=>e=.returned (qzI (g k))/\BW u w'):=I.o k hlt
   obtain ⟨⟨r,i,c,m,d,u⟩,hf⟩:∃ a,Ak az k=a:=⟨_,rfl⟩;rw [hf] at U V W X Y Z z;unfold Fe at z
   simp only at U V W X Y Z z
   clear hf B h;go_wp2_with fail
   refine (z.o _).mono ?_;rintro e u2 ⟨rfl,b2⟩;have C:Hid (BW w u2):=N.o.trans (b2.mono N.o.size);clear b2 U V W X Y Z z
   by_cases hs:0<=g k
   ·rcases J.o with L | ⟨j,L,hy⟩
    ·subst L
     have G:Hid (Io g (k+1) (k:Int)):=Yv v.o hs;have l:Hid (∃ j:Nat,(k:Int)=(j:Int)/\g k=g j):=⟨k,rfl,rfl⟩
     generalize g k=s at hs l
     go_wp2
     go_roundw
     case rel=>exact ⟨k+1,k,s,by omega,by go_num,rfl,rfl,G.o,.inr l.o,C.o⟩
     case measure=>simp [intOf];omega
    ·subst L
     have a3:¬ (j:Int)<0:=by omega
     by_cases hl:g k<y
     ·have G:Hid (Io g (k+1) (k:Int)):=mK v.o hs (by rw [<- hy];exact hl)
      have l:Hid (∃ j:Nat,(k:Int)=(j:Int)/\g k=g j):=⟨k,rfl,rfl⟩;clear hy
      generalize g k=s at hs l hl
      go_wp2
      go_roundw
      case rel=>exact ⟨k+1,k,s,by omega,by go_num,rfl,rfl,G.o,.inr l.o,C.o⟩
      case measure=>simp [intOf];omega
     ·have G:Hid (Io g (k+1) (j:Int)):=jH v.o (by rw [<- hy];exact hl)
      have l:Hid (∃ i:Nat,(j:Int)=(i:Int)/\y=g i):=⟨j,rfl,hy⟩;clear hy
      generalize g k=s at hs hl
      go_wp2
      go_roundw
      case rel=>exact ⟨k+1,j,y,by omega,by go_num,rfl,rfl,G.o,.inr l.o,C.o⟩
      case measure=>simp [intOf];omega
   ·have G:Hid (Io g (k+1) x):=gK v.o (by omega)
    generalize g k=s at hs
    go_wp2
    go_roundw
    case rel=>exact ⟨k+1,x,y,by omega,by go_num,rfl,rfl,G.o,J.o,C.o⟩
    case measure=>simp [intOf];omega
  ·have T:k=az.length:=by omega
   subst T;have HR:Hid (Gm az F D am day x):=O.o _ v.o;go_wp2;go_ret;exact ⟨_,rfl,HR.o,N.o⟩
namespace Kb
theorem mZ {l:List UInt8} (h:∀ c ∈ l,c≠32):∀ i,i<=l.length->B0 l i=([],0):=by
 intro i
 induction i with
 | zero=>intro _;rfl
 | succ i g =>
  intro hi
  have hg:l.getD i 0=l[i]:=by
   rw [List.getD_eq_getElem?_getD,List.getElem?_eq_getElem (by omega)];rfl
  rw [J7 (by rw [hg];exact h _ (List.getElem_mem _))]
  exact g (by omega)
theorem words_none {l:List UInt8} (h:∀ c ∈ l,c≠32):Ab l=[l]:=by
 rw [Ab,mZ h _ nL];rfl
theorem Zx {x r:List UInt8} (d:∀ c ∈ x,c≠32):∀ i,i<=x.length->B0 (x++32::r) i=([],0):=by
 intro i
 induction i with
 | zero=>intro _;rfl
 | succ i g =>
  intro hi
  have hg:(x++32::r).getD i 0=x[i]:=by
   rw [List.getD_eq_getElem?_getD,List.getElem?_append_left (by omega),List.getElem?_eq_getElem (by omega)]
   rfl
  rw [J7 (by rw [hg];exact d _ (List.getElem_mem _))]
  exact g (by omega)
theorem cX (x r:List UInt8) (s:Nat):(x++32::r).drop (x.length+1+s)=r.drop s:=by
 rw [List.drop_append,List.drop_of_length_le (by omega),List.nil_append,show x.length+1+s - x.length=s+1 from by omega]
 rfl
theorem Yo {x r:List UInt8} (d:∀ c ∈ x,c≠32):∀ j,j<=r.length->B0 (x++32::r) (x.length+1+j)=(x::(B0 r j).1,x.length+1+(B0 r j).2):=by
 intro j
 induction j with
 | zero =>
  intro _
  have hg:(x++32::r).getD x.length 0=32:=by simp [List.getD_eq_getElem?_getD]
  show B0 (x++32::r) (x.length+1)=_
  rw [Kw hg,Zx d _ nL]
  simp [B0]
 | succ j g =>
  intro z
  have h:=g (by omega)
  have hg:(x++32::r).getD (x.length+1+j) 0=r.getD j 0:=by
   rw [List.getD_eq_getElem?_getD,List.getElem?_append_right (by omega),show x.length+1+j - x.length=j+1 from by omega]
   simp [List.getD_eq_getElem?_getD]
  have v:=(Mo r j).1
  by_cases h32:r.getD j 0=32
  ·rw [show x.length+1+(j+1)=(x.length+1+j)+1 from by omega,Kw (by rw [hg];exact h32),h,Kw h32]
   simp only [List.cons_append]
   rw [cX,show x.length+1+j - (x.length+1+(B0 r j).2)=j - (B0 r j).2 from by omega]
   rfl
  ·rw [show x.length+1+(j+1)=(x.length+1+j)+1 from by omega,J7 (by rw [hg];exact h32),h,J7 h32]
theorem words_consK {x r:List UInt8} (d:∀ c ∈ x,c≠32):Ab (x++32::r)=x::Ab r:=by
 have h:=Yo d (r:=r) r.length nL
 have hl:(x++32::r).length=x.length+1+r.length:=by simp;omega
 rw [Ab,hl,h,Ab]
 simp only [List.cons_append]
 rw [cX]
theorem Yf {c:UInt8} : ∀ {l:List UInt8},(∀ x ∈ l,x≠c)->Lib.indexByte l c = -1
 | [],_=>rfl
 | b::l,h=>by
  have hb:(b == c)=false:=by simpa using h b (by simp)
  rw [Lib.indexByte,hb,Yf (fun x d=>h x (by simp [d]))]
  simp
theorem Og {c:UInt8} {r:List UInt8} : ∀ {x:List UInt8},(∀ y ∈ x,y≠c)->Lib.indexByte (x++c::r) c=x.length
 | [],_=>by simp [Lib.indexByte]
 | b::l,h=>by
  have hb:(b == c)=false:=by simpa using h b (by simp)
  have g:=Og (r:=r) (x:=l) (fun y hy=>h y (by simp [hy]))
  rw [List.cons_append,Lib.indexByte,hb,g]
  have:¬ ((l.length:Int) = -1):=by omega
  simp [this]
theorem Ok:∀ (n:Nat) (l:List UInt8),l.length<=n->Lib.splitK [32] 0 (l.count 32) l=Ab l
 | 0,l,h=>by
  have:l=[]:=List.eq_nil_of_length_eq_zero (by omega)
  subst this
  rw [words_none (fun c f=>by cases f)]
  rfl
 | n+1,l,h=>by
  by_cases o:(32:UInt8) ∈ l
  ·obtain ⟨x,r,rfl,d⟩:=List.eq_append_cons_of_mem o
   have p:∀ c ∈ x,c≠32:=fun c f e=>d (e ▸ f)
   have q:x.count 32=0:=List.count_eq_zero.2 d
   have f:(x++32::r).count 32=r.count 32+1:=by
    rw [List.count_append,q,List.count_cons_self];omega
   have hi:Lib.index (x++32::r) [32]=(x.length:Int):=by rw [Lib.index_one,Og p]
   rw [f,Lib.splitK,hi,if_neg (by simp),words_consK p]
   have e1:(x++32::r).take ((x.length:Int).toNat+0)=x:=by simp
   have e2:(x++32::r).drop ((x.length:Int).toNat+[(32:UInt8)].length)=r:=by simp
   rw [e1,e2,Ok n r (by simp at h;omega)]
  ·have d:∀ c ∈ l,c≠32:=fun c f e=>o (e ▸ f)
   rw [List.count_eq_zero.2 o,words_none d]
   rfl
theorem jP (l:List UInt8):((Lib.splitB ⟨#[32]⟩ 0 (Lib.countB ⟨l.toArray⟩ ⟨#[32]⟩) ⟨l.toArray⟩).map Value.string)=Am (Ab l)/\Lib.countB ⟨l.toArray⟩ ⟨#[32]⟩+1=(Ab l).length:=by
 have f:Lib.countB ⟨l.toArray⟩ ⟨#[32]⟩=l.count 32:=by
  show Lib.count l.toArray.toList [32]=l.count 32
  rw [Lib.count_one]
 have hd:=Lib.splitB_data ⟨#[32]⟩ 0 (l.count 32) ⟨l.toArray⟩
 have k:(Lib.splitB ⟨#[32]⟩ 0 (l.count 32) ⟨l.toArray⟩).map (·.data.toList)=Ab l:=by
  rw [hd];exact Ok l.length l nL
 have hl:=Lib.splitB_all ⟨#[32]⟩ (by decide) 0 (l.count 32) ⟨l.toArray⟩ f
 rw [f]
 constructor
 ·rw [<- k,Am,List.map_map]
  apply List.map_congr_left;intro s _
  simp [Py]
 ·rw [<- k,List.length_map,hl]
theorem qS (l:List UInt8) (m:Int) (w:World) (hl:l.length<=1048576) (o:w.cell? (qzA 10 0)=some (qzI m)) :
  Calls prog 66 #[.string ⟨l.toArray⟩,.string ⟨#[32]⟩] w fun e w'=>∃ a,e=.returned (.slice a (Ab l).length (Ab l).length)/\Bh w' a (Ab l)/\BW w w':=by
 obtain ⟨t,u⟩:=jP l
 have hs:(⟨l.toArray⟩:ByteArray).size<4294967281:=by
  show l.toArray.size<_
  rw [List.size_toArray];omega
 refine (strings_Split ⟨l.toArray⟩ ⟨#[32]⟩ m w hs o (by decide)).mono ?_
 rintro e w' ⟨rfl,rfl⟩;rw [t,u]
 refine ⟨some ⟨w.heap.size,0,none⟩,rfl,.inr ⟨w.heap.size,0,rfl,by simp,fun i hi=>?_⟩,bR.alloc nL _⟩
 have:=Hd (Ab l) i hi
 simpa [go_sem] using this
def scanN (l:List UInt8):Nat->Be×Nat
 | 0=>([],0)
 | i+1=>if l.getD i 0=10 then ((scanN l i).1++[(l.drop (scanN l i).2).take (i - (scanN l i).2)],i+1) else scanN l i
theorem scanN_le (l:List UInt8):∀ i,(scanN l i).2<=i/\(scanN l i).1.length<=i
 | 0=>⟨nL,nL⟩
 | i+1=>by
  have:=scanN_le l i
  unfold scanN
  split
  ·refine ⟨nL,?_⟩
   simp;omega
  ·omega
theorem scanN_yes {l:List UInt8} {i:Nat} (h:l.getD i 0=10):scanN l (i+1)=((scanN l i).1++[(l.drop (scanN l i).2).take (i - (scanN l i).2)],i+1):=by rw [scanN,if_pos h]
theorem scanN_no {l:List UInt8} {i:Nat} (h:l.getD i 0≠10):scanN l (i+1)=scanN l i:=by rw [scanN,if_neg h]
theorem tU (l:List UInt8):∀ i,i<=l.length->∀ r ∈ (scanN l i).1,r.length<l.length
 | 0,_=>fun r h=>nomatch h
 | i+1,hi=>fun r h=>by
  unfold scanN at h
  split at h
  ·rcases List.mem_append.1 h with h | h
   ·exact tU l i (by omega) r h
   ·rw [List.mem_singleton.1 h];simp;omega
  ·exact tU l i (by omega) r h
def linesN (l:List UInt8):Be:=(scanN l l.length).1
def Aes (l:List UInt8):List UInt8:=l.drop (scanN l l.length).2
theorem zJ (l:List UInt8):(linesN l).length<=l.length:=(scanN_le l l.length).2
theorem wN (l:List UInt8):∀ r ∈ linesN l,r.length<l.length:=tU l l.length nL
def Y9 (l:List UInt8):Be:=(scanN l l.length).1++[l.drop (scanN l l.length).2]
theorem Ab2 {l:List UInt8} (h:∀ c ∈ l,c≠10):∀ i,i<=l.length->scanN l i=([],0):=by
 intro i
 induction i with
 | zero=>intro _;rfl
 | succ i ih =>
  intro hi
  have hg:l.getD i 0=l[i]:=by
   rw [List.getD_eq_getElem?_getD,List.getElem?_eq_getElem (by omega)];rfl
  rw [scanN_no (by rw [hg];exact h _ (List.getElem_mem _))]
  exact ih (by omega)
theorem vD {l:List UInt8} (h:∀ c ∈ l,c≠10):Y9 l=[l]:=by
 rw [Y9,Ab2 h _ nL];rfl
theorem xM {x r:List UInt8} (d:∀ c ∈ x,c≠10):∀ i,i<=x.length->scanN (x++10::r) i=([],0):=by
 intro i
 induction i with
 | zero=>intro _;rfl
 | succ i ih =>
  intro hi
  have hg:(x++10::r).getD i 0=x[i]:=by
   rw [List.getD_eq_getElem?_getD,List.getElem?_append_left (by omega),List.getElem?_eq_getElem (by omega)]
   rfl
  rw [scanN_no (by rw [hg];exact d _ (List.getElem_mem _))]
  exact ih (by omega)
theorem yC (x r:List UInt8) (s:Nat):(x++10::r).drop (x.length+1+s)=r.drop s:=by
 rw [List.drop_append,List.drop_of_length_le (by omega),List.nil_append,show x.length+1+s - x.length=s+1 from by omega]
 rfl
theorem xO {x r:List UInt8} (d:∀ c ∈ x,c≠10):∀ j,j<=r.length->scanN (x++10::r) (x.length+1+j)=(x::(scanN r j).1,x.length+1+(scanN r j).2):=by
 intro j
 induction j with
 | zero =>
  intro _
  have hg:(x++10::r).getD x.length 0=10:=by simp [List.getD_eq_getElem?_getD]
  show scanN (x++10::r) (x.length+1)=_
  rw [scanN_yes hg,xM d _ nL]
  simp [scanN]
 | succ j ih =>
  intro u
  have h:=ih (by omega)
  have hg:(x++10::r).getD (x.length+1+j) 0=r.getD j 0:=by
   rw [List.getD_eq_getElem?_getD,List.getElem?_append_right (by omega),show x.length+1+j - x.length=j+1 from by omega]
   simp [List.getD_eq_getElem?_getD]
  have t:=(scanN_le r j).1
  by_cases h10:r.getD j 0=10
  ·rw [show x.length+1+(j+1)=(x.length+1+j)+1 from by omega,scanN_yes (by rw [hg];exact h10),h,scanN_yes h10]
   simp only [List.cons_append]
   rw [yC,show x.length+1+j - (x.length+1+(scanN r j).2)=j - (scanN r j).2 from by omega]
   rfl
  ·rw [show x.length+1+(j+1)=(x.length+1+j)+1 from by omega,scanN_no (by rw [hg];exact h10),h,scanN_no h10]
theorem wM {x r:List UInt8} (d:∀ c ∈ x,c≠10):Y9 (x++10::r)=x::Y9 r:=by
 have h:=xO d (r:=r) r.length nL
 have hl:(x++10::r).length=x.length+1+r.length:=by simp;omega
 rw [Y9,hl,h,Y9]
 simp only [List.cons_append]
 rw [yC]
theorem uP:∀ (n:Nat) (l:List UInt8),l.length<=n->Lib.splitK [10] 0 (l.count 10) l=Y9 l
 | 0,l,h=>by
  have:l=[]:=List.eq_nil_of_length_eq_zero (by omega)
  subst this
  rw [vD (fun c b=>by cases b)]
  rfl
 | n+1,l,h=>by
  by_cases g:(10:UInt8) ∈ l
  ·obtain ⟨x,r,rfl,d⟩:=List.eq_append_cons_of_mem g
   have k:∀ c ∈ x,c≠10:=fun c b e=>d (e ▸ b)
   have o:x.count 10=0:=List.count_eq_zero.2 d
   have b:(x++10::r).count 10=r.count 10+1:=by
    rw [List.count_append,o,List.count_cons_self];omega
   have hi:Lib.index (x++10::r) [10]=(x.length:Int):=by rw [Lib.index_one,Og k]
   rw [b,Lib.splitK,hi,if_neg (by simp),wM k]
   have e1:(x++10::r).take ((x.length:Int).toNat+0)=x:=by simp
   have e2:(x++10::r).drop ((x.length:Int).toNat+[(10:UInt8)].length)=r:=by simp
   rw [e1,e2,uP n r (by simp at h;omega)]
  ·have d:∀ c ∈ l,c≠10:=fun c b e=>g (e ▸ b)
   rw [List.count_eq_zero.2 g,vD d]
   rfl
theorem Aab (l:List UInt8):((Lib.splitB ⟨#[10]⟩ 0 (Lib.countB ⟨l.toArray⟩ ⟨#[10]⟩) ⟨l.toArray⟩).map Value.string)=Am (Y9 l)/\Lib.countB ⟨l.toArray⟩ ⟨#[10]⟩+1=(Y9 l).length:=by
 have b:Lib.countB ⟨l.toArray⟩ ⟨#[10]⟩=l.count 10:=by
  show Lib.count l.toArray.toList [10]=l.count 10
  rw [Lib.count_one]
 have hd:=Lib.splitB_data ⟨#[10]⟩ 0 (l.count 10) ⟨l.toArray⟩
 have f:(Lib.splitB ⟨#[10]⟩ 0 (l.count 10) ⟨l.toArray⟩).map (·.data.toList)=Y9 l:=by
  rw [hd];exact uP l.length l nL
 have hl:=Lib.splitB_all ⟨#[10]⟩ (by decide) 0 (l.count 10) ⟨l.toArray⟩ b
 rw [b]
 constructor
 ·rw [<- f,Am,List.map_map]
  apply List.map_congr_left;intro s _
  simp [Py]
 ·rw [<- f,List.length_map,hl]
theorem Adr (l:List UInt8) (m:Int) (w:World) (hl:l.length<=1048576) (g:w.cell? (qzA 10 0)=some (qzI m)) :
  Calls prog 66 #[.string ⟨l.toArray⟩,.string ⟨#[10]⟩] w fun e w'=>∃ a,e=.returned (.slice a (Y9 l).length (Y9 l).length)/\Bh w' a (Y9 l)/\BW w w':=by
 obtain ⟨p,q⟩:=Aab l
 have hs:(⟨l.toArray⟩:ByteArray).size<4294967281:=by
  show l.toArray.size<_
  rw [List.size_toArray];omega
 refine (strings_Split ⟨l.toArray⟩ ⟨#[10]⟩ m w hs g (by decide)).mono ?_
 rintro e w' ⟨rfl,rfl⟩;rw [p,q]
 refine ⟨some ⟨w.heap.size,0,none⟩,rfl,.inr ⟨w.heap.size,0,rfl,by simp,fun i hi=>?_⟩,bR.alloc nL _⟩
 have:=Hd (Y9 l) i hi
 simpa [go_sem] using this
end Kb
end Go.Proofs.YtomiclakhjncbaaGreatDoor
