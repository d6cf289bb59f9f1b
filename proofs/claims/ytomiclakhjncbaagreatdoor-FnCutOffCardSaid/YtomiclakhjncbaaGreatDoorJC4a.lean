import Derived.Test.YtomiclakhjncbaaGreatDoorKCKbAct
import Derived.Test.YtomiclakhjncbaaGreatDoorKCKbHand
import Derived.Test.YtomiclakhjncbaaGreatDoorKCSDo1
import Derived.Test.YtomiclakhjncbaaGreatDoorKCFDis1
import Derived.Test.YtomiclakhjncbaaGreatDoorKCKbIs
import Derived.Test.YtomiclakhjncbaaGreatDoorJC1b
set_option maxRecDepth 100000
set_option maxHeartbeats 12800000
namespace Go.Proofs.YtomiclakhjncbaaGreatDoor.Kb
open Go.RowKit Go.Proofs.Tryz
theorem Wc {F:Ff} {b:Bk} {ws:Be} {r:Bk×Int} (h:D6 F b ws r) (hc:r.2≠0):r.1=b:=by
 unfold D6 at h
 split at h
 ·rw [h] at hc ⊢;unfold N8 Fr at hc ⊢;split at hc
  ·split at hc
   ·exact absurd rfl hc
   ·rw [if_pos ‹_›,if_neg ‹_›]
  ·rw [if_neg ‹_›]
 split at h
 ·rw [h] at hc ⊢;unfold Gt Fq at hc ⊢;split at hc
  ·split at hc
   ·exact absurd rfl hc
   ·rw [if_pos ‹_›,if_neg ‹_›]
  ·rw [if_neg ‹_›]
 split at h
 ·unfold Fh at h
  split at h
  ·obtain ⟨x,-,rfl⟩:=h
   unfold Jk at hc ⊢
   split at hc
   ·rw [if_pos ‹_›]
   rw [if_neg ‹_›]
   split at hc
   ·rw [if_pos ‹_›]
   rw [if_neg ‹_›]
   split at hc
   ·rw [if_pos ‹_›]
   rw [if_neg ‹_›]
   split at hc
   ·rw [if_pos ‹_›]
   ·exact absurd rfl hc
  ·rw [h]
 split at h
 ·rw [h] at hc ⊢;unfold Hx at hc ⊢;split at hc
  ·rw [if_pos ‹_›]
   unfold Ja at hc ⊢
   split at hc
   ·rw [if_pos ‹_›]
   rw [if_neg ‹_›]
   split at hc
   ·rw [if_pos ‹_›]
   rw [if_neg ‹_›]
   split at hc
   ·rw [if_pos ‹_›]
   ·exact absurd rfl hc
  ·rw [if_neg ‹_›]
 ·rw [h]
theorem sP {F:Ff} {b:Bk} {l:List UInt8} {r:Bk×Int} (h:D9 F b l r) (hc:r.2≠0):r.1=b:=by
 unfold D9 at h
 split at h
 ·rw [h]
 ·obtain ⟨r0,h0,rfl⟩:=h
  split at hc
  ·exact absurd rfl hc
  ·rw [if_neg ‹_›];exact Wc h0 hc
def Did (F:Ff):Bk→Be→Bk→Prop
 | b,[],b'=>b'=b
 | b,l::ls,b'=>∃ b1,D9 F b l (b1,0)∧Did F b1 ls b'
theorem Abw {F:Ff} {l:List UInt8} {b1 b2:Bk} : ∀ {b:Bk} {ls:Be},Did F b ls b1→D9 F b1 l (b2,0)→Did F b (ls++[l]) b2
 | b,[],h,hd=>by
  rw [Did] at h;subst h
  exact ⟨b2,hd,by rw [Did]⟩
 | b,x::xs,h,hd=>by
  obtain ⟨b3,h3,h4⟩:=h;exact ⟨b3,h3,Abw h4 hd⟩
theorem Ab9 {w w':World} {B:Nat} {ao:Option Addr} {rs:Be} (h:Bh w ao rs) (ha:rs≠[]→∀ x,ao=some x→x.block<B) (hb:Below B w w'):Bh w' ao rs:=by
 rcases h with h | ⟨g,off,rfl,h2,h3⟩
 ·exact .inl h
 ·by_cases hr:rs=[]
  ·exact .inl hr
  have hl:g<B:=ha hr ⟨g,off,none⟩ rfl
  exact .inr ⟨g,off,rfl,Nat.lt_of_lt_of_le h2 hb.size,fun i hi=>(hb.cell (p:=⟨g,off+i,none⟩) hl).trans (h3 i hi)⟩
def UnR (B K:Nat) (F:Ff) (J:Bk→Prop) (b:Bk) (rs:Be) (w:World) (e:Ending) (w':World):Prop :=
 ∃ (n:Nat) (b':Bk) (q:Bp),e=.returned (.int .i64 (n:Int))∧n≤rs.length∧Did F b (rs.take n) b'∧(n<rs.length→∃ r,D9 F b' (Al rs n) r∧r.2≠0)∧J b'∧KS B K 0 b' q w'∧Below B w w'
theorem Abt (rs:Be) (k:Nat) (h:k<rs.length):rs.take (k+1)=rs.take k++[Al rs k]:=by
 rw [List.take_succ_eq_append_getElem h]
 congr 2
 simp [Al,h]
theorem Ab4 {F:Ff} {E:World→Prop} {G B K:Nat} (KI:Rq F E G) (hGB:G≤B) {J:Bk→Prop} (hJP:∀ b,J b→Ej b) (hJS:∀ b l b2,l.length<1048576→J b→D9 F b l (b2,0)→J b2) (b:Bk) (q:Bp) (ao:Option Addr) (cap:Nat) (rs:Be) (w:World) (hk:KS B K 0 b q w) (hE:E w) (hJ:J b) (hz:Bh w ao rs) (ha:rs≠[]→∀ x,ao=some x→x.block<B) (hn:rs.length≤1048576) (hd:∀ r ∈ rs,r.length<1048576) :
  Calls prog 51 #[.pointer (some ⟨K,0,none⟩),.slice ao rs.length cap] w (UnR B K F J b rs w):=by
 have HDO:Hid (∀ (k:Nat) (b':Bk) (q':Bp) (u:World),k<rs.length→J b'→KS B K 0 b' q' u→Below B w u→Calls prog 83 #[.pointer (some ⟨K,0,none⟩),.string ⟨(Al rs k).toArray⟩] u (pM E B K F b' (Al rs k) u)):=fun k b' q' u hk hj ks hb=>iDo_any KI hGB (fun b q ao cap rs w h1 h2 h3 h4 h5=>lZ KI hGB b q ao cap rs w h1 h2 h3 h4 h5) b' q' _ u ks (KI.keep _ _ hE (hb.mono hGB)) (hJP _ hj) (hd _ (F7 hk))
 have HJS:Hid (∀ (k:Nat) (b1 b2:Bk),k<rs.length→J b1→D9 F b1 (Al rs k) (b2,0)→J b2):=fun k b1 b2 hk h1 h2=>hJS _ _ _ (hd _ (F7 hk)) h1 h2
 have HZ:Hid (Bh w ao rs):=hz;have HAB:Hid (rs≠[]→∀ x,ao=some x→x.block<B):=ha;have HK0:Hid (KS B K 0 b q w):=hk;have HJ0:Hid (J b):=hJ
 have HD0:Hid (Did F b (rs.take 0) b):=by rw [Hid,List.take_zero,Did]
 have HB0:Hid (Below B w w):=bR;clear KI hGB hJP hJS hk hE hJ hz ha hd
 go_enter func51,ntmps51
 go_wp2
 go_loopw [9] (fun i wr=>∃ (k:Nat) (b':Bk) (q':Bp),i=.int .i64 (k:Int)∧k≤rs.length∧Did F b (rs.take k) b'∧J b'∧KS B K 0 b' q' wr∧Below B w wr) (fun i _=>rs.length - (intOf i).toNat)
 case atStart=>exact ⟨0,b,q,rfl,Nat.zero_le _,HD0.o,HJ0.o,HK0.o,HB0.o⟩
 case round =>
  obtain ⟨k,b',q',rfl,hk,hdid,hj,hks,hbr⟩:=hrel;have HDD:Hid (Did F b (rs.take k) b'):=hdid;have HJJ:Hid (J b'):=hj;have HKK:Hid (KS B K 0 b' q' wr):=hks;have HBR:Hid (Below B w wr):=hbr;clear hdid hj hks hbr
  by_cases hlt:k<rs.length
  ·have hki:(k:Int)<(rs.length:Int):=by omega
   obtain ⟨gb,off,rfl,hcell⟩:∃ gb off,ao=some ⟨gb,off,none⟩∧wr.cell? ⟨gb,off+k,none⟩=some (.string ⟨(Al rs k).toArray⟩):=by
    rcases Ab9 HZ.o HAB.o HBR.o with h | ⟨gb,off,h1,h2,h3⟩
    ·rw [h] at hlt;simp at hlt
    ·exact ⟨gb,off,h1,h3 k hlt⟩
   have HCA:Hid (Calls prog 83 #[.pointer (some ⟨K,0,none⟩),.string ⟨(Al rs k).toArray⟩] wr (pM E B K F b' (Al rs k) wr)):=HDO.o k b' q' wr hlt HJJ.o HKK.o HBR.o
   have HNX:Hid (∀ b2,D9 F b' (Al rs k) (b2,0)→J b2∧Did F b (rs.take (k+1)) b2):=fun b2 h=>⟨HJS.o k b' b2 hlt HJJ.o h,by rw [Abt rs k hlt];exact Abw HDD.o h⟩
   have HNO:Hid (∀ r,D9 F b' (Al rs k) r→r.2≠0→r.1=b'):=fun r h hc=>sP h hc
   have HRE:Hid (∀ (q2:Bp) (u:World) r,D9 F b' (Al rs k) r→r.2≠0→KS B K 0 b' q2 u→Below B w u→UnR B K F J b rs w (.returned (.int .i64 (k:Int))) u):=fun q2 u r h hc ks hb=>⟨k,b',q2,rfl,hk,HDD.o,fun _=>⟨r,h,hc⟩,HJJ.o,ks,hb⟩
   obtain ⟨ln,hln⟩:∃ x,Al rs k=x:=⟨_,rfl⟩;rw [hln] at hcell HCA HNX HNO HRE;clear hln;go_wp2_with fail
   refine Calls.mono HCA.o ?_;rintro e w2 ⟨⟨b2,c2⟩,q2,v,hr,rfl,hv,k2,p2⟩;have HK2:Hid (KS B K 0 b2 q2 w2):=k2;have HB2:Hid (Below B w w2):=HBR.o.trans p2.b;clear k2 p2 hcell HCA
   simp only at hv
   rcases hv with ⟨hc,rfl⟩ | ⟨hc,y,-,rfl⟩
   ·subst hc
    obtain ⟨j2,d2⟩:=HNX.o b2 hr;have HJ2:Hid (J b2):=j2;have HD2:Hid (Did F b (rs.take (k+1)) b2):=d2;clear j2 d2 hr;go_wp2
    go_roundw
    case rel=>exact ⟨k+1,b2,q2,by go_num,by omega,HD2.o,HJ2.o,HK2.o,HB2.o⟩
    case measure=>simp [intOf];omega
   ·have HF:Hid (UnR B K F J b rs w (.returned (.int .i64 (k:Int))) w2):=by
      have e1:b2=b':=HNO.o _ hr hc;have h:=HK2.o;rw [e1] at h;exact HRE.o q2 w2 _ hr hc h HB2.o
    clear hr hc;go_wp2;go_ret;exact HF.o
  ·have hke:k=rs.length:=by omega
   subst hke
   have hki:¬ (rs.length:Int)<(rs.length:Int):=by omega
   have HF:Hid (UnR B K F J b rs w (.returned (.int .i64 (rs.length:Int))) wr):=⟨rs.length,b',q',rfl,nL,HDD.o,fun h=>absurd h (Nat.lt_irrefl _),HJJ.o,HKK.o,HBR.o⟩
   go_wp2;go_ret;exact HF.o
end Go.Proofs.YtomiclakhjncbaaGreatDoor.Kb
namespace Go.Proofs.YtomiclakhjncbaaGreatDoor
open Go.RowKit Go.Proofs.Tryz
theorem oU (st k:Int) (w:World):Calls prog 167 #[.int .i64 st,.int .i64 k] w fun e w'=>e=.returned (.bool (Dx st k))∧w'=w:=by
 by_cases hk:k<0∨9<k
 ·have HE:Hid (Dx st k=false):=by
    cases e:Dx st k
    ·rfl
    ·have:=Jt e;omega
  have g0:(k == 0)=false:=Ay (by omega)
  have g1:(k == 1)=false:=Ay (by omega)
  have g2:(k == 2)=false:=Ay (by omega)
  have g3:(k == 3)=false:=Ay (by omega)
  have g4:(k == 4)=false:=Ay (by omega)
  have g5:(k == 5)=false:=Ay (by omega)
  have g6:(k == 6)=false:=Ay (by omega)
  have g7:(k == 7)=false:=Ay (by omega)
  have g8:(k == 8)=false:=Ay (by omega)
  have g9:(k == 9)=false:=Ay (by omega)
  clear hk
  go_enter func167,ntmps167
  go_wp2;go_ret;exact ⟨Aa HE.o.symm,rfl⟩
 ·rcases (show k=0∨k=1∨k=2∨k=3∨k=4∨k=5∨k=6∨k=7∨k=8∨k=9 by omega) with rfl | rfl | rfl | rfl | rfl | rfl | rfl | rfl | rfl | rfl
  ·have HE:Hid (Dx st 0=(st == 0)):=by
     by_cases h:st=0 <;> simp [Hid,Dx,h]
   clear hk
   go_enter func167,ntmps167
   go_wp2;go_ret;exact ⟨Aa HE.o.symm,rfl⟩
  ·have HE:Hid (Dx st 1=(st == 1)):=by
     by_cases h:st=1 <;> simp [Hid,Dx,h]
   clear hk
   go_enter func167,ntmps167
   go_wp2;go_ret;exact ⟨Aa HE.o.symm,rfl⟩
  ·clear hk
   go_enter func167,ntmps167
   go_wp2_with (go_at_call 134;refine (Dl _ _ _ _).mono ?_;rintro e w' ⟨rfl,rfl⟩)
   go_ret;exact ⟨rfl,rfl⟩
  ·have HE:Hid (Dx st 3=(st == 3)):=by
     by_cases h:st=3 <;> simp [Hid,Dx,h]
   clear hk
   go_enter func167,ntmps167
   go_wp2;go_ret;exact ⟨Aa HE.o.symm,rfl⟩
  ·have HE:Hid (Dx st 4=(st == 4)):=by
     by_cases h:st=4 <;> simp [Hid,Dx,h]
   clear hk
   go_enter func167,ntmps167
   go_wp2;go_ret;exact ⟨Aa HE.o.symm,rfl⟩
  ·have HE:Hid (Dx st 5=(st == 5)):=by
     by_cases h:st=5 <;> simp [Hid,Dx,h]
   clear hk
   go_enter func167,ntmps167
   go_wp2;go_ret;exact ⟨Aa HE.o.symm,rfl⟩
  ·have HE:Hid (Dx st 6=(st == 5)):=by
     by_cases h:st=5 <;> simp [Hid,Dx,h]
   clear hk
   go_enter func167,ntmps167
   go_wp2;go_ret;exact ⟨Aa HE.o.symm,rfl⟩
  ·have HE:Hid (Dx st 7=(st == 6)):=by
     by_cases h:st=6 <;> simp [Hid,Dx,h]
   clear hk
   go_enter func167,ntmps167
   go_wp2;go_ret;exact ⟨Aa HE.o.symm,rfl⟩
  ·by_cases h1:st=1
   ·have HE:Hid (Dx st 8=true):=by simp [Hid,Dx,h1]
    have h1':(st == 1)=true:=by simpa using h1
    clear hk h1
    go_enter func167,ntmps167
    go_wp2;go_ret;exact ⟨Aa HE.o.symm,rfl⟩
   ·have HE:Hid (Dx st 8=Gk st 3 6):=by simp [Hid,Dx,h1,Gk]
    have h1':=Ay h1;clear hk h1
    go_enter func167,ntmps167
    go_wp2_with (go_at_call 134;refine (Dl _ _ _ _).mono ?_;rintro e w' ⟨rfl,rfl⟩)
    go_ret;exact ⟨Aa HE.o.symm,rfl⟩
  ·by_cases h1:st=0
   ·have HE:Hid (Dx st 9=true):=by simp [Hid,Dx,h1]
    have h1':(st == 0)=true:=by simpa using h1
    clear hk h1
    go_enter func167,ntmps167
    go_wp2;go_ret;exact ⟨Aa HE.o.symm,rfl⟩
   ·have HE:Hid (Dx st 9=(st == 2)):=by
      by_cases h:st=2 <;> simp [Hid,Dx,h1,h]
    have h1':=Ay h1;clear hk h1
    go_enter func167,ntmps167
    go_wp2;go_ret;exact ⟨Aa HE.o.symm,rfl⟩
structure B2 (s:Nat) (c:Cs) (a:Ac) (u:World):Prop where
 cb:CB s 0 c u
 a0:u.cell? ⟨s+1,0,none⟩=some (.int .i64 a.kind)
 a1:u.cell? ⟨s+1,1,none⟩=some (.int .i64 a.am)
 a2:u.cell? ⟨s+1,2,none⟩=some (.int .i64 a.rsn)
theorem B2.below {s:Nat} {c:Cs} {a:Ac} {u u':World} (h:B2 s c a u) (b:BW u u'):B2 s c a u':=by
 have l:s+1<u.heap.size:=World.block_lt_of_cell? u _ h.a0;exact ⟨h.cb.below b,(b.cell (p:=⟨s+1,0,none⟩) l).trans h.a0,(b.cell (p:=⟨s+1,1,none⟩) l).trans h.a1,(b.cell (p:=⟨s+1,2,none⟩) l).trans h.a2⟩
theorem B2.new (w:World) (c:Cs) (a:Ac) (t1 t2:TypeId):B2 w.heap.size c a ((w.alloc (.cells #[.int .i64 c.iss,.int .i64 c.acq,.int .i64 c.cur,.int .i64 c.am,.int .i64 c.st,.int .i64 c.rsn,.int .i64 c.cl,.int .i64 c.bk,.int .i64 c.fee,.bool c.cop,.int .i64 c.sta,.int .i64 c.due] t1)).alloc (.cells #[.int .i64 a.kind,.int .i64 a.am,.int .i64 a.rsn] t2)) :=
 ⟨(CB.new w c t1).below (bR.alloc nL _),by simp [go_sem],by simp [go_sem],by simp [go_sem]⟩
theorem Xk (c:Cs) (a:Ac) (t:Int) (ao:Option Addr) (cp:Nat) (zs:List Int) (w:World) (hx:Aw w ao zs) (hn:zs.length≤1099511627776) :
  Calls prog 263 #[cv c,av a,.int .i64 t,.slice ao zs.length cp] w fun e w'=>e=.returned (.int .i64 (Bs c a t zs))∧BW w w':=by
 obtain ⟨W,hW⟩:∃ W,W=(w.alloc (.cells #[.int .i64 c.iss,.int .i64 c.acq,.int .i64 c.cur,.int .i64 c.am,.int .i64 c.st,.int .i64 c.rsn,.int .i64 c.cl,.int .i64 c.bk,.int .i64 c.fee,.bool c.cop,.int .i64 c.sta,.int .i64 c.due] 61)).alloc (.cells #[.int .i64 a.kind,.int .i64 a.am,.int .i64 a.rsn] 165):=⟨_,rfl⟩
 have HX:Hid (B2 w.heap.size c a W):=by rw [Hid,hW];exact B2.new w c a _ _
 have HBW:Hid (BW w W):=by rw [Hid,hW];go_grown
 have HW:Hid _:=hW;have HI:Hid (Aw W ao zs):=hx.below HBW.o
 obtain ⟨p,hp⟩:∃ p,(!Oy a.rsn || (E8 a.rsn && !E4 c t))=p:=⟨_,rfl⟩
 obtain ⟨q,hq⟩:∃ q,(decide (a.am<1) || (decide (c.am<a.am) || (decide (a.am<c.am) && !Gb a.rsn)))=q:=⟨_,rfl⟩
 obtain ⟨l,hl⟩:∃ l,Bv t (C6 c.sta (Fs a.rsn) zs)=l:=⟨_,rfl⟩;have HV:Hid _:=Qy hp hq hl;have HPP:Hid _:=hp;have HQQ:Hid _:=hq;have HLL:Hid _:=hl
 have hcop:E4 c t=(c.cop || (decide (c.st=1) && Bv t c.due)):=rfl
 obtain ⟨cc,hcc⟩:∃ cc,E4 c t=cc:=⟨_,rfl⟩
 have HCC:Hid (cc=(c.cop || (decide (c.st=1) && Bv t c.due))):=by rw [Hid,← hcc,hcop]
 rw [hcc] at HPP;clear hp hq hl hx hW hcop hcc;obtain ⟨k,m,r⟩:=a;obtain ⟨iY,aZ,cQ,am,st,rW,cl,bk,fW,cW,sS,dX⟩:=c;unfold cv av
 simp only at HW HPP HQQ HLL HCC ⊢
 have HDU:Hid (∀ u,BW W u→Calls prog 222 #[.int .i64 sS,.int .i64 (Fs r),.slice ao zs.length cp] u fun e w'=>e=.returned (.int .i64 (C6 sS (Fs r) zs))∧BW u w'):=fun u hu=>Ir sS (Fs r) ao cp zs u (HI.o.below hu) hn
 go_enter func263,ntmps263
 go_upto_region 1 with fail
 rw [← HW.o];clear HW;obtain ⟨⟨f0,f1,f2,f3,f4,f5,f6,f7,f8,f9,f10,f11⟩,k0,k1,k2⟩:=HX.o
 simp only [Nat.zero_add] at f0 f1 f2 f3 f4 f5 f6 f7 f8 f9 f10 f11 k0 k1 k2
 clear f0 f1 f2 f5 f6 f7 f8
 go_cut [9] (fun v wc=>v=.bool cc∧wc=W)
 case first =>
  cases cW
  ·by_cases h1:st=1
   ·have HE:Hid (cc=Bv t dX):=by rw [Hid,HCC.o,decide_eq_true h1,Bool.false_or,Bool.true_and]
    have h1':(st == 1)=true:=by simpa using h1
    clear h1
    go_wp2_with (go_at_call 92;refine (Kp _ _ _).mono ?_;rintro e w' ⟨rfl,rfl⟩)
    go_meet
    exact ⟨by rw [HE.o],rfl⟩
   ·have HE:Hid (cc=false):=by rw [Hid,HCC.o,decide_eq_false h1,Bool.false_or,Bool.false_and]
    have h1':=Ay h1;clear h1;go_wp2;go_meet
    exact ⟨by rw [HE.o],rfl⟩
  ·have HE:Hid (cc=true):=by rw [Hid,HCC.o,Bool.true_or]
   go_wp2;go_meet
   exact ⟨by rw [HE.o],rfl⟩
 case rest =>
  obtain ⟨rfl,hwc⟩:=hcut;rw [hwc];clear hwc;go_upto_region 2 with fail
  go_cut [23] (fun v wc=>v=.bool p∧BW W wc)
  case first =>
   go_wp2_with fail
   refine (V7 r _).mono ?_;rintro e u1 ⟨rfl,b1⟩;have HB1:Hid (BW W u1):=b1;have j2:=(HX.o.below b1).a2
   simp only at j2
   clear b1
   cases h1:Oy r
   ·have HE:Hid (p=true):=by rw [Hid,← HPP.o,h1];rfl
    clear h1;go_wp2;go_meet
    exact ⟨by rw [HE.o],HB1.o⟩
   go_wp2_with fail
   refine (Wt r _).mono ?_;rintro e u2 ⟨rfl,hw2⟩;rw [hw2];clear hw2
   cases h2:E8 r
   ·have HE:Hid (p=false):=by rw [Hid,← HPP.o,h1,h2];rfl
    clear h1 h2;go_wp2;go_meet
    exact ⟨by rw [HE.o],HB1.o⟩
   have HE:Hid (p = !cc):=by rw [Hid,← HPP.o,h1,h2];rfl
   clear h1 h2;go_wp2;go_meet
   exact ⟨by rw [HE.o],HB1.o⟩
  case rest =>
   obtain ⟨rfl,b4⟩:=hcut;obtain ⟨u4,hu4⟩:∃ x,x=wc:=⟨_,rfl⟩;subst hu4;have HB4:Hid (BW W u4):=b4;have HX4:Hid (B2 w.heap.size ⟨iY,aZ,cQ,am,st,rW,cl,bk,fW,cW,sS,dX⟩ ⟨k,m,r⟩ u4):=HX.o.below b4;clear b4 f3 f4 f9 f10 f11 k0 k1 k2
   cases p
   rotate_left
   ·have HE:Hid (Bs ⟨iY,aZ,cQ,am,st,rW,cl,bk,fW,cW,sS,dX⟩ ⟨k,m,r⟩ t zs=3):=by rw [Hid,HV.o,if_pos rfl]
    go_wp2;go_ret;exact ⟨Af HE.o.symm,next HBW.o HB4.o⟩
   have HV1:Hid (Bs ⟨iY,aZ,cQ,am,st,rW,cl,bk,fW,cW,sS,dX⟩ ⟨k,m,r⟩ t zs=if q=true then 2 else if l=true then 4 else 0):=by rw [Hid,HV.o,if_neg (by decide)]
   obtain ⟨⟨f0,f1,f2,f3,f4,f5,f6,f7,f8,f9,f10,f11⟩,k0,k1,k2⟩:=HX4.o
   simp only [Nat.zero_add] at f0 f1 f2 f3 f4 f5 f6 f7 f8 f9 f10 f11 k0 k1 k2
   clear HV f0 f1 f2 f4 f5 f6 f7 f8 f9 f10 f11;go_upto_region 4 with fail
   go_cut [37] (fun v wc=>v=.bool q∧wc=u4)
   case first =>
    go_wp2_with fail
    cases h1:Gk m 1 am
    ·have HE:Hid (q=true):=by
       have:=E7 h1
       have g:m<1∨am<m:=by simp at this;omega
       rw [Hid,← HQQ.o]
       rcases g with g | g <;> simp [g]
     refine (Fa h1 _).mono ?_;rintro e v1 ⟨rfl,hv⟩;rw [hv];clear hv h1;go_wp2;go_meet
     exact ⟨by rw [HE.o],rfl⟩
    have g1:¬ m<1∧¬ am<m:=by have:=E7 h1;simp at this;omega
    refine (Fa h1 _).mono ?_;rintro e v1 ⟨rfl,hv⟩;rw [hv];clear hv h1
    by_cases h3:m<am
    ·have HE:Hid (q = !Gb r):=by rw [Hid,← HQQ.o,decide_eq_false g1.1,decide_eq_false g1.2,decide_eq_true h3];rfl
     clear g1;go_wp2_with fail
     refine (aT r _).mono ?_;rintro e v2 ⟨rfl,hv⟩;rw [hv];clear hv;go_wp2;go_meet
     exact ⟨by rw [HE.o],rfl⟩
    ·have HE:Hid (q=false):=by rw [Hid,← HQQ.o,decide_eq_false g1.1,decide_eq_false g1.2,decide_eq_false h3];rfl
     clear g1;go_wp2;go_meet
     exact ⟨by rw [HE.o],rfl⟩
   case rest =>
    obtain ⟨rfl,hwc⟩:=hcut;rw [hwc];clear hwc f3 k0 k1 k2
    cases q
    rotate_left
    ·have HE:Hid (Bs ⟨iY,aZ,cQ,am,st,rW,cl,bk,fW,cW,sS,dX⟩ ⟨k,m,r⟩ t zs=2):=by rw [Hid,HV1.o,if_pos rfl]
     go_wp2;go_ret;exact ⟨Af HE.o.symm,next HBW.o HB4.o⟩
    have HV2:Hid (Bs ⟨iY,aZ,cQ,am,st,rW,cl,bk,fW,cW,sS,dX⟩ ⟨k,m,r⟩ t zs=if l=true then 4 else 0):=by rw [Hid,HV1.o,if_neg (by decide)]
    clear HV1
    have HAT:Hid (∀ u,BW W u→u.cell? ⟨w.heap.size,10,none⟩=some (.int .i64 sS)∧u.cell? ⟨w.heap.size+1,2,none⟩=some (.int .i64 r)):=fun u hu=>by
     have g:=HX.o.below hu;have g10:=g.cb.f10
     simp only [Nat.zero_add] at g10
     exact ⟨g10,g.a2⟩
    obtain ⟨k10,k2⟩:=HAT.o u4 HB4.o;obtain ⟨n,hn'⟩:∃ n,Fs r=n:=⟨_,rfl⟩
    have HRD:Hid (∀ u,Calls prog 302 #[.int .i64 r] u fun e w'=>e=.returned (.int .i64 n)∧BW u w'):=fun u=>by rw [← hn'];exact Xy r u
    rw [hn'] at HDU HLL;obtain ⟨dd,hdd⟩:∃ dd,C6 sS n zs=dd:=⟨_,rfl⟩;rw [hdd] at HDU HLL
    have HLT:Hid (∀ u,Calls prog 92 #[.int .i64 t,.int .i64 dd] u fun e w'=>e=.returned (.bool l)∧w'=u):=fun u=>by rw [← HLL.o];exact Kp t dd u
    clear hn' hdd;have d5:BW W u4.drew:=HB4.o.drew;go_upto_region 6 with fail
    go_cut [57] (fun v wc=>v=.bool l∧BW W wc)
    case first =>
     go_region_held3 (fun u=>u.cell? ⟨w.heap.size,10,none⟩=some (.int .i64 sS)∧u.cell? ⟨w.heap.size+1,2,none⟩=some (.int .i64 r)) (first | exact ⟨k10,k2⟩ | exact HAT.o _ HB4.o | exact HAT.o _ d5 | exact HAT.o _ HB6.o | exact HAT.o _ HB7.o) ((first
      | (go_at_call 302;refine (HRD.o _).mono ?_;rintro e u6 ⟨rfl,b6⟩;(first | (have HB6:Hid (BW W u6):=next d5 b6) | (have HB6:Hid (BW W u6):=next HB4.o b6));clear b6)
      | (go_at_call 222;refine (HDU.o _ HB6.o).mono ?_;rintro e u7 ⟨rfl,b7⟩;(have HB7:Hid (BW W u7):=next HB6.o b7);clear b7)
      | (go_at_call 92;refine (HLT.o _).mono ?_;rintro e u8 ⟨rfl,hu8⟩;rw [hu8];clear hu8)))
     all_goals
      go_wp2_with fail
      go_meet;exact ⟨rfl,HB7.o⟩
    case rest =>
     obtain ⟨rfl,b8⟩:=hcut;clear k10 k2
     cases l
     ·have HE:Hid (Bs ⟨iY,aZ,cQ,am,st,rW,cl,bk,fW,cW,sS,dX⟩ ⟨k,m,r⟩ t zs=0):=by rw [Hid,HV2.o,if_neg (by decide)]
      go_wp2;go_ret;exact ⟨Af HE.o.symm,next HBW.o b8⟩
     ·have HE:Hid (Bs ⟨iY,aZ,cQ,am,st,rW,cl,bk,fW,cW,sS,dX⟩ ⟨k,m,r⟩ t zs=4):=by rw [Hid,HV2.o,if_pos rfl]
      go_wp2;go_ret;exact ⟨Af HE.o.symm,next HBW.o b8⟩
theorem fX (c:Cs) (a:Ac) (t:Int) (ao:Option Addr) (cp:Nat) (zs:List Int) (w:World) (hx:Aw w ao zs) (hn:zs.length≤1099511627776) (hk:0≤a.kind∧a.kind≤9) :
  Calls prog 221 #[cv c,av a,.int .i64 t,.slice ao zs.length cp] w fun e w'=>e=.returned (.int .i64 (B4 c a t zs))∧BW w w':=by
 obtain ⟨W,hW⟩:∃ W,W=(w.alloc (.cells #[.int .i64 c.iss,.int .i64 c.acq,.int .i64 c.cur,.int .i64 c.am,.int .i64 c.st,.int .i64 c.rsn,.int .i64 c.cl,.int .i64 c.bk,.int .i64 c.fee,.bool c.cop,.int .i64 c.sta,.int .i64 c.due] 61)).alloc (.cells #[.int .i64 a.kind,.int .i64 a.am,.int .i64 a.rsn] 165):=⟨_,rfl⟩
 have HX:Hid (B2 w.heap.size c a W):=by rw [Hid,hW];exact B2.new w c a _ _
 have HBW:Hid (BW w W):=by rw [Hid,hW];go_grown
 have HW:Hid _:=hW
 have HCH:Hid (∀ u,BW W u→Calls prog 263 #[cv c,av a,.int .i64 t,.slice ao zs.length cp] u fun e w'=>e=.returned (.int .i64 (Bs c a t zs))∧BW u w'):=fun u hu=>Xk c a t ao cp zs u ((hx.below HBW.o).below hu) hn
 obtain ⟨r,hr⟩:∃ r,B4 c a t zs=r:=⟨_,rfl⟩;have HR:Hid _:=hr;rw [hr];clear hx hW hr;obtain ⟨k,m,q⟩:=a;obtain ⟨iY,aZ,cQ,am,st,rW,cl,bk,fW,cW,sS,dX⟩:=c;unfold cv av at HCH ⊢
 simp only at HW HCH hk ⊢
 go_enter func221,ntmps221
 go_upto_region 1 with fail
 rw [← HW.o];clear HW;obtain ⟨⟨f0,f1,f2,f3,f4,f5,f6,f7,f8,f9,f10,f11⟩,k0,k1,k2⟩:=HX.o
 simp only [Nat.zero_add] at f0 f1 f2 f3 f4 f5 f6 f7 f8 f9 f10 f11 k0 k1 k2
 go_wp2_with fail
 refine (Kp t dX _).mono ?_;rintro e u1 ⟨rfl,hu⟩;rw [hu];clear hu;obtain ⟨l,hl⟩:∃ l,Bv t dX=l:=⟨_,rfl⟩;have HL:Hid _:=hl;rw [hl];clear hl
 rcases (show k=0∨k=1∨k=2∨k=3∨k=4∨k=5∨k=6∨k=7∨k=8∨k=9 by omega) with rfl | rfl | rfl | rfl | rfl | rfl | rfl | rfl | rfl | rfl
 ·have HE:Hid (r=0):=by rw [Hid,← HR.o];simp [B4]
  clear HCH;go_wp2;go_ret;exact ⟨Af HE.o.symm,HBW.o⟩
 ·have HE:Hid (r=if l=true then 4 else 0):=by rw [Hid,← HR.o,← HL.o];simp [B4]
  clear HCH
  cases l
  ·go_wp2
   go_ret
   exact ⟨Af (by rw [HE.o];rfl),HBW.o⟩
  ·go_wp2
   go_ret
   exact ⟨Af (by rw [HE.o];rfl),HBW.o⟩
 ·have HE:Hid (Bs ⟨iY,aZ,cQ,am,st,rW,cl,bk,fW,cW,sS,dX⟩ ⟨2,m,q⟩ t zs=r):=by rw [Hid,← HR.o];simp [B4]
  go_wp2_with fail
  refine (HCH.o _ bR).mono ?_;rintro e u2 ⟨rfl,b2⟩;have HB2:Hid (BW w u2):=next HBW.o b2;clear b2;rw [HE.o];go_wp2;go_ret;exact ⟨rfl,HB2.o⟩
 ·have HE:Hid (r=if l=true then 4 else if 1≤m∧m≤cl then 0 else 2):=by rw [Hid,← HR.o,← HL.o];simp [B4]
  clear HCH
  cases l
  ·rw [if_neg (by decide)] at HE
   go_wp2_with fail
   cases h1:Gk m 1 cl
   ·have g:=E7 h1
    have HE2:Hid (r=2):=by rw [Hid,HE.o,if_neg (of_decide_eq_false g)]
    refine (Fa h1 _).mono ?_;rintro e v1 ⟨rfl,hv⟩;rw [hv];clear hv h1 g;go_wp2;go_ret;exact ⟨Af HE2.o.symm,HBW.o⟩
   ·have g:=E7 h1
    have HE2:Hid (r=0):=by rw [Hid,HE.o,if_pos (of_decide_eq_true g)]
    refine (Fa h1 _).mono ?_;rintro e v1 ⟨rfl,hv⟩;rw [hv];clear hv h1 g;go_wp2;go_ret;exact ⟨Af HE2.o.symm,HBW.o⟩
  ·go_wp2
   go_ret
   exact ⟨Af (by rw [HE.o];rfl),HBW.o⟩
 ·have HE:Hid (r=if l=true then 4 else if 1≤m∧m≤cl then 0 else 2):=by rw [Hid,← HR.o,← HL.o];simp [B4]
  clear HCH
  cases l
  ·rw [if_neg (by decide)] at HE
   go_wp2_with fail
   cases h1:Gk m 1 cl
   ·have g:=E7 h1
    have HE2:Hid (r=2):=by rw [Hid,HE.o,if_neg (of_decide_eq_false g)]
    refine (Fa h1 _).mono ?_;rintro e v1 ⟨rfl,hv⟩;rw [hv];clear hv h1 g;go_wp2;go_ret;exact ⟨Af HE2.o.symm,HBW.o⟩
   ·have g:=E7 h1
    have HE2:Hid (r=0):=by rw [Hid,HE.o,if_pos (of_decide_eq_true g)]
    refine (Fa h1 _).mono ?_;rintro e v1 ⟨rfl,hv⟩;rw [hv];clear hv h1 g;go_wp2;go_ret;exact ⟨Af HE2.o.symm,HBW.o⟩
  ·go_wp2
   go_ret
   exact ⟨Af (by rw [HE.o];rfl),HBW.o⟩
 ·have HE:Hid (r=0):=by rw [Hid,← HR.o];simp [B4]
  clear HCH;go_wp2;go_ret;exact ⟨Af HE.o.symm,HBW.o⟩
 ·have HE:Hid (r=if l=true then 4 else 0):=by rw [Hid,← HR.o,← HL.o];simp [B4]
  clear HCH
  cases l
  ·go_wp2
   go_ret
   exact ⟨Af (by rw [HE.o];rfl),HBW.o⟩
  ·go_wp2
   go_ret
   exact ⟨Af (by rw [HE.o];rfl),HBW.o⟩
 ·have HE:Hid (r=if 0≤m∧m≤cl then 0 else 2):=by rw [Hid,← HR.o];simp [B4]
  clear HCH;go_wp2_with fail
  cases h1:Gk m 0 cl
  ·have g:=E7 h1
   have HE2:Hid (r=2):=by rw [Hid,HE.o,if_neg (of_decide_eq_false g)]
   refine (Fa h1 _).mono ?_;rintro e v1 ⟨rfl,hv⟩;rw [hv];clear hv h1 g;go_wp2;go_ret;exact ⟨Af HE2.o.symm,HBW.o⟩
  ·have g:=E7 h1
   have HE2:Hid (r=0):=by rw [Hid,HE.o,if_pos (of_decide_eq_true g)]
   refine (Fa h1 _).mono ?_;rintro e v1 ⟨rfl,hv⟩;rw [hv];clear hv h1 g;go_wp2;go_ret;exact ⟨Af HE2.o.symm,HBW.o⟩
 ·have HE:Hid (r=if l=true then 0 else 4):=by rw [Hid,← HR.o,← HL.o];simp [B4]
  clear HCH
  cases l
  ·go_wp2
   go_ret
   exact ⟨Af (by rw [HE.o];rfl),HBW.o⟩
  ·go_wp2
   go_ret
   exact ⟨Af (by rw [HE.o];rfl),HBW.o⟩
 ·have HE:Hid (r=0):=by rw [Hid,← HR.o];simp [B4]
  clear HCH;go_wp2;go_ret;exact ⟨Af HE.o.symm,HBW.o⟩
theorem Lj {b:Nat} {ao:Option Addr} {cp:Nat} {zs:List Int} {a:Ac} {t:Int} {c:Cs} {es:List En} {v:Value} {w:World} (h:DS b ao cp zs a t c es v w) :
  Calls prog 319 #[.pointer (some ⟨b,0,none⟩)] w (DR b ao cp zs a t w (.int .i64 0) (J9 c) es):=by
 have c4:=h.db.cb.f4;have c11:=h.db.cb.f11;have c9:=h.db.cb.f9;have z4:=h.db.fz.z4;have z11:=h.db.fz.z11;have z9:=h.db.fz.z9
 simp only [Nat.zero_add] at c4 c11 c9 z4 z11 z9
 have HH:Hid (DS b ao cp zs a t c es v w):=h;clear h
 go_enter func319,ntmps319
 go_wp2;go_ret;exact ⟨rfl,⟨v,((HH.o.set4 2).set11 (-1)).set9 true⟩,((Bn _ _ 4 _).trans (Bn _ _ 11 _)).trans (Bn _ _ 9 _)⟩
theorem Pn {b:Nat} {ao:Option Addr} {cp:Nat} {zs:List Int} {a:Ac} {t:Int} {c:Cs} {es:List En} {v:Value} {w:World} (h:DS b ao cp zs a t c es v w) (k:Int) (hk:k=5∨k=7∨k=8) :
  Calls prog 324 #[.pointer (some ⟨b,0,none⟩),.int .i64 k] w (DR b ao cp zs a t w (.int .i64 0) ⟨c.iss,c.acq,c.cur,c.am,7,c.rsn,0,c.bk,c.fee,c.cop,c.sta,-1⟩ es):=by
 have c4:=h.db.cb.f4;have c6:=h.db.cb.f6;have c11:=h.db.cb.f11;have z4:=h.db.fz.z4;have z6:=h.db.fz.z6;have z11:=h.db.fz.z11
 simp only [Nat.zero_add] at c4 c6 c11 z4 z6 z11
 have HH:Hid (DS b ao cp zs a t c es v w):=h;clear h
 rcases hk with rfl | rfl | rfl
 iterate 3
  ·go_enter func324,ntmps324
   go_wp2;go_ret;exact ⟨rfl,⟨v,((HH.o.set6 0).set4 7).set11 (-1)⟩,((Bn _ _ 6 _).trans (Bn _ _ 4 _)).trans (Bn _ _ 11 _)⟩
theorem iT {b:Nat} {ao:Option Addr} {cp:Nat} {zs:List Int} {a:Ac} {t:Int} {c:Cs} {es:List En} {v:Value} {w:World} (h:DS b ao cp zs a t c es v w) :
  Calls prog 324 #[.pointer (some ⟨b,0,none⟩),.int .i64 9] w (DR b ao cp zs a t w (.int .i64 0) ⟨c.iss,c.acq,c.cur,c.am,7,c.rsn,c.cl,c.bk,c.fee,c.cop,c.sta,-1⟩ es):=by
 have c4:=h.db.cb.f4;have c11:=h.db.cb.f11;have z4:=h.db.fz.z4;have z11:=h.db.fz.z11
 simp only [Nat.zero_add] at c4 c11 z4 z11
 have HH:Hid (DS b ao cp zs a t c es v w):=h;clear h
 go_enter func324,ntmps324
 go_wp2;go_ret;exact ⟨rfl,⟨v,(HH.o.set4 7).set11 (-1)⟩,(Bn _ _ 4 _).trans (Bn _ _ 11 _)⟩
theorem iR {b:Nat} {ao:Option Addr} {cp:Nat} {zs:List Int} {a:Ac} {t:Int} {c:Cs} {es:List En} {v:Value} {w:World} (h:DS b ao cp zs a t c es v w) :
  Calls prog 297 #[.pointer (some ⟨b,0,none⟩)] w (DR b ao cp zs a t w (.int .i64 0) ⟨c.iss,c.acq,c.cur,c.am,7,c.rsn,c.cl,c.bk,c.fee,c.cop,c.sta,-1⟩ es):=by
 have HH:Hid (DS b ao cp zs a t c es v w):=h;clear h
 go_enter func297,ntmps297
 go_wp2_with fail
 refine (iT HH.o).mono ?_;rintro e w1 ⟨rfl,D1,b1⟩;go_wp2;go_ret;exact ⟨rfl,D1,b1⟩
theorem oI {b:Nat} {ao:Option Addr} {cp:Nat} {zs:List Int} {a:Ac} {t:Int} {c:Cs} {es:List En} {v:Value} {w:World} (h:DS b ao cp zs a t c es v w) (hn:zs.length≤1099511627776) :
  Calls prog 288 #[.pointer (some ⟨b,0,none⟩)] w (DR b ao cp zs a t w (.int .i64 0) ⟨c.iss,c.acq,c.cur,c.am,1,c.rsn,c.cl,c.bk,c.fee,c.cop,c.sta,C6 t 20 zs⟩ es):=by
 have c4:=h.db.cb.f4;have z4:=h.db.fz.z4
 simp only [Nat.zero_add] at c4 z4
 have HH:Hid (DS b ao cp zs a t c es v w):=h;clear h
 go_enter func288,ntmps288
 go_wp2_with fail
 refine (Is (HH.o.set4 1) hn 4 20 rfl).mono ?_;rintro e w1 ⟨rfl,D1,b1⟩;have HD:Hid _:=D1;have HB:Hid (Below b w w1):=(Bn _ _ 4 _).trans b1;clear D1 b1;go_wp2;go_ret;exact ⟨rfl,HD.o,HB.o⟩
theorem mH {b:Nat} {ao:Option Addr} {cp:Nat} {zs:List Int} {a:Ac} {t:Int} {c:Cs} {es:List En} {v:Value} {w:World} (h:DS b ao cp zs a t c es v w) :
  Calls prog 289 #[.pointer (some ⟨b,0,none⟩)] w (DR b ao cp zs a t w (.int .i64 (if Bv t c.due=true then 4 else 0)) (if Bv t c.due=true then c else J9 c) es):=by
 have HH:Hid (DS b ao cp zs a t c es v w):=h;have HL:Hid (b<w.heap.size):=h.lt
 have HQ:Hid (Calls prog 318 #[.pointer (some ⟨b,0,none⟩)] w fun e w'=>e=.returned (.bool (Bv t c.due))∧BW w w'):=Hn h
 clear h
 cases hl:Bv t c.due
 ·rw [hl] at HQ
  clear hl
  rw [if_neg (by decide),if_neg (by decide)]
  go_enter func289,ntmps289
  go_wp2_with fail
  refine Calls.mono HQ.o ?_;rintro e w1 ⟨rfl,b1⟩;have HB:Hid (BW w w1):=b1;clear b1;go_wp2_with fail
  refine (Lj (HH.o.below HB.o)).mono ?_;rintro e w2 ⟨rfl,D2,b2⟩;have HD:Hid _:=D2;have HB2:Hid (Below b w w2):=(HB.o.mono (Nat.le_of_lt HL.o)).trans b2;clear D2 b2;go_wp2;go_ret;exact ⟨rfl,HD.o,HB2.o⟩
 ·rw [hl] at HQ
  clear hl;rw [if_pos rfl,if_pos rfl]
  go_enter func289,ntmps289
  go_wp2_with fail
  refine Calls.mono HQ.o ?_;rintro e w1 ⟨rfl,b1⟩;have HB:Hid (BW w w1):=b1;clear b1;go_wp2;go_ret;exact ⟨rfl,⟨v,HH.o.below HB.o⟩,HB.o.mono (Nat.le_of_lt HL.o)⟩
theorem Yn {b:Nat} {ao:Option Addr} {cp:Nat} {zs:List Int} {a:Ac} {t:Int} {c:Cs} {es:List En} {v:Value} {w:World} (h:DS b ao cp zs a t c es v w) (hn:zs.length≤1099511627776) :
  Calls prog 294 #[.pointer (some ⟨b,0,none⟩)] w (DR b ao cp zs a t w (.int .i64 (if Bv t c.due=true then 4 else 0)) (if Bv t c.due=true then c else ⟨c.iss,c.acq,c.cur,c.am,6,c.rsn,c.cl,c.bk,c.fee,c.cop,c.sta,C6 t 60 zs⟩) es):=by
 have HH:Hid (DS b ao cp zs a t c es v w):=h;have HL:Hid (b<w.heap.size):=h.lt
 have HQ:Hid (Calls prog 318 #[.pointer (some ⟨b,0,none⟩)] w fun e w'=>e=.returned (.bool (Bv t c.due))∧BW w w'):=Hn h
 clear h
 cases hl:Bv t c.due
 ·rw [hl] at HQ
  clear hl
  rw [if_neg (by decide),if_neg (by decide)]
  go_enter func294,ntmps294
  go_wp2_with fail
  refine Calls.mono HQ.o ?_;rintro e w1 ⟨rfl,b1⟩;have HB:Hid (BW w w1):=b1;have h:=HH.o.below b1;have c4:=h.db.cb.f4;have z4:=h.db.fz.z4
  simp only [Nat.zero_add] at c4 z4
  have HH1:Hid (DS b ao cp zs a t c es v w1):=h;clear b1 h;go_wp2_with fail
  refine (Is (HH1.o.set4 6) hn 3 60 rfl).mono ?_;rintro e w2 ⟨rfl,D2,b2⟩;have HD:Hid _:=D2;have HB2:Hid (Below b w w2):=((HB.o.mono (Nat.le_of_lt HL.o)).trans (Bn _ _ 4 _)).trans b2;clear D2 b2;go_wp2;go_ret;exact ⟨rfl,HD.o,HB2.o⟩
 ·rw [hl] at HQ
  clear hl;rw [if_pos rfl,if_pos rfl]
  go_enter func294,ntmps294
  go_wp2_with fail
  refine Calls.mono HQ.o ?_;rintro e w1 ⟨rfl,b1⟩;have HB:Hid (BW w w1):=b1;clear b1;go_wp2;go_ret;exact ⟨rfl,⟨v,HH.o.below HB.o⟩,HB.o.mono (Nat.le_of_lt HL.o)⟩
theorem Le {c:Cs} {x:Int} (h:0≤x):H0 c [] c.acq c.iss x=Bg c x:=by
 unfold H0 Bg
 by_cases h0:x=0
 ·rw [if_pos h0,if_neg (by omega)]
 ·rw [if_neg h0,if_pos (by omega)];rfl
theorem aO {c:Cs} {x:Int} (h:0≤x):H0 c [] c.iss c.acq x=Dw c x:=by
 unfold H0 Dw
 by_cases h0:x=0
 ·rw [if_pos h0,if_neg (by omega)]
 ·rw [if_neg h0,if_pos (by omega)];rfl
theorem eT (c:Cs) (es:List En) (f g s:Int):(H0 c es f g s).length≤es.length+1:=by unfold H0;split <;> simp
theorem S2 {b:Nat} {ao:Option Addr} {cp:Nat} {zs:List Int} {a:Ac} {t:Int} {c:Cs} {es:List En} {v:Value} {w:World} (h:DS b ao cp zs a t c es v w) :
  Calls prog 322 #[.pointer (some ⟨b,0,none⟩)] w fun e w'=>e=.returned (.int .i64 (Dd c a t))∧BW w w':=by
 have HH:Hid (DS b ao cp zs a t c es v w):=h
 have HQ:Hid (Calls prog 318 #[.pointer (some ⟨b,0,none⟩)] w fun e w'=>e=.returned (.bool (Bv t c.due))∧BW w w'):=Hn h
 clear h
 cases hl:Bv t c.due
 ·rw [hl] at HQ
  have HV:Hid (Dd c a t=if 1≤a.am∧a.am≤c.cl then 0 else 2):=if_neg (by rw [hl];decide)
  clear hl
  go_enter func322,ntmps322
  go_wp2_with fail
  refine Calls.mono HQ.o ?_;rintro e w1 ⟨rfl,b1⟩;have HB:Hid (BW w w1):=b1;have h:=HH.o.below b1;have c13:=h.db.a1;have c6:=h.db.cb.f6
  simp only [Nat.zero_add] at c6
  clear b1 h;obtain ⟨x,hx⟩:∃ x,a.am=x:=⟨_,rfl⟩;obtain ⟨y,hy⟩:∃ y,c.cl=y:=⟨_,rfl⟩;rw [hx] at c13 HV;rw [hy] at c6 HV;clear hx hy
  by_cases h1:x<1
  ·have HE:Hid (Dd c a t=2):=by rw [Hid,HV.o,if_neg (by omega)]
   go_wp2
   go_quiet (fail)
   all_goals
    go_wp2;go_ret;exact ⟨Af HE.o.symm,below_drewN HB.o _⟩
  ·by_cases h2:y<x
   ·have HE:Hid (Dd c a t=2):=by rw [Hid,HV.o,if_neg (by omega)]
    go_wp2
    go_quiet (fail)
    all_goals
     go_wp2;go_ret;exact ⟨Af HE.o.symm,below_drewN HB.o _⟩
   ·have HE:Hid (Dd c a t=0):=by rw [Hid,HV.o,if_pos (by omega)]
    go_wp2
    go_quiet (fail)
    all_goals
     go_wp2;go_ret;exact ⟨Af HE.o.symm,below_drewN HB.o _⟩
 ·rw [hl] at HQ
  have HV:Hid (Dd c a t=4):=if_pos hl;clear hl
  go_enter func322,ntmps322
  go_wp2_with fail
  refine Calls.mono HQ.o ?_;rintro e w1 ⟨rfl,b1⟩;have HB:Hid (BW w w1):=b1;clear b1;go_wp2;go_ret;exact ⟨Af HV.o.symm,HB.o⟩
theorem Na {b:Nat} {ao:Option Addr} {cp:Nat} {zs:List Int} {a:Ac} {t:Int} {c:Cs} {es:List En} {v:Value} {w:World} (h:DS b ao cp zs a t c es v w) (hl:es.length≤100) (s:Int) (h0:0≤s∧s≤1000000000000) (hb:0≤c.bk∧c.bk≤1000000000000) :
  Calls prog 323 #[.pointer (some ⟨b,0,none⟩),.int .i64 s] w (DR b ao cp zs a t w (.tuple #[]) ⟨c.iss,c.acq,c.cur,c.am,c.st,c.rsn,c.cl,c.bk+s,c.fee,c.cop,c.sta,c.due⟩ (H0 c es c.acq c.iss s)):=by
 have HH:Hid (DS b ao cp zs a t c es v w):=h;have HL:Hid (b<w.heap.size):=h.lt
 have HM:Hid (∀ u,BW w u→Calls prog 321 #[.pointer (some ⟨b,0,none⟩),.int .i64 c.acq,.int .i64 c.iss,.int .i64 s] u (DR b ao cp zs a t u (.tuple #[]) c (H0 c es c.acq c.iss s))):=fun u hu=>J1 (h.below hu) hl c.acq c.iss s
 have c0:=h.db.cb.f0;have c1:=h.db.cb.f1
 simp only [Nat.zero_add] at c0 c1
 obtain ⟨x,hx⟩:∃ x,c.acq=x:=⟨_,rfl⟩;obtain ⟨y,hy⟩:∃ y,c.iss=y:=⟨_,rfl⟩;obtain ⟨M,hM⟩:∃ M,H0 c es c.acq c.iss s=M:=⟨_,rfl⟩;rw [hM] at HM ⊢;rw [hx] at c1;rw [hy] at c0;rw [hx,hy] at HM;clear h hx hy hM;have b0:BW w w:=bR
 go_enter func323,ntmps323
 go_wp2_with fail
 go_region_with (go_at_call 321;(first | with_reducible refine (HM.o _ b0).mono ?_ | with_reducible refine (HM.o _ b0.drew).mono ?_);rintro e w1 ⟨rfl,D1,b1⟩;(first | (have HB:Hid (Below b w w1):=(Below.refl b w).trans b1) | (have HB:Hid (Below b w w1):=((Below.refl b w).drew).trans b1));obtain ⟨v1,d1⟩:=D1;have HD:Hid _:=d1;have q7:=d1.db.cb.f7;have y7:=d1.db.fz.z7;simp only [Nat.zero_add] at q7 y7;clear d1 b1)
 all_goals
  obtain ⟨z,hz⟩:∃ z,c.bk=z:=⟨_,rfl⟩;rw [hz] at q7 hb
  have HZ:Hid (z+s=c.bk+s):=by rw [Hid,hz]
  clear hz;go_wp2;go_end0
  exact ⟨rfl,⟨v1,by rw [← HZ.o];exact HD.o.set7 (z+s)⟩,HB.o.trans (Bn _ _ 7 _)⟩
theorem Z2 {b:Nat} {ao:Option Addr} {cp:Nat} {zs:List Int} {a:Ac} {t:Int} {c:Cs} {v:Value} {w:World} (h:DS b ao cp zs a t c [] v w) (hn:zs.length≤1099511627776) :
  Calls prog 292 #[.pointer (some ⟨b,0,none⟩)] w (DR b ao cp zs a t w (.int .i64 (Dd c a t)) (if Dd c a t=0 then ⟨c.iss,c.acq,c.cur,c.am,5,c.rsn,a.am,c.bk,c.fee,c.cop,c.sta,C6 t 15 zs⟩ else c) []):=by
 have HH:Hid (DS b ao cp zs a t c [] v w):=h;have HL:Hid (b<w.heap.size):=h.lt
 have HQ:Hid (Calls prog 322 #[.pointer (some ⟨b,0,none⟩)] w fun e w'=>e=.returned (.int .i64 (Dd c a t))∧BW w w'):=S2 h
 clear h;obtain ⟨r,hr⟩:∃ r,Dd c a t=r:=⟨_,rfl⟩;rw [hr] at HQ ⊢;clear hr
 by_cases h0:r=0
 ·subst h0
  rw [if_pos rfl]
  go_enter func292,ntmps292
  go_wp2_with fail
  refine Calls.mono HQ.o ?_;rintro e w1 ⟨rfl,b1⟩;have HB:Hid (BW w w1):=b1;have h:=HH.o.below b1;have c13:=h.db.a1;have c4:=h.db.cb.f4;have c6:=h.db.cb.f6;have z4:=h.db.fz.z4;have z6:=h.db.fz.z6
  simp only [Nat.zero_add] at c4 c6 z4 z6
  have HH1:Hid (DS b ao cp zs a t c [] v w1):=h;clear b1 h;go_wp2_with fail
  refine (Is ((HH1.o.set4 5).set6 a.am) hn 2 15 rfl).mono ?_;rintro e w2 ⟨rfl,D2,b2⟩;have HD:Hid _:=D2;have HB2:Hid (Below b w w2):=(((HB.o.mono (Nat.le_of_lt HL.o)).trans (Bn _ _ 4 _)).trans (Bn _ _ 6 _)).trans b2;clear D2 b2;go_wp2;go_ret;exact ⟨rfl,HD.o,HB2.o⟩
 ·rw [if_neg h0]
  have h0':(r != 0)=true:=by simpa using h0
  clear h0
  go_enter func292,ntmps292
  go_wp2_with fail
  refine Calls.mono HQ.o ?_;rintro e w1 ⟨rfl,b1⟩;have HB:Hid (BW w w1):=b1;clear b1;go_wp2;go_ret;exact ⟨rfl,⟨v,HH.o.below HB.o⟩,HB.o.mono (Nat.le_of_lt HL.o)⟩
theorem Rl {b:Nat} {ao:Option Addr} {cp:Nat} {zs:List Int} {a:Ac} {t:Int} {c:Cs} {v:Value} {w:World} (h:DS b ao cp zs a t c [] v w) (hb:0≤c.bk∧c.bk≤1000000000000) (hc:0≤c.cl∧c.cl≤1000000000000) :
  Calls prog 293 #[.pointer (some ⟨b,0,none⟩)] w (DR b ao cp zs a t w (.int .i64 0) (I5 c c.cl) (Bg c c.cl)):=by
 have HH:Hid (DS b ao cp zs a t c [] v w):=h
 have HG:Hid (Calls prog 323 #[.pointer (some ⟨b,0,none⟩),.int .i64 c.cl] w (DR b ao cp zs a t w (.tuple #[]) ⟨c.iss,c.acq,c.cur,c.am,c.st,c.rsn,c.cl,c.bk+c.cl,c.fee,c.cop,c.sta,c.due⟩ (Bg c c.cl))):=by
  have g:=Na h (Nat.zero_le _) c.cl hc hb;rw [Le hc.1] at g;exact g
 have c6:=h.db.cb.f6
 simp only [Nat.zero_add] at c6
 clear h
 go_enter func293,ntmps293
 go_wp2_with fail
 refine Calls.mono HG.o ?_;rintro e w1 ⟨rfl,⟨v1,D1⟩,b1⟩;have HD:Hid (DS b ao cp zs a t ⟨c.iss,c.acq,c.cur,c.am,c.st,c.rsn,c.cl,c.bk+c.cl,c.fee,c.cop,c.sta,c.due⟩ (Bg c c.cl) v1 w1):=D1;have HB:Hid (Below b w w1):=b1;clear D1 b1;go_wp2_with fail
 refine (Pn HD.o 5 (.inl rfl)).mono ?_;rintro e w2 ⟨rfl,D2,b2⟩;have HD2:Hid _:=D2;have HB2:Hid (Below b w w2):=HB.o.trans b2;clear D2 b2;go_wp2;go_ret;exact ⟨rfl,HD2.o,HB2.o⟩
theorem O6 {b:Nat} {ao:Option Addr} {cp:Nat} {zs:List Int} {a:Ac} {t:Int} {c:Cs} {v:Value} {w:World} (h:DS b ao cp zs a t c [] v w) (s:Int) (hs:0≤s∧s≤1000000000000) (hb:0≤c.bk∧c.bk≤1000000000000) (hf:0≤c.fee∧c.fee≤1000000) :
  Calls prog 325 #[.pointer (some ⟨b,0,none⟩),.int .i64 s] w (DR b ao cp zs a t w (.int .i64 0) (Es c s) (Dg c s)):=by
 have HH:Hid (DS b ao cp zs a t c [] v w):=h;have HL:Hid (b<w.heap.size):=h.lt
 have HG:Hid (Calls prog 323 #[.pointer (some ⟨b,0,none⟩),.int .i64 s] w (DR b ao cp zs a t w (.tuple #[]) ⟨c.iss,c.acq,c.cur,c.am,c.st,c.rsn,c.cl,c.bk+s,c.fee,c.cop,c.sta,c.due⟩ (Bg c s))):=by
  have g:=Na h (Nat.zero_le _) s hs hb;rw [Le hs.1] at g;exact g
 have HT:Hid ((Bg c s).length≤100):=by rw [Hid,← Le hs.1];have:=eT c [] c.acq c.iss s;simp only [List.length_nil] at this;omega
 have c0:=h.db.cb.f0;have c1:=h.db.cb.f1;have c6:=h.db.cb.f6
 simp only [Nat.zero_add] at c0 c1 c6
 obtain ⟨y,hy⟩:∃ y,c.cl=y:=⟨_,rfl⟩;have HY:Hid _:=hy;rw [hy] at c6;obtain ⟨lo,hlo⟩:∃ lo,Oo c s=lo:=⟨_,rfl⟩;have HLO:Hid _:=hlo
 have HE:Hid (Dg c s=Bg c s++[(lo,9999,c.cur,50000)]):=by rw [Hid,Dg,hlo]
 obtain ⟨fe,hfe⟩:∃ fe,c.fee=fe:=⟨_,rfl⟩;have HFE:Hid _:=hfe;rw [hfe] at hf;clear h hy hlo hfe hb
 by_cases hc:y≤2*s
 ·have HA:Hid (lo=c.acq):=by rw [Hid,← HLO.o,Oo,HY.o,if_pos hc]
  go_enter func325,ntmps325
  go_wp2_with fail
  refine Calls.mono HG.o ?_;rintro e w1 ⟨rfl,⟨v1,D1⟩,b1⟩;have HD:Hid (DS b ao cp zs a t ⟨c.iss,c.acq,c.cur,c.am,c.st,c.rsn,c.cl,c.bk+s,c.fee,c.cop,c.sta,c.due⟩ (Bg c s) v1 w1):=D1;have HB:Hid (Below b w w1):=b1;clear D1 b1;go_wp2_with fail
  refine (J1 HD.o HT.o _ 9999 50000).mono ?_;rintro e w2 ⟨rfl,⟨v2,D2⟩,b2⟩;have HB2:Hid (Below b w w2):=HB.o.trans b2;have c8:=D2.db.cb.f8;have z8:=D2.db.fz.z8
  simp only [Nat.zero_add] at c8 z8
  rw [HFE.o] at c8;have HD2:Hid _:=D2;clear D2 b2;go_wp2_with fail
  refine (Pn (HD2.o.set8 (fe+50000)) 7 (.inr (.inl rfl))).mono ?_;rintro e w3 ⟨rfl,⟨v3,D3⟩,b3⟩;have HD3:Hid _:=D3;have HB3:Hid (Below b w w3):=(HB2.o.trans (Bn _ _ 8 _)).trans b3;clear D3 b3;go_wp2;go_ret;refine ⟨rfl,⟨v3,?_⟩,HB3.o⟩;rw [HE.o,HA.o,Es,HFE.o];exact HD3.o
 ·have HA:Hid (lo=c.iss):=by rw [Hid,← HLO.o,Oo,HY.o,if_neg hc]
  go_enter func325,ntmps325
  go_wp2_with fail
  refine Calls.mono HG.o ?_;rintro e w1 ⟨rfl,⟨v1,D1⟩,b1⟩;have HD:Hid (DS b ao cp zs a t ⟨c.iss,c.acq,c.cur,c.am,c.st,c.rsn,c.cl,c.bk+s,c.fee,c.cop,c.sta,c.due⟩ (Bg c s) v1 w1):=D1;have HB:Hid (Below b w w1):=b1;clear D1 b1;go_wp2_with fail
  refine (J1 HD.o HT.o _ 9999 50000).mono ?_;rintro e w2 ⟨rfl,⟨v2,D2⟩,b2⟩;have HB2:Hid (Below b w w2):=HB.o.trans b2;have c8:=D2.db.cb.f8;have z8:=D2.db.fz.z8
  simp only [Nat.zero_add] at c8 z8
  rw [HFE.o] at c8;have HD2:Hid _:=D2;clear D2 b2;go_wp2_with fail
  refine (Pn (HD2.o.set8 (fe+50000)) 7 (.inr (.inl rfl))).mono ?_;rintro e w3 ⟨rfl,⟨v3,D3⟩,b3⟩;have HD3:Hid _:=D3;have HB3:Hid (Below b w w3):=(HB2.o.trans (Bn _ _ 8 _)).trans b3;clear D3 b3;go_wp2;go_ret;refine ⟨rfl,⟨v3,?_⟩,HB3.o⟩;rw [HE.o,HA.o,Es,HFE.o];exact HD3.o
theorem mB {b:Nat} {ao:Option Addr} {cp:Nat} {zs:List Int} {a:Ac} {t:Int} {c:Cs} {v:Value} {w:World} (h:DS b ao cp zs a t c [] v w) (hb:0≤c.bk∧c.bk≤1000000000000) (hc:0≤c.cl∧c.cl≤1000000000000) (hf:0≤c.fee∧c.fee≤1000000) :
  Calls prog 295 #[.pointer (some ⟨b,0,none⟩)] w (DR b ao cp zs a t w (.int .i64 (if 0≤a.am∧a.am≤c.cl then 0 else 2)) (if 0≤a.am∧a.am≤c.cl then Es c a.am else c) (if 0≤a.am∧a.am≤c.cl then Dg c a.am else [])):=by
 have HH:Hid (DS b ao cp zs a t c [] v w):=h;have HL:Hid (b<w.heap.size):=h.lt;have c13:=h.db.a1;have c6:=h.db.cb.f6
 simp only [Nat.zero_add] at c6
 have HG:Hid (0≤a.am∧a.am≤c.cl→∀ u,BW w u→Calls prog 325 #[.pointer (some ⟨b,0,none⟩),.int .i64 a.am] u (DR b ao cp zs a t u (.int .i64 0) (Es c a.am) (Dg c a.am))):=fun hx u hu=>O6 (h.below hu) a.am ⟨hx.1,by omega⟩ hb hf
 clear h hb hf
 by_cases hx:0≤a.am∧a.am≤c.cl
 ·rw [if_pos hx,if_pos hx,if_pos hx]
  have HG':Hid (∀ u,BW w u→Calls prog 325 #[.pointer (some ⟨b,0,none⟩),.int .i64 a.am] u (DR b ao cp zs a t u (.int .i64 0) (Es c a.am) (Dg c a.am))):=HG.o hx;obtain ⟨x,hxx⟩:∃ x,a.am=x:=⟨_,rfl⟩;obtain ⟨y,hyy⟩:∃ y,c.cl=y:=⟨_,rfl⟩;obtain ⟨C,hC⟩:∃ C,Es c a.am=C:=⟨_,rfl⟩;obtain ⟨E,hE⟩:∃ E,Dg c a.am=E:=⟨_,rfl⟩;rw [hC,hE] at HG' ⊢;rw [hxx] at c13 hx HG';rw [hyy] at c6 hx;obtain ⟨h1,h2⟩:=hx;clear hxx hyy hC hE HG hc;have b0:BW w w:=bR
  go_enter func295,ntmps295
  go_wp2
  go_quiet (fail)
  all_goals
   go_wp2_with fail
   refine (HG'.o _ (below_drewN b0 _)).mono ?_;rintro e w1 ⟨rfl,D1,b1⟩;have HD1:Hid _:=D1;have HB1:Hid (Below b w w1):=(below_drewN (Below.refl b w) _).trans b1;clear D1 b1;go_wp2;go_ret;exact ⟨rfl,HD1.o,HB1.o⟩
 ·rw [if_neg hx,if_neg hx,if_neg hx]
  obtain ⟨x,hxx⟩:∃ x,a.am=x:=⟨_,rfl⟩;obtain ⟨y,hyy⟩:∃ y,c.cl=y:=⟨_,rfl⟩;rw [hxx] at c13 hx;rw [hyy] at c6 hx;clear hxx hyy HG hc
  by_cases h1:x<0
  ·clear hx
   go_enter func295,ntmps295
   go_wp2
   go_quiet (fail)
   all_goals
    go_wp2;go_ret;exact ⟨rfl,⟨v,HH.o.below (below_drewN bR _)⟩,below_drewN bR _⟩
  ·have h2:y<x:=by omega
   clear hx
   go_enter func295,ntmps295
   go_wp2
   go_quiet (fail)
   all_goals
    go_wp2;go_ret;exact ⟨rfl,⟨v,HH.o.below (below_drewN bR _)⟩,below_drewN bR _⟩
end Go.Proofs.YtomiclakhjncbaaGreatDoor
namespace Go.Proofs.YtomiclakhjncbaaGreatDoor.Kb
open Go.RowKit Go.Extern.Stop Go.Stop Go.Extern Go.Proofs.Tryz
theorem vQ (t:Addr) (w:World):(ReflectliteValue.unpack (.iface 172 (.pointer (some t)))).run prog w
  = .ok (.agg #[.pointer (some ⟨17,172,none⟩),.pointer (some ⟨w.heap.size,0,none⟩),.int .u64 150]) (w.alloc (.cells #[.pointer (some t)] 172)):=by kernel_rfl
theorem xX (a : Addr) (w : World) : (ReflectliteValue.methodAny (ReflectliteValue.valueError "reflectlite.Value.Type" 0) (fun t _ _ _ => ReflectliteType.toType t) #[.agg #[.pointer (some ⟨17, 172, none⟩), .pointer (some a), .int .u64 150]]).run prog w
  = .ok (.iface 247 (.agg #[.pointer (some ⟨17,172,none⟩)])) w:=by kernel_rfl
theorem uO (h : Value) (w : World) : (Go.method 501 247 (.agg #[h]) "Kind").run prog w = .ok (376, h) w := by kernel_rfl
theorem xZ (w:World):((ReflectliteType.abiMethod fun t=>(fun a:Nat=>Value.int IntKind.u8 (a:Int)) <$> Rtype.kind t) #[.pointer (some ⟨17,172,none⟩)]).run prog w=.ok (.int .u8 22) w:=by kernel_rfl
theorem yS (w:World):((ReflectliteType.abiMethod fun t=>(fun a:Nat=>Value.int IntKind.u8 (a:Int)) <$> Rtype.kind t) #[.pointer (some ⟨17,170,none⟩)]).run prog w=.ok (.int .u8 25) w:=by kernel_rfl
theorem yM (z:Sem Value) (f:TypeId→Addr→Nat→Nat→Sem Value) (v:Value) :
  ReflectliteValue.method z f #[v]=(do match ← ReflectliteValue.parts v with | none=>z | some (t,a,fl)=>f t a fl (fl % 32)):=rfl
theorem uT (a:Addr) (w:World):(ReflectliteValue.parts (.agg #[.pointer (some ⟨17,172,none⟩),.pointer (some a),.int .u64 150])).run prog w=.ok (some (172,a,150)) w:=by kernel_rfl
theorem xL (a p:Addr) (W:World) (ha:W.cell? a=some (.pointer (some p))) :
  (ReflectliteValue.method (ReflectliteValue.valueError "reflectlite.Value.IsNil" 0) ReflectliteValue.isNil #[.agg #[.pointer (some ⟨17, 172, none⟩), .pointer (some a), .int .u64 150]]).run prog W = .ok (.bool false) W := by
 rw [yM]
 simp only [Sem.run_bind,uT,Result.andThen]
 simp [ReflectliteValue.isNil,loadVar,isAgg,underlying,underlying172,ha,Result.andThen]
theorem uL (h : Value) (w : World) : (Go.method 501 247 (.agg #[h]) "Elem").run prog w = .ok (391, .agg #[h]) w := by kernel_rfl
theorem mR (h : Value) (w : World) : (Go.method 501 247 (.agg #[h]) "Implements").run prog w = .ok (392, .agg #[h]) w := by kernel_rfl
theorem S8 (h : Value) (w : World) : (Go.method 501 247 (.agg #[h]) "AssignableTo").run prog w = .ok (389, .agg #[h]) w := by kernel_rfl
theorem yE (w:World):(ReflectliteType.method ReflectliteType.elem #[.agg #[.pointer (some ⟨17,172,none⟩)]]).run prog w=.ok (.iface 247 (.agg #[.pointer (some ⟨17,170,none⟩)])) w:=by kernel_rfl
theorem yG (w : World) : (ReflectliteType.relation "Implements" ReflectliteType.implements_ #[.agg #[.pointer (some ⟨17, 170, none⟩)], .iface 247 (.agg #[.pointer (some ⟨17, 104, none⟩)])]).run prog w = .ok (.bool true) w := by kernel_rfl
theorem wH (v:Value) (w:World):(ReflectliteType.typeOf #[.iface 170 v]).run prog w=.ok (.iface 247 (.agg #[.pointer (some ⟨17,170,none⟩)])) w:=by kernel_rfl
theorem yD (w : World) : (ReflectliteType.relation "AssignableTo" ReflectliteType.assignableTo #[.agg #[.pointer (some ⟨17, 170, none⟩)], .iface 247 (.agg #[.pointer (some ⟨17, 170, none⟩)])]).run prog w = .ok (.bool true) w := by kernel_rfl
theorem vO (tp:TypeId) (y:Value) (a:Int) (w:World):(ReflectliteValue.unpack (.iface 170 (.agg #[.iface tp y,.int .i64 a]))).run prog w
  = .ok (.agg #[.pointer (some ⟨17,170,none⟩),.pointer (some ⟨w.heap.size,0,none⟩),.int .u64 153]) (w.alloc (.cells #[.iface tp y,.int .i64 a] 170)):=by kernel_rfl
theorem wG (w:World):(Rtype.elem? 172).run prog w=.ok (some 170) w:=by kernel_rfl
theorem Aar (p:Addr) (w:World):(ReflectliteValue.mk 170 p ReflectliteValue.flagAddr).run prog w=.ok (.agg #[.pointer (some ⟨17,170,none⟩),.pointer (some p),.int .u64 409]) w:=by kernel_rfl
theorem wT (a p:Addr) (W:World) (ha:W.cell? a=some (.pointer (some p))) :
  (ReflectliteValue.method (ReflectliteValue.valueError "reflectlite.Value.Elem" 0) ReflectliteValue.elem #[.agg #[.pointer (some ⟨17, 172, none⟩), .pointer (some a), .int .u64 150]]).run prog W
   = .ok (.agg #[.pointer (some ⟨17,170,none⟩),.pointer (some p),.int .u64 409]) W:=by
 rw [yM]
 simp only [Sem.run_bind,uT,Result.andThen]
 simp [ReflectliteValue.elem,loadVar,isAgg,underlying,underlying172,ha,Result.andThen,wG,Aar]
theorem Aau (v x:Value):ReflectliteValue.set #[v,x]=(do
  let (some (dst,a,fl),some (src,b,_)):=(← ReflectliteValue.parts v,← ReflectliteValue.parts x)
   | unsupported (.noEntry "extern/(internal/reflectlite.Value).Set.zeroValue")
  if fl / ReflectliteValue.flagAddr % 2 == 0 then unsupported (.noEntry "extern/(internal/reflectlite.Value).Set.unaddressable")
  let val ← loadVar src b
  if ← Rtype.directlyAssignable dst src then storeVar dst a val
  else if ← Rtype.implements dst src then
   if (← Rtype.kind src) == 20 then
    match val with
    | .nilIface => unsupported (.noEntry "extern/reflectlite: a nil value of one interface type handed on as a value of another")
    | _=>storeVar dst a val
   else storeVar dst a (.iface src val)
  else panicString ("reflectlite.Set: value of type " ++ (← Rtype.spelt src) ++ " is not assignable to type " ++ (← Rtype.spelt dst))
  pure (.tuple #[])):=rfl
theorem xA (a:Addr) (w:World):(ReflectliteValue.parts (.agg #[.pointer (some ⟨17,170,none⟩),.pointer (some a),.int .u64 409])).run prog w=.ok (some (170,a,409)) w:=by kernel_rfl
theorem wY (a:Addr) (w:World):(ReflectliteValue.parts (.agg #[.pointer (some ⟨17,170,none⟩),.pointer (some a),.int .u64 153])).run prog w=.ok (some (170,a,153)) w:=by kernel_rfl
theorem vX (w:World):(Rtype.directlyAssignable 170 170).run prog w=.ok true w:=by kernel_rfl
theorem zO (B:Nat) (tp:TypeId) (y:Value) (a:Int) (W:World) (h0:W.cell? ⟨B,0,none⟩=some (.iface tp y)) (h1:W.cell? ⟨B,1,none⟩=some (.int .i64 a)) :
  (loadVar 170 ⟨B,0,none⟩).run prog W=.ok (.agg #[.iface tp y,.int .i64 a]) W:=by
 simp [loadVar,isAgg,underlying,underlying170,loadCells,loadCellsFrom,Addr.add,h0,h1,Result.andThen]
theorem yR (T:Nat) (tp:TypeId) (y:Value) (a:Int) (o0 o1:Value) (W:World) (h0:W.cell? ⟨T,0,none⟩=some o0) (h1:W.cell? ⟨T,1,none⟩=some o1) (f0:W.frozen? ⟨T,0,none⟩=false) (f1:W.frozen? ⟨T,1,none⟩=false) :
  (storeVar 170 ⟨T,0,none⟩ (.agg #[.iface tp y,.int .i64 a])).run prog W=.ok () ((W.setCell ⟨T,0,none⟩ (.iface tp y)).setCell ⟨T,1,none⟩ (.int .i64 a)):=by
 simp [storeVar,Value.cells,storeCells,Addr.add,Result.andThen,h0,h1,f0,f1,go_sem]
theorem zB (T B:Nat) (tp:TypeId) (y:Value) (a:Int) (o0 o1:Value) (W:World) (hb0:W.cell? ⟨B,0,none⟩=some (.iface tp y)) (hb1:W.cell? ⟨B,1,none⟩=some (.int .i64 a)) (h0:W.cell? ⟨T,0,none⟩=some o0) (h1:W.cell? ⟨T,1,none⟩=some o1) (f0:W.frozen? ⟨T,0,none⟩=false) (f1:W.frozen? ⟨T,1,none⟩=false) :
  (ReflectliteValue.set #[.agg #[.pointer (some ⟨17,170,none⟩),.pointer (some ⟨T,0,none⟩),.int .u64 409],.agg #[.pointer (some ⟨17,170,none⟩),.pointer (some ⟨B,0,none⟩),.int .u64 153]]).run prog W
   = .ok (.tuple #[]) ((W.setCell ⟨T,0,none⟩ (.iface tp y)).setCell ⟨T,1,none⟩ (.int .i64 a)):=by
 rw [Aau]
 simp only [Sem.run_bind,xA,wY,Result.andThen]
 simp [ReflectliteValue.flagAddr,zO B tp y a W hb0 hb1,vX,yR T tp y a o0 o1 W h0 h1 f0 f1,Result.andThen]
def R4 (w:World):Prop:=w.cell? ⟨2,0,none⟩=some (.iface 247 (.agg #[.pointer (some ⟨17,104,none⟩)]))
theorem R4.below {w w':World} (h:R4 w) (hb:BW w w'):R4 w':=(hb.cell (p:=⟨2,0,none⟩) (World.block_lt_of_cell? w _ h)).trans h
theorem Aas (tp:TypeId) (y:Value) (a:Int) (T:Nat) (o0 o1:Value) (w:World) (hg:R4 w) (h0:w.cell? ⟨T,0,none⟩=some o0) (h1:w.cell? ⟨T,1,none⟩=some o1) (f0:w.frozen? ⟨T,0,none⟩=false) (f1:w.frozen? ⟨T,1,none⟩=false) :
  Calls prog 136 #[.iface 170 (.agg #[.iface tp y,.int .i64 a]),.iface 172 (.pointer (some ⟨T,0,none⟩))] w fun ev w'=>ev=.returned (.bool true) ∧
   ∃ w4,BW w w4∧w'=(w4.setCell ⟨T,0,none⟩ (.iface tp y)).setCell ⟨T,1,none⟩ (.int .i64 a):=by
 have h76:=@run_callFunc_extern prog 168 _ (fun args=>ReflectliteValue.unpack (args.getD 0 (.tuple #[]))) func168 (by kernel_rfl) (by kernel_rfl) (by kernel_rfl) (by kernel_rfl)
 have h77 := @run_callFunc_extern prog 169 _ (ReflectliteValue.methodAny (ReflectliteValue.valueError "reflectlite.Value.Type" 0) (fun t _ _ _ => ReflectliteType.toType t)) func169 (by kernel_rfl) (by kernel_rfl) (by kernel_rfl) (by kernel_rfl)
 have h78 := @run_callFunc_extern prog 170 _ (ReflectliteValue.method (ReflectliteValue.valueError "reflectlite.Value.IsNil" 0) ReflectliteValue.isNil) func170 (by kernel_rfl) (by kernel_rfl) (by kernel_rfl) (by kernel_rfl)
 have hKd:=@run_callFunc_extern prog 376 _ (ReflectliteType.abiMethod fun t=>do pure (.int .u8 (← Rtype.kind t))) func376 (by kernel_rfl) (by kernel_rfl) (by kernel_rfl) (by kernel_rfl)
 have hEl:=@run_callFunc_extern prog 391 _ (ReflectliteType.method ReflectliteType.elem) func391 (by kernel_rfl) (by kernel_rfl) (by kernel_rfl) (by kernel_rfl)
 have hIm := @run_callFunc_extern prog 392 _ (ReflectliteType.relation "Implements" ReflectliteType.implements_) func392 (by kernel_rfl) (by kernel_rfl) (by kernel_rfl) (by kernel_rfl)
 have hTO:=@run_callFunc_extern prog 164 _ ReflectliteType.typeOf func164 (by kernel_rfl) (by kernel_rfl) (by kernel_rfl) (by kernel_rfl)
 have hAs := @run_callFunc_extern prog 389 _ (ReflectliteType.relation "AssignableTo" ReflectliteType.assignableTo) func389 (by kernel_rfl) (by kernel_rfl) (by kernel_rfl) (by kernel_rfl)
 have hVE := @run_callFunc_extern prog 204 _ (ReflectliteValue.method (ReflectliteValue.valueError "reflectlite.Value.Elem" 0) ReflectliteValue.elem) func204 (by kernel_rfl) (by kernel_rfl) (by kernel_rfl) (by kernel_rfl)
 have hVS:=@run_callFunc_extern prog 205 _ ReflectliteValue.set func205 (by kernel_rfl) (by kernel_rfl) (by kernel_rfl) (by kernel_rfl)
 have tO:=wH;have mA:=S8;have aS:=yD;have vS:=vO;have vP:=vQ;have tP:=xX;have mK:=uO;have mE:=uL;have mI:=mR;have kP:=xZ;have kS:=yS;have eP:=yE;have iS:=yG;obtain ⟨W1,hW1⟩:∃ W,(w.alloc (.cells #[.pointer (some ⟨T,0,none⟩)] 172)).alloc (.cells #[.pointer (some ⟨17,172,none⟩),.pointer (some ⟨w.heap.size,0,none⟩),.int .u64 150] 206)=W:=⟨_,rfl⟩;have hT:T<w.heap.size:=World.block_lt_of_cell? w _ h0;have hG:2<w.heap.size:=World.block_lt_of_cell? w _ hg
 have n8:=xL ⟨w.heap.size,0,none⟩ ⟨T,0,none⟩ W1 (by rw [← hW1];simp)
 have hg2:W1.cell? ⟨2,0,none⟩=some (.iface 247 (.agg #[.pointer (some ⟨17,104,none⟩)])):=by
  rw [← hW1,World.cell?_alloc_lt _ _ ⟨2,0,none⟩ (by have:=hG;simp only [World.size_alloc];omega),World.cell?_alloc_lt _ _ ⟨2,0,none⟩ hG];exact hg
 have el:=wT ⟨w.heap.size,0,none⟩ ⟨T,0,none⟩ (W1.alloc (.cells #[.pointer (some ⟨17,172,none⟩),.pointer (some ⟨w.heap.size,0,none⟩),.int .u64 150] 206)) (by rw [World.cell?_alloc_lt _ _ ⟨w.heap.size,0,none⟩ (by rw [← hW1];simp;omega),← hW1];simp)
 subst hW1
 have st:=zB T (w.heap.size+1+1+1) tp y a o0 o1 ((((w.alloc (.cells #[.pointer (some ⟨T,0,none⟩)] 172)).alloc (.cells #[.pointer (some ⟨17,172,none⟩),.pointer (some ⟨w.heap.size,0,none⟩),.int .u64 150] 206)).alloc (.cells #[.pointer (some ⟨17,172,none⟩),.pointer (some ⟨w.heap.size,0,none⟩),.int .u64 150] 206)).alloc (.cells #[.iface tp y,.int .i64 a] 170))
  (by rw [World.cell?_alloc_at _ _ _ _ (by simp)];rfl)
  (by rw [World.cell?_alloc_at _ _ _ _ (by simp)];rfl)
  (by rw [World.cell?_alloc_lt _ _ ⟨T,0,none⟩ (by simp;omega),World.cell?_alloc_lt _ _ ⟨T,0,none⟩ (by simp;omega),World.cell?_alloc_lt _ _ ⟨T,0,none⟩ (by simp;omega),World.cell?_alloc_lt _ _ ⟨T,0,none⟩ hT];exact h0)
  (by rw [World.cell?_alloc_lt _ _ ⟨T,1,none⟩ (by simp;omega),World.cell?_alloc_lt _ _ ⟨T,1,none⟩ (by simp;omega),World.cell?_alloc_lt _ _ ⟨T,1,none⟩ (by simp;omega),World.cell?_alloc_lt _ _ ⟨T,1,none⟩ hT];exact h1)
  (by rw [World.frozen?_alloc_old _ _ ⟨T,0,none⟩ (by simp;omega),World.frozen?_alloc_old _ _ ⟨T,0,none⟩ (by simp;omega),World.frozen?_alloc_old _ _ ⟨T,0,none⟩ (by simp;omega),World.frozen?_alloc_old _ _ ⟨T,0,none⟩ (Nat.ne_of_lt hT)];exact f0)
  (by rw [World.frozen?_alloc_old _ _ ⟨T,1,none⟩ (by simp;omega),World.frozen?_alloc_old _ _ ⟨T,1,none⟩ (by simp;omega),World.frozen?_alloc_old _ _ ⟨T,1,none⟩ (by simp;omega),World.frozen?_alloc_old _ _ ⟨T,1,none⟩ (Nat.ne_of_lt hT)];exact f1)
 have HB:Hid (Below w.heap.size w ((((w.alloc (.cells #[.pointer (some ⟨T,0,none⟩)] 172)).alloc (.cells #[.pointer (some ⟨17,172,none⟩),.pointer (some ⟨w.heap.size,0,none⟩),.int .u64 150] 206)).alloc (.cells #[.pointer (some ⟨17,172,none⟩),.pointer (some ⟨w.heap.size,0,none⟩),.int .u64 150] 206)).alloc (.cells #[.iface tp y,.int .i64 a] 170))) :=
  (((bR.alloc nL _).alloc (by simp) _).alloc (by simp;omega) _).alloc (by simp;omega) _
 go_enter func136,ntmps136
 go_wp2;refine wp_loop_rounds 1 ?_;rw [rounds_succ];go_wp2;go_ret;exact ⟨rfl,_,HB.o,rfl⟩
end Go.Proofs.YtomiclakhjncbaaGreatDoor.Kb
namespace Go.Proofs.YtomiclakhjncbaaGreatDoor.Kb
open Go.RowKit Go.Proofs.Tryz
theorem Aav (T:Nat) (w:World) :
  Calls prog 136 #[.nilIface,.iface 172 (.pointer (some ⟨T,0,none⟩))] w fun ev w'=>ev=.returned (.bool false)∧BW w w':=by
 go_enter func136,ntmps136
 go_wp2;go_ret;exact ⟨rfl,bR⟩
theorem yJ (w:World):Calls prog 82 #[.nilIface] w fun e w'=>e=.returned (.int .i64 0)∧BW w w':=by
 go_enter func82,ntmps82
 go_wp2_with fail
 refine (Aav _ _).mono ?_;rintro e w1 ⟨rfl,b1⟩
 have h:=next (show Below w.heap.size w (w.alloc (.cells #[.nilIface,.int .i64 0] 170)) by go_grown) b1
 clear b1;go_wp2;go_ret;exact ⟨rfl,h⟩
theorem xD (tp:TypeId) (y:Value) (a:Int) (w:World) (hg:R4 w):Calls prog 82 #[.iface 170 (.agg #[.iface tp y,.int .i64 a])] w fun e w'=>e=.returned (.int .i64 a)∧BW w w':=by
 obtain ⟨W,hW⟩:∃ W,W=w.alloc (.cells #[.nilIface,.int .i64 0] 170):=⟨_,rfl⟩
 have bW:BW w W:=by rw [hW];exact bR.alloc nL _
 have h0:W.cell? ⟨w.heap.size,0,none⟩=some .nilIface:=by rw [hW];simp [go_sem]
 have h1:W.cell? ⟨w.heap.size,1,none⟩=some (.int .i64 0):=by rw [hW];simp [go_sem]
 have f0:W.frozen? ⟨w.heap.size,0,none⟩=false:=by rw [hW];simp [go_sem]
 have f1:W.frozen? ⟨w.heap.size,1,none⟩=false:=by rw [hW];simp [go_sem]
 have hs:w.heap.size<W.heap.size:=World.block_lt_of_cell? W _ h0;have HA:=Aas tp y a w.heap.size _ _ W (hg.below bW) h0 h1 f0 f1;have HW:Hid _:=hW;have HB:Hid _:=bW;clear hW bW hg
 go_enter func82,ntmps82
 go_upto_region 2 with fail
 rw [← HW.o];clear HW;go_wp2_with fail
 refine HA.mono ?_;rintro e w1 ⟨rfl,w4,b4,rfl⟩;have c1:=(b4.cell (p:=⟨w.heap.size,1,none⟩) hs).trans h1;have c0:=(b4.cell (p:=⟨w.heap.size,0,none⟩) hs).trans h0;have h:=(HB.o.trans (b4.mono (Nat.le_of_lt hs)));clear h0 h1 f0 f1 HA b4;go_wp2;go_ret;exact ⟨rfl,(h.setCell (p:=⟨w.heap.size,0,none⟩) nL _).setCell (p:=⟨w.heap.size,1,none⟩) nL _⟩
end Go.Proofs.YtomiclakhjncbaaGreatDoor.Kb
namespace Go.Proofs.YtomiclakhjncbaaGreatDoor
open Go.RowKit Go.Proofs.Tryz
structure AB (h:Nat) (a:Ac) (u:World):Prop where
 c0:u.cell? ⟨h,0,none⟩=some (.int .i64 a.kind)
 c1:u.cell? ⟨h,1,none⟩=some (.int .i64 a.am)
 c2:u.cell? ⟨h,2,none⟩=some (.int .i64 a.rsn)
 z0:u.frozen? ⟨h,0,none⟩=false
 z1:u.frozen? ⟨h,1,none⟩=false
 z2:u.frozen? ⟨h,2,none⟩=false
theorem AB.lt {h:Nat} {a:Ac} {u:World} (x:AB h a u):h<u.heap.size:=World.block_lt_of_cell? u _ x.c0
theorem AB.grown {h:Nat} {a:Ac} {u u':World} {row:Option Nat} (x:AB h a u) (g:u.grownBy u' row) (hr:some h≠row):AB h a u':=by
 have l:=x.lt;exact ⟨(g.cell_far ⟨h,0,none⟩ l hr).trans x.c0,(g.cell_far ⟨h,1,none⟩ l hr).trans x.c1,(g.cell_far ⟨h,2,none⟩ l hr).trans x.c2,(g.frozen_far ⟨h,0,none⟩ l hr).trans x.z0,(g.frozen_far ⟨h,1,none⟩ l hr).trans x.z1,(g.frozen_far ⟨h,2,none⟩ l hr).trans x.z2⟩
theorem AB.new (w:World) (a:Ac) (t:TypeId):AB w.heap.size a (w.alloc (.cells #[.int .i64 a.kind,.int .i64 a.am,.int .i64 a.rsn] t)) :=
 ⟨by simp,by simp,by simp,by simp [go_sem],by simp [go_sem],by simp [go_sem]⟩
theorem AB.set0 {h:Nat} {a:Ac} {u:World} (q:AB h a u) (x:Int):AB h ⟨x,a.am,a.rsn⟩ (u.setCell ⟨h,0,none⟩ (.int .i64 x)):=by
 obtain ⟨c0,c1,c2,z0,z1,z2⟩:=q
 constructor<;>simp [go_sem, *]
theorem AB.set1 {h:Nat} {a:Ac} {u:World} (q:AB h a u) (x:Int):AB h ⟨a.kind,x,a.rsn⟩ (u.setCell ⟨h,1,none⟩ (.int .i64 x)):=by
 obtain ⟨c0,c1,c2,z0,z1,z2⟩:=q
 constructor<;>simp [go_sem, *]
theorem AB.set2 {h:Nat} {a:Ac} {u:World} (q:AB h a u) (x:Int):AB h ⟨a.kind,a.am,x⟩ (u.setCell ⟨h,2,none⟩ (.int .i64 x)):=by
 obtain ⟨c0,c1,c2,z0,z1,z2⟩:=q
 constructor<;>simp [go_sem, *]
structure AS (B g:Nat) (w:World) (k:Cs) (h:Nat) (a:Ac) (u:World):Prop where
 cb:CB w.heap.size 0 k u
 rb:AB (w.heap.size+1) ⟨0,0,0⟩ u
 ab:AB h a u
 cur:A2 B u g
 gr:w.grownBy u (some g)
 gl:g<w.heap.size
 hl:w.heap.size+1<h
 bl:B≤w.heap.size
theorem AS.call {B g:Nat} {w:World} {k:Cs} {h:Nat} {a:Ac} {u u':World} (q:AS B g w k h a u) (c:A2 B u' g) (r:u.grownBy u' (some g)):AS B g w k h a u' :=
 ⟨q.cb.grown r (by have:=q.gl;simp;omega),q.rb.grown r (by have:=q.gl;simp;omega),q.ab.grown r (by have:=q.gl;have:=q.hl;simp;omega),c,q.gr.trans r,q.gl,q.hl,q.bl⟩
theorem AS.alloc {B g:Nat} {w:World} {k:Cs} {h:Nat} {a:Ac} {u:World} (q:AS B g w k h a u) (o:Obj):AS B g w k h a (u.alloc o) :=
 q.call (A3 q.cur o) (World.grownBy_alloc u o _)
theorem AS.at {B g:Nat} {w:World} {k:Cs} {h:Nat} {a a':Ac} {u:World} (q:AS B g w k h a u) (i:Nat) (x:Value) (e:AB h a' (u.setCell ⟨h,i,none⟩ x)):AS B g w k h a' (u.setCell ⟨h,i,none⟩ x):=by
 have l:=q.hl;have gl:=q.gl;have b:Below h u (u.setCell ⟨h,i,none⟩ x):=Bn u h i x
 refine ⟨q.cb.under b (by omega),?_,e,B9 q.cur (b.mono (by have:=q.bl;omega)),⟨b.os.trans q.gr.os,b.tape.trans q.gr.tape,b.output.trans q.gr.output,Nat.le_trans q.gr.size b.size,fun j hj hne=>(b.block j (by omega)).trans (q.gr.block j hj hne)⟩,gl,l,q.bl⟩
 ·obtain ⟨c0,c1,c2,z0,z1,z2⟩:=q.rb
  exact ⟨(b.cell (p:=⟨w.heap.size+1,0,none⟩) l).trans c0,(b.cell (p:=⟨w.heap.size+1,1,none⟩) l).trans c1,(b.cell (p:=⟨w.heap.size+1,2,none⟩) l).trans c2,(b.frozen (p:=⟨w.heap.size+1,0,none⟩) l).trans z0,(b.frozen (p:=⟨w.heap.size+1,1,none⟩) l).trans z1,(b.frozen (p:=⟨w.heap.size+1,2,none⟩) l).trans z2⟩
structure AZ (B g:Nat) (w:World) (k:Cs) (u:World) (ob ol:Option Nat):Prop where
 cb:CB w.heap.size 0 k u
 rb:AB (w.heap.size+1) ⟨0,0,0⟩ u
 cur:A2 B u g
 gr:w.grownBy u (some g)
 gl:g<w.heap.size
 bl:B≤w.heap.size
 box:∀ h,ob=some h→w.heap.size+1<h∧AB h ⟨0,0,0⟩ u
 ls:∀ b,ol=some b→w.heap.size+1<b∧∀ i,i<6→u.cell? ⟨b,i,none⟩=some (.int .i64 (rL.getD i 0))
theorem AZ.call {B g:Nat} {w:World} {k:Cs} {u u':World} {ob ol:Option Nat} (q:AZ B g w k u ob ol) (c:A2 B u' g) (r:u.grownBy u' (some g)):AZ B g w k u' ob ol:=by
 have gl:=q.gl
 refine ⟨q.cb.grown r (by simp;omega),q.rb.grown r (by simp;omega),c,q.gr.trans r,gl,q.bl,fun h hh=>?_,fun b hb=>?_⟩
 ·obtain ⟨h1,h2⟩:=q.box h hh
  exact ⟨h1,h2.grown r (by simp;omega)⟩
 ·obtain ⟨h1,h2⟩:=q.ls b hb
  exact ⟨h1,fun i hi=>(r.cell_far ⟨b,i,none⟩ (World.block_lt_of_cell? u _ (h2 i hi)) (by simp;omega)).trans (h2 i hi)⟩
theorem AZ.drew {B g:Nat} {w:World} {k:Cs} {u:World} {ob ol:Option Nat} (q:AZ B g w k u ob ol):AZ B g w k u.drew ob ol:=q.call (A4 q.cur (bR.drew)) ⟨rfl,rfl,rfl,nL,fun _ _ _=>rfl⟩
theorem AZ.al {B g:Nat} {w:World} {k:Cs} {u:World} {ol:Option Nat} (q:AZ B g w k u none ol) (t:TypeId):AZ B g w k (u.alloc (.cells #[.int .i64 0,.int .i64 0,.int .i64 0] t)) (some u.heap.size) ol:=by
 have p:=q.call (A3 q.cur (.cells #[.int .i64 0,.int .i64 0,.int .i64 0] t)) (World.grownBy_alloc u _ _)
 refine ⟨p.cb,p.rb,p.cur,p.gr,p.gl,p.bl,fun h hh=>?_,p.ls⟩
 injection hh with hh
 subst hh;exact ⟨q.rb.lt,AB.new u ⟨0,0,0⟩ t⟩
theorem AZ.lit {B g:Nat} {w:World} {k:Cs} {u:World} {ob:Option Nat} (q:AZ B g w k u ob none) (t:TypeId):AZ B g w k (u.alloc (.cells #[.int .i64 4837,.int .i64 4855,.int .i64 4834,.int .i64 4831,.int .i64 4853,.int .i64 4841] t)) ob (some u.heap.size):=by
 have p:=q.call (A3 q.cur (.cells #[.int .i64 4837,.int .i64 4855,.int .i64 4834,.int .i64 4831,.int .i64 4853,.int .i64 4841] t)) (World.grownBy_alloc u _ _)
 refine ⟨p.cb,p.rb,p.cur,p.gr,p.gl,p.bl,p.box,fun b hb=>?_⟩
 injection hb with hb
 subst hb
 refine ⟨q.rb.lt,fun i hi=>?_⟩
 rcases (show i=0∨i=1∨i=2∨i=3∨i=4∨i=5 by omega) with rfl | rfl | rfl | rfl | rfl | rfl <;> simp [rL]
theorem L1 {B g:Nat} {w:World} {k:Cs} {u:World} {ob ol:Option Nat} (z:AZ B g w k u ob ol) (n:Int) (hn:n≤1099511627776) :
  Calls prog 79 #[.pointer (some ⟨g,0,none⟩),.int .i64 n] u fun e u'=>∃ x:Int,e=.returned (.int .i64 x)∧0≤x∧(1≤n→x<n)∧AZ B g w k u' ob ol :=
 (G4 g n u z.cur hn).mono fun _ _ ⟨x,he,h0,h1,hc,hg⟩=>⟨x,he,h0,h1,z.call hc hg⟩
theorem Aan {B g:Nat} {w:World} {k:Cs} {u:World} {ob:Option Nat} {b:Nat} (z:AZ B g w k u ob (some b)) :
  Calls prog 131 #[.pointer (some ⟨g,0,none⟩),.slice (some ⟨b,0,none⟩) 6 6] u fun e u'=>∃ x:Int,e=.returned (.int .i64 x)∧x ∈ rL∧AZ B g w k u' ob (some b):=by
 obtain ⟨h1,h2⟩:=z.ls b rfl
 exact (R2 g b 6 rL u z.cur (by have:=z.gl;omega) (fun i hi=>h2 i (by simpa [rL] using hi)) (by decide) (by decide)).mono fun _ _ ⟨x,he,hx,hc,hg⟩=>⟨x,he,hx,z.call hc hg⟩
theorem AZ.now3 {B g:Nat} {w:World} {k:Cs} {u:World} {ob ol:Option Nat} (z:AZ B g w k u ob ol):u.cell? ⟨w.heap.size,3,none⟩=some (.int .i64 k.am):=by have:=z.cb.f3;simpa using this
theorem AS.new {B g:Nat} {w:World} {k:Cs} {u:World} {ol:Option Nat} (z:AZ B g w k u none ol) (a:Ac) (t:TypeId):AS B g w k u.heap.size a (u.alloc (.cells #[.int .i64 a.kind,.int .i64 a.am,.int .i64 a.rsn] t)):=by
 have p:=z.call (A3 z.cur (.cells #[.int .i64 a.kind,.int .i64 a.am,.int .i64 a.rsn] t)) (World.grownBy_alloc u _ _);exact ⟨p.cb,p.rb,AB.new u a t,p.cur,p.gr,p.gl,z.rb.lt,p.bl⟩
theorem AS.of {B g:Nat} {w:World} {k:Cs} {u:World} {h:Nat} {ol:Option Nat} (z:AZ B g w k u (some h) ol) (a:Ac):AS B g w k h a (((u.setCell ⟨h,0,none⟩ (.int .i64 a.kind)).setCell ⟨h,1,none⟩ (.int .i64 a.am)).setCell ⟨h,2,none⟩ (.int .i64 a.rsn)):=by
 obtain ⟨h1,h2⟩:=z.box h rfl;have q:AS B g w k h ⟨0,0,0⟩ u:=⟨z.cb,z.rb,h2,z.cur,z.gr,z.gl,h1,z.bl⟩;have q0:=q.at 0 _ (q.ab.set0 a.kind);have q1:=q0.at 1 _ (q0.ab.set1 a.am);exact q1.at 2 _ (q1.ab.set2 a.rsn)
end Go.Proofs.YtomiclakhjncbaaGreatDoor
