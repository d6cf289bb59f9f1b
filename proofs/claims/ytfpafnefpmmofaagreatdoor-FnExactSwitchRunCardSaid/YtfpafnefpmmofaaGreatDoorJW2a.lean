import Derived.Test.YtfpafnefpmmofaaGreatDoorKWMsgEq
import Derived.Test.YtfpafnefpmmofaaGreatDoorKWAuLaw
import Derived.Test.YtfpafnefpmmofaaGreatDoorJW1c
set_option maxRecDepth 100000
set_option maxHeartbeats 12800000
namespace Go.Proofs.YtfpafnefpmmofaaGreatDoor
open Go.RowKit Go.Proofs.Tryz
def fOf:List Av->Int->Option qn
 | [],_=>none
 | f::r,n=>if f.1=n then some f.2 else fOf r n
theorem Nm (fs:List Av) (k:Nat) (n:Int) (h:k<fs.length):fOf (fs.drop k) n=if (Dn fs k).1=n then some (Dn fs k).2 else fOf (fs.drop (k+1)) n:=by
 have e:Dn fs k=fs[k]:=by simp [Dn,h]
 rw [jc h,e];rfl
theorem Fs (kd:Int) (ao:qm) (cap:Nat) (fs:List Av) (num:Int) (w:ql) (z:Aw w ao fs) (hn:fs.length<=1048576) (hd:Gs fs<=1048576) :
  qi 167 #[.agg #[qzI kd,qf ao fs.length cap],qzI num] w (qp (.tuple #[qd ((fOf fs num).getD []),.bool (fOf fs num).isSome]) w):=by
 rcases z with rfl|⟨b,off,rfl,hb,g⟩
 ·go_enter func167,ntmps167
  go_wp2;refine wp_loop_rounds 1 ?_;rw [rounds_succ];go_wp2;go_ret2
  exact ⟨rfl,by go_grown⟩
 ·have u:=Aa g
  clear g
  go_enter func167,ntmps167
  go_wp2
  go_loopw [11] (λi wr=>∃ k:Nat,k<=fs.length/\i=qzI k/\fOf fs num=fOf (fs.drop k) num/\BW w wr) (λi _=>fs.length - (intOf i).toNat)
  case atStart=>exact ⟨0,qw _,rfl,rfl,by go_grown⟩
  case round =>
   obtain ⟨k,hk,rfl,a,j⟩:=hrel
   by_cases hlt:k<fs.length
   ·have c1:=(j.c b (off+k*2) hb).t (u.o k hlt).1
    have c2:=(j.c b (off+k*2+1) hb).t (u.o k hlt).2
    have y:(k:Int)<(fs.length:Int):=by omega
    have d:=Nm fs k num hlt;have v:=kU hlt hd;obtain ⟨⟨n,s⟩,x⟩:∃ f,Dn fs k=f:=⟨_,rfl⟩;rw [x] at c1 c2 d v
    simp only at c1 c2 d v
    clear x
    have F:s.length<=1099511627776:=by omega
    by_cases hq:n=num
    ·have l:qj (fOf fs num=some s):=by rw [qj,a,d,if_pos hq]
     have q:(n == num)=true:=by simpa using hq
     clear d a hq;go_wp2_with fail
     refine (Lq s _ F).m ?_;rintro e G ⟨rfl,A⟩
     have B:=(j.alloc j.size (.cells #[qzI n,qd s] 136)).t (A.m (by have:=j.size;simp;omega))
     clear A;go_wp2;go_ret2
     exact ⟨Fz (by rw [l.o];rfl) (by rw [l.o];rfl),B⟩
    ·have l:qj (fOf fs num=fOf (fs.drop (k+1)) num):=by rw [qj,a,d,if_neg hq]
     have q:(n == num)=false:=by simpa using hq
     clear d a hq;go_wp2
     go_roundw
     case rel=>exact ⟨k+1,by omega,by go_num,l.o,j.alloc j.size _⟩
     case measure=>simp [intOf];omega
   ·have p:k=fs.length:=by omega
    subst p
    have l:qj (fOf fs num=none):=by rw [qj,a,ji nL];rfl
    clear a;go_wp2;go_ret2
    exact ⟨Fz (by rw [l.o];rfl) (by rw [l.o];rfl),j⟩
theorem Hc (kd:Int) (ao:qm) (cap:Nat) (fs:List Av) (num:Int) (w:ql) (z:Aw w ao fs) (hn:fs.length<=1048576) :
  qi 59 #[.agg #[qzI kd,qf ao fs.length cap],qzI num] w (qp (.tuple #[qd ((fOf fs num).getD []),.bool (fOf fs num).isSome]) w):=by
 rcases z with rfl|⟨b,off,rfl,hb,g⟩
 ·go_enter func59,ntmps59
  go_wp2;refine wp_loop_rounds 1 ?_;rw [rounds_succ];go_wp2;go_ret2
  exact ⟨rfl,by go_grown⟩
 ·have u:=Aa g
  clear g
  have bel:Below w.heap.size w (w.alloc (.cells #[qzI kd,qf (some (qzA b off)) fs.length cap] 68)):=by go_grown
  have C:b<w.heap.size+1:=by omega
  have D:¬ b=w.heap.size:=by omega
  go_enter func59,ntmps59
  go_wp2
  go_loop [6] (λi=>∃ k:Nat,k<=fs.length/\i=qzI k/\fOf fs num=fOf (fs.drop k) num) (λi=>fs.length - (intOf i).toNat)
  case atStart=>exact ⟨0,qw _,rfl,rfl⟩
  case round =>
   obtain ⟨k,hk,rfl,a⟩:=hrel
   by_cases hlt:k<fs.length
   ·have c1:=(bel.c b (off+k*2) hb).t (u.o k hlt).1
    have c2:=(bel.c b (off+k*2+1) hb).t (u.o k hlt).2
    have y:(k:Int)<(fs.length:Int):=by omega
    have d:=Nm fs k num hlt;obtain ⟨⟨n,s⟩,x⟩:∃ f,Dn fs k=f:=⟨_,rfl⟩;rw [x] at c1 c2 d
    simp only at c1 c2 d
    clear x
    by_cases hq:n=num
    ·have l:qj (fOf fs num=some s):=by rw [qj,a,d,if_pos hq]
     have q:(n == num)=true:=by simpa using hq
     clear d a hq;go_wp2;go_ret2
     exact ⟨Fz (by rw [l.o];rfl) (by rw [l.o];rfl),bel⟩
    ·have l:qj (fOf fs num=fOf (fs.drop (k+1)) num):=by rw [qj,a,d,if_neg hq]
     have q:(n == num)=false:=by simpa using hq
     clear d a hq;go_wp2
     go_round
     case rel=>exact ⟨k+1,by omega,by go_num,l.o⟩
     case measure=>simp [intOf];omega
   ·have p:k=fs.length:=by omega
    subst p
    have l:qj (fOf fs num=none):=by rw [qj,a,ji nL];rfl
    clear a;go_wp2;go_ret2
    exact ⟨Fz (by rw [l.o];rfl) (by rw [l.o];rfl),bel⟩
def Cb (fs:List Av) (n:Int):qn:=(fOf fs n).getD []
def Du (fs:List Av) (n:Int):Bool:=(fOf fs n).isSome
def Kd (fs:List Av) (n:Int):Int:=A9 (Cb fs n)
def Qy (fs:List Av) (n:Int):Int:=A9 (Lib.trimLeftB (Cb fs n) 48)
def xH (k:Nat):qn:=([[97,115,107],[103,105,118,101],[99,104,97,114,103,101],[97,110,115,119,101,114],[115,101,99,111,110,100],[97,99,99,101,112,116],[114,101,102,117,115,101],[114,117,108,101],[101,120,112,105,114,101],[99,108,111,115,101]]:List qn).getD k []
def Gw (x:Int):Bool:=decide (1<=x) && decide (x<=9999)
def Cq (fs:List Av):List Av:=(Tg.gotT (Cb fs 48)).getD []
def Jt (tg:List Av) (n:Int):qn:=(Tg.fOf tg n).getD []
def Y6 (tg:List Av):Int:=A9 (Jt tg 1)
def Fa (tg:List Av):Bool:=(Jt tg 1 == []) || (decide (9<(Jt tg 1).length) || decide (Y6 tg<0))
def Kv (l:qn):Bool:=decide (l.length=12) && Ag 33 126 l
def Ib (l:qn):Bool:=(l == [97,99,99,101,112,116]) || ((l == [114,101,102,117,115,101]) || ((l == [114,117,108,101]) || (l == [99,108,111,115,101])))
def qZ (tg:List Av):qn:=if Ib (Jt tg 2)=true then Jt tg 2 else []
def D7 (kd:Int) (fs:List Av):Int:=if Du fs 24=false\/kd=1100 then -1 else Kd fs 24
def Kg (k:Nat):Int×Int:=[(1100,-1),(1240,200),(1240,205),(1442,450),(1442,451),(1644,603),(1644,605),(1740,700)].getD k (0,0)
def Do (kd a:Int):Option Nat :=
 if (kd,a)=(1100,-1) then some 0 else if (kd,a)=(1240,200) then some 1 else if (kd,a)=(1240,205) then some 2 else if (kd,a)=(1442,450) then some 3
 else if (kd,a)=(1442,451) then some 4 else if (kd,a)=(1644,603) then some 5 else if (kd,a)=(1644,605) then some 6 else if (kd,a)=(1740,700) then some 7 else none
def Cy (k:Nat) (fs tg:List Av):List qn×Bool×Bool :=
 match k with
 | 0=>([[97,117,116,104],Cb fs 37,Lib.itoa (Qy fs 2),Lib.itoa (Kd fs 49),Lib.itoa (Kd fs 4)],((!Kv (Cb fs 37) || !Gw (Qy fs 2)) || !Du fs 49) || !Du fs 4,false)
 | 1=>([[112,97,121],Lib.itoa (Qy fs 2),Lib.itoa (Qy fs 93),Lib.itoa (Kd fs 49),Lib.itoa (Kd fs 4)],((!Gw (Qy fs 2) || !Gw (Qy fs 93)) || !Du fs 49) || !Du fs 4,false)
 | 2=>([[97,99,116],Lib.itoa (Y6 tg),[97,110,115,119,101,114],Lib.itoa (Kd fs 4),[48]],!Du fs 4,Fa tg)
 | 3=>([[97,99,116],Lib.itoa (Y6 tg),[99,104,97,114,103,101],Lib.itoa (Kd fs 4),Lib.itoa (Kd fs 25)],!Du fs 4 || !Du fs 25,Fa tg)
 | 4=>([[97,99,116],Lib.itoa (Y6 tg),[115,101,99,111,110,100],Lib.itoa (Kd fs 4),[48]],!Du fs 4,Fa tg)
 | 5=>([[97,99,116],Lib.itoa (Y6 tg),[97,115,107],[48],[48]],false,Fa tg)
 | 6=>([[97,99,116],Lib.itoa (Y6 tg),[103,105,118,101],[48],[48]],false,Fa tg)
 | _=>([[97,99,116],Lib.itoa (Y6 tg),qZ tg,Lib.itoa (Kd fs 4),[48]],false,!Ib (Jt tg 2) || Fa tg)
def F2 (ws:List qn):qn:=Lib.join ws [32]
def Dm (kd:Int) (fs:List Av):qn×Int :=
 match Do kd (D7 kd fs) with
 | none=>([],1)
 | some k =>
  if Cx kd fs=true then
   let o:=Cy k fs (Cq fs)
   if o.2.1=true then ([],2) else if o.2.2=true then ([],3) else (F2 o.1,0)
  else ([],1)
theorem Sn (l:qn):((Tg.gotT l).getD []).length<=60/\∀ f ∈ (Tg.gotT l).getD [],f.2.length<=200:=by
 cases h:Tg.gotT l
 ·simp
 ·have q:=Tg.tagsOk_parts (Tg.putOk_parts (Tg.got_is h).1).1
  exact ⟨q.1,λf hf=>(Tg.tagOne_parts (Tg.okT_mem q.2 f hf).1).2.1⟩
def Eh:qn->qn
 | []=>[]
 | [a]=>[a]
 | a::b::r=>if a=48 then Eh (b::r) else a::b::r
def Ey (l:qn):Int:=if l=[] then -1 else A9 l
def Bu (fs:List Av) (n:Int):Int:=if Du fs n=false\/Cb fs n=[]\/18<(Cb fs n).length then -1 else Kd fs n
def Da (fs:List Av) (n:Int):Int:=if Du fs n=false\/4<(Eh (Cb fs n)).length\/Gw (Ey (Eh (Cb fs n)))=false then -1 else A9 (Eh (Cb fs n))
def qX (fs:List Av):Bool:=Du fs 48 && (Tg.gotT (Cb fs 48)).isSome
def Ej (fs:List Av) (n:Int):qn:=if qX fs=true then Jt (Cq fs) n else []
def Hr (fs:List Av) (n:Int):Bool:=qX fs && (Tg.fOf (Cq fs) n).isSome
def F3 (fs:List Av):Int:=if Hr fs 1=false\/9<(Ej fs 1).length then -1 else Ey (Ej fs 1)
def U3 (a b c d e:qn):qn:=(((a++[32]++b)++[32]++c)++[32]++d)++[32]++e
def Dx (fs:List Av) (wd:qn) (am rs:Int):qn×Int :=
 if am<0\/rs<0 then ([],2) else if F3 fs<0\/wd=[] then ([],3) else (U3 [97,99,116] (Lib.itoa (F3 fs)) wd (Lib.itoa am) (Lib.itoa rs),0)
def Qc (fs:List Av):qn×Int:=Dx fs (if Ib (Ej fs 2)=true then Ej fs 2 else []) (if Du fs 4=true then Bu fs 4 else 0) 0
def Dr (l:qn):Int:=if l=[] then 9999 else A9 l
def Yc (fs:List Av):qn×Int :=
 if (((Du fs 37=false\/1<(Ad (Cb fs 37)).length)\/Da fs 2<0)\/Bu fs 49<0)\/Bu fs 4<0 then ([],2)
 else (U3 [97,117,116,104] (Cb fs 37) (Lib.itoa (Da fs 2)) (Lib.itoa (Bu fs 49)) (Lib.itoa (Bu fs 4)),0)
def fF (fs:List Av):qn×Int :=
 if ((Da fs 2<0\/Da fs 93<0)\/Bu fs 49<0)\/Bu fs 4<0 then ([],2)
 else (U3 [112,97,121] (Lib.itoa (Da fs 2)) (Lib.itoa (Da fs 93)) (Lib.itoa (Bu fs 49)) (Lib.itoa (Bu fs 4)),0)
def Uh (kd:Int) (fs:List Av):qn×Int :=
 if Cx kd fs=false then ([],1) else if kd=1100 then Yc fs else
 let x:=10000*kd+Dr (Cb fs 24)
 if x=12400200 then fF fs else if x=16440603 then Dx fs [97,115,107] 0 0 else if x=16440605 then Dx fs [103,105,118,101] 0 0
 else if x=14420450 then Dx fs [99,104,97,114,103,101] (Bu fs 4) (Bu fs 25) else if x=12400205 then Dx fs [97,110,115,119,101,114] (Bu fs 4) 0
 else if x=14420451 then Dx fs [115,101,99,111,110,100] (Bu fs 4) 0 else if x=17400700 then Qc fs else ([],1)
theorem mJ (l:qn):(Eh l).length<=l.length:=by
 fun_induction Eh l with
 | case1=>simp
 | case2=>simp
 | case3 b r ih=>simp at ih ⊢;omega
 | case4=>simp
theorem Hb {fs:List Av} {n:Int} : -1<=Bu fs n/\Bu fs n<1000000000000000000:=by
 unfold Bu;split
 ·omega
 ·exact Ee _
theorem Tn {fs:List Av} {n:Int} : -1<=Da fs n/\Da fs n<1000000000000000000:=by
 unfold Da;split
 ·omega
 ·exact Ee _
theorem tV {fs:List Av} : -1<=F3 fs/\F3 fs<1000000000000000000:=by
 unfold F3 Ey;split
 ·omega
 ·split
  ·omega
  ·exact Ee _
theorem tY {fs:List Av} {n:Int} {d:qn} (h:fOf fs n=some d):(n,d) ∈ fs:=by
 induction fs with
 | nil=>simp [fOf] at h
 | cons f r ih =>
  unfold fOf at h
  split at h
  ·rename_i hk
   simp only [Option.some.injEq] at h
   have:f=(n,d):=by cases f;simp_all
   simp [this]
  ·exact List.mem_cons_of_mem _ (ih h)
theorem Rf {kd:Int} {fs:List Av} (hm:Cx kd fs=true) {n:Int} (h:Du fs n=true):Ay n (Cb fs n)=true:=by
 unfold Du at h
 cases g:fOf fs n with
 | none=>rw [g] at h;cases h
 | some d =>
  have hd:Cb fs n=d:=by unfold Cb;rw [g];rfl
  rw [hd];unfold Cx at hm
  simp only [jf] at hm
  exact (Aej hm.2 _ (tY g)).1
theorem N6 {fs:List Av} {n:Int} (h:Du fs n=false):Cb fs n=[]:=by
 unfold Du at h;unfold Cb
 cases g:fOf fs n with
 | none=>rfl
 | some d=>rw [g] at h;cases h
theorem Ye {kd:Int} {fs:List Av} (hm:Cx kd fs=true):(Du fs 24=false/\Cb fs 24=[])\/(Du fs 24=true/\Cb fs 24≠[]/\0<=A9 (Cb fs 24)/\A9 (Cb fs 24)<=999):=by
 cases h:Du fs 24
 ·exact .inl ⟨rfl,N6 h⟩
 ·have g:=Rf hm h
  have i:(Cb fs 24).length=3/\Ag 48 57 (Cb fs 24)=true:=by
   have e:Ay 24 (Cb fs 24)=(decide (((Cb fs 24).length:Int)=3) && Ag 48 57 (Cb fs 24)):=rfl;rw [e] at g
   simp only [jf,decide_eq_true_eq] at g
   exact ⟨by omega,g.2⟩
  refine .inr ⟨rfl,λe=>by rw [e] at i;simp at i,?_⟩
  rw [Fu (by omega) i.2]
  have:=Hv (Cb fs 24) i.2 3 (by omega)
  rw [List.take_of_length_le (by omega)] at this
  omega
theorem dJ {kd:Int} {fs:List Av} (hm:Cx kd fs=true):-1<=Dr (Cb fs 24)/\Dr (Cb fs 24)<=9999:=by
 unfold Dr
 rcases Ye hm with ⟨_,h⟩|⟨_,h,k,m⟩
 ·rw [if_pos h];omega
 ·rw [if_neg h];omega
theorem sP:A9 []=0:=by decide
theorem vF {l:qn} (h:Ag 48 57 l=true) (j:l.length<=18):0<=A9 l:=by
 rw [Fu j h];omega
theorem lP (l:qn):(Lib.trimLeftB l 48=[]/\(Eh l=[]\/Eh l=[48]))\/(∃ a r,Lib.trimLeftB l 48=a::r/\a≠48/\Eh l=a::r):=by
 unfold Lib.trimLeftB
 fun_induction Eh l with
 | case1=>exact .inl ⟨rfl,.inl rfl⟩
 | case2 a =>
  by_cases h:a=48
  ·subst h;exact .inl ⟨rfl,.inr rfl⟩
  ·exact .inr ⟨a,[],by simp [h],h,rfl⟩
 | case3 b r ih=>simpa using ih
 | case4 a b r h=>exact .inr ⟨a,b::r,by simp [h],h,rfl⟩
theorem gN {a b:Nat} {l:qn} (h:Ag a b l=true):Ag a b (Lib.trimLeftB l 48)=true :=
 Md λc A=>E6 h c (List.dropWhile_subset _ A)
theorem Ag9 (l:qn):∀ a,a*10 ^ l.length<=val a l:=by
 induction l with
 | nil=>intro a;simp [val]
 | cons c r ih =>
  intro a;have h:=ih (a*10+(c.toNat - 48));rw [Vx,qx,Nat.pow_succ]
  have:a * (10 ^ r.length*10)=(a*10) * 10 ^ r.length:=by rw [Nat.mul_comm (10 ^ r.length) 10,<- Nat.mul_assoc]
  rw [this]
  exact jk (Nat.mul_le_mul_right _ (by omega)) h
theorem wE {fs:List Av} {n:Int} (hw:Du fs n=true->Ag 48 57 (Cb fs n)=true):(Gw (Qy fs n)=false/\Da fs n = -1)\/(Gw (Qy fs n)=true/\Da fs n=Qy fs n):=by
 unfold Qy Da
 cases o:Du fs n
 ·rw [N6 o]
  exact .inl ⟨by decide,by simp⟩
 ·have hd:=hw o
  rcases lP (Cb fs n) with ⟨ht,hs⟩|⟨a,r,ht,ha,hs⟩
  ·rw [ht]
   refine .inl ⟨by decide,?_⟩
   rw [if_pos]
   right;right
   rcases hs with hs|hs <;> rw [hs] <;> decide
  ·rw [ht,hs]
   have D:=gN hd;rw [ht] at D
   have a3:=E6 D a (by simp)
   have X:49<=a.toNat:=by
    rcases Nat.lt_or_ge a.toNat 49 with h|h
    ·exact absurd (UInt8.toNat_inj.1 (show a.toNat=(48:UInt8).toNat by have:(48:UInt8).toNat=48:=rfl;omega)) ha
    ·exact h
   have C:Ey (a::r)=A9 (a::r):=if_neg (by simp)
   rw [C]
   by_cases w:4<(a::r).length
   ·rw [if_pos (.inr (.inl w))]
    left
    refine ⟨?_,rfl⟩;unfold Gw
    by_cases H:(a::r).length<=18
    ·rw [Fu H D]
     have f:=Ag9 r (0*10+(a.toNat - 48));rw [Vx]
     have j:10 ^ 4<=10 ^ r.length:=Nat.pow_le_pow_right (by omega) (by simp at w;omega)
     have u:10 ^ r.length<=(0*10+(a.toNat - 48)) * 10 ^ r.length:=by
      have:=Nat.mul_le_mul_right (10 ^ r.length) (show 1<=0*10+(a.toNat - 48) by omega)
      omega
     have F:(10000:Int)<=(val (0*10+(a.toNat - 48)) r:Int):=by
      have:10000<=val (0*10+(a.toNat - 48)) r:=by omega
      omega
     rw [decide_eq_false (show ¬ ((val (0*10+(a.toNat - 48)) r:Int)<=9999) by omega),Bool.and_false]
    ·rw [Lw (by omega)];decide
   ·cases hin:Gw (A9 (a::r))
    ·left
     exact ⟨rfl,if_pos (.inr (.inr rfl))⟩
    ·right
     exact ⟨rfl,if_neg (by simp;simpa using w)⟩
theorem fI {fs:List Av} {n:Int} (hw:Du fs n=true->Ag 48 57 (Cb fs n)=true):(Da fs n<0 ↔ Gw (Qy fs n)=false)/\(Gw (Qy fs n)=true->Da fs n=Qy fs n):=by
 rcases wE hw with ⟨f,j⟩|⟨f,j⟩
 ·exact ⟨⟨λ_=>f,λ_=>by omega⟩,λh=>absurd h (by rw [f];decide)⟩
 ·refine ⟨⟨λh=>?_,λh=>absurd f (by rw [h];decide)⟩,λ_=>j⟩
  rw [j] at h;unfold Gw at f
  simp only [jf,decide_eq_true_eq] at f
  omega
theorem V3 {fs:List Av} {n:Int} (hw:Du fs n=true->Ag 48 57 (Cb fs n)=true/\Cb fs n≠[]/\(Cb fs n).length<=18):(Bu fs n<0 ↔ Du fs n=false)/\(Du fs n=true->Bu fs n=Kd fs n/\0<=Kd fs n):=by
 unfold Bu
 cases o:Du fs n
 ·exact ⟨⟨λ_=>rfl,λ_=>by simp⟩,λh=>by cases h⟩
 ·obtain ⟨f,j,u⟩:=hw o
  have z:0<=Kd fs n:=vF f u
  rw [if_neg (by simp [j];omega)]
  exact ⟨⟨λh=>by omega,λh=>by cases h⟩,λ_=>⟨rfl,z⟩⟩
theorem Ab2 {kd:Int} {fs:List Av} (hm:Cx kd fs=true) {n s:Int} (hk:fK n=1) (hs:fS n=s) (z:1<=s) (H:s<=18):Du fs n=true->Ag 48 57 (Cb fs n)=true/\Cb fs n≠[]/\(Cb fs n).length<=18:=λh=>by
 have g:=Rf hm h;unfold Ay Be at g;rw [hk,hs,if_pos rfl] at g
 simp only [jf,decide_eq_true_eq] at g
 exact ⟨g.2,λe=>by rw [e] at g;simp at g;omega,by omega⟩
theorem Af2 {kd:Int} {fs:List Av} (hm:Cx kd fs=true) {n:Int} (hk:fK n=2):Du fs n=true->Ag 48 57 (Cb fs n)=true:=λh=>by
 have g:=Rf hm h;unfold Ay Be at g
 rw [hk,if_neg (by decide),if_pos rfl] at g
 simp only [jf] at g
 exact g.2
theorem wY {l:qn} : (Ad l).length=1+(l.filter (· == 32)).length:=by
 have h:∀ i,i<=l.length->(B0 l i).1.length=((l.take i).filter (· == 32)).length:=by
  intro i
  induction i with
  | zero=>intro _;simp [B0]
  | succ i ih =>
   intro hi
   have:=ih (by omega)
   rw [Rh l i (by omega),List.filter_append,qv,<- this]
   have e:B0 l (i+1)=if l.getD i 0=32 then ((B0 l i).1++[(l.drop (B0 l i).2).take (i - (B0 l i).2)],i+1) else B0 l i:=rfl
   rw [e];clear e
   by_cases h32:l.getD i 0=32
   ·rw [if_pos h32,h32];simp
   ·rw [if_neg h32]
    rw [List.filter_cons,if_neg (by simpa using h32)]
    simp
 unfold Ad;rw [qv,h l.length nL,List.take_length]
 simp;omega
theorem yL {kd:Int} {fs:List Av} (hm:Cx kd fs=true):(Du fs 37=false\/1<(Ad (Cb fs 37)).length) ↔ Kv (Cb fs 37)=false:=by
 cases o:Du fs 37
 ·rw [N6 o]
  exact ⟨λ_=>by decide,λ_=>.inl rfl⟩
 ·have g:=Rf hm o
  have e:Ay 37 (Cb fs 37)=(decide (((Cb fs 37).length:Int)=12) && Ag 32 126 (Cb fs 37)):=rfl;rw [e] at g
  simp only [jf,decide_eq_true_eq] at g
  unfold Kv
  rw [decide_eq_true (show (Cb fs 37).length=12 by omega),ja,wY]
  generalize Cb fs 37=l at g ⊢
  constructor
  ·rintro (h|h)
   ·cases h
   ·have B:l.filter (· == 32)≠[]:=λe=>by rw [e] at h;simp at h
    obtain ⟨c,A⟩:=List.exists_mem_of_ne_nil _ B;obtain ⟨T,U⟩:=List.mem_filter.1 A
    have:c=32:=by simpa using U
    subst this
    cases hw:Ag 33 126 l
    ·rfl
    ·have:=E6 hw _ T
     exact absurd this.1 (by decide)
  ·intro h
   right
   have B:l.filter (· == 32)≠[]:=λe=>by
    rw [Md (λc A=>?_)] at h
    ·cases h
    ·have f:=E6 g.2 c A
     have j:¬ c=32:=λec=>by
      have:c ∈ l.filter (· == 32):=List.mem_filter.2 ⟨A,by simp [ec]⟩
      rw [e] at this;cases this
     have u:c.toNat≠32:=λec=>j (UInt8.toNat_inj.1 ec)
     omega
   have:0<(l.filter (· == 32)).length:=List.length_pos_iff.2 B
   omega
theorem Ae1:(Tg.gotT []).getD []=[]:=by decide
theorem Wy (fs:List Av) (n:Int):Ej fs n=Jt (Cq fs) n:=by
 unfold Ej qX
 cases o:Du fs 48
 ·have:Cq fs=[]:=by unfold Cq;rw [N6 o];exact Ae1
  rw [this];rfl
 ·cases hG:Tg.gotT (Cb fs 48) with
  | none =>
   have:Cq fs=[]:=by unfold Cq;rw [hG];rfl
   rw [this];rfl
  | some t=>rw [if_pos (by rfl)]
theorem uR (fs:List Av):(F3 fs<0 ↔ Fa (Cq fs)=true)/\(Fa (Cq fs)=false->F3 fs=Y6 (Cq fs)/\0<=F3 fs):=by
 have hh:Hr fs 1=false->Jt (Cq fs) 1=[]:=λh=>by
  rw [<- Wy];unfold Hr at h;unfold Ej
  cases hb:qX fs
  ·rfl
  ·rw [hb,ja] at h
   rw [if_pos rfl];unfold Jt
   cases g:Tg.fOf (Cq fs) 1 with
   | none=>rfl
   | some d=>rw [g] at h;cases h
 unfold F3 Fa Y6;rw [Wy]
 by_cases z:Jt (Cq fs) 1=[]
 ·rw [z]
  have:(if Hr fs 1=false\/9<([]:qn).length then (-1:Int) else Ey []) = -1:=by
   split
   ·rfl
   ·rfl
  rw [this]
  exact ⟨⟨λ_=>by simp,λ_=>by omega⟩,λh=>by simp at h⟩
 ·have o:Hr fs 1=true:=by
    cases h:Hr fs 1
    ·exact absurd (hh h) z
    ·rfl
  have e0:(Jt (Cq fs) 1 == [])=false:=by simpa using z
  rw [o,e0,Bool.false_or];have C:Ey (Jt (Cq fs) 1)=A9 (Jt (Cq fs) 1):=if_neg z;rw [C]
  by_cases h9:9<(Jt (Cq fs) 1).length
  ·rw [if_pos (.inr h9),decide_eq_true h9]
   exact ⟨⟨λ_=>rfl,λ_=>by omega⟩,λh=>by simp at h⟩
  ·rw [if_neg (by simp [h9]),decide_eq_false h9,Bool.false_or]
   exact ⟨⟨λh=>decide_eq_true h,λh=>of_decide_eq_true h⟩,λh=>⟨rfl,by have:=of_decide_eq_false h;omega⟩⟩
theorem eA (a b c d e:qn):U3 a b c d e=F2 [a,b,c,d,e]:=by
 unfold F2 U3;rw [Lib.join_cons];simp [Lib.joinTail]
theorem Vo {α:Type} {p:Prop} [Decidable p] {b:Bool} {x y Y Z:α} (h:p ↔ b=true) (f:b=true->x=Y) (j:b=false->y=Z):(if p then x else y)=(if b=true then Y else Z):=by
 cases b
 ·rw [if_neg (by rw [h];decide),if_neg (by decide)];exact j rfl
 ·rw [if_pos (h.2 rfl),if_pos rfl];exact f rfl
theorem Lh {fs:List Av} {wd:qn} {am rs sa sr:Int} {nf nt:Bool} (g:(am<0\/rs<0) ↔ nf=true) (hv:nf=false->am=sa/\rs=sr) (ht:(Fa (Cq fs)=true\/wd=[]) ↔ nt=true) :
  Dx fs wd am rs=if nf=true then ([],2) else if nt=true then ([],3) else (F2 [[97,99,116],Lib.itoa (Y6 (Cq fs)),wd,Lib.itoa sa,Lib.itoa sr],0):=by
 obtain ⟨c1,c2⟩:=uR fs;unfold Dx
 refine Vo g (λ_=>rfl) λh=>?_
 obtain ⟨rfl,rfl⟩:=hv h
 refine Vo (by rw [c1];exact ht) (λ_=>rfl) λhn=>?_
 have k:Fa (Cq fs)=false:=by
  cases h:Fa (Cq fs)
  ·rfl
  ·rw [ht.1 (.inl h)] at hn;cases hn
 rw [(c2 k).1,eA]
theorem jP:Lib.itoa 0=[48]:=by simp [Lib.itoa,Lib.decDigits]
theorem Agg {l:qn} (h:Ib l=true):l≠[]:=λe=>by rw [e] at h;exact absurd h (by decide)
theorem Adk {kd:Int} {fs:List Av} : Uh kd fs=Dm kd fs:=by
 unfold Uh Dm
 by_cases hM:Cx kd fs=false
 ·rw [if_pos hM]
  split
  ·rfl
  ·rw [hM];rfl
 have hm:Cx kd fs=true:=by cases h:Cx kd fs;exact absurd h hM;rfl
 have a4:0<=kd/\kd<=9999:=by have h:=hm;unfold Cx at h;simp only [jf,decide_eq_true_eq] at h;exact h.1
 rw [if_neg hM]
 have n4:=V3 (Ab2 hm (n:=4) rfl rfl (by decide) (by decide))
 have n49:=V3 (Ab2 hm (n:=49) rfl rfl (by decide) (by decide))
 have n25:=V3 (Ab2 hm (n:=25) rfl rfl (by decide) (by decide))
 have a2:=fI (Af2 hm (n:=2) rfl);have G:=fI (Af2 hm (n:=93) rfl);have rf:=yL hm;have A:=Ye hm
 by_cases hk:kd=1100
 ·subst hk
  have e:Do 1100 (D7 1100 fs)=some 0:=by
   have:D7 1100 fs = -1:=if_pos (.inr rfl)
   rw [this];rfl
  rw [if_pos rfl,e]
  simp only [hm,if_true]
  unfold Yc
  refine Vo (b:=(Cy 0 fs (Cq fs)).2.1) ?_ (λ_=>rfl) λh=>?_
  ·show _ ↔ (((!Kv (Cb fs 37) || !Gw (Qy fs 2)) || !Du fs 49) || !Du fs 4)=true
   rw [rf,a2.1,n49.1,n4.1]
   simp only [Bool.or_eq_true,Bool.not_eq_true']
  ·have v:(((!Kv (Cb fs 37) || !Gw (Qy fs 2)) || !Du fs 49) || !Du fs 4)=false:=h
   simp only [Bool.or_eq_false_iff,Bool.not_eq_false'] at v
   rw [if_neg (show ¬ (Cy 0 fs (Cq fs)).2.2=true from λe=>by cases e),eA,a2.2 v.1.1.2,(n49.2 v.1.2).1,(n4.2 v.2).1]
   rfl
 rw [if_neg hk]
 -- the number of the kind and the function together tells both
 have m:(D7 kd fs = -1/\Dr (Cb fs 24)=9999)\/(D7 kd fs=Dr (Cb fs 24)/\0<=Dr (Cb fs 24)/\Dr (Cb fs 24)<=999):=by
  rcases A with ⟨f,j⟩|⟨f,j,u,w⟩
  ·exact .inl ⟨if_pos (.inl f),by rw [j];rfl⟩
  ·have e:Dr (Cb fs 24)=A9 (Cb fs 24):=if_neg j
   rw [e]
   exact .inr ⟨if_neg (by rw [f];simp [hk]),u,w⟩
 generalize D7 kd fs=cd at m ⊢
 generalize Dr (Cb fs 24)=sc at m ⊢
 simp only []
 have key:∀ a c:Int,0<=c->c<=999->(10000*kd+sc=10000*a+c ↔ (kd,cd)=(a,c)):=λa c z f=>by
  rw [Prod.mk.injEq]
  constructor
  ·intro h;omega
  ·rintro ⟨rfl,rfl⟩;omega
 have hs:Do kd cd=if (kd,cd)=(1240,200) then some 1 else if (kd,cd)=(1240,205) then some 2 else if (kd,cd)=(1442,450) then some 3
   else if (kd,cd)=(1442,451) then some 4 else if (kd,cd)=(1644,603) then some 5 else if (kd,cd)=(1644,605) then some 6 else if (kd,cd)=(1740,700) then some 7 else none:=by
  unfold Do
  rw [if_neg (by rw [Prod.mk.injEq];exact λh=>hk h.1)]
 have J:=key 1240 200 (by decide) (by decide)
 have L:=key 1240 205 (by decide) (by decide)
 have M:=key 1442 450 (by decide) (by decide)
 have N:=key 1442 451 (by decide) (by decide)
 have O:=key 1644 603 (by decide) (by decide)
 have R:=key 1644 605 (by decide) (by decide)
 have S:=key 1740 700 (by decide) (by decide)
 rw [show (10000*1240+200:Int)=12400200 from rfl] at J
 rw [show (10000*1240+205:Int)=12400205 from rfl] at L
 rw [show (10000*1442+450:Int)=14420450 from rfl] at M
 rw [show (10000*1442+451:Int)=14420451 from rfl] at N
 rw [show (10000*1644+603:Int)=16440603 from rfl] at O
 rw [show (10000*1644+605:Int)=16440605 from rfl] at R
 rw [show (10000*1740+700:Int)=17400700 from rfl] at S
 rw [hs];clear hs m
 generalize 10000*kd+sc=x at J L M N O R S key ⊢
 clear key
 simp only [hm,if_true]
 by_cases f:(kd,cd)=(1240,200)
 ·rw [if_pos (J.2 f),if_pos f]
  unfold fF
  refine Vo (b:=(Cy 1 fs (Cq fs)).2.1) ?_ (λ_=>rfl) λh=>?_
  ·show _ ↔ (((!Gw (Qy fs 2) || !Gw (Qy fs 93)) || !Du fs 49) || !Du fs 4)=true
   rw [a2.1,G.1,n49.1,n4.1]
   simp only [Bool.or_eq_true,Bool.not_eq_true']
  ·have v:(((!Gw (Qy fs 2) || !Gw (Qy fs 93)) || !Du fs 49) || !Du fs 4)=false:=h
   simp only [Bool.or_eq_false_iff,Bool.not_eq_false'] at v
   rw [if_neg (show ¬ (Cy 1 fs (Cq fs)).2.2=true from λe=>by cases e),eA,a2.2 v.1.1.1,G.2 v.1.1.2,(n49.2 v.1.2).1,(n4.2 v.2).1]
   rfl
 rw [if_neg (λe=>f (J.1 e)),if_neg f]
 have one:∀ {nt:Bool},((Fa (Cq fs)=true\/False) ↔ nt=true)->(Fa (Cq fs)=true ↔ nt=true):=λh=>by simpa using h
 have k:∀ {wd:qn},wd≠[]->((Fa (Cq fs)=true\/wd=[]) ↔ Fa (Cq fs)=true):=λh=>by simp [h]
 by_cases F:(kd,cd)=(1644,603)
 ·have q:∀ a c:Int,((1644:Int),(603:Int))≠(a,c)->¬ (kd,cd)=(a,c):=λa c h e=>h (F.s.t e)
  rw [if_pos (O.2 F),if_neg (q 1240 205 (by decide)),if_neg (q 1442 450 (by decide)),if_neg (q 1442 451 (by decide)),if_pos F]
  have:=Lh (fs:=fs) (wd:=[97,115,107]) (am:=0) (rs:=0) (sa:=0) (sr:=0) (nf:=false) (nt:=Fa (Cq fs)) (by decide) (λ_=>⟨rfl,rfl⟩) (k (by decide))
  rw [jP] at this;exact this
 rw [if_neg (λe=>F (O.1 e))]
 by_cases h6:(kd,cd)=(1644,605)
 ·have q:∀ a c:Int,((1644:Int),(605:Int))≠(a,c)->¬ (kd,cd)=(a,c):=λa c h e=>h (h6.s.t e)
  rw [if_pos (R.2 h6),if_neg (q 1240 205 (by decide)),if_neg (q 1442 450 (by decide)),if_neg (q 1442 451 (by decide)),if_neg (q 1644 603 (by decide)),if_pos h6]
  have:=Lh (fs:=fs) (wd:=[103,105,118,101]) (am:=0) (rs:=0) (sa:=0) (sr:=0) (nf:=false) (nt:=Fa (Cq fs)) (by decide) (λ_=>⟨rfl,rfl⟩) (k (by decide))
  rw [jP] at this;exact this
 rw [if_neg (λe=>h6 (R.1 e))]
 by_cases u:(kd,cd)=(1442,450)
 ·have q:∀ a c:Int,((1442:Int),(450:Int))≠(a,c)->¬ (kd,cd)=(a,c):=λa c h e=>h (u.s.t e)
  rw [if_pos (M.2 u),if_neg (q 1240 205 (by decide)),if_pos u]
  exact Lh (fs:=fs) (wd:=[99,104,97,114,103,101]) (sa:=Kd fs 4) (sr:=Kd fs 25) (nf:=!Du fs 4 || !Du fs 25) (nt:=Fa (Cq fs)) (by rw [n4.1,n25.1];simp only [Bool.or_eq_true,Bool.not_eq_true'])
   (λh=>by simp only [Bool.or_eq_false_iff,Bool.not_eq_false'] at h;exact ⟨(n4.2 h.1).1,(n25.2 h.2).1⟩) (k (by decide))
 rw [if_neg (λe=>u (M.1 e))]
 by_cases j:(kd,cd)=(1240,205)
 ·rw [if_pos (L.2 j),if_pos j]
  have:=Lh (fs:=fs) (wd:=[97,110,115,119,101,114]) (am:=Bu fs 4) (rs:=0) (sa:=Kd fs 4) (sr:=0) (nf:=!Du fs 4) (nt:=Fa (Cq fs)) (by rw [n4.1];simp)
   (λh=>by simp only [Bool.not_eq_false'] at h;exact ⟨(n4.2 h).1,rfl⟩) (k (by decide))
  rw [jP] at this;exact this
 rw [if_neg (λe=>j (L.1 e)),if_neg j,if_neg u]
 by_cases w:(kd,cd)=(1442,451)
 ·rw [if_pos (N.2 w),if_pos w]
  have:=Lh (fs:=fs) (wd:=[115,101,99,111,110,100]) (am:=Bu fs 4) (rs:=0) (sa:=Kd fs 4) (sr:=0) (nf:=!Du fs 4) (nt:=Fa (Cq fs)) (by rw [n4.1];simp)
   (λh=>by simp only [Bool.not_eq_false'] at h;exact ⟨(n4.2 h).1,rfl⟩) (k (by decide))
  rw [jP] at this;exact this
 rw [if_neg (λe=>w (N.1 e)),if_neg w,if_neg F,if_neg h6]
 by_cases h7:(kd,cd)=(1740,700)
 ·rw [if_pos (S.2 h7),if_pos h7]
  have I:(if Du fs 4=true then Bu fs 4 else 0)=Kd fs 4/\0<=Kd fs 4:=by
   cases o:Du fs 4
   ·have:Kd fs 4=0:=by unfold Kd;rw [N6 o];exact sP
    rw [this];exact ⟨rfl,by decide⟩
   ·rw [if_pos rfl];exact n4.2 o
  have V:(if Ib (Ej fs 2)=true then Ej fs 2 else [])=qZ (Cq fs):=by rw [Wy];rfl
  have W:qZ (Cq fs)=[] ↔ Ib (Jt (Cq fs) 2)=false:=by
   unfold qZ
   cases h:Ib (Jt (Cq fs) 2)
   ·simp
   ·rw [if_pos rfl];exact ⟨λe=>absurd e (Agg h),λe=>by cases e⟩
  unfold Qc;rw [I.1,V]
  have:=Lh (fs:=fs) (wd:=qZ (Cq fs)) (am:=Kd fs 4) (rs:=0) (sa:=Kd fs 4) (sr:=0) (nf:=false) (nt:=!Ib (Jt (Cq fs) 2) || Fa (Cq fs)) (by have:=I.2;simp;omega)
   (λ_=>⟨rfl,rfl⟩) (by rw [W];simp only [Bool.or_eq_true,Bool.not_eq_true'];exact Or.comm)
  rw [jP] at this;exact this
 rw [if_neg (λe=>h7 (S.1 e)),if_neg h7]
structure Bk where
 today:Int
 off:List Int
 az:List Au
 cs:List Cs
 ls:List Ln
 log:Bn
structure Bp where
 o:qm
 oc:Nat
 a:qm
 ac:Nat
 c:qm
 cc:Nat
 l:qm
 lc:Nat
 g:qm
 gc:Nat
def Fx (b:Bk) (p:Bp):Value:=.agg #[qzI b.today,qf p.o b.off.length p.oc,qf p.a b.az.length p.ac,qf p.c b.cs.length p.cc,qf p.l b.ls.length p.lc,qf p.g b.log.length p.gc]
structure Az (u:ql) (b:Bk) (p:Bp):Prop where
 off:Bg u p.o b.off
 az:Ba u p.a b.az
 cs:Cf u p.c b.cs
 ls:Ar u p.l b.ls
 log:Bw u p.g b.log
theorem Az.below {u T:ql} {b:Bk} {p:Bp} (h:Az u b p) (hb:BW u T):Az T b p:=⟨h.off.below hb,h.az.below hb,h.cs.below hb,h.ls.below hb,h.log.below hb⟩
def Ld (b:Bk):Prop:=b.off.length<=1048576/\b.az.length<=1048576/\b.cs.length<=1048576/\b.ls.length<=1048576/\b.log.length<=1048576
structure S6 (B:Nat) (b:Bk) (p:Bp) (u:ql):Prop where
 c0:u.cell? (qzA B 0)=some (qzI b.today)
 c1:u.cell? (qzA B 1)=some (qf p.o b.off.length p.oc)
 c2:u.cell? (qzA B 2)=some (qf p.a b.az.length p.ac)
 c3:u.cell? (qzA B 3)=some (qf p.c b.cs.length p.cc)
 c4:u.cell? (qzA B 4)=some (qf p.l b.ls.length p.lc)
 c5:u.cell? (qzA B 5)=some (qf p.g b.log.length p.gc)
theorem S6.lt {B:Nat} {b:Bk} {p:Bp} {u:ql} (h:S6 B b p u):B<u.heap.size:=qs u _ h.c0
theorem S6.below {B:Nat} {b:Bk} {p:Bp} {u T:ql} (h:S6 B b p u) (hb:BW u T):S6 B b p T:=by
 have l:=h.lt;exact ⟨(hb.c B 0 l).t h.c0,(hb.c B 1 l).t h.c1,(hb.c B 2 l).t h.c2,(hb.c B 3 l).t h.c3,(hb.c B 4 l).t h.c4,(hb.c B 5 l).t h.c5⟩
theorem S6.new (w:ql) (b:Bk) (p:Bp) (ty:TypeId):S6 w.heap.size b p (w.alloc (.cells #[qzI b.today,qf p.o b.off.length p.oc,qf p.a b.az.length p.ac,qf p.c b.cs.length p.cc,qf p.l b.ls.length p.lc,qf p.g b.log.length p.gc] ty)):=⟨by simp,by simp,by simp,by simp,by simp,by simp⟩
theorem Tx (b:Bk) (p q:Bp) (w:ql) (hx:Az w b p) (hy:Az w b q) (hn:Ld b) :
  qi 10 #[Fx b p,Fx b q] w λe w'=>e=.returned (.bool true)/\BW w w':=by
 obtain ⟨W,S⟩:=A0 ((w.alloc (.cells #[qzI b.today,qf p.o b.off.length p.oc,qf p.a b.az.length p.ac,qf p.c b.cs.length p.cc,qf p.l b.ls.length p.lc,qf p.g b.log.length p.gc] 40)).alloc (.cells #[qzI b.today,qf q.o b.off.length q.oc,qf q.a b.az.length q.ac,qf q.c b.cs.length q.cc,qf q.l b.ls.length q.lc,qf q.g b.log.length q.gc] 40))
 have U:BW w W:=by rw [S];go_grown
 have s1:S6 w.heap.size b p W:=by rw [S];exact (S6.new w b p _).below (bR.alloc nL _)
 have s2:S6 (w.heap.size+1) b q W:=by
  rw [S];have h:=S6.new (w.alloc (.cells #[qzI b.today,qf p.o b.off.length p.oc,qf p.a b.az.length p.ac,qf p.c b.cs.length p.cc,qf p.l b.ls.length p.lc,qf p.g b.log.length p.gc] 40)) b q 40
  simpa using h
 have Y:qj _:=S;have O:qj (Az W b p/\Az W b q):=⟨hx.below U,hy.below U⟩;have L:=Aa U;have M:qj (S6 w.heap.size b p W/\S6 (w.heap.size+1) b q W):=⟨s1,s2⟩;have A:=Aa hn;clear hx hy U S s1 s2 hn;obtain ⟨td,fo,az,cs,ls,lg⟩:=b;obtain ⟨o,oc,a,ac,c,cc,l,lc,g,gc⟩:=p;obtain ⟨o',a7,a',a3,c',a4,l',a6,g',a5⟩:=q;unfold Fx
 simp only at Y ⊢
 obtain ⟨c0,c1,c2,c3,c4,c5⟩:=M.o.1;obtain ⟨d,f,i,j,k,n⟩:=M.o.2
 simp only at c0 c1 c2 c3 c4 c5 d f i j k n
 have nt:(td != td)=false:=by simp
 go_enter func10,ntmps10
 go_upto_region 1 with fail
 rw [<- Y.o];clear Y;go_wp2_with fail
 refine (lQ _ _ _ _ fo fo _ O.o.1.off O.o.2.off (by have:=A.o.1;simp only at this;omega) (by have:=A.o.1;simp only at this;omega)).m ?_
 rintro e w1 ⟨rfl,C⟩;have x:qj _:=And.intro (O.o.1.below C) (O.o.2.below C);have r:qj _:=And.intro (M.o.1.below C) (M.o.2.below C);have H:=Aa (next L.o C);clear c0 c1 c2 c3 c4 c5 d f i j k n C O M L;obtain ⟨c0,c1,c2,c3,c4,c5⟩:=r.o.1;obtain ⟨d,f,i,j,k,n⟩:=r.o.2
 simp only at c0 c1 c2 c3 c4 c5 d f i j k n
 go_wp2_with fail
 refine (bF _ _ _ _ az _ x.o.1.az x.o.2.az (by have:=A.o.2.1;simp only at this;omega)).m ?_
 rintro e w2 ⟨rfl,D⟩;have y:qj _:=And.intro (x.o.1.below D) (x.o.2.below D);have s:qj _:=And.intro (r.o.1.below D) (r.o.2.below D);have I:=Aa (next H.o D);clear c0 c1 c2 c3 c4 c5 d f i j k n D x r H;obtain ⟨c0,c1,c2,c3,c4,c5⟩:=s.o.1;obtain ⟨d,f,i,j,k,n⟩:=s.o.2
 simp only at c0 c1 c2 c3 c4 c5 d f i j k n
 go_wp2_with fail
 refine (dO _ _ _ _ cs _ y.o.1.cs y.o.2.cs (by have:=A.o.2.2.1;simp only at this;omega)).m ?_
 rintro e w3 ⟨rfl,F⟩;have z:qj _:=And.intro (y.o.1.below F) (y.o.2.below F);have v:qj _:=And.intro (s.o.1.below F) (s.o.2.below F);have J:=Aa (next I.o F);clear c0 c1 c2 c3 c4 c5 d f i j k n F y s I;obtain ⟨c0,c1,c2,c3,c4,c5⟩:=v.o.1;obtain ⟨d,f,i,j,k,n⟩:=v.o.2
 simp only at c0 c1 c2 c3 c4 c5 d f i j k n
 go_wp2_with fail
 refine (Zd _ _ _ _ ls _ z.o.1.ls z.o.2.ls (by have:=A.o.2.2.2.1;simp only at this;omega)).m ?_
 rintro e w4 ⟨rfl,G⟩;have R:qj _:=And.intro (z.o.1.below G) (z.o.2.below G);have N:qj _:=And.intro (v.o.1.below G) (v.o.2.below G);have V:=Aa (next J.o G);clear c0 c1 c2 c3 c4 c5 d f i j k n G z v J;obtain ⟨c0,c1,c2,c3,c4,c5⟩:=N.o.1;obtain ⟨d,f,i,j,k,n⟩:=N.o.2
 simp only at c0 c1 c2 c3 c4 c5 d f i j k n
 go_wp2_with fail
 refine (Yz _ _ _ _ lg lg _ R.o.1.log R.o.2.log (by have:=A.o.2.2.2.2;simp only at this;omega) (by have:=A.o.2.2.2.2;simp only at this;omega)).m ?_
 rintro e w5 ⟨rfl,Z⟩;have X:=Aa (next V.o Z);clear c0 c1 c2 c3 c4 c5 d f i j k n Z;go_wp2;go_ret;exact ⟨rfl,X.o⟩
abbrev qcB(b:Bk)(p:Bp):Array Value:=#[qzI b.today,qf p.o b.off.length p.oc,qf p.a b.az.length p.ac,qf p.c b.cs.length p.cc,qf p.l b.ls.length p.lc,qf p.g b.log.length p.gc]
abbrev qzB:Array Value:=#[qzI 0,qe,qe,qe,qe,qe]
structure Z6 (B:Nat) (d f k m n r:Value) (u:ql):Prop where
 c0:u.cell? (qzA B 0)=some d
 c1:u.cell? (qzA B 1)=some f
 c2:u.cell? (qzA B 2)=some k
 c3:u.cell? (qzA B 3)=some m
 c4:u.cell? (qzA B 4)=some n
 c5:u.cell? (qzA B 5)=some r
 z0:u.frozen? (qzA B 0)=false
 z1:u.frozen? (qzA B 1)=false
 z2:u.frozen? (qzA B 2)=false
 z3:u.frozen? (qzA B 3)=false
 z4:u.frozen? (qzA B 4)=false
 z5:u.frozen? (qzA B 5)=false
theorem Z6.lt {B:Nat} {d f k m n r:Value} {u:ql} (h:Z6 B d f k m n r u):B<u.heap.size:=qs u _ h.c0
theorem Z6.below {B:Nat} {d f k m n r:Value} {u v:ql} (h:Z6 B d f k m n r u) (b:BW u v):Z6 B d f k m n r v:=by
 have l:=h.lt;exact ⟨(b.c B 0 l).t h.c0,(b.c B 1 l).t h.c1,(b.c B 2 l).t h.c2,(b.c B 3 l).t h.c3,(b.c B 4 l).t h.c4,(b.c B 5 l).t h.c5,(b.frozen (p:=(qzA B 0)) l).t h.z0,(b.frozen (p:=(qzA B 1)) l).t h.z1,(b.frozen (p:=(qzA B 2)) l).t h.z2,(b.frozen (p:=(qzA B 3)) l).t h.z3,(b.frozen (p:=(qzA B 4)) l).t h.z4,(b.frozen (p:=(qzA B 5)) l).t h.z5⟩
theorem Z6.far {B B' i:Nat} {d f k m n r:Value} {u:ql} {x:Value} (h:Z6 B d f k m n r u) (y:B'≠B):Z6 B d f k m n r (u.setCell (qzA B' i) x):=by
 have l:=h.lt
 have gr:u.grownBy (u.setCell (qzA B' i) x) (some B'):=⟨rfl,rfl,rfl,by simp,λj _ hj=>Below.heap_setCell _ _ _ _ (λe=>hj (by rw [e]))⟩
 have hs:some B≠some B':=λe=>y (by injection e with e;exact e.s)
 exact ⟨(gr.cell_far (qzA B 0) l hs).t h.c0,(gr.cell_far (qzA B 1) l hs).t h.c1,(gr.cell_far (qzA B 2) l hs).t h.c2,(gr.cell_far (qzA B 3) l hs).t h.c3,(gr.cell_far (qzA B 4) l hs).t h.c4,(gr.cell_far (qzA B 5) l hs).t h.c5,by simp [h.z0],by simp [h.z1],by simp [h.z2],by simp [h.z3],by simp [h.z4],by simp [h.z5]⟩
theorem Z6.set0 {B:Nat} {d f k m n r:Value} {u:ql} (h:Z6 B d f k m n r u) (x:Value):Z6 B x f k m n r (u.setCell (qzA B 0) x):=by
 obtain ⟨c0,c1,c2,c3,c4,c5,z0,z1,z2,z3,z4,z5⟩:=h
 constructor<;>simp [go_sem, *]
theorem Z6.set1 {B:Nat} {d f k m n r:Value} {u:ql} (h:Z6 B d f k m n r u) (x:Value):Z6 B d x k m n r (u.setCell (qzA B 1) x):=by
 obtain ⟨c0,c1,c2,c3,c4,c5,z0,z1,z2,z3,z4,z5⟩:=h
 constructor<;>simp [go_sem, *]
theorem Z6.set2 {B:Nat} {d f k m n r:Value} {u:ql} (h:Z6 B d f k m n r u) (x:Value):Z6 B d f x m n r (u.setCell (qzA B 2) x):=by
 obtain ⟨c0,c1,c2,c3,c4,c5,z0,z1,z2,z3,z4,z5⟩:=h
 constructor<;>simp [go_sem, *]
theorem Z6.set3 {B:Nat} {d f k m n r:Value} {u:ql} (h:Z6 B d f k m n r u) (x:Value):Z6 B d f k x n r (u.setCell (qzA B 3) x):=by
 obtain ⟨c0,c1,c2,c3,c4,c5,z0,z1,z2,z3,z4,z5⟩:=h
 constructor<;>simp [go_sem, *]
theorem Z6.set4 {B:Nat} {d f k m n r:Value} {u:ql} (h:Z6 B d f k m n r u) (x:Value):Z6 B d f k m x r (u.setCell (qzA B 4) x):=by
 obtain ⟨c0,c1,c2,c3,c4,c5,z0,z1,z2,z3,z4,z5⟩:=h
 constructor<;>simp [go_sem, *]
theorem Z6.set5 {B:Nat} {d f k m n r:Value} {u:ql} (h:Z6 B d f k m n r u) (x:Value):Z6 B d f k m n x (u.setCell (qzA B 5) x):=by
 obtain ⟨c0,c1,c2,c3,c4,c5,z0,z1,z2,z3,z4,z5⟩:=h
 constructor<;>simp [go_sem, *]
theorem Z6.new (w:ql) (d f k m n r:Value) (z:TypeId):Z6 w.heap.size d f k m n r (w.alloc (.cells #[d,f,k,m,n,r] z)) :=
 ⟨by simp,by simp,by simp,by simp,by simp,by simp,by simp [go_sem],by simp [go_sem],by simp [go_sem],by simp [go_sem],by simp [go_sem],by simp [go_sem]⟩
structure Jr (base:Nat) (b:Bk) (q:Bp) (u:ql):Prop where
 off:u.ownsRow base 3 1 (qf q.o b.off.length q.oc) b.off.length (b.off.map (Value.int .i64))
 az:u.ownsRow base 108 6 (qf q.a b.az.length q.ac) b.az.length (Ap b.az)
 cs:u.ownsRow base 111 12 (qf q.c b.cs.length q.cc) b.cs.length (Am b.cs)
 ls:u.ownsRow base 151 3 (qf q.l b.ls.length q.lc) b.ls.length (Ak b.ls)
 log:u.ownsRow base 9 1 (qf q.g b.log.length q.gc) b.log.length (At b.log)
 apart:∃ g1 g2 g3 g4 g5,q.o=some (qzA g1 0)/\q.a=some (qzA g2 0)/\q.c=some (qzA g3 0)/\q.l=some (qzA g4 0)/\q.g=some (qzA g5 0)/\g1<g2/\g2<g3/\g3<g4/\g4<g5
theorem Jr.below {base:Nat} {b:Bk} {q:Bp} {u v:ql} (h:Jr base b q u) (hb:BW u v):Jr base b q v:=⟨A5 h.off hb,A5 h.az hb,A5 h.cs hb,A5 h.ls hb,A5 h.log hb,h.apart⟩
theorem Jr.at {base:Nat} {b:Bk} {q:Bp} {u:ql} (h:Jr base b q u):Az u b q:=⟨Nq h.off,Hu h.az,Hz h.cs,Eb h.ls,G5 h.log⟩
abbrev Z0(R:Nat)(u:ql):Prop:=Z6 R (qzI 0) qe qe qe qe qe u
abbrev ZQ(X:Nat)(b:Bk)(q:Bp)(u:ql):Prop:=Z6 X (qzI b.today) (qf q.o b.off.length q.oc) (qf q.a b.az.length q.ac) (qf q.c b.cs.length q.cc) (qf q.l b.ls.length q.lc) (qf q.g b.log.length q.gc) u
theorem S6.under {s B:Nat} {b:Bk} {p:Bp} {u J:ql} (h:S6 s b p u) (hb:Below B u J) (l:s<B):S6 s b p J :=
 ⟨(hb.c s 0 l).t h.c0,(hb.c s 1 l).t h.c1,(hb.c s 2 l).t h.c2,(hb.c s 3 l).t h.c3,(hb.c s 4 l).t h.c4,(hb.c s 5 l).t h.c5⟩
theorem Z6.under {s B:Nat} {N A C D G I:Value} {u J:ql} (h:Z6 s N A C D G I u) (hb:Below B u J) (l:s<B):Z6 s N A C D G I J :=
 ⟨(hb.c s 0 l).t h.c0,(hb.c s 1 l).t h.c1,(hb.c s 2 l).t h.c2,(hb.c s 3 l).t h.c3,(hb.c s 4 l).t h.c4,(hb.c s 5 l).t h.c5,(hb.frozen (p:=(qzA s 0)) l).t h.z0,(hb.frozen (p:=(qzA s 1)) l).t h.z1,(hb.frozen (p:=(qzA s 2)) l).t h.z2,(hb.frozen (p:=(qzA s 3)) l).t h.z3,(hb.frozen (p:=(qzA s 4)) l).t h.z4,(hb.frozen (p:=(qzA s 5)) l).t h.z5⟩
theorem Af3 (u:ql) (h i:Nat) (x:Value):Below h u (u.setCell (qzA h i) x):=Below.setCell (p:=(qzA h i)) (Below.refl h u) (Nat.le_refl h) x
theorem Al {u:ql} {base n size B i:Nat} {t:TypeId} {v x:Value} {xs:List Value} (o:u.ownsRow base t size v n xs) (hB:B<base):(u.setCell (qzA B i) x).ownsRow base t size v n xs :=
 o.kept (row:=some B) ⟨rfl,rfl,rfl,by simp,λj _ hj=>Below.heap_setCell _ _ _ _ (λe=>hj (by rw [e]))⟩ (.inr λh=>by have:=(o.lt _ h).1;omega)
structure Hi (h:Nat) (u J:ql):Prop where
 size:u.heap.size<=J.heap.size
 block:∀ k,h<=k->k<u.heap.size->J.heap[k]?=u.heap[k]?
theorem Hi.t {h:Nat} {u v w:ql} (a:Hi h u v) (b:Hi h v w):Hi h u w :=
 ⟨jk a.size b.size,λk hk hl=>(b.block k hk (jd hl a.size)).t (a.block k hk hl)⟩
theorem Hi.of {h:Nat} {u v:ql} (b:BW u v):Hi h u v:=⟨b.size,λk _ hl=>b.block k hl⟩
theorem Hi.set {h B:Nat} (u:ql) (i:Nat) (x:Value) (l:B<h):Hi h u (u.setCell (qzA B i) x) :=
 ⟨by simp,λk hk _=>Below.heap_setCell _ _ _ _ (λe=>by simp only at e;omega)⟩
theorem Hi.row {h n size:Nat} {u v:ql} {t:TypeId} {x:Value} {xs:List Value} (b:Hi h u v) (o:u.ownsRow h t size x n xs):v.ownsRow h t size x n xs:=by
 obtain ⟨h1,h2⟩:=o;refine ⟨h1,?_⟩
 rcases h2 with h|⟨g,cap,cw,hv,f,hh,r⟩
 ·exact .inl h
 ·exact .inr ⟨g,cap,cw,hv,f,(b.block g f (Array.getElem?_eq_some_iff.1 hh).1).t hh,r⟩
structure TB (w:ql) (b:Bk) (p:Bp) (N A C D G I:Value) (u:ql):Prop where
 bw:BW w u
 s:S6 w.heap.size b p u
 z:Z6 (w.heap.size+1) (qzI 0) qe qe qe qe qe u
 t:Z6 (w.heap.size+1+1) N A C D G I u
 g:w.heap.size+3<=u.heap.size
theorem TB.below {w u J:ql} {b:Bk} {p:Bp} {N A C D G I:Value} (h:TB w b p N A C D G I u) (k:BW u J):TB w b p N A C D G I J :=
 ⟨next h.bw k,h.s.below k,h.z.below k,h.t.below k,jk h.g k.size⟩
theorem TB.set {w u:ql} {b:Bk} {p:Bp} {N A C D G I z0 z1 z2 z3 z4 z5 x:Value} {i:Nat} (h:TB w b p N A C D G I u)
  (z:Z6 (w.heap.size+1+1) z0 z1 z2 z3 z4 z5 (u.setCell ⟨w.heap.size+1+1,i,none⟩ x)):TB w b p z0 z1 z2 z3 z4 z5 (u.setCell ⟨w.heap.size+1+1,i,none⟩ x) :=
 ⟨h.bw.setCell (show w.heap.size<=w.heap.size+1+1 by omega) _,h.s.under (Af3 _ _ _ _) (by omega),h.z.under (Af3 _ _ _ _) (by omega),z,by simpa using h.g⟩
theorem kO (b:Bk) (p:Bp) (w:ql) (hx:Az w b p) (hn:Ld b) :
  qi 7 #[Fx b p] w λe w'=>∃ q,e=.returned (Fx b q)/\Jr w.heap.size b q w'/\BW w w':=by
 obtain ⟨V,hV⟩:∃ V,V=(w.alloc (.cells (qcB b p) 30)):=⟨_,rfl⟩
 have sV:V.heap.size=w.heap.size+1:=by rw [hV];simp
 have s1:S6 w.heap.size b p V:=by rw [hV];exact S6.new w b p _
 obtain ⟨O,hO⟩:∃ O,O=Obj.cells qzB 40:=⟨_,rfl⟩
 have pb:∀ (u:ql) (o:Obj),Below u.heap.size u (u.alloc o):=λu o=>bR.alloc nL _
 have n:∀ u:ql,Z6 u.heap.size (qzI 0) qe qe qe qe qe (u.alloc O):=λu=>by rw [hO];exact Z6.new u _ _ _ _ _ _ _
 obtain ⟨W,R⟩:∃ W,W=(V.alloc O).alloc O:=⟨_,rfl⟩;have h2:=(n V).below (pb _ O);have h3:=n (V.alloc O);rw [World.size_alloc,sV] at h3;rw [sV] at h2
 have H:=Aa (TB.mk (w:=w) (b:=b) (p:=p) (u:=W) (by rw [R,hV];go_grown) (by rw [R];exact (s1.below (pb _ _)).below (pb _ _)) (by rw [R];exact h2) (by rw [R];exact h3) (show w.heap.size+3<=W.heap.size by rw [R];simp only [World.size_alloc,sV];omega))
 rw [hV,hO] at R;have HW:=Aa R;have HX:=Aa hx;have Z:=Aa hn;clear hx R s1 sV h2 h3 pb hn n hV hO;obtain ⟨td,L,az,cs,ls,M⟩:=b;obtain ⟨o,oc,a,ac,c,cc,l,lc,g,gc⟩:=p;unfold Fx
 simp only at HW ⊢
 have f0:=H.o.s.c0;have t0:=H.o.t.c0;have y0:=H.o.t.z0
 simp only at f0
 go_enter func7,ntmps7
 go_upto_region 2 with fail
 rw [<- HW.o];clear HW;go_upto_region 3 with fail
 replace H:=Aa (H.o.set (H.o.t.set0 (qzI td)));clear f0 t0 y0
 generalize W.setCell _ _=u0 at H ⊢
 have f1:=H.o.s.c1;have t1:=H.o.t.c1;have y1:=H.o.t.z1
 simp only at f1
 go_wp2_with fail
 refine (nS _ _ L _ (HX.o.below H.o.bw).off (by have:=Z.o.1;simp only at this;omega)).m ?_
 rintro e A ⟨rfl,o1,b1⟩;obtain ⟨S,f⟩:=A0 u0.heap.size;rw [<- f] at o1 ⊢;have L1:=Aa (Nat.le_of_eq f.s)
 have R1:=Aa (Bz o1 (show w.heap.size+3<=S by rw [f];exact H.o.g))
 have T1:=Aa (Hi.of (h:=w.heap.size+3) b1);replace H:=Aa (H.o.below b1);clear t1 y1 f1 o1 f b1;have t1:=H.o.t.c1;have y1:=H.o.t.z1;go_upto_region 4 with fail
 obtain ⟨u1,y⟩:∃ u,u=A.setCell ⟨w.heap.size+1+1,1,none⟩ (qf (some (qzA S 0)) L.length L.length):=⟨_,rfl⟩
 have s:=Hi.set (h:=w.heap.size+3) A 1 (qf (some (qzA S 0)) L.length L.length) (show w.heap.size+1+1<_ by omega)
 have z:=H.o.set (H.o.t.set1 (qf (some (qzA S 0)) L.length L.length));rw [<- y] at s z ⊢;replace R1:=Aa (s.row R1.o);replace T1:=Aa (T1.o.t s);replace H:=Aa z;clear t1 y1 z s y;have f2:=H.o.s.c2;have t2:=H.o.t.c2;have y2:=H.o.t.z2
 simp only at f2
 go_wp2_with fail
 refine (jH _ _ az _ (HX.o.below H.o.bw).az (by have:=Z.o.2.1;simp only at this;omega)).m ?_
 rintro e C ⟨rfl,o2,b2⟩;obtain ⟨T,f⟩:=A0 u1.heap.size;rw [<- f] at o2 ⊢;have L2:=Aa (Nat.le_of_eq f.s)
 have R2:=Aa (Bz o2 (show w.heap.size+3<=T by rw [f];exact H.o.g))
 have T2:=Aa (Hi.of (h:=w.heap.size+3) b2);replace H:=Aa (H.o.below b2);clear t2 y2 f2 o2 f b2;have t2:=H.o.t.c2;have y2:=H.o.t.z2;go_upto_region 5 with fail
 obtain ⟨u2,y⟩:∃ u,u=C.setCell ⟨w.heap.size+1+1,2,none⟩ (qf (some (qzA T 0)) az.length az.length):=⟨_,rfl⟩
 have s:=Hi.set (h:=w.heap.size+3) C 2 (qf (some (qzA T 0)) az.length az.length) (show w.heap.size+1+1<_ by omega)
 have z:=H.o.set (H.o.t.set2 (qf (some (qzA T 0)) az.length az.length));rw [<- y] at s z ⊢;replace R2:=Aa (s.row R2.o);replace T2:=Aa (T2.o.t s);replace H:=Aa z;clear t2 y2 z s y;have f3:=H.o.s.c3;have t3:=H.o.t.c3;have y3:=H.o.t.z3
 simp only at f3
 go_wp2_with fail
 refine (eJ _ _ cs _ (HX.o.below H.o.bw).cs (by have:=Z.o.2.2.1;simp only at this;omega)).m ?_
 rintro e D ⟨rfl,o3,b3⟩;obtain ⟨U,f⟩:=A0 u2.heap.size;rw [<- f] at o3 ⊢;have L3:=Aa (Nat.le_of_eq f.s)
 have R3:=Aa (Bz o3 (show w.heap.size+3<=U by rw [f];exact H.o.g))
 have T3:=Aa (Hi.of (h:=w.heap.size+3) b3);replace H:=Aa (H.o.below b3);clear t3 y3 f3 o3 f b3;have t3:=H.o.t.c3;have y3:=H.o.t.z3;go_upto_region 6 with fail
 obtain ⟨u3,y⟩:∃ u,u=D.setCell ⟨w.heap.size+1+1,3,none⟩ (qf (some (qzA U 0)) cs.length cs.length):=⟨_,rfl⟩
 have s:=Hi.set (h:=w.heap.size+3) D 3 (qf (some (qzA U 0)) cs.length cs.length) (show w.heap.size+1+1<_ by omega)
 have z:=H.o.set (H.o.t.set3 (qf (some (qzA U 0)) cs.length cs.length));rw [<- y] at s z ⊢;replace R3:=Aa (s.row R3.o);replace T3:=Aa (T3.o.t s);replace H:=Aa z;clear t3 y3 z s y;have f4:=H.o.s.c4;have t4:=H.o.t.c4;have y4:=H.o.t.z4
 simp only at f4
 go_wp2_with fail
 refine (bN _ _ ls _ (HX.o.below H.o.bw).ls (by have:=Z.o.2.2.2.1;simp only at this;omega)).m ?_
 rintro e G ⟨X,rfl,o4,b4⟩;have L4:=Aa (o4.lt X rfl).1;have R4:=Aa (Bz o4 H.o.g);have T4:=Aa (Hi.of (h:=w.heap.size+3) b4);replace H:=Aa (H.o.below b4);clear t4 y4 f4 o4 b4;have t4:=H.o.t.c4;have y4:=H.o.t.z4;go_upto_region 7 with fail
 obtain ⟨u4,y⟩:∃ u,u=G.setCell ⟨w.heap.size+1+1,4,none⟩ (qf (some (qzA X 0)) ls.length ls.length):=⟨_,rfl⟩
 have s:=Hi.set (h:=w.heap.size+3) G 4 (qf (some (qzA X 0)) ls.length ls.length) (show w.heap.size+1+1<_ by omega)
 have z:=H.o.set (H.o.t.set4 (qf (some (qzA X 0)) ls.length ls.length));rw [<- y] at s z ⊢;replace R4:=Aa (s.row R4.o);replace T4:=Aa (T4.o.t s);replace H:=Aa z;clear t4 y4 z s y;have f5:=H.o.s.c5;have t5:=H.o.t.c5;have y5:=H.o.t.z5
 simp only at f5
 go_wp2_with fail
 refine (Yy _ _ M _ (HX.o.below H.o.bw).log (by have:=Z.o.2.2.2.2;simp only at this;omega)).m ?_
 rintro e I ⟨rfl,o5,b5⟩;obtain ⟨Y,f⟩:=A0 u4.heap.size;rw [<- f] at o5 ⊢;have L5:=Aa (Nat.le_of_eq f.s)
 have R5:=Aa (Bz o5 (show w.heap.size+3<=Y by rw [f];exact H.o.g))
 have T5:=Aa (Hi.of (h:=w.heap.size+3) b5);replace H:=Aa (H.o.below b5);clear t5 y5 f5 o5 f b5;have t5:=H.o.t.c5;have y5:=H.o.t.z5;go_upto_region 8 with fail
 obtain ⟨u5,y⟩:∃ u,u=I.setCell ⟨w.heap.size+1+1,5,none⟩ (qf (some (qzA Y 0)) M.length M.length):=⟨_,rfl⟩
 have s:=Hi.set (h:=w.heap.size+3) I 5 (qf (some (qzA Y 0)) M.length M.length) (show w.heap.size+1+1<_ by omega)
 have z:=H.o.set (H.o.t.set5 (qf (some (qzA Y 0)) M.length M.length));rw [<- y] at s z ⊢;replace R5:=Aa (s.row R5.o);replace T5:=Aa (T5.o.t s);replace H:=Aa z;clear t5 y5 z s y;obtain ⟨x0,x1,x2,x3,x4,x5,-,-,-,-,-,-⟩:=H.o.t;obtain ⟨q0,q1,q2,q3,q4,q5,r0,r1,r2,r3,r4,r5⟩:=H.o.z;go_wp2
 refine bodyPost_ret (by simp [results,results7,go_sem,q0,q1,q2,q3,q4,q5];try rfl) rfl ?_
 have e:∀ (u:ql) i x,Hi (w.heap.size+3) u (u.setCell ⟨w.heap.size+1,i,none⟩ x):=λu i x=>Hi.set u i x (by omega)
 have d:∀ (u:ql) i x,BW w u->Below w.heap.size w (u.setCell ⟨w.heap.size+1,i,none⟩ x):=λu i x k=>k.setCell (show w.heap.size<=w.heap.size+1 by omega) _
 have F:∀ v,Hi (w.heap.size+3) u5 v->BW w v->Jr w.heap.size ⟨td,L,az,cs,ls,M⟩ ⟨some (qzA S 0),L.length,some (qzA T 0),az.length,some (qzA U 0),cs.length,some (qzA X 0),ls.length,some (qzA Y 0),M.length⟩ v/\BW w v:=λv E5 k=>by
  have E4:=T5.o.t E5;have E3:=T4.o.t E4;have E2:=T3.o.t E3
  exact ⟨⟨Bz ((T2.o.t E2).row R1.o) (by omega),Bz (E2.row R2.o) (by omega),Bz (E3.row R3.o) (by omega),Bz (E4.row R4.o) (by omega),Bz (E5.row R5.o) (by omega),⟨S,T,U,X,Y,rfl,rfl,rfl,rfl,rfl,by have:=(R1.o.lt S rfl).2;have:=L2.o;omega,by have:=(R2.o.lt T rfl).2;have:=L3.o;omega,by have:=(R3.o.lt U rfl).2;have:=L4.o;omega,by have:=(R4.o.lt X rfl).2;have:=L5.o;omega⟩⟩,k⟩
 exact ⟨_,rfl,F _ ((((((e _ _ _).t (e _ _ _)).t (e _ _ _)).t (e _ _ _)).t (e _ _ _)).t (e _ _ _)) (d _ _ _ (d _ _ _ (d _ _ _ (d _ _ _ (d _ _ _ (d _ _ _ H.o.bw))))))⟩
theorem Fe (ao:qm) (cap:Nat) (az:List Au) (w:ql) (hz:Ba w ao az) (hn:az.length<=4194304) (hd:∀ a ∈ az,a.ref.length<=1099511627776) :
  qi 74 #[qf ao az.length cap] w λe w'=>e=.returned (qf (some ⟨w.heap.size,0,none⟩) az.length az.length) /\
   w'.ownsRow w.heap.size 108 6 (qf (some ⟨w.heap.size,0,none⟩) az.length az.length) az.length (Ap az)/\BW w w':=by
 obtain ⟨i0,hi,D,F,G⟩:=info_parts Aap;have x:=Vv az.length
 rcases hz with rfl|⟨b,off,rfl,hb,p⟩
 ·go_enter func74,ntmps74
  go_wp2_with (refine wpList_make_full _ rfl (.tmp 7) (.tmp 7) 117 rfl w.heap.size 108 i0 _ 6 underlying117 hi D F .i64 .i64 _ _ 0 rfl rfl rfl rfl (by rw [G];omega) (by unfold maxLen;omega) nL ?_;intro w1 l L)
  refine wp_loop_rounds 1 ?_;rw [rounds_succ];go_wp2;go_ret
  exact ⟨rfl,by simpa [madeCells,Ap] using l,bR.grown L nL (λk hk=>by cases hk)⟩
 rw [<- Xg az] at x;have y:=Aa p;clear p
 go_enter func74,ntmps74
 go_wp2_with (refine wpList_make_full _ rfl (.tmp 7) (.tmp 7) 117 rfl w.heap.size 108 i0 _ 6 underlying117 hi D F .i64 .i64 _ _ az.length rfl rfl rfl rfl (by rw [G];omega) (by unfold maxLen;omega) nL ?_;intro w1 l L)
 rw [x] at l
 have C:=bR.grown L nL (λk hk=>by cases hk)
 clear x L
 go_loopw [4,5,11] (λ_ _ i wr=>∃ k:Nat,k<=az.length/\i=qzI k/\wr.ownsRow w.heap.size 108 6 (qf (some ⟨w.heap.size,0,none⟩) az.length az.length) az.length (Ap (Fk az k))/\BW w wr) (λ_ _ i _=>az.length - (intOf i).toNat)
 case atStart=>exact ⟨0,qw _,rfl,l,C⟩
 case round =>
  obtain ⟨k,hk,rfl,ho,j⟩:=hrel;clear l C
  by_cases hlt:k<az.length
  ·have x0:=(j.c b (off+k*6) hb).t (y.o k hlt).1
   have x1:=(j.c b (off+k*6+1) hb).t (y.o k hlt).2.1;have x2:=(j.c b (off+k*6+2) hb).t (y.o k hlt).2.2.1;have x3:=(j.c b (off+k*6+3) hb).t (y.o k hlt).2.2.2.1;have x4:=(j.c b (off+k*6+4) hb).t (y.o k hlt).2.2.2.2.1;have x5:=(j.c b (off+k*6+5) hb).t (y.o k hlt).2.2.2.2.2
   have a4:(k:Int)<(az.length:Int):=by omega
   have v:=hd _ (Ob hlt);have X:=Aa (Qu az k hlt)
   have I:=Aa (My (Fk az k) (Ch az k) k (by rw [Lu az k hk];exact hlt))
   have A:qj (k<(Fk az k).length):=by rw [qj,Lu az k hk];exact hlt
   have B:qj (k<(Fk az (k+1)).length):=by rw [qj,Lu az (k+1) hlt];exact hlt
   have s:qj (Ch (Fk az (k+1)) k=Ch az k):=by
    rw [qj,<- Qu az k hlt,Pn (by rw [List.length_set];exact A.o),List.getElem_set_self]
   obtain ⟨⟨r,i,c,m,d,u⟩,hf⟩:∃ f,Ch az k=f:=⟨_,rfl⟩;rw [hf] at x0 x1 x2 x3 x4 x5 X I v s
   simp only at x0 x1 x2 x3 x4 x5 I v
   have H:=Aa ho;have HA:qj _:=fW az k hlt;have z:=Aa j;have a5:w.heap.size<wr.heap.size:=(ho.lt _ rfl).2;clear hf ho j;go_upto_region 5 with fail
   clear x0 x1 x2 x3 x4 x5;obtain ⟨W,J⟩:=Ae (wr.alloc (.cells #[qd r,qzI i,qzI c,qzI m,qzI d,.bool u] 108));have Z:BW wr W:=J ▸ bR.alloc nL _;have BX:Yr wr.heap.size ⟨r,i,c,m,d,u⟩ W:=J ▸ Yr.new wr ⟨r,i,c,m,d,u⟩ _;rw [J];clear J;have h:=Nn H.o Z;have g:=Ff (Fk az k) k A.o;rw [HA.o] at g;have S:=Aa BX
   have y0:W.cell? ⟨w.heap.size,k*6,none⟩=some (.string ⟨#[]⟩):=by rw [h.cellAt (k*6) (by omega)];exact g.1
   have z0:W.frozen? ⟨w.heap.size,k*6,none⟩=false:=h.frozenAt _
   have y1:W.cell? ⟨w.heap.size,k*6+1,none⟩=some (qzI 0):=by rw [h.cellAt (k*6+1) (by omega)];exact g.2.1
   have z1:W.frozen? ⟨w.heap.size,k*6+1,none⟩=false:=h.frozenAt _
   have y2:W.cell? ⟨w.heap.size,k*6+2,none⟩=some (qzI 0):=by rw [h.cellAt (k*6+2) (by omega)];exact g.2.2.1
   have z2:W.frozen? ⟨w.heap.size,k*6+2,none⟩=false:=h.frozenAt _
   have y3:W.cell? ⟨w.heap.size,k*6+3,none⟩=some (qzI 0):=by rw [h.cellAt (k*6+3) (by omega)];exact g.2.2.2.1
   have z3:W.frozen? ⟨w.heap.size,k*6+3,none⟩=false:=h.frozenAt _
   have y4:W.cell? ⟨w.heap.size,k*6+4,none⟩=some (qzI 0):=by rw [h.cellAt (k*6+4) (by omega)];exact g.2.2.2.2.1
   have z4:W.frozen? ⟨w.heap.size,k*6+4,none⟩=false:=h.frozenAt _
   have y5:W.cell? ⟨w.heap.size,k*6+5,none⟩=some (.bool false):=by rw [h.cellAt (k*6+5) (by omega)];exact g.2.2.2.2.2
   have z5:W.frozen? ⟨w.heap.size,k*6+5,none⟩=false:=h.frozenAt _
   have T:qj ((((((((W.setCell ⟨w.heap.size,k*6,none⟩ (qd r)).setCell ⟨w.heap.size,k*6+1,none⟩ (qzI i)).setCell ⟨w.heap.size,k*6+2,none⟩ (qzI c)).setCell ⟨w.heap.size,k*6+3,none⟩ (qzI m)).setCell ⟨w.heap.size,k*6+4,none⟩ (qzI d)).setCell ⟨w.heap.size,k*6+5,none⟩ (.bool u))).ownsRow w.heap.size 108 6 (qf (some ⟨w.heap.size,0,none⟩) az.length az.length) az.length (Ap (Fk az (k+1)))):=by
    have R:=(((((((h.stored (k*6) (qd r)).1.stored (k*6+1) (qzI i)).1.stored (k*6+2) (qzI c)).1.stored (k*6+3) (qzI m)).1.stored (k*6+4) (qzI d)).1.stored (k*6+5) (.bool u))).1;rw [I.o,X.o] at R;exact R
   have q:qj (Below w.heap.size w (((((((W.setCell ⟨w.heap.size,k*6,none⟩ (qd r)).setCell ⟨w.heap.size,k*6+1,none⟩ (qzI i)).setCell ⟨w.heap.size,k*6+2,none⟩ (qzI c)).setCell ⟨w.heap.size,k*6+3,none⟩ (qzI m)).setCell ⟨w.heap.size,k*6+4,none⟩ (qzI d)).setCell ⟨w.heap.size,k*6+5,none⟩ (.bool u)))):=(((((((z.o.t (Z.m z.o.size)).setCell nL _).setCell nL _).setCell nL _).setCell nL _).setCell nL _).setCell nL _)
   have n:=Aa ((World.grownBy.cell_far (row:=some w.heap.size) (((((((h.stored (k*6) (qd r)).2).t ((h.stored (k*6) (qd r)).1.stored (k*6+1) (qzI i)).2).t (((h.stored (k*6) (qd r)).1.stored (k*6+1) (qzI i)).1.stored (k*6+2) (qzI c)).2).t ((((h.stored (k*6) (qd r)).1.stored (k*6+1) (qzI i)).1.stored (k*6+2) (qzI c)).1.stored (k*6+3) (qzI m)).2).t (((((h.stored (k*6) (qd r)).1.stored (k*6+1) (qzI i)).1.stored (k*6+2) (qzI c)).1.stored (k*6+3) (qzI m)).1.stored (k*6+4) (qzI d)).2).t ((((((h.stored (k*6) (qd r)).1.stored (k*6+1) (qzI i)).1.stored (k*6+2) (qzI c)).1.stored (k*6+3) (qzI m)).1.stored (k*6+4) (qzI d)).1.stored (k*6+5) (.bool u)).2) ⟨wr.heap.size,0,none⟩ BX.lt (by simp;omega)).t BX.c0)
   obtain ⟨q0,q1,q2,q3,q4,q5⟩:=BX
   simp only at q0 q1 q2 q3 q4 q5
   clear h g Z H HA X I;go_upto_region 6 with fail
   clear q0 q1 q2 q3 q4 q5 y0 z0 y1 z1 y2 z2 y3 z3 y4 z4 y5 z5;obtain ⟨V,hV⟩:=Ae ((((((((W.setCell ⟨w.heap.size,k*6,none⟩ (qd r)).setCell ⟨w.heap.size,k*6+1,none⟩ (qzI i)).setCell ⟨w.heap.size,k*6+2,none⟩ (qzI c)).setCell ⟨w.heap.size,k*6+3,none⟩ (qzI m)).setCell ⟨w.heap.size,k*6+4,none⟩ (qzI d)).setCell ⟨w.heap.size,k*6+5,none⟩ (.bool u))));rw [hV] at T q n ⊢;clear hV;have v0:=n.o;have lb:=qs V _ v0;go_wp2_with fail
   refine (Lq r _ v).m ?_;rintro e N ⟨rfl,Y⟩;have M:=Nn T.o Y;have g:=Ff (Fk az (k+1)) k B.o;rw [s.o] at g
   have t0:N.cell? ⟨w.heap.size,k*6,none⟩=some (qd r):=by rw [M.cellAt (k*6) (by omega)];exact g.1
   have t1:N.frozen? ⟨w.heap.size,k*6,none⟩=false:=M.frozenAt _
   have U:qj ((N.setCell ⟨w.heap.size,k*6,none⟩ (qd r)).ownsRow w.heap.size 108 6 (qf (some ⟨w.heap.size,0,none⟩) az.length az.length) az.length (Ap (Fk az (k+1)))):=by
    have R:=(M.stored (k*6) (qd r)).1;rw [Jf g.1] at R;exact R
   have O:qj (Below w.heap.size w (N.setCell ⟨w.heap.size,k*6,none⟩ (qd r))):=(q.o.t (Y.m q.o.size)).setCell nL _;clear M g Y T q v0 n S s;go_wp2
   go_roundw
   case rel=>exact ⟨k+1,by omega,by go_num,U.o,O.o⟩
   case measure=>simp [intOf];omega
  ·have a3:k=az.length:=by omega
   subst a3;rw [aE] at ho;have H:=Aa ho;clear ho;go_wp2;go_ret;exact ⟨rfl,H.o,j⟩
def I4 (l:qn) (a:Au):Bool:=a.ref == l
def addOk (az:List Au) (a:Au):Bool:=I2 a && (!az.any (I4 a.ref) && decide (az.length<100))
def Ps (az:List Au) (a:Au):List Au:=if addOk az a=true then az++[a] else az
theorem rG {az:List Au} {a:Au} (h:addOk az a=false):Ps az a=az:=by rw [Ps,if_neg (by rw [h];decide)]
theorem R6 {az:List Au} {a:Au} (h:addOk az a=true):Ps az a=az++[a]:=by rw [Ps,if_pos h]
theorem Aa4 (az:List Au) (a:Au):(Ps az a).length<=az.length+1:=by unfold Ps;split <;> simp
theorem iB (p:Au->Bool) (az:List Au) (k:Nat) (h:k<az.length):(az.drop k).any p=(p (Ch az k) || (az.drop (k+1)).any p):=by
 rw [jc h,Pn h,List.any_cons]
theorem sB {w:ql} {g:Nat} {a:Au} (h:Yr g a w):Ba w (some (qzA g 0)) [a] :=
 .inr ⟨g,0,rfl,h.lt,λi hi=>by
  obtain rfl:i=0:=by simpa using hi
  exact ⟨h.c0,h.c1,h.c2,h.c3,h.c4,h.c5⟩⟩
theorem xP (a:Au) (l:qn) (g:Nat) (w:ql) (hc:w.cell? (qzA g 0)=some (qd l)) :
  qi 280 #[Ha a,qh g] w (qp (.bool (I4 l a)) w):=by
 have hg:=qs w _ hc;obtain ⟨r,i,c,m,d,u⟩:=a;have A:qj (I4 l ⟨r,i,c,m,d,u⟩=(r == l)):=rfl
 simp only [Ha]
 have d5:(w.alloc (.cells #[qd r,qzI i,qzI c,qzI m,qzI d,.bool u] 108)).cell? (qzA g 0)=some (qd l):=by rw [jg _ _ _ hg];exact hc
 go_enter func280,ntmps280
 go_wp2;go_ret;exact ⟨Ab A.o.s,bR.alloc nL _⟩
theorem uH (ao:qm) (cap:Nat) (az:List Au) (l:qn) (g:Nat) (w:ql) (hz:Ba w ao az) (hn:az.length<=4194304) (hc:w.cell? (qzA g 0)=some (qd l)) :
  qi 310 #[qf ao az.length cap,.func (.func 280) #[] #[qh g]] w λe w'=>∃ x:Int,e=.returned (qzI x)/\decide (0<=x)=az.any (I4 l)/\BW w w':=by
 have hg:=qs w _ hc
 rcases hz with rfl|⟨b,off,rfl,hb,S⟩
 ·go_enter func310,ntmps310
  go_wp2;refine wp_loop_rounds 1 ?_;rw [rounds_succ];go_wp2;go_ret
  exact ⟨_,rfl,by simp,bR⟩
 have HC:=Aa S;have HG:=Aa hc;clear S hc
 go_enter func310,ntmps310
 go_wp2
 go_loopw [5,8] (λ_ i wr=>∃ k:Nat,k<=az.length/\i=qzI k/\az.any (I4 l)=(az.drop k).any (I4 l)/\BW w wr) (λ_ i _=>az.length - (intOf i).toNat)
 case atStart=>exact ⟨0,qw _,rfl,rfl,bR⟩
 case round =>
  obtain ⟨k,hk,rfl,R,y⟩:=hrel
  by_cases hlt:k<az.length
  ·have x0:=(y.c b (off+k*6) hb).t (HC.o k hlt).1
   have x1:=(y.c b (off+k*6+1) hb).t (HC.o k hlt).2.1;have x2:=(y.c b (off+k*6+2) hb).t (HC.o k hlt).2.2.1;have x3:=(y.c b (off+k*6+3) hb).t (HC.o k hlt).2.2.2.1;have x4:=(y.c b (off+k*6+4) hb).t (HC.o k hlt).2.2.2.2.1;have x5:=(y.c b (off+k*6+5) hb).t (HC.o k hlt).2.2.2.2.2
   have d6:(k:Int)<(az.length:Int):=by omega
   have a5:=Aa (R.t (iB (I4 l) az k hlt));have b9:=(y.c g 0 hg).t HG.o;have I:qj (qi 280 #[Ha (Ch az k),qh g] wr (qp (.bool (I4 l (Ch az k))) wr)):=xP _ l g wr b9;obtain ⟨q,hq⟩:=Ae (I4 l (Ch az k));rw [hq] at a5 I;obtain ⟨⟨r,i,c,m,d,u⟩,hf⟩:∃ a,Ch az k=a:=⟨_,rfl⟩;rw [hf] at x0 x1 x2 x3 x4 x5 I;unfold Ha at I
   simp only at x0 x1 x2 x3 x4 x5 I
   have HB:=Aa y;clear hf R b9 hq y;go_wp2_with fail
   refine (I.o).m ?_;rintro e w2 ⟨rfl,n⟩;have f:=Aa (HB.o.t (n.m HB.o.size));clear n x0 x1 x2 x3 x4 x5
   cases q
   ·go_wp2
    go_roundw
    case rel=>exact ⟨k+1,by omega,by go_num,by rw [a5.o];rfl,f.o⟩
    case measure=>simp [intOf];omega
   ·go_wp2
    go_ret
    exact ⟨(k:Int),rfl,by rw [a5.o,decide_eq_true (show (0:Int)<=(k:Int) by omega)];rfl,f.o⟩
  ·have HE:qj (az.any (I4 l)=false):=by rw [qj,R,ji (by omega)];rfl
   go_wp2;go_ret
   exact ⟨_,rfl,by rw [HE.o];rfl,y⟩
theorem oE (ao:qm) (cap:Nat) (az:List Au) (l:qn) (w:ql) (hz:Ba w ao az) (hn:az.length<=4194304) :
  qi 253 #[qf ao az.length cap,qd l] w (qp (.bool (az.any (I4 l))) w):=by
 have bA:∀ t,Below w.heap.size w (w.alloc (.cells #[qd l] t)):=λt=>bR.alloc nL _
 have HC:qj (∀ t,qi 279 #[qf ao az.length cap,.func (.func 280) #[] #[.pointer (some ⟨w.heap.size,0,none⟩)]] (w.alloc (.cells #[qd l] t)) (qp (.bool (az.any (I4 l))) w)):=λt=>by
  have c9:=hz.below (bA t)
  have b8:(w.alloc (.cells #[qd l] t)).cell? ⟨w.heap.size,0,none⟩=some (qd l):=by simp
  have b6:=Aa (uH ao cap az l w.heap.size _ c9 hn b8);have a3:=Aa (bA t)
  generalize w.alloc (.cells #[qd l] t)=W at b6 a3
  clear c9 b8 bA
  go_enter func279,ntmps279
  go_wp2_with fail
  refine Calls.m b6.o ?_;rintro e w2 ⟨x,rfl,hx,n⟩;have HX:=Aa hx;have f:=Aa (a3.o.t (n.m a3.o.size));clear hx n;go_wp2;go_ret;exact ⟨Ab HX.o,f.o⟩
 clear bA hz
 go_enter func253,ntmps253
 go_wp2_with fail
 refine (HC.o _).m ?_;rintro e w2 ⟨rfl,n⟩;have f:=Aa n;clear n;go_wp2;go_ret;exact ⟨rfl,f.o⟩
def wG (w:ql) (g:Nat) (a1:qm) (c1:Nat) (a2:qm) (c2:Nat) (F G:List Au):Prop :=
 w.cell? (qzA g 0)=some (qf a1 F.length c1)/\w.cell? (qzA g 1)=some (qf a2 G.length c2)/\Ba w a1 F/\Ba w a2 G
theorem wG.below {w w':ql} {g:Nat} {a1 a2:qm} {c1 c2:Nat} {F G:List Au} (h:wG w g a1 c1 a2 c2 F G) (hb:BW w w'):wG w' g a1 c1 a2 c2 F G:=by
 obtain ⟨h1,h2,h3,h4⟩:=h;have hg:=qs w _ h1;exact ⟨(hb.c g 0 hg).t h1,(hb.c g 1 hg).t h2,h3.below hb,h4.below hb⟩
theorem vV (g:Nat) (a1 a2:qm) (c1 c2:Nat) (F G:List Au) (w:ql) (h:wG w g a1 c1 a2 c2 F G) (hx:F.length<=1048576) (hy:G.length<=1048576) :
  qi 254 #[qf (some (qzA g 0)) 2 2] w λe w'=>∃ v,e=.returned v /\
   w'.ownsRow w.heap.size 108 6 v (F.length+G.length) (Ap (F++G))/\BW w w':=by
 have HT:=Aa h;obtain ⟨e1,e2,f1,f2⟩:=h;have b0:=Aa f1;clear f1 f2
 go_enter func254,ntmps254
 go_wp2;refine wp_loop_rounds 3 ?_;rw [rounds_succ]
 go_wp2_with (at_builtin;refine Cn _ rfl (.tmp 12) (.tmp 13) rfl w.heap.size _ 0 [] rfl (jh _ _ _ _) a1 c1 F rfl b0.o (by omega) nL ?_;intro v2 w2 o2 g2 _)
 have q2:=bR.grown g2 nL (λk hk=>by cases hk)
 obtain ⟨_,d2,f1,f2⟩:=HT.o.below q2;have b5:=Aa f2;have N:=Aa o2;have a8:=q2.size;clear e1 e2 f1 f2 o2 g2 b0;go_wp2;rw [rounds_succ]
 go_wp2_with (at_builtin;refine Cn _ rfl (.tmp 12) (.tmp 13) rfl w.heap.size _ _ _ rfl N.o a2 c2 G rfl b5.o (by omega) a8 ?_;intro v3 w3 o3 g3 _)
 have q3:=q2.grown g3 a8 (λk hk=>(N.o.lt k hk).1)
 have O:qj (w3.ownsRow w.heap.size 108 6 v3 (F.length+G.length) (Ap (F++G))):=by
  rw [Qg];rw [qu,List.nil_append] at o3;exact o3
 clear d2 o3 g3 N a8 b5;go_wp2;rw [rounds_succ];go_wp2;go_ret;exact ⟨v3,rfl,O.o,q3⟩
theorem kW (ao:qm) (cap:Nat) (az:List Au) (a:Au) (w:ql) (hz:Ba w ao az) (hn:az.length<=1048576) (hd:∀ x ∈ az,x.ref.length<=1099511627776) (hl:a.ref.length<=1099511627776) (hc:Bs a.cur) :
  qi 217 #[qf ao az.length cap,Ha a] w (Wv w (Ps az a) (addOk az a)):=by
 have Z:qj (addOk az a=(I2 a && (!az.any (I4 a.ref) && decide (az.length<100)))):=rfl;have HN:qj (addOk az a=false->Ps az a=az):=rG;have HY:qj (addOk az a=true->Ps az a=az++[a]):=R6;have HZ:=Aa hz;clear hz;obtain ⟨q,hq⟩:=Ae (I2 a)
 have H:qj (∀ u,qi 252 #[Ha a] u λe w'=>e=.returned (.bool q)/\BW u w'):=λu=>by rw [<- hq];exact Tz a u hl hc
 obtain ⟨h,hh⟩:=Ae (az.any (I4 a.ref))
 have HH:qj (∀ u,Ba u ao az->qi 253 #[qf ao az.length cap,qd a.ref] u λe w'=>e=.returned (.bool h)/\BW u w'):=λu hu=>by rw [<- hh];exact oE ao cap az a.ref u hu (by omega)
 have Y:qj (∀ u,Ba u ao az->qi 74 #[qf ao az.length cap] u λe w'=>e=.returned (qf (some ⟨u.heap.size,0,none⟩) az.length az.length) /\
   w'.ownsRow u.heap.size 108 6 (qf (some ⟨u.heap.size,0,none⟩) az.length az.length) az.length (Ap az)/\BW u w'):=λu hu=>Fe ao cap az u hu (by omega) hd
 have J:qj (∀ (u:ql) (T:qm) (cb:Nat),Ba u T (az++[a])->qi 74 #[qf T (az++[a]).length cb] u λe w'=>e=.returned (qf (some ⟨u.heap.size,0,none⟩) (az++[a]).length (az++[a]).length) /\
   w'.ownsRow u.heap.size 108 6 (qf (some ⟨u.heap.size,0,none⟩) (az++[a]).length (az++[a]).length) (az++[a]).length (Ap (az++[a]))/\BW u w'):=λu T cb hu=>Fe T cb (az++[a]) u hu (by simp;omega) (λx hx=>by
    rcases List.mem_append.1 hx with h1|h1
    ·exact hd x h1
    ·have:x=a:=by simpa using h1
     rw [this];exact hl)
 obtain ⟨W,C⟩:=A0 (w.alloc (.cells #[qd a.ref,qzI a.iss,qzI a.cur,qzI a.am,qzI a.day,.bool a.used] 108))
 have B:Yr w.heap.size a W:=by rw [C];exact Yr.new w a _
 have a4:=Aa B
 have bW:BW w W:=by rw [C];exact bR.alloc nL _
 have X:=Aa bW;rw [hq,hh] at Z;clear bW hd hl hc hq hh
 cases q
 ·have A:=Aa Z.o
  have M:=Aa (HN.o A.o);rw [A.o,M.o];clear Z HN HY A M J HH;obtain ⟨r,i,c,m,d,u⟩:=a;unfold Ha at H ⊢
  simp only at C H ⊢
  have HW:qj _:=C;obtain ⟨f0,f1,f2,f3,f4,f5⟩:=B;clear C
  go_enter func217,ntmps217
  go_upto_region 1 with fail
  rw [<- HW.o];go_wp2_with fail
  refine (H.o _).m ?_;rintro e u1 ⟨rfl,z⟩;have j:=Aa (next X.o z);clear z f0 f1 f2 f3 f4 f5;go_wp2_with fail
  refine (Y.o _ (HZ.o.below j.o)).m ?_;rintro e u2 ⟨rfl,o2,n⟩;have N:qj _:=Wt o2 j.o.size;have f:=Aa (next j.o n);clear o2 n;go_wp2;go_ret2;exact ⟨_,_,rfl,N.o,f.o⟩
 cases h
 ·by_cases h100:az.length<100
  ·have A:qj (addOk az a=true):=by rw [qj,Z.o,decide_eq_true h100];rfl
   have M:=Aa (HY.o A.o);rw [A.o,M.o]
   have a7:(az.length:Int)<100:=by omega
   have d4:qj ((az++[a]).length=az.length+1):=by rw [qj];simp
   have HJ:qj (∀ (u:ql) (g:Nat) (a2:qm) (c2:Nat),wG u g ao cap a2 c2 az [a]->qi 254 #[qf (some (qzA g 0)) 2 2] u λe w'=>∃ T cb,e=.returned (qf T (az++[a]).length cb)/\Ba w' T (az++[a])/\BW u w'):=λu g a2 c2 h2 =>
    (vV g ao a2 cap c2 az [a] u h2 (by omega) (by simp)).m λe u' ⟨v,he,hv,hb⟩=>by
     obtain ⟨T,cb,rfl,hA,_⟩:=Qd hv;exact ⟨T,cb,he,hA,hb⟩
   clear Z HN HY A M Y;obtain ⟨L,hL⟩:=Ae (az++[a]);rw [hL] at J HJ d4 ⊢
   have a6:qj (∀ (u:ql) (t1 t2:TypeId),Ba u ao az->wG ((u.alloc (.cells #[qd a.ref,qzI a.iss,qzI a.cur,qzI a.am,qzI a.day,.bool a.used] t1)).alloc (.cells #[qf ao az.length cap,qf (some ⟨u.heap.size,0,none⟩) 1 1] t2)) (u.heap.size+1) ao cap (some ⟨u.heap.size,0,none⟩) 1 az [a]/\Below u.heap.size u ((u.alloc (.cells #[qd a.ref,qzI a.iss,qzI a.cur,qzI a.am,qzI a.day,.bool a.used] t1)).alloc (.cells #[qf ao az.length cap,qf (some ⟨u.heap.size,0,none⟩) 1 1] t2))):=λu t1 t2 hu=>by
    have z:Below u.heap.size u (u.alloc (.cells #[qd a.ref,qzI a.iss,qzI a.cur,qzI a.am,qzI a.day,.bool a.used] t1)):=bR.alloc nL _;have U:=Yr.new u a t1;have z1:=hu.below z
    have c8:(u.alloc (.cells #[qd a.ref,qzI a.iss,qzI a.cur,qzI a.am,qzI a.day,.bool a.used] t1)).heap.size=u.heap.size+1:=by simp
    generalize u.alloc (.cells #[qd a.ref,qzI a.iss,qzI a.cur,qzI a.am,qzI a.day,.bool a.used] t1)=V at z U z1 c8
    have n:Below V.heap.size V (V.alloc (.cells #[qf ao az.length cap,qf (some ⟨u.heap.size,0,none⟩) 1 1] t2)):=bR.alloc nL _
    have k1:(V.alloc (.cells #[qf ao az.length cap,qf (some ⟨u.heap.size,0,none⟩) 1 1] t2)).cell? ⟨V.heap.size,0,none⟩=some (qf ao az.length cap):=by simp
    have k2:(V.alloc (.cells #[qf ao az.length cap,qf (some ⟨u.heap.size,0,none⟩) 1 1] t2)).cell? ⟨V.heap.size,1,none⟩=some (qf (some ⟨u.heap.size,0,none⟩) 1 1):=by simp
    rw [c8] at k1 k2;exact ⟨⟨k1,k2,z1.below n,sB (U.below n)⟩,next z n⟩
   clear hL;obtain ⟨r,i,c,m,d,u⟩:=a;unfold Ha at H ⊢
   simp only at C H HH a6 ⊢
   have HW:=Aa C;obtain ⟨f0,f1,f2,f3,f4,f5⟩:=B;clear C
   go_enter func217,ntmps217
   go_upto_region 1 with fail
   rw [<- HW.o];go_wp2_with fail
   refine (H.o _).m ?_;rintro e u1 ⟨rfl,z⟩;have j:=Aa (next X.o z);have U:=a4.o.below z;have a9:=Aa U;clear z f0 f1 f2 f3 f4 f5;obtain ⟨f0,f1,f2,f3,f4,f5⟩:=U
   simp only at f0 f1 f2 f3 f4 f5
   go_wp2_with fail
   refine (HH.o _ (HZ.o.below j.o)).m ?_;rintro e u2 ⟨rfl,n⟩;have f:=Aa (next j.o n);have B2:=a9.o.below n;clear n f0 f1 f2 f3 f4 f5;obtain ⟨f0,f1,f2,f3,f4,f5⟩:=B2
   simp only at f0 f1 f2 f3 f4 f5
   go_wp2_with fail
   refine (HJ.o _ _ _ _ (a6.o u2 _ _ (HZ.o.below f.o)).1).m ?_;rintro e u3 ⟨T,cb,rfl,b7,b3⟩;have D:=Aa (next (next f.o (a6.o u2 _ _ (HZ.o.below f.o)).2) b3);have d0:=Aa b7;clear b7 b3 f0 f1 f2 f3 f4 f5;go_wp2_with fail
   refine (J.o _ _ _ d0.o).m ?_;rintro e u4 ⟨rfl,o4,b4⟩;have d3:=Aa (Wt o4 D.o.size);have d1:=Aa (next D.o b4);clear o4 b4;go_wp2;go_ret2;exact ⟨_,_,rfl,d3.o,d1.o⟩
  ·have A:qj (addOk az a=false):=by rw [qj,Z.o,decide_eq_false h100];rfl
   have M:=Aa (HN.o A.o);rw [A.o,M.o]
   have a7:100<=(az.length:Int):=by omega
   clear Z HN HY A M J;obtain ⟨r,i,c,m,d,u⟩:=a;unfold Ha at H ⊢
   simp only at C H HH ⊢
   have HW:=Aa C;obtain ⟨f0,f1,f2,f3,f4,f5⟩:=B;clear C
   go_enter func217,ntmps217
   go_upto_region 1 with fail
   rw [<- HW.o];go_wp2_with fail
   refine (H.o _).m ?_;rintro e u1 ⟨rfl,z⟩;have j:=Aa (next X.o z);have U:=a4.o.below z;clear z f0 f1 f2 f3 f4 f5;obtain ⟨f0,f1,f2,f3,f4,f5⟩:=U
   simp only at f0 f1 f2 f3 f4 f5
   go_wp2_with fail
   refine (HH.o _ (HZ.o.below j.o)).m ?_;rintro e u2 ⟨rfl,n⟩;have f:=Aa (next j.o n);clear n f0 f1 f2 f3 f4 f5;go_wp2_with fail
   refine (Y.o _ (HZ.o.below f.o)).m ?_;rintro e u3 ⟨rfl,o3,b3⟩;have O:=Aa (Wt o3 f.o.size);have D:=Aa (next f.o b3);clear o3 b3;go_wp2;go_ret2;exact ⟨_,_,rfl,O.o,D.o⟩
 ·have A:qj (addOk az a=false):=by rw [qj,Z.o];rfl
  have M:=Aa (HN.o A.o);rw [A.o,M.o];clear Z HN HY A M J;obtain ⟨r,i,c,m,d,u⟩:=a;unfold Ha at H ⊢
  simp only at C H HH ⊢
  have HW:=Aa C;obtain ⟨f0,f1,f2,f3,f4,f5⟩:=B;clear C
  go_enter func217,ntmps217
  go_upto_region 1 with fail
  rw [<- HW.o];go_wp2_with fail
  refine (H.o _).m ?_;rintro e u1 ⟨rfl,z⟩;have j:=Aa (next X.o z);have U:=a4.o.below z;clear z f0 f1 f2 f3 f4 f5;obtain ⟨f0,f1,f2,f3,f4,f5⟩:=U
  simp only at f0 f1 f2 f3 f4 f5
  go_wp2_with fail
  refine (HH.o _ (HZ.o.below j.o)).m ?_;rintro e u2 ⟨rfl,n⟩;have f:=Aa (next j.o n);clear n f0 f1 f2 f3 f4 f5;go_wp2_with fail
  refine (Y.o _ (HZ.o.below f.o)).m ?_;rintro e u3 ⟨rfl,o3,b3⟩;have O:=Aa (Wt o3 f.o.size);have D:=Aa (next f.o b3);clear o3 b3;go_wp2;go_ret2;exact ⟨_,_,rfl,O.o,D.o⟩
theorem oF (ao:qm) (cap:Nat) (az:List Au) (a:Au) (w:ql) (hz:Ba w ao az) (hn:az.length<=1048576) (hl:a.ref.length<=1099511627776) :
  qi 97 #[qf ao az.length cap,Ha a] w (Wv w (Ps az a) (addOk az a)):=by
 have H:qj (addOk az a=(I2 a && (!az.any (I4 a.ref) && decide (az.length<100)))):=rfl;have M:qj (addOk az a=false->Ps az a=az):=rG;have HY:qj (addOk az a=true->Ps az a=az++[a]):=R6;have HZ:=Aa hz;obtain ⟨q,V⟩:=Ae (I2 a)
 have U:qj (∀ u,qi 119 #[Ha a] u (qp (.bool q) u)):=λu=>by rw [<- V];exact Uv a u hl
 obtain ⟨W,hW⟩:=A0 (w.alloc (.cells #[qd a.ref,qzI a.iss,qzI a.cur,qzI a.am,qzI a.day,.bool a.used] 108))
 have B:Yr w.heap.size a W:=by rw [hW];exact Yr.new w a _
 have J:=Aa B
 have bW:BW w W:=by rw [hW];exact bR.alloc nL _
 have X:=Aa bW;have bA:Below W.heap.size W (W.alloc (.cells #[] 108)):=bR.alloc nL _;have a5:=Aa ((hz.below bW).below bA);have Z:=Afr W;rw [V] at H;obtain ⟨A,hA⟩:=Ae a;rw [hA] at H M HY J ⊢
 have D:qj (A.ref=a.ref):=by rw [hA];exact rfl
 have v:qj (A=⟨a.ref,a.iss,a.cur,a.am,a.day,a.used⟩):=by rw [hA];exact rfl
 have e0:Ha A=Ha a:=by rw [hA]
 rw [e0];clear bW hl V hz e0 hA;obtain ⟨r,i,c,m,d,u⟩:=a;unfold Ha at U ⊢
 simp only at hW U D v ⊢
 rw [D.o] at H;have HW:=Aa hW;clear hW B
 go_enter func97,ntmps97
 go_upto_region 1 with fail
 rw [<- HW.o]
 go_upto_region 2 with (at_builtin;refine Cn _ rfl (.tmp 8) (.tmp 9) rfl W.heap.size (qf (some ⟨W.heap.size,0,none⟩) 0 0) 0 [] rfl Z ao cap az rfl a5.o (by omega) (by simp) ?_;intro v2 w2 o2 g2 n2)
 obtain ⟨g,cc,rfl⟩:=Th o2 (n2 (by simp))
 simp only [qu,List.nil_append] at o2 ⊢
 have b2:=bA.grown g2 (by simp) (λj hj=>by cases hj;exact nL)
 have B2:=J.o.below b2;rw [v.o] at B2;have F:=Aa (next X.o b2);have I:=Aa B2;have HR:=Aa (Wt o2 X.o.size);have HG:=Aa ((o2.lt g rfl).1);clear o2 b2 g2 n2 Z bA a5;obtain ⟨f0,f1,f2,f3,f4,f5⟩:=B2
 simp only at f0 f1 f2 f3 f4 f5
 cases q
 ·have y:=Aa H.o
  have L:=Aa (M.o y.o);clear H M HY v D;go_wp2_with fail
  refine (U.o _).m ?_;rintro e u1 ⟨rfl,s⟩;have h:=Aa (next F.o s);have p:=Aa (Nn HR.o s);clear s f0 f1 f2 f3 f4 f5;go_wp2;go_ret2;rw [y.o,L.o];exact ⟨_,_,rfl,p.o,h.o⟩
 by_cases h100:az.length<100
 ·have S:(az.length:Int)<100:=by omega
  have R:qj (addOk az A = !az.any (I4 r)):=by rw [qj,H.o,decide_eq_true h100,Bool.and_true,ja]
  clear H;go_wp2_with fail
  refine (U.o _).m ?_;rintro e u1 ⟨rfl,s⟩;have h:=Aa (next F.o s);have p:=Aa (Nn HR.o s);have Y:=Aa (I.o.below s);have b0:=Aa (HZ.o.below h.o);clear s f0 f1 f2 f3 f4 f5 HR I F U HZ J;go_wp2
  go_loopw [7] (λi wr=>∃ k:Nat,k<=az.length/\i=qzI k/\az.any (I4 r)=(az.drop k).any (I4 r)/\BW u1 wr) (λi _=>az.length - (intOf i).toNat)
  case atStart=>exact ⟨0,qw _,rfl,rfl,bR⟩
  case round =>
   obtain ⟨k,hk,rfl,n,f⟩:=hrel;obtain ⟨f0,f1,f2,f3,f4,f5⟩:=Y.o.below f
   simp only at f0 f1 f2 f3 f4 f5
   by_cases hlt:k<az.length
   ·have b3:(k:Int)<(az.length:Int):=by omega
    have G:=Aa (n.t (iB (I4 r) az k hlt))
    rcases b0.o with h0|⟨b,off,rfl,hb,C⟩
    ·rw [h0] at hlt;simp at hlt
    have x0:=(f.c b (off+k*6) hb).t (C k hlt).1;have x:qj (I4 r (Ch az k)=((Ch az k).ref == r)):=rfl;obtain ⟨l,a6⟩:=Ae ((Ch az k).ref);rw [a6] at x0 x;have a7:=Aa f;have z:=Aa (next h.o f);have O:=Aa (Nn p.o f);clear a6 n C f
    cases V:(l == r)
    ·have T:qj (az.any (I4 r)=(az.drop (k+1)).any (I4 r)):=by rw [qj,G.o,x.o,V];rfl
     clear G x;go_wp2
     go_quiet (fail)
     go_wp2
     go_roundw
     case rel=>exact ⟨k+1,by omega,by go_num,T.o,below_drewN a7.o _⟩
     case measure=>simp [intOf];omega
    ·have T:qj (az.any (I4 r)=true):=by rw [qj,G.o,x.o,V];rfl
     have y:qj (addOk az A=false):=by rw [qj,R.o,T.o];rfl
     have L:=Aa (M.o y.o);clear G x;go_wp2
     go_quiet (fail)
     go_wp2;go_ret2;rw [y.o,L.o];exact ⟨_,_,rfl,Nn O.o (below_drewN bR _),below_drewN z.o _⟩
   ·have T:qj (az.any (I4 r)=false):=by rw [qj,n,ji (by omega)];rfl
    have y:qj (addOk az A=true):=by rw [qj,R.o,T.o];rfl
    have L:qj (Ps az A=az++[⟨r,i,c,m,d,u⟩]):=by rw [qj,HY.o y.o,v.o]
    have z:=Aa (next h.o f);have O:=Aa (Nn p.o f);have a4:qj (Ba (wr.alloc (.cells #[qd r,qzI i,qzI c,qzI m,qzI d,.bool u] 108)) (some ⟨wr.heap.size,0,none⟩) [⟨r,i,c,m,d,u⟩]):=sB (Yr.new wr ⟨r,i,c,m,d,u⟩ _);have N:qj ((wr.alloc (.cells #[qd r,qzI i,qzI c,qzI m,qzI d,.bool u] 108)).ownsRow w.heap.size 108 6 (qf (some (qzA g 0)) az.length cc) az.length (Ap az)):=Nn O.o (bR.alloc nL _);have b4:=z.o.size;clear T n f M HY R
    go_wp2_with (at_builtin;refine Cn _ rfl (.tmp 35) (.tmp 37) rfl w.heap.size (qf (some (qzA g 0)) az.length cc) az.length (Ap az) rfl N.o (some ⟨wr.heap.size,0,none⟩) 1 [⟨r,i,c,m,d,u⟩] rfl a4.o (by simp;omega) (by simp;omega) ?_;intro v3 w3 o3 g3 n3)
    obtain ⟨a3,c3,rfl⟩:=Adi o3
    have a9:qj (w3.ownsRow w.heap.size 108 6 (qf a3 (az++([⟨r,i,c,m,d,u⟩]:List Au)).length c3) (az++([⟨r,i,c,m,d,u⟩]:List Au)).length (Ap (az++[⟨r,i,c,m,d,u⟩]))):=by rw [qj,qv,Qg];exact o3
    have a8:=Aa ((z.o.alloc z.o.size _).grown g3 (by simp;omega) (λj hj=>(N.o.lt j hj).1))
    clear o3 g3 n3 N a4;go_wp2;go_ret2;rw [y.o,L.o]
    exact ⟨a3,c3,by rw [qv];rfl,a9.o,a8.o⟩
 ·have S:100<=(az.length:Int):=by omega
  have y:qj (addOk az A=false):=by rw [qj,H.o,decide_eq_false h100,Bool.and_false];rfl
  have L:=Aa (M.o y.o);clear H M HY v D;go_wp2_with fail
  refine (U.o _).m ?_;rintro e u1 ⟨rfl,s⟩;have h:=Aa (next F.o s);have p:=Aa (Nn HR.o s);clear s f0 f1 f2 f3 f4 f5;go_wp2;go_ret2;rw [y.o,L.o];exact ⟨_,_,rfl,p.o,h.o⟩
def Ahw (f:Int) (a:Au):Bool:=!a.used && decide (f<=a.day)
def Wr (az:List Au) (t:Int):List Au:=if Fh t=true then az.filter (Ahw (t - 7)) else []
theorem oZ (az:List Au) (t:Int):(Wr az t).length<=az.length:=by unfold Wr;split;exact List.length_filter_le _ _;exact qw _
end Go.Proofs.YtfpafnefpmmofaaGreatDoor
