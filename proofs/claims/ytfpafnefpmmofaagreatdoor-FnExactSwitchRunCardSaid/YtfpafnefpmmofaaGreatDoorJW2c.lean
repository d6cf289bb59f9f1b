import Derived.Test.YtfpafnefpmmofaaGreatDoorJW2b
set_option maxRecDepth 100000
set_option maxHeartbeats 12800000
namespace Go.Proofs.YtfpafnefpmmofaaGreatDoor
open Go.ChangeShapes Go.WideShapes Go.ChangeAt Go.RowKit Go.Deep Go.Proofs.Tryz
structure MV where
 kd:Int
 ao:qm
 cap:Nat
 fs:List Av
 deriving Inhabited
def MV.m (x:MV):U2:=(x.kd,x.fs)
def MV.z:MV:=⟨0,none,0,[]⟩
def Gm (d:List MV) (k:Nat):MV:=d.getD k MV.z
theorem dQ {d:List MV} {k:Nat} (h:k<d.length):Gm d k=d[k]:=by simp [Gm,h]
theorem I8 {d:List MV} {k:Nat} (h:k<d.length):Gm d k ∈ d:=by rw [dQ h];exact List.getElem_mem h
def As (d:List MV):List U2:=d.map MV.m
theorem Bh (d:List MV):(As d).length=d.length:=by simp [As]
theorem Ht {d:List MV} {k:Nat} (h:k<d.length):mAt (As d) k=((Gm d k).kd,(Gm d k).fs):=by
 rw [kV (by rw [Bh];exact h),dQ h];simp [As,MV.m]
theorem Xl {d:List MV} {x:MV} (h:x ∈ d):(x.kd,x.fs) ∈ As d:=List.mem_map.2 ⟨x,h,rfl⟩
def Dq (w:ql) (ao:qm) (d:List MV):Prop :=
 (d=[]\/∃ b off,ao=some (qzA b off)/\b<w.heap.size/\∀ i,i<d.length ->
  w.cell? (qzA b (off+i*2))=some (.int .i64 (Gm d i).kd)/\w.cell? (qzA b (off+i*2+1))=some (qf (Gm d i).ao (Gm d i).fs.length (Gm d i).cap)) /\
 ∀ x ∈ d,Aw w x.ao x.fs
def cS (d:List MV):Prop:=d.length<=maxLen/\∀ x ∈ d,Xq x.fs
theorem Dq.below {w w':ql} {ao:qm} {d:List MV} (h:Dq w ao d) (hb:BW w w'):Dq w' ao d:=by
 refine ⟨?_,λx I=>(h.2 x I).below hb⟩
 rcases h.1 with h|⟨b,off,A,B,C⟩
 ·exact .inl h
 ·exact .inr ⟨b,off,A,jd B hb.size,λi hi=>⟨(hb.c b (off+i*2) B).t (C i hi).1,(hb.c b (off+i*2+1) B).t (C i hi).2⟩⟩
theorem Dq.at {w:ql} {ao:qm} {d:List MV} (h:Dq w ao d) {k:Nat} (hk:k<d.length) :
  ∃ b off,ao=some (qzA b off)/\b<w.heap.size/\w.cell? (qzA b (off+k*2))=some (.int .i64 (Gm d k).kd)/\w.cell? (qzA b (off+k*2+1))=some (qf (Gm d k).ao (Gm d k).fs.length (Gm d k).cap)/\Aw w (Gm d k).ao (Gm d k).fs:=by
 rcases h.1 with rfl|⟨b,off,A,B,C⟩
 ·simp at hk
 ·exact ⟨b,off,A,B,(C k hk).1,(C k hk).2,h.2 _ (I8 hk)⟩
theorem vK {P:Program} {H:Type} {enc:TypeId×Value->H} {W:ql} {t e:TypeId} {l o:Field} {fuel:Nat} {y:Value} {x:DataW H×List MemPlace}
  (t1:P.underlying t=some (.slice e))
  (he:P.underlying e=some (.struct #[l,o])) (ce:P.cellsOf e=2) (p0:l.offset=0) (p1:o.offset=1) (d0:P.cellsOf l.type=1) (d1:P.cellsOf o.type=1)
  (u0:P.underlying l.type=some (.int .i64)) (u1:P.underlying o.type=some .string)
  (A:DataW.trod enc P W 0 (λ_=>true) true fuel t [y]=some x) :
  ∃ a cap fs,y=qf a (List.length fs) cap/\Aw W a fs/\Xq fs:=by
 rcases open_slice_pairs t1 he ce p0 p1 d0 d1 A with ⟨e1,_⟩|⟨a,len,cap,m,k,U,V,D0,D1,P0,P1,e1,hb,O,hm,G,_,I⟩
 ·simp at e1
  exact ⟨none,0,[],by rw [e1];rfl,.inl rfl,qw _,λf u=>by cases u⟩
 ·simp at e1 G
  subst G
  obtain ⟨F,L⟩:=choose_lt (α:=Av) (n:=m) (p:=λi f=>U i=.int .i64 f.1/\V i=qd f.2/\f.2.length<=maxLen) (λi hi=>by
   obtain ⟨_,_,X,Y⟩:=I i hi;obtain ⟨z,S,_⟩:=DataW.trod_int u0 X;obtain ⟨s,T,_,hs⟩:=DataW.trod_string u1 Y
   simp at S T
   exact ⟨(z,s.data.toList),S,by rw [T],by show s.data.toList.length<=maxLen;rw [Array.length_toList];exact hs⟩)
  refine ⟨some a,m,(List.range len).map F,by rw [e1];simp,?_,by rw [List.length_map,List.length_range];exact jk O hm,λf u=>by
   obtain ⟨i,hi,rfl⟩:=List.mem_map.1 u
   exact (L i (by have:=List.mem_range.1 hi;omega)).2.2⟩
  by_cases hz:len=0
  ·subst hz;exact .inl rfl
  ·obtain ⟨bk,off,J⟩:=a
   have D:=(I 0 (by omega)).1
   have q:J=none:=by simpa [Addr.add] using World.cell?_spot D
   subst q
   refine .inr ⟨bk,off,rfl,?_,λi hi=>?_⟩
   ·exact qs W _ D
   ·have N:i<len:=by simpa using hi
    have M:Dn ((List.range len).map F) i=F i:=by simp [Dn,N]
    obtain ⟨l,o,_,_⟩:=I i (by omega)
    unfold qzI;rw [M,<- (L i (by omega)).1,<- (L i (by omega)).2.1]
    rw [add_plain] at l o
    exact ⟨l,by rw [Nat.add_assoc];exact o⟩
def Ah5 (x:MV):List Value:=[.int .i64 x.kd,qf x.ao x.fs.length x.cap]
def Gv (d:List MV):List Value:=d.flatMap Ah5
theorem Nw (x:MV) (r:List MV):Gv (x::r)=.int .i64 x.kd::qf x.ao x.fs.length x.cap::Gv r:=rfl
theorem Wm (d:List MV):(Gv d).length=d.length*2:=by
 induction d with
 | nil=>rfl
 | cons f r ih=>rw [Nw];simp [ih];omega
theorem Lk (d:List MV):∀ k,k<d.length->(Gv d)[k*2]?=some (.int .i64 (Gm d k).kd)/\(Gv d)[k*2+1]?=some (qf (Gm d k).ao (Gm d k).fs.length (Gm d k).cap):=by
 induction d with
 | nil=>intro k h;simp at h
 | cons f r ih =>
  intro k h;rw [Nw]
  cases k with
  | zero=>exact ⟨rfl,rfl⟩
  | succ k =>
   have:=ih k (by simpa using h)
   rw [show (k+1) * 2=k*2+1+1 by omega,je,je,je,je]
   exact this
theorem oT (d:List MV) (x:MV):∀ k,k<d.length->((Gv d).set (k*2) (.int .i64 x.kd)).set (k*2+1) (qf x.ao x.fs.length x.cap)=Gv (d.set k x):=by
 induction d with
 | nil=>intro k h;simp at h
 | cons g r ih =>
  intro k h;rw [Nw]
  cases k with
  | zero=>rfl
  | succ k =>
   have:=ih k (by simpa using h)
   rw [show (k+1) * 2=k*2+1+1 by omega,List.set_cons_succ,List.set_cons_succ,List.set_cons_succ,List.set_cons_succ,this]
   rfl
theorem eU {w:ql} {base n:Nat} {t:TypeId} {v:Value} {d:List MV} (h:w.ownsRow base t 2 v n (Gv d)) (u:∀ x ∈ d,Aw w x.ao x.fs):∃ ao cap,v=qf ao d.length cap/\Dq w ao d/\n=d.length:=by
 have hn:n=d.length:=by have:=h.1;rw [Wm] at this;omega
 subst hn
 rcases h.2 with ⟨rfl,hn⟩|⟨g,cap,cw,rfl,_⟩
 ·have:d=[]:=qz hn
  subst this;exact ⟨none,0,rfl,⟨.inl rfl,u⟩,rfl⟩
 ·refine ⟨_,cap,rfl,⟨?_,u⟩,rfl⟩
  by_cases h0:d=[]
  ·exact .inl h0
  ·refine .inr ⟨g,0,rfl,(h.lt g rfl).2,λi hi=>?_⟩
   have:=Lk d i hi
   rw [qu,h.cellAt (i*2) (by omega),h.cellAt (i*2+1) (by omega)]
   exact this
theorem Aib:(prog.info? 68).map (λi=>(i.zero,i.size,i.bytes))=some (some (.agg #[.int .i64 0,qe]),2,32):=by kernel_rfl
theorem oH (m:Nat):(madeCells (Value.agg #[.int .i64 0,qe]).cells (m*2)).toList=Gv (List.replicate m MV.z):=by
 apply List.ext_getElem?;intro j
 by_cases hj:j<m*2
 ·have hq:j / 2<(List.replicate m MV.z).length:=by simp;omega
  have Z:Gm (List.replicate m MV.z) (j / 2)=MV.z:=by
   simp [Gm,List.getElem?_replicate];split <;> rfl
  have h:=Lk _ _ hq;rw [Z] at h
  have R:(madeCells (Value.agg #[.int .i64 0,qe]).cells (m*2)).toList[j]?=some ((#[Value.int .i64 0,qe]:Array Value)[j % 2]!):=by
   simp [madeCells,hj,Value.cells]
  rcases Nat.mod_two_eq_zero_or_one j with e|e
  ·rw [R,e,show j=j / 2*2 by omega,h.1];rfl
  ·rw [R,e,show j=j / 2*2+1 by omega,h.2];rfl
 ·rw [jl (by rw [Array.length_toList,size_madeCells];omega),jl (by rw [Wm];simp;omega)]
end Go.Proofs.YtfpafnefpmmofaaGreatDoor
namespace Go.Proofs.YtfpafnefpmmofaaGreatDoor
open Go.RowKit Go.Proofs.Tryz
def zZ (n:Nat):Au:=⟨Vh (n),((n+1:Nat):Int),((n+2:Nat):Int),((n+3:Nat):Int),((n+4:Nat):Int),((n+5:Nat):Int) % 3 == 0⟩
def mkA (k n:Nat):List Au:=(List.range n).map λi=>zZ (k+6*i)
theorem Q2 (k n:Nat):(mkA k n).length=n:=by simp [mkA]
theorem Ahe (k n i:Nat) (h:i<n):Ch (mkA k n) i=zZ (k+6*i):=by simp [Ch,mkA,h]
def Lt (az:List Au) (k j:Nat):List Au:=mkA k j++az.drop j
theorem tF (az:List Au) (k j:Nat) (h:j<=az.length):(Lt az k j).length=az.length:=by simp [Lt,Q2];omega
theorem lY (az:List Au) (k:Nat):Lt az k 0=az:=by simp [Lt,mkA]
theorem vO (az:List Au) (k:Nat):Lt az k az.length=mkA k az.length:=by simp [Lt]
theorem lU (az:List Au) (k j:Nat) (h:j<az.length):(Lt az k j).set j (zZ (k+6*j))=Lt az k (j+1):=by
 unfold Lt
 rw [List.set_append,if_neg (by rw [Q2];omega),Q2,Nat.sub_self,jc h,List.set_cons_zero]
 simp [mkA,List.range_succ]
theorem tJ {w w':ql} (h:BW w w') (r:Option Nat):w.grownBy w' r:=⟨h.os,h.tape,h.output,h.size,λk hk _=>h.block k hk⟩
theorem Py (ao:qm) (cap base k:Nat) (az:List Au) (w:ql) (ho:w.ownsRow base 108 6 (qf ao az.length cap) az.length (Ap az)) (hn:az.length<=1099511627) (k1:0<k) (k2:k<=1099511627) :
  qi 44 #[qf ao az.length cap,qzI k] w λe w'=>e=.returned (qzI (k+6*az.length:Nat)) /\
   w'.ownsRow base 108 6 (qf ao az.length cap) az.length (Ap (mkA k az.length))/\w.grownBy w' (Value.slice ao az.length cap).ownBlock:=by
 rcases ho.2 with ⟨y,C⟩|⟨g,O,cw,y,J⟩
 ·obtain rfl:az=[]:=qz C
  obtain ⟨rfl,rfl⟩:ao=none/\cap=0:=by simpa using y
  clear y C
  go_enter func44,ntmps44
  go_wp2;refine wp_loop_rounds 1 ?_;rw [rounds_succ];go_wp2;go_ret
  exact ⟨Af (by simp),jh _ _ _ _,jm _ _⟩
 ·obtain ⟨rfl,rfl⟩:ao=some (qzA g 0)/\cap=O:=by simpa using y
  clear y J
  go_enter func44,ntmps44
  go_wp2
  go_loopw [1,5] (λc i wr=>∃ j:Nat,j<=az.length/\i=qzI j/\c=qzI (k+6*j:Nat)/\wr.ownsRow base 108 6 (qf (some (qzA g 0)) az.length cap) az.length (Ap (Lt az k j))/\w.grownBy wr (some g)) (λ_ i _=>az.length - (intOf i).toNat)
  case atStart=>exact ⟨0,qw _,rfl,rfl,by rw [lY];exact ho,jm _ _⟩
  case round =>
   obtain ⟨j,hj,rfl,rfl,p,D⟩:=hrel;clear ho
   by_cases hlt:j<az.length
   ·have a3:(j:Int)<(az.length:Int):=by omega
    have B:qj (j<(Lt az k j).length):=by rw [qj,tF az k j hj];exact hlt
    have z:=Aa (lU az k j hlt);obtain ⟨fs,S⟩:=Ae (Lt az k j);obtain ⟨gs,F⟩:=Ae (Lt az k (j+1));have X:=Aa F;rw [S] at p B z;rw [F] at z;obtain ⟨m,hm⟩:∃ m:Nat,k+6*j=m:=⟨_,rfl⟩;rw [hm] at z ⊢
    have a4:m<=7696581390:=by omega
    have I:0<m:=by omega
    have Y:qj (k+6 * (j+1)=m+1+1+1+1+1+1):=by rw [qj];omega
    have U:=Aa p;have HG:=Aa D;clear p D hm S F;go_wp2_with fail
    refine (Gx m _ I (by omega)).m ?_
    rintro e l ⟨rfl,M⟩;have ho:=Nn U.o M;have a:=Ff fs j B.o;have V:=My fs (zZ m) j B.o;rw [z.o] at V
    simp only [zZ] at V
    have y0:l.cell? (qzA g (j*6))=some (qd (Ch fs j).ref):=by rw [ho.cellAt (j*6) (by omega)];exact a.1
    have z0:l.frozen? (qzA g (j*6))=false:=ho.frozenAt _
    have y1:l.cell? (qzA g (j*6+1))=some (qzI (Ch fs j).iss):=by rw [ho.cellAt (j*6+1) (by omega)];exact a.2.1
    have z1:l.frozen? (qzA g (j*6+1))=false:=ho.frozenAt _
    have y2:l.cell? (qzA g (j*6+2))=some (qzI (Ch fs j).cur):=by rw [ho.cellAt (j*6+2) (by omega)];exact a.2.2.1
    have z2:l.frozen? (qzA g (j*6+2))=false:=ho.frozenAt _
    have y3:l.cell? (qzA g (j*6+3))=some (qzI (Ch fs j).am):=by rw [ho.cellAt (j*6+3) (by omega)];exact a.2.2.2.1
    have z3:l.frozen? (qzA g (j*6+3))=false:=ho.frozenAt _
    have y4:l.cell? (qzA g (j*6+4))=some (qzI (Ch fs j).day):=by rw [ho.cellAt (j*6+4) (by omega)];exact a.2.2.2.2.1
    have z4:l.frozen? (qzA g (j*6+4))=false:=ho.frozenAt _
    have y5:l.cell? (qzA g (j*6+5))=some (.bool (Ch fs j).used):=by rw [ho.cellAt (j*6+5) (by omega)];exact a.2.2.2.2.2
    have z5:l.frozen? (qzA g (j*6+5))=false:=ho.frozenAt _;have Z:=ho.stored (j*6) (qd (Vh m));have R1:=Z.1.stored (j*6+1) (qzI ((m+1:Nat):Int));have R2:=R1.1.stored (j*6+2) (qzI ((m+2:Nat):Int));have R3:=R2.1.stored (j*6+3) (qzI ((m+3:Nat):Int));have R4:=R3.1.stored (j*6+4) (qzI ((m+4:Nat):Int));have R5:=R4.1.stored (j*6+5) (.bool (((m+5:Nat):Int) % 3 == 0));have R:=R5.1;rw [V] at R;have G:=(((((((HG.o.t (tJ M (some g))).t Z.2).t R1.2).t R2.2).t R3.2).t R4.2).t R5.2)
    rw [show ((m+1:Nat):Int)=(m:Int)+1 by omega,show ((m+2:Nat):Int)=(m:Int)+1+1 by omega,show ((m+3:Nat):Int)=(m:Int)+1+1+1 by omega,show ((m+4:Nat):Int)=(m:Int)+1+1+1+1 by omega,show ((m+5:Nat):Int)=(m:Int)+1+1+1+1+1 by omega] at R G
    have HR:=Aa R;have N:=Aa G;obtain ⟨⟨r,i,c,q,d,u⟩,hold⟩:∃ x,Ch fs j=x:=⟨_,rfl⟩;rw [hold] at y0 y1 y2 y3 y4 y5
    simp only at y0 y1 y2 y3 y4 y5
    obtain ⟨tx,T⟩:=Ae (Vh m);rw [T] at HR N ⊢;clear Z R1 R2 R3 R4 R5 R G a V z ho hold T U HG M B;go_wp2
    go_roundw
    case rel=>exact ⟨j+1,by omega,by go_num,by rw [Y.o];go_num,by rw [X.o];exact HR.o,N.o⟩
    case measure=>simp [intOf];omega
   ·have H:j=az.length:=by omega
    subst H;rw [vO] at p;have U:=Aa p;clear p;go_wp2;go_ret;exact ⟨rfl,U.o,D⟩
theorem bP (n:Nat) (x:Int) (hx:x=(n:Int)) (w:ql) (C:0<n) (hn:n<=1099511627776) :
  qi 84 #[qzI x] w (qp (qd (Vh n)) w):=by
 rw [hx];exact Gx n w C hn
theorem Za (ao:qm) (cap n k:Nat) (w:ql) (hz:Ba w ao (mkA k n)) (hn:n<=1099511627) (k1:0<k) (k2:k<=1099511627) :
  qi 50 #[qf ao n cap,qzI k] w (qp (qzI (k+6*n:Nat)) w):=by
 rcases hz with C|⟨b,off,rfl,hb,f⟩
 ·have a5:n=0:=by have:=Q2 k n;rw [C] at this;simpa using this.s
  subst a5;clear C
  go_enter func50,ntmps50
  go_wp2;refine wp_loop_rounds 1 ?_;rw [rounds_succ];go_wp2;go_ret
  exact ⟨Af (by simp),bR⟩
 ·rw [Q2] at f
  have L:qj (∀ i,i<n->w.cell? (qzA b (off+i*6))=some (qd (Vh (k+6*i)))/\w.cell? (qzA b (off+i*6+1))=some (qzI ((k+6*i+1:Nat):Int))/\w.cell? (qzA b (off+i*6+2))=some (qzI ((k+6*i+2:Nat):Int))/\w.cell? (qzA b (off+i*6+3))=some (qzI ((k+6*i+3:Nat):Int))/\w.cell? (qzA b (off+i*6+4))=some (qzI ((k+6*i+4:Nat):Int))/\w.cell? (qzA b (off+i*6+5))=some (.bool (((k+6*i+5:Nat):Int) % 3 == 0))):=by
   intro i hi
   have:=f i hi
   rw [Ahe k n i hi] at this;exact this
  clear f
  go_enter func50,ntmps50
  go_wp2
  go_loopw [1,5] (λc i wr=>∃ j:Nat,j<=n/\i=qzI j/\c=qzI (k+6*j:Nat)/\BW w wr) (λ_ i _=>n - (intOf i).toNat)
  case atStart=>exact ⟨0,qw _,rfl,rfl,bR⟩
  case round =>
   obtain ⟨j,hj,rfl,rfl,A⟩:=hrel
   by_cases hlt:j<n
   ·have a3:(j:Int)<(n:Int):=by omega
    have W:qj (∀ v,BW w v->v.cell? (qzA b (off+j*6))=some (qd (Vh (k+6*j)))/\v.cell? (qzA b (off+j*6+1))=some (qzI ((k+6*j+1:Nat):Int))/\v.cell? (qzA b (off+j*6+2))=some (qzI ((k+6*j+2:Nat):Int))/\v.cell? (qzA b (off+j*6+3))=some (qzI ((k+6*j+3:Nat):Int))/\v.cell? (qzA b (off+j*6+4))=some (qzI ((k+6*j+4:Nat):Int))/\v.cell? (qzA b (off+j*6+5))=some (.bool (((k+6*j+5:Nat):Int) % 3 == 0))):=λv y=>⟨(y.c b (off+j*6) hb).t (L.o j hlt).1,(y.c b (off+j*6+1) hb).t (L.o j hlt).2.1,(y.c b (off+j*6+2) hb).t (L.o j hlt).2.2.1,(y.c b (off+j*6+3) hb).t (L.o j hlt).2.2.2.1,(y.c b (off+j*6+4) hb).t (L.o j hlt).2.2.2.2.1,(y.c b (off+j*6+5) hb).t (L.o j hlt).2.2.2.2.2⟩
    obtain ⟨m,hm⟩:∃ m:Nat,k+6*j=m:=⟨_,rfl⟩;rw [hm] at W ⊢
    simp only [show ((m+1:Nat):Int)=(m:Int)+1 by omega,show ((m+2:Nat):Int)=(m:Int)+1+1 by omega,show ((m+3:Nat):Int)=(m:Int)+1+1+1 by omega,show ((m+4:Nat):Int)=(m:Int)+1+1+1+1 by omega,show ((m+5:Nat):Int)=(m:Int)+1+1+1+1+1 by omega] at W
    have a4:m<=7696581390:=by omega
    have I:0<m:=by omega
    have Y:qj (k+6 * (j+1)=m+1+1+1+1+1+1):=by rw [qj];omega
    clear hm;obtain ⟨x0,-⟩:=W.o wr A;have a6:=Ec wr;have g2:=Ai x0;go_wp2
    refine Aj (by kernel_rfl) (by kernel_rfl) ?_
    repeat (go_big_quiet_step (exact Bi (bP m _ rfl _ I (by omega))))
    refine wpQuiet_nil ?_;rintro l ⟨⟨wz,M⟩,a7⟩;subst a7;have HB:=Aa (A.t (M.m A.size));obtain ⟨-,x1,x2,x3,x4,x5⟩:=W.o l HB.o;clear x0 a6 g2 M A
    generalize Vh m=tx
    have n1:((m:Int)+1 != (m:Int)+1)=false:=by simp
    have n2:((m:Int)+1+1 != (m:Int)+1+1)=false:=by simp
    have n3:((m:Int)+1+1+1 != (m:Int)+1+1+1)=false:=by simp
    have n4:((m:Int)+1+1+1+1 != (m:Int)+1+1+1+1)=false:=by simp
    have n5:((((m:Int)+1+1+1+1+1) % 3 == 0) != (((m:Int)+1+1+1+1+1) % 3 == 0))=false:=by simp
    go_wp2
    go_roundw
    case rel=>exact ⟨j+1,by omega,by go_num,by rw [Y.o];go_num,HB.o⟩
    case measure=>simp [intOf];omega
   ·have H:j=n:=by omega
    subst H;go_wp2;go_ret;exact ⟨rfl,A⟩
theorem N8 {w:ql} {x y:Value} {t:TypeId} : Below w.heap.size w (w.alloc (.cells #[x,y] t)):=bR.alloc nL _
theorem aV {fs:List Av} {n:Int} : (Ej fs n).length<=1000:=by
 unfold Ej
 split
 ·exact U9 λf hf=>by have:=(Sn (Cb fs 48)).2 f hf;omega
 ·simp
theorem jW (l:qn) (w:ql) (p:l.length<=1099511627776) :
  qi 60 #[qd l] w (qr (qzI (Dr l)) w):=by
 have d:qj (Dr l=if l=[] then 9999 else A9 l):=rfl
 obtain ⟨S,i⟩:=Ae (Dr l);rw [i] at d ⊢;clear i
 by_cases h:l=[]
 ·subst h
  have b:=Aa d.o;clear d
  go_enter func60,ntmps60
  go_wp2;go_ret;exact ⟨Af b.o.s,rfl⟩
 ·have b:qj (S=A9 l):=by rw [qj,d.o,if_neg h]
  have h':(l == [])=false:=by simp [h]
  clear d h
  go_enter func60,ntmps60
  go_wp2_with fail
  refine (sNumOf_any _ _ p).m ?_;rintro e A ⟨rfl,I⟩;subst I;go_wp2;go_ret;exact ⟨Af b.o.s,rfl⟩
theorem Wd (l:qn) (w:ql) (p:l.length<=1099511627776) :
  qi 91 #[qd l] w (qr (qzI (Ey l)) w):=by
 have d:qj (Ey l=if l=[] then -1 else A9 l):=rfl
 obtain ⟨S,i⟩:=Ae (Ey l);rw [i] at d ⊢;clear i
 by_cases h:l=[]
 ·subst h
  have b:=Aa d.o;clear d
  go_enter func91,ntmps91
  go_wp2;go_ret;exact ⟨Af b.o.s,rfl⟩
 ·have b:qj (S=A9 l):=by rw [qj,d.o,if_neg h]
  have h':(l == [])=false:=by simp [h]
  clear d h
  go_enter func91,ntmps91
  go_wp2_with fail
  refine (sNumOf_any _ _ p).m ?_;rintro e A ⟨rfl,I⟩;subst I;go_wp2;go_ret;exact ⟨Af b.o.s,rfl⟩
theorem Ym (kd:Int) (ao:qm) (cap:Nat) (fs:List Av) (n:Int) (w:ql) (B:Aw w ao fs) (hn:fs.length<=1048576) (hd:Gs fs<=1048576) :
  qi 62 #[.agg #[qzI kd,qf ao fs.length cap],qzI n] w (qp (qzI (Bu fs n)) w):=by
 have k:qj (qi 59 #[.agg #[qzI kd,qf ao fs.length cap],qzI n] (w.alloc (.cells #[qzI kd,qf ao fs.length cap] 68)) λe w'=>e=.returned (.tuple #[qd (Cb fs n),.bool (Du fs n)])/\Below (w.alloc (.cells #[qzI kd,qf ao fs.length cap] 68)).heap.size (w.alloc (.cells #[qzI kd,qf ao fs.length cap] 68)) w'):=Hc kd ao cap fs n _ (B.below N8) hn
 have p:(Cb fs n).length<=1099511627776:=by have:=Is (n:=n) hd;omega
 have d:qj (Bu fs n=if Du fs n=false\/Cb fs n=[]\/18<(Cb fs n).length then -1 else A9 (Cb fs n)):=rfl
 obtain ⟨S,i⟩:=Ae (Bu fs n);rw [i] at d ⊢;obtain ⟨D,q⟩:=Ae (Cb fs n);obtain ⟨H,z⟩:=Ae (Du fs n);rw [q,z] at k d;rw [q] at p;clear i q z B hd hn
 by_cases hbad:H=false\/D=[]\/18<D.length
 ·have b:qj (S = -1):=by rw [qj,d.o,if_pos hbad]
  clear d
  cases H
  ·clear hbad
   go_enter func62,ntmps62
   go_wp2_with fail
   refine k.o.m ?_;rintro e A ⟨rfl,g⟩;have j:=Aa ((Pr g).2.2.1);clear g;go_wp2;go_ret;exact ⟨Af b.o.s,j.o⟩
  ·by_cases L:D=[]
   ·subst L
    clear hbad
    go_enter func62,ntmps62
    go_wp2_with fail
    refine k.o.m ?_;rintro e A ⟨rfl,g⟩;have j:=Aa ((Pr g).2.2.1);clear g;go_wp2;go_ret;exact ⟨Af b.o.s,j.o⟩
   ·have U:(18:Int)<(D.length:Int):=by
      rcases hbad with h|h|h
      ·cases h
      ·exact absurd h L
      ·omega
    have h':(D == [])=false:=by simp [L]
    clear hbad L
    go_enter func62,ntmps62
    go_wp2_with fail
    refine k.o.m ?_;rintro e A ⟨rfl,g⟩;have j:=Aa ((Pr g).2.2.1);clear g;go_wp2;go_ret;exact ⟨Af b.o.s,j.o⟩
 ·have b:qj (S=A9 D):=by rw [qj,d.o,if_neg hbad]
  have z:H=true:=by cases H;exact absurd (Or.inl rfl) hbad;rfl
  subst z
  have L:(D == [])=false:=by simp;exact λh=>hbad (.inr (.inl h))
  have U:¬ (18:Int)<(D.length:Int):=λh=>hbad (.inr (.inr (by omega)))
  clear d hbad
  go_enter func62,ntmps62
  go_wp2_with fail
  refine k.o.m ?_;rintro e A ⟨rfl,g⟩;have j:=Aa ((Pr g).2.2.1);clear g;go_wp2_with fail
  refine (sNumOf_any _ _ p).m ?_;rintro e u2 ⟨rfl,I⟩;subst I;go_wp2;go_ret;exact ⟨Af b.o.s,j.o⟩
theorem X0 (kd:Int) (ao:qm) (cap:Nat) (fs:List Av) (n:Int) (w:ql) (B:Aw w ao fs) (hn:fs.length<=1048576) (hd:Gs fs<=1048576) :
  qi 93 #[.agg #[qzI kd,qf ao fs.length cap],qzI n] w (qp (.tuple #[qd (Ej fs n),.bool (Hr fs n)]) w):=by
 have k:qj (qi 59 #[.agg #[qzI kd,qf ao fs.length cap],qzI 48] (w.alloc (.cells #[qzI kd,qf ao fs.length cap] 68)) λe w'=>e=.returned (.tuple #[qd (Cb fs 48),.bool (Du fs 48)])/\Below (w.alloc (.cells #[qzI kd,qf ao fs.length cap] 68)).heap.size (w.alloc (.cells #[qzI kd,qf ao fs.length cap] 68)) w'):=Hc kd ao cap fs 48 _ (B.below N8) hn
 have p:=Is (n:=48) hd
 have u:qj (Ej fs n=(if (Du fs 48 && (Tg.gotT (Cb fs 48)).isSome)=true then (Tg.fOf ((Tg.gotT (Cb fs 48)).getD []) n).getD [] else [])):=rfl
 have r:qj (Hr fs n=((Du fs 48 && (Tg.gotT (Cb fs 48)).isSome) && (Tg.fOf ((Tg.gotT (Cb fs 48)).getD []) n).isSome)):=rfl;obtain ⟨S,i⟩:=Ae (Ej fs n);obtain ⟨Q,hQ⟩:=Ae (Hr fs n);rw [i] at u ⊢;rw [hQ] at r ⊢;obtain ⟨D,q⟩:=Ae (Cb fs 48);obtain ⟨H,z⟩:=Ae (Du fs 48);rw [q,z] at k u r;rw [q] at p
 have X:=Aa λv=>Tg.sGetTags_any D v p
 have hk:((Tg.gotT D).getD []).length<=4194304:=by have:=(Sn D).1;omega
 obtain ⟨G,hG⟩:=Ae (Tg.gotT D);rw [hG] at X u r hk
 have T:=Aa λv a c (hf:Aw v a (G.getD []))=>Tg.sTagOf_any a c _ n v hf hk
 obtain ⟨R,hR⟩:=Ae ((Tg.fOf (G.getD []) n).getD []);obtain ⟨P,W⟩:=Ae ((Tg.fOf (G.getD []) n).isSome);obtain ⟨V,M⟩:=Ae G.isSome;rw [hR,W] at T;rw [hR,M] at u;rw [W,M] at r;obtain ⟨LL,F⟩:=Ae ((G.getD []).length);have J:qj (G.isSome=V/\(G.getD []).length=LL):=⟨M,F⟩;rw [F] at T;clear i q z B hd hn p hG hR W M hQ hk F
 go_enter func93,ntmps93
 go_wp2_with fail
 refine k.o.m ?_;rintro e A ⟨rfl,g⟩;have N:=Aa ((Pr g).2.2.1);clear g;go_wp2_with fail
 refine (X.o A).m ?_;rintro e u2 ⟨a,c,rfl,ho,Y⟩;rw [J.o.1];have HO:=Aa (Tg.flds_any ho);rw [J.o.2];have C:=Aa (next N.o Y);clear ho Y
 cases H
 ·have e1:=u.o
  have e2:=r.o;subst e1 e2;clear u r;go_wp2;go_ret2;exact ⟨rfl,C.o⟩
 ·cases V
  ·have e1:=u.o
   have e2:=r.o;subst e1 e2;clear u r;go_wp2;go_ret2;exact ⟨rfl,C.o⟩
  ·have e1:=u.o
   have e2:=r.o;subst e1 e2;clear u r;go_wp2_with fail
   refine (T.o _ _ _ HO.o).m ?_;rintro e u3 ⟨rfl,Z⟩;have O:=Aa (next C.o Z);clear Z;go_wp2;go_ret2;exact ⟨rfl,O.o⟩
theorem iH (kd:Int) (ao:qm) (cap:Nat) (fs:List Av) (w:ql) (B:Aw w ao fs) (hn:fs.length<=1048576) (hd:Gs fs<=1048576) :
  qi 92 #[.agg #[qzI kd,qf ao fs.length cap]] w (qp (qzI (F3 fs)) w):=by
 have k:qj (qi 93 #[.agg #[qzI kd,qf ao fs.length cap],qzI 1] (w.alloc (.cells #[qzI kd,qf ao fs.length cap] 68)) λe w'=>e=.returned (.tuple #[qd (Ej fs 1),.bool (Hr fs 1)])/\Below (w.alloc (.cells #[qzI kd,qf ao fs.length cap] 68)).heap.size (w.alloc (.cells #[qzI kd,qf ao fs.length cap] 68)) w'):=X0 kd ao cap fs 1 _ (B.below N8) hn hd
 have p:(Ej fs 1).length<=1099511627776:=by have:=@aV fs 1;omega
 have d:qj (F3 fs=if Hr fs 1=false\/9<(Ej fs 1).length then -1 else Ey (Ej fs 1)):=rfl
 obtain ⟨S,i⟩:=Ae (F3 fs);rw [i] at d ⊢;obtain ⟨D,q⟩:=Ae (Ej fs 1);obtain ⟨H,z⟩:=Ae (Hr fs 1);rw [q,z] at k d;rw [q] at p;clear i q z B hd hn
 cases H
 ·have b:qj (S = -1):=by rw [qj,d.o,if_pos (Or.inl rfl)]
  clear d
  go_enter func92,ntmps92
  go_wp2_with fail
  refine k.o.m ?_;rintro e A ⟨rfl,g⟩;have j:=Aa ((Pr g).2.2.1);clear g;go_wp2;go_ret;exact ⟨Af b.o.s,j.o⟩
 ·by_cases h9:9<D.length
  ·have b:qj (S = -1):=by rw [qj,d.o,if_pos (Or.inr h9)]
   have U:(9:Int)<(D.length:Int):=by omega
   clear d h9
   go_enter func92,ntmps92
   go_wp2_with fail
   refine k.o.m ?_;rintro e A ⟨rfl,g⟩;have j:=Aa ((Pr g).2.2.1);clear g;go_wp2;go_ret;exact ⟨Af b.o.s,j.o⟩
  ·have b:qj (S=Ey D):=by rw [qj,d.o,if_neg (by simp [h9])]
   have U:¬ (9:Int)<(D.length:Int):=by omega
   clear d h9
   go_enter func92,ntmps92
   go_wp2_with fail
   refine k.o.m ?_;rintro e A ⟨rfl,g⟩;have j:=Aa ((Pr g).2.2.1);clear g;go_wp2_with fail
   refine (Wd _ _ p).m ?_;rintro e u2 ⟨rfl,I⟩;subst I;go_wp2;go_ret;exact ⟨Af b.o.s,j.o⟩
def sE:Value->Nat
 | .string b=>b.size
 | _=>0
theorem Ei (x y:qn) (h:x.length+y.length<=1099511627776):∀ W:ql,(Op.stringOp .add ⟨x.toArray⟩ ⟨y.toArray⟩).run prog W=.ok (qd (x++y)) W:=λW =>
 (run_string_add_sum W ⟨x.toArray⟩ ⟨y.toArray⟩ (by rw [Cu,Cu];omega)).t (by rw [D8])
theorem Ds {n:Int} (h0:-1<=n) (X:n<1000000000000000000):(Lib.itoa n).length<=1048576:=by
 have:=Lib.itoa_length_le n (by omega) (by omega);omega
theorem rZ (a:UInt8) (r:qn) (W:ql):(Instr.index 9 (qd (a::r)) (qzI 0)).run prog W=.ok (.int .u8 a.toNat) W:=by
 have h:=Fl (a::r) 0 (by simp)
 have hs:0<(⟨(a::r).toArray⟩:ByteArray).size:=by rw [Cu];simp
 simp [go_sem,underlying9]
 rw [<- h]
 rfl
theorem Aff (x:Int):Gb x 1 9999=Gw x:=by unfold Gb Gw;rw [Bool.decide_and]
theorem Ef (n:Int) (w:ql) (h0:0<=n) (X:n<1000000000000000000) :
  qi 64 #[qzI n] w (qr (qd (Lib.itoa n)) w):=by
 obtain ⟨a,rfl⟩:∃ a:Nat,n=(a:Int):=⟨n.toNat,by omega⟩
 have h:=Tg.dec_up a w (by omega)
 have e:Lib.itoa (a:Int)=Lib.decDigits a:=by simp [Lib.itoa,show ¬ (a:Int)<0 from by omega]
 rw [e];exact h
theorem eT {l:qn} (h:¬ 1<l.length\/l.head?≠some 48):Eh l=l:=by
 unfold Eh
 split
 ·rfl
 ·rfl
 ·rename_i a b r
  rw [if_neg]
  rcases h with h|h
  ·simp at h
  ·simpa using h
theorem xR (r:qn) (h:0<r.length):Eh (48::r)=Eh r:=by
 cases r with
 | nil=>simp at h
 | cons b r=>rw [Eh];simp
theorem eK (kd:Int) (ao:qm) (cap:Nat) (fs:List Av) (n:Int) (w:ql) (hz:Aw w ao fs) (hn:fs.length<=1048576) (hd:Gs fs<=1048576) :
  qi 61 #[.agg #[qzI kd,qf ao fs.length cap],qzI n] w (qp (qzI (Da fs n)) w):=by
 have R:qj (qi 59 #[.agg #[qzI kd,qf ao fs.length cap],qzI n] (w.alloc (.cells #[qzI kd,qf ao fs.length cap] 68)) λe w'=>e=.returned (.tuple #[qd (Cb fs n),.bool (Du fs n)])/\Below (w.alloc (.cells #[qzI kd,qf ao fs.length cap] 68)).heap.size (w.alloc (.cells #[qzI kd,qf ao fs.length cap] 68)) w'):=Hc kd ao cap fs n _ (hz.below N8) hn
 have hl:=Is (n:=n) hd
 have k:qj (Da fs n=if Du fs n=false\/4<(Eh (Cb fs n)).length\/Gw (Ey (Eh (Cb fs n)))=false then -1 else A9 (Eh (Cb fs n))):=rfl
 obtain ⟨S,hS⟩:=Ae (Da fs n);rw [hS] at k ⊢;obtain ⟨D,Y⟩:=Ae (Cb fs n);obtain ⟨H,hH⟩:=Ae (Du fs n);rw [Y,hH] at R k;rw [Y] at hl;have HL:=Aa hl;obtain ⟨Z,hZ⟩:=Ae (Eh D);rw [hZ] at k
 have J:qj (Z.length<=1048576):=by rw [qj,<- hZ];have:=mJ D;omega
 clear hS Y hH hz hd hn hl
 go_enter func61,ntmps61
 go_wp2_with fail
 refine R.o.m ?_;rintro e u1 ⟨rfl,b1⟩;have O:=Aa ((Pr b1).2.2.1);clear b1;go_wp2
 go_loopw [5] (λs wr=>∃ l:qn,qd l=s/\Eh l=Z/\l.length<=D.length/\wr=u1) (λs _=>sE s)
 case atStart=>exact ⟨D,rfl,hZ,nL,rfl⟩
 case round =>
  obtain ⟨l,rfl,q,C,hw⟩:=hrel;subst hw
  by_cases hgo:1<l.length/\l.head?=some 48
  ·obtain ⟨r,rfl⟩:∃ r,l=48::r:=by
     cases l with
     | nil=>simp at hgo
     | cons a r=>simp at hgo;exact ⟨r,by rw [hgo.2]⟩
   have hr:0<r.length:=by have:=hgo.1;simp at this;omega
   have V:qj (Eh r=Z):=by rw [qj,<- xR r hr];exact q
   have X:(1:Int)<((48::r).length:Int):=by have:=hgo.1;omega
   have U:qj (r.length<=D.length):=by rw [qj];simp at C;omega
   have a4:∀ W:ql,(Instr.slice 9 (qd (48::r)) (some (qzI 1)) none none).run prog W=.ok (qd r) W:=λW=>by
    rw [run_slice_string_from_if W 9 ⟨(48::r).toArray⟩ .i64 1 underlying9,if_pos ⟨by omega,by rw [Cu];simp;omega⟩,Cu]
    have:=M6 (48::r) 1 (48::r).length
    simp at this ⊢
    exact this
   have L:qj (sE (qd r)<sE (qd (48::r))):=by rw [qj];simp only [sE,Cu];simp
   have M:∀ W:ql,(Instr.index 9 (qd (48::r)) (qzI 0)).run prog W=.ok (.int .u8 48) W:=λW=>rZ 48 r W
   clear hgo q C hr R;obtain ⟨B,j⟩:∃ x:ByteArray,x=⟨(48::r).toArray⟩:=⟨_,rfl⟩
   have N:(B.size:Int)=((48::r).length:Int):=by rw [j,Cu]
   unfold qd at a4 L M;try unfold qd
   rw [<- j] at a4 L M ⊢;rw [<- N] at X;clear j N;go_wp2
   go_roundw
   case rel=>exact ⟨r,rfl,V.o,U.o,trivial⟩
   case measure=>exact L.o
  ·have a5:l=Z:=by
     rw [<- q,eT]
     by_cases h:1<l.length
     ·exact .inr λg=>hgo ⟨h,g⟩
     ·exact .inl h
   subst a5
   have i:=Aa λv=>Wd l v (by have:=J.o;omega)
   have f:=Aa λv=>sNumOf_any l v (by have:=J.o;omega)
   have p:qj (∀ v,qi 89 #[qzI (Ey l),qzI 1,qzI 9999] v (qr (.bool (Gw (Ey l))) v)):=λv=>by rw [<- Aff];exact Cg _ 1 9999 v
   have T:(¬ (1:Int)<((⟨l.toArray⟩:ByteArray).size:Int))\/((1:Int)<((⟨l.toArray⟩:ByteArray).size:Int)/\∃ c:Int,(c == 48)=false/\∀ W:ql,(Instr.index 9 (qd l) (qzI 0)).run prog W=.ok (.int .u8 c) W):=by
    rw [Cu]
    by_cases h:1<l.length
    ·refine .inr ⟨by omega,?_⟩
     cases l with
     | nil=>simp at h
     | cons a r =>
      refine ⟨a.toNat,?_,rZ a r⟩
      have a3:a≠48:=λe=>hgo ⟨h,by rw [e];rfl⟩
      simp only [beq_eq_false_iff_ne,ne_eq]
      intro e
      exact a3 (UInt8.toNat_inj.1 (by show a.toNat=48;omega))
    ·exact .inl (by omega)
   have I:((⟨l.toArray⟩:ByteArray).size:Int)=(l.length:Int):=by rw [Cu]
   obtain ⟨wh,z⟩:=Ae (Ey l);obtain ⟨nu,G⟩:=Ae (A9 l);obtain ⟨ln,F⟩:=Ae l.length;obtain ⟨iw,A⟩:=Ae (Gw wh);rw [z,F,G,A] at k;rw [z] at i;rw [z,A] at p;rw [G] at f;rw [F] at I;obtain ⟨B,j⟩:∃ x:ByteArray,(⟨l.toArray⟩:ByteArray)=x:=⟨_,rfl⟩;unfold qd at i f T;try unfold qd
   rw [j] at i f T I ⊢;clear z G F A j q C hgo R HL
   rcases T with T|⟨T,c,hc,M⟩
   all_goals
    cases H
    ·have d:qj (S = -1):=by rw [qj,k.o,if_pos (Or.inl rfl)]
     clear k i f p I;go_wp2;go_ret;exact ⟨Af d.o.s,O.o⟩
    ·by_cases h5:4<ln
     ·have d:qj (S = -1):=by rw [qj,k.o,if_pos (Or.inr (Or.inl h5))]
      have h6:(4:Int)<(B.size:Int):=by omega
      clear k i f p I h5;go_wp2;go_ret;exact ⟨Af d.o.s,O.o⟩
     ·have h6:¬ (4:Int)<(B.size:Int):=by omega
      cases iw
      ·have d:qj (S = -1):=by rw [qj,k.o,if_pos (Or.inr (Or.inr rfl))]
       clear k f I h5;go_wp2_with fail
       refine (i.o _).m ?_;rintro e u2 ⟨rfl,u⟩;subst u;go_wp2_with fail
       refine (p.o _).m ?_;rintro e u3 ⟨rfl,u⟩;subst u;go_wp2;go_ret;exact ⟨Af d.o.s,O.o⟩
      ·have d:qj (S=nu):=by rw [qj,k.o,if_neg (by simp [h5])]
       clear k I h5;go_wp2_with fail
       refine (i.o _).m ?_;rintro e u2 ⟨rfl,u⟩;subst u;go_wp2_with fail
       refine (p.o _).m ?_;rintro e u3 ⟨rfl,u⟩;subst u;go_wp2_with fail
       refine (f.o _).m ?_;rintro e u4 ⟨rfl,u⟩;subst u;go_wp2;go_ret;exact ⟨Af d.o.s,O.o⟩
theorem X3 (kd:Int) (ao:qm) (cap:Nat) (fs:List Av) (wd:qn) (am rs:Int) (w:ql) (O:Aw w ao fs) (hn:fs.length<=1048576) (hd:Gs fs<=1048576) (g7:wd.length<=1000) (ha:am<1000000000000000000) (hr:rs<1000000000000000000) :
  qi 65 #[.agg #[qzI kd,qf ao fs.length cap],qd wd,qzI am,qzI rs] w λe w'=>e=.returned (.tuple #[qd (Dx fs wd am rs).1,qzI (Dx fs wd am rs).2])/\BW w w':=by
 have M:Below w.heap.size w (w.alloc (.cells #[qzI kd,qf ao fs.length cap] 68)):=N8
 have HC:qj (qi 92 #[.agg #[qzI kd,qf ao fs.length cap]] (w.alloc (.cells #[qzI kd,qf ao fs.length cap] 68)) λe w'=>e=.returned (qzI (F3 fs))/\Below (w.alloc (.cells #[qzI kd,qf ao fs.length cap] 68)).heap.size (w.alloc (.cells #[qzI kd,qf ao fs.length cap] 68)) w'):=iH kd ao cap fs _ (O.below N8) hn hd
 have V:=@tV fs
 have k:qj (Dx fs wd am rs=if am<0\/rs<0 then ([],2) else if F3 fs<0\/wd=[] then ([],3) else (U3 [97,99,116] (Lib.itoa (F3 fs)) wd (Lib.itoa am) (Lib.itoa rs),0)):=rfl
 obtain ⟨S,hS⟩:=Ae (Dx fs wd am rs);rw [hS] at k ⊢;obtain ⟨N,hN⟩:=Ae (F3 fs);rw [hN] at HC k V;have Z:=Aa M;clear hS hN O hn hd M
 by_cases h0:am<0
 ·have a:qj (S=([],2)):=by rw [qj,k.o,if_pos (Or.inl h0)]
  clear k
  go_enter func65,ntmps65
  go_wp2;go_ret2
  exact ⟨by rw [a.o];rfl,Z.o⟩
 by_cases h1:rs<0
 ·have a:qj (S=([],2)):=by rw [qj,k.o,if_pos (Or.inr h1)]
  clear k
  go_enter func65,ntmps65
  go_wp2;go_ret2
  exact ⟨by rw [a.o];rfl,Z.o⟩
 rw [if_neg (show ¬ (am<0\/rs<0) by omega)] at k
 by_cases h2:N<0
 ·have a:qj (S=([],3)):=by rw [qj,k.o,if_pos (Or.inl h2)]
  clear k
  go_enter func65,ntmps65
  go_wp2_with fail
  refine HC.o.m ?_;rintro e u1 ⟨rfl,q⟩;have X:=Aa ((Pr q).2.2.1);clear q;go_wp2;go_ret2
  exact ⟨by rw [a.o];rfl,X.o⟩
 by_cases h3:wd=[]
 ·have a:qj (S=([],3)):=by rw [qj,k.o,if_pos (Or.inr h3)]
  subst h3;clear k
  go_enter func65,ntmps65
  go_wp2_with fail
  refine HC.o.m ?_;rintro e u1 ⟨rfl,q⟩;have X:=Aa ((Pr q).2.2.1);clear q;go_wp2;go_ret2
  exact ⟨by rw [a.o];rfl,X.o⟩
 have g6:(wd == [])=false:=by simp [h3]
 have a:qj (S=(U3 [97,99,116] (Lib.itoa N) wd (Lib.itoa am) (Lib.itoa rs),0)):=by rw [qj,k.o,if_neg (by simp [h2,h3])]
 have hA:=Ds (n:=N) (by omega) V.2
 have hB:=Ds (n:=am) (by omega) ha
 have hC:=Ds (n:=rs) (by omega) hr
 have a3:=Aa λv=>Ef N v (by omega) V.2
 have a4:=Aa λv=>Ef am v (by omega) ha
 have a5:=Aa λv=>Ef rs v (by omega) hr
 obtain ⟨A,a6⟩:=Ae (Lib.itoa N);obtain ⟨B,a7⟩:=Ae (Lib.itoa am);obtain ⟨C,a8⟩:=Ae (Lib.itoa rs);rw [a6] at hA a3 a;rw [a7] at hB a4 a;rw [a8] at hC a5 a;obtain ⟨L1,t⟩:=Ae ([97,99,116,32]++A)
 have b8:=Ei [97,99,116,32] A (by (try simp only [qx,qy]);omega)
 rw [t] at b8
 have d8:L1.length<=4194304:=by rw [<- t,qv];(try simp only [qx,qy]);omega
 obtain ⟨L2,u⟩:=Ae (L1++[32])
 have b9:=Ei L1 [32] (by (try simp only [qx,qy]);omega)
 rw [u] at b9
 have g0:L2.length<=6291456:=by rw [<- u,qv];(try simp only [qx,qy]);omega
 obtain ⟨L3,x⟩:=Ae (L2++wd)
 have c8:=Ei L2 wd (by (try simp only [qx,qy]);omega)
 rw [x] at c8
 have g1:L3.length<=8388608:=by rw [<- x,qv];(try simp only [qx,qy]);omega
 obtain ⟨L4,y⟩:=Ae (L3++[32])
 have c9:=Ei L3 [32] (by (try simp only [qx,qy]);omega)
 rw [y] at c9
 have g2:L4.length<=10485760:=by rw [<- y,qv];(try simp only [qx,qy]);omega
 obtain ⟨L5,z⟩:=Ae (L4++B)
 have d2:=Ei L4 B (by (try simp only [qx,qy]);omega)
 rw [z] at d2
 have g3:L5.length<=12582912:=by rw [<- z,qv];(try simp only [qx,qy]);omega
 obtain ⟨L6,F⟩:=Ae (L5++[32])
 have d3:=Ei L5 [32] (by (try simp only [qx,qy]);omega)
 rw [F] at d3
 have g4:L6.length<=14680064:=by rw [<- F,qv];(try simp only [qx,qy]);omega
 obtain ⟨L7,I⟩:=Ae (L6++C)
 have d4:=Ei L6 C (by (try simp only [qx,qy]);omega)
 rw [I] at d4
 have g5:L7.length<=16777216:=by rw [<- I,qv];(try simp only [qx,qy]);omega
 have b6:qj (S=(L7,0)):=by rw [qj,a.o,<- I,<- F,<- z,<- y,<- x,<- u,<- t];rfl
 clear k a d8 t g0 u g1 x g2 y g3 z g4 F g5 I hA hB hC a6 a7 a8 h3
 go_enter func65,ntmps65
 go_wp2_with fail
 refine HC.o.m ?_;rintro e u1 ⟨rfl,q⟩;have X:=Aa ((Pr q).2.2.1);clear q;go_wp2_with fail
 refine (a3.o _).m ?_;rintro e u2 ⟨rfl,hu⟩;subst hu;go_wp2_with fail
 refine (a4.o _).m ?_;rintro e u3 ⟨rfl,hu⟩;subst hu;go_wp2_with fail
 refine (a5.o _).m ?_;rintro e L ⟨rfl,hu⟩;subst hu;go_wp2;go_ret2
 exact ⟨by rw [b6.o];rfl,X.o⟩
theorem lV (kd:Int) (ao:qm) (cap:Nat) (fs:List Av) (w:ql) (O:Aw w ao fs) (hn:fs.length<=1048576) (hd:Gs fs<=1048576) :
  qi 66 #[.agg #[qzI kd,qf ao fs.length cap]] w λe w'=>e=.returned (.tuple #[qd (Qc fs).1,qzI (Qc fs).2])/\BW w w':=by
 have HF:qj (qi 59 #[.agg #[qzI kd,qf ao fs.length cap],qzI 4] (w.alloc (.cells #[qzI kd,qf ao fs.length cap] 68)) λe w'=>e=.returned (.tuple #[qd (Cb fs 4),.bool (Du fs 4)])/\Below (w.alloc (.cells #[qzI kd,qf ao fs.length cap] 68)).heap.size (w.alloc (.cells #[qzI kd,qf ao fs.length cap] 68)) w'):=Hc kd ao cap fs 4 _ (O.below N8) hn
 have HN:=Aa λv (b:BW w v)=>Ym kd ao cap fs 4 v (O.below b) hn hd
 have HT:=Aa λv (b:BW w v)=>X0 kd ao cap fs 2 v (O.below b) hn hd
 have W:=Aa λv wd am (b:BW w v) (h:wd.length<=1000) (g:am<1000000000000000000)=>X3 kd ao cap fs wd am 0 v (O.below b) hn hd h g (by omega)
 have J:(if Du fs 4=true then Bu fs 4 else 0)<1000000000000000000:=by
  have:=@Hb fs 4;split <;> omega
 have b7:qj ((Ej fs 2).length<=1000):=aV
 have a:qj (Qc fs=Dx fs (if Ib (Ej fs 2)=true then Ej fs 2 else []) (if Du fs 4=true then Bu fs 4 else 0) 0):=rfl
 have l:qj (Ib (Ej fs 2)=((Ej fs 2 == [97,99,99,101,112,116]) || ((Ej fs 2 == [114,101,102,117,115,101]) || ((Ej fs 2 == [114,117,108,101]) || (Ej fs 2 == [99,108,111,115,101]))))):=rfl
 obtain ⟨S,hS⟩:=Ae (Qc fs);rw [hS] at a ⊢;obtain ⟨D4,a9⟩:=Ae (Cb fs 4);obtain ⟨H,hH⟩:=Ae (Du fs 4);rw [a9,hH] at HF;rw [hH] at a J
 obtain ⟨AM,U⟩:=Ae ((if H=true then Bu fs 4 else 0))
 rw [U] at a J;obtain ⟨D,hD⟩:=Ae (Ej fs 2);obtain ⟨G,hG⟩:=Ae (Hr fs 2);rw [hD,hG] at HT;rw [hD] at b7 a l;obtain ⟨WK,b5⟩:=Ae (Ib D);rw [b5] at a l;have r:=Aa U;obtain ⟨NN,b0⟩:=Ae (Bu fs 4);rw [b0] at HN r;have p:qj (AM<1000000000000000000):=J;clear hS a9 hH hD hG b5 b0 U O hn hd J
 go_enter func66,ntmps66
 go_wp2_with fail
 refine HF.o.m ?_;rintro e u1 ⟨rfl,q⟩;obtain ⟨c0,c1,q1,-⟩:=Pr q;have T:qj (BW w u1):=q1;clear q q1
 go_upto_if 14 with fail
 go_cut [4] (λs wc=>s=qzI AM/\BW u1 wc)
 case first =>
  cases H
  ·have R:qj (AM=0):=r.o.s
   go_wp2_with fail
   go_meet
   exact ⟨by rw [R.o],bR⟩
  ·have R:qj (AM=NN):=r.o.s
   go_wp2_with fail
   refine (HN.o _ T.o).m ?_;rintro e u2 ⟨rfl,b2⟩;go_wp2_with fail
   go_meet
   exact ⟨by rw [R.o],b2⟩
 case rest =>
  obtain ⟨rfl,bc⟩:=hcut;obtain ⟨d0,d1⟩:=Xh c0 c1 bc;have Y:qj (BW w wc):=next T.o bc;clear bc c0 c1 r T;go_wp2_with fail
  refine (HT.o _ Y.o).m ?_;rintro e u3 ⟨rfl,b3⟩;obtain ⟨e0,e1⟩:=Xh d0 d1 b3;have c:qj (BW w u3):=next Y.o b3;clear b3 d0 d1
  by_cases h5:D=[97,99,99,101,112,116]
  ·subst h5
   have i:=l.o;subst i;have f:qj (S=Dx fs [97,99,99,101,112,116] AM 0):=a.o;clear l a;go_wp2_with fail
   refine (W.o _ [97,99,99,101,112,116] AM c.o (by decide) p.o).m ?_
   rintro e L ⟨rfl,j⟩;rw [<- f.o];have d:qj (BW w L):=next c.o j;clear j;go_wp2;go_ret2;exact ⟨rfl,d.o⟩
  by_cases h6:D=[114,101,102,117,115,101]
  ·subst h6
   have i:=l.o;subst i;have f:qj (S=Dx fs [114,101,102,117,115,101] AM 0):=a.o;clear l a;go_wp2_with fail
   refine (W.o _ [114,101,102,117,115,101] AM c.o (by decide) p.o).m ?_
   rintro e L ⟨rfl,j⟩;rw [<- f.o];have d:qj (BW w L):=next c.o j;clear j;go_wp2;go_ret2;exact ⟨rfl,d.o⟩
  by_cases h7:D=[114,117,108,101]
  ·subst h7
   have i:=l.o;subst i;have f:qj (S=Dx fs [114,117,108,101] AM 0):=a.o;clear l a;go_wp2_with fail
   refine (W.o _ [114,117,108,101] AM c.o (by decide) p.o).m ?_
   rintro e L ⟨rfl,j⟩;rw [<- f.o];have d:qj (BW w L):=next c.o j;clear j;go_wp2;go_ret2;exact ⟨rfl,d.o⟩
  by_cases h9:D=[99,108,111,115,101]
  ·subst h9
   have i:=l.o;subst i;have f:qj (S=Dx fs [99,108,111,115,101] AM 0):=a.o;clear l a;go_wp2_with fail
   refine (W.o _ [99,108,111,115,101] AM c.o (by decide) p.o).m ?_
   rintro e L ⟨rfl,j⟩;rw [<- f.o];have d:qj (BW w L):=next c.o j;clear j;go_wp2;go_ret2;exact ⟨rfl,d.o⟩
  have d5:(D == [97,99,99,101,112,116])=false:=by simpa using h5
  have d6:(D == [114,101,102,117,115,101])=false:=by simpa using h6
  have d7:(D == [114,117,108,101])=false:=by simpa using h7
  have d9:(D == [99,108,111,115,101])=false:=by simpa using h9
  have i:WK=false:=by rw [l.o,d5,d6,d7,d9];rfl
  subst i;have f:qj (S=Dx fs [] AM 0):=a.o;clear l a h5 h6 h7 h9;go_wp2_with fail
  refine (W.o _ [] AM c.o (by decide) p.o).m ?_
  rintro e L ⟨rfl,j⟩;rw [<- f.o];have d:=Aa (next c.o j);clear j;go_wp2;go_ret2;exact ⟨rfl,d.o⟩
theorem Kh {n:Int} {d:qn} {q:Bool} (D:Ay n d=q) (w:ql) (H:d.length<=1099511627776) :
  qi 88 #[.agg #[qzI n,qd d]] w (qp (.bool q) w):=by
 rw [<- D];exact cG n d w H
theorem iF (kd:Int) {fs:List Av} (h:Xb 1 fs=true):Cx kd fs=Gb kd 0 9999:=by unfold Cx;rw [h,Bool.and_true];rfl
theorem W6 (kd:Int) (ao:qm) (cap:Nat) (fs:List Av) (w:ql) (X:Aw w ao fs) (hn:fs.length<=1048576) (hd:Gs fs<=1048576) :
  qi 58 #[.agg #[qzI kd,qf ao fs.length cap]] w (qp (.bool (Cx kd fs)) w):=by
 rcases X with rfl|⟨b,off,rfl,hb,x⟩
 ·have T:qj (Cx kd []=Gb kd 0 9999):=iF kd rfl
  go_enter func58,ntmps58
  go_wp2;refine wp_loop_rounds 1 ?_;rw [rounds_succ];go_wp2_with fail
  refine (Cg _ _ _ _).m ?_;rintro e Y ⟨rfl,F⟩;subst F;go_wp2;go_ret
  exact ⟨Ab T.o.s,by go_grown⟩
 ·have J:=Aa x
  clear x
  go_enter func58,ntmps58
  go_wp2
  go_loopw [3] (λi wr=>∃ k:Nat,k<=fs.length/\i=qzI k/\Xb 1 fs=Xb (Kn fs k) (fs.drop k)/\BW w wr/\wr.cell? ⟨w.heap.size,1,none⟩=some (qf (some (qzA b off)) fs.length cap)/\wr.cell? ⟨w.heap.size,0,none⟩=some (qzI kd)) (λi _=>fs.length - (intOf i).toNat)
  case atStart=>exact ⟨0,qw _,rfl,rfl,by go_grown,by simp [go_sem],by simp [go_sem]⟩
  case round =>
   obtain ⟨k,hk,rfl,l,a,u,C⟩:=hrel;have B:=qs wr _ u
   by_cases hlt:k<fs.length
   ·have c1:=(a.c b (off+k*2) hb).t (J.o k hlt).1
    have c2:=(a.c b (off+k*2+1) hb).t (J.o k hlt).2
    have V:(k:Int)<(fs.length:Int):=by omega
    have g:=fZ fs k (Kn fs k) hlt;have I:=kU hlt hd;have A:qj (Kn fs (k+1)=(Dn fs k).1):=rfl;obtain ⟨⟨n,s⟩,S⟩:∃ f,Dn fs k=f:=⟨_,rfl⟩;rw [S] at c1 c2 g I A
    simp only at c1 c2 g I A
    have H:s.length<=1099511627776:=by omega
    clear S;have W:=Ec wr;have Z:=Ai c1;have g2:=Ai c2;have g3:=Ai u
    cases D:Ay n s
    ·have z:qj (Cx kd fs=false):=eG (by rw [l,g,D];rfl)
     have G:=Aa D;clear D g l;go_wp2
     refine Aj (by kernel_rfl) (by kernel_rfl) ?_
     repeat (go_big_quiet_step (exact Bi (Kh G.o _ H)))
     refine wpQuiet_nil ?_;rintro _ ⟨⟨R,v⟩,r⟩;subst r;go_wp2;go_ret;exact ⟨Ab z.o.s,a.t (v.m a.size)⟩
    ·have G:=Aa D
     rw [D,ja] at g;clear D
     by_cases hk0':k=0
     ·have N:decide (0<k)=false:=by simp [hk0']
      have O:1<n:=by have:=Vj (eW G.o);omega
      have z:qj (Xb 1 fs=Xb (Kn fs (k+1)) (fs.drop (k+1))):=by
       rw [qj,l,g,A.o,show Kn fs k=1 from by rw [hk0'];rfl,decide_eq_true O,ja]
      clear g l hk0';go_wp2
      refine Aj (by kernel_rfl) (by kernel_rfl) ?_
      repeat (go_big_quiet_step (exact Bi (Kh G.o _ H)))
      refine wpQuiet_nil ?_;rintro _ ⟨⟨R,v⟩,r⟩;subst r;go_wp2
      go_roundw
      case rel=>exact ⟨k+1,by omega,by go_num,z.o,a.t (v.m a.size),(v.cell (p:=⟨w.heap.size,1,none⟩) B).t u,(v.cell (p:=⟨w.heap.size,0,none⟩) B).t C⟩
      case measure=>simp [intOf];omega
     ·obtain ⟨j,rfl⟩:∃ j,k=j+1:=⟨k - 1,by omega⟩
      have N:decide (0<j+1)=true:=by simp
      have c3:=(a.c b (off+j*2) hb).t (J.o j (by omega)).1
      have U:(j:Int)<(fs.length:Int):=by omega
      have y:Kn fs (j+1)=(Dn fs j).1:=rfl;obtain ⟨p,hp⟩:=Ae ((Dn fs j).1);rw [hp] at c3 y;have g4:=Ai c3
      by_cases hpn:n<=p
      ·have L:decide (n<=p)=true:=by simpa using hpn
       have z:qj (Cx kd fs=false):=eG (by rw [l,g,y,decide_eq_false (by omega)];rfl)
       clear g l hp y hpn;go_wp2
       refine Aj (by kernel_rfl) (by kernel_rfl) ?_
       repeat (go_big_quiet_step (exact Bi (Kh G.o _ H)))
       refine wpQuiet_nil ?_;rintro _ ⟨⟨R,v⟩,r⟩;subst r;go_wp2;go_ret;exact ⟨Ab z.o.s,a.t (v.m a.size)⟩
      ·have L:decide (n<=p)=false:=by simpa using hpn
       have z:qj (Xb 1 fs=Xb (Kn fs (j+1+1)) (fs.drop (j+1+1))):=by
        rw [qj,l,g,A.o,y,decide_eq_true (by omega),ja]
       clear g l hp y hpn;go_wp2
       refine Aj (by kernel_rfl) (by kernel_rfl) ?_
       repeat (go_big_quiet_step (exact Bi (Kh G.o _ H)))
       refine wpQuiet_nil ?_;rintro _ ⟨⟨R,v⟩,r⟩;subst r;go_wp2
       go_roundw
       case rel=>exact ⟨j+1+1,by omega,by go_num,z.o,a.t (v.m a.size),(v.cell (p:=⟨w.heap.size,1,none⟩) B).t u,(v.cell (p:=⟨w.heap.size,0,none⟩) B).t C⟩
       case measure=>simp [intOf];omega
   ·have M:k=fs.length:=by omega
    subst M
    have z:=Aa (iF kd (by rw [l,pT]))
    clear l;go_wp2_with fail
    refine (Cg _ _ _ _).m ?_;rintro e Y ⟨rfl,F⟩;subst F;go_wp2;go_ret;exact ⟨Ab z.o.s,a⟩
theorem Afb {x:Int} (h0:-1<=x) (h1:x<=1000000000):IntKind.i64.wrap x=x:=by
 by_cases h:0<=x
 ·exact Tg.wrapI h h1
 ·obtain rfl:x = -1:=by omega
  rfl
theorem Uz (kd:Int) (ao:qm) (cap:Nat) (fs:List Av) (w:ql) (hz:Aw w ao fs) (hn:fs.length<=1048576) (hd:Gs fs<=1048576) :
  qi 25 #[.agg #[qzI kd,qf ao fs.length cap]] w (qp (.tuple #[qd (Uh kd fs).1,qzI (Uh kd fs).2]) w):=by
 have d6:Below w.heap.size w (w.alloc (.cells #[qzI kd,qf ao fs.length cap] 68)):=N8
 have d4:=Aa λv (b:BW w v)=>W6 kd ao cap fs v (hz.below b) hn hd
 have I:qj (∀ n v,BW w v->qi 59 #[.agg #[qzI kd,qf ao fs.length cap],qzI n] v (qp (.tuple #[qd (Cb fs n),.bool (Du fs n)]) v)):=λn v b=>Hc kd ao cap fs n v (hz.below b) hn
 have l:qj (∀ n v,BW w v->qi 62 #[.agg #[qzI kd,qf ao fs.length cap],qzI n] v (qp (qzI (Bu fs n)) v)):=λn v b=>Ym kd ao cap fs n v (hz.below b) hn hd
 have y:qj (∀ n v,BW w v->qi 61 #[.agg #[qzI kd,qf ao fs.length cap],qzI n] v (qp (qzI (Da fs n)) v)):=λn v b=>eK kd ao cap fs n v (hz.below b) hn hd
 have B:qj (∀ v wd am rs,BW w v->wd.length<=1000->am<1000000000000000000->rs<1000000000000000000->qi 65 #[.agg #[qzI kd,qf ao fs.length cap],qd wd,qzI am,qzI rs] v (qp (.tuple #[qd (Dx fs wd am rs).1,qzI (Dx fs wd am rs).2]) v)):=λv wd am rs b h g k=>X3 kd ao cap fs wd am rs v (hz.below b) hn hd h g k
 have T:qj (∀ v,BW w v->qi 66 #[.agg #[qzI kd,qf ao fs.length cap]] v (qp (.tuple #[qd (Qc fs).1,qzI (Qc fs).2]) v)):=λv b=>lV kd ao cap fs v (hz.below b) hn hd
 have g4:(Cb fs 24).length<=1099511627776:=by have:=Is (n:=24) hd;omega
 have a9:(Cb fs 37).length<=1048576:=Is (n:=37) hd
 have b8:qj (∀ v,qi 60 #[qd (Cb fs 24)] v (qr (qzI (Dr (Cb fs 24))) v)):=λv=>jW _ v g4
 have p:qj (∀ v,qi 63 #[qd (Cb fs 37)] v λe w'=>∃ a k,e=.returned (qf a (Ad (Cb fs 37)).length k)/\w'.ownsRow v.heap.size 9 1 (qf a (Ad (Cb fs 37)).length k) (Ad (Cb fs 37)).length (At (Ad (Cb fs 37)))/\BW v w'):=λv=>Ms _ v a9
 have g9:=Aa d6
 by_cases u:Cx kd fs=false
 ·have j:qj (Uh kd fs=([],1)):=if_pos u
  rw [u] at d4;obtain ⟨S,hS⟩:=Ae (Uh kd fs);rw [hS] at j ⊢;clear I l y B T b8 p g4 a9 hz hn hd d6 hS u
  go_enter func25,ntmps25
  go_wp2_with fail
  refine (d4.o _ g9.o).m ?_;rintro e u1 ⟨rfl,b1⟩;have G:=Aa (next g9.o b1);clear b1;go_wp2;go_ret2
  exact ⟨by rw [j.o];rfl,G.o⟩
 have b0:Cx kd fs=true:=by cases h:Cx kd fs;exact absurd h u;rfl
 have l4:0<=kd/\kd<=9999:=by unfold Cx at b0;simp only [jf,decide_eq_true_eq] at b0;exact b0.1
 have g3:-1<=Dr (Cb fs 24)/\Dr (Cb fs 24)<=9999:=dJ b0;rw [b0] at d4
 have a8:qj (Uh kd fs=if kd=1100 then Yc fs else
  if 10000*kd+Dr (Cb fs 24)=12400200 then fF fs else if 10000*kd+Dr (Cb fs 24)=16440603 then Dx fs [97,115,107] 0 0 else if 10000*kd+Dr (Cb fs 24)=16440605 then Dx fs [103,105,118,101] 0 0
 else if 10000*kd+Dr (Cb fs 24)=14420450 then Dx fs [99,104,97,114,103,101] (Bu fs 4) (Bu fs 25) else if 10000*kd+Dr (Cb fs 24)=12400205 then Dx fs [97,110,115,119,101,114] (Bu fs 4) 0
 else if 10000*kd+Dr (Cb fs 24)=14420451 then Dx fs [115,101,99,111,110,100] (Bu fs 4) 0 else if 10000*kd+Dr (Cb fs 24)=17400700 then Qc fs else ([],1)):=if_neg u
 obtain ⟨S,hS⟩:=Ae (Uh kd fs);rw [hS] at a8 ⊢;obtain ⟨j0,d7⟩:=Ae (Cb fs 24)
 have d2:qj (∀ v,BW w v->qi 59 #[.agg #[qzI kd,qf ao fs.length cap],qzI 24] v (qp (.tuple #[qd j0,.bool (Du fs 24)]) v)):=λv b=>by have:=I.o 24 v b;rw [d7] at this;exact this
 obtain ⟨l3,h3⟩:=Ae (Du fs 24);rw [h3] at d2;rw [d7] at b8 a8 g3;obtain ⟨CD,j5⟩:=Ae (Dr j0);rw [j5] at b8 a8 g3
 have l1:IntKind.i64.wrap (10000*kd)=10000*kd:=by have:=@Tg.wrapI (10000*kd);exact this (by omega) (by omega)
 have j9:IntKind.i64.wrap (10000*kd+CD)=10000*kd+CD:=Afb (by omega) (by omega)
 obtain ⟨K,hK⟩:=Ae (10000*kd+CD);have j4:=Aa hK;rw [hK] at a8;have l2:=j9.t hK;clear hS d7 h3 j5 u b0 g4 hz hn hd d6 j9 g3;clear hK
 go_enter func25,ntmps25
 go_wp2_with fail
 refine (d4.o _ g9.o).m ?_;rintro e u1 ⟨rfl,b1⟩;obtain ⟨c0,c1,q1,-⟩:=Pr b1;have h4:=Aa q1;clear b1 q1 d4;go_wp2_with fail
 refine (d2.o _ h4.o).m ?_;rintro e u2 ⟨rfl,b2⟩;obtain ⟨d0,d1⟩:=Xh c0 c1 b2;have j1:=Aa (next h4.o b2);clear b2 c0 c1 d2 h4 g9;go_upto_region 4 with fail
 go_quiet (exact Calls.quiet_of_same (b8.o _))
 obtain ⟨V,g8⟩:=Ae (u2.drewN nq)
 have e0:V.cell? ⟨w.heap.size,0,none⟩=some (qzI kd):=by rw [<- g8];simpa [go_sem] using d0
 have e1:V.cell? ⟨w.heap.size,1,none⟩=some (qf ao fs.length cap):=by rw [<- g8];simpa [go_sem] using d1
 have f:qj (BW w V):=by rw [qj,<- g8];exact below_drewN j1.o _
 rw [g8];clear g8 d0 d1 j1 b8 l1 l2
 by_cases hk:kd=1100
 ·have d:qj (S=Yc fs):=by rw [qj,a8.o,if_pos hk]
  clear a8 j4 B T
  have d5:qj (Yc fs=if (((Du fs 37=false\/1<(Ad (Cb fs 37)).length)\/Da fs 2<0)\/Bu fs 49<0)\/Bu fs 4<0 then ([],2) else (U3 [97,117,116,104] (Cb fs 37) (Lib.itoa (Da fs 2)) (Lib.itoa (Bu fs 49)) (Lib.itoa (Bu fs 4)),0)):=rfl
  have L:=d.o.t d5.o;clear d d5;have bA:=@Tn fs 2;have bC:=@Hb fs 49;have bM:=@Hb fs 4;obtain ⟨A,hA⟩:=Ae (Da fs 2);obtain ⟨C,hC⟩:=Ae (Bu fs 49);obtain ⟨M,u⟩:=Ae (Bu fs 4)
  have s:qj (∀ v,BW w v->qi 61 #[.agg #[qzI kd,qf ao fs.length cap],qzI 2] v (qp (qzI A) v)):=by rw [<- hA];exact y.o 2
  have b5:qj (∀ v,BW w v->qi 62 #[.agg #[qzI kd,qf ao fs.length cap],qzI 49] v (qp (qzI C) v)):=by rw [<- hC];exact l.o 49
  have J:qj (∀ v,BW w v->qi 62 #[.agg #[qzI kd,qf ao fs.length cap],qzI 4] v (qp (qzI M) v)):=by rw [<- u];exact l.o 4
  rw [hA,hC,u] at L;rw [hA] at bA;rw [hC] at bC;rw [u] at bM;obtain ⟨D,hD⟩:=Ae (Cb fs 37);obtain ⟨H,hH⟩:=Ae (Du fs 37);rw [hD] at L p a9;rw [hH] at L
  have d3:qj (qi 59 #[.agg #[qzI kd,qf ao fs.length cap],qzI 37] V (qp (.tuple #[qd D,.bool H]) V)):=by rw [<- hD,<- hH];exact I.o 37 V f.o
  obtain ⟨WW,j7⟩:=Ae (Ad D);rw [j7] at p L;obtain ⟨wl,k0⟩:=Ae WW.length;rw [k0] at p L;have r:=Aa L
  have k9:(kd == 1100)=true:=by simpa using hk
  clear hk;clear hA hC u hD hH j7 k0 L I l y;go_wp2_with fail
  refine d3.o.m ?_;rintro e u4 ⟨rfl,b4⟩;have f0:=e0;have f1:=e1;clear e0 e1;obtain ⟨e0,e1⟩:=Xh f0 f1 b4;have b3:=Aa (next f.o b4);clear b4 f0 f1 d3 f;go_upto_region 7 with fail
  have a6:=Ec u4;have g0:=Ai e0;have g1:=Ai e1
  have H1:=Aa λ(z:Gj u4)=>s.o z.x (next b3.o z.h)
  have H2:=Aa λ(z:Gj u4)=>b5.o z.x (next b3.o z.h)
  have H3:=Aa λ(z:Gj u4)=>J.o z.x (next b3.o z.h)
  refine Aj (by kernel_rfl) (by kernel_rfl) ?_
  repeat (go_big_quiet_step (first|with_reducible exact Bi (H1.o _)|with_reducible exact Bi (H2.o _)|with_reducible exact Bi (H3.o _)))
  refine wpQuiet_nil ?_;rintro w6 ⟨⟨wz,b6⟩,a7⟩;subst a7;have q:=Aa (next b3.o b6);clear b6 g0 g1 a6 e0 e1 H1 H2 H3;clear s b5 J b3
  cases H
  ·have j:qj (S=([],2)):=by rw [qj,r.o,if_pos (by simp)]
   have G:=Aa q.o;clear r p;go_wp2;go_ret2
   exact ⟨by rw [j.o];rfl,G.o⟩
  ·have U:qj (S=if ((1<wl\/A<0)\/C<0)\/M<0 then ([],2) else (U3 [97,117,116,104] D (Lib.itoa A) (Lib.itoa C) (Lib.itoa M),0))  :=by rw [qj];have:=r.o;simpa using this
   clear r
   by_cases h1:1<wl
   ·have j:qj (S=([],2)):=by rw [qj,U.o,if_pos (by omega)]
    have h2:(1:Int)<(wl:Int):=by omega
    clear U h1;go_wp2_with fail
    refine (p.o _).m ?_;rintro e u7 ⟨sa,sk,rfl,ho,b7⟩;have G:=Aa (next q.o b7);clear ho b7 p;go_wp2;go_ret2
    exact ⟨by rw [j.o];rfl,G.o⟩
   have h2:¬ (1:Int)<(wl:Int):=by omega
   by_cases hbA:A<0
   ·have j:qj (S=([],2)):=by rw [qj,U.o,if_pos (by omega)]
    clear U h1;go_wp2_with fail
    refine (p.o _).m ?_;rintro e u7 ⟨sa,sk,rfl,ho,b7⟩;have G:=Aa (next q.o b7);clear ho b7 p;go_wp2;go_ret2
    exact ⟨by rw [j.o];rfl,G.o⟩
   by_cases hbC:C<0
   ·have j:qj (S=([],2)):=by rw [qj,U.o,if_pos (by omega)]
    clear U h1;go_wp2_with fail
    refine (p.o _).m ?_;rintro e u7 ⟨sa,sk,rfl,ho,b7⟩;have G:=Aa (next q.o b7);clear ho b7 p;go_wp2;go_ret2
    exact ⟨by rw [j.o];rfl,G.o⟩
   by_cases hbM:M<0
   ·have j:qj (S=([],2)):=by rw [qj,U.o,if_pos (by omega)]
    clear U h1;go_wp2_with fail
    refine (p.o _).m ?_;rintro e u7 ⟨sa,sk,rfl,ho,b7⟩;have G:=Aa (next q.o b7);clear ho b7 p;go_wp2;go_ret2
    exact ⟨by rw [j.o];rfl,G.o⟩
   have j:qj (S=(U3 [97,117,116,104] D (Lib.itoa A) (Lib.itoa C) (Lib.itoa M),0)):=by rw [qj,U.o,if_neg (by omega)]
   clear U h1;go_wp2_with fail
   refine (p.o _).m ?_;rintro e u7 ⟨sa,sk,rfl,ho,b7⟩;have G:=Aa (next q.o b7);clear ho b7 p
   have g5:=Ds (n:=A) (by omega) (by omega)
   have b9:=Aa λv=>Ef A v (by omega) (by omega)
   obtain ⟨TA,d8⟩:=Ae (Lib.itoa A);rw [d8] at g5 b9 j
   have g6:=Ds (n:=C) (by omega) (by omega)
   have c8:=Aa λv=>Ef C v (by omega) (by omega)
   obtain ⟨TC,d9⟩:=Ae (Lib.itoa C);rw [d9] at g6 c8 j
   have g7:=Ds (n:=M) (by omega) (by omega)
   have c9:=Aa λv=>Ef M v (by omega) (by omega)
   obtain ⟨TM,g2⟩:=Ae (Lib.itoa M);rw [g2] at g7 c9 j;obtain ⟨L1,W⟩:=Ae ([97,117,116,104,32]++D)
   have h6:=Ei [97,117,116,104,32] D (by (try simp only [qx,qy]);omega)
   rw [W] at h6
   have i3:L1.length<=4194304:=by rw [<- W,qv];(try simp only [qx,qy]);omega
   obtain ⟨L2,X⟩:=Ae (L1++[32])
   have h7:=Ei L1 [32] (by (try simp only [qx,qy]);omega)
   rw [X] at h7
   have i4:L2.length<=6291456:=by rw [<- X,qv];(try simp only [qx,qy]);omega
   obtain ⟨L3,Y⟩:=Ae (L2++TA)
   have h8:=Ei L2 TA (by (try simp only [qx,qy]);omega)
   rw [Y] at h8
   have i5:L3.length<=8388608:=by rw [<- Y,qv];(try simp only [qx,qy]);omega
   obtain ⟨L4,Z⟩:=Ae (L3++[32])
   have h9:=Ei L3 [32] (by (try simp only [qx,qy]);omega)
   rw [Z] at h9
   have i6:L4.length<=10485760:=by rw [<- Z,qv];(try simp only [qx,qy]);omega
   obtain ⟨L5,a3⟩:=Ae (L4++TC)
   have i0:=Ei L4 TC (by (try simp only [qx,qy]);omega)
   rw [a3] at i0
   have i7:L5.length<=12582912:=by rw [<- a3,qv];(try simp only [qx,qy]);omega
   obtain ⟨L6,a4⟩:=Ae (L5++[32])
   have i1:=Ei L5 [32] (by (try simp only [qx,qy]);omega)
   rw [a4] at i1
   have i8:L6.length<=14680064:=by rw [<- a4,qv];(try simp only [qx,qy]);omega
   obtain ⟨L7,a5⟩:=Ae (L6++TM)
   have i2:=Ei L6 TM (by (try simp only [qx,qy]);omega)
   rw [a5] at i2
   have i9:L7.length<=16777216:=by rw [<- a5,qv];(try simp only [qx,qy]);omega
   have h5:qj (S=(L7,0)):=by rw [qj,j.o,<- a5,<- a4,<- a3,<- Z,<- Y,<- X,<- W];rfl
   clear j i3 W i4 X i5 Y i6 Z i7 a3 i8 a4 i9 a5 g5 d8 g6 d9 g7 g2;go_wp2_with fail
   refine (b9.o _).m ?_;rintro e vA ⟨rfl,hu⟩;subst hu;go_wp2_with fail
   refine (c8.o _).m ?_;rintro e vC ⟨rfl,hu⟩;subst hu;go_wp2_with fail
   refine (c9.o _).m ?_;rintro e vM ⟨rfl,hu⟩;subst hu;go_wp2;go_ret2
   exact ⟨by rw [h5.o];rfl,G.o⟩
 have k9:(kd == 1100)=false:=by simpa using hk
 have c:=Aa (a8.o.t (if_neg hk));clear a8 hk p a9 j4
 by_cases k1:K=12400200
 ·have d:qj (S=fF fs):=by rw [qj,c.o,if_pos k1]
  clear c B T I
  have d5:qj (fF fs=if ((Da fs 2<0\/Da fs 93<0)\/Bu fs 49<0)\/Bu fs 4<0 then ([],2) else (U3 [112,97,121] (Lib.itoa (Da fs 2)) (Lib.itoa (Da fs 93)) (Lib.itoa (Bu fs 49)) (Lib.itoa (Bu fs 4)),0)):=rfl
  have L:=d.o.t d5.o;clear d d5;have bA:=@Tn fs 2;have bE:=@Tn fs 93;have bC:=@Hb fs 49;have bM:=@Hb fs 4;obtain ⟨A,hA⟩:=Ae (Da fs 2);obtain ⟨E,hE⟩:=Ae (Da fs 93);obtain ⟨C,hC⟩:=Ae (Bu fs 49);obtain ⟨M,u⟩:=Ae (Bu fs 4)
  have s:qj (∀ v,BW w v->qi 61 #[.agg #[qzI kd,qf ao fs.length cap],qzI 2] v (qp (qzI A) v)):=by rw [<- hA];exact y.o 2
  have j3:qj (∀ v,BW w v->qi 61 #[.agg #[qzI kd,qf ao fs.length cap],qzI 93] v (qp (qzI E) v)):=by rw [<- hE];exact y.o 93
  have b5:qj (∀ v,BW w v->qi 62 #[.agg #[qzI kd,qf ao fs.length cap],qzI 49] v (qp (qzI C) v)):=by rw [<- hC];exact l.o 49
  have J:qj (∀ v,BW w v->qi 62 #[.agg #[qzI kd,qf ao fs.length cap],qzI 4] v (qp (qzI M) v)):=by rw [<- u];exact l.o 4
  rw [hA,hE,hC,u] at L;rw [hA] at bA;rw [hE] at bE;rw [hC] at bC;rw [u] at bM;have r:=Aa L;subst k1;clear hA hE hC u L l y;go_upto_region 13 with fail
  have a6:=Ec V;have g0:=Ai e0;have g1:=Ai e1
  have H1:=Aa λ(z:Gj V)=>s.o z.x (next f.o z.h)
  have H4:=Aa λ(z:Gj V)=>j3.o z.x (next f.o z.h)
  have H2:=Aa λ(z:Gj V)=>b5.o z.x (next f.o z.h)
  have H3:=Aa λ(z:Gj V)=>J.o z.x (next f.o z.h)
  refine Aj (by kernel_rfl) (by kernel_rfl) ?_
  repeat (go_big_quiet_step (first|with_reducible exact Bi (H1.o _)|with_reducible exact Bi (H4.o _)|with_reducible exact Bi (H2.o _)|with_reducible exact Bi (H3.o _)))
  refine wpQuiet_nil ?_;rintro w6 ⟨⟨wz,b6⟩,a7⟩;subst a7;have q:=Aa (next f.o b6);clear b6 g0 g1 a6 e0 e1 H1 H4 H2 H3;have G:=Aa q.o;clear s j3 b5 J f q
  by_cases hbA:A<0
  ·have j:qj (S=([],2)):=by rw [qj,r.o,if_pos (by omega)]
   clear r;go_wp2;go_ret2
   exact ⟨by rw [j.o];rfl,G.o⟩
  by_cases hbE:E<0
  ·have j:qj (S=([],2)):=by rw [qj,r.o,if_pos (by omega)]
   clear r;go_wp2;go_ret2
   exact ⟨by rw [j.o];rfl,G.o⟩
  by_cases hbC:C<0
  ·have j:qj (S=([],2)):=by rw [qj,r.o,if_pos (by omega)]
   clear r;go_wp2;go_ret2
   exact ⟨by rw [j.o];rfl,G.o⟩
  by_cases hbM:M<0
  ·have j:qj (S=([],2)):=by rw [qj,r.o,if_pos (by omega)]
   clear r;go_wp2;go_ret2
   exact ⟨by rw [j.o];rfl,G.o⟩
  have j:qj (S=(U3 [112,97,121] (Lib.itoa A) (Lib.itoa E) (Lib.itoa C) (Lib.itoa M),0)):=by rw [qj,r.o,if_neg (by omega)]
  clear r
  have g5:=Ds (n:=A) (by omega) (by omega)
  have b9:=Aa λv=>Ef A v (by omega) (by omega)
  obtain ⟨TA,d8⟩:=Ae (Lib.itoa A);rw [d8] at g5 b9 j
  have j8:=Ds (n:=E) (by omega) (by omega)
  have j2:=Aa λv=>Ef E v (by omega) (by omega)
  obtain ⟨TE,j6⟩:=Ae (Lib.itoa E);rw [j6] at j8 j2 j
  have g6:=Ds (n:=C) (by omega) (by omega)
  have c8:=Aa λv=>Ef C v (by omega) (by omega)
  obtain ⟨TC,d9⟩:=Ae (Lib.itoa C);rw [d9] at g6 c8 j
  have g7:=Ds (n:=M) (by omega) (by omega)
  have c9:=Aa λv=>Ef M v (by omega) (by omega)
  obtain ⟨TM,g2⟩:=Ae (Lib.itoa M);rw [g2] at g7 c9 j;obtain ⟨L1,W⟩:=Ae ([112,97,121,32]++TA)
  have h6:=Ei [112,97,121,32] TA (by (try simp only [qx,qy]);omega)
  rw [W] at h6
  have i3:L1.length<=4194304:=by rw [<- W,qv];(try simp only [qx,qy]);omega
  obtain ⟨L2,X⟩:=Ae (L1++[32])
  have h7:=Ei L1 [32] (by (try simp only [qx,qy]);omega)
  rw [X] at h7
  have i4:L2.length<=6291456:=by rw [<- X,qv];(try simp only [qx,qy]);omega
  obtain ⟨L3,Y⟩:=Ae (L2++TE)
  have h8:=Ei L2 TE (by (try simp only [qx,qy]);omega)
  rw [Y] at h8
  have i5:L3.length<=8388608:=by rw [<- Y,qv];(try simp only [qx,qy]);omega
  obtain ⟨L4,Z⟩:=Ae (L3++[32])
  have h9:=Ei L3 [32] (by (try simp only [qx,qy]);omega)
  rw [Z] at h9
  have i6:L4.length<=10485760:=by rw [<- Z,qv];(try simp only [qx,qy]);omega
  obtain ⟨L5,a3⟩:=Ae (L4++TC)
  have i0:=Ei L4 TC (by (try simp only [qx,qy]);omega)
  rw [a3] at i0
  have i7:L5.length<=12582912:=by rw [<- a3,qv];(try simp only [qx,qy]);omega
  obtain ⟨L6,a4⟩:=Ae (L5++[32])
  have i1:=Ei L5 [32] (by (try simp only [qx,qy]);omega)
  rw [a4] at i1
  have i8:L6.length<=14680064:=by rw [<- a4,qv];(try simp only [qx,qy]);omega
  obtain ⟨L7,a5⟩:=Ae (L6++TM)
  have i2:=Ei L6 TM (by (try simp only [qx,qy]);omega)
  rw [a5] at i2
  have i9:L7.length<=16777216:=by rw [<- a5,qv];(try simp only [qx,qy]);omega
  have h5:qj (S=(L7,0)):=by rw [qj,j.o,<- a5,<- a4,<- a3,<- Z,<- Y,<- X,<- W];rfl
  clear j i3 W i4 X i5 Y i6 Z i7 a3 i8 a4 i9 a5 g5 d8 j8 j6 g6 d9 g7 g2;go_wp2_with fail
  refine (b9.o _).m ?_;rintro e vA ⟨rfl,hu⟩;subst hu;go_wp2_with fail
  refine (j2.o _).m ?_;rintro e vE ⟨rfl,hu⟩;subst hu;go_wp2_with fail
  refine (c8.o _).m ?_;rintro e vC ⟨rfl,hu⟩;subst hu;go_wp2_with fail
  refine (c9.o _).m ?_;rintro e vM ⟨rfl,hu⟩;subst hu;go_wp2;go_ret2
  exact ⟨by rw [h5.o];rfl,G.o⟩
 have n1:(K == 12400200)=false:=by simpa using k1
 have i:=Aa (c.o.t (if_neg k1));clear k1 c;have c:=Aa i.o;clear i
 by_cases k2:K=16440603
 ·have d:qj (S=Dx fs [97,115,107] 0 0):=by rw [qj,c.o,if_pos k2]
  subst k2;clear c y I T;go_wp2_with fail
  refine (B.o _ [97,115,107] 0 0 f.o (by decide) (by omega) (by omega)).m ?_
  rintro e u4 ⟨rfl,b4⟩;rw [<- d.o];have G:=Aa (next f.o b4);clear b4 d;go_wp2;go_ret2;exact ⟨rfl,G.o⟩
 have n2:(K == 16440603)=false:=by simpa using k2
 have i:=Aa (c.o.t (if_neg k2));clear k2 c;have c:=Aa i.o;clear i
 by_cases k3:K=16440605
 ·have d:qj (S=Dx fs [103,105,118,101] 0 0):=by rw [qj,c.o,if_pos k3]
  subst k3;clear c y I T;go_wp2_with fail
  refine (B.o _ [103,105,118,101] 0 0 f.o (by decide) (by omega) (by omega)).m ?_
  rintro e u4 ⟨rfl,b4⟩;rw [<- d.o];have G:=Aa (next f.o b4);clear b4 d;go_wp2;go_ret2;exact ⟨rfl,G.o⟩
 have n3:(K == 16440605)=false:=by simpa using k3
 have i:=Aa (c.o.t (if_neg k3));clear k3 c;have c:=Aa i.o;clear i
 by_cases k4:K=14420450
 ·have d:qj (S=Dx fs [99,104,97,114,103,101] (Bu fs 4) (Bu fs 25)):=by rw [qj,c.o,if_pos k4]
  subst k4;clear c y I T;have bM:=@Hb fs 4;obtain ⟨M,u⟩:=Ae (Bu fs 4)
  have J:qj (∀ v,BW w v->qi 62 #[.agg #[qzI kd,qf ao fs.length cap],qzI 4] v (qp (qzI M) v)):=by rw [<- u];exact l.o 4
  rw [u] at d bM;have bR:=@Hb fs 25;obtain ⟨R,hR⟩:=Ae (Bu fs 25)
  have k8:qj (∀ v,BW w v->qi 62 #[.agg #[qzI kd,qf ao fs.length cap],qzI 25] v (qp (qzI R) v)):=by rw [<- hR];exact l.o 25
  rw [hR] at d bR
  have s:qj (∀ v,BW w v->qi 65 #[.agg #[qzI kd,qf ao fs.length cap],.string ⟨[99,104,97,114,103,101].toArray⟩,qzI M,qzI R] v (qp (.tuple #[qd (S).1,qzI (S).2]) v)):=λv b=>by rw [d.o];exact B.o v [99,104,97,114,103,101] M R b (by decide) (by omega) (by omega)
  clear B l u d hR;obtain ⟨S1,N⟩:=Ae S.1;obtain ⟨S2,O⟩:=Ae S.2;rw [N,O] at s;have F:qj (S.1=S1/\S.2=S2):=⟨N,O⟩;clear N O;go_upto_region 22 with fail
  have a6:=Ec V;have g0:=Ai e0;have g1:=Ai e1
  have H3:=Aa λ(z:Gj V)=>J.o z.x (next f.o z.h)
  have H4:=Aa λ(z:Gj V)=>k8.o z.x (next f.o z.h)
  have H5:=Aa λ(z:Gj V)=>s.o z.x (next f.o z.h)
  refine Aj (by kernel_rfl) (by kernel_rfl) ?_
  repeat (go_big_quiet_step (first|with_reducible exact Bi (H3.o _)|with_reducible exact Bi (H4.o _)|with_reducible exact Bi (H5.o _)))
  refine wpQuiet_nil ?_;rintro w6 ⟨⟨wz,b6⟩,a7⟩;subst a7;have q:=Aa (next f.o b6);clear b6 g0 g1 a6 e0 e1 H3 H4 H5;go_wp2;go_ret2
  exact ⟨by rw [F.o.1,F.o.2];rfl,q.o⟩
 have n4:(K == 14420450)=false:=by simpa using k4
 have i:=Aa (c.o.t (if_neg k4));clear k4 c;have c:=Aa i.o;clear i
 by_cases k5:K=12400205
 ·have d:qj (S=Dx fs [97,110,115,119,101,114] (Bu fs 4) 0):=by rw [qj,c.o,if_pos k5]
  subst k5;clear c y I T;have bM:=@Hb fs 4;obtain ⟨M,u⟩:=Ae (Bu fs 4)
  have J:qj (∀ v,BW w v->qi 62 #[.agg #[qzI kd,qf ao fs.length cap],qzI 4] v (qp (qzI M) v)):=by rw [<- u];exact l.o 4
  rw [u] at d bM
  have s:qj (∀ v,BW w v->qi 65 #[.agg #[qzI kd,qf ao fs.length cap],.string ⟨[97,110,115,119,101,114].toArray⟩,qzI M,qzI 0] v (qp (.tuple #[qd (S).1,qzI (S).2]) v)):=λv b=>by rw [d.o];exact B.o v [97,110,115,119,101,114] M 0 b (by decide) (by omega) (by omega)
  clear B l u d;obtain ⟨S1,N⟩:=Ae S.1;obtain ⟨S2,O⟩:=Ae S.2;rw [N,O] at s;have F:qj (S.1=S1/\S.2=S2):=⟨N,O⟩;clear N O;go_upto_region 24 with fail
  have a6:=Ec V;have g0:=Ai e0;have g1:=Ai e1
  have H3:=Aa λ(z:Gj V)=>J.o z.x (next f.o z.h)
  have H5:=Aa λ(z:Gj V)=>s.o z.x (next f.o z.h)
  refine Aj (by kernel_rfl) (by kernel_rfl) ?_
  repeat (go_big_quiet_step (first|with_reducible exact Bi (H3.o _)|with_reducible exact Bi (H5.o _)))
  refine wpQuiet_nil ?_;rintro w6 ⟨⟨wz,b6⟩,a7⟩;subst a7;have q:=Aa (next f.o b6);clear b6 g0 g1 a6 e0 e1 H3 H5;go_wp2;go_ret2
  exact ⟨by rw [F.o.1,F.o.2];rfl,q.o⟩
 have n5:(K == 12400205)=false:=by simpa using k5
 have i:=Aa (c.o.t (if_neg k5));clear k5 c;have c:=Aa i.o;clear i
 by_cases k6:K=14420451
 ·have d:qj (S=Dx fs [115,101,99,111,110,100] (Bu fs 4) 0):=by rw [qj,c.o,if_pos k6]
  subst k6;clear c y I T;have bM:=@Hb fs 4;obtain ⟨M,u⟩:=Ae (Bu fs 4)
  have J:qj (∀ v,BW w v->qi 62 #[.agg #[qzI kd,qf ao fs.length cap],qzI 4] v (qp (qzI M) v)):=by rw [<- u];exact l.o 4
  rw [u] at d bM
  have s:qj (∀ v,BW w v->qi 65 #[.agg #[qzI kd,qf ao fs.length cap],.string ⟨[115,101,99,111,110,100].toArray⟩,qzI M,qzI 0] v (qp (.tuple #[qd (S).1,qzI (S).2]) v)):=λv b=>by rw [d.o];exact B.o v [115,101,99,111,110,100] M 0 b (by decide) (by omega) (by omega)
  clear B l u d;obtain ⟨S1,N⟩:=Ae S.1;obtain ⟨S2,O⟩:=Ae S.2;rw [N,O] at s;have F:qj (S.1=S1/\S.2=S2):=⟨N,O⟩;clear N O;go_upto_region 26 with fail
  have a6:=Ec V;have g0:=Ai e0;have g1:=Ai e1
  have H3:=Aa λ(z:Gj V)=>J.o z.x (next f.o z.h)
  have H5:=Aa λ(z:Gj V)=>s.o z.x (next f.o z.h)
  refine Aj (by kernel_rfl) (by kernel_rfl) ?_
  repeat (go_big_quiet_step (first|with_reducible exact Bi (H3.o _)|with_reducible exact Bi (H5.o _)))
  refine wpQuiet_nil ?_;rintro w6 ⟨⟨wz,b6⟩,a7⟩;subst a7;have q:=Aa (next f.o b6);clear b6 g0 g1 a6 e0 e1 H3 H5;go_wp2;go_ret2
  exact ⟨by rw [F.o.1,F.o.2];rfl,q.o⟩
 have n6:(K == 14420451)=false:=by simpa using k6
 have i:=Aa (c.o.t (if_neg k6));clear k6 c;have c:=Aa i.o;clear i
 by_cases k7:K=17400700
 ·have d:qj (S=Qc fs):=by rw [qj,c.o,if_pos k7]
  subst k7;clear c y I B l;go_wp2_with fail
  refine (T.o _ f.o).m ?_;rintro e u4 ⟨rfl,b4⟩;rw [<- d.o];have G:=Aa (next f.o b4);clear b4 d;go_wp2;go_ret2;exact ⟨rfl,G.o⟩
 have n7:(K == 17400700)=false:=by simpa using k7
 have i:=Aa (c.o.t (if_neg k7));clear k7 c;have c:=Aa i.o;clear i;have j:=Aa c.o;clear c y I B l T;go_wp2;go_ret2
 exact ⟨by rw [j.o];rfl,f.o⟩
end Go.Proofs.YtfpafnefpmmofaaGreatDoor
