import Derived.Test.YtfpafnefpmmofaaGreatDoorKWBase
import Derived.Deep.SlicePairs
import Derived.Test.YtfpafnefpmmofaaGreatDoorJW0b
import Derived.Lib.AppendZeros
import Derived.Lib.SmallJoins
set_option maxRecDepth 100000
set_option maxHeartbeats 12800000
namespace Go.Proofs.YtfpafnefpmmofaaGreatDoor
open Go.ChangeShapes Go.WideShapes Go.ChangeAt Go.RowKit Go.Deep Go.Proofs.Tryz
def Xq (fs:List Av):Prop:=fs.length<=maxLen/\∀ f ∈ fs,f.2.length<=maxLen
def Aw (w:ql) (ao:qm) (fs:List Av):Prop :=
 fs=[]\/∃ b off,ao=some (qzA b off)/\b<w.heap.size/\∀ i,i<fs.length ->
  w.cell? (qzA b (off+i*2))=some (qzI (Dn fs i).1)/\w.cell? (qzA b (off+i*2+1))=some (qd (Dn fs i).2)
theorem Aw.below {w w':ql} {ao:qm} {fs:List Av} (h:Aw w ao fs) (hb:BW w w'):Aw w' ao fs:=by
 rcases h with h|⟨b,off,g,a,d⟩
 ·exact .inl h
 ·exact .inr ⟨b,off,g,jd a hb.size,λi hi=>⟨(hb.c b (off+i*2) a).t (d i hi).1,(hb.c b (off+i*2+1) a).t (d i hi).2⟩⟩
end Go.Proofs.YtfpafnefpmmofaaGreatDoor
namespace Go.Proofs.YtfpafnefpmmofaaGreatDoor
open Go.RowKit Go.Proofs.Tryz
def Ev:List Av->Int->Int
 | [],left=>left
 | f::r,left=>if left - (f.2.length:Int)<0 then -1 else Ev r (left - (f.2.length:Int))
def Dz (fs:List Av) (left:Int):Int:=if left - (fs.length:Int)<0 then -1 else Ev fs (left - (fs.length:Int))
theorem fY (fs:List Av) (k:Nat) (left:Int) (h:k<fs.length):Ev (fs.drop k) left=if left - ((Dn fs k).2.length:Int)<0 then -1 else Ev (fs.drop (k+1)) (left - ((Dn fs k).2.length:Int)):=by
 have e:Dn fs k=fs[k]:=by simp [Dn,h]
 rw [jc h,e];rfl
def Gs (fs:List Av):Nat:=(fs.map λf=>f.2.length).sum
theorem jY (fs:List Av):∀ left,0<=Ev fs left->0<=left->(Gs fs:Int)<=left:=by
 induction fs with
 | nil=>intro left _ h;simpa [Gs] using h
 | cons f r ih =>
  intro left h b
  simp only [Ev] at h
  split at h
  ·omega
  ·have:=ih _ h (by omega)
   simp only [Gs,List.map_cons,List.sum_cons] at this ⊢
   omega
theorem tH {fs:List Av} {left:Int} (h:0<=Dz fs left):(fs.length:Int)+Gs fs<=left:=by
 unfold Dz at h
 split at h
 ·omega
 ·have:=jY fs _ h (by omega)
  omega
theorem Abd {fs:List Av} {f:Av} (h:f ∈ fs):f.2.length<=Gs fs:=by
 induction fs with
 | nil=>cases h
 | cons g r ih =>
  simp only [Gs,List.map_cons,List.sum_cons] at ih ⊢
  rcases List.mem_cons.1 h with rfl|a
  ·omega
  ·have:=ih a;omega
theorem Mq {fs:List Av} {k:Nat} (h:k<fs.length):Dn fs k ∈ fs:=by
 have e:Dn fs k=fs[k]:=by simp [Dn,h]
 rw [e];exact List.getElem_mem h
theorem kU {fs:List Av} {k n:Nat} (h:k<fs.length) (hs:Gs fs<=n):(Dn fs k).2.length<=n:=jk (Abd (Mq h)) hs
theorem Ja {w w':ql} {base n size:Nat} {t:TypeId} {v:Value} {A:List Value} (h:w.ownsRow base t size v n A) (hb:BW w w'):w'.ownsRow base t size v n A:=by
 obtain ⟨D,F⟩:=h;refine ⟨D,?_⟩
 rcases F with h|⟨g,cap,B,C,y,O,a1,a2,U,V⟩
 ·exact .inl h
 ·have d:=(Array.getElem?_eq_some_iff.1 O).1
  exact .inr ⟨g,cap,B,C,y,(hb.block g d).t O,a1,a2,U,V⟩
theorem dB {w:ql} {base n size:Nat} {t:TypeId} {v:Value} {A:List Value} (h:w.ownsRow base t size v n A) (p:Addr) (u:Value) (hp:∀ g,v.ownBlock=some g->g≠p.block):(w.setCell p u).ownsRow base t size v n A:=by
 obtain ⟨D,F⟩:=h;refine ⟨D,?_⟩
 rcases F with h|⟨g,cap,B,C,y,O,a1,a2,U,V⟩
 ·exact .inl h
 ·exact .inr ⟨g,cap,B,C,y,(Below.heap_setCell w p u g (hp g (by rw [C];rfl))).t O,a1,a2,U,V⟩
theorem Yj {w:ql} {base base' n size:Nat} {t:TypeId} {v:Value} {A:List Value} (h:w.ownsRow base t size v n A) (hb:base'<=base):w.ownsRow base' t size v n A:=by
 obtain ⟨D,F⟩:=h;refine ⟨D,?_⟩
 rcases F with h|⟨g,cap,B,C,y,r⟩
 ·exact .inl h
 ·exact .inr ⟨g,cap,B,C,jk hb y,r⟩
def Af5 (f:Av):List Value:=[qzI f.1,qd f.2]
def Bt (fs:List Av):List Value:=fs.flatMap Af5
theorem Nv (f:Av) (r:List Av):Bt (f::r)=qzI f.1::qd f.2::Bt r:=rfl
theorem Qe (a b:List Av):Bt (a++b)=Bt a++Bt b:=by simp [Bt]
theorem Jw (fs:List Av):(Bt fs).length=fs.length*2:=by
 induction fs with
 | nil=>rfl
 | cons f r ih=>rw [Nv];simp [ih];omega
theorem Lr (fs:List Av):∀ k,k<fs.length->(Bt fs)[k*2]?=some (qzI (Dn fs k).1)/\(Bt fs)[k*2+1]?=some (qd (Dn fs k).2):=by
 induction fs with
 | nil=>intro k h;simp at h
 | cons f r ih =>
  intro k h;rw [Nv]
  cases k with
  | zero=>exact ⟨rfl,rfl⟩
  | succ k =>
   have:=ih k (by simpa using h)
   rw [show (k+1) * 2=k*2+1+1 by omega,je,je,je,je]
   exact this
theorem Xe (fs:List Av) (f:Av):∀ k,k<fs.length->((Bt fs).set (k*2) (qzI f.1)).set (k*2+1) (qd f.2)=Bt (fs.set k f):=by
 induction fs with
 | nil=>intro k h;simp at h
 | cons g r ih =>
  intro k h;rw [Nv]
  cases k with
  | zero=>rfl
  | succ k =>
   have:=ih k (by simpa using h)
   rw [show (k+1) * 2=k*2+1+1 by omega,List.set_cons_succ,List.set_cons_succ,List.set_cons_succ,List.set_cons_succ,this]
   rfl
theorem kF (fs:List Av):∀ u ∈ Bt fs,u.oneCell'=true:=by
 intro u Z
 simp only [Bt,List.mem_flatMap,Af5] at Z
 obtain ⟨f,_,H⟩:=Z
 simp at H
 rcases H with rfl|rfl <;> rfl
theorem Ud {w:ql} {base g n cap:Nat} {t:TypeId} {fs:List Av} (h:w.ownsRow base t 2 (qf (some (qzA g 0)) n cap) n (Bt fs)):Aw w (some (qzA g 0)) fs:=by
 have S:=h.1;rw [Jw] at S
 by_cases h0:fs=[]
 ·exact .inl h0
 ·have d:=(h.lt g rfl).2
  refine .inr ⟨g,0,rfl,d,λi hi=>?_⟩
  have:=Lr fs i hi
  rw [qu,h.cellAt (i*2) (by omega),h.cellAt (i*2+1) (by omega)]
  exact this
theorem I6 {w:ql} {base n:Nat} {t:TypeId} {v:Value} {fs:List Av} (h:w.ownsRow base t 2 v n (Bt fs)):∃ ao cap,v=qf ao fs.length cap/\Aw w ao fs/\n=fs.length:=by
 have hn:n=fs.length:=by have:=h.1;rw [Jw] at this;omega
 subst hn
 rcases h.2 with ⟨rfl,hn⟩|⟨g,cap,B,rfl,_⟩
 ·have:fs=[]:=qz hn
  subst this;exact ⟨none,0,rfl,.inl rfl,rfl⟩
 ·exact ⟨_,cap,rfl,Ud h,rfl⟩
def Jp (fs:List Av) (k:Nat):List Av:=fs.take k++List.replicate (fs.length - k) (0,[])
theorem uP (fs:List Av):Jp fs fs.length=fs:=by simp [Jp]
theorem aU (fs:List Av) (k:Nat) (h:k<=fs.length):(Jp fs k).length=fs.length:=by simp [Jp];omega
theorem mQ (fs:List Av) (k:Nat) (h:k<fs.length):(Jp fs k).set k (Dn fs k)=Jp fs (k+1):=by
 have e:Dn fs k=fs[k]:=by simp [Dn,h]
 unfold Jp
 rw [List.set_append,if_neg (by simp;omega),List.length_take,Nat.min_eq_left (jb h),Nat.sub_self,show fs.length - k=fs.length - (k+1)+1 by omega,List.replicate_succ,List.set_cons_zero,List.take_succ_eq_append_getElem h,e,List.append_assoc]
 rfl
theorem Abg (fs:List Av) (k:Nat) (h:k<fs.length):Dn (Jp fs k) k=(0,[]):=by
 simp [Dn,Jp,List.getElem?_append,Nat.min_eq_left (jb h),List.getElem?_replicate]
 split <;> rfl
theorem fD:(prog.info? 136).map (λi=>(i.zero,i.size,i.bytes))=some (some (.agg #[qzI 0,.string ⟨#[]⟩]),2,24):=by kernel_rfl
theorem tB (m:Nat):(madeCells (Value.agg #[qzI 0,.string ⟨#[]⟩]).cells (m*2)).toList=Bt (List.replicate m (0,[])):=by
 apply List.ext_getElem?;intro j
 by_cases hj:j<m*2
 ·have hq:j / 2<(List.replicate m ((0:Int),([]:qn))).length:=by simp;omega
  have ha:Dn (List.replicate m ((0:Int),([]:qn))) (j / 2)=(0,[]):=by
   simp [Dn,List.getElem?_replicate];split <;> rfl
  have h:=Lr _ _ hq;rw [ha] at h
  have S:(madeCells (Value.agg #[qzI 0,.string ⟨#[]⟩]).cells (m*2)).toList[j]?=some ((#[Value.int .i64 0,.string ⟨#[]⟩]:Array Value)[j % 2]!):=by
   simp [madeCells,hj,Value.cells]
  rcases Nat.mod_two_eq_zero_or_one j with e|e
  ·rw [S,e,show j=j / 2*2 by omega,h.1];rfl
  ·rw [S,e,show j=j / 2*2+1 by omega,h.2];rfl
 ·rw [jl (by rw [Array.length_toList,size_madeCells];omega),jl (by rw [Jw];simp;omega)]
theorem dG (ao:qm) (cap:Nat) (fs:List Av) (w:ql) (hz:Aw w ao fs) (hn:fs.length<=1048576) :
  qi 71 #[qf ao fs.length cap] w λe w'=>e=.returned (qf (some ⟨w.heap.size,0,none⟩) fs.length fs.length) /\
   w'.ownsRow w.heap.size 136 2 (qf (some ⟨w.heap.size,0,none⟩) fs.length fs.length) fs.length (Bt fs)/\BW w w':=by
 obtain ⟨i0,hi,J,L,M⟩:=info_parts fD;have I:=tB fs.length
 rcases hz with rfl|⟨b,off,rfl,hb,x⟩
 ·go_enter func71,ntmps71
  go_wp2_with (refine wpList_make_full _ rfl (.tmp 6) (.tmp 6) 66 rfl w.heap.size 136 i0 _ 2 underlying66 hi J L .i64 .i64 _ _ 0 rfl rfl rfl rfl (by rw [M];omega) (by unfold maxLen;omega) nL ?_;intro w1 l y)
  refine wp_loop_rounds 1 ?_;rw [rounds_succ];go_wp2;go_ret
  exact ⟨rfl,by simpa [madeCells,Bt] using l,bR.grown y nL (λk hk=>by cases hk)⟩
 ·have W:=Aa x
  clear x
  go_enter func71,ntmps71
  go_wp2_with (refine wpList_make_full _ rfl (.tmp 6) (.tmp 6) 66 rfl w.heap.size 136 i0 _ 2 underlying66 hi J L .i64 .i64 _ _ fs.length rfl rfl rfl rfl (by rw [M];omega) (by unfold maxLen;omega) nL ?_;intro w1 l y)
  rw [I,show List.replicate fs.length ((0:Int),([]:qn))=Jp fs 0 from by simp [Jp]] at l
  have G:=bR.grown y nL (λk hk=>by cases hk)
  clear I y
  go_loopw [4] (λi wr=>∃ k:Nat,k<=fs.length/\i=qzI k/\wr.ownsRow w.heap.size 136 2 (qf (some ⟨w.heap.size,0,none⟩) fs.length fs.length) fs.length (Bt (Jp fs k))/\BW w wr) (λi _=>fs.length - (intOf i).toNat)
  case atStart=>exact ⟨0,qw _,rfl,l,G⟩
  case round =>
   obtain ⟨k,hk,rfl,ho,q⟩:=hrel;clear l G
   by_cases d:k<fs.length
   ·have c1:=(q.c b (off+k*2) hb).t (W.o k d).1
    have c2:=(q.c b (off+k*2+1) hb).t (W.o k d).2
    have a5:(k:Int)<(fs.length:Int):=by omega
    have X:=Aa (mQ fs k d)
    have T:=Aa (Xe (Jp fs k) (Dn fs k) k (by rw [aU fs k hk];exact d))
    obtain ⟨⟨n,s⟩,H⟩:∃ f,Dn fs k=f:=⟨_,rfl⟩;rw [H] at c1 c2 X T
    simp only at c1 c2 T
    have HO:=Aa ho;have HA:=Aa (Abg fs k d);clear H ho;go_wp2_with fail
    refine (eS _ _ _).m ?_;rintro e N ⟨rfl,Y⟩;have ho:=Ja HO.o Y
    have z:=Lr (Jp fs k) k (by rw [aU fs k hk];exact d)
    rw [HA.o] at z
    have c3:N.cell? ⟨w.heap.size,k*2,none⟩=some (qzI 0):=by rw [ho.cellAt (k*2) (by omega)];exact z.1
    have c4:N.cell? ⟨w.heap.size,k*2+1,none⟩=some (.string ⟨#[]⟩):=by rw [ho.cellAt (k*2+1) (by omega)];exact z.2
    have c5:N.frozen? ⟨w.heap.size,k*2,none⟩=false:=ho.frozenAt _;have c6:N.frozen? ⟨w.heap.size,k*2+1,none⟩=false:=ho.frozenAt _
    have HR:qj (((N.setCell ⟨w.heap.size,k*2,none⟩ (qzI n)).setCell ⟨w.heap.size,k*2+1,none⟩ (qd s)).ownsRow w.heap.size 136 2 (qf (some ⟨w.heap.size,0,none⟩) fs.length fs.length) fs.length (Bt (Jp fs (k+1)))):=by
     have R:=((ho.stored (k*2) (qzI n)).1.stored (k*2+1) (qd s)).1;rw [T.o,X.o] at R;exact R
    clear ho z;go_wp2
    go_roundw
    case rel=>exact ⟨k+1,by omega,by go_num,HR.o,((q.t (Y.m q.size)).setCell nL _).setCell nL _⟩
    case measure=>simp [intOf];omega
   ·have:k=fs.length:=by omega
    subst this;rw [uP] at ho;go_wp2;go_ret;exact ⟨rfl,ho,q⟩
namespace Tg
def fOf:List Av->Int->Option qn
 | [],_=>none
 | f::r,n=>if f.1=n then some f.2 else fOf r n
theorem Nm (fs:List Av) (k:Nat) (n:Int) (h:k<fs.length):fOf (fs.drop k) n=if (Dn fs k).1=n then some (Dn fs k).2 else fOf (fs.drop (k+1)) n:=by
 have e:Dn fs k=fs[k]:=by simp [Dn,h]
 rw [jc h,e];rfl
theorem iTagOf_any (ao:qm) (cap:Nat) (fs:List Av) (num:Int) (w:ql) (z:Aw w ao fs) (hn:fs.length<=4194304) (hd:∀ f ∈ fs,f.2.length<=1099511627776) :
  qi 242 #[qf ao fs.length cap,qzI num] w (qp (.tuple #[qd ((fOf fs num).getD []),.bool (fOf fs num).isSome]) w):=by
 rcases z with rfl|⟨b,off,rfl,hb,g⟩
 ·go_enter func242,ntmps242
  go_wp2;refine wp_loop_rounds 1 ?_;rw [rounds_succ];go_wp2;go_ret2;exact ⟨rfl,bR⟩
 ·have u:=Aa g
  clear g
  go_enter func242,ntmps242
  go_wp2
  go_loopw [10] (λi wr=>∃ k:Nat,k<=fs.length/\i=qzI k/\fOf fs num=fOf (fs.drop k) num/\BW w wr) (λi _=>fs.length - (intOf i).toNat)
  case atStart=>exact ⟨0,qw _,rfl,rfl,bR⟩
  case round =>
   obtain ⟨k,hk,rfl,a,j⟩:=hrel
   by_cases hlt:k<fs.length
   ·have c1:=(j.c b (off+k*2) hb).t (u.o k hlt).1
    have c2:=(j.c b (off+k*2+1) hb).t (u.o k hlt).2
    have y:(k:Int)<(fs.length:Int):=by omega
    have d:=Nm fs k num hlt;have v:=hd _ (Mq hlt);obtain ⟨⟨n,s⟩,x⟩:∃ f,Dn fs k=f:=⟨_,rfl⟩;rw [x] at c1 c2 d v
    simp only at c1 c2 d v
    clear x
    have C:s.length<=1099511627776:=by omega
    by_cases hq:n=num
    ·have l:qj (fOf fs num=some s):=by rw [qj,a,d,if_pos hq]
     have q:(n == num)=true:=by simpa using hq
     clear d a hq;go_wp2_with fail
     refine (Lq s _ C).m ?_;rintro e D ⟨rfl,A⟩
     have B:=(j.alloc j.size (.cells #[qzI n,qd s] 211)).t (A.m (by have:=j.size;simp;omega))
     clear A;go_wp2;go_ret2
     exact ⟨Fz (by rw [l.o];rfl) (by rw [l.o];rfl),B⟩
    ·have l:qj (fOf fs num=fOf (fs.drop (k+1)) num):=by rw [qj,a,d,if_neg hq]
     have q:(n == num)=false:=by simpa using hq
     clear d a hq;go_wp2
     go_roundw
     case rel=>exact ⟨k+1,by omega,by go_num,l.o,j.alloc j.size _⟩
     case measure=>simp [intOf];omega
   ·have p:k=fs.length:=by omega
    subst p
    have l:qj (fOf fs num=none):=by rw [qj,a,ji nL];rfl
    clear a;go_wp2;go_ret2
    exact ⟨Fz (by rw [l.o];rfl) (by rw [l.o];rfl),j⟩
theorem sTagOf_any (ao:qm) (cap:Nat) (fs:List Av) (num:Int) (w:ql) (z:Aw w ao fs) (hn:fs.length<=4194304) :
  qi 116 #[qf ao fs.length cap,qzI num] w (qp (.tuple #[qd ((fOf fs num).getD []),.bool (fOf fs num).isSome]) w):=by
 rcases z with rfl|⟨b,off,rfl,hb,g⟩
 ·go_enter func116,ntmps116
  go_wp2;refine wp_loop_rounds 1 ?_;rw [rounds_succ];go_wp2;go_ret2;exact ⟨rfl,bR⟩
 ·have u:=Aa g
  clear g
  go_enter func116,ntmps116
  go_wp2
  go_loop [6] (λi=>∃ k:Nat,k<=fs.length/\i=qzI k/\fOf fs num=fOf (fs.drop k) num) (λi=>fs.length - (intOf i).toNat)
  case atStart=>exact ⟨0,qw _,rfl,rfl⟩
  case round =>
   obtain ⟨k,hk,rfl,a⟩:=hrel
   by_cases hlt:k<fs.length
   ·have c1:=(u.o k hlt).1
    have c2:=(u.o k hlt).2
    have y:(k:Int)<(fs.length:Int):=by omega
    have d:=Nm fs k num hlt;obtain ⟨⟨n,s⟩,x⟩:∃ f,Dn fs k=f:=⟨_,rfl⟩;rw [x] at c1 c2 d
    simp only at c1 c2 d
    clear x
    by_cases hq:n=num
    ·have l:qj (fOf fs num=some s):=by rw [qj,a,d,if_pos hq]
     have q:(n == num)=true:=by simpa using hq
     clear d a hq;go_wp2;go_ret2
     exact ⟨Fz (by rw [l.o];rfl) (by rw [l.o];rfl),bR⟩
    ·have l:qj (fOf fs num=fOf (fs.drop (k+1)) num):=by rw [qj,a,d,if_neg hq]
     have q:(n == num)=false:=by simpa using hq
     clear d a hq;go_wp2
     go_round
     case rel=>exact ⟨k+1,by omega,by go_num,l.o⟩
     case measure=>simp [intOf];omega
   ·have p:k=fs.length:=by omega
    subst p
    have l:qj (fOf fs num=none):=by rw [qj,a,ji nL];rfl
    clear a;go_wp2;go_ret2
    exact ⟨Fz (by rw [l.o];rfl) (by rw [l.o];rfl),bR⟩
end Tg
end Go.Proofs.YtfpafnefpmmofaaGreatDoor
namespace Go.Proofs.YtfpafnefpmmofaaGreatDoor
open Go.ChangeShapes Go.WideShapes Go.ChangeAt Go.RowKit Go.Deep Go.Proofs.Tryz
def Bw (w:ql) (ao:qm) (rs:Bn):Prop :=
 rs=[]\/∃ b off,ao=some (qzA b off)/\b<w.heap.size/\∀ i,i<rs.length->w.cell? (qzA b (off+i))=some (qd (Ao rs i))
def eD (rs:Bn):Prop:=rs.length<=maxLen/\∀ r ∈ rs,r.length<=maxLen
theorem Bw.below {w w':ql} {ao:qm} {rs:Bn} (h:Bw w ao rs) (hb:BW w w'):Bw w' ao rs:=by
 rcases h with h|⟨b,off,s,p,F⟩
 ·exact .inl h
 ·exact .inr ⟨b,off,s,jd p hb.size,λi hi=>(hb.c b (off+i) p).t (F i hi)⟩
def Yh (r:qn):Value:=qd r
def At (rs:Bn):List Value:=rs.map Yh
theorem Ql (rs:Bn):(At rs).length=rs.length:=by simp [At]
theorem H0 (a b:Bn):At (a++b)=At a++At b:=by simp [At]
theorem Jj (rs:Bn) (k:Nat) (h:k<rs.length):(At rs)[k]?=some (qd (Ao rs k)):=by
 simp [At,Yh,Ao,h]
theorem Qr (rs:Bn) (k:Nat) (r:qn):(At rs).set k (qd r)=At (rs.set k r):=by
 show (rs.map Yh).set k (Yh r)=(rs.set k r).map Yh
 rw [List.map_set]
theorem nT (rs:Bn):∀ u ∈ At rs,u.oneCell'=true:=by
 intro u l
 simp only [At,List.mem_map] at l
 obtain ⟨r,_,rfl⟩:=l
 rfl
theorem Zk:(prog.info? 9).map (λi=>(i.zero,i.size,i.bytes))=some (some (.string ⟨#[]⟩),1,16):=by kernel_rfl
theorem Vt (m:Nat):(madeCells (Value.string ⟨#[]⟩).cells (m*1)).toList=At (List.replicate m []):=by
 rw [Nat.mul_one];refine (toList_madeCells_one _ _).t ?_
 simp [At,Yh]
theorem gT {w w':ql} {base n size:Nat} {t:TypeId} {v:Value} {A:List Value} (h:w.ownsRow base t size v n A) (hb:BW w w'):w'.ownsRow base t size v n A:=by
 obtain ⟨s,p⟩:=h;refine ⟨s,?_⟩
 rcases p with h|⟨g,cap,y,x,I,z,a1,a2,B,C⟩
 ·exact .inl h
 ·have d:g<w.heap.size:=(Array.getElem?_eq_some_iff.1 z).1
  exact .inr ⟨g,cap,y,x,I,(hb.block g d).t z,a1,a2,B,C⟩
theorem T8 {w:ql} {base n:Nat} {t:TypeId} {v:Value} {rs:Bn} (h:w.ownsRow base t 1 v n (At rs)):∃ ao cap,v=qf ao rs.length cap/\Bw w ao rs/\n=rs.length:=by
 have hn:n=rs.length:=by have:=h.1;rw [Ql] at this;omega
 subst hn
 rcases h.2 with ⟨rfl,hn⟩|⟨g,cap,y,rfl,_⟩
 ·have:rs=[]:=qz hn
  subst this;exact ⟨none,0,rfl,.inl rfl,rfl⟩
 ·refine ⟨_,cap,rfl,?_,rfl⟩
  by_cases h0:rs=[]
  ·exact .inl h0
  ·have d:=(h.lt g rfl).2
   refine .inr ⟨g,0,rfl,d,λi hi=>?_⟩
   rw [qu,h.cellAt i (by omega)]
   exact Jj rs i hi
theorem G5 {w:ql} {base n:Nat} {t:TypeId} {ao:qm} {cap:Nat} {rs:Bn} (h:w.ownsRow base t 1 (qf ao rs.length cap) n (At rs)):Bw w ao rs:=by
 obtain ⟨q,j,x,H,_⟩:=T8 h
 obtain ⟨rfl,_⟩:ao=q/\cap=j:=by simpa using x
 exact H
theorem Tq {w:ql} {b off:Nat} {rs:Bn} (h:Bw w (some (qzA b off)) rs) {k:Nat} (hk:k<rs.length):w.cell? (qzA b (off+k))=some (qd (Ao rs k))/\b<w.heap.size:=by
 rcases h with rfl|⟨D,o,J,hb,G⟩
 ·simp at hk
 ·obtain ⟨rfl,rfl⟩:b=D/\off=o:=by simpa using J
  exact ⟨G k hk,hb⟩
theorem W9 (r:qn):∀ u ∈ [Value.string ⟨r.toArray⟩],u.oneCell'=true:=by
 intro u l
 simp at l
 subst l;rfl
def F9 (rs:Bn) (k:Nat):Bn:=rs.take k++List.replicate (rs.length - k) []
theorem aT (rs:Bn):F9 rs rs.length=rs:=by simp [F9]
theorem aH (rs:Bn) (k:Nat) (h:k<=rs.length):(F9 rs k).length=rs.length:=by simp [F9];omega
theorem X6 (rs:Bn) (k:Nat) (h:k<rs.length):(F9 rs k).set k (Ao rs k)=F9 rs (k+1):=by
 unfold F9
 rw [List.set_append,if_neg (by simp;omega),List.length_take,Nat.min_eq_left (jb h),Nat.sub_self,show rs.length - k=rs.length - (k+1)+1 by omega,List.replicate_succ,List.set_cons_zero,Abh rs k h,List.append_assoc]
 rfl
theorem eV (rs:Bn) (k:Nat) (h:k<rs.length):Ao (F9 rs k) k=[]:=by
 simp [Ao,F9,List.getElem?_append,Nat.min_eq_left (jb h),List.getElem?_replicate]
 split <;> rfl
def Iq:Bn->Int->Int
 | [],left=>left
 | f::r,left=>if left - (f.length:Int)<0 then -1 else Iq r (left - (f.length:Int))
def M8 (rs:Bn) (left:Int):Int:=if left - (rs.length:Int)<0 then -1 else Iq rs (left - (rs.length:Int))
theorem iL (rs:Bn) (k:Nat) (left:Int) (h:k<rs.length):Iq (rs.drop k) left=if left - ((Ao rs k).length:Int)<0 then -1 else Iq (rs.drop (k+1)) (left - ((Ao rs k).length:Int)):=by
 rw [jc h,nA h];rfl
def eI (rs:Bn):Nat:=(rs.map List.length).sum
theorem oN (rs:Bn):∀ left,0<=Iq rs left->0<=left->(eI rs:Int)<=left:=by
 induction rs with
 | nil=>intro left _ h;simpa [eI] using h
 | cons f r ih =>
  intro left h M
  simp only [Iq] at h
  split at h
  ·omega
  ·have:=ih _ h (by omega)
   simp only [eI,List.map_cons,List.sum_cons] at this ⊢
   omega
theorem xG {rs:Bn} {left:Int} (h:0<=M8 rs left):(rs.length:Int)+eI rs<=left:=by
 unfold M8 at h
 split at h
 ·omega
 ·have:=oN rs _ h (by omega)
  omega
theorem Aaj {rs:Bn} {f:qn} (h:f ∈ rs):f.length<=eI rs:=by
 induction rs with
 | nil=>cases h
 | cons g r ih =>
  simp only [eI,List.map_cons,List.sum_cons] at ih ⊢
  rcases List.mem_cons.1 h with rfl|L
  ·omega
  ·have:=ih L;omega
end Go.Proofs.YtfpafnefpmmofaaGreatDoor
namespace Go.Proofs.YtfpafnefpmmofaaGreatDoor
open Go.RowKit Go.Proofs.Tryz
theorem tQ {w:ql} {a:Addr} {rs:Bn} (h:Bw w (some a) rs):∀ j u,(At rs)[j]?=some u->w.cell? (a.add j)=some u:=by
 intro j u p
 have q:j<rs.length:=by
  rcases Nat.lt_or_ge j rs.length with y|y
  ·exact y
  ·rw [jl (by rw [Ql];exact y)] at p;cases p
 rcases h with h|⟨b,off,i,m,k⟩
 ·rw [h] at q;simp at q
 ·injection i with i
  subst i;have e:=k j q
  have r:u=qd (Ao rs j):=by
   rw [Jj rs j q] at p;exact (Option.some.inj p).s
  rw [r]
  by_cases e0:j=0
  ·subst e0;rw [Addr.add,if_pos rfl];exact e
  ·rw [Addr.add,if_neg e0];exact e
theorem Kp (w:ql) (base:Nat) (G:TypeId) (v:Value) (n:Nat) (cs:List Value) (d:w.ownsRow base 9 1 v n cs) (ao:qm) (c:Nat) (rs:Bn) (t:Bw w ao rs)
  (hn:n+rs.length<=4000000) (hbase:base<=w.heap.size) :
  ∃ f w',(Builtin.append_ #[28,28] G #[v,qf ao rs.length c]).run prog w=.ok f w'/\w'.ownsRow base 9 1 f (n+rs.length) (cs++At rs)/\w.grownBy w' v.ownBlock:=by
 obtain ⟨N,hi,C,D,F⟩:=info_parts Zk
 cases ao with
 | none =>
  have L:rs=[]:=by
   rcases t with h|⟨b,off,h,_⟩
   ·exact h
   ·cases h
  subst L
  refine ⟨v,w,?_,by simpa [At] using d,⟨rfl,rfl,rfl,nL,λ_ _ _=>rfl⟩⟩
  have r:=underlying28
  rcases d.2 with ⟨rfl,rfl⟩|⟨g,cap,O,rfl,H,R,A,I,J,B⟩
  ·simp [Builtin.append_,run_underlying r,sizeOf,typeInfo,hi,Builtin.lenOf,Builtin.firstCells]
  ·simp [Builtin.append_,run_underlying r,sizeOf,typeInfo,hi,Builtin.lenOf,Builtin.firstCells,loadCells,A,storeCells]
 | some a =>
  obtain ⟨f,w',i,m,k,_,_⟩:=run_append_own_at (P:=prog) w base 28 G 9 N _ 1 16 underlying28 hi C D F rfl (by decide) v n cs d a rs.length c (At rs) (by simp [Ql]) (tQ t) (nT rs) (by unfold maxLen;omega) (by omega) hbase
  exact ⟨f,w',i,m,k⟩
theorem Oc {l:Array Oper} {rest:List Oper} {o:Oper} {a:Act} {Q:Exit->Act->ql->Prop} (w:ql) (z:o.guard=none) (s x:Operand)
  (ho:o.op=.call { callee:=.builtin .append,args:=#[s,x],argTypes:=#[28,28] }) (base:Nat) (v:Value) (n:Nat) (cs:List Value) (hs:a.eval s=v) (d:w.ownsRow base 9 1 v n cs)
  (ao:qm) (c:Nat) (rs:Bn) (hx:a.eval x=qf ao rs.length c) (t:Bw w ao rs) (hn:n+rs.length<=4000000) (hbase:base<=w.heap.size)
  (h:∀ f w',w'.ownsRow base 9 1 f (n+rs.length) (cs++At rs)->w.grownBy w' v.ownBlock->wpList prog l Q rest (a.put o.dst f) w') :
  wpList prog l Q (o::rest) a w:=by
 refine wpList_plain z λK hK=>?_
 obtain ⟨f,w',M,m,k⟩:=Kp w base o.type v n cs d ao c rs t hn hbase;unfold Oper.wp execOp
 simp only [ho,resolve,invoke,builtin,Sem.run_bind,Sem.run_pure,Result.andThen_ok,List.map_toArray,List.map_cons,List.map_nil,hs,hx,M]
 exact hK _ _ (h f w' m k)
def Bg (w:ql) (ao:qm) (zs:List Int):Prop :=
 zs=[]\/∃ b off,ao=some (qzA b off)/\b<w.heap.size/\∀ i,i<zs.length->w.cell? (qzA b (off+i))=some (qzI (zs.getD i 0))
theorem Bg.below {w w':ql} {ao:qm} {zs:List Int} (h:Bg w ao zs) (hb:BW w w'):Bg w' ao zs:=by
 rcases h with h|⟨b,off,C,z,D⟩
 ·exact .inl h
 ·exact .inr ⟨b,off,C,jd z hb.size,λi hi=>(hb.c b (off+i) z).t (D i hi)⟩
theorem sN {zs:List Int} {len i:Nat} (h:i<len):(zs.take len).getD i 0=zs.getD i 0:=by
 simp [h]
theorem gO {w:ql} {a:qm} {len cap:Nat} {zs:List Int} (h:Afq .i64 w a len cap zs):(zs.take len).length=len/\Bg w a (zs.take len):=by
 rcases h with ⟨rfl,rfl,rfl,rfl⟩|⟨x,rfl,I,hm,F,d,J⟩
 ·exact ⟨rfl,.inl rfl⟩
 ·have m:(zs.take len).length=len:=by rw [List.length_take];omega
  refine ⟨m,?_⟩
  by_cases h0:len=0
  ·subst h0;exact .inl (by simp)
  ·obtain ⟨b,off,y⟩:=x
   have l:=d 0 (by omega)
   have q:y=none:=by simpa [Addr.add] using World.cell?_spot l
   subst q
   refine .inr ⟨b,off,rfl,?_,λi hi=>?_⟩
   ·exact qs w _ l
   ·rw [m] at hi
    rw [sN hi]
    have:=d i (by omega)
    by_cases e:i=0
    ·subst e;simpa [Addr.add] using this
    ·simpa [Addr.add,e] using this
theorem eY {w:ql} {base g n cap:Nat} {zs:List Int} (h:w.ownsRow base 3 1 (qf (some (qzA g 0)) n cap) n (zs.map (Value.int .i64))):Bg w (some (qzA g 0)) zs:=by
 by_cases h0:zs=[]
 ·exact .inl h0
 ·have I:zs.length=n:=by simpa using h.1
  have hp:=List.length_pos_iff.2 h0
  have l:∀ i,i<zs.length->w.cell? (qzA g (0+i))=some (qzI (zs.getD i 0)):=by
   intro i hi
   rw [qu,h.cellAt i (by omega)]
   simp [hi]
  exact .inr ⟨g,0,rfl,qs w _ (l 0 hp),l⟩
theorem Afz:(prog.info? 3).map (λi=>(i.zero,i.size,i.bytes))=some (some (qzI 0),1,8):=by kernel_rfl
def Xi (zs:List Int) (k:Nat):List Value:=(zs.take k).map (Value.int .i64)++List.replicate (zs.length - k) (qzI 0)
theorem sL (zs:List Int):Xi zs 0=List.replicate zs.length (qzI 0):=by simp [Xi]
theorem Aal (zs:List Int):Xi zs zs.length=zs.map (Value.int .i64):=by simp [Xi]
theorem uC (zs:List Int) (k:Nat) (h:k<zs.length):Xi zs (k+1)=(Xi zs k).set k (qzI (zs.getD k 0)):=by
 apply List.ext_getElem?;intro j
 simp only [Xi,List.getElem?_set,List.getElem?_append,List.length_map,List.length_take,List.getElem?_map,List.getElem?_take,List.getElem?_replicate,qt,qv,List.length_replicate]
 by_cases C:j<k
 ·have:j<zs.length:=by omega
  have:¬ k=j:=by omega
  simp [*,Nat.min_eq_left (jb h),Nat.min_eq_left (show k+1<=zs.length by omega),show j<k+1 by omega]
 ·by_cases z:j=k
  ·subst z
   have:j<j+(zs.length - j):=by omega
   simp [*,Nat.min_eq_left (jb h),Nat.min_eq_left (show j+1<=zs.length by omega)]
  ·have:¬ k=j:=by omega
   have a1:¬ j<k+1:=by omega
   simp [*,Nat.min_eq_left (jb h),Nat.min_eq_left (show k+1<=zs.length by omega)]
   by_cases D:j<zs.length
   ·rw [if_pos (by omega),if_pos (by omega)]
   ·rw [if_neg (by omega),if_neg (by omega)]
theorem Afe (zs:List Int) (k:Nat) (h:k<zs.length):(Xi zs k)[k]?=some (qzI 0):=by
 simp [Xi,List.getElem?_append,Nat.min_eq_left (jb h),List.getElem?_replicate]
 omega
theorem nS (ao:qm) (cap:Nat) (zs:List Int) (w:ql) (F:Bg w ao zs) (hn:zs.length<=1048576) :
  qi 27 #[qf ao zs.length cap] w λe w'=>e=.returned (qf (some ⟨w.heap.size,0,none⟩) zs.length zs.length) /\
   w'.ownsRow w.heap.size 3 1 (qf (some ⟨w.heap.size,0,none⟩) zs.length zs.length) zs.length (zs.map (Value.int .i64))/\BW w w':=by
 obtain ⟨G,hi,s,u,v⟩:=info_parts Afz
 rcases F with rfl|⟨b,off,rfl,hb,d⟩
 ·go_enter func27,ntmps27
  go_wp2_with (refine wpList_make_full _ rfl (.tmp 6) (.tmp 6) 22 rfl w.heap.size 3 G (qzI 0) 1 underlying22 hi s u .i64 .i64 _ _ 0 rfl rfl rfl rfl (by rw [v];omega) (by unfold maxLen;omega) nL ?_;intro L f A)
  refine wp_loop_rounds 1 ?_;rw [rounds_succ];go_wp2;go_ret
  exact ⟨rfl,by simpa [madeCells] using f,bR.grown A nL (λk hk=>by cases hk)⟩
 ·have r:(madeCells (Value.int .i64 0).cells (zs.length*1)).toList=Xi zs 0:=by
    rw [sL,Nat.mul_one];exact toList_madeCells_one _ _
  go_enter func27,ntmps27
  go_wp2_with (refine wpList_make_full _ rfl (.tmp 6) (.tmp 6) 22 rfl w.heap.size 3 G (qzI 0) 1 underlying22 hi s u .i64 .i64 _ _ zs.length rfl rfl rfl rfl (by rw [v];omega) (by unfold maxLen;omega) nL ?_;intro L f A)
  rw [r] at f
  have B:=bR.grown A nL (λk hk=>by cases hk)
  clear r A
  go_loopw [4] (λi wr=>∃ k:Nat,k<=zs.length/\i=qzI k/\wr.ownsRow w.heap.size 3 1 (qf (some ⟨w.heap.size,0,none⟩) zs.length zs.length) zs.length (Xi zs k)/\BW w wr) (λi _=>zs.length - (intOf i).toNat)
  case atStart=>exact ⟨0,qw _,rfl,f,B⟩
  case round =>
   obtain ⟨k,hk,rfl,ho,p⟩:=hrel
   by_cases hlt:k<zs.length
   ·have c1:=(p.c b (off+k) hb).t (d k hlt)
    have c2:wr.cell? ⟨w.heap.size,k,none⟩=some (qzI 0):=by rw [ho.cellAt k (by omega),Afe zs k hlt]
    have c3:=ho.frozenAt k;obtain ⟨c,l⟩:=Ae (zs.getD k 0);rw [l] at c1;have R:=ho.stored k (qzI c);rw [<- l,<- uC zs k hlt,l] at R;have H:=Aa R.1;clear R l d ho f;go_wp2
    go_roundw
    case rel=>exact ⟨k+1,by omega,by go_num,H.o,p.setCell nL _⟩
    case measure=>simp [intOf];omega
   ·have:k=zs.length:=by omega
    subst this;rw [Aal] at ho;clear d;go_wp2;go_ret;exact ⟨rfl,ho,p⟩
theorem Aa7 {w:ql} {base:Nat} {v:Value} {zs:List Int} (h:w.ownsRow base 3 1 v zs.length (zs.map (Value.int .i64))) :
  ∃ ao cap,v=qf ao zs.length cap/\Bg w ao zs:=by
 rcases h.2 with ⟨rfl,f⟩|⟨g,cap,d,rfl,a⟩
 ·have:zs=[]:=qz f
  subst this;exact ⟨none,0,rfl,.inl rfl⟩
 ·exact ⟨_,cap,rfl,eY h⟩
theorem Ta {w:ql} {base m:Nat} {v:Value} {l:List Value} (h:w.ownsRow base 3 1 v m l):∃ ao cap,v=qf ao m cap:=by
 rcases h.2 with ⟨rfl,rfl⟩|⟨g,cap,d,rfl,a⟩
 ·exact ⟨none,0,rfl⟩
 ·exact ⟨_,cap,rfl⟩
theorem Nq {w:ql} {base n cap:Nat} {ao:qm} {zs:List Int} (h:w.ownsRow base 3 1 (qf ao n cap) n (zs.map (Value.int .i64))):Bg w ao zs:=by
 have i:zs.length=n:=by simpa using h.1
 subst i;obtain ⟨b,c,j,k⟩:=Aa7 h
 obtain ⟨rfl,_⟩:ao=b/\cap=c:=by simpa using j
 exact k
def B0 (l:qn):Nat->Bn×Nat
 | 0=>([],0)
 | i+1=>if l.getD i 0=32 then ((B0 l i).1++[(l.drop (B0 l i).2).take (i - (B0 l i).2)],i+1) else B0 l i
def Ad (l:qn):Bn:=(B0 l l.length).1++[l.drop (B0 l l.length).2]
theorem Rr (l:qn):∀ i,(B0 l i).2<=i/\(B0 l i).1.length<=i
 | 0=>⟨nL,nL⟩
 | i+1=>by
  have:=Rr l i
  unfold B0
  split
  ·refine ⟨nL,?_⟩
   simp;omega
  ·omega
theorem Pd {l:qn} {i:Nat} (h:l.getD i 0=32):B0 l (i+1)=((B0 l i).1++[(l.drop (B0 l i).2).take (i - (B0 l i).2)],i+1):=by rw [B0,if_pos h]
theorem Nk {l:qn} {i:Nat} (h:l.getD i 0≠32):B0 l (i+1)=B0 l i:=by rw [B0,if_neg h]
theorem J5 (l:qn):1<=(Ad l).length/\(Ad l).length<=l.length+1:=by
 have:=Rr l l.length
 rw [Ad,qv];simp;omega
theorem Nl (l:qn):∀ i,∀ r ∈ (B0 l i).1,r.length<=l.length
 | 0=>λr h=>by cases h
 | i+1=>λr h=>by
  unfold B0 at h
  split at h
  ·rcases List.mem_append.1 h with h|h
   ·exact Nl l i r h
   ·rw [List.mem_singleton.1 h];simp;omega
  ·exact Nl l i r h
theorem Hg (l:qn):∀ r ∈ Ad l,r.length<=l.length:=by
 intro r h
 rcases List.mem_append.1 h with h|h
 ·exact Nl l _ r h
 ·rw [List.mem_singleton.1 h];simp
theorem Ms (l:qn) (w:ql) (hl:l.length<=1048576) :
  qi 63 #[qd l] w λe w'=>∃ a k,e=.returned (qf a (Ad l).length k)/\w'.ownsRow w.heap.size 9 1 (qf a (Ad l).length k) (Ad l).length (At (Ad l))/\BW w w':=by
 obtain ⟨i0,hi,J,L,M⟩:=info_parts Zk
 have A:qj ((w.alloc (.cells #[] 9)).ownsRow w.heap.size 9 1 (qf (some ⟨w.heap.size,0,none⟩) 0 0) 0 (At [])):=by
  have h:=World.ownsRow_lit (base:=w.heap.size) (e:=9) (size:=1) w #[] 0 nL (by unfold maxLen;omega) rfl
  rw [qj];simpa [At] using h
 have x:qj (Below w.heap.size w (w.alloc (.cells #[] 9))):=bR.alloc nL _;have n:qj (Ad l=(B0 l l.length).1++[l.drop (B0 l l.length).2]):=rfl;obtain ⟨WW,G⟩:=Ae (Ad l);rw [G] at n ⊢;clear G
 go_enter func63,ntmps63
 go_wp2
 go_loopw [3,4,5] (λs f i wr=>∃ (v:Value) (k:Nat),v=s/\k<=l.length/\i=qzI (k:Int)/\f=qzI ((B0 l k).2:Int)/\wr.ownsRow w.heap.size 9 1 v (B0 l k).1.length (At (B0 l k).1)/\BW w wr) (λ_ _ i _=>l.length - (intOf i).toNat)
 case atStart=>exact ⟨_,0,rfl,qw _,rfl,rfl,A.o,x.o⟩
 case round =>
  obtain ⟨v,k,W,hk,rfl,rfl,b,p⟩:=hrel;subst W;have y:=Aa p;have m:=Aa p.size
  have B:=Aa λj (hj:v.ownBlock=some j)=>(b.lt j hj).1
  have q:=Rr l k
  by_cases hlt:k<l.length
  ·have V:(k:Int)<(l.length:Int):=by omega
   have D:qj _:=@Pd l k;have O:qj _:=@Nk l k
   obtain ⟨c,hc⟩:=Ae ((⟨l.toArray⟩:ByteArray)[k]'(by rw [Cu];exact hlt))
   rw [(Fl l k hlt).t hc] at D O;obtain ⟨R,hR⟩:=Ae ((B0 l k).1);obtain ⟨f,u⟩:=Ae ((B0 l k).2);rw [hR,u] at D;rw [hR] at b q;rw [u] at q ⊢;have S:=Aa b;have C:qj ((B0 l k).1=R/\(B0 l k).2=f):=⟨hR,u⟩;clear hR u b p A x
   by_cases h32:c=32
   ·subst h32
    have I:=M6 l f k;have d:=Aa (D.o rfl);obtain ⟨r,H⟩:=Ae ((l.drop f).take (k - f));rw [H] at I d
    have T:(f:Int)<=(k:Int):=by omega
    clear D O H
    go_wp2_with (at_builtin;refine wpList_append_own _ rfl (.tmp 17) (.tmp 22) 28 rfl w.heap.size 9 i0 (.string ⟨#[]⟩) 1 16 underlying28 hi J L M rfl (by decide) _ _ _ rfl (S.o.alloc _) ⟨wr.heap.size,0,none⟩ 1 1 [qd r] rfl rfl (World.news_of_block (heap_alloc_new wr _)) (W9 _) (by unfold maxLen;omega) (by omega) (by simp;have:=m.o;omega) ?_;intro Y Z N F _)
    have X:=(y.o.alloc (by have:=m.o;omega) _).grown F (by have:=m.o;simp;omega) B.o
    have g:qj (Z.ownsRow w.heap.size 9 1 Y (B0 l (k+1)).1.length (At (B0 l (k+1)).1)):=by
     rw [qj,d.o];simp only [qv,H0];exact N
    have z:qj ((B0 l (k+1)).2=k+1):=by rw [qj,d.o]
    clear N F I;go_wp2
    go_roundw
    case rel=>exact ⟨_,k+1,rfl,by omega,by go_num,by rw [z.o];go_num,g.o,X⟩
    case measure=>simp [intOf];omega
   ·have d:=Aa (O.o h32)
    have a3:((c.toNat:Int) == 32)=false:=by
     simp only [beq_eq_false_iff_ne,ne_eq]
     intro e;apply h32;apply UInt8.toNat_inj.1
     show c.toNat=32
     omega
    have g:qj (wr.ownsRow w.heap.size 9 1 v (B0 l (k+1)).1.length (At (B0 l (k+1)).1)):=by
     rw [qj,d.o,C.o.1];exact S.o
    have z:qj ((B0 l (k+1)).2=f):=by rw [qj,d.o,C.o.2]
    clear D O;go_wp2
    go_roundw
    case rel=>exact ⟨_,k+1,rfl,by omega,by go_num,by rw [z.o],g.o,y.o⟩
    case measure=>simp [intOf];omega
  ·have U:k=l.length:=by omega
   subst U
   have V:¬ (l.length:Int)<(l.length:Int):=by omega
   obtain ⟨R,hR⟩:=Ae ((B0 l l.length).1);obtain ⟨f,u⟩:=Ae ((B0 l l.length).2);rw [hR,u] at n;rw [hR] at b q;rw [u] at q ⊢;have S:=Aa b
   have I:(⟨l.toArray⟩:ByteArray).extract f l.length=⟨(l.drop f).toArray⟩:=by rw [M6,List.take_of_length_le (by simp)]
   obtain ⟨r,H⟩:=Ae (l.drop f);rw [H] at I n
   have T:(f:Int)<=(l.length:Int):=by omega
   clear hR u b p A x H
   go_wp2_with (at_builtin;refine wpList_append_own _ rfl (.tmp 26) (.tmp 30) 28 rfl w.heap.size 9 i0 (.string ⟨#[]⟩) 1 16 underlying28 hi J L M rfl (by decide) _ _ _ rfl (S.o.alloc _) ⟨wr.heap.size,0,none⟩ 1 1 [qd r] rfl rfl (World.news_of_block (heap_alloc_new wr _)) (W9 _) (by unfold maxLen;omega) (by omega) (by simp;have:=m.o;omega) ?_;intro Y Z N F _)
   have X:=(y.o.alloc (by have:=m.o;omega) _).grown F (by have:=m.o;simp;omega) B.o
   have g:qj (Z.ownsRow w.heap.size 9 1 Y WW.length (At WW)):=by
    rw [qj,n.o,qv,H0];exact N
   obtain ⟨a,cp,hv,-,-⟩:=T8 g.o;subst hv;clear N F I;go_wp2;go_ret;exact ⟨a,cp,rfl,g.o,X⟩
namespace Kb
theorem Ado {l:qn} (h:∀ c ∈ l,c≠32):∀ i,i<=l.length->B0 l i=([],0):=by
 intro i
 induction i with
 | zero=>intro _;rfl
 | succ i k =>
  intro hi
  have g:l.getD i 0=l[i]:=by
   rw [qt,List.getElem?_eq_getElem (by omega)];rfl
  rw [Nk (by rw [g];exact h _ (List.getElem_mem _))]
  exact k (by omega)
theorem Xs {l:qn} (h:∀ c ∈ l,c≠32):Ad l=[l]:=by
 rw [Ad,Ado h _ nL];rfl
theorem pK {x r:qn} (d:∀ c ∈ x,c≠32):∀ i,i<=x.length->B0 (x++32::r) i=([],0):=by
 intro i
 induction i with
 | zero=>intro _;rfl
 | succ i k =>
  intro hi
  have g:(x++32::r).getD i 0=x[i]:=by
   rw [qt,List.getElem?_append_left (by omega),List.getElem?_eq_getElem (by omega)]
   rfl
  rw [Nk (by rw [g];exact d _ (List.getElem_mem _))]
  exact k (by omega)
theorem rB (x r:qn) (s:Nat):(x++32::r).drop (x.length+1+s)=r.drop s:=by
 rw [List.drop_append,ji (by omega),List.nil_append,show x.length+1+s - x.length=s+1 from by omega]
 rfl
theorem mZ {x r:qn} (d:∀ c ∈ x,c≠32):∀ j,j<=r.length->B0 (x++32::r) (x.length+1+j)=(x::(B0 r j).1,x.length+1+(B0 r j).2):=by
 intro j
 induction j with
 | zero =>
  intro _
  have g:(x++32::r).getD x.length 0=32:=by simp
  show B0 (x++32::r) (x.length+1)=_
  rw [Pd g,pK d _ nL]
  simp [B0]
 | succ j k =>
  intro A
  have h:=k (by omega)
  have g:(x++32::r).getD (x.length+1+j) 0=r.getD j 0:=by
   rw [qt,List.getElem?_append_right (by omega),show x.length+1+j - x.length=j+1 from by omega]
   simp
  have z:=(Rr r j).1
  by_cases h32:r.getD j 0=32
  ·rw [show x.length+1+(j+1)=(x.length+1+j)+1 from by omega,Pd (by rw [g];exact h32),h,Pd h32]
   simp only [List.cons_append]
   rw [rB,show x.length+1+j - (x.length+1+(B0 r j).2)=j - (B0 r j).2 from by omega]
   rfl
  ·rw [show x.length+1+(j+1)=(x.length+1+j)+1 from by omega,Nk (by rw [g];exact h32),h,Nk h32]
theorem Ie {x r:qn} (d:∀ c ∈ x,c≠32):Ad (x++32::r)=x::Ad r:=by
 have h:=mZ d (r:=r) r.length nL
 have q:(x++32::r).length=x.length+1+r.length:=by simp;omega
 rw [Ad,q,h,Ad]
 simp only [List.cons_append]
 rw [rB]
theorem kC {c:UInt8} : ∀ {l:qn},(∀ x ∈ l,x≠c)->Lib.indexByte l c = -1
 | [],_=>rfl
 | b::l,h=>by
  have hb:(b == c)=false:=by simpa using h b (by simp)
  rw [Lib.indexByte,hb,kC (λx d=>h x (by simp [d]))]
  simp
theorem Uj {c:UInt8} {r:qn} : ∀ {x:qn},(∀ y ∈ x,y≠c)->Lib.indexByte (x++c::r) c=x.length
 | [],_=>by simp [Lib.indexByte]
 | b::l,h=>by
  have hb:(b == c)=false:=by simpa using h b (by simp)
  have k:=Uj (r:=r) (x:=l) (λy hy=>h y (by simp [hy]))
  rw [List.cons_append,Lib.indexByte,hb,k]
  have:¬ ((l.length:Int) = -1):=by omega
  simp [this]
theorem Us:∀ (n:Nat) (l:qn),l.length<=n->Lib.splitK [32] 0 (l.count 32) l=Ad l
 | 0,l,h=>by
  have:l=[]:=qz (by omega)
  subst this
  rw [Xs (λc f=>by cases f)]
  rfl
 | n+1,l,h=>by
  by_cases hm:(32:UInt8) ∈ l
  ·obtain ⟨x,r,rfl,d⟩:=List.eq_append_cons_of_mem hm
   have p:∀ c ∈ x,c≠32:=λc f e=>d (e ▸ f)
   have t:x.count 32=0:=List.count_eq_zero.2 d
   have f:(x++32::r).count 32=r.count 32+1:=by
    rw [List.count_append,t,List.count_cons_self];omega
   have hi:Lib.index (x++32::r) [32]=(x.length:Int):=by rw [Lib.index_one,Uj p]
   rw [f,Lib.splitK,hi,if_neg (by simp),Ie p]
   have e1:(x++32::r).take ((x.length:Int).toNat+0)=x:=by simp
   have e2:(x++32::r).drop ((x.length:Int).toNat+[(32:UInt8)].length)=r:=by simp
   rw [e1,e2,Us n r (by simp at h;omega)]
  ·have d:∀ c ∈ l,c≠32:=λc f e=>hm (e ▸ f)
   rw [List.count_eq_zero.2 hm,Xs d]
   rfl
theorem Abx (l:qn):((Lib.splitB ⟨#[32]⟩ 0 (Lib.countB ⟨l.toArray⟩ ⟨#[32]⟩) ⟨l.toArray⟩).map Value.string)=At (Ad l)/\Lib.countB ⟨l.toArray⟩ ⟨#[32]⟩+1=(Ad l).length:=by
 have f:Lib.countB ⟨l.toArray⟩ ⟨#[32]⟩=l.count 32:=by
  show Lib.count l.toArray.toList [32]=l.count 32
  rw [Lib.count_one]
 have hd:=Lib.splitB_data ⟨#[32]⟩ 0 (l.count 32) ⟨l.toArray⟩
 have o:(Lib.splitB ⟨#[32]⟩ 0 (l.count 32) ⟨l.toArray⟩).map (·.data.toList)=Ad l:=by
  rw [hd];exact Us l.length l nL
 have q:=Lib.splitB_all ⟨#[32]⟩ (by decide) 0 (l.count 32) ⟨l.toArray⟩ f
 rw [f]
 constructor
 ·rw [<- o,At,List.map_map]
  apply List.map_congr_left;intro s _
  simp [Yh]
 ·rw [<- o,List.length_map,q]
theorem Ag2 (l:qn) (m:Int) (w:ql) (q:l.length<=1048576) (hm:w.cell? (qzA 10 0)=some (qzI m)) :
  qi 134 #[qd l,.string ⟨#[32]⟩] w λe w'=>∃ a,e=.returned (qf a (Ad l).length (Ad l).length)/\Bw w' a (Ad l)/\BW w w':=by
 obtain ⟨u,v⟩:=Abx l
 have hs:(⟨l.toArray⟩:ByteArray).size<4294967281:=by
  show l.toArray.size<_
  rw [List.size_toArray];omega
 refine (strings_Split ⟨l.toArray⟩ ⟨#[32]⟩ m w hs hm (by decide)).m ?_
 rintro e w' ⟨rfl,rfl⟩;rw [u,v]
 refine ⟨some ⟨w.heap.size,0,none⟩,rfl,.inr ⟨w.heap.size,0,rfl,by simp,λi hi=>?_⟩,bR.alloc nL _⟩
 have:=Jj (Ad l) i hi
 simpa [go_sem] using this
end Kb
end Go.Proofs.YtfpafnefpmmofaaGreatDoor
namespace Go.Proofs.YtfpafnefpmmofaaGreatDoor
open Go.ChangeShapes Go.WideShapes Go.ChangeAt Go.RowKit Go.Deep Go.Proofs.Tryz
def Bs (n:Int):Prop:=(Lit.int .i64 n).wf=true
def N3 (x:Ln):Prop:=Bs x.1/\Bs x.2.1/\Bs x.2.2
def Xz (e:En):Prop:=Bs e.1/\Bs e.2.1/\Bs e.2.2.1/\Bs e.2.2.2
def Ar (w:ql) (ao:qm) (ls:List Ln):Prop :=
 ls=[]\/∃ b off,ao=some (qzA b off)/\b<w.heap.size/\∀ i,i<ls.length ->
  w.cell? (qzA b (off+i*3))=some (.int .i64 (Cw ls i).1)/\w.cell? (qzA b (off+i*3+1))=some (.int .i64 (Cw ls i).2.1)/\w.cell? (qzA b (off+i*3+2))=some (.int .i64 (Cw ls i).2.2)
def Vs (ls:List Ln):Prop:=ls.length<=maxLen/\∀ x ∈ ls,N3 x
theorem Ar.below {w w':ql} {ao:qm} {ls:List Ln} (h:Ar w ao ls) (hb:BW w w'):Ar w' ao ls:=by
 rcases h with h|⟨b,off,s,d,q⟩
 ·exact .inl h
 ·exact .inr ⟨b,off,s,jd d hb.size,λi hi=>⟨(hb.c b (off+i*3) d).t (q i hi).1,(hb.c b (off+i*3+1) d).t (q i hi).2.1,(hb.c b (off+i*3+2) d).t (q i hi).2.2⟩⟩
theorem Ar.at {w:ql} {ao:qm} {ls:List Ln} (h:Ar w ao ls) {k:Nat} (hk:k<ls.length) :
  ∃ b off,ao=some (qzA b off)/\b<w.heap.size/\w.cell? (qzA b (off+k*3))=some (.int .i64 (Cw ls k).1)/\w.cell? (qzA b (off+k*3+1))=some (.int .i64 (Cw ls k).2.1)/\w.cell? (qzA b (off+k*3+2))=some (.int .i64 (Cw ls k).2.2):=by
 rcases h with rfl|⟨b,off,s,d,q⟩
 ·simp at hk
 ·exact ⟨b,off,s,d,q k hk⟩
def Mn (es:List En) (k:Nat):En:=es.getD k (0,0,0,0)
theorem rQ {es:List En} {k:Nat} (h:k<es.length):Mn es k=es[k]:=by simp [Mn,h]
theorem Aba {es:List En} {k:Nat} (h:k<es.length):Mn es k ∈ es:=by rw [rQ h];exact List.getElem_mem h
def Fg (w:ql) (ao:qm) (es:List En):Prop :=
 es=[]\/∃ b off,ao=some (qzA b off)/\b<w.heap.size/\∀ i,i<es.length ->
  w.cell? (qzA b (off+i*4))=some (.int .i64 (Mn es i).1)/\w.cell? (qzA b (off+i*4+1))=some (.int .i64 (Mn es i).2.1)/\w.cell? (qzA b (off+i*4+2))=some (.int .i64 (Mn es i).2.2.1)/\w.cell? (qzA b (off+i*4+3))=some (.int .i64 (Mn es i).2.2.2)
theorem Fg.below {w w':ql} {ao:qm} {es:List En} (h:Fg w ao es) (hb:BW w w'):Fg w' ao es:=by
 rcases h with h|⟨b,off,s,d,q⟩
 ·exact .inl h
 ·exact .inr ⟨b,off,s,jd d hb.size,λi hi=>⟨(hb.c b (off+i*4) d).t (q i hi).1,(hb.c b (off+i*4+1) d).t (q i hi).2.1,(hb.c b (off+i*4+2) d).t (q i hi).2.2.1,(hb.c b (off+i*4+3) d).t (q i hi).2.2.2⟩⟩
theorem Fg.at {w:ql} {ao:qm} {es:List En} (h:Fg w ao es) {k:Nat} (hk:k<es.length) :
  ∃ b off,ao=some (qzA b off)/\b<w.heap.size/\w.cell? (qzA b (off+k*4))=some (.int .i64 (Mn es k).1)/\w.cell? (qzA b (off+k*4+1))=some (.int .i64 (Mn es k).2.1)/\w.cell? (qzA b (off+k*4+2))=some (.int .i64 (Mn es k).2.2.1)/\w.cell? (qzA b (off+k*4+3))=some (.int .i64 (Mn es k).2.2.2):=by
 rcases h with rfl|⟨b,off,s,d,q⟩
 ·simp at hk
 ·exact ⟨b,off,s,d,q k hk⟩
section
variable {P:Program} {H:Type} {enc:TypeId×Value->H} {W:ql}
theorem Aim {e:TypeId} {f0 f1 f2:Field} {fuel:Nat} {cs:List Value} {x:DataW H×List MemPlace} (he:P.underlying e=some (.struct #[f0,f1,f2])) (L:P.cellsOf e=3) (U:f0.offset=0) (V:f1.offset=1) (X:f2.offset=2)
  (c0:P.cellsOf f0.type=1) (c1:P.cellsOf f1.type=1) (c2:P.cellsOf f2.type=1) (u0:P.underlying f0.type=some (.int .i64)) (u1:P.underlying f1.type=some (.int .i64)) (u2:P.underlying f2.type=some (.int .i64))
  (h:DataW.trod enc P W 0 (λ_=>true) true fuel e cs=some x):∃ l:Ln,cs=[.int .i64 l.1,.int .i64 l.2.1,.int .i64 l.2.2]/\N3 l:=by
 obtain ⟨y0,y1,y2,n,_,R,O,s,d⟩:=trod_struct3 he h;rw [L] at R
 match cs,R with
 | [a,b,c],_ =>
  simp [U,V,X,c0,c1,c2] at O s d
  obtain ⟨z0,q0,_,r0⟩:=DataW.trod_int u0 O;obtain ⟨z1,q1,_,r1⟩:=DataW.trod_int u1 s;obtain ⟨z2,q2,_,r2⟩:=DataW.trod_int u2 d
  simp at q0 q1 q2
  exact ⟨(z0,z1,z2),by rw [q0,q1,q2],r0,r1,r2⟩
theorem Ot (b off i j:Nat):(((qzA b off):Addr).add i).add j=(qzA b (off+i+j)):=by
 have e:∀ o k,(((qzA b o):Addr).add k)=(qzA b (o+k)):=λo k=>by unfold Addr.add;split <;> simp_all
 rw [e,e]
theorem nM {t e:TypeId} {f0 f1 f2:Field} {fuel:Nat} {y:Value} {x:DataW H×List MemPlace} (ht:P.underlying t=some (.slice e)) (he:P.underlying e=some (.struct #[f0,f1,f2])) (L:P.cellsOf e=3) (U:f0.offset=0) (V:f1.offset=1) (X:f2.offset=2)
  (c0:P.cellsOf f0.type=1) (c1:P.cellsOf f1.type=1) (c2:P.cellsOf f2.type=1) (u0:P.underlying f0.type=some (.int .i64)) (u1:P.underlying f1.type=some (.int .i64)) (u2:P.underlying f2.type=some (.int .i64))
  (h:DataW.trod enc P W 0 (λ_=>true) true fuel t [y]=some x):∃ a cap ls,y=qf a (List.length ls) cap/\Ar W a ls/\Vs ls:=by
 rcases open_slice ht h with ⟨e1,_⟩|⟨a,len,cap,m,n,D,Pl,e1,hb,T,hm,I,_,hx⟩
 ·simp at e1
  exact ⟨none,0,[],by rw [e1];rfl,.inl rfl,qw _,λf C=>by cases C⟩
 ·simp at e1 I
  subst I
  obtain ⟨F,Z⟩:=choose_lt (α:=Ln) (n:=m) (p:=λi l=>W.cells? 0 (a.add (i*P.cellsOf e)) (P.cellsOf e)=some [.int .i64 l.1,.int .i64 l.2.1,.int .i64 l.2.2]/\N3 l) (λi hi=>by
   obtain ⟨a3,M,N⟩:=hx i hi;obtain ⟨l,rfl,R⟩:=Aim he L U V X c0 c1 c2 u0 u1 u2 N;exact ⟨l,M,R⟩)
  refine ⟨some a,m,(List.range len).map F,by rw [e1];simp,?_,by rw [List.length_map,List.length_range];exact jk T hm,λf C=>by
   obtain ⟨i,hi,rfl⟩:=List.mem_map.1 C
   exact (Z i (by have:=List.mem_range.1 hi;omega)).2⟩
  by_cases hz:len=0
  ·subst hz;exact .inl rfl
  ·have each:∀ i,i<len->∀ j v,[Value.int .i64 (F i).1,.int .i64 (F i).2.1,.int .i64 (F i).2.2][j]?=some v->W.cell? ((a.add (i*3)).add j)=some v:=λi hi j v hv=>by
     have g:=(Z i (by omega)).1
     rw [L] at g;obtain ⟨_,_,A⟩:=World.cells?_some g
     have:=A j (by have:=(List.getElem?_eq_some_iff.1 hv).1;simpa using this)
     rw [this];simpa using hv
   obtain ⟨bk,off,J⟩:=a
   have G:=each 0 (by omega) 0 _ rfl
   have B:J=none:=by simpa [Addr.add] using World.cell?_spot G
   subst B
   refine .inr ⟨bk,off,rfl,?_,λi hi=>?_⟩
   ·have:=qs W _ G
    simpa [Ot] using this
   ·have z:i<len:=by simpa using hi
    have S:Cw ((List.range len).map F) i=F i:=by simp [Cw,z]
    rw [S];have Y:=each i z 0 _ rfl;have M:=each i z 1 _ rfl;have N:=each i z 2 _ rfl;rw [Ot] at Y M N;exact ⟨Y,M,N⟩
end
def Pv (x:Ln):List Value:=[.int .i64 x.1,.int .i64 x.2.1,.int .i64 x.2.2]
def Ak (ls:List Ln):List Value:=ls.flatMap Pv
theorem Oi (x:Ln) (r:List Ln):Ak (x::r)=.int .i64 x.1::.int .i64 x.2.1::.int .i64 x.2.2::Ak r:=rfl
theorem K0 (a b:List Ln):Ak (a++b)=Ak a++Ak b:=by simp [Ak]
theorem C9 (ls:List Ln):(Ak ls).length=ls.length*3:=by
 induction ls with
 | nil=>rfl
 | cons f r ih=>rw [Oi];simp [ih];omega
theorem Jl (ls:List Ln):∀ k,k<ls.length->(Ak ls)[k*3]?=some (.int .i64 (Cw ls k).1)/\(Ak ls)[k*3+1]?=some (.int .i64 (Cw ls k).2.1)/\(Ak ls)[k*3+2]?=some (.int .i64 (Cw ls k).2.2):=by
 induction ls with
 | nil=>intro k h;simp at h
 | cons f r ih =>
  intro k h;rw [Oi]
  cases k with
  | zero=>exact ⟨rfl,rfl,rfl⟩
  | succ k =>
   have:=ih k (by simpa using h)
   rw [show (k+1) * 3=k*3+1+1+1 by omega]
   simp only [je]
   exact this
theorem Xr (ls:List Ln) (x:Ln):∀ k,k<ls.length->(((Ak ls).set (k*3) (.int .i64 x.1)).set (k*3+1) (.int .i64 x.2.1)).set (k*3+2) (.int .i64 x.2.2)=Ak (ls.set k x):=by
 induction ls with
 | nil=>intro k h;simp at h
 | cons g r ih =>
  intro k h;rw [Oi]
  cases k with
  | zero=>rfl
  | succ k =>
   have:=ih k (by simpa using h)
   rw [show (k+1) * 3=k*3+1+1+1 by omega]
   simp only [List.set_cons_succ]
   rw [this]
   rfl
theorem mP (ls:List Ln):∀ u ∈ Ak ls,u.oneCell'=true:=by
 intro u hu
 simp only [Ak,List.mem_flatMap,Pv] at hu
 obtain ⟨f,_,C⟩:=hu
 simp at C
 rcases C with rfl|rfl|rfl <;> rfl
theorem Ft {w:ql} {base n:Nat} {t:TypeId} {v:Value} {ls:List Ln} (h:w.ownsRow base t 3 v n (Ak ls)):∃ ao cap,v=qf ao ls.length cap/\Ar w ao ls/\n=ls.length:=by
 have hn:n=ls.length:=by have:=h.1;rw [C9] at this;omega
 subst hn
 rcases h.2 with ⟨rfl,hn⟩|⟨g,cap,cw,rfl,_⟩
 ·have:ls=[]:=qz hn
  subst this;exact ⟨none,0,rfl,.inl rfl,rfl⟩
 ·refine ⟨_,cap,rfl,?_,rfl⟩
  by_cases O:ls=[]
  ·exact .inl O
  ·refine .inr ⟨g,0,rfl,(h.lt g rfl).2,λi hi=>?_⟩
   have:=Jl ls i hi
   rw [qu,h.cellAt (i*3) (by omega),h.cellAt (i*3+1) (by omega),h.cellAt (i*3+2) (by omega)]
   exact this
def Ox (a:Au):List Value:=[qd a.ref,.int .i64 a.iss,.int .i64 a.cur,.int .i64 a.am,.int .i64 a.day,.bool a.used]
def Ha (a:Au):Value:=.agg #[qd a.ref,.int .i64 a.iss,.int .i64 a.cur,.int .i64 a.am,.int .i64 a.day,.bool a.used]
def Ahk (a:Au):Prop:=a.ref.length<=maxLen/\Bs a.iss/\Bs a.cur/\Bs a.am/\Bs a.day
def Ba (w:ql) (ao:qm) (az:List Au):Prop :=
 az=[]\/∃ b off,ao=some (qzA b off)/\b<w.heap.size/\∀ i,i<az.length ->
  w.cell? (qzA b (off+i*6))=some (qd (Ch az i).ref)/\w.cell? (qzA b (off+i*6+1))=some (.int .i64 (Ch az i).iss)/\w.cell? (qzA b (off+i*6+2))=some (.int .i64 (Ch az i).cur)/\w.cell? (qzA b (off+i*6+3))=some (.int .i64 (Ch az i).am)/\w.cell? (qzA b (off+i*6+4))=some (.int .i64 (Ch az i).day)/\w.cell? (qzA b (off+i*6+5))=some (.bool (Ch az i).used)
def Vq (az:List Au):Prop:=az.length<=maxLen/\∀ x ∈ az,Ahk x
theorem Ba.below {w w':ql} {ao:qm} {az:List Au} (h:Ba w ao az) (hb:BW w w'):Ba w' ao az:=by
 rcases h with h|⟨b,off,I,k,q⟩
 ·exact .inl h
 ·exact .inr ⟨b,off,I,jd k hb.size,λi hi=>⟨(hb.c b (off+i*6) k).t (q i hi).1,(hb.c b (off+i*6+1) k).t (q i hi).2.1,(hb.c b (off+i*6+2) k).t (q i hi).2.2.1,(hb.c b (off+i*6+3) k).t (q i hi).2.2.2.1,(hb.c b (off+i*6+4) k).t (q i hi).2.2.2.2.1,(hb.c b (off+i*6+5) k).t (q i hi).2.2.2.2.2⟩⟩
section
variable {P:Program} {H:Type} {enc:TypeId×Value->H} {W:ql}
theorem lS {e:TypeId} {f0 f1 f2 f3 f4 f5:Field} {fuel:Nat} {cs:List Value} {x:DataW H×List MemPlace} (he:P.underlying e=some (.struct #[f0,f1,f2,f3,f4,f5])) (B:P.cellsOf e=6) (O:f0.offset=0) (R:f1.offset=1) (S:f2.offset=2) (T:f3.offset=3) (U:f4.offset=4) (V:f5.offset=5)
  (c0:P.cellsOf f0.type=1) (c1:P.cellsOf f1.type=1) (c2:P.cellsOf f2.type=1) (c3:P.cellsOf f3.type=1) (c4:P.cellsOf f4.type=1) (c5:P.cellsOf f5.type=1) (u0:P.underlying f0.type=some .string) (u1:P.underlying f1.type=some (.int .i64)) (u2:P.underlying f2.type=some (.int .i64)) (u3:P.underlying f3.type=some (.int .i64)) (u4:P.underlying f4.type=some (.int .i64)) (u5:P.underlying f5.type=some .bool)
  (h:DataW.trod enc P W 0 (λ_=>true) true fuel e cs=some x):∃ l:Au,cs=Ox l/\Ahk l:=by
 obtain ⟨xs,n,_,_,J,N,o⟩:=DataW.trod_struct he h;rw [B] at J
 match xs,N,cs,J with
 | [y0,y1,y2,y3,y4,y5],_,[a0,a1,a2,a3,a4,a5],_ =>
  have h0:=o 0 f0 rfl;have I:=o 1 f1 rfl;have k:=o 2 f2 rfl;have q:=o 3 f3 rfl;have h4:=o 4 f4 rfl;have h5:=o 5 f5 rfl
  simp [O,c0] at h0
  simp [R,c1] at I
  simp [S,c2] at k
  simp [T,c3] at q
  simp [U,c4] at h4
  simp [V,c5] at h5
  obtain ⟨z0,q0,_,r0⟩:=DataW.trod_string u0 h0;obtain ⟨z1,q1,_,r1⟩:=DataW.trod_int u1 I;obtain ⟨z2,q2,_,r2⟩:=DataW.trod_int u2 k;obtain ⟨z3,q3,_,r3⟩:=DataW.trod_int u3 q;obtain ⟨z4,q4,_,r4⟩:=DataW.trod_int u4 h4;obtain ⟨z5,q5,_⟩:=DataW.trod_bool u5 h5
  simp at q0 q1 q2 q3 q4 q5
  exact ⟨⟨z0.data.toList,z1,z2,z3,z4,z5⟩,by rw [q0,q1,q2,q3,q4,q5];rfl,by show z0.data.toList.length<=maxLen;rw [Array.length_toList];exact r0,r1,r2,r3,r4⟩
theorem pA {t e:TypeId} {f0 f1 f2 f3 f4 f5:Field} {fuel:Nat} {y:Value} {x:DataW H×List MemPlace} (ht:P.underlying t=some (.slice e)) (he:P.underlying e=some (.struct #[f0,f1,f2,f3,f4,f5])) (B:P.cellsOf e=6) (O:f0.offset=0) (R:f1.offset=1) (S:f2.offset=2) (T:f3.offset=3) (U:f4.offset=4) (V:f5.offset=5)
  (c0:P.cellsOf f0.type=1) (c1:P.cellsOf f1.type=1) (c2:P.cellsOf f2.type=1) (c3:P.cellsOf f3.type=1) (c4:P.cellsOf f4.type=1) (c5:P.cellsOf f5.type=1) (u0:P.underlying f0.type=some .string) (u1:P.underlying f1.type=some (.int .i64)) (u2:P.underlying f2.type=some (.int .i64)) (u3:P.underlying f3.type=some (.int .i64)) (u4:P.underlying f4.type=some (.int .i64)) (u5:P.underlying f5.type=some .bool)
  (h:DataW.trod enc P W 0 (λ_=>true) true fuel t [y]=some x):∃ a cap ls,y=qf a (List.length ls) cap/\Ba W a ls/\Vq ls:=by
 rcases open_slice ht h with ⟨e1,_⟩|⟨a,len,cap,m,n,D,Pl,e1,hb,M,hm,z,_,hx⟩
 ·simp at e1
  exact ⟨none,0,[],by rw [e1];rfl,.inl rfl,qw _,λf o=>by cases o⟩
 ·simp at e1 z
  subst z
  haveI:Inhabited Au:=⟨Mm⟩
  obtain ⟨F,hF⟩:=choose_lt (α:=Au) (n:=m) (p:=λi l=>W.cells? 0 (a.add (i*P.cellsOf e)) (P.cellsOf e)=some (Ox l)/\Ahk l) (λi hi=>by
   obtain ⟨a6,C,G⟩:=hx i hi;obtain ⟨l,rfl,J⟩:=lS he B O R S T U V c0 c1 c2 c3 c4 c5 u0 u1 u2 u3 u4 u5 G;exact ⟨l,C,J⟩)
  refine ⟨some a,m,(List.range len).map F,by rw [e1];simp,?_,by rw [List.length_map,List.length_range];exact jk M hm,λf o=>by
   obtain ⟨i,hi,rfl⟩:=List.mem_map.1 o
   exact (hF i (by have:=List.mem_range.1 hi;omega)).2⟩
  by_cases hz:len=0
  ·subst hz;exact .inl rfl
  ·have each:∀ i,i<len->∀ j v,(Ox (F i))[j]?=some v->W.cell? ((a.add (i*6)).add j)=some v:=λi hi j v hv=>by
     have g:=(hF i (by omega)).1
     rw [B] at g;obtain ⟨_,_,r⟩:=World.cells?_some g
     have:=r j (by have:=(List.getElem?_eq_some_iff.1 hv).1;simpa [Ox] using this)
     rw [this];simpa using hv
   obtain ⟨bk,off,A⟩:=a
   have u:=each 0 (by omega) 0 _ rfl
   have s:A=none:=by simpa [Addr.add] using World.cell?_spot u
   subst s
   refine .inr ⟨bk,off,rfl,?_,λi hi=>?_⟩
   ·have:=qs W _ u
    simpa [Ot] using this
   ·have d:i<len:=by simpa using hi
    have L:Ch ((List.range len).map F) i=F i:=by simp [Ch,d]
    rw [L];have X:=each i d 0 _ rfl;have C:=each i d 1 _ rfl;have G:=each i d 2 _ rfl;have Y:=each i d 3 _ rfl;have Z:=each i d 4 _ rfl;have g5:=each i d 5 _ rfl;rw [Ot] at X C G Y Z g5;exact ⟨X,C,G,Y,Z,g5⟩
end
end Go.Proofs.YtfpafnefpmmofaaGreatDoor
namespace Go.Proofs.YtfpafnefpmmofaaGreatDoor
open Go.RowKit Go.Proofs.Tryz
theorem Nn {w w':ql} {base n size:Nat} {t:TypeId} {v:Value} {c:List Value} (h:w.ownsRow base t size v n c) (hb:BW w w'):w'.ownsRow base t size v n c:=by
 obtain ⟨f,l⟩:=h;refine ⟨f,?_⟩
 rcases l with h|⟨g,cap,x,s,B,D,a1,a2,F,G⟩
 ·exact .inl h
 ·have o:g<w.heap.size:=(Array.getElem?_eq_some_iff.1 D).1
  exact .inr ⟨g,cap,x,s,B,(hb.block g o).t D,a1,a2,F,G⟩
theorem Wt {w:ql} {base base' n size:Nat} {t:TypeId} {v:Value} {c:List Value} (h:w.ownsRow base t size v n c) (hb:base'<=base):w.ownsRow base' t size v n c:=by
 obtain ⟨f,l⟩:=h;refine ⟨f,?_⟩
 rcases l with h|⟨g,cap,x,s,B,r⟩
 ·exact .inl h
 ·exact .inr ⟨g,cap,x,s,jk hb B,r⟩
def Ap (az:List Au):List Value:=az.flatMap Ox
theorem Nz (a:Au) (r:List Au):Ap (a::r)=qd a.ref::qzI a.iss::qzI a.cur::qzI a.am::qzI a.day::.bool a.used::Ap r:=rfl
theorem Qg (a b:List Au):Ap (a++b)=Ap a++Ap b:=by simp [Ap]
theorem Ka (az:List Au):(Ap az).length=az.length*6:=by
 induction az with
 | nil=>rfl
 | cons a r ih=>rw [Nz];simp [ih];omega
theorem Ff (az:List Au):∀ k,k<az.length->(Ap az)[k*6]?=some (qd (Ch az k).ref)/\(Ap az)[k*6+1]?=some (qzI (Ch az k).iss)/\(Ap az)[k*6+2]?=some (qzI (Ch az k).cur)/\(Ap az)[k*6+3]?=some (qzI (Ch az k).am)/\(Ap az)[k*6+4]?=some (qzI (Ch az k).day)/\(Ap az)[k*6+5]?=some (.bool (Ch az k).used):=by
 induction az with
 | nil=>intro k h;simp at h
 | cons a r ih =>
  intro k h;rw [Nz]
  cases k with
  | zero=>exact ⟨rfl,rfl,rfl,rfl,rfl,rfl⟩
  | succ k =>
   have:=ih k (by simpa using h)
   rw [show (k+1) * 6=k*6+1+1+1+1+1+1 by omega,show k*6+1+1+1+1+1+1+1=(k*6+1)+1+1+1+1+1+1 by omega,show k*6+1+1+1+1+1+1+2=(k*6+2)+1+1+1+1+1+1 by omega,show k*6+1+1+1+1+1+1+3=(k*6+3)+1+1+1+1+1+1 by omega,show k*6+1+1+1+1+1+1+4=(k*6+4)+1+1+1+1+1+1 by omega,show k*6+1+1+1+1+1+1+5=(k*6+5)+1+1+1+1+1+1 by omega]
   simp only [je]
   exact this
theorem My (az:List Au) (a:Au):∀ k,k<az.length->(((((((Ap az).set (k*6) (qd a.ref)).set (k*6+1) (qzI a.iss)).set (k*6+2) (qzI a.cur)).set (k*6+3) (qzI a.am)).set (k*6+4) (qzI a.day)).set (k*6+5) (.bool a.used))=Ap (az.set k a):=by
 induction az with
 | nil=>intro k h;simp at h
 | cons g r ih =>
  intro k h;rw [Nz]
  cases k with
  | zero=>rfl
  | succ k =>
   have:=ih k (by simpa using h)
   rw [show (k+1) * 6=k*6+1+1+1+1+1+1 by omega,show k*6+1+1+1+1+1+1+1=(k*6+1)+1+1+1+1+1+1 by omega,show k*6+1+1+1+1+1+1+2=(k*6+2)+1+1+1+1+1+1 by omega,show k*6+1+1+1+1+1+1+3=(k*6+3)+1+1+1+1+1+1 by omega,show k*6+1+1+1+1+1+1+4=(k*6+4)+1+1+1+1+1+1 by omega,show k*6+1+1+1+1+1+1+5=(k*6+5)+1+1+1+1+1+1 by omega]
   simp only [List.set_cons_succ,this]
   rfl
theorem Jf {c:List Value} {k:Nat} {v:Value} (h:c[k]?=some v):c.set k v=c:=by
 apply List.ext_getElem? ;intro i
 by_cases e:k=i
 ·subst e
  rw [List.getElem?_set_self (List.getElem?_eq_some_iff.1 h).1,h]
 ·rw [List.getElem?_set_ne e]
theorem Ub (az:List Au) (b:Bool) (k:Nat) (h:k<az.length):(Ap az).set (k*6+5) (.bool b)=Ap (az.set k ⟨(Ch az k).ref,(Ch az k).iss,(Ch az k).cur,(Ch az k).am,(Ch az k).day,b⟩):=by
 rw [<- My az _ k h];obtain ⟨q,f,l,z,A,C⟩:=Ff az k h
 simp only
 rw [Jf q,Jf f,Jf l,Jf z,Jf A]
theorem oQ (az:List Au):∀ u ∈ Ap az,u.oneCell'=true:=by
 intro u L;obtain ⟨a,_,h⟩:=List.mem_flatMap.1 L
 simp only [Ox,List.mem_cons,List.not_mem_nil,or_false] at h
 rcases h with rfl|rfl|rfl|rfl|rfl|rfl <;> rfl
theorem cV {w:ql} {base g n cap:Nat} {t:TypeId} {az:List Au} (h:w.ownsRow base t 6 (qf (some (qzA g 0)) n cap) n (Ap az)):Ba w (some (qzA g 0)) az:=by
 have d:=h.1;rw [Ka] at d
 by_cases q:az=[]
 ·exact .inl q
 ·have o:=(h.lt g rfl).2
  refine .inr ⟨g,0,rfl,o,λi hi=>?_⟩
  have:=Ff az i hi
  rw [qu,h.cellAt (i*6) (by omega),h.cellAt (i*6+1) (by omega),h.cellAt (i*6+2) (by omega),h.cellAt (i*6+3) (by omega),h.cellAt (i*6+4) (by omega),h.cellAt (i*6+5) (by omega)]
  exact this
theorem Qd {w:ql} {base n:Nat} {t:TypeId} {v:Value} {az:List Au} (h:w.ownsRow base t 6 v n (Ap az)):∃ ao cap,v=qf ao az.length cap/\Ba w ao az/\n=az.length:=by
 have hn:n=az.length:=by have:=h.1;rw [Ka] at this;omega
 subst hn
 rcases h.2 with ⟨rfl,hn⟩|⟨g,cap,x,rfl,_⟩
 ·have:az=[]:=qz hn
  subst this;exact ⟨none,0,rfl,.inl rfl,rfl⟩
 ·exact ⟨_,cap,rfl,cV h,rfl⟩
theorem Hu {w:ql} {base n:Nat} {t:TypeId} {ao:qm} {cap:Nat} {az:List Au} (h:w.ownsRow base t 6 (qf ao n cap) n (Ap az)):Ba w ao az:=by
 obtain ⟨y,p,s,I,_⟩:=Qd h
 obtain ⟨rfl,_⟩:ao=y/\n=az.length/\cap=p:=by simpa using s
 exact I
def Fk (az:List Au) (k:Nat):List Au:=az.take k++List.replicate (az.length - k) Mm
theorem Xg (az:List Au):Fk az 0=List.replicate az.length Mm:=by simp [Fk]
theorem aE (az:List Au):Fk az az.length=az:=by simp [Fk]
theorem Lu (az:List Au) (k:Nat) (h:k<=az.length):(Fk az k).length=az.length:=by simp [Fk];omega
theorem Qu (az:List Au) (k:Nat) (h:k<az.length):(Fk az k).set k (Ch az k)=Fk az (k+1):=by
 unfold Fk
 rw [List.set_append,if_neg (by simp;omega),List.length_take,Nat.min_eq_left (jb h),Nat.sub_self,show az.length - k=az.length - (k+1)+1 by omega,List.replicate_succ,List.set_cons_zero,List.take_succ_eq_append_getElem h,Pn h,List.append_assoc]
 rfl
theorem fW (az:List Au) (k:Nat) (h:k<az.length):Ch (Fk az k) k=Mm:=by
 simp [Ch,Fk,List.getElem?_append,Nat.min_eq_left (jb h),List.getElem?_replicate]
 split <;> rfl
theorem Aap:(prog.info? 108).map (λi=>(i.zero,i.size,i.bytes))=some (some (.agg #[.string ⟨#[]⟩,qzI 0,qzI 0,qzI 0,qzI 0,.bool false]),6,56):=by kernel_rfl
theorem Vv (m:Nat):(madeCells (Value.agg #[.string ⟨#[]⟩,qzI 0,qzI 0,qzI 0,qzI 0,.bool false]).cells (m*6)).toList=Ap (List.replicate m Mm):=by
 apply List.ext_getElem?;intro j
 by_cases hj:j<m*6
 ·have J:j / 6<(List.replicate m Mm).length:=by simp;omega
  have H:Ch (List.replicate m Mm) (j / 6)=Mm:=by
   simp [Ch,List.getElem?_replicate];split <;> rfl
  have h:=Ff _ _ J;rw [H] at h
  have d:(madeCells (Value.agg #[.string ⟨#[]⟩,qzI 0,qzI 0,qzI 0,qzI 0,.bool false]).cells (m*6)).toList[j]?=some ((#[Value.string ⟨#[]⟩,qzI 0,qzI 0,qzI 0,qzI 0,.bool false]:Array Value)[j % 6]!):=by
   simp [madeCells,hj,Value.cells]
  obtain ⟨q,f,l,z,A,C⟩:=h
  rcases (show j % 6=0\/j % 6=1\/j % 6=2\/j % 6=3\/j % 6=4\/j % 6=5 by omega) with e|e|e|e|e|e
  ·rw [d,e,show j=j / 6*6 by omega,q];rfl
  ·rw [d,e,show j=j / 6*6+1 by omega,f];rfl
  ·rw [d,e,show j=j / 6*6+2 by omega,l];rfl
  ·rw [d,e,show j=j / 6*6+3 by omega,z];rfl
  ·rw [d,e,show j=j / 6*6+4 by omega,A];rfl
  ·rw [d,e,show j=j / 6*6+5 by omega,C];rfl
 ·rw [jl (by rw [Array.length_toList,size_madeCells];omega),jl (by rw [Ka];simp;omega)]
theorem A5 {w w':ql} {base n size:Nat} {t:TypeId} {v:Value} {D:List Value} (h:w.ownsRow base t size v n D) (hb:BW w w'):w'.ownsRow base t size v n D:=by
 obtain ⟨q,J⟩:=h;refine ⟨q,?_⟩
 rcases J with h|⟨g,cap,I,C,F,L,a1,a2,M,N⟩
 ·exact .inl h
 ·have d:=(Array.getElem?_eq_some_iff.1 L).1
  exact .inr ⟨g,cap,I,C,F,(hb.block g d).t L,a1,a2,M,N⟩
theorem Bf {w:ql} {base n size:Nat} {t:TypeId} {v:Value} {D:List Value} (h:w.ownsRow base t size v n D) (p:Addr) (u:Value) (hp:∀ g,v.ownBlock=some g->g≠p.block):(w.setCell p u).ownsRow base t size v n D:=by
 obtain ⟨q,J⟩:=h;refine ⟨q,?_⟩
 rcases J with h|⟨g,cap,I,C,F,L,a1,a2,M,N⟩
 ·exact .inl h
 ·exact .inr ⟨g,cap,I,C,F,(Below.heap_setCell w p u g (hp g (by rw [C];rfl))).t L,a1,a2,M,N⟩
theorem Ahz {w w':ql} {base n size:Nat} {t:TypeId} {v:Value} {D:List Value} {row:Option Nat} (h:w.ownsRow base t size v n D) (F:w.grownBy w' row) (a7:∀ g,v.ownBlock=some g->some g≠row):w'.ownsRow base t size v n D:=by
 obtain ⟨q,J⟩:=h;refine ⟨q,?_⟩
 rcases J with h|⟨g,cap,I,C,a5,L,a1,a2,M,N⟩
 ·exact .inl h
 ·have d:=(Array.getElem?_eq_some_iff.1 L).1
  exact .inr ⟨g,cap,I,C,a5,(F.block g d (a7 g (by rw [C];rfl))).t L,a1,a2,M,N⟩
theorem Bz {w:ql} {base base' n size:Nat} {t:TypeId} {v:Value} {D:List Value} (h:w.ownsRow base t size v n D) (hb:base'<=base):w.ownsRow base' t size v n D:=by
 obtain ⟨q,J⟩:=h;refine ⟨q,?_⟩
 rcases J with h|⟨g,cap,I,C,F,r⟩
 ·exact .inl h
 ·exact .inr ⟨g,cap,I,C,jk hb F,r⟩
def Hn (n:Nat) (left:Int):Int:=if left - (n:Int)<0 then -1 else left - (n:Int)
theorem Ut (ao:qm) (cap n:Nat) (left:Int) (w:ql) (h0:0<=left) (q:left<=1048576) (hn:n<=9223372036854775807) :
  qi 55 #[qf ao n cap,qzI left] w (qp (qzI (Hn n left)) w):=by
 by_cases hneg:left - (n:Int)<0
 ·have G:qj (Hn n left = -1):=if_pos hneg
  go_enter func55,ntmps55
  go_wp2;go_ret;exact ⟨Af G.o.s,bR⟩
 ·have G:qj (Hn n left=left - (n:Int)):=if_neg hneg
  go_enter func55,ntmps55
  go_wp2;go_ret;exact ⟨Af G.o.s,bR⟩
theorem dR (ao:qm) (cap n:Nat) (left:Int) (w:ql) (h0:0<=left) (q:left<=1048576) (hn:n<=9223372036854775807) :
  qi 21 #[.agg #[qf ao n cap],qzI left] w (qp (qzI (Hn n left)) w):=by
 have bel:Below w.heap.size w (w.alloc (.cells #[qf ao n cap] 27)):=by go_grown
 by_cases hneg:left - (n:Int)<0
 ·have G:qj (Hn n left = -1):=if_pos hneg
  go_enter func21,ntmps21
  go_wp2_with fail
  refine (Ut _ _ _ _ _ h0 q hn).m ?_;rintro e w1 ⟨rfl,O⟩;have q1:=bel.t (O.m bel.size);rw [G.o];clear O bel;go_wp2;go_ret;exact ⟨Af G.o.s,q1⟩
 ·have G:qj (Hn n left=left - (n:Int)):=if_neg hneg
  go_enter func21,ntmps21
  go_wp2_with fail
  refine (Ut _ _ _ _ _ h0 q hn).m ?_;rintro e w1 ⟨rfl,O⟩;have q1:=bel.t (O.m bel.size);rw [G.o];clear O bel;go_wp2;go_ret;exact ⟨Af G.o.s,q1⟩
theorem kT (a b c:Int) (w:ql) :
  qi 101 #[.agg #[qzI a,qzI b,qzI c]] w (qp (.agg #[qzI a,qzI b,qzI c]) w):=by
 go_enter func101,ntmps101
 go_wp2
 go_returns
 refine ⟨rfl,?_⟩
 go_grown
def Jm (ls:List Ln) (k:Nat):List Ln:=ls.take k++List.replicate (ls.length - k) (0,0,0)
theorem uI (ls:List Ln):Jm ls ls.length=ls:=by simp [Jm]
theorem aR (ls:List Ln) (k:Nat) (h:k<=ls.length):(Jm ls k).length=ls.length:=by simp [Jm];omega
theorem nB (ls:List Ln) (k:Nat) (h:k<ls.length):(Jm ls k).set k (Cw ls k)=Jm ls (k+1):=by
 unfold Jm
 rw [List.set_append,if_neg (by simp;omega),List.length_take,Nat.min_eq_left (jb h),Nat.sub_self,show ls.length - k=ls.length - (k+1)+1 by omega,List.replicate_succ,List.set_cons_zero,Pf ls k h,List.append_assoc]
 rfl
theorem Aaw (ls:List Ln) (k:Nat) (h:k<ls.length):Cw (Jm ls k) k=(0,0,0):=by
 simp [Cw,Jm,List.getElem?_append,Nat.min_eq_left (jb h),List.getElem?_replicate]
 split <;> rfl
theorem sD:(prog.info? 151).map (λi=>(i.zero,i.size,i.bytes))=some (some (.agg #[qzI 0,qzI 0,qzI 0]),3,24):=by kernel_rfl
theorem pI (m:Nat):(madeCells (Value.agg #[qzI 0,qzI 0,qzI 0]).cells (m*3)).toList=Ak (List.replicate m (0,0,0)):=by
 apply List.ext_getElem?;intro j
 by_cases hj:j<m*3
 ·have hq:j / 3<(List.replicate m ((0:Int),(0:Int),(0:Int))).length:=by simp;omega
  have ha:Cw (List.replicate m ((0:Int),(0:Int),(0:Int))) (j / 3)=(0,0,0):=by
   simp [Cw,List.getElem?_replicate];split <;> rfl
  have h:=Jl _ _ hq;rw [ha] at h
  have hl:(madeCells (Value.agg #[qzI 0,qzI 0,qzI 0]).cells (m*3)).toList[j]?=some ((#[Value.int .i64 0,qzI 0,qzI 0]:Array Value)[j % 3]!):=by
   simp [madeCells,hj,Value.cells]
  rcases (show j % 3=0\/j % 3=1\/j % 3=2 by omega) with e|e|e
  ·rw [hl,e,show j=j / 3*3 by omega,h.1];rfl
  ·rw [hl,e,show j=j / 3*3+1 by omega,h.2.1];rfl
  ·rw [hl,e,show j=j / 3*3+2 by omega,h.2.2];rfl
 ·rw [jl (by rw [Array.length_toList,size_madeCells];omega),jl (by rw [C9];simp;omega)]
theorem iW (ao:qm) (cap:Nat) (ls:List Ln) (w:ql) (hz:Ar w ao ls) (hn:ls.length<=1048576) :
  qi 70 #[qf ao ls.length cap] w λe w'=>e=.returned (qf (some ⟨w.heap.size,0,none⟩) ls.length ls.length) /\
   w'.ownsRow w.heap.size 151 3 (qf (some ⟨w.heap.size,0,none⟩) ls.length ls.length) ls.length (Ak ls)/\BW w w':=by
 obtain ⟨i0,hi,a8,a9,b0⟩:=info_parts sD;have U:=pI ls.length;have HZ:=Aa hz;clear hz
 go_enter func70,ntmps70
 go_wp2_with (refine wpList_make_full _ rfl (.tmp 6) (.tmp 6) 36 rfl w.heap.size 151 i0 _ 3 underlying36 hi a8 a9 .i64 .i64 _ _ ls.length rfl rfl rfl rfl (by rw [b0];omega) (by unfold maxLen;omega) nL ?_;intro w1 B F)
 rw [U,show List.replicate ls.length ((0:Int),(0:Int),(0:Int))=Jm ls 0 from by simp [Jm]] at B
 have T:=bR.grown F nL (λk hk=>by cases hk)
 clear U F
 go_loopw [4] (λi wr=>∃ k:Nat,k<=ls.length/\i=qzI k/\wr.ownsRow w.heap.size 151 3 (qf (some ⟨w.heap.size,0,none⟩) ls.length ls.length) ls.length (Ak (Jm ls k))/\BW w wr) (λi _=>ls.length - (intOf i).toNat)
 case atStart=>exact ⟨0,qw _,rfl,B,T⟩
 case round =>
  obtain ⟨k,hk,rfl,ho,l⟩:=hrel;clear B T
  by_cases d:k<ls.length
  ·obtain ⟨b,off,rfl,hb,c1,c2,c3⟩:=(HZ.o.below l).at d
   have a6:(k:Int)<(ls.length:Int):=by omega
   have HS:=Aa (nB ls k d)
   have Y:=Aa (Xr (Jm ls k) (Cw ls k) k (by rw [aR ls k hk];exact d))
   obtain ⟨⟨x,y,z⟩,X⟩:∃ f,Cw ls k=f:=⟨_,rfl⟩;rw [X] at c1 c2 c3 HS Y
   simp only at c1 c2 c3 Y
   have HO:=Aa ho;have HA:=Aa (Aaw ls k d);clear X ho;go_wp2_with fail
   refine (kT _ _ _ _).m ?_;rintro e H ⟨rfl,W⟩;have ho:=A5 HO.o W
   have A:=Jl (Jm ls k) k (by rw [aR ls k hk];exact d)
   rw [HA.o] at A
   have d1:H.cell? ⟨w.heap.size,k*3,none⟩=some (qzI 0):=by rw [ho.cellAt (k*3) (by omega)];exact A.1
   have d2:H.cell? ⟨w.heap.size,k*3+1,none⟩=some (qzI 0):=by rw [ho.cellAt (k*3+1) (by omega)];exact A.2.1
   have d3:H.cell? ⟨w.heap.size,k*3+2,none⟩=some (qzI 0):=by rw [ho.cellAt (k*3+2) (by omega)];exact A.2.2
   have e1:H.frozen? ⟨w.heap.size,k*3,none⟩=false:=ho.frozenAt _;have e2:H.frozen? ⟨w.heap.size,k*3+1,none⟩=false:=ho.frozenAt _;have e3:H.frozen? ⟨w.heap.size,k*3+2,none⟩=false:=ho.frozenAt _
   have HR:qj ((((H.setCell ⟨w.heap.size,k*3,none⟩ (qzI x)).setCell ⟨w.heap.size,k*3+1,none⟩ (qzI y)).setCell ⟨w.heap.size,k*3+2,none⟩ (qzI z)).ownsRow w.heap.size 151 3 (qf (some ⟨w.heap.size,0,none⟩) ls.length ls.length) ls.length (Ak (Jm ls (k+1)))):=by
    have R:=(((ho.stored (k*3) (qzI x)).1.stored (k*3+1) (qzI y)).1.stored (k*3+2) (qzI z)).1;rw [Y.o,HS.o] at R;exact R
   clear ho A;go_wp2
   go_roundw
   case rel=>exact ⟨k+1,by omega,by go_num,HR.o,(((l.t (W.m l.size)).setCell nL _).setCell nL _).setCell nL _⟩
   case measure=>simp [intOf];omega
  ·have:k=ls.length:=by omega
   subst this;rw [uI] at ho;go_wp2;go_ret;exact ⟨rfl,ho,l⟩
theorem Eb {w:ql} {base n:Nat} {t:TypeId} {ao:qm} {cap:Nat} {ls:List Ln} (h:w.ownsRow base t 3 (qf ao ls.length cap) n (Ak ls)):Ar w ao ls:=by
 obtain ⟨Z,S,C,X,_⟩:=Ft h
 obtain ⟨rfl,_⟩:ao=Z/\cap=S:=by simpa using C
 exact X
theorem iQ (a b c:Int) (w:ql) :
  qi 110 #[.agg #[qzI a,qzI b,qzI c],.agg #[qzI a,qzI b,qzI c]] w (qp (.bool true) w):=by
 go_enter func110,ntmps110
 go_wp2;go_ret
 exact ⟨rfl,by go_grown⟩
theorem dW (ao bo:qm) (c1 c2:Nat) (ls:List Ln) (w:ql) (hx:Ar w ao ls) (hy:Ar w bo ls) (q:ls.length<=1099511627776) :
  qi 82 #[qf ao ls.length c1,qf bo ls.length c2] w (qp (.bool true) w):=by
 have HX:=Aa hx;have HY:=Aa hy;clear hx hy
 go_enter func82,ntmps82
 go_wp2
 go_loopw [5] (λi wr=>∃ k:Nat,k<=ls.length/\i=qzI k/\BW w wr) (λi _=>ls.length - (intOf i).toNat)
 case atStart=>exact ⟨0,qw _,rfl,bR⟩
 case round =>
  obtain ⟨k,hk,rfl,l⟩:=hrel
  by_cases d:k<ls.length
  ·obtain ⟨b,off,rfl,hb,e1,e2,e3⟩:=(HX.o.below l).at d
   obtain ⟨b',b3,rfl,b4,e4,e5,e6⟩:=(HY.o.below l).at d
   have a6:(k:Int)<(ls.length:Int):=by omega
   obtain ⟨⟨x,y,z⟩,V⟩:∃ x,Cw ls k=x:=⟨_,rfl⟩;rw [V] at e1 e2 e3 e4 e5 e6
   simp only at e1 e2 e3 e4 e5 e6
   clear V;go_wp2
   go_region_with (go_at_call 110;refine (iQ _ _ _ _).m ?_;rintro e H ⟨rfl,W⟩)
   all_goals
    go_wp2
    go_roundw
    case rel=>exact ⟨k+1,by omega,by go_num,(l.drew).t (W.m l.size)⟩
    case measure=>simp [intOf];omega
  ·go_wp2
   go_ret;exact ⟨rfl,l⟩
end Go.Proofs.YtfpafnefpmmofaaGreatDoor
