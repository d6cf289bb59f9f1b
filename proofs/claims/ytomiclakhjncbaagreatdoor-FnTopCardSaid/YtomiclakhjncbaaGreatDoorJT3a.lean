import Derived.Test.YtomiclakhjncbaaGreatDoorKTKbPay
import Derived.Test.YtomiclakhjncbaaGreatDoorKTCStart
import Derived.Test.YtomiclakhjncbaaGreatDoorKTHpDown
import Derived.Laws.EntriesVeiled
import Derived.Test.YtomiclakhjncbaaGreatDoorKTBkLiD
import Derived.Test.YtomiclakhjncbaaGreatDoorKTBkLiA
import Derived.Test.YtomiclakhjncbaaGreatDoorKTBkLiP
import Derived.Test.YtomiclakhjncbaaGreatDoorKTBkLiX
set_option maxRecDepth 100000
set_option maxHeartbeats 12800000
namespace Go.Proofs.YtomiclakhjncbaaGreatDoor
namespace Kb
open Go.RowKit Go.Proofs.Tryz
theorem Om (u:World) (g k:Nat) (D:Cs):u.grownBy (Gs u g k D) (some g):=by
 unfold Gs;exact ((((((((((((An _ g (k*12) _).trans (An _ g (k*12+1) _)).trans (An _ g (k*12+2) _)).trans (An _ g (k*12+3) _)).trans (An _ g (k*12+4) _)).trans (An _ g (k*12+5) _)).trans (An _ g (k*12+6) _)).trans (An _ g (k*12+7) _)).trans (An _ g (k*12+8) _)).trans (An _ g (k*12+9) _)).trans (An _ g (k*12+10) _)).trans (An _ g (k*12+11) _))
theorem KS.putC {B K:Nat} {st:Int} {b:Bk} {q:Bp} {u:World} (h:KS B K st b q u) {g:Nat} (hg:q.c=some (qzA g 0)) {k:Nat} (f:k<b.cs.length) (D:Cs) :
  KS B K st ⟨b.today,b.off,b.az,b.cs.set k D,b.ls,b.log⟩ q (Gs u g k D):=by
 have gr:u.grownBy (Gs u g k D) (Value.slice q.c b.cs.length q.cc).ownBlock:=by
  rw [hg];exact Om u g k D
 have d:=D8 h.cs h.kt (by decide)
 have a:=h.cs;rw [hg] at a;have r:=Od D f a;have z:=h.z.grown gr d
 refine ⟨?_,h.kt.grown gr d,h.off.kept gr (Bj h.off h.cs (by decide)),h.az.kept gr (Bj h.az h.cs (by decide)),?_,h.ls.kept gr (Bj h.ls h.cs (by decide)),h.log.kept gr (Bj h.log h.cs (by decide)),h.hK⟩
 ·simp only [List.length_set];exact z
 ·simp only [List.length_set];rw [hg];exact r
def Hx (F:Ff) (b:Bk) (rs:Be):Bk×Int :=
 if rs.length=4/\0<=Bz (Al rs 1)/\Ap [Al rs 0,Al rs 2,Al rs 3]=true then Ja F b (Ae (Al rs 0)) ⟨Bz (Al rs 1),Ae (Al rs 2),Ae (Al rs 3)⟩ else (b,1)
def kM (F:Ff) (E:World->Prop) (B K:Nat):Prop:=∀ (b:Bk) (q:Bp) (t:Option Addr) (cap:Nat) (rs:Be) (w:World),KS B K 1 b q w->E w->Ej b->Bh w t rs->(∀ r ∈ rs,r.length<=1048576) ->
  Calls prog 175 #[.pointer (some (qzA K 0)),.slice t rs.length cap] w (Wz E B K w (Hx F b rs))
def D6 (F:Ff) (b:Bk) (ws:Be) (r:Bk×Int):Prop :=
 if Al ws 0=Eo then r=N8 F b (ws.drop 1) else if Al ws 0=Dy then r=Gt F b (ws.drop 1) else if Al ws 0=I7 then Fh F b (ws.drop 1) r else if Al ws 0=Nz then r=Hx F b (ws.drop 1) else r=(b,1)
def ObR (E:World->Prop) (B K:Nat) (F:Ff) (b:Bk) (ws:Be) (w:World) (e:Ending) (w':World):Prop:=∃ r,D6 F b ws r/\Wz E B K w r e w'
theorem eU {w:World} {t:Option Addr} {r:List UInt8} {rs:Be} (h:Bh w t (r::rs)):∃ g off,t=some (qzA g off)/\w.cell? (qzA g off)=some (.string ⟨r.toArray⟩)/\Bh w (some (qzA g (off+1))) rs:=by
 rcases h with h | ⟨g,off,a,d,f⟩
 ·cases h
 ·refine ⟨g,off,a,f 0 (by simp),.inr ⟨g,off+1,rfl,d,fun i hi=>?_⟩⟩
  have:=f (i+1) (by simp;omega)
  rw [show off+1+i=off+(i+1) from by omega]
  exact this
theorem aG:prog.elem 23=9:=by simp [Program.elem,underlying23]
theorem cU:prog.underlying 23=some (.slice (prog.elem 23)):=by rw [aG];exact underlying23
theorem kX (w:World):(sizeOf 9).run prog w=.ok 1 w:=by
 obtain ⟨i0,hi,a5,a3,a6⟩:=info_parts S1
 simp [sizeOf,typeInfo,hi,a3]
theorem Zt {g off n c:Nat} (T:n<=c):∃ s:Option Addr,(n=0\/s=some (qzA g (off+1))) /\
  ∀ W:World,(Instr.slice 23 (.slice (some (qzA g off)) (n+1) (c+1)) (some (qzI 1)) none none).run prog W=.ok (.slice s n c) W:=by
 by_cases h0:c=0
 ·refine ⟨some (qzA g off),.inl (by omega),fun W=>?_⟩
  rw [run_slice_l W _ _ _ _ cU .i64 _ (by omega) (by omega),aG,kX]
  simp [Result.andThen,sliced,h0]
  try omega
 ·refine ⟨some (qzA g (off+1)),.inr rfl,fun W=>?_⟩
  rw [run_slice_l W _ _ _ _ cU .i64 _ (by omega) (by omega),aG,kX]
  simp [Result.andThen,sliced,h0,Addr.add]
  try omega
theorem Xe {E:World->Prop} {B K:Nat} {F:Ff} {b:Bk} {ws:Be} {w w':World} {e:Ending} {r:Bk×Int} (h:D6 F b ws r) (hs:Wz E B K w r e w'):ObR E B K F b ws w e w':=⟨r,h,hs⟩
theorem gG {F:Ff} {E:World->Prop} {G B K:Nat} (J:Rq F E G) (L:G<=B) (HA:kM F E B K) (b:Bk) (q:Bp) (t:Option Addr) (c:Nat) (r0:List UInt8) (rs:Be) (w:World) (A:KS B K 1 b q w) (x:E w) (M:Ej b) (hz:Bh w t (r0::rs)) (T:rs.length<=1048576) (j:rs.length<=c) (a4:c<=1048576) (hd:∀ r ∈ rs,r.length<=1048576) :
  Calls prog 137 #[.pointer (some (qzA K 0)),.slice t (rs.length+1) (c+1)] w (ObR E B K F b (r0::rs) w):=by
 obtain ⟨g,off,rfl,t0,S⟩:=eU hz;obtain ⟨s,N,Z⟩:=Zt (g:=g) (off:=off) j
 have R:Bh w s rs:=by
  rcases N with h | h
  ·exact .inl (List.eq_nil_of_length_eq_zero h)
  ·rw [h];exact S
 obtain ⟨et,ea,k⟩:=J.eLine w x
 have Y:Hid (NF E (.iface et (.pointer (some ea)))):=⟨w,3,x,by decide,k⟩
 have H:Hid (Calls prog 172 #[.pointer (some (qzA K 0)),.slice s rs.length c] w (Wz E B K w (N8 F b rs))):=lF J b q _ c rs w A x M R T hd
 have D:Hid (Calls prog 173 #[.pointer (some (qzA K 0)),.slice s rs.length c] w (Wz E B K w (Gt F b rs))):=eM J b q _ c rs w A x M R j (by omega) hd
 have I:Hid (Calls prog 174 #[.pointer (some (qzA K 0)),.slice s rs.length c] w (PaR E B K F b rs w)):=lE J L b q _ c rs w A x M R T hd;have C:Hid (Calls prog 175 #[.pointer (some (qzA K 0)),.slice s rs.length c] w (Wz E B K w (Hx F b rs))):=HA b q _ c rs w A x M R hd;have X:Hid (KS B K 1 b q w):=A;have V:Hid (Ce B w w):=.refl _ _
 have p:Hid (∀ r,(if r0=Eo then r=N8 F b rs else if r0=Dy then r=Gt F b rs else if r0=I7 then Fh F b rs r else if r0=Nz then r=Hx F b rs else r=(b,1))->D6 F b (r0::rs) r):=fun r h=>h
 obtain ⟨n,O⟩:∃ n,rs.length=n:=⟨_,rfl⟩;rw [O] at H D I C j T Z ⊢;clear hz R S N A x M hd J HA L O
 by_cases a:r0=Eo
 ·have m:Hid (D6 F b (r0::rs) (N8 F b rs)):=p.o _ (by rw [if_pos a])
  have y:(r0 == [100,97,121])=true:=by rw [a];decide
  clear p a k
  go_enter func137,ntmps137
  go_wp2_with fail
  refine Calls.mono H.o ?_;rintro e w' hs;obtain ⟨z,v,rfl,l⟩:=hs;have u:Hid (Wz E B K w (N8 F b rs) (.returned v) w'):=⟨z,v,rfl,l⟩;clear l;go_wp2;go_ret;exact Xe m.o u.o
 have b1:(r0 == [100,97,121])=false:=by simpa [Eo] using a
 by_cases d:r0=Dy
 ·have m:Hid (D6 F b (r0::rs) (Gt F b rs)):=p.o _ (by rw [if_neg a,if_pos d])
  have y:(r0 == [97,117,116,104])=true:=by rw [d];decide
  clear p a d k
  go_enter func137,ntmps137
  go_wp2_with fail
  refine Calls.mono D.o ?_;rintro e w' hs;obtain ⟨z,v,rfl,l⟩:=hs;have u:Hid (Wz E B K w (Gt F b rs) (.returned v) w'):=⟨z,v,rfl,l⟩;clear l;go_wp2;go_ret;exact Xe m.o u.o
 have b2:(r0 == [97,117,116,104])=false:=by simpa [Dy] using d
 by_cases f:r0=I7
 ·have m:Hid (∀ r,Fh F b rs r->D6 F b (r0::rs) r):=fun r U=>p.o _ (by rw [if_neg a,if_neg d,if_pos f];exact U)
  have y:(r0 == [112,97,121])=true:=by rw [f];decide
  clear p a d f k
  go_enter func137,ntmps137
  go_wp2_with fail
  refine Calls.mono I.o ?_;rintro e w' ⟨r,U,z,v,rfl,l⟩;have u:Hid (Wz E B K w r (.returned v) w'):=⟨z,v,rfl,l⟩;have HR:Hid (D6 F b (r0::rs) r):=m.o r U;clear l U m;go_wp2;go_ret;exact Xe HR.o u.o
 have b3:(r0 == [112,97,121])=false:=by simpa [I7] using f
 by_cases h4:r0=Nz
 ·have m:Hid (D6 F b (r0::rs) (Hx F b rs)):=p.o _ (by rw [if_neg a,if_neg d,if_neg f,if_pos h4])
  have y:(r0 == [97,99,116])=true:=by rw [h4];decide
  clear p a d f h4 k
  go_enter func137,ntmps137
  go_wp2_with fail
  refine Calls.mono C.o ?_;rintro e w' hs;obtain ⟨z,v,rfl,l⟩:=hs;have u:Hid (Wz E B K w (Hx F b rs) (.returned v) w'):=⟨z,v,rfl,l⟩;clear l;go_wp2;go_ret;exact Xe m.o u.o
 have b4:(r0 == [97,99,116])=false:=by simpa [Nz] using h4
 have m:Hid (D6 F b (r0::rs) (b,1)):=p.o _ (by rw [if_neg a,if_neg d,if_neg f,if_neg h4])
 clear p a d f h4
 go_enter func137,ntmps137
 go_wp2;go_ret
 exact Xe m.o (Et Y.o (by decide) X.o V.o)
end Kb
namespace Kb
open Go.RowKit Go.MuLone Go.Proofs.Tryz
def Jd (b:Bk) (d:List UInt8):Bk:=⟨b.today,b.off,b.az,b.cs,b.ls,b.log++[d]⟩
def D9 (F:Ff) (b:Bk) (d:List UInt8) (r:Bk×Int):Prop :=
 if 600<=b.log.length then r=(b,2) else ∃ r0,D6 F b (Ab d) r0/\r=if r0.2=0 then (Jd r0.1 d,0) else r0
def FV (E:World->Prop) (y:Value):Prop:=∃ w,E w/\w.cell? (qzA 1 0)=some y
def rY (E:World->Prop) (b:Bk) (code:Int) (v:Value):Prop:=(code=0/\v=.nilIface)\/(code≠0/\∃ y,(if 600<=b.log.length then FV E y else NF E y)/\v=.iface 170 (.agg #[y,qzI code]))
def pM (E:World->Prop) (B K:Nat) (F:Ff) (b:Bk) (d:List UInt8) (w:World) (e:Ending) (w':World):Prop:=∃ r q v,D9 F b d r/\e=.returned v/\rY E b r.2 v/\KS B K 0 r.1 q w'/\Ce B w w'
theorem N7 {b6:Array Oper} {o:Oper} {a:Act} {w:World} {K:Act->World->Prop} {Q:Exit->Act->World->Prop} {E:Prop} (d4:o.guard=none) (s x:Operand)
  (ho:o.op=.call { callee:=.builtin .append,args:=#[s,x],argTypes:=#[23,23] }) (base:Nat) (v:Value) (n:Nat) (xs:List Value) (hs:a.eval s=v) (hown:w.ownsRow base 9 1 v n xs)
  (ao:Option Addr) (c:Nat) (rs:Be) (hx:a.eval x=.slice ao rs.length c) (hz:Bh w ao rs) (hn:n+rs.length<=4000000) (hbase:base<=w.heap.size)
  (h:∀ v' w',w'.ownsRow base 9 1 v' (n+rs.length) (xs++Am rs)->w.grownBy w' v.ownBlock->K (a.put o.dst v') w') :
  if Region.wanted o (yielded b6 a.tmps)=true then Oper.wp prog o a w K Q else E:=by
 have hw:Region.wanted o (yielded b6 a.tmps)=true:=by simp [Region.wanted,d4]
 rw [if_pos hw];obtain ⟨v',w',J,h1,h2⟩:=Ie w base o.type v n xs hown ao c rs hz hn hbase;unfold Oper.wp execOp
 simp only [ho,resolve,invoke,builtin,Sem.run_bind,Sem.run_pure,Result.andThen_ok,List.map_toArray,List.map_cons,List.map_nil,hs,hx,J]
 exact h v' w' h1 h2
theorem jD {u:World} {g:Nat} {r:List UInt8} (h:u.cell? (qzA g 0)=some (.string ⟨r.toArray⟩)):Bh u (some (qzA g 0)) [r] :=
 .inr ⟨g,0,rfl,World.block_lt_of_cell? u _ h,fun i hi=>by
  obtain rfl:i=0:=by simpa using hi
  simpa [Al] using h⟩
theorem kbG {B K:Nat} {st:Int} {b:Bk} {q:Bp} {W u t:World} (k:KS B K st b q W) (g:u.grownBy t (Value.slice q.g b.log.length q.gc).ownBlock) (h:BW W u):t.cell? (qzA K 7)=some (.slice q.g b.log.length q.gc)/\t.frozen? (qzA K 7)=false:=by
 have ku:=k.below h
 have zz:=ku.z.grown g (D8 ku.log ku.kt (by decide))
 exact ⟨zz.c7,zz.z7⟩
theorem jK (l:List UInt8):∃ r0 rs,Ab l=r0::rs:=by
 cases h:Ab l with
 | nil=>have:=(Fy l).1;rw [h] at this;simp at this
 | cons r rs=>exact ⟨r,rs,rfl⟩
theorem Sw {F:Ff} {b:Bk} {ws:Be} {r:Bk×Int} (h:D6 F b ws r):r.1.log=b.log:=by
 unfold D6 at h
 split at h
 ·rw [h];unfold N8 Fr;split
  ·split <;> rfl
  ·rfl
 split at h
 ·rw [h];unfold Gt Fq;split
  ·split <;> rfl
  ·rfl
 split at h
 ·unfold Fh at h
  split at h
  ·obtain ⟨x,-,rfl⟩:=h
   unfold Jk
   repeat' split
   all_goals rfl
  ·rw [h]
 split at h
 ·rw [h];unfold Hx Ja;split
  ·repeat' split
   all_goals rfl
  ·rfl
 ·rw [h]
theorem iDo_any {F:Ff} {E:World->Prop} {G B K:Nat} (KI:Rq F E G) (b1:G<=B) (HA:kM F E B K) (b:Bk) (q:Bp) (d:List UInt8) (w:World) (hk:KS B K 0 b q w) (hE:E w) (hP:Ej b) (hl:d.length<1048576) :
  Calls prog 83 #[.pointer (some (qzA K 0)),.string ⟨d.toArray⟩] w (pM E B K F b d w):=by
 have A:Hid (Rq F E G):=KI;have a6:Hid (G<=B):=b1;have b7:Hid (kM F E B K):=HA;have O:Hid (KS B K 0 b q w):=hk;have c8:Hid (E w):=hE;have a9:Hid (Ej b):=hP;have c0:=hk.z.c0;have z0:=hk.z.z0;clear KI b1 HA hk hE hP
 go_enter_defers func83,ntmps83
 go_wp2_with fail
 refine (lock_free muH (qzA K 0) w c0 z0).mono ?_;rintro e L ⟨rfl,V⟩
 have p:Hid (KS B K 1 b q L):=by rw [Hid,V];exact O.o.setSt 1
 have N:Hid (Ce B w L):=by rw [Hid,V];exact (Ce.refl _ _).setK O.o.kt O.o.hK
 have H:Hid (E L):=A.o.keep _ _ c8.o (N.o.b.mono a6.o);clear V c0 z0;have c7:=p.o.z.c7;have d5:b.log.length<=1048576:=a9.o.sm.2.2.2.2
 by_cases hfull:600<=b.log.length
 ·have b2:(600:Int)<=(b.log.length:Int):=by omega
  obtain ⟨et,ea,d3⟩:=A.o.eFull L H.o
  have U:Hid (if 600<=b.log.length then FV E (.iface et (.pointer (some ea))) else NF E (.iface et (.pointer (some ea)))):=by rw [Hid,if_pos hfull];exact ⟨L,H.o,d3⟩
  have Y:Hid (D9 F b d (b,2)):=by rw [Hid,D9,if_pos hfull]
  clear hfull;go_wp2_with fail
  refine leaves_cons (f:=114) (args:=#[.pointer (some (qzA K 0))]) (by simp) (by simp [go_sem]) ?_
  refine (unlock_deferred muH (qzA K 0) .returning _ p.o.z.c0 p.o.z.z0).mono ?_;rintro e t X ⟨rfl,rfl,rfl⟩
  exact ⟨_,results_tmp rfl _ _ _,(b,2),q,_,Y.o,rfl,.inr ⟨(by show (2:Int)≠0;decide),_,U.o,rfl⟩,p.o.setSt 0,N.o.setK p.o.kt p.o.hK⟩
 have b2:¬ (600:Int)<=(b.log.length:Int):=by omega
 have S:Hid (∀ r0,D6 F b (Ab d) r0->D9 F b d (if r0.2=0 then (Jd r0.1 d,0) else r0)):=fun r0 h=>by
  rw [D9,if_neg hfull];exact ⟨r0,h,rfl⟩
 have I:Hid (Calls prog 66 #[.string ⟨d.toArray⟩,.string ⟨#[32]⟩] L fun e w'=>∃ a,e=.returned (.slice a (Ab d).length (Ab d).length)/\Bh w' a (Ab d)/\BW L w'):=A.o.split d L (by omega) H.o
 have b5:=Fy d
 have b0:Hid (∀ r ∈ Ab d,r.length<=1048576):=fun r J=>by have:=Ee d r J;omega
 obtain ⟨r0,rs,b4⟩:=jK d;rw [b4] at S I b5 b0
 simp only [List.length_cons] at I b5
 clear b4 hfull;go_wp2_with fail
 refine Calls.mono I.o ?_;rintro e X ⟨a,rfl,ht,p2⟩;have a4:Hid (B<=L.heap.size):=p.o.lt;have d1:Hid (KS B K 1 b q X):=p.o.below p2;have b8:Hid (Ce B w X):=N.o.trans (.of p2 a4.o);have c9:Hid (E X):=A.o.grow H.o p2
 have a8:Hid (Calls prog 137 #[.pointer (some (qzA K 0)),.slice a (rs.length+1) (rs.length+1)] X (ObR E B K F b (r0::rs) X)):=gG A.o a6.o b7.o b q a rs.length r0 rs X d1.o c9.o a9.o ht (by omega) nL (by omega) (fun r J=>b0.o r (by simp [J]))
 clear p2 ht I c7;go_wp2_with fail
 refine Calls.mono a8.o ?_;rintro e w3 ⟨⟨m,c3⟩,J,Z,v,rfl,hv,k3,p3⟩;have j:Hid (KS B K 1 m Z w3):=k3;have a3:Hid (Ce B w w3):=b8.o.trans p3
 have Y:Hid (D9 F b d (if c3=0 then (Jd m d,0) else (m,c3))):=S.o (m,c3) J
 have M:m.log=b.log:=Sw J
 have g0:m.log.length<=1048576:=by rw [M];exact d5
 have C:Hid (B<=w3.heap.size):=j.o.lt;clear J k3 p3 a8 S M
 simp only at hv
 rcases hv with ⟨hc,rfl⟩ | ⟨hc,y,hy,rfl⟩
 ·subst hc
  have R:Hid (D9 F b d (Jd m d,0)):=Y.o;have c7:=j.o.z.c7
  have a7:=fun o=>(j.o.al o).z.c7
  have b9:Hid (∀ u,Calls prog 138 #[.string ⟨d.toArray⟩] u fun e w'=>e=.returned (.string ⟨d.toArray⟩)/\BW u w'):=fun u=>A.o.clone d u (by omega)
  have a5:Hid (∀ (u t:World) (a:Option Addr) (c:Nat),BW w3 u->u.grownBy t (Value.slice Z.g m.log.length Z.gc).ownBlock->t.ownsRow B 9 1 (.slice a (m.log.length+1) c) (m.log.length+1) (Am m.log++Am [d])->∃ q',KS B K 1 (Jd m d) q' (t.setCell (qzA K 7) (.slice a (m.log.length+1) c))/\Ce B w (t.setCell (qzA K 7) (.slice a (m.log.length+1) c))):=fun u t a c h g o=>by
   have o':t.ownsRow B 9 1 (.slice a (m.log++[d]).length c) (m.log++[d]).length (Am (m.log++[d])):=by
    rw [F6,List.length_append,List.length_singleton];exact o
   have h2:=(j.o.below h).setG g o';rw [List.length_append,List.length_singleton] at h2;have kh:=j.o.below h;have hu:Ce B w t:=(a3.o.trans (.of h C.o)).grownO g kh.log (Nat.le_trans C.o h.size) (.inr rfl)
   exact ⟨_,h2,hu.setK (kh.kt.grown g (D8 kh.log kh.kt (by decide))) j.o.hK⟩
  clear Y;go_upto_region 8 with fail
  refine wp_region_noPanic ?_
  go_region_law (first
   | (go_simp;go_at_call 138;(first | refine Calls.mono (b9.o _) ?_);rintro e u2 ⟨rfl,p2⟩;have k2:BW w3 u2:=next (by go_grown) p2;have d9:=(j.o.below k2).z.c7;have d8:=fun o=>((j.o.below k2).al o).z.c7;have T:Hid (w3.heap.size<=u2.heap.size):=k2.size;clear p2)
   | (refine N7 rfl (.tmp 33) (.tmp 36) rfl B (.slice Z.g m.log.length Z.gc) m.log.length (Am m.log) (by simp [Act.eval]) (Av j.o.log (by have:=T.o;go_grown)) (some ⟨u2.heap.size,0,none⟩) 1 [d] (by simp [Act.eval];try rfl) (jD (by simp)) (by simp;omega) (by have:=C.o;have:=k2.size;simp;omega) ?_
      intro v6 w6 o6 g6
      (try simp only [List.length_singleton] at o6)
      obtain ⟨va,vc,d6⟩:=Xf o6;subst d6;have d7:Hid (w6.ownsRow B 9 1 (.slice va (m.log.length+1) vc) (m.log.length+1) (Am m.log++Am [d])):=o6
      obtain ⟨y6,x6⟩:=kbG j.o g6 (by have:=T.o;go_grown)
      have d0:Hid _:=a5.o _ _ va vc (by have:=T.o;go_grown) g6 o6
      clear o6 g6)
   | fail)
  all_goals
   refine NoPanic.normal ?_;go_wp2_with fail
   obtain ⟨q',D,d2⟩:=d0.o
   refine leaves_cons (f:=114) (args:=#[.pointer (some (qzA K 0))]) (by simp) (by simp [go_sem]) ?_
   refine (unlock_deferred muH (qzA K 0) .returning _ D.z.c0 D.z.z0).mono ?_;rintro e t w7 ⟨rfl,rfl,rfl⟩;exact ⟨_,results_tmp rfl _ _ _,(Jd m d,0),q',_,R.o,rfl,.inl ⟨rfl,rfl⟩,D.setSt 0,d2.setK D.kt D.hK⟩
 ·have U:Hid (if 600<=b.log.length then FV E y else NF E y):=by rw [Hid,if_neg (by have:=b2;omega)];exact hy
  clear hy
  have R:Hid (D9 F b d (m,c3)):=by have h:=Y.o;rw [if_neg hc] at h;exact h
  clear Y;go_wp2_with fail
  refine leaves_cons (f:=114) (args:=#[.pointer (some (qzA K 0))]) (by simp) (by simp [go_sem]) ?_
  refine (unlock_deferred muH (qzA K 0) .returning _ j.o.z.c0 j.o.z.z0).mono ?_;rintro e t w4 ⟨rfl,rfl,rfl⟩;exact ⟨_,results_tmp rfl _ _ _,(m,c3),Z,_,R.o,rfl,.inr ⟨hc,_,U.o,rfl⟩,j.o.setSt 0,a3.o.setK j.o.kt j.o.hK⟩
end Kb
end Go.Proofs.YtomiclakhjncbaaGreatDoor
namespace Go.Proofs.YtomiclakhjncbaaGreatDoor
open Go.RowKit Go.Proofs.Tryz
theorem Kd:∃ i,prog.info? 269=some i/\i.zero=some (.agg #[qzI 0,qzI 0,qzI 0,qzI 0])/\i.size=4/\i.bytes=32:=by
 obtain ⟨i,A,D⟩:=Option.map_eq_some_iff.1 sI
 simp only [Prod.mk.injEq] at D
 exact ⟨i,A,D.1,D.2.1,D.2.2⟩
theorem Q1 (x y z t:Int):∀ u ∈ [Value.int .i64 x,qzI y,qzI z,qzI t],u.oneCell'=true:=by
 intro u L
 simp at L
 rcases L with rfl | rfl | rfl | rfl <;> rfl
theorem Jg {P:Program} {H:Array Oper} {o:Oper} {a:Act} {w:World} {K:Act->World->Prop} {Q:Exit->Act->World->Prop} {E:Prop}
  (hg:o.guard=none) (s x:Operand) (t:TypeId) (ho:o.op=Op.call { callee:=Callee.builtin Builtin.append,args:=#[s,x],argTypes:=#[t,t] })
  (base:Nat) (e:TypeId) (i:TypeInfo) (z:Value) (size bytes:Nat) (ht:P.underlying t=some (.slice e)) (hi:P.info? e=some i) (hz:i.zero=some z)
  (hsize:i.size=size) (hby:i.bytes=bytes) (hzs:z.cells.size=size) (hsz:0<size)
  (v:Value) (n:Nat) (xs:List Value) (hs:a.eval s=v) (hown:w.ownsRow base e size v n xs)
  (ad:Addr) (m c:Nat) (news:List Value) (hx:a.eval x=.slice (some ad) m c) (hl:news.length=m*size) (hnews:∀ j u,news[j]?=some u->w.cell? (ad.add j)=some u) (A:∀ u ∈ news,u.oneCell'=true)
  (h63:n+m<=maxLen) (hbytes:(n+m) * bytes<=140737488355328) (hbase:base<=w.heap.size)
  (h:∀ v' w',w'.ownsRow base e size v' (n+m) (xs++news)->w.grownBy w' v.ownBlock->(v'=.slice none 0 0 ↔ v=.slice none 0 0/\m=0)->K (a.put o.dst v') w') :
  if Region.wanted o (yielded H a.tmps)=true then Oper.wp P o a w K Q else E:=by
 rw [if_pos (by simp [Region.wanted,hg])]
 exact wp_append_own w s x t ho base e i z size bytes ht hi hz hsize hby hzs hsz v n xs hs hown ad m c news hx hl hnews A h63 hbytes hbase h
theorem Lt (a b:List En):Ba (a++b)=Ba a++Ba b:=by simp [Ba]
def H0 (c:Cs) (es:List En) (f g s:Int):List En:=if 0<s then es++[(f,g,c.cur,s)] else es
theorem Qy {c:Cs} {a:Ac} {t:Int} {zs:List Int} {p q l:Bool} (A:(!Oy a.rsn || (E8 a.rsn && !E4 c t))=p) (D:(decide (a.am<1) || (decide (c.am<a.am) || (decide (a.am<c.am) && !Gb a.rsn)))=q) (C:Bv t (C6 c.sta (Fs a.rsn) zs)=l) :
  Bs c a t zs=if p=true then 3 else if q=true then 2 else if l=true then 4 else 0:=by
 unfold Bs;rw [C]
 have e1:(Oy a.rsn=false\/(E8 a.rsn=true/\E4 c t=false)) ↔ p=true:=by rw [<- A];simp
 have e2:(¬ (1<=a.am/\a.am<=c.am)\/(a.am<c.am/\Gb a.rsn=false)) ↔ q=true:=by
  rw [<- D]
  cases Gb a.rsn
  ·simp;omega
  ·simp;omega
 simp only [e1,e2]
theorem Bn (u:World) (b i:Nat) (x:Value):Below b u (u.setCell (qzA b i) x):=Below.setCell (Below.refl b u) (show b<=b from Nat.le_refl b) x
def Dd (c:Cs) (a:Ac) (t:Int):Int:=if Bv t c.due=true then 4 else if 1<=a.am/\a.am<=c.cl then 0 else 2
theorem Sj {c:Cs} {a:Ac} {t:Int} (h:Dd c a t=0):1<=a.am/\a.am<=c.cl:=by
 unfold Dd at h
 split at h
 ·cases h
 ·split at h
  ·assumption
  ·cases h
theorem CB.under {s o B:Nat} {c:Cs} {u d:World} (h:CB s o c u) (b:Below B u d) (l:s<B):CB s o c d :=
 ⟨(b.cell (p:=(qzA s o)) l).trans h.f0,(b.cell (p:=(qzA s (o+1))) l).trans h.f1,(b.cell (p:=(qzA s (o+2))) l).trans h.f2,(b.cell (p:=(qzA s (o+3))) l).trans h.f3,(b.cell (p:=(qzA s (o+4))) l).trans h.f4,(b.cell (p:=(qzA s (o+5))) l).trans h.f5,(b.cell (p:=(qzA s (o+6))) l).trans h.f6,(b.cell (p:=(qzA s (o+7))) l).trans h.f7,(b.cell (p:=(qzA s (o+8))) l).trans h.f8,(b.cell (p:=(qzA s (o+9))) l).trans h.f9,(b.cell (p:=(qzA s (o+10))) l).trans h.f10,(b.cell (p:=(qzA s (o+11))) l).trans h.f11⟩
theorem FZ.under {s o B:Nat} {u d:World} (h:FZ s o u) (b:Below B u d) (l:s<B):FZ s o d :=
 ⟨(b.frozen (p:=(qzA s o)) l).trans h.z0,(b.frozen (p:=(qzA s (o+1))) l).trans h.z1,(b.frozen (p:=(qzA s (o+2))) l).trans h.z2,(b.frozen (p:=(qzA s (o+3))) l).trans h.z3,(b.frozen (p:=(qzA s (o+4))) l).trans h.z4,(b.frozen (p:=(qzA s (o+5))) l).trans h.z5,(b.frozen (p:=(qzA s (o+6))) l).trans h.z6,(b.frozen (p:=(qzA s (o+7))) l).trans h.z7,(b.frozen (p:=(qzA s (o+8))) l).trans h.z8,(b.frozen (p:=(qzA s (o+9))) l).trans h.z9,(b.frozen (p:=(qzA s (o+10))) l).trans h.z10,(b.frozen (p:=(qzA s (o+11))) l).trans h.z11⟩
structure BX (s:Nat) (c:Cs) (a:Ac) (u:World):Prop where
 cb:CB s 0 c u
 a0:u.cell? ⟨s+1,0,none⟩=some (qzI a.kind)
 a1:u.cell? ⟨s+1,1,none⟩=some (qzI a.am)
 a2:u.cell? ⟨s+1,2,none⟩=some (qzI a.rsn)
 rb:CB (s+1+1) 0 Br u
 rz:FZ (s+1+1) 0 u
theorem BX.under {s B:Nat} {c:Cs} {a:Ac} {u d:World} (h:BX s c a u) (b:Below B u d) (l:s+1+1<B):BX s c a d :=
 ⟨h.cb.under b (by omega),(b.cell (p:=⟨s+1,0,none⟩) (by show s+1<B;omega)).trans h.a0,(b.cell (p:=⟨s+1,1,none⟩) (by show s+1<B;omega)).trans h.a1,(b.cell (p:=⟨s+1,2,none⟩) (by show s+1<B;omega)).trans h.a2,h.rb.under b l,h.rz.under b l⟩
theorem BX.below {s:Nat} {c:Cs} {a:Ac} {u d:World} (h:BX s c a u) (b:BW u d):BX s c a d:=h.under b h.rb.lt
theorem BX.new (w:World) (c:Cs) (a:Ac) (F G I:TypeId):BX w.heap.size c a (((w.alloc (.cells #[qzI c.iss,qzI c.acq,qzI c.cur,qzI c.am,qzI c.st,qzI c.rsn,qzI c.cl,qzI c.bk,qzI c.fee,.bool c.cop,qzI c.sta,qzI c.due] F)).alloc (.cells #[qzI a.kind,qzI a.am,qzI a.rsn] G)).alloc (.cells #[qzI 0,qzI 0,qzI 0,qzI 0,qzI 0,qzI 0,qzI 0,qzI 0,qzI 0,.bool false,qzI 0,qzI 0] I)):=by
 have A:=CB.new w c F
 have J:∀ (u:World) (o:Obj),Below u.heap.size u (u.alloc o):=fun u o=>bR.alloc nL _
 have e2:((w.alloc (.cells #[qzI c.iss,qzI c.acq,qzI c.cur,qzI c.am,qzI c.st,qzI c.rsn,qzI c.cl,qzI c.bk,qzI c.fee,.bool c.cop,qzI c.sta,qzI c.due] F)).alloc (.cells #[qzI a.kind,qzI a.am,qzI a.rsn] G)).heap.size=w.heap.size+1+1:=by simp
 refine ⟨(A.below (J _ _)).below (J _ _),by simp [go_sem],by simp [go_sem],by simp [go_sem],?_,?_⟩
 ·have C:=CB.new ((w.alloc (.cells #[qzI c.iss,qzI c.acq,qzI c.cur,qzI c.am,qzI c.st,qzI c.rsn,qzI c.cl,qzI c.bk,qzI c.fee,.bool c.cop,qzI c.sta,qzI c.due] F)).alloc (.cells #[qzI a.kind,qzI a.am,qzI a.rsn] G)) Br I
  rw [e2] at C;exact C
 ·have C:=FZ.new ((w.alloc (.cells #[qzI c.iss,qzI c.acq,qzI c.cur,qzI c.am,qzI c.st,qzI c.rsn,qzI c.cl,qzI c.bk,qzI c.fee,.bool c.cop,qzI c.sta,qzI c.due] F)).alloc (.cells #[qzI a.kind,qzI a.am,qzI a.rsn] G)) #[qzI 0,qzI 0,qzI 0,qzI 0,qzI 0,qzI 0,qzI 0,qzI 0,qzI 0,.bool false,qzI 0,qzI 0] I
  rw [e2] at C;exact C
theorem dU (c:Cs) (a:Ac) (t:Int) (zs:List Int):(Bx c a t zs).cur=c.cur:=by
 unfold Bx
 repeat' split
 all_goals first | rfl | (unfold Cx;repeat' split) 
 all_goals rfl
def pM (w:World) (c:Cs) (es:List En) (r:Int) (e:Ending) (w':World):Prop :=
 ∃ k cap,e=.returned (.tuple #[cv c,.slice k es.length cap,qzI r])/\w'.ownsRow w.heap.size 269 4 (.slice k es.length cap) es.length (Ba es)/\BW w w'
theorem Ek {w u:World} {c:Cs} {es:List En} {r:Int} {k:Option Addr} {cap base:Nat} (hb:w.heap.size+1+1<base) (ho:u.ownsRow base 269 4 (.slice k es.length cap) es.length (Ba es)) (bel:BW w u) :
  pM w c es r (.returned (.tuple #[cv c,.slice k es.length cap,qzI r])) (Cz u (w.heap.size+1+1) c) :=
 ⟨k,cap,rfl,Bi (F3 c ho (fun g hg=>by have:=(ho.lt g hg).1;omega)) (by omega),Cp c bel (by omega)⟩
theorem tQ {w u:World} {c:Cs} {es:List En} {r:Int} {e:Ending} (h:pM w c es r e u):pM w c es r e u.drew:=by
 obtain ⟨k,cap,he,ho,hb⟩:=h;exact ⟨k,cap,he,Av ho (bR.drew),hb.drew⟩
theorem hZ {q:Option (Nat×Obj)} {w u:World} {H:List Cd} {g cap:Nat} (h:HP q w H (some (qzA g 0)) cap u) (v:0<H.length) :
  Calls prog 401 #[.slice (some (qzA g 0)) H.length cap,qzI 0,qzI 0] u fun e u'=>e=.returned (.tuple #[])/\HP q w (Cu H 0 0) (some (qzA g 0)) cap u':=by
 obtain ⟨k0,k1⟩:=h.at v;have f0:u.frozen? (qzA g 0)=false:=h.own.frozenAt _;have f1:u.frozen? (qzA g 1)=false:=h.own.frozenAt _
 have HR:Hid (HP q w (Cu H 0 0) (some (qzA g 0)) cap ((((u.setCell (qzA g 0) (qzI (Bc H 0).1)).setCell (qzA g 1) (qzI (Bc H 0).2)).setCell (qzA g 0) (qzI (Bc H 0).1)).setCell (qzA g 1) (qzI (Bc H 0).2))) :=
  (h.setAt v (Bc H 0)).setAt (by rw [List.length_set];exact v) (Bc H 0)
 obtain ⟨⟨a,b⟩,d⟩:∃ x,Bc H 0=x:=⟨_,rfl⟩;rw [d] at HR k0 k1
 simp only [Nat.zero_mul,Nat.zero_add] at k0 k1 HR
 have b3:(0:Int)<(H.length:Int):=by omega
 clear h d
 go_enter func401,ntmps401
 go_region_with (fail)
 all_goals
  go_wp2;go_end0;exact ⟨rfl,HR.o.below (bR.drew)⟩
theorem gZ {w u:World} {H:List Cd} {t:Option Addr} {cap:Nat} (h:HP none w H t cap u) (hh:F1 H) (s p:Int) (hn:H.length<=900) :
  Calls prog 281 #[iC w,.iface 294 (.agg #[qzI s,qzI p])] u fun e u'=>e=.returned (.tuple #[])/\∃ g c G,HP none w G (some (qzA g 0)) c u'/\F1 G/\Fv (H++[(s,p)]) G:=by
 obtain ⟨L,hL⟩:∃ L,H++[(s,p)]=L:=⟨_,rfl⟩
 have a9:Hid (Calls prog 403 #[.pointer (some ⟨w.heap.size,0,none⟩),.iface 294 (.agg #[qzI s,qzI p])] u fun e u'=>e=.returned (.tuple #[])/\∃ g c,HP none w L (some (qzA g 0)) c u'):=by rw [<- hL];exact eV h s p (by omega)
 have HN:Hid (Qr (H++[(s,p)]) H.length):=eK hh (s,p);have I:=mQ (.pointer (some ⟨w.heap.size,0,none⟩)) u
 have hl:(L.length:Int) - 1=(H.length:Int):=by rw [<- hL];simp
 have C:Hid (H.length<L.length/\L.length<=1000):=by rw [Hid,<- hL];simp;omega
 have b2:L.length<=1000:=C.o.2;rw [hL] at HN ⊢;clear h hh hL;unfold iC
 go_enter func281,ntmps281
 go_wp2_with fail
 refine Calls.mono a9.o ?_;rintro e u2 ⟨rfl,g,c,J⟩;have a7:Hid (HP none w L (some (qzA g 0)) c u2):=J;have F:=bC J.box;clear J I;go_wp2_with fail
 refine (Mv _ _ _ _).mono ?_;rintro e u3 ⟨rfl,i⟩;subst i;go_wp2_with fail
 refine (qI a7.o H.length C.o.1 C.o.2 HN.o).mono ?_;rintro e f ⟨rfl,G,r,hG,hS⟩;have D:Hid (HP none w G (some (qzA g 0)) c f):=r;have HG:Hid _:=hG;have HS:Hid _:=hS;clear r hG hS F;go_wp2;go_end0;exact ⟨rfl,g,c,G,D.o,HG.o,HS.o⟩
theorem iF {q:Option (Nat×Obj)} {w u:World} {H:List Cd} {g cap:Nat} (h:HP q w H (some (qzA g 0)) cap u) (m:Nat) (hm:H.length=m+1) (hn:H.length<=900) :
  Calls prog 283 #[iC w] u fun e u'=>e=.returned (.iface 294 (.agg #[qzI (Bc H 0).1,qzI (Bc H 0).2]))/\BW w u'/\∀ x o,q=some (x,o)->u'.heap[x]?=some o:=by
 have HH:Hid (HP q w H (some (qzA g 0)) cap u):=h;have F:=bC h.box;have b0:=Iv h.box
 have T:Hid (Calls prog 401 #[.slice (some (qzA g 0)) H.length cap,qzI 0,qzI m] u fun e u'=>e=.returned (.tuple #[])/\HP q w (Cu H 0 m) (some (qzA g 0)) cap u'):=by
  by_cases N:m=0
  ·subst N
   exact hZ h (by omega)
  ·exact Ke h 0 m (by omega) (by omega)
 have k:Hid ((Cu H 0 m).length=m+1/\Bc (Cu H 0 m) m=Bc H 0):=⟨by rw [Hc];exact hm,by rw [Fi (by omega) (by omega),La]⟩
 have hl:(H.length:Int) - 1=(m:Int):=by omega
 have R:Hid (m+1<=900):=by rw [Hid];omega
 obtain ⟨⟨a,b⟩,d⟩:∃ x,Bc H 0=x:=⟨_,rfl⟩;rw [d] at k ⊢
 simp only
 clear h hm d;unfold iC
 go_enter func283,ntmps283
 go_wp2_with fail
 refine (Mv _ _ _ _).mono ?_;rintro e u3 ⟨rfl,i⟩;subst i;go_wp2_with fail
 refine Calls.mono T.o ?_;rintro e f ⟨rfl,r⟩;have D:Hid (HP q w (Cu H 0 m) (some (qzA g 0)) cap f):=r;clear r F b0 T;go_wp2_with fail
 refine (mJ D.o m k.o.1 (by have:=k.o.1;have:=R.o;omega)).mono ?_
 rintro e u5 ⟨⟨z,rfl⟩,G,a4,Z,Y⟩;have a8:Hid (HP q w G (some (qzA g 0)) cap u5):=a4;have B:Hid (G.length=m+1/\Bc G m=(a,b)):=⟨Z.trans k.o.1,Y.trans k.o.2⟩;have I:=nV (.pointer (some ⟨w.heap.size,0,none⟩)) u5
 have j:Hid (Calls prog 402 #[.pointer (some ⟨w.heap.size,0,none⟩)] u5 fun e u'=>e=.returned (.iface 294 (.agg #[qzI a,qzI b]))/\BW w u'/\∀ x o,q=some (x,o)->u'.heap[x]?=some o):=by
  have:=kA a8.o m B.o.1 (by have:=B.o.1;have:=R.o;omega)
  rw [B.o.2] at this;exact this
 clear a4 Z Y;go_wp2_with fail
 refine Calls.mono j.o ?_;rintro e u6 ⟨rfl,b6⟩;have a5:Hid _:=b6;clear b6 I;go_wp2;go_ret;exact ⟨rfl,a5.o⟩
theorem dN {w u:World} {H:List Cd} {t:Option Addr} {cap:Nat} (h:HP none w H t cap u) (hh:F1 H) (s p:Int) (hn:H.length<=900) :
  Calls prog 252 #[.pointer (some ⟨w.heap.size,0,none⟩),qzI s,qzI p] u fun e u'=>e=.returned (.tuple #[])/\∃ g c G,HP none w G (some (qzA g 0)) c u'/\F1 G/\Fv (H++[(s,p)]) G:=by
 have S:Hid (Calls prog 281 #[iC w,.iface 294 (.agg #[qzI s,qzI p])] u fun e u'=>e=.returned (.tuple #[])/\∃ g c G,HP none w G (some (qzA g 0)) c u'/\F1 G/\Fv (H++[(s,p)]) G):=gZ h hh s p hn
 unfold iC at S;clear h hh
 go_enter func252,ntmps252
 go_wp2_with fail
 refine Calls.mono S.o ?_;rintro e f ⟨rfl,hx⟩;have HX:Hid _:=hx;clear hx;go_wp2;go_end0;exact ⟨rfl,HX.o⟩
theorem HP.name {w u:World} {H:List Cd} {t:Option Addr} {cap:Nat} (h:HP none w H t cap u) (o:Obj):HP (some (u.heap.size,o)) w H t cap (u.alloc o):=by
 have b:Below u.heap.size u (u.alloc o):=bR.alloc nL _;obtain ⟨h1,h2,h3,h4,_⟩:=h.below b
 refine ⟨h1,h2,h3,h4,fun x p e=>?_⟩
 injection e with e
 injection e with e1 e2
 subst e1 e2
 exact ⟨Array.getElem?_push_size,h.lt,fun y hy=>by have:=(h.own.lt y hy).2;omega⟩
theorem Vj {w u:World} {H:List Cd} {t:Option Addr} {cap:Nat} (h:HP none w H t cap u) (hn:H.length<=900) (N:0<H.length) :
  Calls prog 253 #[.pointer (some ⟨w.heap.size,0,none⟩)] u fun e u'=>e=.returned (.tuple #[.agg #[qzI (Bc H 0).1,qzI (Bc H 0).2],.bool true])/\BW w u':=by
 obtain ⟨g,rfl,-,-⟩:=h.row N
 obtain ⟨m,hm⟩:∃ m,H.length=m+1:=⟨H.length - 1,by omega⟩
 have A:=h.name (.cells #[qzI 0,qzI 0] 294);have U:Hid (w.heap.size<u.heap.size):=h.lt;obtain ⟨W,l⟩:∃ W,u.alloc (.cells #[qzI 0,qzI 0] 294)=W:=⟨_,rfl⟩;rw [l] at A;have n:=A.box
 have j:Hid (Calls prog 283 #[iC w] W fun e u'=>e=.returned (.iface 294 (.agg #[qzI (Bc H 0).1,qzI (Bc H 0).2]))/\BW w u'/\∀ x o,some (u.heap.size,Obj.cells #[qzI 0,qzI 0] 294)=some (x,o)->u'.heap[x]?=some o):=iF A m hm hn
 unfold iC at j;have HW:Hid _:=l
 have b5:((H.length:Int) == 0)=false:=beq_eq_false_iff_ne.2 (by omega)
 obtain ⟨⟨a,b⟩,d⟩:∃ x,Bc H 0=x:=⟨_,rfl⟩;rw [d] at j ⊢
 simp only at j ⊢
 have ta:=tH a b;clear A h l d hm
 go_enter func253,ntmps253
 go_upto_region 1 with fail
 rw [HW.o];go_wp2_with fail
 refine (Mv _ _ _ _).mono ?_;rintro e u3 ⟨rfl,i⟩;subst i;go_wp2_with fail
 refine Calls.mono j.o ?_;rintro e f ⟨rfl,b4,a3⟩;have v:=a3 _ _ rfl;have lk:u.heap.size<f.heap.size:=(Array.getElem?_eq_some_iff.1 v).1
 have c0:f.cell? ⟨u.heap.size,0,none⟩=some (qzI 0):=by simp [World.cell?,v]
 have c1:f.cell? ⟨u.heap.size,1,none⟩=some (qzI 0):=by simp [World.cell?,v]
 have z0:f.frozen? ⟨u.heap.size,0,none⟩=false:=by simp [World.frozen?,v]
 have z1:f.frozen? ⟨u.heap.size,1,none⟩=false:=by simp [World.frozen?,v]
 have O:Hid (BW w f):=b4;clear b4 a3 v n;go_upto_region 4 with fail
 obtain ⟨V,X⟩:∃ V,f.alloc (.cells #[qzI a,qzI b] 294)=V:=⟨_,rfl⟩;have M:BW f V:=X ▸ bR.alloc nL _
 have d0:V.cell? ⟨f.heap.size,0,none⟩=some (qzI a):=by rw [<- X];simp
 have d1:V.cell? ⟨f.heap.size,1,none⟩=some (qzI b):=by rw [<- X];simp
 have e0:=(M.cell (p:=⟨u.heap.size,0,none⟩) lk).trans c0;have e1:=(M.cell (p:=⟨u.heap.size,1,none⟩) lk).trans c1;have e2:=(M.frozen (p:=⟨u.heap.size,0,none⟩) lk).trans z0;have e3:=(M.frozen (p:=⟨u.heap.size,1,none⟩) lk).trans z1;have a6:Hid (BW w V):=O.o.trans (M.mono O.o.size)
 have b7:¬ f.heap.size=u.heap.size:=by omega
 have b1:¬ u.heap.size=f.heap.size:=by omega
 rw [X];clear X M c0 c1 z0 z1;go_wp2
 refine bodyPost_ret (by simp [results,results253,go_sem,e0,e1];try rfl) rfl ?_
 exact ⟨rfl,(a6.o.setCell (Nat.le_of_lt U.o) _).setCell (Nat.le_of_lt U.o) _⟩
theorem Zg {w u:World} {H:List Cd} {t:Option Addr} {cap:Nat} (h:HP none w H t cap u) (N:H.length=0) :
  Calls prog 253 #[.pointer (some ⟨w.heap.size,0,none⟩)] u fun e u'=>e=.returned (.tuple #[.agg #[qzI 0,qzI 0],.bool false])/\BW w u':=by
 have A:=h.name (.cells #[qzI 0,qzI 0] 294);have U:Hid (w.heap.size<u.heap.size):=h.lt;obtain ⟨W,l⟩:∃ W,u.alloc (.cells #[qzI 0,qzI 0] 294)=W:=⟨_,rfl⟩
 have c0:W.cell? ⟨u.heap.size,0,none⟩=some (qzI 0):=by rw [<- l];simp
 have c1:W.cell? ⟨u.heap.size,1,none⟩=some (qzI 0):=by rw [<- l];simp
 have z0:W.frozen? ⟨u.heap.size,0,none⟩=false:=by rw [<- l];simp [go_sem]
 have z1:W.frozen? ⟨u.heap.size,1,none⟩=false:=by rw [<- l];simp [go_sem]
 rw [l] at A;have n:=A.box;rw [N] at n;have HB:Hid (BW w W):=A.bel;have HW:Hid _:=l;clear A h l N
 go_enter func253,ntmps253
 go_upto_region 1 with fail
 rw [HW.o];go_wp2_with fail
 refine (Mv _ _ _ _).mono ?_;rintro e u3 ⟨rfl,i⟩;subst i;go_wp2
 refine bodyPost_ret (by simp [results,results253,go_sem,c0,c1];try rfl) rfl ?_
 exact ⟨rfl,(HB.o.setCell (Nat.le_of_lt U.o) _).setCell (Nat.le_of_lt U.o) _⟩
structure DB (b:Nat) (c:Cs) (a:Ac) (t:Int) (o e:Value) (u:World):Prop where
 cb:CB b 0 c u
 a0:u.cell? (qzA b 12)=some (qzI a.kind)
 a1:u.cell? (qzA b 13)=some (qzI a.am)
 a2:u.cell? (qzA b 14)=some (qzI a.rsn)
 td:u.cell? (qzA b 15)=some (qzI t)
 ho:u.cell? (qzA b 16)=some o
 he:u.cell? (qzA b 17)=some e
 fz:FZ b 0 u
 fe:u.frozen? (qzA b 17)=false
theorem DB.below {b:Nat} {c:Cs} {a:Ac} {t:Int} {o e:Value} {u i:World} (h:DB b c a t o e u) (k:BW u i):DB b c a t o e i:=by
 have l:=h.cb.lt;exact ⟨h.cb.below k,(k.cell (p:=(qzA b 12)) l).trans h.a0,(k.cell (p:=(qzA b 13)) l).trans h.a1,(k.cell (p:=(qzA b 14)) l).trans h.a2,(k.cell (p:=(qzA b 15)) l).trans h.td,(k.cell (p:=(qzA b 16)) l).trans h.ho,(k.cell (p:=(qzA b 17)) l).trans h.he,h.fz.below l k,(k.frozen (p:=(qzA b 17)) l).trans h.fe⟩
theorem DB.grown {b:Nat} {c:Cs} {a:Ac} {t:Int} {o e:Value} {u i:World} {row:Option Nat} (h:DB b c a t o e u) (g:u.grownBy i row) (j:some b≠row):DB b c a t o e i:=by
 have l:=h.cb.lt;exact ⟨h.cb.grown g j,(g.cell_far (qzA b 12) l j).trans h.a0,(g.cell_far (qzA b 13) l j).trans h.a1,(g.cell_far (qzA b 14) l j).trans h.a2,(g.cell_far (qzA b 15) l j).trans h.td,(g.cell_far (qzA b 16) l j).trans h.ho,(g.cell_far (qzA b 17) l j).trans h.he,h.fz.grown l g j,(g.frozen_far (qzA b 17) l j).trans h.fe⟩
theorem DB.set4 {b:Nat} {c:Cs} {a:Ac} {t:Int} {o e:Value} {u:World} (h:DB b c a t o e u) (x:Int):DB b ⟨c.iss,c.acq,c.cur,c.am,x,c.rsn,c.cl,c.bk,c.fee,c.cop,c.sta,c.due⟩ a t o e (u.setCell (qzA b 4) (qzI x)):=by
 obtain ⟨⟨f0,f1,f2,f3,f4,f5,f6,f7,f8,f9,f10,f11⟩,a0,a1,a2,td,ho,he,⟨z0,z1,z2,z3,z4,z5,z6,z7,z8,z9,z10,z11⟩,fe⟩:=h
 simp only [Nat.zero_add] at f0 f1 f2 f3 f4 f5 f6 f7 f8 f9 f10 f11 z0 z1 z2 z3 z4 z5 z6 z7 z8 z9 z10 z11
 exact ⟨(by constructor<;>simp [go_sem, *]),by simp [go_sem,a0],by simp [go_sem,a1],by simp [go_sem,a2],by simp [go_sem,td],by simp [go_sem,ho],by simp [go_sem,he],(by constructor<;>simp [go_sem, *]),by simp [go_sem,fe]⟩
theorem DB.set5 {b:Nat} {c:Cs} {a:Ac} {t:Int} {o e:Value} {u:World} (h:DB b c a t o e u) (x:Int):DB b ⟨c.iss,c.acq,c.cur,c.am,c.st,x,c.cl,c.bk,c.fee,c.cop,c.sta,c.due⟩ a t o e (u.setCell (qzA b 5) (qzI x)):=by
 obtain ⟨⟨f0,f1,f2,f3,f4,f5,f6,f7,f8,f9,f10,f11⟩,a0,a1,a2,td,ho,he,⟨z0,z1,z2,z3,z4,z5,z6,z7,z8,z9,z10,z11⟩,fe⟩:=h
 simp only [Nat.zero_add] at f0 f1 f2 f3 f4 f5 f6 f7 f8 f9 f10 f11 z0 z1 z2 z3 z4 z5 z6 z7 z8 z9 z10 z11
 exact ⟨(by constructor<;>simp [go_sem, *]),by simp [go_sem,a0],by simp [go_sem,a1],by simp [go_sem,a2],by simp [go_sem,td],by simp [go_sem,ho],by simp [go_sem,he],(by constructor<;>simp [go_sem, *]),by simp [go_sem,fe]⟩
theorem DB.set6 {b:Nat} {c:Cs} {a:Ac} {t:Int} {o e:Value} {u:World} (h:DB b c a t o e u) (x:Int):DB b ⟨c.iss,c.acq,c.cur,c.am,c.st,c.rsn,x,c.bk,c.fee,c.cop,c.sta,c.due⟩ a t o e (u.setCell (qzA b 6) (qzI x)):=by
 obtain ⟨⟨f0,f1,f2,f3,f4,f5,f6,f7,f8,f9,f10,f11⟩,a0,a1,a2,td,ho,he,⟨z0,z1,z2,z3,z4,z5,z6,z7,z8,z9,z10,z11⟩,fe⟩:=h
 simp only [Nat.zero_add] at f0 f1 f2 f3 f4 f5 f6 f7 f8 f9 f10 f11 z0 z1 z2 z3 z4 z5 z6 z7 z8 z9 z10 z11
 exact ⟨(by constructor<;>simp [go_sem, *]),by simp [go_sem,a0],by simp [go_sem,a1],by simp [go_sem,a2],by simp [go_sem,td],by simp [go_sem,ho],by simp [go_sem,he],(by constructor<;>simp [go_sem, *]),by simp [go_sem,fe]⟩
theorem DB.set7 {b:Nat} {c:Cs} {a:Ac} {t:Int} {o e:Value} {u:World} (h:DB b c a t o e u) (x:Int):DB b ⟨c.iss,c.acq,c.cur,c.am,c.st,c.rsn,c.cl,x,c.fee,c.cop,c.sta,c.due⟩ a t o e (u.setCell (qzA b 7) (qzI x)):=by
 obtain ⟨⟨f0,f1,f2,f3,f4,f5,f6,f7,f8,f9,f10,f11⟩,a0,a1,a2,td,ho,he,⟨z0,z1,z2,z3,z4,z5,z6,z7,z8,z9,z10,z11⟩,fe⟩:=h
 simp only [Nat.zero_add] at f0 f1 f2 f3 f4 f5 f6 f7 f8 f9 f10 f11 z0 z1 z2 z3 z4 z5 z6 z7 z8 z9 z10 z11
 exact ⟨(by constructor<;>simp [go_sem, *]),by simp [go_sem,a0],by simp [go_sem,a1],by simp [go_sem,a2],by simp [go_sem,td],by simp [go_sem,ho],by simp [go_sem,he],(by constructor<;>simp [go_sem, *]),by simp [go_sem,fe]⟩
theorem DB.set8 {b:Nat} {c:Cs} {a:Ac} {t:Int} {o e:Value} {u:World} (h:DB b c a t o e u) (x:Int):DB b ⟨c.iss,c.acq,c.cur,c.am,c.st,c.rsn,c.cl,c.bk,x,c.cop,c.sta,c.due⟩ a t o e (u.setCell (qzA b 8) (qzI x)):=by
 obtain ⟨⟨f0,f1,f2,f3,f4,f5,f6,f7,f8,f9,f10,f11⟩,a0,a1,a2,td,ho,he,⟨z0,z1,z2,z3,z4,z5,z6,z7,z8,z9,z10,z11⟩,fe⟩:=h
 simp only [Nat.zero_add] at f0 f1 f2 f3 f4 f5 f6 f7 f8 f9 f10 f11 z0 z1 z2 z3 z4 z5 z6 z7 z8 z9 z10 z11
 exact ⟨(by constructor<;>simp [go_sem, *]),by simp [go_sem,a0],by simp [go_sem,a1],by simp [go_sem,a2],by simp [go_sem,td],by simp [go_sem,ho],by simp [go_sem,he],(by constructor<;>simp [go_sem, *]),by simp [go_sem,fe]⟩
theorem DB.set11 {b:Nat} {c:Cs} {a:Ac} {t:Int} {o e:Value} {u:World} (h:DB b c a t o e u) (x:Int):DB b ⟨c.iss,c.acq,c.cur,c.am,c.st,c.rsn,c.cl,c.bk,c.fee,c.cop,c.sta,x⟩ a t o e (u.setCell (qzA b 11) (qzI x)):=by
 obtain ⟨⟨f0,f1,f2,f3,f4,f5,f6,f7,f8,f9,f10,f11⟩,a0,a1,a2,td,ho,he,⟨z0,z1,z2,z3,z4,z5,z6,z7,z8,z9,z10,z11⟩,fe⟩:=h
 simp only [Nat.zero_add] at f0 f1 f2 f3 f4 f5 f6 f7 f8 f9 f10 f11 z0 z1 z2 z3 z4 z5 z6 z7 z8 z9 z10 z11
 exact ⟨(by constructor<;>simp [go_sem, *]),by simp [go_sem,a0],by simp [go_sem,a1],by simp [go_sem,a2],by simp [go_sem,td],by simp [go_sem,ho],by simp [go_sem,he],(by constructor<;>simp [go_sem, *]),by simp [go_sem,fe]⟩
theorem DB.set9 {b:Nat} {c:Cs} {a:Ac} {t:Int} {o e:Value} {u:World} (h:DB b c a t o e u) (x:Bool):DB b ⟨c.iss,c.acq,c.cur,c.am,c.st,c.rsn,c.cl,c.bk,c.fee,x,c.sta,c.due⟩ a t o e (u.setCell (qzA b 9) (.bool x)):=by
 obtain ⟨⟨f0,f1,f2,f3,f4,f5,f6,f7,f8,f9,f10,f11⟩,a0,a1,a2,td,ho,he,⟨z0,z1,z2,z3,z4,z5,z6,z7,z8,z9,z10,z11⟩,fe⟩:=h
 simp only [Nat.zero_add] at f0 f1 f2 f3 f4 f5 f6 f7 f8 f9 f10 f11 z0 z1 z2 z3 z4 z5 z6 z7 z8 z9 z10 z11
 exact ⟨(by constructor<;>simp [go_sem, *]),by simp [go_sem,a0],by simp [go_sem,a1],by simp [go_sem,a2],by simp [go_sem,td],by simp [go_sem,ho],by simp [go_sem,he],(by constructor<;>simp [go_sem, *]),by simp [go_sem,fe]⟩
theorem DB.set17 {b:Nat} {c:Cs} {a:Ac} {t:Int} {o e:Value} {u:World} (h:DB b c a t o e u) (x:Value):DB b c a t o x (u.setCell (qzA b 17) x):=by
 obtain ⟨⟨f0,f1,f2,f3,f4,f5,f6,f7,f8,f9,f10,f11⟩,a0,a1,a2,td,ho,he,⟨z0,z1,z2,z3,z4,z5,z6,z7,z8,z9,z10,z11⟩,fe⟩:=h
 simp only [Nat.zero_add] at f0 f1 f2 f3 f4 f5 f6 f7 f8 f9 f10 f11 z0 z1 z2 z3 z4 z5 z6 z7 z8 z9 z10 z11
 exact ⟨(by constructor<;>simp [go_sem, *]),by simp [go_sem,a0],by simp [go_sem,a1],by simp [go_sem,a2],by simp [go_sem,td],by simp [go_sem,ho],by simp [go_sem,he],(by constructor<;>simp [go_sem, *]),by simp [go_sem,fe]⟩
structure Env (b:Nat) (d:Option Addr) (zs:List Int) (u:World):Prop where
 offs:Il b u d zs
 tab:Di u
 gb:16<b
theorem Di.under {b:Nat} {w w':World} (h:Di w) (hb:Below b w w') (hg:16<b):Di w':=by
 have e : prog.globalNamed "loop.example/g00126/impl.stepDays" = some 16 := by kernel_rfl
 unfold Di Lib.TabIs World.var? at *;rw [e] at h ⊢
 simp only [Option.bind_some] at h ⊢
 rw [hb.block _ hg];exact h
theorem Env.keep {b:Nat} {d:Option Addr} {zs:List Int} {u i:World} (h:Env b d zs u) (k:Below b u i):Env b d zs i:=⟨h.offs.keep k,h.tab.under k h.gb,h.gb⟩
structure DS (b:Nat) (d:Option Addr) (f:Nat) (zs:List Int) (a:Ac) (t:Int) (c:Cs) (es:List En) (v:Value) (u:World):Prop where
 db:DB b c a t (.slice d zs.length f) v u
 own:u.ownsRow (b+1) 269 4 v es.length (Ba es)
 env:Env b d zs u
theorem DS.lt {b:Nat} {d:Option Addr} {f:Nat} {zs:List Int} {a:Ac} {t:Int} {c:Cs} {es:List En} {v:Value} {u:World} (h:DS b d f zs a t c es v u):b<u.heap.size:=h.db.cb.lt
theorem DS.below {b:Nat} {d:Option Addr} {f:Nat} {zs:List Int} {a:Ac} {t:Int} {c:Cs} {es:List En} {v:Value} {u i:World} (h:DS b d f zs a t c es v u) (k:BW u i):DS b d f zs a t c es v i :=
 ⟨h.db.below k,Av h.own k,h.env.keep (k.mono (Nat.le_of_lt h.lt))⟩
theorem DS.offs {b:Nat} {d:Option Addr} {f:Nat} {zs:List Int} {a:Ac} {t:Int} {c:Cs} {es:List En} {v:Value} {u:World} (h:DS b d f zs a t c es v u):Aw u d zs:=h.env.offs.at (Nat.le_of_lt h.lt)
theorem Bj {b n:Nat} {t:TypeId} {v:Value} {m:List Value} {u:World} (h:u.ownsRow (b+1) t 4 v n m):∀ g,v.ownBlock=some g->g≠b:=fun g hg=>by have:=(h.lt g hg).1;omega
theorem DS.set4 {b:Nat} {d:Option Addr} {f:Nat} {zs:List Int} {a:Ac} {t:Int} {c:Cs} {es:List En} {v:Value} {u:World} (h:DS b d f zs a t c es v u) (x:Int):DS b d f zs a t ⟨c.iss,c.acq,c.cur,c.am,x,c.rsn,c.cl,c.bk,c.fee,c.cop,c.sta,c.due⟩ es v (u.setCell (qzA b 4) (qzI x)) :=
 ⟨h.db.set4 x,A5 h.own _ _ (Bj h.own),h.env.keep (Bn _ _ _ _)⟩
theorem DS.set5 {b:Nat} {d:Option Addr} {f:Nat} {zs:List Int} {a:Ac} {t:Int} {c:Cs} {es:List En} {v:Value} {u:World} (h:DS b d f zs a t c es v u) (x:Int):DS b d f zs a t ⟨c.iss,c.acq,c.cur,c.am,c.st,x,c.cl,c.bk,c.fee,c.cop,c.sta,c.due⟩ es v (u.setCell (qzA b 5) (qzI x)) :=
 ⟨h.db.set5 x,A5 h.own _ _ (Bj h.own),h.env.keep (Bn _ _ _ _)⟩
theorem DS.set6 {b:Nat} {d:Option Addr} {f:Nat} {zs:List Int} {a:Ac} {t:Int} {c:Cs} {es:List En} {v:Value} {u:World} (h:DS b d f zs a t c es v u) (x:Int):DS b d f zs a t ⟨c.iss,c.acq,c.cur,c.am,c.st,c.rsn,x,c.bk,c.fee,c.cop,c.sta,c.due⟩ es v (u.setCell (qzA b 6) (qzI x)) :=
 ⟨h.db.set6 x,A5 h.own _ _ (Bj h.own),h.env.keep (Bn _ _ _ _)⟩
theorem DS.set7 {b:Nat} {d:Option Addr} {f:Nat} {zs:List Int} {a:Ac} {t:Int} {c:Cs} {es:List En} {v:Value} {u:World} (h:DS b d f zs a t c es v u) (x:Int):DS b d f zs a t ⟨c.iss,c.acq,c.cur,c.am,c.st,c.rsn,c.cl,x,c.fee,c.cop,c.sta,c.due⟩ es v (u.setCell (qzA b 7) (qzI x)) :=
 ⟨h.db.set7 x,A5 h.own _ _ (Bj h.own),h.env.keep (Bn _ _ _ _)⟩
theorem DS.set8 {b:Nat} {d:Option Addr} {f:Nat} {zs:List Int} {a:Ac} {t:Int} {c:Cs} {es:List En} {v:Value} {u:World} (h:DS b d f zs a t c es v u) (x:Int):DS b d f zs a t ⟨c.iss,c.acq,c.cur,c.am,c.st,c.rsn,c.cl,c.bk,x,c.cop,c.sta,c.due⟩ es v (u.setCell (qzA b 8) (qzI x)) :=
 ⟨h.db.set8 x,A5 h.own _ _ (Bj h.own),h.env.keep (Bn _ _ _ _)⟩
theorem DS.set11 {b:Nat} {d:Option Addr} {f:Nat} {zs:List Int} {a:Ac} {t:Int} {c:Cs} {es:List En} {v:Value} {u:World} (h:DS b d f zs a t c es v u) (x:Int):DS b d f zs a t ⟨c.iss,c.acq,c.cur,c.am,c.st,c.rsn,c.cl,c.bk,c.fee,c.cop,c.sta,x⟩ es v (u.setCell (qzA b 11) (qzI x)) :=
 ⟨h.db.set11 x,A5 h.own _ _ (Bj h.own),h.env.keep (Bn _ _ _ _)⟩
theorem DS.set9 {b:Nat} {d:Option Addr} {f:Nat} {zs:List Int} {a:Ac} {t:Int} {c:Cs} {es:List En} {v:Value} {u:World} (h:DS b d f zs a t c es v u) (x:Bool):DS b d f zs a t ⟨c.iss,c.acq,c.cur,c.am,c.st,c.rsn,c.cl,c.bk,c.fee,x,c.sta,c.due⟩ es v (u.setCell (qzA b 9) (.bool x)) :=
 ⟨h.db.set9 x,A5 h.own _ _ (Bj h.own),h.env.keep (Bn _ _ _ _)⟩
def DR (b:Nat) (d:Option Addr) (f:Nat) (zs:List Int) (a:Ac) (t:Int) (w:World) (r:Value) (c:Cs) (es:List En) (e:Ending) (w':World):Prop :=
 e=.returned r/\(∃ v,DS b d f zs a t c es v w')/\Below b w w'
theorem oN (w:World):Calls prog 257 #[qzI 0] w fun e w'=>e=.returned ((.func (.func 288) #[] #[]))/\BW w w':=by
 go_enter func257,ntmps257
 go_wp2;go_ret
 exact ⟨rfl,by go_grown⟩
theorem pL (w:World):Calls prog 257 #[qzI 1] w fun e w'=>e=.returned ((.func (.func 289) #[] #[]))/\BW w w':=by
 go_enter func257,ntmps257
 go_wp2;go_ret
 exact ⟨rfl,by go_grown⟩
theorem nN (w:World):Calls prog 257 #[qzI 2] w fun e w'=>e=.returned ((.func (.func 290) #[] #[]))/\BW w w':=by
 go_enter func257,ntmps257
 go_wp2;go_ret
 exact ⟨rfl,by go_grown⟩
theorem nF (w:World):Calls prog 257 #[qzI 3] w fun e w'=>e=.returned ((.func (.func 291) #[] #[]))/\BW w w':=by
 go_enter func257,ntmps257
 go_wp2;go_ret
 exact ⟨rfl,by go_grown⟩
theorem pE (w:World):Calls prog 257 #[qzI 4] w fun e w'=>e=.returned ((.func (.func 292) #[] #[]))/\BW w w':=by
 go_enter func257,ntmps257
 go_wp2;go_ret
 exact ⟨rfl,by go_grown⟩
theorem nH (w:World):Calls prog 257 #[qzI 5] w fun e w'=>e=.returned ((.func (.func 293) #[] #[]))/\BW w w':=by
 go_enter func257,ntmps257
 go_wp2;go_ret
 exact ⟨rfl,by go_grown⟩
theorem nM (w:World):Calls prog 257 #[qzI 6] w fun e w'=>e=.returned ((.func (.func 294) #[] #[]))/\BW w w':=by
 go_enter func257,ntmps257
 go_wp2;go_ret
 exact ⟨rfl,by go_grown⟩
theorem oS (w:World):Calls prog 257 #[qzI 7] w fun e w'=>e=.returned ((.func (.func 295) #[] #[]))/\BW w w':=by
 go_enter func257,ntmps257
 go_wp2;go_ret
 exact ⟨rfl,by go_grown⟩
theorem pN (w:World):Calls prog 257 #[qzI 8] w fun e w'=>e=.returned ((.func (.func 296) #[] #[]))/\BW w w':=by
 go_enter func257,ntmps257
 go_wp2;go_ret
 exact ⟨rfl,by go_grown⟩
theorem oY (w:World):Calls prog 257 #[qzI 9] w fun e w'=>e=.returned ((.func (.func 297) #[] #[]))/\BW w w':=by
 go_enter func257,ntmps257
 go_wp2;go_ret
 exact ⟨rfl,by go_grown⟩
theorem fV (F:Ff) (K:Nc F) {f:Bk->Prop} (d:∀ b,f b->D0 b) {g:Bk->Int->Int->Int->Int->Bk×Int->Prop} {Act:Bk->Int->Ac->Bk×Int} (ST:Tp f g Act) (b:Bk) (p:Bp) (a:List UInt8) (w:World) (i:Aq w b p) (c:Vb p w.heap.size) (h:f b) (hl:a.length<=1048575) :
  Calls prog 84 #[C5 b p,.string ⟨a.toArray⟩] w fun e w'=>∃ r,Db F g Act b a r/\U8 w p r.1 r.2 e w':=by
 cases h1:Ca (Ab a)
 case true=>exact Xw F K d ST b p a w i c h hl h1
 case false =>
  cases h2:Bq (Ab a)
  case true=>exact Zd F K d ST b p a w i c h hl ⟨h1,h2⟩
  case false =>
   cases h3:Da (Ab a)
   case true=>exact Zy F K d ST b p a w i c h hl ⟨h1,h2,h3⟩
   case false=>exact Zh F K d ST b p a w i c h hl ⟨h1,h2,h3⟩
end Go.Proofs.YtomiclakhjncbaaGreatDoor
