import Derived.Test.YtfpafnefpmmofaaGreatDoorKWKbPay
import Derived.Test.YtfpafnefpmmofaaGreatDoorKWSDo1
import Derived.Test.YtfpafnefpmmofaaGreatDoorKWFDis1
import Derived.Stop.Asserts
set_option maxRecDepth 100000
set_option maxHeartbeats 12800000
namespace Go.Proofs.YtfpafnefpmmofaaGreatDoor
namespace Kb
open Go.RowKit Go.Proofs.Tryz
theorem Um (u:ql) (g k:Nat) (D:Cs):u.grownBy (Kq u g k D) (some g):=by
 unfold Kq;exact ((((((((((((An _ g (k*12) _).t (An _ g (k*12+1) _)).t (An _ g (k*12+2) _)).t (An _ g (k*12+3) _)).t (An _ g (k*12+4) _)).t (An _ g (k*12+5) _)).t (An _ g (k*12+6) _)).t (An _ g (k*12+7) _)).t (An _ g (k*12+8) _)).t (An _ g (k*12+9) _)).t (An _ g (k*12+10) _)).t (An _ g (k*12+11) _))
theorem KS.putC {B K:Nat} {st:Int} {b:Bk} {q:Bp} {u:ql} (h:KS B K st b q u) {g:Nat} (a:q.c=some (qzA g 0)) {k:Nat} (hk:k<b.cs.length) (D:Cs) :
  KS B K st ⟨b.today,b.off,b.az,b.cs.set k D,b.ls,b.log⟩ q (Kq u g k D):=by
 have gr:u.grownBy (Kq u g k D) (Value.slice q.c b.cs.length q.cc).ownBlock:=by
  rw [a];exact Um u g k D
 have f:=E8 h.cs h.kt (by decide)
 have d:=h.cs;rw [a] at d;have r:=Sz D hk d;have z:=h.z.grown gr f
 refine ⟨?_,h.kt.grown gr f,h.off.kept gr (A7 h.off h.cs (by decide)),h.az.kept gr (A7 h.az h.cs (by decide)),?_,h.ls.kept gr (A7 h.ls h.cs (by decide)),h.log.kept gr (A7 h.log h.cs (by decide)),h.hK⟩
 ·simp only [List.length_set];exact z
 ·simp only [List.length_set];rw [a];exact r
def Pt (F:Ii) (b:Bk) (rs:Bn):Bk×Int :=
 if rs.length=4/\0<=Cp (Ao rs 1)/\Ax [Ao rs 0,Ao rs 2,Ao rs 3]=true then Mc F b (Ah (Ao rs 0)) ⟨Cp (Ao rs 1),Ah (Ao rs 2),Ah (Ao rs 3)⟩ else (b,1)
def Af7 (F:Ii) (E:ql->Prop) (B K:Nat):Prop:=∀ (b:Bk) (q:Bp) (ao:qm) (cap:Nat) (rs:Bn) (w:ql),KS B K 1 b q w->E w->Hk b->Bw w ao rs->(∀ r ∈ rs,r.length<=1048576) ->
  qi 178 #[qh K,qf ao rs.length cap] w (rX E B K w (Pt F b rs))
def Af6 (F:Ii) (E:ql->Prop) (B K:Nat):Prop:=∀ (b:Bk) (q:Bp) (ao:qm) (cap:Nat) (rs:Bn) (w:ql),KS B K 1 b q w->E w->Hk b->Bw w ao rs->rs.length<=1048576->(∀ r ∈ rs,r.length<=1048576) ->
  qi 175 #[qh K,qf ao rs.length cap] w (rX E B K w (eF F b rs))
def Hq (F:Ii) (b:Bk) (ws:Bn) (r:Bk×Int):Prop :=
 if Ao ws 0=F1 then r=eF F b (ws.drop 1) else if Ao ws 0=Eo then r=Ko F b (ws.drop 1) else if Ao ws 0=M7 then Km F b (ws.drop 1) r else if Ao ws 0=S5 then r=Pt F b (ws.drop 1) else r=(b,1)
def ObR (E:ql->Prop) (B K:Nat) (F:Ii) (b:Bk) (ws:Bn) (w:ql) (e:Ending) (w':ql):Prop:=∃ r,Hq F b ws r/\rX E B K w r e w'
theorem xF {w:ql} {ao:qm} {r:qn} {rs:Bn} (h:Bw w ao (r::rs)):∃ g off,ao=some (qzA g off)/\w.cell? (qzA g off)=some (qd r)/\Bw w (some (qzA g (off+1))) rs:=by
 rcases h with h|⟨g,off,a,d,f⟩
 ·cases h
 ·refine ⟨g,off,a,f 0 (by simp),.inr ⟨g,off+1,rfl,d,λi hi=>?_⟩⟩
  have:=f (i+1) (by simp;omega)
  rw [show off+1+i=off+(i+1) from by omega]
  exact this
theorem oK:prog.elem 28=9:=by simp [Program.elem,underlying28]
theorem pU:prog.underlying 28=some (.slice (prog.elem 28)):=by rw [oK];exact underlying28
theorem Aaq (w:ql):(sizeOf 9).run prog w=.ok 1 w:=by
 obtain ⟨i0,hi,a4,X,a5⟩:=info_parts Zk
 simp [sizeOf,typeInfo,hi,X]
theorem oI {g off n c:Nat} (hn:n<=c):∃ O:qm,(n=0\/O=some (qzA g (off+1))) /\
  ∀ W:ql,(Instr.slice 28 (qf (some (qzA g off)) (n+1) (c+1)) (some (qzI 1)) none none).run prog W=.ok (qf O n c) W:=by
 by_cases h0:c=0
 ·refine ⟨some (qzA g off),.inl (by omega),λW=>?_⟩
  rw [run_slice_l W _ _ _ _ pU .i64 _ (by omega) (by omega),oK,Aaq]
  simp [Result.andThen,sliced,h0]
  try omega
 ·refine ⟨some (qzA g (off+1)),.inr rfl,λW=>?_⟩
  rw [run_slice_l W _ _ _ _ pU .i64 _ (by omega) (by omega),oK,Aaq]
  simp [Result.andThen,sliced,h0,Addr.add]
  try omega
theorem jE {E:ql->Prop} {B K:Nat} {F:Ii} {b:Bk} {ws:Bn} {w w':ql} {e:Ending} {r:Bk×Int} (h:Hq F b ws r) (hs:rX E B K w r e w'):ObR E B K F b ws w e w':=⟨r,h,hs⟩
theorem uE {F:Ii} {E:ql->Prop} {G B K:Nat} (N:qJ F E G) (H:G<=B) (Y:Af7 F E B K) (b:Bk) (q:Bp) (ao:qm) (c:Nat) (r0:qn) (rs:Bn) (w:ql) (hk:KS B K 1 b q w) (x:E w) (I:Hk b) (hz:Bw w ao (r0::rs)) (hn:rs.length<=1048576) (j:rs.length<=c) (a3:c<=1048576) (hd:∀ r ∈ rs,r.length<=1048576) (Z:r0=F1->Af6 F E B K) :
  qi 133 #[qh K,qf ao (rs.length+1) (c+1)] w (ObR E B K F b (r0::rs) w):=by
 obtain ⟨g,off,rfl,t0,M⟩:=xF hz;obtain ⟨O,J,V⟩:=oI (g:=g) (off:=off) j
 have ht:Bw w O rs:=by
  rcases J with h|h
  ·exact .inl (qz h)
  ·rw [h];exact M
 obtain ⟨et,ea,k⟩:=N.eLine w x
 have U:qj (NF E (.iface et (.pointer (some ea)))):=⟨w,1,x,by decide,k⟩
 have t:=Aa λh=>Z h b q _ c rs w hk x I ht hn hd
 have C:=Aa (xL N b q _ c rs w hk x I ht j (by omega) hd)
 have D:=Aa (Abf N H b q _ c rs w hk x I ht hn hd);have A:=Aa (Y b q _ c rs w hk x I ht hd);have T:=Aa hk;have S:qj (C5 B w w):=.refl _ _
 have s:qj (∀ r,(if r0=F1 then r=eF F b rs else if r0=Eo then r=Ko F b rs else if r0=M7 then Km F b rs r else if r0=S5 then r=Pt F b rs else r=(b,1))->Hq F b (r0::rs) r):=λr h=>h
 obtain ⟨n,L⟩:=Ae rs.length;rw [L] at t C D A j hn V ⊢;clear hz ht M J hk x I hd N Y H L Z
 by_cases a:r0=F1
 ·have p:=Aa (s.o _ (by rw [if_pos a]))
  have y:(r0 == [100,97,121])=true:=by rw [a];decide
  replace t:=Aa (t.o a);clear s a k
  go_enter func133,ntmps133
  go_wp2_with fail
  refine Calls.m t.o ?_;rintro e w' hs;obtain ⟨z,v,rfl,l⟩:=hs;have u:qj (rX E B K w (eF F b rs) (.returned v) w'):=⟨z,v,rfl,l⟩;clear l;go_wp2;go_ret;exact jE p.o u.o
 have b1:(r0 == [100,97,121])=false:=by simpa [F1] using a
 by_cases d:r0=Eo
 ·have p:=Aa (s.o _ (by rw [if_neg a,if_pos d]))
  have y:(r0 == [97,117,116,104])=true:=by rw [d];decide
  clear s a d k
  go_enter func133,ntmps133
  go_wp2_with fail
  refine Calls.m C.o ?_;rintro e w' hs;obtain ⟨z,v,rfl,l⟩:=hs;have u:qj (rX E B K w (Ko F b rs) (.returned v) w'):=⟨z,v,rfl,l⟩;clear l;go_wp2;go_ret;exact jE p.o u.o
 have b2:(r0 == [97,117,116,104])=false:=by simpa [Eo] using d
 by_cases f:r0=M7
 ·have p:qj (∀ r,Km F b rs r->Hq F b (r0::rs) r):=λr R=>s.o _ (by rw [if_neg a,if_neg d,if_pos f];exact R)
  have y:(r0 == [112,97,121])=true:=by rw [f];decide
  clear s a d f k
  go_enter func133,ntmps133
  go_wp2_with fail
  refine Calls.m D.o ?_;rintro e w' ⟨r,R,z,v,rfl,l⟩;have u:qj (rX E B K w r (.returned v) w'):=⟨z,v,rfl,l⟩;have HR:=Aa (p.o r R);clear l R p;go_wp2;go_ret;exact jE HR.o u.o
 have b3:(r0 == [112,97,121])=false:=by simpa [M7] using f
 by_cases h4:r0=S5
 ·have p:=Aa (s.o _ (by rw [if_neg a,if_neg d,if_neg f,if_pos h4]))
  have y:(r0 == [97,99,116])=true:=by rw [h4];decide
  clear s a d f h4 k
  go_enter func133,ntmps133
  go_wp2_with fail
  refine Calls.m A.o ?_;rintro e w' hs;obtain ⟨z,v,rfl,l⟩:=hs;have u:qj (rX E B K w (Pt F b rs) (.returned v) w'):=⟨z,v,rfl,l⟩;clear l;go_wp2;go_ret;exact jE p.o u.o
 have b4:(r0 == [97,99,116])=false:=by simpa [S5] using h4
 have p:=Aa (s.o _ (by rw [if_neg a,if_neg d,if_neg f,if_neg h4]))
 clear s a d f h4
 go_enter func133,ntmps133
 go_wp2;go_ret
 exact jE p.o (Ij U.o (by decide) T.o S.o)
end Kb
namespace Kb
open Go.RowKit Go.MuLone Go.Proofs.Tryz
def Q8 (b:Bk) (d:qn):Bk:=⟨b.today,b.off,b.az,b.cs,b.ls,b.log++[d]⟩
def Ip (F:Ii) (b:Bk) (d:qn) (r:Bk×Int):Prop :=
 if 600<=b.log.length then r=(b,2) else ∃ r0,Hq F b (Ad d) r0/\r=if r0.2=0 then (Q8 r0.1 d,0) else r0
def FV (E:ql->Prop) (y:Value):Prop:=∃ w,E w/\w.cell? (qzA 0 0)=some y
def Aec (E:ql->Prop) (b:Bk) (code:Int) (v:Value):Prop:=(code=0/\v=.nilIface)\/(code≠0/\∃ y,(if 600<=b.log.length then FV E y else NF E y)/\v=.iface 199 (.agg #[y,qzI code]))
def DoR (E:ql->Prop) (B K:Nat) (F:Ii) (b:Bk) (d:qn) (w:ql) (e:Ending) (w':ql):Prop:=∃ r q v,Ip F b d r/\e=.returned v/\Aec E b r.2 v/\KS B K 0 r.1 q w'/\C5 B w w'
theorem S7 {b5:Array Oper} {o:Oper} {a:Act} {w:ql} {K:Act->ql->Prop} {Q:Exit->Act->ql->Prop} {E:Prop} (d3:o.guard=none) (s x:Operand)
  (ho:o.op=.call { callee:=.builtin .append,args:=#[s,x],argTypes:=#[28,28] }) (base:Nat) (v:Value) (n:Nat) (xs:List Value) (hs:a.eval s=v) (hown:w.ownsRow base 9 1 v n xs)
  (ao:qm) (c:Nat) (rs:Bn) (hx:a.eval x=qf ao rs.length c) (hz:Bw w ao rs) (hn:n+rs.length<=4000000) (hbase:base<=w.heap.size)
  (h:∀ v' w',w'.ownsRow base 9 1 v' (n+rs.length) (xs++At rs)->w.grownBy w' v.ownBlock->K (a.put o.dst v') w') :
  if Region.wanted o (yielded b5 a.tmps)=true then Oper.wp prog o a w K Q else E:=by
 have hw:Region.wanted o (yielded b5 a.tmps)=true:=by simp [Region.wanted,d3]
 rw [if_pos hw];obtain ⟨v',w',L,h1,h2⟩:=Kp w base o.type v n xs hown ao c rs hz hn hbase;unfold Oper.wp execOp
 simp only [ho,resolve,invoke,builtin,Sem.run_bind,Sem.run_pure,Result.andThen_ok,List.map_toArray,List.map_cons,List.map_nil,hs,hx,L]
 exact h v' w' h1 h2
theorem Abi {u:ql} {g:Nat} {r:qn} (h:u.cell? (qzA g 0)=some (qd r)):Bw u (some (qzA g 0)) [r] :=
 .inr ⟨g,0,rfl,qs u _ h,λi hi=>by
  obtain rfl:i=0:=by simpa using hi
  simpa [Ao] using h⟩
theorem kbG {B K:Nat} {st:Int} {b:Bk} {q:Bp} {W u A:ql} (k:KS B K st b q W) (g:u.grownBy A (Value.slice q.g b.log.length q.gc).ownBlock) (h:BW W u):A.cell? (qzA K 7)=some (qf q.g b.log.length q.gc)/\A.frozen? (qzA K 7)=false:=by
 have ku:=k.below h
 have zz:=ku.z.grown g (E8 ku.log ku.kt (by decide))
 exact ⟨zz.c7,zz.z7⟩
theorem zW (l:qn):∃ r0 rs,Ad l=r0::rs:=by
 cases h:Ad l with
 | nil=>have:=(J5 l).1;rw [h] at this;simp at this
 | cons r rs=>exact ⟨r,rs,rfl⟩
theorem Zx {F:Ii} {b:Bk} {ws:Bn} {r:Bk×Int} (h:Hq F b ws r):r.1.log=b.log:=by
 unfold Hq at h
 split at h
 ·rw [h];unfold eF Xu;split
  ·split <;> rfl
  ·rfl
 split at h
 ·rw [h];unfold Ko Gy;split
  ·split <;> rfl
  ·rfl
 split at h
 ·unfold Km at h
  split at h
  ·obtain ⟨x,-,rfl⟩:=h
   unfold Lx
   repeat' split
   all_goals rfl
  ·rw [h]
 split at h
 ·rw [h];unfold Pt Mc;split
  ·repeat' split
   all_goals rfl
  ·rfl
 ·rw [h]
theorem iDo_any {F:Ii} {E:ql->Prop} {G B K:Nat} (KI:qJ F E G) (b0:G<=B) (HA:Af7 F E B K) (b:Bk) (q:Bp) (d:qn) (w:ql) (hk:KS B K 0 b q w) (hE:E w) (hP:Hk b) (hl:d.length<1048576) (HD:Ao (Ad d) 0=F1->Af6 F E B K) :
  qi 106 #[qh K,qd d] w (DoR E B K F b d w):=by
 have C:=Aa KI;have a3:=Aa HD;clear HD;have a5:=Aa b0;have b6:=Aa HA;have O:=Aa hk;have b9:=Aa hE;have a8:=Aa hP;have c0:=hk.z.c0;have z0:=hk.z.z0;clear KI b0 HA hk hE hP
 go_enter_defers func106,ntmps106
 go_wp2_with fail
 refine (lock_free muH (qzA K 0) w c0 z0).mono ?_;rintro e w1 ⟨rfl,V⟩
 have p:qj (KS B K 1 b q w1):=by rw [qj,V];exact O.o.setSt 1
 have N:qj (C5 B w w1):=by rw [qj,V];exact (C5.refl _ _).setK O.o.kt O.o.hK
 have I:=Aa (C.o.keep _ _ b9.o (N.o.b.mono a5.o));clear V c0 z0;have c7:=p.o.z.c7;have d4:b.log.length<=1048576:=a8.o.sm.2.2.2.2
 by_cases hfull:600<=b.log.length
 ·have b1:(600:Int)<=(b.log.length:Int):=by omega
  obtain ⟨et,ea,d2⟩:=C.o.eFull w1 I.o
  have U:qj (if 600<=b.log.length then FV E (.iface et (.pointer (some ea))) else NF E (.iface et (.pointer (some ea)))):=by rw [qj,if_pos hfull];exact ⟨w1,I.o,d2⟩
  have X:qj (Ip F b d (b,2)):=by rw [qj,Ip,if_pos hfull]
  clear hfull;go_wp2_with fail
  refine leaves_cons (f:=79) (args:=#[qh K]) (by simp) (by simp [go_sem]) ?_
  refine (unlock_deferred muH (qzA K 0) .returning _ p.o.z.c0 p.o.z.z0).mono ?_;rintro e A w2 ⟨rfl,rfl,rfl⟩
  exact ⟨_,results_tmp rfl _ _ _,(b,2),q,_,X.o,rfl,.inr ⟨(by show (2:Int)≠0;decide),_,U.o,rfl⟩,p.o.setSt 0,N.o.setK p.o.kt p.o.hK⟩
 have b1:¬ (600:Int)<=(b.log.length:Int):=by omega
 have S:qj (∀ r0,Hq F b (Ad d) r0->Ip F b d (if r0.2=0 then (Q8 r0.1 d,0) else r0)):=λr0 h=>by
  rw [Ip,if_neg hfull];exact ⟨r0,h,rfl⟩
 have J:=Aa (C.o.split d w1 (by omega) I.o)
 have b4:=J5 d
 have a9:qj (∀ r ∈ Ad d,r.length<=1048576):=λr L=>by have:=Hg d r L;omega
 obtain ⟨r0,rs,b2⟩:=zW d;rw [b2] at S J b4 a9 a3
 simp only [qx] at J b4
 clear b2 hfull;go_wp2_with fail
 refine Calls.mono J.o ?_;rintro e w2 ⟨a,rfl,ht,p2⟩;have Z:=Aa p.o.lt;have d0:=Aa (p.o.below p2);have b7:=Aa (N.o.t (.of p2 Z.o));have c8:=Aa (C.o.grow I.o p2)
 have a6:=Aa (uE C.o a5.o b6.o b q a rs.length r0 rs w2 d0.o c8.o a8.o ht (by omega) nL (by omega) (λr L=>a9.o r (by simp [L])) a3.o)
 clear p2 ht J c7;go_wp2_with fail
 refine Calls.mono a6.o ?_;rintro e w3 ⟨⟨m,c3⟩,L,q3,v,rfl,hv,k3,p3⟩;have j:=Aa k3;have Y:=Aa (b7.o.t p3);have X:=Aa (S.o (m,c3) L);have M:m.log=b.log:=Zx L
 have d9:m.log.length<=1048576:=by rw [M];exact d4
 have D:=Aa j.o.lt;clear L k3 p3 a6 S M
 simp only at hv
 rcases hv with ⟨hc,rfl⟩|⟨hc,y,hy,rfl⟩
 ·subst hc
  have R:=Aa X.o;have c7:=j.o.z.c7
  have a7:=λo=>(j.o.al o).z.c7
  have b8:qj (∀ u,qi 104 #[qd d] u λe w'=>e=.returned (qd d)/\BW u w'):=λu=>C.o.clone d u (by omega)
  have a4:qj (∀ (u A:ql) (a:qm) (c:Nat),BW w3 u->u.grownBy A (Value.slice q3.g m.log.length q3.gc).ownBlock->A.ownsRow B 9 1 (qf a (m.log.length+1) c) (m.log.length+1) (At m.log++At [d])->∃ q',KS B K 1 (Q8 m d) q' (A.setCell (qzA K 7) (qf a (m.log.length+1) c))/\C5 B w (A.setCell (qzA K 7) (qf a (m.log.length+1) c))):=λu A a c h g o=>by
   have o':A.ownsRow B 9 1 (qf a (m.log++[d]).length c) (m.log++[d]).length (At (m.log++[d])):=by
    rw [H0,qv,List.length_singleton];exact o
   have h2:=(j.o.below h).setG g o';rw [qv,List.length_singleton] at h2;have kh:=j.o.below h;have hu:C5 B w A:=(Y.o.t (.of h D.o)).grownO g kh.log (jk D.o h.size) (.inr rfl)
   exact ⟨_,h2,hu.setK (kh.kt.grown g (E8 kh.log kh.kt (by decide))) j.o.hK⟩
  clear X;go_upto_region 8 with fail
  refine wp_region_noPanic ?_
  go_region_law (first
   | (go_simp;go_at_call 104;(first|refine Calls.mono (b8.o _) ?_);rintro e u2 ⟨rfl,p2⟩;have k2:BW w3 u2:=next (by go_grown) p2;have d8:=(j.o.below k2).z.c7;have d7:=λo=>((j.o.below k2).al o).z.c7;have T:=Aa k2.size;clear p2)
   | (refine S7 rfl (.tmp 33) (.tmp 36) rfl B (qf q3.g m.log.length q3.gc) m.log.length (At m.log) (by simp [Act.eval]) (A5 j.o.log (by have:=T.o;go_grown)) (some ⟨u2.heap.size,0,none⟩) 1 [d] (by simp [Act.eval];try rfl) (Abi (by simp)) (by simp;omega) (by have:=D.o;have:=k2.size;simp;omega) ?_
      intro v6 w6 o6 g6
      (try simp only [List.length_singleton] at o6)
      obtain ⟨va,vc,d5⟩:=jI o6;subst d5;have d6:=Aa o6
      obtain ⟨y6,x6⟩:=kbG j.o g6 (by have:=T.o;go_grown)
      have c9:qj _:=a4.o _ _ va vc (by have:=T.o;go_grown) g6 o6
      clear o6 g6)
   | fail)
  all_goals
   refine NoPanic.normal ?_;go_wp2_with fail
   obtain ⟨q',H,d1⟩:=c9.o
   refine leaves_cons (f:=79) (args:=#[qh K]) (by simp) (by simp [go_sem]) ?_
   refine (unlock_deferred muH (qzA K 0) .returning _ H.z.c0 H.z.z0).mono ?_;rintro e A w7 ⟨rfl,rfl,rfl⟩;exact ⟨_,results_tmp rfl _ _ _,(Q8 m d,0),q',_,R.o,rfl,.inl ⟨rfl,rfl⟩,H.setSt 0,d1.setK H.kt H.hK⟩
 ·have U:qj (if 600<=b.log.length then FV E y else NF E y):=by rw [qj,if_neg (by have:=b1;omega)];exact hy
  clear hy
  have R:qj (Ip F b d (m,c3)):=by have h:=X.o;rw [if_neg hc] at h;exact h
  clear X;go_wp2_with fail
  refine leaves_cons (f:=79) (args:=#[qh K]) (by simp) (by simp [go_sem]) ?_
  refine (unlock_deferred muH (qzA K 0) .returning _ j.o.z.c0 j.o.z.z0).mono ?_;rintro e A w4 ⟨rfl,rfl,rfl⟩;exact ⟨_,results_tmp rfl _ _ _,(m,c3),q3,_,R.o,rfl,.inr ⟨hc,_,U.o,rfl⟩,j.o.setSt 0,Y.o.setK j.o.kt j.o.hK⟩
end Kb
end Go.Proofs.YtfpafnefpmmofaaGreatDoor
namespace Go.Proofs.YtfpafnefpmmofaaGreatDoor
open Go.RowKit Go.Proofs.Tryz
theorem Ady (st k:Int) (w:ql):qi 151 #[qzI st,qzI k] w λe w'=>e=.returned (.bool (Fi st k))/\w'=w:=by
 by_cases hk:k<0\/9<k
 ·have d:qj (Fi st k=false):=by
    cases e:Fi st k
    ·rfl
    ·have:=Ol e;omega
  have g0:(k == 0)=false:=A8 (by omega)
  have R:(k == 1)=false:=A8 (by omega)
  have g2:(k == 2)=false:=A8 (by omega)
  have g3:(k == 3)=false:=A8 (by omega)
  have g4:(k == 4)=false:=A8 (by omega)
  have g5:(k == 5)=false:=A8 (by omega)
  have g6:(k == 6)=false:=A8 (by omega)
  have g7:(k == 7)=false:=A8 (by omega)
  have g8:(k == 8)=false:=A8 (by omega)
  have g9:(k == 9)=false:=A8 (by omega)
  clear hk
  go_enter func151,ntmps151
  go_wp2;go_ret;exact ⟨Ab d.o.s,rfl⟩
 ·rcases (show k=0\/k=1\/k=2\/k=3\/k=4\/k=5\/k=6\/k=7\/k=8\/k=9 by omega) with rfl|rfl|rfl|rfl|rfl|rfl|rfl|rfl|rfl|rfl
  ·have d:qj (Fi st 0=(st == 0)):=by
     by_cases h:st=0 <;> simp [qj,Fi,h]
   clear hk
   go_enter func151,ntmps151
   go_wp2;go_ret;exact ⟨Ab d.o.s,rfl⟩
  ·have d:qj (Fi st 1=(st == 1)):=by
     by_cases h:st=1 <;> simp [qj,Fi,h]
   clear hk
   go_enter func151,ntmps151
   go_wp2;go_ret;exact ⟨Ab d.o.s,rfl⟩
  ·clear hk
   go_enter func151,ntmps151
   go_wp2_with (go_at_call 89;refine (Cg _ _ _ _).m ?_;rintro e w' ⟨rfl,rfl⟩)
   go_ret;exact ⟨rfl,rfl⟩
  ·have d:qj (Fi st 3=(st == 3)):=by
     by_cases h:st=3 <;> simp [qj,Fi,h]
   clear hk
   go_enter func151,ntmps151
   go_wp2;go_ret;exact ⟨Ab d.o.s,rfl⟩
  ·have d:qj (Fi st 4=(st == 4)):=by
     by_cases h:st=4 <;> simp [qj,Fi,h]
   clear hk
   go_enter func151,ntmps151
   go_wp2;go_ret;exact ⟨Ab d.o.s,rfl⟩
  ·have d:qj (Fi st 5=(st == 5)):=by
     by_cases h:st=5 <;> simp [qj,Fi,h]
   clear hk
   go_enter func151,ntmps151
   go_wp2;go_ret;exact ⟨Ab d.o.s,rfl⟩
  ·have d:qj (Fi st 6=(st == 5)):=by
     by_cases h:st=5 <;> simp [qj,Fi,h]
   clear hk
   go_enter func151,ntmps151
   go_wp2;go_ret;exact ⟨Ab d.o.s,rfl⟩
  ·have d:qj (Fi st 7=(st == 6)):=by
     by_cases h:st=6 <;> simp [qj,Fi,h]
   clear hk
   go_enter func151,ntmps151
   go_wp2;go_ret;exact ⟨Ab d.o.s,rfl⟩
  ·by_cases h1:st=1
   ·have d:qj (Fi st 8=true):=by simp [qj,Fi,h1]
    have y:(st == 1)=true:=by simpa using h1
    clear hk h1
    go_enter func151,ntmps151
    go_wp2;go_ret;exact ⟨Ab d.o.s,rfl⟩
   ·have d:qj (Fi st 8=Gb st 3 6):=by simp [qj,Fi,h1,Gb]
    have y:=A8 h1;clear hk h1
    go_enter func151,ntmps151
    go_wp2_with (go_at_call 89;refine (Cg _ _ _ _).m ?_;rintro e w' ⟨rfl,rfl⟩)
    go_ret;exact ⟨Ab d.o.s,rfl⟩
  ·by_cases h1:st=0
   ·have d:qj (Fi st 9=true):=by simp [qj,Fi,h1]
    have y:(st == 0)=true:=by simpa using h1
    clear hk h1
    go_enter func151,ntmps151
    go_wp2;go_ret;exact ⟨Ab d.o.s,rfl⟩
   ·have d:qj (Fi st 9=(st == 2)):=by
      by_cases h:st=2 <;> simp [qj,Fi,h1,h]
    have y:=A8 h1;clear hk h1
    go_enter func151,ntmps151
    go_wp2;go_ret;exact ⟨Ab d.o.s,rfl⟩
structure B2 (s:Nat) (c:Cs) (a:Ac) (u:ql):Prop where
 cb:CB s 0 c u
 a0:u.cell? ⟨s+1,0,none⟩=some (qzI a.kind)
 a1:u.cell? ⟨s+1,1,none⟩=some (qzI a.am)
 a2:u.cell? ⟨s+1,2,none⟩=some (qzI a.rsn)
theorem B2.below {s:Nat} {c:Cs} {a:Ac} {u u':ql} (h:B2 s c a u) (b:BW u u'):B2 s c a u':=by
 have l:=qs u _ h.a0;exact ⟨h.cb.below b,(b.cell (p:=⟨s+1,0,none⟩) l).t h.a0,(b.cell (p:=⟨s+1,1,none⟩) l).t h.a1,(b.cell (p:=⟨s+1,2,none⟩) l).t h.a2⟩
theorem B2.new (w:ql) (c:Cs) (a:Ac) (t1 t2:TypeId):B2 w.heap.size c a ((w.alloc (.cells #[qzI c.iss,qzI c.acq,qzI c.cur,qzI c.am,qzI c.st,qzI c.rsn,qzI c.cl,qzI c.bk,qzI c.fee,.bool c.cop,qzI c.sta,qzI c.due] t1)).alloc (.cells #[qzI a.kind,qzI a.am,qzI a.rsn] t2)) :=
 ⟨(CB.new w c t1).below (bR.alloc nL _),by simp [go_sem],by simp [go_sem],by simp [go_sem]⟩
theorem fO (c:Cs) (a:Ac) (t:Int) (ao:qm) (cp:Nat) (zs:List Int) (w:ql) (hx:Bg w ao zs) (hn:zs.length<=1099511627776) :
  qi 199 #[cv c,av a,qzI t,qf ao zs.length cp] w (qp (qzI (Ce c a t zs)) w):=by
 obtain ⟨W,hW⟩:=A0 ((w.alloc (.cells #[qzI c.iss,qzI c.acq,qzI c.cur,qzI c.am,qzI c.st,qzI c.rsn,qzI c.cl,qzI c.bk,qzI c.fee,.bool c.cop,qzI c.sta,qzI c.due] 111)).alloc (.cells #[qzI a.kind,qzI a.am,qzI a.rsn] 149))
 have HX:qj (B2 w.heap.size c a W):=by rw [qj,hW];exact B2.new w c a _ _
 have j:qj (BW w W):=by rw [qj,hW];go_grown
 have HW:=Aa hW;have HI:=Aa (hx.below j.o)
 obtain ⟨p,hp⟩:=Ae ((!Ty a.rsn || (Gf a.rsn && !Gk c t)))
 obtain ⟨q,hq⟩:=Ae ((decide (a.am<1) || (decide (c.am<a.am) || (decide (a.am<c.am) && !Iw a.rsn))))
 obtain ⟨l,hl⟩:=Ae (Cr t (Dt c.sta (Im a.rsn) zs));have HV:=Aa (Wa hp hq hl);have x:=Aa hp;have F:=Aa hq;have D:=Aa hl
 have G:Gk c t=(c.cop || (decide (c.st=1) && Cr t c.due)):=rfl
 obtain ⟨cc,S⟩:=Ae (Gk c t)
 have C:qj (cc=(c.cop || (decide (c.st=1) && Cr t c.due))):=by rw [qj,<- S,G]
 rw [S] at x;clear hp hq hl hx hW G S;obtain ⟨k,m,r⟩:=a;obtain ⟨Y,U,V,am,st,Z,cl,bk,X,N,A,O⟩:=c;unfold cv av
 simp only at HW x F D C ⊢
 have L:=Aa λu (hu:BW W u)=>Mb A (Im r) ao cp zs u (HI.o.below hu) hn
 go_enter func199,ntmps199
 go_upto_region 1 with fail
 rw [<- HW.o];clear HW;obtain ⟨⟨f0,f1,f2,f3,f4,f5,f6,f7,f8,f9,f10,f11⟩,k0,k1,I⟩:=HX.o
 simp only [qu] at f0 f1 f2 f3 f4 f5 f6 f7 f8 f9 f10 f11 k0 k1 I
 clear f0 f1 f2 f5 f6 f7 f8
 go_cut [9] (λv wc=>v=.bool cc/\wc=W)
 case first =>
  cases N
  ·by_cases h1:st=1
   ·have d:qj (cc=Cr t O):=by rw [qj,C.o,decide_eq_true h1,Bool.false_or,ja]
    have y:(st == 1)=true:=by simpa using h1
    clear h1
    go_wp2_with (go_at_call 198;refine (Tp _ _ _).m ?_;rintro e w' ⟨rfl,rfl⟩)
    go_meet
    exact ⟨by rw [d.o],rfl⟩
   ·have d:qj (cc=false):=by rw [qj,C.o,decide_eq_false h1,Bool.false_or,Bool.false_and]
    have y:=A8 h1;clear h1;go_wp2;go_meet
    exact ⟨by rw [d.o],rfl⟩
  ·have d:qj (cc=true):=by rw [qj,C.o,Bool.true_or]
   go_wp2;go_meet
   exact ⟨by rw [d.o],rfl⟩
 case rest =>
  obtain ⟨rfl,z⟩:=hcut;rw [z];clear z;go_upto_region 2 with fail
  go_cut [23] (λv wc=>v=.bool p/\BW W wc)
  case first =>
   go_wp2_with fail
   refine (fR r _).m ?_;rintro e u1 ⟨rfl,b1⟩;have J:=Aa b1;have j2:=(HX.o.below b1).a2
   simp only at j2
   clear b1
   cases h1:Ty r
   ·have d:qj (p=true):=by rw [qj,<- x.o,h1];rfl
    clear h1;go_wp2;go_meet
    exact ⟨by rw [d.o],J.o⟩
   go_wp2_with fail
   refine (gG r _).m ?_;rintro e u2 ⟨rfl,a8⟩;rw [a8];clear a8
   cases h2:Gf r
   ·have d:qj (p=false):=by rw [qj,<- x.o,h1,h2];rfl
    clear h1 h2;go_wp2;go_meet
    exact ⟨by rw [d.o],J.o⟩
   have d:qj (p = !cc):=by rw [qj,<- x.o,h1,h2];rfl
   clear h1 h2;go_wp2;go_meet
   exact ⟨by rw [d.o],J.o⟩
  case rest =>
   obtain ⟨rfl,b4⟩:=hcut;obtain ⟨u4,b5⟩:=A0 wc;subst b5;have f:=Aa b4;have b3:=Aa (HX.o.below b4);clear b4 f3 f4 f9 f10 f11 k0 k1 I
   cases p
   rotate_left
   ·have d:qj (Ce ⟨Y,U,V,am,st,Z,cl,bk,X,N,A,O⟩ ⟨k,m,r⟩ t zs=3):=by rw [qj,HV.o,if_pos rfl]
    go_wp2;go_ret;exact ⟨Af d.o.s,next j.o f.o⟩
   have M:qj (Ce ⟨Y,U,V,am,st,Z,cl,bk,X,N,A,O⟩ ⟨k,m,r⟩ t zs=if q=true then 2 else if l=true then 4 else 0):=by rw [qj,HV.o,if_neg (by decide)]
   obtain ⟨⟨f0,f1,f2,f3,f4,f5,f6,f7,f8,f9,f10,f11⟩,k0,k1,I⟩:=b3.o
   simp only [qu] at f0 f1 f2 f3 f4 f5 f6 f7 f8 f9 f10 f11 k0 k1 I
   clear HV f0 f1 f2 f4 f5 f6 f7 f8 f9 f10 f11;go_upto_region 4 with fail
   go_cut [37] (λv wc=>v=.bool q/\wc=u4)
   case first =>
    go_wp2_with fail
    cases h1:Gb m 1 am
    ·have d:qj (q=true):=by
       have:=Gl h1
       have g:m<1\/am<m:=by simp at this;omega
       rw [qj,<- F.o]
       rcases g with g|g <;> simp [g]
     refine (Eu h1 _).m ?_;rintro e v1 ⟨rfl,H⟩;rw [H];clear H h1;go_wp2;go_meet
     exact ⟨by rw [d.o],rfl⟩
    have R:¬ m<1/\¬ am<m:=by have:=Gl h1;simp at this;omega
    refine (Eu h1 _).m ?_;rintro e v1 ⟨rfl,H⟩;rw [H];clear H h1
    by_cases h3:m<am
    ·have d:qj (q = !Iw r):=by rw [qj,<- F.o,decide_eq_false R.1,decide_eq_false R.2,decide_eq_true h3];rfl
     clear R;go_wp2_with fail
     refine (mN r _).m ?_;rintro e v2 ⟨rfl,H⟩;rw [H];clear H;go_wp2;go_meet
     exact ⟨by rw [d.o],rfl⟩
    ·have d:qj (q=false):=by rw [qj,<- F.o,decide_eq_false R.1,decide_eq_false R.2,decide_eq_false h3];rfl
     clear R;go_wp2;go_meet
     exact ⟨by rw [d.o],rfl⟩
   case rest =>
    obtain ⟨rfl,z⟩:=hcut;rw [z];clear z f3 k0 k1 I
    cases q
    rotate_left
    ·have d:qj (Ce ⟨Y,U,V,am,st,Z,cl,bk,X,N,A,O⟩ ⟨k,m,r⟩ t zs=2):=by rw [qj,M.o,if_pos rfl]
     go_wp2;go_ret;exact ⟨Af d.o.s,next j.o f.o⟩
    have a4:qj (Ce ⟨Y,U,V,am,st,Z,cl,bk,X,N,A,O⟩ ⟨k,m,r⟩ t zs=if l=true then 4 else 0):=by rw [qj,M.o,if_neg (by decide)]
    clear M
    have i:qj (∀ u,BW W u->u.cell? ⟨w.heap.size,10,none⟩=some (qzI A)/\u.cell? ⟨w.heap.size+1,2,none⟩=some (qzI r)):=λu hu=>by
     have g:=HX.o.below hu;have a5:=g.cb.f10
     simp only [qu] at a5
     exact ⟨a5,g.a2⟩
    obtain ⟨a9,I⟩:=i.o u4 f.o;obtain ⟨n,T⟩:=Ae (Im r)
    have b2:qj (∀ u,qi 235 #[qzI r] u (qp (qzI n) u)):=λu=>by rw [<- T];exact mT r u
    rw [T] at L D;obtain ⟨dd,a6⟩:=Ae (Dt A n zs);rw [a6] at L D
    have b0:qj (∀ u,qi 198 #[qzI t,qzI dd] u (qr (.bool l) u)):=λu=>by rw [<- D.o];exact Tp t dd u
    clear T a6;have d5:=f.o.drew;go_upto_region 6 with fail
    go_cut [57] (λv wc=>v=.bool l/\BW W wc)
    case first =>
     go_region_held3 (λu=>u.cell? ⟨w.heap.size,10,none⟩=some (qzI A)/\u.cell? ⟨w.heap.size+1,2,none⟩=some (qzI r)) (first|exact ⟨a9,I⟩|exact i.o _ f.o|exact i.o _ d5|exact i.o _ B.o|exact i.o _ a3.o) ((first
      | (go_at_call 235;refine (b2.o _).m ?_;rintro e u6 ⟨rfl,b6⟩;(first|(have B:=Aa (next d5 b6))|(have B:=Aa (next f.o b6)));clear b6)
      | (go_at_call 153;refine (L.o _ B.o).m ?_;rintro e u7 ⟨rfl,b7⟩;(have a3:=Aa (next B.o b7));clear b7)
      | (go_at_call 198;refine (b0.o _).m ?_;rintro e u8 ⟨rfl,a7⟩;rw [a7];clear a7)))
     all_goals
      go_wp2_with fail
      go_meet;exact ⟨rfl,a3.o⟩
    case rest =>
     obtain ⟨rfl,b8⟩:=hcut;clear a9 I
     cases l
     ·have d:qj (Ce ⟨Y,U,V,am,st,Z,cl,bk,X,N,A,O⟩ ⟨k,m,r⟩ t zs=0):=by rw [qj,a4.o,if_neg (by decide)]
      go_wp2;go_ret;exact ⟨Af d.o.s,next j.o b8⟩
     ·have d:qj (Ce ⟨Y,U,V,am,st,Z,cl,bk,X,N,A,O⟩ ⟨k,m,r⟩ t zs=4):=by rw [qj,a4.o,if_pos rfl]
      go_wp2;go_ret;exact ⟨Af d.o.s,next j.o b8⟩
theorem wL (c:Cs) (a:Ac) (t:Int) (ao:qm) (F:Nat) (zs:List Int) (w:ql) (G:Bg w ao zs) (hn:zs.length<=1099511627776) (hk:0<=a.kind/\a.kind<=9) :
  qi 152 #[cv c,av a,qzI t,qf ao zs.length F] w (qp (qzI (Cj c a t zs)) w):=by
 obtain ⟨W,v⟩:=A0 ((w.alloc (.cells #[qzI c.iss,qzI c.acq,qzI c.cur,qzI c.am,qzI c.st,qzI c.rsn,qzI c.cl,qzI c.bk,qzI c.fee,.bool c.cop,qzI c.sta,qzI c.due] 111)).alloc (.cells #[qzI a.kind,qzI a.am,qzI a.rsn] 149))
 have H:qj (B2 w.heap.size c a W):=by rw [qj,v];exact B2.new w c a _ _
 have b:qj (BW w W):=by rw [qj,v];go_grown
 have z:=Aa v
 have f:=Aa λu (x:BW W u)=>fO c a t ao F zs u ((G.below b.o).below x) hn
 obtain ⟨r,C⟩:=Ae (Cj c a t zs);have j:=Aa C;rw [C];clear G v C;obtain ⟨k,m,q⟩:=a;obtain ⟨N,I,J,am,st,T,cl,bk,M,L,U,A⟩:=c;unfold cv av at f ⊢
 simp only at z f hk ⊢
 go_enter func152,ntmps152
 go_upto_region 1 with fail
 rw [<- z.o];clear z;obtain ⟨⟨f0,f1,f2,f3,f4,f5,f6,f7,f8,f9,f10,f11⟩,O,R,S⟩:=H.o
 simp only [qu] at f0 f1 f2 f3 f4 f5 f6 f7 f8 f9 f10 f11 O R S
 go_wp2_with fail
 refine (Tp t A _).m ?_;rintro e V ⟨rfl,x⟩;rw [x];clear x;obtain ⟨l,B⟩:=Ae (Cr t A);have n:=Aa B;rw [B];clear B
 rcases (show k=0\/k=1\/k=2\/k=3\/k=4\/k=5\/k=6\/k=7\/k=8\/k=9 by omega) with rfl|rfl|rfl|rfl|rfl|rfl|rfl|rfl|rfl|rfl
 ·have d:qj (r=0):=by rw [qj,<- j.o];simp [Cj]
  clear f;go_wp2;go_ret;exact ⟨Af d.o.s,b.o⟩
 ·have d:qj (r=if l=true then 4 else 0):=by rw [qj,<- j.o,<- n.o];simp [Cj]
  clear f
  cases l
  ·go_wp2
   go_ret
   exact ⟨Af (by rw [d.o];rfl),b.o⟩
  ·go_wp2
   go_ret
   exact ⟨Af (by rw [d.o];rfl),b.o⟩
 ·have d:qj (Ce ⟨N,I,J,am,st,T,cl,bk,M,L,U,A⟩ ⟨2,m,q⟩ t zs=r):=by rw [qj,<- j.o];simp [Cj]
  go_wp2_with fail
  refine (f.o _ bR).m ?_;rintro e X ⟨rfl,D⟩;have y:=Aa (next b.o D);clear D;rw [d.o];go_wp2;go_ret;exact ⟨rfl,y.o⟩
 ·have d:qj (r=if l=true then 4 else if 1<=m/\m<=cl then 0 else 2):=by rw [qj,<- j.o,<- n.o];simp [Cj]
  clear f
  cases l
  ·rw [if_neg (by decide)] at d
   go_wp2_with fail
   cases h1:Gb m 1 cl
   ·have g:=Gl h1
    have h:qj (r=2):=by rw [qj,d.o,if_neg (of_decide_eq_false g)]
    refine (Eu h1 _).m ?_;rintro e p ⟨rfl,i⟩;rw [i];clear i h1 g;go_wp2;go_ret;exact ⟨Af h.o.s,b.o⟩
   ·have g:=Gl h1
    have h:qj (r=0):=by rw [qj,d.o,if_pos (of_decide_eq_true g)]
    refine (Eu h1 _).m ?_;rintro e p ⟨rfl,i⟩;rw [i];clear i h1 g;go_wp2;go_ret;exact ⟨Af h.o.s,b.o⟩
  ·go_wp2
   go_ret
   exact ⟨Af (by rw [d.o];rfl),b.o⟩
 ·have d:qj (r=if l=true then 4 else if 1<=m/\m<=cl then 0 else 2):=by rw [qj,<- j.o,<- n.o];simp [Cj]
  clear f
  cases l
  ·rw [if_neg (by decide)] at d
   go_wp2_with fail
   cases h1:Gb m 1 cl
   ·have g:=Gl h1
    have h:qj (r=2):=by rw [qj,d.o,if_neg (of_decide_eq_false g)]
    refine (Eu h1 _).m ?_;rintro e p ⟨rfl,i⟩;rw [i];clear i h1 g;go_wp2;go_ret;exact ⟨Af h.o.s,b.o⟩
   ·have g:=Gl h1
    have h:qj (r=0):=by rw [qj,d.o,if_pos (of_decide_eq_true g)]
    refine (Eu h1 _).m ?_;rintro e p ⟨rfl,i⟩;rw [i];clear i h1 g;go_wp2;go_ret;exact ⟨Af h.o.s,b.o⟩
  ·go_wp2
   go_ret
   exact ⟨Af (by rw [d.o];rfl),b.o⟩
 ·have d:qj (r=0):=by rw [qj,<- j.o];simp [Cj]
  clear f;go_wp2;go_ret;exact ⟨Af d.o.s,b.o⟩
 ·have d:qj (r=if l=true then 4 else 0):=by rw [qj,<- j.o,<- n.o];simp [Cj]
  clear f
  cases l
  ·go_wp2
   go_ret
   exact ⟨Af (by rw [d.o];rfl),b.o⟩
  ·go_wp2
   go_ret
   exact ⟨Af (by rw [d.o];rfl),b.o⟩
 ·have d:qj (r=if 0<=m/\m<=cl then 0 else 2):=by rw [qj,<- j.o];simp [Cj]
  clear f;go_wp2_with fail
  cases h1:Gb m 0 cl
  ·have g:=Gl h1
   have h:qj (r=2):=by rw [qj,d.o,if_neg (of_decide_eq_false g)]
   refine (Eu h1 _).m ?_;rintro e p ⟨rfl,i⟩;rw [i];clear i h1 g;go_wp2;go_ret;exact ⟨Af h.o.s,b.o⟩
  ·have g:=Gl h1
   have h:qj (r=0):=by rw [qj,d.o,if_pos (of_decide_eq_true g)]
   refine (Eu h1 _).m ?_;rintro e p ⟨rfl,i⟩;rw [i];clear i h1 g;go_wp2;go_ret;exact ⟨Af h.o.s,b.o⟩
 ·have d:qj (r=if l=true then 0 else 4):=by rw [qj,<- j.o,<- n.o];simp [Cj]
  clear f
  cases l
  ·go_wp2
   go_ret
   exact ⟨Af (by rw [d.o];rfl),b.o⟩
  ·go_wp2
   go_ret
   exact ⟨Af (by rw [d.o];rfl),b.o⟩
 ·have d:qj (r=0):=by rw [qj,<- j.o];simp [Cj]
  clear f;go_wp2;go_ret;exact ⟨Af d.o.s,b.o⟩
theorem Qf {b:Nat} {ao:qm} {d:Nat} {zs:List Int} {a:Ac} {t:Int} {c:Cs} {es:List En} {v:Value} {w:ql} (h:DS b ao d zs a t c es v w) :
  qi 321 #[qh b] w (DR b ao d zs a t w (qzI 0) (Oe c) es):=by
 have c4:=h.db.cb.f4;have j:=h.db.cb.f11;have z:=h.db.cb.f9;have z4:=h.db.fz.z4;have z11:=h.db.fz.z11;have z9:=h.db.fz.z9
 simp only [qu] at c4 j z z4 z11 z9
 have g:=Aa h;clear h
 go_enter func321,ntmps321
 go_wp2;go_ret;exact ⟨rfl,⟨v,((g.o.set4 2).set11 (-1)).set9 true⟩,((Bv _ _ 4 _).t (Bv _ _ 11 _)).t (Bv _ _ 9 _)⟩
theorem U8 {b:Nat} {ao:qm} {d:Nat} {zs:List Int} {a:Ac} {t:Int} {c:Cs} {es:List En} {v:Value} {w:ql} (h:DS b ao d zs a t c es v w) (k:Int) (hk:k=5\/k=7\/k=8) :
  qi 326 #[qh b,qzI k] w (DR b ao d zs a t w (qzI 0) ⟨c.iss,c.acq,c.cur,c.am,7,c.rsn,0,c.bk,c.fee,c.cop,c.sta,-1⟩ es):=by
 have c4:=h.db.cb.f4;have c6:=h.db.cb.f6;have j:=h.db.cb.f11;have z4:=h.db.fz.z4;have z6:=h.db.fz.z6;have z11:=h.db.fz.z11
 simp only [qu] at c4 c6 j z4 z6 z11
 have g:=Aa h;clear h
 rcases hk with rfl|rfl|rfl
 iterate 3
  ·go_enter func326,ntmps326
   go_wp2;go_ret;exact ⟨rfl,⟨v,((g.o.set6 0).set4 7).set11 (-1)⟩,((Bv _ _ 6 _).t (Bv _ _ 4 _)).t (Bv _ _ 11 _)⟩
theorem yE {b:Nat} {ao:qm} {d:Nat} {zs:List Int} {a:Ac} {t:Int} {c:Cs} {es:List En} {v:Value} {w:ql} (h:DS b ao d zs a t c es v w) :
  qi 326 #[qh b,qzI 9] w (DR b ao d zs a t w (qzI 0) ⟨c.iss,c.acq,c.cur,c.am,7,c.rsn,c.cl,c.bk,c.fee,c.cop,c.sta,-1⟩ es):=by
 have c4:=h.db.cb.f4;have j:=h.db.cb.f11;have z4:=h.db.fz.z4;have z11:=h.db.fz.z11
 simp only [qu] at c4 j z4 z11
 have g:=Aa h;clear h
 go_enter func326,ntmps326
 go_wp2;go_ret;exact ⟨rfl,⟨v,(g.o.set4 7).set11 (-1)⟩,(Bv _ _ 4 _).t (Bv _ _ 11 _)⟩
theorem Ac7 {b:Nat} {ao:qm} {d:Nat} {zs:List Int} {a:Ac} {t:Int} {c:Cs} {es:List En} {v:Value} {w:ql} (h:DS b ao d zs a t c es v w) :
  qi 299 #[qh b] w (DR b ao d zs a t w (qzI 0) ⟨c.iss,c.acq,c.cur,c.am,7,c.rsn,c.cl,c.bk,c.fee,c.cop,c.sta,-1⟩ es):=by
 have g:=Aa h;clear h
 go_enter func299,ntmps299
 go_wp2_with fail
 refine (yE g.o).m ?_;rintro e u ⟨rfl,x,f⟩;go_wp2;go_ret;exact ⟨rfl,x,f⟩
theorem Afk {b:Nat} {ao:qm} {d:Nat} {zs:List Int} {a:Ac} {t:Int} {c:Cs} {es:List En} {v:Value} {w:ql} (h:DS b ao d zs a t c es v w) (hn:zs.length<=1099511627776) :
  qi 290 #[qh b] w (DR b ao d zs a t w (qzI 0) ⟨c.iss,c.acq,c.cur,c.am,1,c.rsn,c.cl,c.bk,c.fee,c.cop,c.sta,Dt t 20 zs⟩ es):=by
 have c4:=h.db.cb.f4;have z4:=h.db.fz.z4
 simp only [qu] at c4 z4
 have g:=Aa h;clear h
 go_enter func290,ntmps290
 go_wp2_with fail
 refine (Ls (g.o.set4 1) hn 4 20 rfl).m ?_;rintro e u ⟨rfl,x,f⟩;have q:qj _:=x;have i:=Aa ((Bv _ _ 4 _).t f);clear x f;go_wp2;go_ret;exact ⟨rfl,q.o,i.o⟩
theorem Ab6 {b:Nat} {ao:qm} {d:Nat} {zs:List Int} {a:Ac} {t:Int} {c:Cs} {es:List En} {v:Value} {w:ql} (h:DS b ao d zs a t c es v w) :
  qi 291 #[qh b] w (DR b ao d zs a t w (qzI (if Cr t c.due=true then 4 else 0)) (if Cr t c.due=true then c else Oe c) es):=by
 have g:=Aa h;have r:=Aa h.lt;have l:=Aa (Jv h);clear h
 cases hl:Cr t c.due
 ·rw [hl] at l
  clear hl
  rw [if_neg (by decide),if_neg (by decide)]
  go_enter func291,ntmps291
  go_wp2_with fail
  refine Calls.m l.o ?_;rintro e u ⟨rfl,f⟩;have i:=Aa f;clear f;go_wp2_with fail
  refine (Qf (g.o.below i.o)).m ?_;rintro e A ⟨rfl,p,s⟩;have q:qj _:=p;have n:=Aa ((i.o.m (jb r.o)).t s);clear p s;go_wp2;go_ret;exact ⟨rfl,q.o,n.o⟩
 ·rw [hl] at l
  clear hl;rw [if_pos rfl,if_pos rfl]
  go_enter func291,ntmps291
  go_wp2_with fail
  refine Calls.m l.o ?_;rintro e u ⟨rfl,f⟩;have i:=Aa f;clear f;go_wp2;go_ret;exact ⟨rfl,⟨v,g.o.below i.o⟩,i.o.m (jb r.o)⟩
theorem oJ {b:Nat} {ao:qm} {d:Nat} {zs:List Int} {a:Ac} {t:Int} {c:Cs} {es:List En} {v:Value} {w:ql} (h:DS b ao d zs a t c es v w) (hn:zs.length<=1099511627776) :
  qi 296 #[qh b] w (DR b ao d zs a t w (qzI (if Cr t c.due=true then 4 else 0)) (if Cr t c.due=true then c else ⟨c.iss,c.acq,c.cur,c.am,6,c.rsn,c.cl,c.bk,c.fee,c.cop,c.sta,Dt t 60 zs⟩) es):=by
 have g:=Aa h;have r:=Aa h.lt;have l:=Aa (Jv h);clear h
 cases hl:Cr t c.due
 ·rw [hl] at l
  clear hl
  rw [if_neg (by decide),if_neg (by decide)]
  go_enter func296,ntmps296
  go_wp2_with fail
  refine Calls.m l.o ?_;rintro e u ⟨rfl,f⟩;have i:=Aa f;have h:=g.o.below f;have c4:=h.db.cb.f4;have z4:=h.db.fz.z4
  simp only [qu] at c4 z4
  have y:=Aa h;clear f h;go_wp2_with fail
  refine (Ls (y.o.set4 6) hn 3 60 rfl).m ?_;rintro e A ⟨rfl,p,s⟩;have q:qj _:=p;have n:=Aa (((i.o.m (jb r.o)).t (Bv _ _ 4 _)).t s);clear p s;go_wp2;go_ret;exact ⟨rfl,q.o,n.o⟩
 ·rw [hl] at l
  clear hl;rw [if_pos rfl,if_pos rfl]
  go_enter func296,ntmps296
  go_wp2_with fail
  refine Calls.m l.o ?_;rintro e u ⟨rfl,f⟩;have i:=Aa f;clear f;go_wp2;go_ret;exact ⟨rfl,⟨v,g.o.below i.o⟩,i.o.m (jb r.o)⟩
theorem O0 {c:Cs} {x:Int} (h:0<=x):Ku c [] c.acq c.iss x=Ck c x:=by
 unfold Ku Ck
 by_cases l:x=0
 ·rw [if_pos l,if_neg (by omega)]
 ·rw [if_neg l,if_pos (by omega)];rfl
theorem nJ {c:Cs} {x:Int} (h:0<=x):Ku c [] c.iss c.acq x=Ez c x:=by
 unfold Ku Ez
 by_cases l:x=0
 ·rw [if_pos l,if_neg (by omega)]
 ·rw [if_neg l,if_pos (by omega)];rfl
theorem uL (c:Cs) (es:List En) (f g s:Int):(Ku c es f g s).length<=es.length+1:=by unfold Ku;split <;> simp
theorem aW {b:Nat} {ao:qm} {q:Nat} {zs:List Int} {a:Ac} {t:Int} {c:Cs} {es:List En} {v:Value} {w:ql} (h:DS b ao q zs a t c es v w) :
  qi 324 #[qh b] w (qp (qzI (Ep c a t)) w):=by
 have F:=Aa h;have A:=Aa (Jv h);clear h
 cases j:Cr t c.due
 ·rw [j] at A
  have k:qj (Ep c a t=if 1<=a.am/\a.am<=c.cl then 0 else 2):=if_neg (by rw [j];decide)
  clear j
  go_enter func324,ntmps324
  go_wp2_with fail
  refine Calls.m A.o ?_;rintro e J ⟨rfl,d⟩;have i:=Aa d;have h:=F.o.below d;have C:=h.db.a1;have c6:=h.db.cb.f6
  simp only [qu] at c6
  clear d h;obtain ⟨x,n⟩:=Ae a.am;obtain ⟨y,hy⟩:=Ae c.cl;rw [n] at C k;rw [hy] at c6 k;clear n hy
  by_cases h1:x<1
  ·have p:qj (Ep c a t=2):=by rw [qj,k.o,if_neg (by omega)]
   go_wp2
   go_quiet (fail)
   all_goals
    go_wp2;go_ret;exact ⟨Af p.o.s,below_drewN i.o _⟩
  ·by_cases h2:y<x
   ·have p:qj (Ep c a t=2):=by rw [qj,k.o,if_neg (by omega)]
    go_wp2
    go_quiet (fail)
    all_goals
     go_wp2;go_ret;exact ⟨Af p.o.s,below_drewN i.o _⟩
   ·have p:qj (Ep c a t=0):=by rw [qj,k.o,if_pos (by omega)]
    go_wp2
    go_quiet (fail)
    all_goals
     go_wp2;go_ret;exact ⟨Af p.o.s,below_drewN i.o _⟩
 ·rw [j] at A
  have k:qj (Ep c a t=4):=if_pos j;clear j
  go_enter func324,ntmps324
  go_wp2_with fail
  refine Calls.m A.o ?_;rintro e J ⟨rfl,d⟩;have i:=Aa d;clear d;go_wp2;go_ret;exact ⟨Af k.o.s,i.o⟩
theorem Rn {b:Nat} {ao:qm} {q:Nat} {zs:List Int} {a:Ac} {t:Int} {c:Cs} {es:List En} {v:Value} {w:ql} (h:DS b ao q zs a t c es v w) (j:es.length<=100) (s:Int) (l:0<=s/\s<=1000000000000) (hb:0<=c.bk/\c.bk<=1000000000000) :
  qi 325 #[qh b,qzI s] w (DR b ao q zs a t w (.tuple #[]) ⟨c.iss,c.acq,c.cur,c.am,c.st,c.rsn,c.cl,c.bk+s,c.fee,c.cop,c.sta,c.due⟩ (Ku c es c.acq c.iss s)):=by
 have F:=Aa h;have T:=Aa h.lt
 have r:qj (∀ u,BW w u->qi 323 #[qh b,qzI c.acq,qzI c.iss,qzI s] u (DR b ao q zs a t u (.tuple #[]) c (Ku c es c.acq c.iss s))):=λu hu=>Od (h.below hu) j c.acq c.iss s
 have c0:=h.db.cb.f0;have c1:=h.db.cb.f1
 simp only [qu] at c0 c1
 obtain ⟨x,n⟩:=Ae c.acq;obtain ⟨y,hy⟩:=Ae c.iss;obtain ⟨M,H⟩:=Ae (Ku c es c.acq c.iss s);rw [H] at r ⊢;rw [n] at c1;rw [hy] at c0;rw [n,hy] at r;clear h n hy H;have G:BW w w:=bR
 go_enter func325,ntmps325
 go_wp2_with fail
 go_region_with (go_at_call 323;(first|with_reducible refine (r.o _ G).m ?_|with_reducible refine (r.o _ G.drew).m ?_);rintro e J ⟨rfl,L,d⟩;(first|(have i:=Aa ((Below.refl b w).t d))|(have i:=Aa (((Below.refl b w).drew).t d)));obtain ⟨R,B⟩:=L;have N:qj _:=B;have I:=B.db.cb.f7;have S:=B.db.fz.z7;simp only [qu] at I S;clear B d)
 all_goals
  obtain ⟨z,D⟩:=Ae c.bk;rw [D] at I hb
  have O:qj (z+s=c.bk+s):=by rw [qj,D]
  clear D;go_wp2;go_end0
  exact ⟨rfl,⟨R,by rw [<- O.o];exact N.o.set7 (z+s)⟩,i.o.t (Bv _ _ 7 _)⟩
theorem mV {b:Nat} {ao:qm} {j:Nat} {zs:List Int} {a:Ac} {t:Int} {c:Cs} {v:Value} {w:ql} (h:DS b ao j zs a t c [] v w) (hn:zs.length<=1099511627776) :
  qi 294 #[qh b] w (DR b ao j zs a t w (qzI (Ep c a t)) (if Ep c a t=0 then ⟨c.iss,c.acq,c.cur,c.am,5,c.rsn,a.am,c.bk,c.fee,c.cop,c.sta,Dt t 15 zs⟩ else c) []):=by
 have J:=Aa h;have V:=Aa h.lt;have HQ:=Aa (aW h);clear h;obtain ⟨r,hr⟩:=Ae (Ep c a t);rw [hr] at HQ ⊢;clear hr
 by_cases h0:r=0
 ·subst h0
  rw [if_pos rfl]
  go_enter func294,ntmps294
  go_wp2_with fail
  refine Calls.m HQ.o ?_;rintro e U ⟨rfl,d⟩;have z:=Aa d;have h:=J.o.below d;have L:=h.db.a1;have c4:=h.db.cb.f4;have c6:=h.db.cb.f6;have z4:=h.db.fz.z4;have z6:=h.db.fz.z6
  simp only [qu] at c4 c6 z4 z6
  have a3:=Aa h;clear d h;go_wp2_with fail
  refine (Ls ((a3.o.set4 5).set6 a.am) hn 2 15 rfl).m ?_;rintro e w2 ⟨rfl,f,n⟩;have G:qj _:=f;have i:=Aa ((((z.o.m (jb V.o)).t (Bv _ _ 4 _)).t (Bv _ _ 6 _)).t n);clear f n;go_wp2;go_ret;exact ⟨rfl,G.o,i.o⟩
 ·rw [if_neg h0]
  have a4:(r != 0)=true:=by simpa using h0
  clear h0
  go_enter func294,ntmps294
  go_wp2_with fail
  refine Calls.m HQ.o ?_;rintro e U ⟨rfl,d⟩;have z:=Aa d;clear d;go_wp2;go_ret;exact ⟨rfl,⟨v,J.o.below z.o⟩,z.o.m (jb V.o)⟩
theorem Xv {b:Nat} {ao:qm} {j:Nat} {zs:List Int} {a:Ac} {t:Int} {c:Cs} {v:Value} {w:ql} (h:DS b ao j zs a t c [] v w) (hb:0<=c.bk/\c.bk<=1000000000000) (D:0<=c.cl/\c.cl<=1000000000000) :
  qi 295 #[qh b] w (DR b ao j zs a t w (qzI 0) (Mr c c.cl) (Ck c c.cl)):=by
 have J:=Aa h
 have B:qj (qi 325 #[qh b,qzI c.cl] w (DR b ao j zs a t w (.tuple #[]) ⟨c.iss,c.acq,c.cur,c.am,c.st,c.rsn,c.cl,c.bk+c.cl,c.fee,c.cop,c.sta,c.due⟩ (Ck c c.cl))):=by
  have g:=Rn h (qw _) c.cl D hb;rw [O0 D.1] at g;exact g
 have c6:=h.db.cb.f6
 simp only [qu] at c6
 clear h
 go_enter func295,ntmps295
 go_wp2_with fail
 refine Calls.m B.o ?_;rintro e U ⟨rfl,⟨v1,k⟩,d⟩;have G:=Aa k;have z:=Aa d;clear k d;go_wp2_with fail
 refine (U8 G.o 5 (.inl rfl)).m ?_;rintro e w2 ⟨rfl,f,n⟩;have l:qj _:=f;have i:=Aa (z.o.t n);clear f n;go_wp2;go_ret;exact ⟨rfl,l.o,i.o⟩
theorem Tt {b:Nat} {ao:qm} {j:Nat} {zs:List Int} {a:Ac} {t:Int} {c:Cs} {v:Value} {w:ql} (h:DS b ao j zs a t c [] v w) (s:Int) (hs:0<=s/\s<=1000000000000) (hb:0<=c.bk/\c.bk<=1000000000000) (W:0<=c.fee/\c.fee<=1000000) :
  qi 327 #[qh b,qzI s] w (DR b ao j zs a t w (qzI 0) (Gp c s) (Fc c s)):=by
 have J:=Aa h;have V:=Aa h.lt
 have B:qj (qi 325 #[qh b,qzI s] w (DR b ao j zs a t w (.tuple #[]) ⟨c.iss,c.acq,c.cur,c.am,c.st,c.rsn,c.cl,c.bk+s,c.fee,c.cop,c.sta,c.due⟩ (Ck c s))):=by
  have g:=Rn h (qw _) s hs hb;rw [O0 hs.1] at g;exact g
 have HT:qj ((Ck c s).length<=100):=by rw [qj,<- O0 hs.1];have:=uL c [] c.acq c.iss s;simp only [qy] at this;omega
 have c0:=h.db.cb.f0;have c1:=h.db.cb.f1;have c6:=h.db.cb.f6
 simp only [qu] at c0 c1 c6
 obtain ⟨y,hy⟩:=Ae c.cl;have HY:qj _:=hy;rw [hy] at c6;obtain ⟨lo,N⟩:=Ae (Tu c s);have R:qj _:=N
 have HE:qj (Fc c s=Ck c s++[(lo,9999,c.cur,50000)]):=by rw [qj,Fc,N]
 obtain ⟨fe,M⟩:=Ae c.fee;have A:qj _:=M;rw [M] at W;clear h hy N M hb
 by_cases D:y<=2*s
 ·have X:qj (lo=c.acq):=by rw [qj,<- R.o,Tu,HY.o,if_pos D]
  go_enter func327,ntmps327
  go_wp2_with fail
  refine Calls.m B.o ?_;rintro e U ⟨rfl,⟨v1,k⟩,d⟩;have G:=Aa k;have z:=Aa d;clear k d;go_wp2_with fail
  refine (Od G.o HT.o _ 9999 50000).m ?_;rintro e w2 ⟨rfl,⟨v2,f⟩,n⟩;have i:=Aa (z.o.t n);have T:=f.db.cb.f8;have z8:=f.db.fz.z8
  simp only [qu] at T z8
  rw [A.o] at T;have l:qj _:=f;clear f n;go_wp2_with fail
  refine (U8 (l.o.set8 (fe+50000)) 7 (.inr (.inl rfl))).m ?_;rintro e w3 ⟨rfl,⟨v3,O⟩,S⟩;have H:qj _:=O;have F:=Aa ((i.o.t (Bv _ _ 8 _)).t S);clear O S;go_wp2;go_ret;refine ⟨rfl,⟨v3,?_⟩,F.o⟩;rw [HE.o,X.o,Gp,A.o];exact H.o
 ·have X:qj (lo=c.iss):=by rw [qj,<- R.o,Tu,HY.o,if_neg D]
  go_enter func327,ntmps327
  go_wp2_with fail
  refine Calls.m B.o ?_;rintro e U ⟨rfl,⟨v1,k⟩,d⟩;have G:=Aa k;have z:=Aa d;clear k d;go_wp2_with fail
  refine (Od G.o HT.o _ 9999 50000).m ?_;rintro e w2 ⟨rfl,⟨v2,f⟩,n⟩;have i:=Aa (z.o.t n);have T:=f.db.cb.f8;have z8:=f.db.fz.z8
  simp only [qu] at T z8
  rw [A.o] at T;have l:qj _:=f;clear f n;go_wp2_with fail
  refine (U8 (l.o.set8 (fe+50000)) 7 (.inr (.inl rfl))).m ?_;rintro e w3 ⟨rfl,⟨v3,O⟩,S⟩;have H:qj _:=O;have F:=Aa ((i.o.t (Bv _ _ 8 _)).t S);clear O S;go_wp2;go_ret;refine ⟨rfl,⟨v3,?_⟩,F.o⟩;rw [HE.o,X.o,Gp,A.o];exact H.o
theorem yX {b:Nat} {ao:qm} {j:Nat} {zs:List Int} {a:Ac} {t:Int} {c:Cs} {v:Value} {w:ql} (h:DS b ao j zs a t c [] v w) (hb:0<=c.bk/\c.bk<=1000000000000) (D:0<=c.cl/\c.cl<=1000000000000) (W:0<=c.fee/\c.fee<=1000000) :
  qi 297 #[qh b] w (DR b ao j zs a t w (qzI (if 0<=a.am/\a.am<=c.cl then 0 else 2)) (if 0<=a.am/\a.am<=c.cl then Gp c a.am else c) (if 0<=a.am/\a.am<=c.cl then Fc c a.am else [])):=by
 have J:=Aa h;have V:=Aa h.lt;have L:=h.db.a1;have c6:=h.db.cb.f6
 simp only [qu] at c6
 have B:qj (0<=a.am/\a.am<=c.cl->∀ u,BW w u->qi 327 #[qh b,qzI a.am] u (DR b ao j zs a t u (qzI 0) (Gp c a.am) (Fc c a.am))):=λhx u hu=>Tt (h.below hu) a.am ⟨hx.1,by omega⟩ hb W
 clear h hb W
 by_cases hx:0<=a.am/\a.am<=c.cl
 ·rw [if_pos hx,if_pos hx,if_pos hx]
  have I:=Aa (B.o hx);obtain ⟨x,p⟩:=Ae a.am;obtain ⟨y,q⟩:=Ae c.cl;obtain ⟨C,hC⟩:=Ae (Gp c a.am);obtain ⟨E,hE⟩:=Ae (Fc c a.am);rw [hC,hE] at I ⊢;rw [p] at L hx I;rw [q] at c6 hx;obtain ⟨h1,h2⟩:=hx;clear p q hC hE B D;have b0:BW w w:=bR
  go_enter func297,ntmps297
  go_wp2
  go_quiet (fail)
  all_goals
   go_wp2_with fail
   refine (I.o _ (below_drewN b0 _)).m ?_;rintro e U ⟨rfl,k,d⟩;have Z:qj _:=k;have Y:=Aa ((below_drewN (Below.refl b w) _).t d);clear k d;go_wp2;go_ret;exact ⟨rfl,Z.o,Y.o⟩
 ·rw [if_neg hx,if_neg hx,if_neg hx]
  obtain ⟨x,p⟩:=Ae a.am;obtain ⟨y,q⟩:=Ae c.cl;rw [p] at L hx;rw [q] at c6 hx;clear p q B D
  by_cases h1:x<0
  ·clear hx
   go_enter func297,ntmps297
   go_wp2
   go_quiet (fail)
   all_goals
    go_wp2;go_ret;exact ⟨rfl,⟨v,J.o.below (below_drewN bR _)⟩,below_drewN bR _⟩
  ·have h2:y<x:=by omega
   clear hx
   go_enter func297,ntmps297
   go_wp2
   go_quiet (fail)
   all_goals
    go_wp2;go_ret;exact ⟨rfl,⟨v,J.o.below (below_drewN bR _)⟩,below_drewN bR _⟩
namespace Kb
open Go.RowKit Go.Extern.Stop Go.Stop Go.Extern Go.Proofs.Tryz
theorem fE (t:Addr) (w:ql):(ReflectliteValue.unpack (.iface 203 (.pointer (some t)))).run prog w
  = .ok (.agg #[.pointer (some (qzA 17 203)),.pointer (some ⟨w.heap.size,0,none⟩),.int .u64 150]) (w.alloc (.cells #[.pointer (some t)] 203)):=by kernel_rfl
theorem Aaz (a : Addr) (w : ql) : (ReflectliteValue.methodAny (ReflectliteValue.valueError "reflectlite.Value.Type" 0) (λt _ _ _ => ReflectliteType.toType t) #[.agg #[.pointer (some ⟨17, 203, none⟩), .pointer (some a), .int .u64 150]]).run prog w
  = .ok (.iface 279 (.agg #[.pointer (some (qzA 17 203))])) w:=by kernel_rfl
theorem Ys (h : Value) (w : ql) : (Go.method 552 279 (.agg #[h]) "Kind").run prog w = .ok (408, h) w := by kernel_rfl
theorem Aa8 (w:ql):((ReflectliteType.abiMethod λt=>(λa:Nat=>Value.int IntKind.u8 (a:Int)) <$> Rtype.kind t) #[.pointer (some (qzA 17 203))]).run prog w=.ok (.int .u8 22) w:=by kernel_rfl
theorem Adc (w:ql):((ReflectliteType.abiMethod λt=>(λa:Nat=>Value.int IntKind.u8 (a:Int)) <$> Rtype.kind t) #[.pointer (some (qzA 17 199))]).run prog w=.ok (.int .u8 25) w:=by kernel_rfl
theorem yQ (z:Sem Value) (f:TypeId->Addr->Nat->Nat->Sem Value) (v:Value) :
  ReflectliteValue.method z f #[v]=(do match <- ReflectliteValue.parts v with|none=>z|some (t,a,fl)=>f t a fl (fl % 32)):=rfl
theorem aP (a:Addr) (w:ql):(ReflectliteValue.parts (.agg #[.pointer (some (qzA 17 203)),.pointer (some a),.int .u64 150])).run prog w=.ok (some (203,a,150)) w:=by kernel_rfl
theorem tE (a p:Addr) (W:ql) (c:W.cell? a=some (.pointer (some p))) :
  (ReflectliteValue.method (ReflectliteValue.valueError "reflectlite.Value.IsNil" 0) ReflectliteValue.isNil #[.agg #[.pointer (some ⟨17, 203, none⟩), .pointer (some a), .int .u64 150]]).run prog W = .ok (.bool false) W := by
 rw [yQ]
 simp only [Sem.run_bind,aP,Result.andThen]
 simp [ReflectliteValue.isNil,loadVar,isAgg,underlying,underlying203,c,Result.andThen]
theorem Y2 (h : Value) (w : ql) : (Go.method 552 279 (.agg #[h]) "Elem").run prog w = .ok (422, .agg #[h]) w := by kernel_rfl
theorem Pu (h : Value) (w : ql) : (Go.method 552 279 (.agg #[h]) "Implements").run prog w = .ok (423, .agg #[h]) w := by kernel_rfl
theorem Ng (h : Value) (w : ql) : (Go.method 552 279 (.agg #[h]) "AssignableTo").run prog w = .ok (420, .agg #[h]) w := by kernel_rfl
theorem Ach (w:ql):(ReflectliteType.method ReflectliteType.elem #[.agg #[.pointer (some (qzA 17 203))]]).run prog w=.ok (.iface 279 (.agg #[.pointer (some (qzA 17 199))])) w:=by kernel_rfl
theorem Aa2 (w : ql) : (ReflectliteType.relation "Implements" ReflectliteType.implements_ #[.agg #[.pointer (some ⟨17, 199, none⟩)], .iface 279 (.agg #[.pointer (some ⟨17, 160, none⟩)])]).run prog w = .ok (.bool true) w := by kernel_rfl
theorem mD (v:Value) (w:ql):(ReflectliteType.typeOf #[.iface 199 v]).run prog w=.ok (.iface 279 (.agg #[.pointer (some (qzA 17 199))])) w:=by kernel_rfl
theorem Acu (w : ql) : (ReflectliteType.relation "AssignableTo" ReflectliteType.assignableTo #[.agg #[.pointer (some ⟨17, 199, none⟩)], .iface 279 (.agg #[.pointer (some ⟨17, 199, none⟩)])]).run prog w = .ok (.bool true) w := by kernel_rfl
theorem gX (d:TypeId) (y:Value) (a:Int) (w:ql):(ReflectliteValue.unpack (.iface 199 (.agg #[.iface d y,qzI a]))).run prog w
  = .ok (.agg #[.pointer (some (qzA 17 199)),.pointer (some ⟨w.heap.size,0,none⟩),.int .u64 153]) (w.alloc (.cells #[.iface d y,qzI a] 199)):=by kernel_rfl
theorem mC (w:ql):(Rtype.elem? 203).run prog w=.ok (some 199) w:=by kernel_rfl
theorem Ahc (p:Addr) (w:ql):(ReflectliteValue.mk 199 p ReflectliteValue.flagAddr).run prog w=.ok (.agg #[.pointer (some (qzA 17 199)),.pointer (some p),.int .u64 409]) w:=by kernel_rfl
theorem sH (a p:Addr) (W:ql) (c:W.cell? a=some (.pointer (some p))) :
  (ReflectliteValue.method (ReflectliteValue.valueError "reflectlite.Value.Elem" 0) ReflectliteValue.elem #[.agg #[.pointer (some ⟨17, 203, none⟩), .pointer (some a), .int .u64 150]]).run prog W
   = .ok (.agg #[.pointer (some (qzA 17 199)),.pointer (some p),.int .u64 409]) W:=by
 rw [yQ]
 simp only [Sem.run_bind,aP,Result.andThen]
 simp [ReflectliteValue.elem,loadVar,isAgg,underlying,underlying203,c,Result.andThen,mC,Ahc]
theorem Agx (v x:Value):ReflectliteValue.set #[v,x]=(do
  let (some (dst,a,fl),some (src,b,_)):=(<- ReflectliteValue.parts v,<- ReflectliteValue.parts x)
   | unsupported (.noEntry "extern/(internal/reflectlite.Value).Set.zeroValue")
  if fl / ReflectliteValue.flagAddr % 2 == 0 then unsupported (.noEntry "extern/(internal/reflectlite.Value).Set.unaddressable")
  let val <- loadVar src b
  if <- Rtype.directlyAssignable dst src then storeVar dst a val
  else if <- Rtype.implements dst src then
   if (<- Rtype.kind src) == 20 then
    match val with
    | .nilIface => unsupported (.noEntry "extern/reflectlite: a nil value of one interface type handed on as a value of another")
    | _=>storeVar dst a val
   else storeVar dst a (.iface src val)
  else panicString ("reflectlite.Set: value of type " ++ (<- Rtype.spelt src) ++ " is not assignable to type " ++ (<- Rtype.spelt dst))
  pure (.tuple #[])):=rfl
theorem wS (a:Addr) (w:ql):(ReflectliteValue.parts (.agg #[.pointer (some (qzA 17 199)),.pointer (some a),.int .u64 409])).run prog w=.ok (some (199,a,409)) w:=by kernel_rfl
theorem tZ (a:Addr) (w:ql):(ReflectliteValue.parts (.agg #[.pointer (some (qzA 17 199)),.pointer (some a),.int .u64 153])).run prog w=.ok (some (199,a,153)) w:=by kernel_rfl
theorem kB (w:ql):(Rtype.directlyAssignable 199 199).run prog w=.ok true w:=by kernel_rfl
theorem Ae0 (B:Nat) (b:TypeId) (y:Value) (a:Int) (W:ql) (f:W.cell? (qzA B 0)=some (.iface b y)) (g:W.cell? (qzA B 1)=some (qzI a)) :
  (loadVar 199 (qzA B 0)).run prog W=.ok (.agg #[.iface b y,qzI a]) W:=by
 simp [loadVar,isAgg,underlying,underlying199,loadCells,loadCellsFrom,Addr.add,f,g,Result.andThen]
theorem Ab0 (T:Nat) (b:TypeId) (y:Value) (a:Int) (i j:Value) (W:ql) (f:W.cell? (qzA T 0)=some i) (g:W.cell? (qzA T 1)=some j) (f0:W.frozen? (qzA T 0)=false) (f1:W.frozen? (qzA T 1)=false) :
  (storeVar 199 (qzA T 0) (.agg #[.iface b y,qzI a])).run prog W=.ok () ((W.setCell (qzA T 0) (.iface b y)).setCell (qzA T 1) (qzI a)):=by
 simp [storeVar,Value.cells,storeCells,Addr.add,Result.andThen,f,g,f0,f1,go_sem]
theorem Ad4 (T B:Nat) (b:TypeId) (y:Value) (a:Int) (i j:Value) (W:ql) (m:W.cell? (qzA B 0)=some (.iface b y)) (n:W.cell? (qzA B 1)=some (qzI a)) (f:W.cell? (qzA T 0)=some i) (g:W.cell? (qzA T 1)=some j) (f0:W.frozen? (qzA T 0)=false) (f1:W.frozen? (qzA T 1)=false) :
  (ReflectliteValue.set #[.agg #[.pointer (some (qzA 17 199)),qh T,.int .u64 409],.agg #[.pointer (some (qzA 17 199)),qh B,.int .u64 153]]).run prog W
   = .ok (.tuple #[]) ((W.setCell (qzA T 0) (.iface b y)).setCell (qzA T 1) (qzI a)):=by
 rw [Agx]
 simp only [Sem.run_bind,wS,tZ,Result.andThen]
 simp [ReflectliteValue.flagAddr,Ae0 B b y a W m n,kB,Ab0 T b y a i j W f g f0 f1,Result.andThen]
def Hl (w:ql):Prop:=w.cell? (qzA 2 0)=some (.iface 279 (.agg #[.pointer (some (qzA 17 160))]))
theorem Hl.below {w w':ql} (h:Hl w) (hb:BW w w'):Hl w':=(hb.c 2 0 (qs w _ h)).t h
theorem Ag5 (b:TypeId) (y:Value) (a:Int) (T:Nat) (i j:Value) (w:ql) (p:Hl w) (f:w.cell? (qzA T 0)=some i) (g:w.cell? (qzA T 1)=some j) (f0:w.frozen? (qzA T 0)=false) (f1:w.frozen? (qzA T 1)=false) :
  qi 135 #[.iface 199 (.agg #[.iface b y,qzI a]),.iface 203 (qh T)] w λev w'=>ev=.returned (.bool true) /\
   ∃ w4,BW w w4/\w'=(w4.setCell (qzA T 0) (.iface b y)).setCell (qzA T 1) (qzI a):=by
 have r:=@run_callFunc_extern prog 180 _ (λargs=>ReflectliteValue.unpack (args.getD 0 (.tuple #[]))) func180 (by kernel_rfl) (by kernel_rfl) (by kernel_rfl) (by kernel_rfl)
 have s := @run_callFunc_extern prog 181 _ (ReflectliteValue.methodAny (ReflectliteValue.valueError "reflectlite.Value.Type" 0) (λt _ _ _ => ReflectliteType.toType t)) func181 (by kernel_rfl) (by kernel_rfl) (by kernel_rfl) (by kernel_rfl)
 have u := @run_callFunc_extern prog 182 _ (ReflectliteValue.method (ReflectliteValue.valueError "reflectlite.Value.IsNil" 0) ReflectliteValue.isNil) func182 (by kernel_rfl) (by kernel_rfl) (by kernel_rfl) (by kernel_rfl)
 have A:=@run_callFunc_extern prog 408 _ (ReflectliteType.abiMethod λt=>do pure (.int .u8 (<- Rtype.kind t))) func408 (by kernel_rfl) (by kernel_rfl) (by kernel_rfl) (by kernel_rfl)
 have x:=@run_callFunc_extern prog 422 _ (ReflectliteType.method ReflectliteType.elem) func422 (by kernel_rfl) (by kernel_rfl) (by kernel_rfl) (by kernel_rfl)
 have z := @run_callFunc_extern prog 423 _ (ReflectliteType.relation "Implements" ReflectliteType.implements_) func423 (by kernel_rfl) (by kernel_rfl) (by kernel_rfl) (by kernel_rfl)
 have C:=@run_callFunc_extern prog 227 _ ReflectliteType.typeOf func227 (by kernel_rfl) (by kernel_rfl) (by kernel_rfl) (by kernel_rfl)
 have v := @run_callFunc_extern prog 420 _ (ReflectliteType.relation "AssignableTo" ReflectliteType.assignableTo) func420 (by kernel_rfl) (by kernel_rfl) (by kernel_rfl) (by kernel_rfl)
 have D := @run_callFunc_extern prog 228 _ (ReflectliteValue.method (ReflectliteValue.valueError "reflectlite.Value.Elem" 0) ReflectliteValue.elem) func228 (by kernel_rfl) (by kernel_rfl) (by kernel_rfl) (by kernel_rfl)
 have F:=@run_callFunc_extern prog 229 _ ReflectliteValue.set func229 (by kernel_rfl) (by kernel_rfl) (by kernel_rfl) (by kernel_rfl)
 have U:=mD;have N:=Ng;have H:=Acu;have Y:=gX;have X:=fE;have V:=Aaz;have S:=Ys;have O:=Y2;have R:=Pu;have L:=Aa8;have M:=Adc;have I:=Ach;have J:=Aa2;obtain ⟨l,d⟩:=Ae ((w.alloc (.cells #[qh T] 203)).alloc (.cells #[.pointer (some (qzA 17 203)),.pointer (some ⟨w.heap.size,0,none⟩),.int .u64 150] 241));have k:T<w.heap.size:=qs w _ f;have hG:2<w.heap.size:=qs w _ p
 have n8:=tE ⟨w.heap.size,0,none⟩ (qzA T 0) l (by rw [<- d];simp)
 have G:l.cell? (qzA 2 0)=some (.iface 279 (.agg #[.pointer (some (qzA 17 160))])):=by
  rw [<- d,jg _ _ (qzA 2 0) (by have:=hG;simp only [World.size_alloc];omega),jg _ _ (qzA 2 0) hG];exact p
 have el:=sH ⟨w.heap.size,0,none⟩ (qzA T 0) (l.alloc (.cells #[.pointer (some (qzA 17 203)),.pointer (some ⟨w.heap.size,0,none⟩),.int .u64 150] 241)) (by rw [jg _ _ ⟨w.heap.size,0,none⟩ (by rw [<- d];simp;omega),<- d];simp)
 subst d
 have st:=Ad4 T (w.heap.size+1+1+1) b y a i j ((((w.alloc (.cells #[qh T] 203)).alloc (.cells #[.pointer (some (qzA 17 203)),.pointer (some ⟨w.heap.size,0,none⟩),.int .u64 150] 241)).alloc (.cells #[.pointer (some (qzA 17 203)),.pointer (some ⟨w.heap.size,0,none⟩),.int .u64 150] 241)).alloc (.cells #[.iface b y,qzI a] 199))
  (by rw [World.cell?_alloc_at _ _ _ _ (by simp)];rfl)
  (by rw [World.cell?_alloc_at _ _ _ _ (by simp)];rfl)
  (by rw [jg _ _ (qzA T 0) (by simp;omega),jg _ _ (qzA T 0) (by simp;omega),jg _ _ (qzA T 0) (by simp;omega),jg _ _ (qzA T 0) k];exact f)
  (by rw [jg _ _ (qzA T 1) (by simp;omega),jg _ _ (qzA T 1) (by simp;omega),jg _ _ (qzA T 1) (by simp;omega),jg _ _ (qzA T 1) k];exact g)
  (by rw [World.frozen?_alloc_old _ _ (qzA T 0) (by simp;omega),World.frozen?_alloc_old _ _ (qzA T 0) (by simp;omega),World.frozen?_alloc_old _ _ (qzA T 0) (by simp;omega),World.frozen?_alloc_old _ _ (qzA T 0) (Nat.ne_of_lt k)];exact f0)
  (by rw [World.frozen?_alloc_old _ _ (qzA T 1) (by simp;omega),World.frozen?_alloc_old _ _ (qzA T 1) (by simp;omega),World.frozen?_alloc_old _ _ (qzA T 1) (by simp;omega),World.frozen?_alloc_old _ _ (qzA T 1) (Nat.ne_of_lt k)];exact f1)
 have q:qj (Below w.heap.size w ((((w.alloc (.cells #[qh T] 203)).alloc (.cells #[.pointer (some (qzA 17 203)),.pointer (some ⟨w.heap.size,0,none⟩),.int .u64 150] 241)).alloc (.cells #[.pointer (some (qzA 17 203)),.pointer (some ⟨w.heap.size,0,none⟩),.int .u64 150] 241)).alloc (.cells #[.iface b y,qzI a] 199))) :=
  (((bR.alloc nL _).alloc (by simp) _).alloc (by simp;omega) _).alloc (by simp;omega) _
 go_enter func135,ntmps135
 go_wp2;refine wp_loop_rounds 1 ?_;rw [rounds_succ];go_wp2;go_ret;exact ⟨rfl,_,q.o,rfl⟩
end Kb
namespace Kb
theorem Agh (T:Nat) (w:ql) :
  qi 135 #[.nilIface,.iface 203 (qh T)] w λev w'=>ev=.returned (.bool false)/\BW w w':=by
 go_enter func135,ntmps135
 go_wp2;go_ret;exact ⟨rfl,bR⟩
theorem Acr (w:ql):qi 107 #[.nilIface] w (qp (qzI 0) w):=by
 go_enter func107,ntmps107
 go_wp2_with fail
 refine (Agh _ _).m ?_;rintro e r ⟨rfl,k⟩
 have h:=next (show Below w.heap.size w (w.alloc (.cells #[.nilIface,qzI 0] 199)) by go_grown) k
 clear k;go_wp2;go_ret;exact ⟨rfl,h⟩
theorem tK (n:TypeId) (y:Value) (a:Int) (w:ql) (l:Hl w):qi 107 #[.iface 199 (.agg #[.iface n y,qzI a])] w (qp (qzI a) w):=by
 obtain ⟨W,b⟩:=A0 (w.alloc (.cells #[.nilIface,qzI 0] 199))
 have f:BW w W:=by rw [b];exact bR.alloc nL _
 have d:W.cell? ⟨w.heap.size,0,none⟩=some .nilIface:=by rw [b];simp [go_sem]
 have g:W.cell? ⟨w.heap.size,1,none⟩=some (qzI 0):=by rw [b];simp [go_sem]
 have f0:W.frozen? ⟨w.heap.size,0,none⟩=false:=by rw [b];simp [go_sem]
 have f1:W.frozen? ⟨w.heap.size,1,none⟩=false:=by rw [b];simp [go_sem]
 have hs:=qs W _ d;have i:=Ag5 n y a w.heap.size _ _ W (l.below f) d g f0 f1;have j:=Aa b;have q:=Aa f;clear b f l
 go_enter func107,ntmps107
 go_upto_region 2 with fail
 rw [<- j.o];clear j;go_wp2_with fail
 refine i.m ?_;rintro e r ⟨rfl,s,c,rfl⟩;have c1:=(c.cell (p:=⟨w.heap.size,1,none⟩) hs).t g;have c0:=(c.cell (p:=⟨w.heap.size,0,none⟩) hs).t d;have h:=(q.o.t (c.m (jb hs)));clear d g f0 f1 i c;go_wp2;go_ret;exact ⟨rfl,(h.setCell (p:=⟨w.heap.size,0,none⟩) nL _).setCell (p:=⟨w.heap.size,1,none⟩) nL _⟩
end Kb
end Go.Proofs.YtfpafnefpmmofaaGreatDoor
