import Derived.Test.YtfpafnefpmmofaaGreatDoorJW1c
import Derived.WideKeyEntry
set_option maxRecDepth 100000
set_option maxHeartbeats 12800000
namespace Go.Proofs.YtfpafnefpmmofaaGreatDoor
open Go.RowKit Go.Proofs.Tryz
def scA (az:List Au) (b a am day:Int) (k:Nat):Int:=Gd (Ch az k) b a am day
def Mp (az:List Au) (b a am day x:Int):Prop:=(az.length<=100/\Pp (scA az b a am day) az.length x)\/(100<az.length/\x = -1)
theorem kQ {az:List Au} {b a am day x y:Int} (h:Mp az b a am day x) (g:Mp az b a am day y):x=y:=by
 rcases h with ⟨d,h⟩|⟨d,rfl⟩
 ·rcases g with ⟨_,g⟩|⟨c,_⟩
  ·exact Abk h g
  ·omega
 ·rcases g with ⟨c,_⟩|⟨_,rfl⟩
  ·omega
  ·rfl
theorem uT (ao:qm) (cap:Nat) (az:List Au) (F C am day:Int) (w:ql) (hz:Ba w ao az) (hn:az.length<=1048576) (hd:∀ a ∈ az,a.ref.length<=1099511627776) (w3:(Lit.int .i64 am).wf=true) (w4:(Lit.int .i64 day).wf=true) :
  qi 120 #[qf ao az.length cap,qzI F,qzI C,qzI am,qzI day] w λe w'=>∃ x,e=.returned (qzI x)/\Mp az F C am day x/\BW w w':=by
 by_cases hb:100<az.length
 ·have N:(100:Int)<(az.length:Int):=by omega
  have Y:(0:Int)<(az.length:Int):=by omega
  go_enter func120,ntmps120
  go_wp2;refine wp_loop_rounds 1 ?_;rw [rounds_succ];go_wp2;go_ret;exact ⟨_,rfl,.inr ⟨hb,rfl⟩,bR⟩
 have N:(az.length:Int)<=100:=by omega
 have G:qj (∀ k,k<az.length->∀ u,qi 147 #[Ha (Ch az k),qzI F,qzI C,qzI am,qzI day] u (qp (qzI (scA az F C am day k)) u)):=λk hk u=>kL _ F C am day u (hd _ (Ob hk)) w3 w4
 obtain ⟨h,D⟩:=Ae (scA az F C am day)
 have M:qj (∀ x,Pp h az.length x->Mp az F C am day x):=λx I=>.inl ⟨by omega,by rw [D];exact I⟩
 rw [D] at G;clear D hd w3 w4
 go_enter func120,ntmps120
 go_wp2
 go_loopw [11,12,13,14] (λb t i _ wr=>∃ (k:Nat) (x y:Int),k<=az.length/\i=qzI k/\t=qzI x/\b=qzI y/\Pp h k x/\(x = -1\/∃ j:Nat,x=(j:Int)/\y=h j)/\BW w wr) (λ_ _ i _ _=>az.length - (intOf i).toNat)
 case atStart=>exact ⟨0,-1,-1,qw _,rfl,rfl,rfl,.inl ⟨rfl,λk hk=>by omega⟩,.inl rfl,bR⟩
 case round =>
  obtain ⟨k,x,y,hk,rfl,rfl,rfl,v,J,f⟩:=hrel;have p:=Aa v;have L:=Aa f;have H:=Aa J;clear v J
  by_cases hlt:k<az.length
  ·rcases hz with Y|⟨b,off,rfl,n,z⟩
   ·rw [Y] at hlt;simp at hlt
   have l:=Aa z;have R:=(f.c b (off+k*6) n).t (l.o k hlt).1;have S:=(f.c b (off+k*6+1) n).t (l.o k hlt).2.1;have T:=(f.c b (off+k*6+2) n).t (l.o k hlt).2.2.1;have U:=(f.c b (off+k*6+3) n).t (l.o k hlt).2.2.2.1;have V:=(f.c b (off+k*6+4) n).t (l.o k hlt).2.2.2.2.1;have W:=(f.c b (off+k*6+5) n).t (l.o k hlt).2.2.2.2.2
   have a4:(k:Int)<(az.length:Int):=by omega
   have q:=Aa (G.o k hlt);obtain ⟨⟨r,i,c,m,d,u⟩,Z⟩:∃ a,Ch az k=a:=⟨_,rfl⟩;rw [Z] at R S T U V W q;unfold Ha at q
   simp only at R S T U V W q
   clear Z z f;go_wp2_with fail
   refine (q.o _).m ?_;rintro e u2 ⟨rfl,X⟩;have A:=Aa (L.o.t (X.m L.o.size));clear X R S T U V W q
   by_cases hs:0<=h k
   ·rcases H.o with I|⟨j,I,hy⟩
    ·subst I
     have B:=Aa (kN p.o hs);have g:qj (∃ j:Nat,(k:Int)=(j:Int)/\h k=h j):=⟨k,rfl,rfl⟩
     generalize h k=s at hs g
     go_wp2
     go_roundw
     case rel=>exact ⟨k+1,k,s,by omega,by go_num,rfl,rfl,B.o,.inr g.o,A.o⟩
     case measure=>simp [intOf];omega
    ·subst I
     have a3:¬ (j:Int)<0:=by omega
     by_cases hl:h k<y
     ·have B:=Aa (Aa3 p.o hs (by rw [<- hy];exact hl))
      have g:qj (∃ j:Nat,(k:Int)=(j:Int)/\h k=h j):=⟨k,rfl,rfl⟩;clear hy
      generalize h k=s at hs g hl
      go_wp2
      go_roundw
      case rel=>exact ⟨k+1,k,s,by omega,by go_num,rfl,rfl,B.o,.inr g.o,A.o⟩
      case measure=>simp [intOf];omega
     ·have B:=Aa (Aa1 p.o (by rw [<- hy];exact hl))
      have g:qj (∃ i:Nat,(j:Int)=(i:Int)/\y=h i):=⟨j,rfl,hy⟩;clear hy
      generalize h k=s at hs hl
      go_wp2
      go_roundw
      case rel=>exact ⟨k+1,j,y,by omega,by go_num,rfl,rfl,B.o,.inr g.o,A.o⟩
      case measure=>simp [intOf];omega
   ·have B:=Aa (vI p.o (by omega))
    generalize h k=s at hs
    go_wp2
    go_roundw
    case rel=>exact ⟨k+1,x,y,by omega,by go_num,rfl,rfl,B.o,H.o,A.o⟩
    case measure=>simp [intOf];omega
  ·have O:k=az.length:=by omega
   subst O;have HR:=Aa (M.o _ p.o);go_wp2;go_ret;exact ⟨_,rfl,HR.o,L.o⟩
def Re:List Int:=[30,30,15,60,20]
def N4 (x:Int):Int:=if 0<=x/\x<=4 then Re.getD x.toNat 0 else -1
theorem iX {x:Int} (h:x<0\/4<x):N4 x = -1:=if_neg (by omega)
theorem aY {k:Nat} (h:k<5):N4 (k:Int)=Re.getD k 0:=by rw [N4,if_pos (by omega)];rfl
theorem Xc (x:Int):(x<0\/4<x)\/∃ k:Nat,k<5/\x=(k:Int):=by
 by_cases h:x<0\/4<x
 ·exact .inl h
 ·exact .inr ⟨x.toNat,by omega,by omega⟩
def Fn (w : ql) : Prop := Lib.TabIs prog w "loop.example/g00126/impl.stepDays" .i64 Re
theorem Fn.below {w w':ql} (h:Fn w) (hb:BW w w'):Fn w':=Lib.tabBelow_of_tabIs h w' hb
theorem Fn.cell {w:ql} (h:Fn w) (i:Nat) (hi:i<5):w.cell? (qzA 14 i)=some (qzI (Re.getD i 0)) :=
 Lib.TabIs.cell h (by kernel_rfl) i hi
theorem xN (x:Int) (w:ql) (ht:Fn w) :
  qi 345 #[qzI x] w λe w'=>e=.returned (qzI (N4 x))/\w'=w:=by
 rcases Xc x with h|⟨k,hk,rfl⟩
 ·have a:qj _:=iX h
  clear ht
  rcases h with h|h
  ·go_enter func345,ntmps345
   go_wp2;go_ret;exact ⟨Af a.o.s,rfl⟩
  ·go_enter func345,ntmps345
   go_wp2;go_ret;exact ⟨Af a.o.s,rfl⟩
 ·have d:=ht.cell k hk
  have c:qj _:=aY hk;obtain ⟨v,b⟩:=Ae (Re.getD k 0);rw [b] at d;have a:qj _:=b;clear ht b
  go_enter func345,ntmps345
  go_wp2;go_ret
  exact ⟨Af (by rw [c.o,a.o]),rfl⟩
theorem Ly (x:Int) (w:ql) :
  qi 154 #[qzI x] w λe w'=>e=.returned (qzI (N4 x))/\BW w w':=by
 rcases Xc x with h|⟨k,hk,rfl⟩
 ·have a:qj _:=iX h
  have hi:Gb x 0 4=false:=eB h
  go_enter func154,ntmps154
  go_wp2_with (go_at_call 89;refine (Cg _ _ _ _).m ?_;rintro e w' ⟨rfl,rfl⟩)
  go_ret;exact ⟨Af a.o.s,bR⟩
 ·have hi:Gb (k:Int) 0 4=true:=Vc (by omega) (by omega)
  have f:qj (Below w.heap.size w (w.alloc (.cells #[qzI 30,qzI 30,qzI 15,qzI 60,qzI 20] 3))):=bR.alloc nL _
  have d:(w.alloc (.cells #[qzI 30,qzI 30,qzI 15,qzI 60,qzI 20] 3)).cell? ⟨w.heap.size,k,none⟩=some (qzI (Re.getD k 0)):=by
   rcases (show k=0\/k=1\/k=2\/k=3\/k=4 by omega) with rfl|rfl|rfl|rfl|rfl <;> simp [Re]
  have c:qj _:=aY hk;obtain ⟨v,b⟩:=Ae (Re.getD k 0);rw [b] at d;have a:qj _:=b;clear b
  go_enter func154,ntmps154
  go_wp2_with (go_at_call 89;refine (Cg _ _ _ _).m ?_;rintro e w' ⟨rfl,rfl⟩)
  go_ret
  exact ⟨Af (by rw [c.o,a.o]),f.o⟩
def Rm (x:Cd):List Value:=[qzI x.1,qzI x.2]
def G8 (H:List Cd):List Value:=H.flatMap Rm
theorem Uq (x:Cd) (r:List Cd):G8 (x::r)=qzI x.1::qzI x.2::G8 r:=rfl
theorem Y7 (a b:List Cd):G8 (a++b)=G8 a++G8 b:=by simp [G8]
theorem vY (H:List Cd):∀ k,k<H.length->(G8 H)[k*2]?=some (qzI (Bq H k).1)/\(G8 H)[k*2+1]?=some (qzI (Bq H k).2):=by
 induction H with
 | nil=>intro k h;simp at h
 | cons x r ih =>
  intro k h;rw [Uq]
  cases k with
  | zero=>exact ⟨rfl,rfl⟩
  | succ k =>
   have:=ih k (by simpa using h)
   rw [show (k+1) * 2=k*2+1+1 by omega,je,je,je,je]
   exact this
theorem oL (H:List Cd) (x:Cd):∀ k,k<H.length->((G8 H).set (k*2) (qzI x.1)).set (k*2+1) (qzI x.2)=G8 (H.set k x):=by
 induction H with
 | nil=>intro k h;simp at h
 | cons g r ih =>
  intro k h;rw [Uq]
  cases k with
  | zero=>rfl
  | succ k =>
   have:=ih k (by simpa using h)
   rw [show (k+1) * 2=k*2+1+1 by omega,List.set_cons_succ,List.set_cons_succ,List.set_cons_succ,List.set_cons_succ,this]
   rfl
theorem kI (H:List Cd):∀ u ∈ G8 H,u.oneCell'=true:=by
 intro u S;obtain ⟨a,_,h⟩:=List.mem_flatMap.1 S
 simp only [Rm,List.mem_cons,List.not_mem_nil,or_false] at h
 rcases h with rfl|rfl <;> rfl
theorem zS:(prog.info? 314).map (λi=>(i.zero,i.size,i.bytes))=some (some (.agg #[qzI 0,qzI 0]),2,16):=by kernel_rfl
structure HP (q:Option (Nat×Obj)) (w:ql) (H:List Cd) (ao:qm) (cap:Nat) (u:ql):Prop where
 bel:BW w u
 box:u.cell? ⟨w.heap.size,0,none⟩=some (qf ao H.length cap)
 fz:u.frozen? ⟨w.heap.size,0,none⟩=false
 own:u.ownsRow (w.heap.size+1) 314 2 (qf ao H.length cap) H.length (G8 H)
 kp:∀ b o,q=some (b,o)->u.heap[b]?=some o/\w.heap.size<b/\∀ x,(Value.slice ao H.length cap).ownBlock=some x->x≠b
theorem HP.lt {q:Option (Nat×Obj)} {w u:ql} {H:List Cd} {ao:qm} {cap:Nat} (h:HP q w H ao cap u):w.heap.size<u.heap.size:=qs u _ h.box
theorem Afw {w w':ql} {base n size:Nat} {t:TypeId} {v:Value} {I:List Value} (h:w.ownsRow base t size v n I) (hb:BW w w'):w'.ownsRow base t size v n I:=by
 obtain ⟨f,j⟩:=h;refine ⟨f,?_⟩
 rcases j with h|⟨g,cap,D,A,l,F,a1,a2,M,N⟩
 ·exact .inl h
 ·have B:g<w.heap.size:=(Array.getElem?_eq_some_iff.1 F).1
  exact .inr ⟨g,cap,D,A,l,(hb.block g B).t F,a1,a2,M,N⟩
theorem HP.below {q:Option (Nat×Obj)} {w u G:ql} {H:List Cd} {ao:qm} {cap:Nat} (h:HP q w H ao cap u) (b:BW u G):HP q w H ao cap G :=
 ⟨h.bel.t (b.m h.bel.size),(b.cell (p:=⟨w.heap.size,0,none⟩) h.lt).t h.box,(b.frozen (p:=⟨w.heap.size,0,none⟩) h.lt).t h.fz,Afw h.own b,λx o e=>by
  obtain ⟨f,j,z⟩:=h.kp x o e;exact ⟨(b.block x (Array.getElem?_eq_some_iff.1 f).1).t f,j,z⟩⟩
theorem HP.row {q:Option (Nat×Obj)} {w u:ql} {H:List Cd} {ao:qm} {cap:Nat} (h:HP q w H ao cap u) (T:0<H.length):∃ g,ao=some (qzA g 0)/\w.heap.size<g/\g<u.heap.size:=by
 rcases h.own.2 with ⟨A,hn⟩|⟨g,c,D,A,l,_⟩
 ·omega
 ·obtain ⟨rfl,rfl⟩:ao=some (qzA g 0)/\cap=c:=by simpa using A
  exact ⟨g,rfl,by omega,(h.own.lt g rfl).2⟩
theorem HP.at {q:Option (Nat×Obj)} {w u:ql} {H:List Cd} {g:Nat} {cap:Nat} (h:HP q w H (some (qzA g 0)) cap u) {k:Nat} (hk:k<H.length):u.cell? (qzA g (k*2))=some (qzI (Bq H k).1)/\u.cell? (qzA g (k*2+1))=some (qzI (Bq H k).2):=by
 have U:=h.own.1
 rw [h.own.cellAt (k*2) (by omega),h.own.cellAt (k*2+1) (by omega)]
 exact vY H k hk
theorem HP.apart {q:Option (Nat×Obj)} {w u:ql} {H:List Cd} {ao:qm} {cap:Nat} (h:HP q w H ao cap u):some w.heap.size≠(Value.slice ao H.length cap).ownBlock:=λe=>by have:=(h.own.lt _ e.s).1;omega
theorem Xy {w:ql} {g k d C:Nat} {v u:Value} (h:g≠d) (O:w.cell? (qzA d C)=some u):(w.setCell (qzA g k) v).cell? (qzA d C)=some u:=by
 rw [World.cell?_setCell_other w (qzA g k) v (b:=(qzA d C)) (λe=>by injection e with e1 e2;exact h e1)];exact O
theorem HP.setAt {q:Option (Nat×Obj)} {w u:ql} {H:List Cd} {g:Nat} {cap:Nat} (h:HP q w H (some (qzA g 0)) cap u) {k:Nat} (hk:k<H.length) (x:Cd):HP q w (H.set k x) (some (qzA g 0)) cap ((u.setCell (qzA g (k*2)) (qzI x.1)).setCell (qzA g (k*2+1)) (qzI x.2)):=by
 obtain ⟨d,e,l,_⟩:=h.row (by omega)
 obtain rfl:g=d:=by simpa using e
 have J:=h.own.stored (k*2) (qzI x.1);have L:=J.1.stored (k*2+1) (qzI x.2);have R:=L.1;rw [oL H x k hk] at R
 refine ⟨(h.bel.setCell (jb l) _).setCell (jb l) _,?_,?_,by rw [List.length_set];exact R,λb o e=>?_⟩
 ·rw [List.length_set]
  exact Xy (by omega) (Xy (by omega) h.box)
 ·simp [h.fz]
 ·obtain ⟨f,j,z⟩:=h.kp b o e
  have y:g≠b:=z g rfl
  refine ⟨?_,j,by rw [List.length_set];exact z⟩
  rw [Below.heap_setCell _ _ _ _ (λe=>y e.s),Below.heap_setCell _ _ _ _ (λe=>y e.s)]
  exact f
theorem yU (a : Value) (w : ql) : (method 552 340 a "Push").run prog w = .ok (438, a) w := by kernel_rfl
theorem Aev (a : Value) (w : ql) : (method 552 340 a "Pop").run prog w = .ok (437, a) w := by kernel_rfl
theorem Ai6 (a : Addr) (nm : String) (w : ql) : (Builtin.ssaWrapNilChk_ #[340] 340 #[.pointer (some a), strVal "", strVal nm]).run prog w = .ok (.pointer (some a)) w := rfl
theorem bX (nm:String) {a:Addr} {v:Value} {w:ql} (h:w.cell? a=some v):(receiverAt 340 (.val (.pointer (some a))) false (some nm)).run prog w=.ok v w:=by
 simp [receiverAt,run_underlying underlying340,Place.get,Ai6,asAddr,loadVar,isAgg311,h]
theorem Qs {t:TypeId} {nm:String} {f:FuncId} (b:(prog.info? t).map (λi=>(i.methods.find? (·.name == nm)).map λm=>(m.path,m.func))=some (some (#[],some (f,false)))) (n:Nat) (x:Value) (w:ql) {v:Value}
  (hr:∀ s,(receiverAt t (.val x) false (some s)).run prog w=.ok v w):(method (n+1) t x nm).run prog w=.ok (f,v) w:=by
 cases hq:prog.info? t with
 | none=>rw [hq] at b;cases b
 | some i =>
  rw [hq] at b
  cases hm:i.methods.find? (·.name == nm) with
  | none=>simp [hm] at b
  | some m =>
   simp [hm] at b
   obtain ⟨c,d⟩:=b;rw [method]
   simp [typeInfo,hq,hm,follow,c,d]
   rw [hr]
   rfl
theorem rT {a : Addr} {v : Value} {w : ql} (h : w.cell? a = some v) : (method 552 340 (.pointer (some a)) "Len").run prog w = .ok (284, v) w :=
 Qs (by kernel_rfl) _ _ w (λ_=>bX _ h)
theorem He {a : Addr} {v : Value} {w : ql} (h : w.cell? a = some v) : (method 552 340 (.pointer (some a)) "Less").run prog w = .ok (435, v) w :=
 Qs (by kernel_rfl) _ _ w (λ_=>bX _ h)
theorem Li {a : Addr} {v : Value} {w : ql} (h : w.cell? a = some v) : (method 552 340 (.pointer (some a)) "Swap").run prog w = .ok (436, v) w :=
 Qs (by kernel_rfl) _ _ w (λ_=>bX _ h)
theorem Ss (a:Int) (w:ql):qi 370 #[qzI a] w λe w'=>e=.returned (.bool false)/\w'=w:=by
 go_enter func370,ntmps370
 go_wp2;go_ret
 exact ⟨Ab (by simp),rfl⟩
theorem Un (a b:Int) (w:ql):qi 363 #[qzI a,qzI b] w λe w'=>e=.returned (qzI (Wc a b))/\w'=w:=by
 by_cases h1:a<b
 ·have f:qj (Wc a b = -1):=if_pos h1
  go_enter func363,ntmps363
  go_wp2_with (go_at_call 370;refine (Ss _ _).m ?_;rintro e w' ⟨rfl,rfl⟩)
  go_ret;exact ⟨Af f.o.s,rfl⟩
 ·by_cases h2:b<a
  ·have f:qj (Wc a b=1):=by rw [qj,Wc,if_neg h1,if_pos h2]
   go_enter func363,ntmps363
   go_wp2_with (go_at_call 370;refine (Ss _ _).m ?_;rintro e w' ⟨rfl,rfl⟩)
   go_ret;exact ⟨Af f.o.s,rfl⟩
  ·have f:qj (Wc a b=0):=by rw [qj,Wc,if_neg h1,if_neg h2]
   go_enter func363,ntmps363
   go_wp2_with (go_at_call 370;refine (Ss _ _).m ?_;rintro e w' ⟨rfl,rfl⟩)
   go_ret;exact ⟨Af f.o.s,rfl⟩
theorem Ahh (g:Nat) (x y:Int) (w:ql) (c0:w.cell? (qzA g 0)=some (qzI x)) (c1:w.cell? (qzA g 1)=some (qzI y)) :
  qi 362 #[qf (some (qzA g 0)) 2 2] w λe w'=>e=.returned (qzI (orI x y))/\w'=w:=by
 by_cases h1:x=0
 ·have l:(x != 0)=false:=by simpa using h1
  by_cases h2:y=0
  ·have n:(y != 0)=false:=by simpa using h2
   have f:qj ((orI x y)=0):=by rw [qj,orI,if_neg (λh=>h h1),h2]
   clear h1 h2
   go_enter func362,ntmps362
   go_wp2;refine wp_loop_rounds 3 ?_;rw [rounds_succ];go_wp2;rw [rounds_succ];go_wp2;rw [rounds_succ];go_wp2;go_ret;exact ⟨Af f.o.s,rfl⟩
  ·have n:(y != 0)=true:=by simpa using h2
   have f:qj ((orI x y)=y):=by rw [qj,orI,if_neg (λh=>h h1)]
   clear h1 h2
   go_enter func362,ntmps362
   go_wp2;refine wp_loop_rounds 2 ?_;rw [rounds_succ];go_wp2;rw [rounds_succ];go_wp2;go_ret;exact ⟨Af f.o.s,rfl⟩
 ·have l:(x != 0)=true:=by simpa using h1
  have f:qj ((orI x y)=x):=if_pos h1;clear h1
  go_enter func362,ntmps362
  go_wp2;refine wp_loop_rounds 1 ?_;rw [rounds_succ];go_wp2;go_ret;exact ⟨Af f.o.s,rfl⟩
theorem pS (a c m:Int) (w:ql) (v:(Lit.int .i64 c).wf=true) :
  qi 339 #[.agg #[qzI a,qzI c,qzI m]] w λe w'=>e=.returned (.bool (I3 (a,c,m)))/\BW w w':=by
 have bel:Below w.heap.size w (w.alloc (.cells #[qzI a,qzI c,qzI m] 151)):=by go_grown
 have z:qj _:=v;clear v
 cases h1:Cm a
 ·have f:qj (I3 (a,c,m)=false):=by simp [qj,I3,h1]
  have j:qj _:=h1;clear h1
  go_enter func339,ntmps339
  go_wp2_with fail
  refine (Dv j.o _).m ?_;rintro e B ⟨rfl,hw⟩;rw [hw];clear hw;go_wp2;go_ret;exact ⟨Ab f.o.s,bel⟩
 have j:qj _:=h1;obtain ⟨d,hd⟩:∃ d,D6 c=d:=⟨_,rfl⟩;have A:qj _:=hd
 have f:qj (I3 (a,c,m)=(decide (0<=d) && (mOk m && decide (m≠0)))):=by simp only [qj,I3,h1,hd,ja]
 clear h1 hd
 go_enter func339,ntmps339
 go_wp2_with fail
 refine (Dv j.o _).m ?_;rintro e B ⟨rfl,hw⟩;rw [hw];clear hw;go_wp2_with fail
 refine (Yd _ d A.o z.o).m ?_;rintro e C ⟨rfl,k⟩
 have F:=(k.cell (p:=⟨w.heap.size,2,none⟩) (by simp)).t (show _=some (qzI m) by simp)
 have u:=bel.t (k.m bel.size);clear k bel
 by_cases h4:0<=d
 ·by_cases h5:m=0
  ·have i:qj (I3 (a,c,m)=false):=by rw [qj,f.o];simp [h5]
   have r:(m != 0)=false:=by simpa using h5
   clear f h5;go_wp2;go_ret;exact ⟨Ab i.o.s,u⟩
  ·have i:qj (I3 (a,c,m)=mOk m):=by rw [qj,f.o];simp [h4,h5]
   have r:(m != 0)=true:=by simpa using h5
   clear f h5;go_wp2_with fail
   refine (dX _ _).m ?_;rintro e D ⟨rfl,hw⟩;rw [hw];clear hw
   generalize mOk m=q at i
   go_wp2;go_ret;exact ⟨Ab i.o.s,u⟩
 ·have i:qj (I3 (a,c,m)=false):=by rw [qj,f.o];simp [h4]
  clear f;go_wp2;go_ret;exact ⟨Ab i.o.s,u⟩
theorem Rl (a b c x y z:Int) (w:ql) :
  qi 340 #[.agg #[.int .i64 a,.int .i64 b,.int .i64 c],.agg #[.int .i64 x,.int .i64 y,.int .i64 z]] w λe w'=>e=.returned (.int .i64 (Xt (a,b,c) (x,y,z)))/\∃ q os,w'=Go.Sort.grow (w.drewN q) os:=by
 obtain ⟨p,hp⟩:=Ae (Wc a x);obtain ⟨r,g⟩:=Ae (Wc b y)
 have l:qj (Xt (a,b,c) (x,y,z)=orI p r):=by rw [qj,<- hp,<- g];rfl
 have HP:qj (∀ w,qi 363 #[.int .i64 a,.int .i64 x] w λe w'=>e=.returned (.int .i64 p)/\w'=w):=λw=>by rw [<- hp];exact Un _ _ _
 have n:qj (∀ w,qi 363 #[.int .i64 b,.int .i64 y] w λe w'=>e=.returned (.int .i64 r)/\w'=w):=λw=>by rw [<- g];exact Un _ _ _
 clear hp g;obtain ⟨W,d⟩:=A0 ((w.alloc (.cells #[.int .i64 a,.int .i64 b,.int .i64 c] 151)).alloc (.cells #[.int .i64 x,.int .i64 y,.int .i64 z] 151))
 have h:W.cell? ⟨w.heap.size,0,none⟩=some (.int .i64 a):=by rw [d];simp [go_sem]
 have i:W.cell? ⟨w.heap.size,1,none⟩=some (.int .i64 b):=by rw [d];simp [go_sem]
 have j:W.cell? ⟨w.heap.size+1,0,none⟩=some (.int .i64 x):=by rw [d];simp [go_sem]
 have k:W.cell? ⟨w.heap.size+1,1,none⟩=some (.int .i64 y):=by rw [d];simp [go_sem]
 have f:qj _:=d
 go_enter func340,ntmps340
 go_wp2;rw [<- d];clear d
 go_region_held3 (λw'=>w'.cell? ⟨w.heap.size,0,none⟩=some (.int .i64 a)/\w'.cell? ⟨w.heap.size,1,none⟩=some (.int .i64 b)/\w'.cell? ⟨w.heap.size+1,0,none⟩=some (.int .i64 x)/\w'.cell? ⟨w.heap.size+1,1,none⟩=some (.int .i64 y)) (first|exact ⟨h,i,j,k⟩|(simp [go_sem,World.cell?_alloc_some,h,i,j,k];done)) ((first
  | (go_at_call_of 363 (Value.int .i64 x);refine (HP.o _).m ?_;rintro e w' ⟨rfl,rfl⟩)
  | (go_at_call_of 363 (Value.int .i64 y);refine (n.o _).m ?_;rintro e w' ⟨rfl,rfl⟩)
  | (go_at_call 362;refine (Ahh _ p r _ ?_ ?_).m ?_;simp [go_sem];simp [go_sem];rintro e w' ⟨rfl,rfl⟩)))
 all_goals
  go_wp2;go_ret;refine ⟨Af l.o.s,1,#[.cells #[.int .i64 a,.int .i64 b,.int .i64 c] 151,.cells #[.int .i64 x,.int .i64 y,.int .i64 z] 151,.cells #[.int .i64 p,.int .i64 r] 3],?_⟩;rw [f.o]
  rfl
end Go.Proofs.YtfpafnefpmmofaaGreatDoor
namespace Go.Proofs.YtfpafnefpmmofaaGreatDoor
open Go.RowKit Go.Sort Go.Shelf Go.Lib Go.Proofs.Tryz
theorem Uk (ls:List Ln):flatK Pv 3 ls.toArray=(Ak ls).toArray:=by
 apply ext_get!
 ·simp [C9]
 ·intro t ht
  simp only [size_flatK,List.size_toArray] at ht
  rw [get_flatK _ _ _ _ (by simpa using ht)]
  have H:t / 3<ls.length:=by omega
  have M:ls.toArray[t / 3]! = Cw ls (t / 3):=by simp [Cw,H]
  have h:=Jl ls (t / 3) H;rw [M]
  have s:(Ak ls).toArray[t]! = ((Ak ls)[t]?).getD default:=by simp
  rw [s]
  rcases (show t % 3=0\/t % 3=1\/t % 3=2 by omega) with e|e|e
  ·rw [e,show t=t / 3*3 by omega,h.1,show (t / 3*3) / 3=t / 3 by omega];rfl
  ·rw [e,show t=t / 3*3+1 by omega,h.2.1,show (t / 3*3+1) / 3=t / 3 by omega];rfl
  ·rw [e,show t=t / 3*3+2 by omega,h.2.2,show (t / 3*3+2) / 3=t / 3 by omega];rfl
theorem sS {w:ql} {base n cap g:Nat} {t:TypeId} {ls:List Ln} (h:w.ownsRow base t 3 (qf (some (qzA g 0)) n cap) n (Ak ls)):HoldsK Pv 3 w g 0 ls.toArray:=by
 have hn:n=ls.length:=by have:=h.1;rw [C9] at this;omega
 intro j b;rw [Uk] at b ⊢
 simp only [List.size_toArray,C9] at b
 refine ⟨?_,h.frozenAt _⟩
 rw [qu,h.cellAt j (by omega)]
 have:j<(Ak ls).length:=by rw [C9];omega
 simp [getElem!_pos,this]
theorem pM {w:ql} {base n cap g m:Nat} {t:TypeId} {ls a:List Ln} {os:Array Obj} (h:w.ownsRow base t 3 (qf (some (qzA g 0)) n cap) n (Ak ls)) (R:a.length=ls.length) :
  (sortWorldK Pv 3 w g 0 m a.toArray os).ownsRow base t 3 (qf (some (qzA g 0)) n cap) n (Ak a):=by
 have hn:n=ls.length:=by have:=h.1;rw [C9] at this;omega
 have c:=(h.lt g rfl).2
 rcases h.2 with ⟨e0,_⟩|⟨O,f,q,e0,hb,s,o,hm,hs,ht⟩
 ·cases e0
 ·injection e0 with e1 _ e3
  injection e1 with e1
  injection e1 with e1
  subst e1;subst e3
  refine ⟨by rw [C9];omega,.inr ⟨g,cap,putCells id 0 (Ak a).toArray q,rfl,hb,?_,o,hm,by simpa [putCells] using hs,?_⟩⟩
  ·unfold sortWorldK putRowK
   rw [Uk]
   have e1:((w.heap.modify g (onCells (putCells id 0 (Ak a).toArray)))++os)[g]?=some (.cells (putCells id 0 (Ak a).toArray q) t):=by
    rw [Array.getElem?_append_left (by simpa using c),Array.getElem?_modify,if_pos rfl,s];rfl
   exact e1
  ·apply List.ext_getElem?
   intro j;rw [List.getElem?_take,Array.getElem?_toList]
   by_cases b:j<n*3
   ·have F:j<q.size:=by rw [hs];exact jd b (Nat.mul_le_mul_right 3 o)
    have hd:j<(Ak a).length:=by rw [C9];omega
    simp only [if_pos b,putCells,Array.getElem?_mapIdx,Array.getElem?_eq_getElem F,Option.map_some]
    rw [if_pos ⟨qw _,by simpa using hd⟩,List.getElem?_eq_getElem hd]
    simp [getElem!_pos,hd]
   ·rw [if_neg b,jl (by rw [C9];omega)]
theorem cH {B:Nat} {w0 w:ql} {g m:Nat} {d:Array Ln} {os:Array Obj} (h:RowKit.Below B w0 w) (hB:B<=w0.heap.size) (s:B<=g):RowKit.Below B w0 (sortWorldK Pv 3 w g 0 m d os):=by
 refine ⟨h.os,h.tape,h.output,?_,λk hk=>?_⟩
 ·have:=h.size
  simp [sortWorldK,putRowK,grow,putRow,mapBlock,Sort.ahead];omega
 ·rw [<- h.block k hk]
  have hs:=h.size
  have e1:((w.heap.modify g (onCells (putCells id 0 (flatK Pv 3 d))))++os)[k]?=w.heap[k]?:=by
   rw [Array.getElem?_append_left (by simp;omega),Array.getElem?_modify,if_neg (by omega)]
  exact e1
theorem Q4 (x y:Ln):ltOf Xt x y=Gi x y:=by
 unfold ltOf
 rw [Bool.eq_iff_iff,decide_eq_true_eq];exact qA x y
theorem Aiy:SWO (ltOf Xt) where
 irrefl x:=by rw [Q4];simp [Gi]
 trans x y z r h2:=by rw [Q4] at *;exact Mh r h2
 ntrans x y z r h2:=by rw [Q4] at *;simp [Gi] at *;omega
theorem Ae8 (u off size:Nat) (w:ql):CmpLays prog 340 #[] Pv 3 Xt u off size w :=
 λ_ _ _ _ x y=>Rl x.1 x.2.1 x.2.2 y.1 y.2.1 y.2.2 _
theorem Ad7 {ls:List Ln} {d:Array Ln} (h:PermIn 0 ls.toArray.size ls.toArray d):d.toList.Perm ls/\d.size=ls.length:=by
 obtain ⟨r,_,G⟩:=h
 have hs:d.size=ls.length:=by simpa using r
 refine ⟨?_,hs⟩
 have e1:d.extract 0 ls.toArray.size=d:=by simp [<- hs]
 have e2:ls.toArray.extract 0 ls.toArray.size=ls.toArray:=by simp
 rw [e1,e2] at G
 simpa using G
theorem sG {n:Nat} {d:Array Ln} (h:SortedIn (ltOf Xt) 0 n d) (hn:d.size=n):d.toList.Pairwise (λx y=>Gi y x=false):=by
 rw [List.pairwise_iff_getElem];intro i j hi b D
 simp only [Array.length_toList] at hi b
 have:=h i j (qw _) D (by omega)
 rw [Q4,getElem!_pos d j b,getElem!_pos d i hi] at this
 simpa using this
theorem Acd (ao:qm) (n cap base:Nat) (ls:List Ln) (w:ql) (ho:w.ownsRow base 151 3 (qf ao n cap) n (Ak ls)) (hn:ls.length<=1000) (hb:base<=w.heap.size) :
  qi 343 #[qf ao n cap,.func (.func 340) #[] #[]] w λe w'=>e=.returned (.tuple #[])/\∃ a:List Ln,a.Perm ls/\a.Pairwise (λx y=>Gi y x=false)/\w'.ownsRow base 151 3 (qf ao n cap) n (Ak a)/\RowKit.Below base w w':=by
 have p:n=ls.length:=by have:=ho.1;rw [C9] at this;omega
 rcases ho.2 with ⟨e0,L⟩|⟨g,f,q,e0,C,_⟩
 ·have l:ls=[]:=qz (by omega)
  subst L;have h:=AnyF.slices_SortFunc_none sortLn ao cap (.func (.func 340) #[] #[]) w
  change qi 343 _ _ _ at h
  refine h.m ?_;rintro e w' ⟨rfl,rfl⟩
  refine ⟨rfl,[],by rw [l],List.Pairwise.nil,?_,bR⟩
  rw [l] at ho;exact ho
 ·injection e0 with e1 _ e3
  subst e1;have c:=(ho.lt g rfl).2
  have J:=enters_of func340 (by kernel_rfl) rfl
  have h:=AnyQ.slices_SortFunc sortLn 3 isAgg151 sizeOf151 Pv (λ_=>rfl) (λx v hv=>by simp [Pv] at hv;rcases hv with rfl|rfl|rfl <;> rfl) Xt Aiy 340 #[] g 0 cap ls.toArray w J (Ae8 g 0 ls.toArray.size w) (sS ho) c (by simp;omega)
  change qi 343 _ _ _ at h
  have I:ls.toArray.size=n:=by simp [p]
  rw [I] at h;refine h.m ?_;rintro e w' ⟨rfl,A,m,os,hp,hs,rfl⟩;rw [<- I] at hp;obtain ⟨N,p2⟩:=Ad7 hp
  have hd:A=A.toList.toArray:=by simp
  refine ⟨rfl,A.toList,N,sG hs (by rw [p2,p]),?_,cH bR hb C⟩
  rw [hd]
  exact pM ho (by simp [p2])
end Go.Proofs.YtfpafnefpmmofaaGreatDoor
namespace Go.Proofs.YtfpafnefpmmofaaGreatDoor
open Go.RowKit Go.Maps Go.Proofs.Tryz
def Fb (a c:Int):Lit:=.string (keyBytes [.int .i64 a,.int .i64 c])
section
variable {P:Program} {k:TypeId} {f0 f1:Field}
theorem uF {n : Nat} (G : P.underlying k = some (.struct #[f0, f1])) (B : P.keyType k = true) (I : P.cellsOf k = 2) (O : f0.offset = 0) (R : f1.offset = 1) (n0 : (f0.name != "_") = true) (n1 : (f1.name != "_") = true)
  (c0:P.cellsOf f0.type=1) (c1:P.cellsOf f1.type=1) (F:P.underlying f0.type=some (.int .i64)) (u1:P.underlying f1.type=some (.int .i64)) (hn:P.types.size=n+1) {a c:Int} (z:Bs a) (A:Bs c):keyOf P k (.agg #[.int .i64 a,.int .i64 c])=some (Fb a c):=by
 have j:(Lit.int .i64 a).wf=true:=z;have o:(Lit.int .i64 c).wf=true:=A
 simp only [bne_iff_ne,ne_eq] at n0 n1
 simp [keyOf,G,B,Value.formed,I,hn,Program.keyLits,Value.cells,O,R,c0,c1,F,u1,n0,n1,j,o,Fb]
theorem Ur {d:Nat} {t:TypeId} (F:P.underlying t=some (.int .i64)) {u:Value} {l:List Lit} (h:P.keyLits (d+1) t [u]=some l):∃ x,u=.int .i64 x/\l=[.int .i64 x]/\Bs x:=by
 cases u <;> simp [Program.keyLits,F] at h
 obtain ⟨⟨rfl,hw⟩,rfl⟩:=h;exact ⟨_,rfl,rfl,hw⟩
theorem kD {n:Nat} (G:P.underlying k=some (.struct #[f0,f1])) (B:P.keyType k=true) (I:P.cellsOf k=2) (O:f0.offset=0) (R:f1.offset=1)
  (c0:P.cellsOf f0.type=1) (c1:P.cellsOf f1.type=1) (F:P.underlying f0.type=some (.int .i64)) (u1:P.underlying f1.type=some (.int .i64)) (hn:P.types.size=n+1) {key:Value} {C:Lit} (h:keyOf P k key=some C) :
  ∃ a c,key=.agg #[.int .i64 a,.int .i64 c]/\C=Fb a c/\Bs a/\Bs c:=by
 cases key <;> simp [keyOf,G,B,Value.formed,I] at h
 rename_i cs
 obtain ⟨l⟩:=cs;obtain ⟨N,ls,hk,rfl⟩:=h
 match l,N with
 | [u,v],_ =>
  rw [hn] at hk;unfold Program.keyLits at hk
  simp only [G] at hk
  split at hk
  ·simp only [List.mapM_cons,List.mapM_nil,O,R,c0,c1,List.drop_zero] at hk
   have e1:(List.take 1 (Value.agg { toList:=[u,v] }).cells.toList)=[u]:=rfl;have e2:(List.take 1 (List.drop 1 (Value.agg { toList:=[u,v] }).cells.toList))=[v]:=rfl;rw [e1,e2] at hk
   cases h0:P.keyLits (n+1) f0.type [u] with
   | none=>rw [h0] at hk;cases hk
   | some l0 =>
    cases q:P.keyLits (n+1) f1.type [v] with
    | none=>rw [h0,q] at hk;cases hk
    | some l1 =>
     rw [h0,q] at hk
     have M:([l0,l1]:List (List Lit)).flatten=ls:=by simpa using hk
     obtain ⟨x,rfl,rfl,T⟩:=Ur F h0;obtain ⟨y,rfl,rfl,hy⟩:=Ur u1 q
     exact ⟨x,y,rfl,by rw [<- M];rfl,T,hy⟩
  ·cases hk
end
theorem Hj:(362:TypeId)<prog.types.size:=of_decide_eq_true (by kernel_rfl)
theorem yP:prog.cellsOf 362=2:=by kernel_rfl
theorem Af0:prog.keyType 362=true:=by kernel_rfl
theorem Ah6:(match prog.underlying 362 with|some (.array _ _)|some (.struct _)=>true|_=>false)=true:=by kernel_rfl
theorem yZ:WideMaps.KeyLaw prog 362:=deep_law_laid Sc (m:=3) (by omega) Hj (by kernel_rfl) Ah6
theorem cK:Keyed prog 362:=Keyed.of_law yZ
theorem dP:prog.cellsOf 3=1:=by kernel_rfl
theorem Aa6:∃ n,prog.types.size=n+1:=⟨prog.types.size - 1,(Nat.succ_pred_eq_of_pos (Nat.lt_of_le_of_lt (qw _) Hj)).s⟩
theorem Rz {a c:Int} (z:Bs a) (A:Bs c):keyOf prog 362 (.agg #[.int .i64 a,.int .i64 c])=some (Fb a c) :=
 let ⟨_,hn⟩:=Aa6
 uF underlying362 Af0 yP rfl rfl (by decide) (by decide) dP dP underlying3 underlying3 hn z A
theorem aL {key:Value} {C:Lit} (h:keyOf prog 362 key=some C):∃ a c,key=.agg #[.int .i64 a,.int .i64 c]/\C=Fb a c/\Bs a/\Bs c :=
 let ⟨_,hn⟩:=Aa6
 kD underlying362 Af0 yP rfl rfl dP dP underlying3 underlying3 hn h
theorem V9 {a c g i:Int} (z:Bs a) (A:Bs c) (j:Bs g) (o:Bs i) (h:Fb a c=Fb g i):a=g/\c=i:=by
 have:=cK.inj (Rz z A) (h ▸ Rz j o)
 simpa using this
def J2 (w:ql) (b n:Nat) (f:Int->Int->Option Int):Prop :=
 ∃ D:DataW Unit,w.ownsMap prog 362 (plainElem (H:=Unit) prog 3) b n D /\
  (∀ a c,Bs a->Bs c->Maps.has D (Fb a c)=(f a c).isSome/\D.atKey (Fb a c) (.lit (.int .i64 0))=.lit (.int .i64 ((f a c).getD 0)))/\∀ a c,f a c≠none->Bs a/\Bs c
theorem Sf (a c:Int):WideAt.IsKeyLit (Fb a c):=trivial
theorem xV {D:DataW Unit} {f:Int->Int->Option Int} (hm:IsMap D) (h:∀ a c,Bs a->Bs c->Maps.has D (Fb a c)=(f a c).isSome/\D.atKey (Fb a c) (.lit (.int .i64 0))=.lit (.int .i64 ((f a c).getD 0))) {a c v:Int} (z:Bs a) (A:Bs c) :
  ∀ g i,Bs g->Bs i->Maps.has (D.put (Fb a c) (.lit (.int .i64 v))) (Fb g i)=(if g=a/\i=c then some v else f g i).isSome/\(D.put (Fb a c) (.lit (.int .i64 v))).atKey (Fb g i) (.lit (.int .i64 0))=.lit (.int .i64 ((if g=a/\i=c then some v else f g i).getD 0)):=by
 intro g i j o
 by_cases he:g=a/\i=c
 ·obtain ⟨rfl,rfl⟩:=he
  rw [if_pos ⟨rfl,rfl⟩,Maps.has_put_same hm (Sf _ _),Maps.atKey_put_same hm (Sf _ _)];exact ⟨rfl,rfl⟩
 ·have p:Fb g i≠Fb a c:=λe=>he (V9 j o z A e)
  rw [if_neg he,Maps.has_put_other p,Maps.atKey_put_other p];exact h g i j o
theorem xS {D:DataW Unit} {f:Int->Int->Option Int} (h:∀ a c,Bs a->Bs c->Maps.has D (Fb a c)=(f a c).isSome/\D.atKey (Fb a c) (.lit (.int .i64 0))=.lit (.int .i64 ((f a c).getD 0))) {a c:Int} (z:Bs a) (A:Bs c) :
  ∀ g i,Bs g->Bs i->Maps.has (D.del (Fb a c)) (Fb g i)=(if g=a/\i=c then none else f g i).isSome/\(D.del (Fb a c)).atKey (Fb g i) (.lit (.int .i64 0))=.lit (.int .i64 ((if g=a/\i=c then none else f g i).getD 0)):=by
 intro g i j o
 by_cases he:g=a/\i=c
 ·obtain ⟨rfl,rfl⟩:=he
  rw [if_pos ⟨rfl,rfl⟩,Maps.has_del_same,Maps.atKey_del_same];exact ⟨rfl,rfl⟩
 ·have p:Fb g i≠Fb a c:=λe=>he (V9 j o z A e)
  rw [if_neg he,Maps.has_del_other p,Maps.atKey_del_other p];exact h g i j o
theorem J2.kept {w w':ql} {b n:Nat} {f:Int->Int->Option Int} {row:Option Nat} (h:J2 w b n f) (S:w.grownBy w' row) (p:some b≠row):J2 w' b n f:=by
 obtain ⟨D,q,J,L⟩:=h;exact ⟨D,q.kept S p,J,L⟩
theorem J2.lt {w:ql} {b n:Nat} {f:Int->Int->Option Int} (h:J2 w b n f):b<w.heap.size:=by
 obtain ⟨D,q,_⟩:=h;exact q.lt
theorem J2.below {w w':ql} {b n:Nat} {f:Int->Int->Option Int} (h:J2 w b n f) (hb:BW w w'):J2 w' b n f:=by
 have N:=h.lt;obtain ⟨D,⟨es,clock,q,r⟩,J,L⟩:=h;exact ⟨D,⟨es,clock,(hb.block b N).t q,r⟩,J,L⟩
end Go.Proofs.YtfpafnefpmmofaaGreatDoor
namespace Go.Proofs.YtfpafnefpmmofaaGreatDoor
open Go.RowKit Go.Maps Go.MapKept Go.ChangeMaps Go.Proofs.Tryz
open Go.WideElems (Fit)
open Go.WideMaps (KeyLaw)
section
variable {H:Type} {P:Program} {w:ql} {t k e:TypeId} {R:Value->Option (DataW H×List MemPlace)} {b:Nat} {es:Array MapEntry} {clock:Nat}
theorem Tj {α:Type} : ∀ (l:List α) (j:Nat) (x:α),l[j]?=some x->l.set j x=l
 | [],_,_,h=>by simp at h
 | y::r,0,x,h=>by simp at h;subst h;rfl
 | y::r,j+1,x,h=>by simp at h;simp [Tj r j x h]
theorem zI (K:KeyLaw P k) (ht:P.underlying t=some (.map k e)) {z:Value} (hz:∀ u:ql,(zeroValue e).run P u=.ok z u) (hb:w.heap[b]?=some (.map es clock)) (F:Fit P k R es clock) {key:Value} {kl:Lit} (d:keyOf P k key=some kl) :
  ∃ (Z:Value) (st:Nat) (q:Array MapEntry) (g:Nat),(Instr.mapEntry t (.map (some b)) key).run P w=.ok (.tuple #[Z,goInt st]) (setBlock w b (.map q g)) /\
   (Instr.mapUpdate t (.map (some b)) key Z).run P w=.ok () (setBlock w b (.map q g))/\(Instr.lookup t (.map (some b)) key false).run P w=.ok Z w:=by
 rcases K.find w d es.toList F.keys with ⟨M,S⟩|⟨j,e0,M,S,h3⟩
 ·refine ⟨z,clock,es.push ⟨key,z,clock⟩,clock+1,?_,?_,?_⟩
  ·simp [Instr.mapEntry,run_underlying ht,MapKept.run_getObj_map hb,K.check w false d,M,hz,MapKept.run_setObj_map _ hb,Result.andThen,setBlock]
  ·simp [Instr.mapUpdate,run_underlying ht,MapKept.run_getObj_map hb,K.check w false d,M,MapKept.run_setObj_map _ hb,Result.andThen,setBlock]
  ·simp [Instr.lookup,run_underlying ht,MapKept.run_getObj_map hb,K.check w _ d,M,hz,Result.andThen]
 ·have hj:es[j]?=some e0:=by simpa using S
  have m1:es.modify j (λe=>{ e with key:=key })=es:=by
   apply Array.ext'
   rw [Array.toList_modify,modify_eq_set _ _ _ _ S,show ({ e0 with key:=key } : MapEntry)=e0 by rw [<- h3]]
   exact Tj _ _ _ S
  have m2:es.modify j (λe=>{ e with key:=key,val:=e0.val })=es:=by
   apply Array.ext'
   rw [Array.toList_modify,modify_eq_set _ _ _ _ S,show ({ e0 with key:=key,val:=e0.val } : MapEntry)=e0 by rw [<- h3]]
   exact Tj _ _ _ S
  refine ⟨e0.val,e0.born,es,clock,?_,?_,?_⟩
  ·simp [Instr.mapEntry,run_underlying ht,MapKept.run_getObj_map hb,K.check w false d,M,hj,h3,K.stays w d,m1,MapKept.run_setObj_map _ hb,Result.andThen,setBlock]
  ·simp [Instr.mapUpdate,run_underlying ht,MapKept.run_getObj_map hb,K.check w false d,M,hj,h3,K.stays w d,m2,MapKept.run_setObj_map _ hb,Result.andThen,setBlock]
  ·simp [Instr.lookup,run_underlying ht,MapKept.run_getObj_map hb,K.check w _ d,M,Result.andThen]
end
theorem xZ {W:ql} {b n:Nat} {f:Int->Int->Option Int} (h:J2 W b n f) {a c v m:Int} (ha:Bs a) (hc:Bs c) (hv:(f a c).getD 0=v) (hw:Bs (v+m)) (hn:n<maxLen) :
  ∃ (st:Nat) (W1 W2:ql),(Instr.mapEntry 358 (.map (some b)) (.agg #[.int .i64 a,.int .i64 c])).run prog W=.ok (.tuple #[.int .i64 v,.int .i64 st]) W1 /\
   (Instr.lookup 358 (.map (some b)) (.agg #[.int .i64 a,.int .i64 c]) false).run prog W=.ok (.int .i64 v) W /\
   (Instr.lookup 358 (.map (some b)) (.agg #[.int .i64 a,.int .i64 c]) false).run prog W1=.ok (.int .i64 v) W1 /\
   (Instr.entryStore 358 (.map (some b)) (.int .i64 st) (.int .i64 (v+m))).run prog W1=.ok () W2 /\
   (Instr.lookup 358 (.map (some b)) (.agg #[.int .i64 a,.int .i64 c]) false).run prog W2=.ok (.int .i64 (v+m)) W2 /\
   W.grownBy W1 (some b)/\W.grownBy W2 (some b)/\J2 W2 b (n+1) (λa' c'=>if a'=a/\c'=c then some (v+m) else f a' c'):=by
 obtain ⟨D,i,B,b9⟩:=h;have d:=Rz ha hc;obtain ⟨es,clock,hb,F,hs,hD⟩:=i;have i:W.ownsMap prog 362 (plainElem (H:=Unit) prog 3) b n D:=⟨es,clock,hb,F,hs,hD⟩;obtain ⟨Z,st,q,g,hE,hU,hL⟩:=zI yZ underlying358 Ul hb F d;obtain ⟨c0,T,a7,Y⟩:=i.lookup_int cK underlying358 underlying3 (Ul _) d
 have X:c0=v:=by
  have e:=a7.s.t (B a c ha hc).2;rw [hv] at e
  injection e with e1;injection e1
 have b6:Z=.int .i64 v:=by
  rw [hL] at T;rw [<- X];injection T
 subst b6;rw [X] at Y;obtain ⟨w1,V,O,b3⟩:=i.update cK underlying358 hn d (plainElem_int underlying3 Y)
 have b7:w1=setBlock W b (.map q g):=by
  rw [hU] at V
  injection V with _ e;exact e.s
 subst b7;obtain ⟨c1,a4,I,_⟩:=O.lookup_int cK underlying358 underlying3 (Ul _) d
 have b1:c1=v:=by
  rw [Maps.atKey_put_same i.isMap (Sf _ _)] at I
  injection I with e1;injection e1 with _ e2;exact e2.s
 subst b1;obtain ⟨c9,c8,C,p,a3,_,hS⟩:=WideElems.entry_then_store yZ underlying358 Ul hb F d;have N:=hE.s.t a3
 have b5:st=c8/\setBlock W b (.map q g)=setBlock W b (.map C p):=by
  simp only [Result.ok.injEq,Value.tuple.injEq,goInt] at N
  refine ⟨?_,N.2⟩
  have:=N.1
  simp at this
  exact Int.natCast_inj.1 this.2
 obtain ⟨rfl,b0⟩:=b5
 have a8:(setBlock W b (.map q g)).heap[b]?=some (.map C p):=by rw [b0];exact heap_setBlock_same hb _
 obtain ⟨L,o,U,a6⟩:=hS (setBlock W b (.map q g)) (.int .i64 (c1+m)) a8;obtain ⟨w2,G,A,b4⟩:=i.update cK underlying358 hn d (plainElem_int underlying3 hw)
 have b8:w2=setBlock W b (.map L o):=by
  rw [a6] at G
  injection G with _ e;exact e.s
 subst b8
 have a9:setBlock (setBlock W b (.map q g)) b (.map L o)=setBlock W b (.map L o):=by simp [setBlock]
 rw [a9] at U;obtain ⟨c2,a5,J,_⟩:=A.lookup_int cK underlying358 underlying3 (Ul _) d
 have b2:c2=c1+m:=by
  rw [Maps.atKey_put_same i.isMap (Sf _ _)] at J
  injection J with e1;injection e1 with _ e2;exact e2.s
 subst b2
 refine ⟨st,_,_,hE,hL,a4,U,a5,b3,b4,_,A,xV i.isMap B ha hc,λa' c' hf=>?_⟩
 by_cases he:a'=a/\c'=c
 ·obtain ⟨rfl,rfl⟩:=he;exact ⟨ha,hc⟩
 ·simp only [if_neg he] at hf;exact b9 a' c' hf
end Go.Proofs.YtfpafnefpmmofaaGreatDoor
namespace Go.Proofs.YtfpafnefpmmofaaGreatDoor
open Go.RowKit Go.Maps Go.Proofs.Tryz
theorem Abm {f:Int->Int->Option Int} {a c m v:Int} (r:(f a c).getD 0=v) (l:v+m=0):upd f a c m=λi j=>if i=a/\j=c then none else if i=a/\j=c then some (v+m) else f i j:=by
 funext i j
 unfold upd
 by_cases he:i=a/\j=c
 ·rw [if_pos he,if_pos he,r,if_pos l]
 ·rw [if_neg he,if_neg he,if_neg he]
theorem yJ {f:Int->Int->Option Int} {a c m v:Int} (r:(f a c).getD 0=v) (l:v+m≠0):upd f a c m=λi j=>if i=a/\j=c then some (v+m) else f i j:=by
 funext i j
 unfold upd
 by_cases he:i=a/\j=c
 ·rw [if_pos he,if_pos he,r,if_neg l]
 ·rw [if_neg he,if_neg he]
theorem dH (b n:Nat) (f:Int->Int->Option Int) (a c m v:Int) (w:ql) (h:J2 w b n f) (B:Bs a) (C:Bs c) (r:(f a c).getD 0=v) (a5:-9000000000000000000<=v+m/\v+m<=9000000000000000000) (hn:n<maxLen) :
  qi 317 #[.map (some b),.agg #[qzI a,qzI c],qzI m] w λe w'=>e=.returned (.tuple #[])/\J2 w' b (n+1) (upd f a c m)/\w.grownBy w' (some b):=by
 obtain ⟨u,d⟩:=A0 (w.alloc (.cells #[qzI a,qzI c] 362));have a6:b<w.heap.size:=h.lt
 have U:u.cell? ⟨w.heap.size,0,none⟩=some (qzI a):=by rw [d];simp
 have V:u.cell? ⟨w.heap.size,1,none⟩=some (qzI c):=by rw [d];simp
 have p:w.heap.size<u.heap.size:=by rw [d];simp
 have L:w.grownBy u (some b):=by rw [d];exact World.grownBy_alloc w _ _
 have R:J2 u b n f:=by rw [d];exact h.kept (World.grownBy_alloc w _ none) (by simp)
 have S:J2 u.drew b n f:=R
 obtain ⟨st,W1,W2,hE,hL,a3,hS,a4,x,g,T⟩:=xZ (m:=m) S B C r (WalkArith.wf_i64 (by omega)) hn
 have a7:IntKind.i64.wrap (v+m)=v+m:=by simp [IntKind.wrap,IntKind.bits,IntKind.signed];omega
 have x0:=(x.cell_far ⟨w.heap.size,0,none⟩ p (by simp;omega)).t U
 have x1:=(x.cell_far ⟨w.heap.size,1,none⟩ p (by simp;omega)).t V
 have y0:=(g.cell_far ⟨w.heap.size,0,none⟩ p (by simp;omega)).t U
 have y1:=(g.cell_far ⟨w.heap.size,1,none⟩ p (by simp;omega)).t V
 have M:u.grownBy W2 (some b):=⟨g.os,g.tape,g.output,g.size,g.block⟩;have N:=Aa (L.t M);have O:=Aa T;have G:qj _:=Rz B C;have W:=Aa B;have X:=Aa C;clear h R S T x g L M B C
 by_cases l:v+m=0
 ·have I:(v+m == 0)=true:=by simpa using l
  have A:qj _:=Abm r l;clear l r
  go_enter func317,ntmps317
  go_upto_region 1 with fail
  rw [<- d];clear d
  go_region
  all_goals
   obtain ⟨D,s,k,z⟩:=O.o;have Y:=Aa s;have Z:qj _:=xS k W.o X.o;have H:qj _:=z;clear s k z
   go_wp2_with (at_delete;refine wpList_delete_own _ rfl _ _ 358 362 rfl 3 cK underlying358 _ b (n+1) D rfl Y.o _ _ rfl G.o ?_;intro w3 y q)
   have J:=q.grown;go_end0;refine ⟨rfl,⟨_,y,?_,?_⟩,N.o.t J⟩
   ·rw [A.o];exact Z.o
   ·rw [A.o]
    intro i j F
    by_cases he:i=a/\j=c
    ·simp only [if_pos he] at F;exact absurd rfl F
    ·simp only [if_neg he] at F
     exact H.o i j (by simp only [if_neg he];exact F)
 ·have I:(v+m == 0)=false:=by simpa using l
  have A:qj _:=yJ r l;clear l r
  go_enter func317,ntmps317
  go_upto_region 1 with fail
  rw [<- d];clear d
  go_region
  all_goals
   go_wp2;go_end0;refine ⟨rfl,?_,N.o⟩
   rw [A.o];exact O.o
theorem vX (w:ql):J2 (w.alloc (.map #[] 0)) w.heap.size 0 (look []) :=
 ⟨.map [],World.ownsMap_made w prog 362 (plainElem (H:=Unit) prog 3),λ_ _ _ _=>⟨rfl,rfl⟩,λ_ _ h=>absurd rfl h⟩
theorem qB {ls:List Ln} (h:∀ x ∈ ls,-1000000000000<=x.2.2/\x.2.2<=1000000000000) (a c:Int):-1000000000000<=(look ls a c).getD 0/\(look ls a c).getD 0<=1000000000000:=by
 cases hl:look ls a c with
 | none=>simp
 | some v=>have:=h _ (R9 hl);simpa using this
theorem dZ (ao:qm) (cap:Nat) (ls:List Ln) (w:ql) (hz:Ar w ao ls) (hn:ls.length<=400) (hs:rP ls) (R:NZ ls) (N:∀ x ∈ ls,-1000000000000<=x.2.2/\x.2.2<=1000000000000) (S:∀ x ∈ ls,N3 x) :
  qi 316 #[.agg #[qf ao ls.length cap]] w λe w'=>∃ g,e=.returned (.map (some g))/\w.heap.size<=g/\J2 w' g ls.length (look ls)/\BW w w':=by
 have b3:=@run_makeMap prog;obtain ⟨W,D⟩:=A0 ((w.alloc (.cells #[qf ao ls.length cap] 38)).alloc (.map #[] 0))
 have bW:BW w W:=by rw [D];go_grown
 have b0:W.heap.size=w.heap.size+2:=by rw [D];simp
 have k0:W.cell? ⟨w.heap.size,0,none⟩=some (qf ao ls.length cap):=by rw [D];simp [go_sem]
 have M0:J2 W (w.heap.size+1) 0 (look []):=by
  have:=vX (w.alloc (.cells #[qf ao ls.length cap] 38))
  rw [D];simpa using this
 have HZ:=Aa hz;have HS:=Aa hs;have Z:=Aa R;have F:=Aa N;have a4:=Aa S;have a3:=Aa bW;have I:=Aa M0;clear hz hs R N S bW M0
 go_enter func316,ntmps316
 go_wp2;rw [<- D];clear D
 go_loopw [10] (λi wr=>∃ k:Nat,k<=ls.length/\i=qzI k/\J2 wr (w.heap.size+1) k (look (ls.take k))/\BW w wr) (λi _=>ls.length - (intOf i).toNat)
 case atStart=>exact ⟨0,qw _,rfl,I.o,a3.o⟩
 case round =>
  obtain ⟨k,hk,rfl,hM,f⟩:=hrel;have U:=Aa hM;have a7:=f.size;have a8:=hM.lt;clear hM I
  by_cases hlt:k<ls.length
  ·have a6:(k:Int)<(ls.length:Int):=by omega
   obtain ⟨b,off,rfl,b2,c1,c2,c3⟩:=(HZ.o.below f).at hlt;have n:=uS HS.o Z.o hlt;have B:=F.o _ (F8 hlt);have C:=a4.o _ (F8 hlt);obtain ⟨⟨x,y,z⟩,hx⟩:∃ x,Cw ls k=x:=⟨_,rfl⟩;rw [hx] at c1 c2 c3 n B C
   simp only at c1 c2 c3 n B
   have O:=qB (ls:=ls.take k) (λq hq=>F.o q (List.mem_of_mem_take hq)) x y
   have T:=Aa n;have L:=Aa C;obtain ⟨V,A⟩:=A0 (wr.alloc (.cells #[qzI x,qzI y,qzI z] 151))
   have bV:BW w V:=by rw [A];exact f.alloc a7 _
   have a9:V.heap.size=wr.heap.size+1:=by rw [A];simp
   have MV:J2 V (w.heap.size+1) k (look (ls.take k)):=by rw [A];exact U.o.kept (World.grownBy_alloc wr _ none) (by simp)
   have v0:V.cell? ⟨wr.heap.size,0,none⟩=some (qzI x):=by rw [A];simp
   have v1:V.cell? ⟨wr.heap.size,1,none⟩=some (qzI y):=by rw [A];simp
   have v2:V.cell? ⟨wr.heap.size,2,none⟩=some (qzI z):=by rw [A];simp
   obtain ⟨t,ht⟩:=Ae ((look (ls.take k) x y).getD 0);rw [ht] at O;have HT:=Aa ht;have G:=Aa bV;have Y:=Aa MV;have J:=Aa bV.size
   have d:qj (∀ u,BW V u->u.cell? ⟨wr.heap.size,0,none⟩=some (qzI x)/\u.cell? ⟨wr.heap.size,1,none⟩=some (qzI y)/\u.cell? ⟨wr.heap.size,2,none⟩=some (qzI z)):=λu hu =>
    ⟨(hu.cell (p:=⟨wr.heap.size,0,none⟩) (by show wr.heap.size<V.heap.size;omega)).t v0,(hu.cell (p:=⟨wr.heap.size,1,none⟩) (by show wr.heap.size<V.heap.size;omega)).t v1,(hu.cell (p:=⟨wr.heap.size,2,none⟩) (by show wr.heap.size<V.heap.size;omega)).t v2⟩
   have r:qj (∀ u,BW V u->qi 317 #[.map (some (w.heap.size+1)),.agg #[qzI x,qzI y],qzI z] u λe u'=>e=.returned (.tuple #[])/\J2 u' (w.heap.size+1) (k+1) (look (ls.take (k+1)))/\u.grownBy u' (some (w.heap.size+1))):=λu hu=>by
    rw [T.o]
    exact dH (w.heap.size+1) k _ x y z t u (Y.o.below hu) L.o.1 L.o.2.1 HT.o ⟨by omega,by omega⟩ (by unfold maxLen;omega)
   clear n hx ht C B MV bV f O;go_upto_region 5 with fail
   rw [<- A];clear A c1 c2 c3
   go_region_held3 (λu=>u.cell? ⟨wr.heap.size,0,none⟩=some (qzI x)/\u.cell? ⟨wr.heap.size,1,none⟩=some (qzI y)/\u.cell? ⟨wr.heap.size,2,none⟩=some (qzI z)) (first|exact ⟨v0,v1,v2⟩|exact d.o _ l|exact s.o) ((first
    | (go_at_call 342;refine (zA _ _ _ _).m ?_;rintro e u1 ⟨rfl,b1⟩;have l:=bR.drew.t b1)
    | (go_at_call 317;refine (r.o _ l).m ?_;rintro e u2 ⟨rfl,m2,M⟩;have s:qj (u2.cell? ⟨wr.heap.size,0,none⟩=some (.int .i64 x)/\u2.cell? ⟨wr.heap.size,1,none⟩=some (.int .i64 y)/\u2.cell? ⟨wr.heap.size,2,none⟩=some (.int .i64 z)):=⟨(M.cell_far ⟨wr.heap.size,0,none⟩ (by have:=l.size;show wr.heap.size<u1.heap.size;omega) (by simp;omega)).t (d.o _ l).1,(M.cell_far ⟨wr.heap.size,1,none⟩ (by have:=l.size;show wr.heap.size<u1.heap.size;omega) (by simp;omega)).t (d.o _ l).2.1,(M.cell_far ⟨wr.heap.size,2,none⟩ (by have:=l.size;show wr.heap.size<u1.heap.size;omega) (by simp;omega)).t (d.o _ l).2.2⟩)))
   all_goals
    have X:=Aa m2
    have q2:=(G.o.t (l.m J.o)).grown M (G.o.t (l.m J.o)).size (λj hj=>by cases hj;omega)
    clear m2 M l b1 d r s;go_wp2
    go_roundw
    case rel=>exact ⟨k+1,by omega,by go_num,X.o,q2⟩
    case measure=>simp [intOf];omega
  ·have a5:k=ls.length:=by omega
   subst a5
   have a6:¬ (ls.length:Int)<(ls.length:Int):=by omega
   rw [List.take_length] at U;go_wp2;go_ret
   exact ⟨w.heap.size+1,rfl,by omega,U.o,f⟩
def evB (ls:List Ln):Bool:=ls.all λx=>decide (Gh x.2.1 ls=0)
def cT (D:DataW Unit) (ls:List Ln):Prop :=
 (∀ c,Maps.has D (.int .i64 c)=ls.any λx=>decide (x.2.1=c))/\∀ c,D.atKey (.int .i64 c) (.lit (.int .i64 0))=.lit (.int .i64 (Gh c ls))
theorem mW:cT (.map []) []:=⟨λ_=>rfl,λ_=>rfl⟩
theorem sW (c:Int) (ls:List Ln) (x:Ln):Gh c (ls++[x])=Gh c ls+if x.2.1=c then x.2.2 else 0:=by simp [Gh]
theorem iV {D:DataW Unit} {ls:List Ln} (h:cT D ls) (hm:IsMap D) (x y z:Int):cT (D.put (.int .i64 y) (.lit (.int .i64 (Gh y ls+z)))) (ls++[(x,y,z)]):=by
 constructor
 ·intro c
  rw [List.any_append]
  by_cases m:c=y
  ·subst m
   rw [Maps.has_put_same (k:=.int .i64 c) hm trivial];simp
  ·rw [Maps.has_put_other (Jn m),h.1 c]
   simp [Ne.s m]
 ·intro c
  rw [sW]
  by_cases m:c=y
  ·subst m
   rw [Maps.atKey_put_same (k:=.int .i64 c) hm trivial];simp
  ·rw [Maps.atKey_put_other (Jn m),h.2 c]
   simp [Ne.s m]
theorem yW {ls:List Ln} (h:∀ x ∈ ls,-1000000000000<=x.2.2/\x.2.2<=1000000000000) (c:Int) (k:Nat):-1000000000000 * (k:Int)<=Gh c (ls.take k)/\Gh c (ls.take k)<=1000000000000 * (k:Int):=by
 induction k with
 | zero=>simp [Gh]
 | succ k ih =>
  by_cases hk:k<ls.length
  ·rw [Tr c ls k hk]
   have:=h _ (F8 hk)
   split <;> omega
  ·rw [List.take_of_length_le (by omega)]
   rw [List.take_of_length_le (by omega)] at ih
   omega
theorem Acj (ao:qm) (cap:Nat) (ls:List Ln) (w:ql) (hz:Ar w ao ls) (hn:ls.length<=400) (a3:∀ x ∈ ls,-1000000000000<=x.2.2/\x.2.2<=1000000000000) (a9:∀ x ∈ ls,Bs x.2.1) :
  qi 341 #[qf ao ls.length cap] w (qp (.bool (evB ls)) w):=by
 have d5:=@run_makeMap prog;have HZ:=Aa hz;have O:=Aa a3;have b7:=Aa a9;clear hz a3 a9;have n:=World.ownsMap_made w prog 3 (plainElem (H:=Unit) prog 3);have Z:=(Below.refl w.heap.size w).alloc nL (.map #[] 0)
 go_enter func341,ntmps341
 go_wp2
 go_loopw [11] (λi wr=>∃ (k:Nat) (D:DataW Unit),k<=ls.length/\i=.int .i64 k/\wr.ownsMap prog 3 (plainElem (H:=Unit) prog 3) w.heap.size k D/\cT D (ls.take k)/\BW w wr) (λi _=>ls.length - (intOf i).toNat)
 case atStart=>exact ⟨0,.map [],qw _,rfl,n,mW,Z⟩
 case round =>
  obtain ⟨k,D,hk,rfl,B,G,r⟩:=hrel;have J:=r.size;have a:=Aa G;have g:=Aa B;clear n Z G B
  by_cases f:k<ls.length
  ·have c8:(k:Int)<(ls.length:Int):=by omega
   obtain ⟨b,off,rfl,d2,c1,c2,c3⟩:=(HZ.o.below r).at f;have I:=O.o _ (F8 f);have v:=b7.o _ (F8 f);have U:=Aa (Pf ls k f);obtain ⟨⟨x,y,z⟩,N⟩:∃ x,Cw ls k=x:=⟨_,rfl⟩;rw [N] at c1 c2 c3 I v U
   simp only at c1 c2 c3 I v
   have b8:=yW O.o y k;have V:=Aa v
   have hy:∀ c:Int,D.atKey (.int .i64 y) (.lit (.int .i64 0))=.lit (.int .i64 c)->c=Gh y (ls.take k)/\IntKind.i64.wrap (c+z)=c+z/\(Lit.int .i64 (c+z)).wf=true:=λc h=>by
    have e:=h.s.t (a.o.2 y)
    have m:c=Gh y (ls.take k):=by injection e with e1;injection e1
    have d4:(k:Int)<=400:=by omega
    refine ⟨m,?_,?_⟩
    ·rw [m];simp [IntKind.wrap,IntKind.bits,IntKind.signed];omega
    ·exact WalkArith.wf_i64 (by rw [m];omega)
   have HY:=Aa hy
   have b2:qj (k<maxLen):=by unfold maxLen;rw [qj];omega
   have R:qj (∀ o,Below w.heap.size w (wr.alloc o)):=λo=>r.alloc J o
   clear N v b8 hy I
   go_wp2_with (first
    | (at_lookup;refine wpList_lookup_own_int _ rfl _ _ 348 rfl 3 3 .i64 Hd underlying348 underlying3 (Ul _) w.heap.size k D rfl (g.o.alloc _) _ _ rfl (keyOf_int_mk underlying3 V.o) ?_;intro c d M;have HC:=Aa ((HY.o c d).1);have d7:=(HY.o c d).2.1;have b6:=Aa ((HY.o c d).2.2);clear d M)
    | (at_mapUpdate;refine wpList_mapUpdate_own _ rfl _ _ _ 348 rfl 3 3 Hd underlying348 _ w.heap.size k D rfl (g.o.alloc _) b2.o _ _ _ rfl rfl (keyOf_int_mk underlying3 V.o) _ [] (plainElem_int underlying3 b6.o) ?_;intro w1 p l)
    | go_in)
   have b4:=Aa p
   have q1:BW w w1:=(R.o _).grown l (R.o _).size (λj hj=>by cases hj;exact nL)
   clear p l;go_wp2
   go_roundw
   case rel=>exact ⟨k+1,_,by omega,by go_num,b4.o,by rw [U.o,HC.o];exact iV a.o g.o.isMap x y z,q1⟩
   case measure=>simp [intOf];omega
  ·have b9:k=ls.length:=by omega
   subst b9
   have c8:¬ (ls.length:Int)<(ls.length:Int):=by omega
   rw [List.take_length] at a;obtain ⟨W,hW⟩:=A0 wr;subst hW
   go_wp2_with (first
    | (at_range;refine wpList_range_own _ rfl _ 348 rfl 3 3 Hd underlying348 _ w.heap.size ls.length _ rfl g.o ?_;intro w0 C hg0 d0)
    | go_in)
   try go_frame
   have b0:=r.grown hg0 J (λj hj=>by cases hj)
   go_loopw [7] (λ_ wr=>∃ (left:Lit->Bool) (Wu:Nat),wr.ranges prog 3 (plainElem (H:=Unit) prog 3) w.heap.size W.heap.size ls.length D left Wu/\(∀ c,left (.int .i64 c)=true->Maps.has D (.int .i64 c)=true)/\(∀ c,Maps.has D (.int .i64 c)=true->left (.int .i64 c)=false->Gh c ls=0)/\BW w wr)
    (λ_ wr=>wr.rangeLeft w.heap.size W.heap.size)
   case atStart=>exact ⟨_,_,C,λ_ h=>h,(λc h1 h2=>by rw [h1] at h2;cases h2),b0⟩
   case round =>
    obtain ⟨left,Wu,a8,a7,q,L⟩:=hrel;clear C hg0 d0 b0;have S:=Aa a7;have X:=Aa q;have T:=Aa a8;clear a7 q a8
    go_wp2_with (first
     | (at_next;refine wpList_next_ranges_ii _ rfl _ rfl 3 3 .i64 .i64 Hd underlying3 underlying3 w.heap.size W.heap.size ls.length _ _ _ rfl T.o ?_ ?_)
     | go_in)
    ·intro _ a6
     have HV:qj (evB ls=true):=by
      rw [qj,evB,List.all_eq_true];intro x N
      have hh:Maps.has D (.int .i64 x.2.1)=true:=by
       rw [a.o.1,List.any_eq_true];exact ⟨x,N,by simp⟩
      simpa using X.o _ hh (a6 _)
     clear a6;go_wp2;go_ret;exact ⟨Ab HV.o.s,L⟩
    ·intro x c w1 Y d1 M c9 d F f a5 d6 d3
     have u:c=Gh x ls:=by
      have e:=(d (.lit (.int .i64 0))).s.t (a.o.2 x)
      injection e with e1;injection e1
     have q1:=L.grown a5 L.size (λj hj=>by cases hj;exact J)
     have A:=Aa F;have b3:=Aa f;have b1:=Aa (S.o _ c9);clear d F f a5 d1 M
     by_cases hc0:c=0
     ·have a4:(c != 0)=false:=by simpa using hc0
      have b5:qj (Gh x ls=0):=by rw [qj,<- u,hc0]
      clear u hc0;go_wp2
      go_roundw
      case rel =>
       refine ⟨_,Y,A.o,(λc' h=>S.o c' (jf _ _ ▸ h).1),λc' h1 h2=>?_,q1⟩
       by_cases N:c'=x
       ·rw [N];exact b5.o
       ·refine X.o c' h1 ?_
        have:=Maps.sameKey_ne (Jn N)
        simp [this] at h2
        exact h2
      case measure=>rw [A.o.left_eq,T.o.left_eq];exact b3.o
     ·have a4:(c != 0)=true:=by simpa using hc0
      have HV:qj (evB ls=false):=by
       rw [qj,evB];have hh:=b1.o;rw [a.o.1,List.any_eq_true] at hh;obtain ⟨y,hy,he⟩:=hh
       simp at he
       rw [List.all_eq_false]
       exact ⟨y,hy,by rw [he,<- u];simpa using hc0⟩
      clear u hc0;go_wp2;go_ret;exact ⟨Ab HV.o.s,q1⟩
namespace Tg
open Go.RowKit Go.Proofs.Tryz
theorem Qo {n:Int} {d:qn} (h:¬ (1<=n/\n<=9999)):C8 n d=false:=by unfold C8;rw [decide_eq_false h,Bool.false_and]
theorem Wf {n:Int} {d:qn} (h:¬ d.length<=200):C8 n d=false:=by unfold C8;rw [decide_eq_false h,Bool.false_and,Bool.and_false]
theorem Zj {n:Int} {d:qn} (h:1<=n/\n<=9999) (g:d.length<=200):C8 n d=Ag 32 126 d:=by unfold C8;rw [decide_eq_true h,decide_eq_true g,ja,ja]
theorem sU {l:qn} {q:Bool} (z:Ag 32 126 l=q) (w:ql) (A:l.length<=1099511627776) :
  qi 268 #[qd l] w (qr (.bool q) w):=by
 rw [<- z];exact E7 l w A
theorem Ji {l:qn} {q:Bool} (z:Ag 32 126 l=q) (w:ql) (A:l.length<=1099511627776) :
  qi 114 #[qd l] w (qr (.bool q) w):=by
 rw [<- z];exact J9 l w A
theorem Eu {x a b:Int} {q:Bool} (z:Gb x a b=q) (w:ql) :
  qi 89 #[qzI x,qzI a,qzI b] w (qr (.bool q) w):=by
 rw [<- z];exact Cg x a b w
theorem xC (n:Int) (d:qn) (w:ql) (A:d.length<=1099511627776) :
  qi 276 #[.agg #[qzI n,qd d]] w (qp (.bool (C8 n d)) w):=by
 by_cases h1:0<n
 ·have X:=decide_eq_true h1
  by_cases h2:n<10000
  ·have Y:=decide_eq_true h2
   by_cases h3:d.length<=200
   ·have g3:decide (d.length<=200)=true:=decide_eq_true h3
    have Z:decide ((d.length:Int)<=200)=true:=decide_eq_true (by omega)
    have F:qj (C8 n d=Ag 32 126 d):=Zj (by omega) h3
    obtain ⟨q,z⟩:=Ae (Ag 32 126 d);rw [z] at F;have J:qj _:=z;clear z
    go_enter func276,ntmps276
    go_wp2
    go_quiet (first|exact Calls.quiet_of_same (Er 4 _ (by omega))|exact Calls.quiet_of_same (sU J.o _ A))
    go_wp2;go_ret
    exact ⟨Ab F.o.s,below_drewN (by go_grown) _⟩
   ·have g3:decide (d.length<=200)=false:=decide_eq_false h3
    have Z:decide ((d.length:Int)<=200)=false:=decide_eq_false (by omega)
    have F:qj (C8 n d=false):=Wf h3
    go_enter func276,ntmps276
    go_wp2
    go_quiet (first|exact Calls.quiet_of_same (Er 4 _ (by omega))|exact Calls.quiet_of_same (E7 d _ A))
    go_wp2;go_ret
    exact ⟨Ab F.o.s,below_drewN (by go_grown) _⟩
  ·have Y:=decide_eq_false h2
   have F:qj (C8 n d=false):=Qo (by omega)
   go_enter func276,ntmps276
   go_wp2
   go_quiet (first|exact Calls.quiet_of_same (Er 4 _ (by omega))|exact Calls.quiet_of_same (E7 d _ A))
   go_wp2;go_ret
   exact ⟨Ab F.o.s,below_drewN (by go_grown) _⟩
 ·have X:=decide_eq_false h1
  have F:qj (C8 n d=false):=Qo (by omega)
  go_enter func276,ntmps276
  go_wp2
  go_quiet (first|exact Calls.quiet_of_same (Er 4 _ (by omega))|exact Calls.quiet_of_same (E7 d _ A))
  go_wp2;go_ret
  exact ⟨Ab F.o.s,below_drewN (by go_grown) _⟩
theorem Ra {n:Int} {d:qn} {q:Bool} (z:C8 n d=q) (w:ql) (A:d.length<=1099511627776) :
  qi 276 #[.agg #[qzI n,qd d]] w (qp (.bool q) w):=by
 rw [<- z];exact xC n d w A
theorem Ue (ao:qm) (cap:Nat) (fs:List Av) (w:ql) (hz:Aw w ao fs) (hn:fs.length<=4194304) (hd:∀ f ∈ fs,f.2.length<=1099511627776) :
  qi 246 #[qf ao fs.length cap] w (qp (.bool (Dh fs)) w):=by
 by_cases hbig:60<fs.length
 ·have R:(60:Int)<(fs.length:Int):=by omega
  have F:qj (Dh fs=false):=oO (by omega)
  go_enter func246,ntmps246
  go_wp2;go_ret;exact ⟨Ab F.o.s,bR⟩
 ·have R:¬ (60:Int)<(fs.length:Int):=by omega
  have N:qj (Dh fs=Vk 0 fs):=tC (by omega)
  rcases hz with rfl|⟨b,off,rfl,hb,C⟩
  ·go_enter func246,ntmps246
   go_wp2;refine wp_loop_rounds 1 ?_;rw [rounds_succ];go_wp2;go_ret;exact ⟨Ab N.o.s,bR⟩
  ·have O:=Aa C
   clear C
   go_enter func246,ntmps246
   go_wp2
   go_loopw [10] (λi wr=>∃ k:Nat,k<=fs.length/\i=qzI k/\Vk 0 fs=Vk (Kj fs k) (fs.drop k)/\BW w wr) (λi _=>fs.length - (intOf i).toNat)
   case atStart=>exact ⟨0,qw _,rfl,rfl,bR⟩
   case round =>
    obtain ⟨k,hk,rfl,y,u⟩:=hrel;have I:=u.size
    by_cases hlt:k<fs.length
    ·have c1:=(u.c b (off+k*2) hb).t (O.o k hlt).1
     have c2:=(u.c b (off+k*2+1) hb).t (O.o k hlt).2
     have a4:(k:Int)<(fs.length:Int):=by omega
     have r:=jG fs k (Kj fs k) hlt;have A:=hd _ (Mq hlt);have H:qj (Kj fs (k+1)=(Dn fs k).1):=rfl;obtain ⟨⟨n,s⟩,hf⟩:∃ f,Dn fs k=f:=⟨_,rfl⟩;rw [hf] at c1 c2 r A H
     simp only at c1 c2 r A H
     clear hf;have a5:=Ec (wr.alloc (.cells #[qzI n,qd s] 211))
     have X:=Ai (W:=wr.alloc (.cells #[qzI n,qd s] 211)) (a:=⟨wr.heap.size,0,none⟩) (v:=qzI n) (by simp)
     have Y:=Ai (W:=wr.alloc (.cells #[qzI n,qd s] 211)) (a:=⟨wr.heap.size,1,none⟩) (v:=qd s) (by simp)
     cases z:C8 n s
     ·have G:qj (Dh fs=false):=by rw [qj,N.o,y,r,z];rfl
      have J:=Aa z;clear z r y;go_wp2
      refine Aj (by kernel_rfl) (by kernel_rfl) ?_
      repeat (go_big_quiet_step (exact Bi (Ra J.o _ A)))
      refine wpQuiet_nil ?_;rintro _ ⟨⟨V,L⟩,B⟩;subst B;go_wp2;go_ret
      exact ⟨Ab G.o.s,(u.alloc I _).t (L.m (by simp;omega))⟩
     ·have J:=Aa z
      rw [z,ja] at r;clear z
      by_cases hk0':k=0
      ·have U:decide (0<k)=false:=by simp [hk0']
       have M:0<n:=by have:=(tagOne_parts J.o).1;omega
       have G:qj (Vk 0 fs=Vk (Kj fs (k+1)) (fs.drop (k+1))):=by
        rw [qj,y,r,H.o,show Kj fs k=0 from by rw [hk0'];rfl,decide_eq_true M,ja]
       clear r y hk0' M;go_wp2
       refine Aj (by kernel_rfl) (by kernel_rfl) ?_
       repeat (go_big_quiet_step (exact Bi (Ra J.o _ A)))
       refine wpQuiet_nil ?_;rintro _ ⟨⟨V,L⟩,B⟩;subst B;go_wp2
       go_roundw
       case rel=>exact ⟨k+1,by omega,by go_num,G.o,(u.alloc I _).t (L.m (by simp;omega))⟩
       case measure=>simp [intOf];omega
      ·obtain ⟨j,rfl⟩:∃ j,k=j+1:=⟨k - 1,by omega⟩
       have U:decide (0<j+1)=true:=by simp
       have c3:=(u.c b (off+j*2) hb).t (O.o j (by omega)).1
       have a3:(j:Int)<(fs.length:Int):=by omega
       have D:Kj fs (j+1)=(Dn fs j).1:=rfl;obtain ⟨p,hp⟩:=Ae ((Dn fs j).1);rw [hp] at c3 D
       have Z:=Ai (W:=wr.alloc (.cells #[qzI n,qd s] 211)) (a:=(qzA b (off+j*2))) (v:=qzI p) (by rw [jg _ _ _ (jd hb u.size)];exact c3)
       by_cases hpn:n<=p
       ·have S:decide (n<=p)=true:=by simpa using hpn
        have G:qj (Dh fs=false):=by rw [qj,N.o,y,r,D,decide_eq_false (by omega)];rfl
        clear r y hp D hpn;go_wp2
        refine Aj (by kernel_rfl) (by kernel_rfl) ?_
        repeat (go_big_quiet_step (exact Bi (Ra J.o _ A)))
        refine wpQuiet_nil ?_;rintro _ ⟨⟨V,L⟩,B⟩;subst B;go_wp2;go_ret
        exact ⟨Ab G.o.s,(u.alloc I _).t (L.m (by simp;omega))⟩
       ·have S:decide (n<=p)=false:=by simpa using hpn
        have G:qj (Vk 0 fs=Vk (Kj fs (j+1+1)) (fs.drop (j+1+1))):=by
         rw [qj,y,r,H.o,D,decide_eq_true (by omega),ja]
        clear r y hp D hpn;go_wp2
        refine Aj (by kernel_rfl) (by kernel_rfl) ?_
        repeat (go_big_quiet_step (exact Bi (Ra J.o _ A)))
        refine wpQuiet_nil ?_;rintro _ ⟨⟨V,L⟩,B⟩;subst B;go_wp2
        go_roundw
        case rel=>exact ⟨j+1+1,by omega,by go_num,G.o,(u.alloc I _).t (L.m (by simp;omega))⟩
        case measure=>simp [intOf];omega
    ·have T:k=fs.length:=by omega
     subst T
     have G:qj (Dh fs=true):=by rw [qj,N.o,y,qM]
     clear y;go_wp2;go_ret;exact ⟨Ab G.o.s,u⟩
theorem Ea {P:Program} {f:FuncId} {args:Array Value} {w:ql} {z:Gj w} {v:Value} (h:Calls P f args z.x λe w'=>e=.returned v/\w'=z.x) :
  Calls P f args z.x λe w''=>e=.returned v/\∃ y:Gj w,w''=y.x :=
 h.m λ_ _ ⟨he,hw⟩=>⟨he,z,hw⟩
theorem T9 (ao:qm) (cap:Nat) (fs:List Av) (w:ql) (V:Aw w ao fs) (hn:fs.length<=4194304) (hd:∀ f ∈ fs,f.2.length<=1099511627776) :
  qi 191 #[qf ao fs.length cap] w (qp (.bool (Dh fs)) w):=by
 rcases V with rfl|⟨b,off,rfl,hb,A⟩
 ·go_enter func191,ntmps191
  go_wp2;refine wp_loop_rounds 1 ?_;rw [rounds_succ];go_wp2;go_ret;exact ⟨rfl,bR⟩
 ·have I:=Aa A
  clear A
  go_enter func191,ntmps191
  go_wp2
  go_loopw [3] (λi wr=>∃ k:Nat,k<=fs.length/\i=qzI k/\Vk 0 fs=Vk (Kj fs k) (fs.drop k)/\BW w wr) (λi _=>fs.length - (intOf i).toNat)
  case atStart=>exact ⟨0,qw _,rfl,rfl,bR⟩
  case round =>
   obtain ⟨k,hk,rfl,g,a⟩:=hrel
   by_cases hlt:k<fs.length
   ·have c1:=(a.c b (off+k*2) hb).t (I.o k hlt).1
    have c2:wr.cell? (qzA b (off+k*2+1))=some (qd (Dn fs k).2):=(a.c b (off+k*2+1) hb).t (I.o k hlt).2
    have T:(k:Int)<(fs.length:Int):=by omega
    have d:=jG fs k (Kj fs k) hlt;have D:=hd _ (Mq hlt);have C:qj (Kj fs (k+1)=(Dn fs k).1):=rfl;obtain ⟨⟨n,s⟩,N⟩:∃ f,Dn fs k=f:=⟨_,rfl⟩;rw [N] at c1 c2 d D C
    simp only at c1 c2 d D C
    clear N;have U:=Ec wr;have W:=Ai c1;have X:=Ai c2;have HP:qj (Ag 32 126 s=Ag 32 126 s):=rfl
    by_cases hin:1<=n/\n<=9999
    ·have F:=Aa (Vc hin.1 hin.2)
     by_cases h3:s.length<=200
     ·have O:decide (200<s.length)=false:=decide_eq_false (by omega)
      have R:decide ((200:Int)<(s.length:Int))=false:=decide_eq_false (by omega)
      have H:=Aa (Zj hin h3);clear HP
      cases hw:Ag 32 126 s
      ·have r:=Aa (H.o.t hw)
       have HP:=Aa hw;clear hw H hin h3
       have q:=Aa (Pb (by rw [g,d,r.o];rfl))
       clear d g r;go_wp2
       refine Aj (by kernel_rfl) (by kernel_rfl) ?_
       repeat (go_big_quiet_step (first|exact Ea (Eu F.o _)|exact Ea (Ji HP.o _ D)))
       refine wpQuiet_nil ?_;rintro _ ⟨⟨G,u⟩,l⟩;subst l;go_wp2;go_ret;exact ⟨Ab q.o.s,a.t (u.m a.size)⟩
      ·have r:=Aa (H.o.t hw)
       have HP:=Aa hw;clear hw H h3;rw [r.o,ja] at d
       by_cases hk0':k=0
       ·have M:decide (0<k)=false:=by simp [hk0']
        have q:qj (Vk 0 fs=Vk (Kj fs (k+1)) (fs.drop (k+1))):=by
         rw [qj,g,d,C.o,show Kj fs k=0 from by rw [hk0'];rfl,decide_eq_true (show 0<n by omega),ja]
        clear d g hk0' r hin;go_wp2
        refine Aj (by kernel_rfl) (by kernel_rfl) ?_
        repeat (go_big_quiet_step (first|exact Ea (Eu F.o _)|exact Ea (Ji HP.o _ D)))
        refine wpQuiet_nil ?_;rintro _ ⟨⟨G,u⟩,l⟩;subst l;go_wp2
        go_roundw
        case rel=>exact ⟨k+1,by omega,by go_num,q.o,a.t (u.m a.size)⟩
        case measure=>simp [intOf];omega
       ·obtain ⟨j,rfl⟩:∃ j,k=j+1:=⟨k - 1,by omega⟩
        have M:decide (0<j+1)=true:=by simp
        have c3:wr.cell? (qzA b (off+j*2))=some (qzI (Dn fs j).1):=(a.c b (off+j*2) hb).t (I.o j (by omega)).1
        have S:(j:Int)<(fs.length:Int):=by omega
        have B:Kj fs (j+1)=(Dn fs j).1:=rfl;obtain ⟨p,hp⟩:=Ae ((Dn fs j).1);rw [hp] at c3 B;have Y:=Ai c3
        by_cases hpn:n<=p
        ·have J:decide (n<=p)=true:=by simpa using hpn
         have q:=Aa (Pb (by rw [g,d,B,decide_eq_false (by omega)];rfl))
         clear d g hp B hpn r hin;go_wp2
         refine Aj (by kernel_rfl) (by kernel_rfl) ?_
         repeat (go_big_quiet_step (first|exact Ea (Eu F.o _)|exact Ea (Ji HP.o _ D)))
         refine wpQuiet_nil ?_;rintro _ ⟨⟨G,u⟩,l⟩;subst l;go_wp2;go_ret;exact ⟨Ab q.o.s,a.t (u.m a.size)⟩
        ·have J:decide (n<=p)=false:=by simpa using hpn
         have q:qj (Vk 0 fs=Vk (Kj fs (j+1+1)) (fs.drop (j+1+1))):=by
          rw [qj,g,d,C.o,B,decide_eq_true (by omega),ja]
         clear d g hp B hpn r hin;go_wp2
         refine Aj (by kernel_rfl) (by kernel_rfl) ?_
         repeat (go_big_quiet_step (first|exact Ea (Eu F.o _)|exact Ea (Ji HP.o _ D)))
         refine wpQuiet_nil ?_;rintro _ ⟨⟨G,u⟩,l⟩;subst l;go_wp2
         go_roundw
         case rel=>exact ⟨j+1+1,by omega,by go_num,q.o,a.t (u.m a.size)⟩
         case measure=>simp [intOf];omega
     ·have O:decide (200<s.length)=true:=decide_eq_true (by omega)
      have R:decide ((200:Int)<(s.length:Int))=true:=decide_eq_true (by omega)
      have r:qj (C8 n s=false):=Wf h3;clear hin h3
      have q:=Aa (Pb (by rw [g,d,r.o];rfl))
      clear d g r;go_wp2
      refine Aj (by kernel_rfl) (by kernel_rfl) ?_
      repeat (go_big_quiet_step (first|exact Ea (Eu F.o _)|exact Ea (Ji HP.o _ D)))
      refine wpQuiet_nil ?_;rintro _ ⟨⟨G,u⟩,l⟩;subst l;go_wp2;go_ret;exact ⟨Ab q.o.s,a.t (u.m a.size)⟩
    ·have F:qj (Gb n 1 9999=false):=eB (by omega)
     have r:qj (C8 n s=false):=Qo hin;clear hin
     have q:=Aa (Pb (by rw [g,d,r.o];rfl))
     clear d g r;go_wp2
     refine Aj (by kernel_rfl) (by kernel_rfl) ?_
     repeat (go_big_quiet_step (first|exact Ea (Eu F.o _)|exact Ea (Ji HP.o _ D)))
     refine wpQuiet_nil ?_;rintro _ ⟨⟨G,u⟩,l⟩;subst l;go_wp2;go_ret;exact ⟨Ab q.o.s,a.t (u.m a.size)⟩
   ·have L:k=fs.length:=by omega
    subst L
    have q:qj (Dh fs=decide ((fs.length:Int)<=60)):=by rw [qj,mS (by rw [g,qM])];simp;omega
    clear g;go_wp2;go_ret;exact ⟨Ab q.o.s,a⟩
theorem qG {x n:Int} {q:qn} (B:I9 x n=q) (w:ql) (ht:Pow10 w) :
  qi 277 #[qzI x,qzI n] w (qp (qd q) w):=by
 rw [<- B];exact fN x n w ht
theorem rN {x n:Int} {q:qn} (B:I9 x n=q) (w:ql) :
  qi 192 #[qzI x,qzI n] w (qp (qd q) w):=by
 rw [<- B];exact jK x n w
theorem iO {fs:List Av} (h:Dh fs=true) (k:Nat):(Bl (fs.take k)).length<=14160:=by
 obtain ⟨h1,h2⟩:=tagsOk_parts h
 have h3:=Ab7 (fs:=fs.take k) (λf F=>(tagOne_parts (okT_mem h2 f (List.mem_of_mem_take F)).1).2.1)
 have h4:(fs.take k).length<=60:=by rw [List.length_take];omega
 omega
theorem nV (n:Int) (d:qn) (w:ql) (hl:d.length<=1000000) (ht:Pow10 w) :
  qi 247 #[.agg #[qzI n,qd d]] w (qp (qd (I1 (n,d))) w):=by
 obtain ⟨p,hp⟩:=Ae (I9 n 4);obtain ⟨q,B⟩:=Ae (I9 (d.length:Int) 3)
 have M:p.length<=18:=by rw [<- hp];exact Pg _ _
 have b3:q.length<=18:=by rw [<- B];exact Pg _ _
 have HE:qj (I1 (n,d)=p++q++d):=by unfold I1;simp only;rw [qj,hp,B]
 have HP:qj _:=hp;have HQ:qj _:=B
 have a7:Pow10 (w.alloc (.cells #[qzI n,qd d] 211)):=ht.below (by go_grown)
 have HT:qj (∀ z:Gj (w.alloc (.cells #[qzI n,qd d] 211)),Pow10 z.x):=λz=>a7.below z.h
 have b0:=Ec (w.alloc (.cells #[qzI n,qd d] 211))
 have g1:=Ai (W:=w.alloc (.cells #[qzI n,qd d] 211)) (a:=⟨w.heap.size,0,none⟩) (v:=qzI n) (by simp)
 have g2:=Ai (W:=w.alloc (.cells #[qzI n,qd d] 211)) (a:=⟨w.heap.size,1,none⟩) (v:=qd d) (by simp)
 have H1:=Aa λ(z:Gj (w.alloc (.cells #[qzI n,qd d] 211)))=>Bi (qG hp _ (HT.o z))
 have H2:=Aa λ(z:Gj (w.alloc (.cells #[qzI n,qd d] 211)))=>Bi (qG B _ (HT.o z))
 clear hp B ht a7 HP HQ HT
 go_enter func247,ntmps247
 go_wp2
 refine Aj (by kernel_rfl) (by kernel_rfl) ?_
 repeat (go_big_quiet_step (first|with_reducible exact H1.o _|with_reducible exact H2.o _))
 refine wpQuiet_nil ?_;rintro _ ⟨⟨w2,H⟩,G⟩;subst G;go_wp2;go_ret
 exact ⟨Gc (by rw [HE.o,D8,D8]),Below.t (by go_grown) (H.m (by simp))⟩
theorem Ml (ao:qm) (cap:Nat) (fs:List Av) (w:ql) (O:Aw w ao fs) (hn:fs.length<=4194304) (hd:∀ f ∈ fs,f.2.length<=1099511627776) (ht:Pow10 w) :
  qi 211 #[qf ao fs.length cap] w (qp (.tuple #[qd (Nf fs),.bool (Ek fs)]) w):=by
 have HT:=Aa ht;clear ht
 cases hok:Dh fs
 ·have HN:=Aa (jA hok)
  go_enter func211,ntmps211
  go_wp2_with fail
  refine (Ue _ _ _ _ O hn hd).m ?_;rintro e w1 ⟨rfl,C⟩;rw [hok];clear hok;go_wp2;go_ret2
  exact ⟨Fz (by rw [Vm HN.o]) HN.o.s,C⟩
 have HK:=Aa hok;have X:=Aa (iO hok)
 have HD:qj (∀ f ∈ fs,f.2.length<=200):=λf F=>(tagOne_parts (okT_mem (tagsOk_parts hok).2 f F).1).2.1
 have b4:qj (∀ u:ql,BW w u->∀ e,e=Ending.returned (.tuple #[qd (Nf fs),.bool (Ek fs)])->e=Ending.returned (.tuple #[qd (Nf fs),.bool (Ek fs)])/\BW w u):=λu hu e he=>⟨he,hu⟩
 go_enter func211,ntmps211
 go_wp2_with fail
 refine (Ue _ _ _ _ O hn hd).m ?_;rintro e w1 ⟨rfl,C⟩;rw [HK.o];have z1:=O.below C;clear hok O hd
 have a4:qj (∀ L:qn,Bl fs=L->999<L.length->Nf fs=[]/\Ek fs=false):=λL hL h=>by
  have:=aX (fs:=fs) (by rw [hL];omega)
  exact ⟨Vm this,this⟩
 have l:qj (∀ L:qn,Bl fs=L->¬ 999<L.length->Nf fs=L/\Ek fs=true):=λL hL h=>by
  have:=Z7 HK.o (by rw [hL];omega)
  exact ⟨by rw [Lz this,hL],this⟩
 rcases z1 with rfl|⟨b,off,rfl,hb,j⟩
 ·go_wp2
  refine wp_loop_rounds 1 ?_;rw [rounds_succ];go_wp2;go_ret2
  obtain ⟨e1,e2⟩:=l.o [] rfl (by simp)
  exact ⟨Fz (by rw [e1]) e2.s,C⟩
 have HC:=Aa j;clear j;go_wp2
 go_loopw [4,12] (λo i wr=>∃ k:Nat,k<=fs.length/\i=qzI k/\o=qd (Bl (fs.take k))/\BW w1 wr) (λ_ i _=>fs.length - (intOf i).toNat)
 case atStart=>exact ⟨0,qw _,rfl,rfl,bR⟩
 case round =>
  obtain ⟨k,hk,rfl,rfl,g⟩:=hrel
  by_cases hlt:k<fs.length
  ·have c1:=(g.c b (off+k*2) hb).t (HC.o k hlt).1
   have c2:=(g.c b (off+k*2+1) hb).t (HC.o k hlt).2
   have a9:(k:Int)<(fs.length:Int):=by omega
   have r:=Wh fs k hlt;have hl:=HD.o _ (Mq hlt);have J:=X.o k;have a6:=HT.o.below (next C g);obtain ⟨⟨n,s⟩,F⟩:∃ f,Dn fs k=f:=⟨_,rfl⟩;rw [F] at c1 c2 r hl
   simp only at c1 c2 hl
   have M:=pX (n,s)
   simp only at M
   have A:qj _:=r
   have R:Pow10 (wr.alloc (.cells #[qzI n,qd s] 211)):=a6.below (by go_grown)
   generalize Bl (fs.take k)=T at J A
   have a5:qj _:=R;clear F r a6 R;go_wp2_with fail
   refine (nV n s _ (by omega) a5.o).m ?_
   rintro e w2 ⟨rfl,H⟩
   generalize I1 (n,s)=U at M A
   have bb:=(g.alloc g.size _).t (H.m (by have:=g.size;simp;omega))
   clear H a5;go_wp2
   go_roundw
   case rel=>exact ⟨k+1,by omega,by go_num,by rw [A.o,D8],bb⟩
   case measure=>simp [intOf];omega
  ·have Z:k=fs.length:=by omega
   subst Z;have J:=X.o fs.length;have I:=next C g;rw [List.take_length] at J ⊢;obtain ⟨L,hL⟩:=Ae (Bl fs);rw [hL] at J ⊢;have HL:=Aa hL;clear hL
   by_cases hbig:999<L.length
   ·have Y:(999:Int)<(L.length:Int):=by omega
    obtain ⟨e1,e2⟩:=a4.o L HL.o hbig;have S:=Aa e1;have V:=Aa e2;clear e1 e2;go_wp2;go_ret2
    exact ⟨Fz (by rw [S.o]) V.o.s,I⟩
   ·have Y:¬ (999:Int)<(L.length:Int):=by omega
    obtain ⟨e1,e2⟩:=l.o L HL.o hbig;have S:=Aa e1;have V:=Aa e2;clear e1 e2;go_wp2;go_ret2
    exact ⟨Fz (by rw [S.o]) V.o.s,I⟩
theorem Mk (ao:qm) (cap:Nat) (fs:List Av) (w:ql) (O:Aw w ao fs) (hn:fs.length<=4194304) (hd:∀ f ∈ fs,f.2.length<=1099511627776) :
  qi 144 #[qf ao fs.length cap] w (qp (.tuple #[qd (Nf fs),.bool (Ek fs)]) w):=by
 cases hok:Dh fs
 ·have HN:=Aa (jA hok)
  go_enter func144,ntmps144
  go_wp2_with fail
  refine (T9 _ _ _ _ O hn hd).m ?_;rintro e w1 ⟨rfl,C⟩;rw [hok];clear hok;go_wp2;go_ret2
  exact ⟨Fz (by rw [Vm HN.o]) HN.o.s,C⟩
 have HK:=Aa hok;have X:=Aa (iO hok)
 have HD:qj (∀ f ∈ fs,f.2.length<=200):=λf F=>(tagOne_parts (okT_mem (tagsOk_parts hok).2 f F).1).2.1
 have a3:qj (∀ k,999<(Bl (fs.take k)).length->Nf fs=[]/\Ek fs=false):=λk h=>by
  have h2:=mB fs k
  have:=aX (fs:=fs) (by omega)
  exact ⟨Vm this,this⟩
 have l:qj (∀ L:qn,Bl fs=L->¬ 999<L.length->Nf fs=L/\Ek fs=true):=λL hL h=>by
  have:=Z7 hok (by rw [hL];omega)
  exact ⟨by rw [Lz this,hL],this⟩
 go_enter func144,ntmps144
 go_wp2_with fail
 refine (T9 _ _ _ _ O hn hd).m ?_;rintro e w1 ⟨rfl,C⟩;rw [HK.o];have z1:=O.below C;clear hok O hd
 rcases z1 with rfl|⟨b,off,rfl,hb,j⟩
 ·go_wp2
  refine wp_loop_rounds 1 ?_;rw [rounds_succ];go_wp2;go_ret2
  obtain ⟨e1,e2⟩:=l.o [] rfl (by simp)
  exact ⟨Fz (by rw [e1]) e2.s,C⟩
 have HC:=Aa j;clear j;go_wp2
 go_loopw [4,5] (λo i wr=>∃ k:Nat,k<=fs.length/\i=qzI k/\o=qd (Bl (fs.take k))/\¬ 999<(Bl (fs.take k)).length/\BW w1 wr) (λ_ i _=>fs.length - (intOf i).toNat)
 case atStart=>exact ⟨0,qw _,rfl,rfl,by simp [Bl],bR⟩
 case round =>
  obtain ⟨k,hk,rfl,rfl,N,g⟩:=hrel
  by_cases hlt:k<fs.length
  ·have c1:=(g.c b (off+k*2) hb).t (HC.o k hlt).1
   have c2:=(g.c b (off+k*2+1) hb).t (HC.o k hlt).2
   have a9:(k:Int)<(fs.length:Int):=by omega
   have r:=Wh fs k hlt;have hl:=HD.o _ (Mq hlt);have D:=a3.o (k+1);obtain ⟨⟨n,s⟩,F⟩:∃ f,Dn fs k=f:=⟨_,rfl⟩;rw [F] at c1 c2 r hl
   simp only at c1 c2 hl
   obtain ⟨p,hp⟩:=Ae (I9 n 4);obtain ⟨q,B⟩:=Ae (I9 (s.length:Int) 3)
   have M:p.length<=18:=by rw [<- hp];exact Pg _ _
   have b3:q.length<=18:=by rw [<- B];exact Pg _ _
   have hu:I1 (n,s)=p++q++s:=by unfold I1;simp only;rw [hp,B]
   rw [r,hu] at D
   have A:qj (Bl (fs.take (k+1))=Bl (fs.take k)++(p++q++s)):=by rw [qj,r,hu]
   have HP:=Aa hp;have HQ:=Aa B;obtain ⟨T,hT⟩:=Ae (Bl (fs.take k));rw [hT] at N D A ⊢;have b0:=Ec wr;have g1:=Ai c1;have g2:=Ai c2
   have H1:qj (∀ z:Gj wr,qi 192 #[qzI n,qzI 4] z.x λe w''=>e=.returned (qd p)/\∃ y:Gj wr,w''=y.x):=λz=>Bi (rN hp _)
   have H2:qj (∀ z:Gj wr,qi 192 #[qzI s.length,qzI 3] z.x λe w''=>e=.returned (qd q)/\∃ y:Gj wr,w''=y.x):=λz=>Bi (rN B _)
   clear F r hp B hu hT HP HQ
   by_cases hbig:999<(T++(p++q++s)).length
   ·obtain ⟨e1,e2⟩:=D hbig
    have S:=Aa e1;have V:=Aa e2
    have Y:(999:Int)<(T.length:Int)+(p.length:Int)+(q.length:Int)+(s.length:Int):=by simp at hbig;omega
    clear e1 e2 D hbig;go_wp2
    refine Aj (by kernel_rfl) (by kernel_rfl) ?_
    repeat (go_big_quiet_step (first|with_reducible exact H1.o _|with_reducible exact H2.o _))
    refine wpQuiet_nil ?_;rintro _ ⟨⟨w2,H⟩,G⟩;subst G;have bb:=next C (next g H);clear H g1 g2;go_wp2;go_ret2
    exact ⟨Fz (by rw [S.o]) V.o.s,bb⟩
   ·have a8:=Aa hbig
    have Y:¬ (999:Int)<(T.length:Int)+(p.length:Int)+(q.length:Int)+(s.length:Int):=by simp at hbig;omega
    clear D hbig;go_wp2
    refine Aj (by kernel_rfl) (by kernel_rfl) ?_
    repeat (go_big_quiet_step (first|with_reducible exact H1.o _|with_reducible exact H2.o _))
    refine wpQuiet_nil ?_;rintro _ ⟨⟨w2,H⟩,G⟩;subst G;have bb:=next g H;clear H g1 g2;go_wp2
    go_roundw
    case rel=>exact ⟨k+1,by omega,by go_num,by rw [A.o,D8,D8,D8];simp [List.append_assoc],by rw [A.o];exact a8.o,bb⟩
    case measure=>simp [intOf];omega
  ·have Z:k=fs.length:=by omega
   subst Z;have I:=next C g;rw [List.take_length] at N ⊢;obtain ⟨L,hL⟩:=Ae (Bl fs);rw [hL] at N ⊢;obtain ⟨e1,e2⟩:=l.o L hL N;have S:=Aa e1;have V:=Aa e2;clear e1 e2 hL;go_wp2;go_ret2
   exact ⟨Fz (by rw [S.o]) V.o.s,I⟩
end Tg
end Go.Proofs.YtfpafnefpmmofaaGreatDoor
