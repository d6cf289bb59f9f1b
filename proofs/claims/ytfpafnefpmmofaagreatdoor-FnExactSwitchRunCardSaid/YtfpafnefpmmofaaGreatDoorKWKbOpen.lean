import Derived.Test.YtfpafnefpmmofaaGreatDoorJW3c
namespace Go.Proofs.YtfpafnefpmmofaaGreatDoor.Kb
open Go.RowKit Go.Proofs.Tryz
set_option maxRecDepth 100000
set_option maxHeartbeats 12800000
theorem Lf {u k:ql} {X:Nat} {v:Value} (h:BW u k) (c:u.cell? (qzA X 0)=some v):k.cell? (qzA X 0)=some v:=(h.c X 0 (qs u _ c)).t c
theorem pZ {u:ql} {X:Nat} {v:Value} {o:Obj} (c:u.cell? (qzA X 0)=some v):(u.alloc o).cell? (qzA X 0)=some v:=Lf ((Below.refl u.heap.size u).alloc nL o) c
theorem rK {u:ql} {v:Value} {t:TypeId} : (u.alloc (.cells #[v] t)).cell? ⟨u.heap.size,0,none⟩=some v:=by simp
theorem Lm {V u:ql} {o:Obj} (h:BW V u):Below V.heap.size V (u.alloc o):=h.alloc h.size o
theorem aB (u:ql) (cs:Array Value) (t:TypeId):Hp (u.alloc (.cells cs t)) u.heap.size t:=⟨cs,(0,0),heap_alloc_new u _⟩
theorem S9 {W Rd j:ql} {f:Nat} {args:Array Value} {Q:Ending->ql->Prop} {d:ql->Ending->ql->Prop} (H:∀ u,BW W u->Calls prog f args u (d u)) (K:BW W Rd) (L:BW Rd j) (h:∀ e k,d j e k->BW Rd j->Q e k):Calls prog f args j Q :=
 (H j (next K L)).m λe k hp=>h e k hp L
theorem Wz {W Rd j:ql} {f g:Nat} {v:Value} {Q:Ending->ql->Prop} {d:ql->Ending->ql->Prop} (H:∀ (u:ql) (g:Nat),BW W u->u.cell? (qzA g 0)=some v->Calls prog f #[qf (some (qzA g 0)) 1 1] u (d u)) (K:BW W Rd) (L:BW Rd j) (C:j.cell? (qzA g 0)=some v) (h:∀ e k,d j e k->BW Rd j->Q e k):Calls prog f #[qf (some (qzA g 0)) 1 1] j Q :=
 (H j g (next K L) C).m λe k hp=>h e k hp L
def OpR (b:Bk) (w:ql) (e:Ending) (w':ql):Prop:=∃ K q,e=.returned (qh K)/\KS w.heap.size K 0 b q w'/\BW w w'
theorem Adb {b:Bk} {w U:ql} {a1 a2 D M I:qm} {y i s A x:Nat} (hb:BW w U)
  (o1:U.ownsRow w.heap.size 151 3 (qf a1 b.ls.length y) b.ls.length (Ak b.ls)) (o2:U.ownsRow w.heap.size 3 1 (qf a2 b.off.length i) b.off.length (b.off.map (Value.int .i64)))
  (o3:U.ownsRow w.heap.size 108 6 (qf D b.az.length s) b.az.length (Ap b.az)) (o4:U.ownsRow w.heap.size 111 12 (qf M b.cs.length A) b.cs.length (Am b.cs))
  (o5:U.ownsRow w.heap.size 9 1 (qf I b.log.length x) b.log.length (At b.log)) :
  OpR b w (.returned (.pointer (some ⟨U.heap.size,0,none⟩))) (U.alloc (.cells #[.int .i32 0,.int .u32 0,qf a1 b.ls.length y,qzI b.today,qf a2 b.off.length i,qf D b.az.length s,qf M b.cs.length A,qf I b.log.length x] 128)) :=
 ⟨U.heap.size,⟨a2,i,D,s,M,A,a1,y,I,x⟩,rfl,⟨Z8.new U _ _ _ _ _ _ _ _ _,aB U _ _,o2.alloc _,o3.alloc _,o4.alloc _,o1.alloc _,o5.alloc _,hb.size⟩,hb.alloc hb.size _⟩
theorem uY {F:Ii} {E:ql->Prop} {G:Nat} (KI:qJ F E G) (b:Bk) (p:Bp) (w:ql) (hx:Az w b p) (hn:Ld b) (hr:∀ a ∈ b.az,a.ref.length<=1048576) (hg:∀ l ∈ b.log,l.length<=1048576) :
  qi 33 #[Fx b p] w (OpR b w):=by
 obtain ⟨W,N⟩:=A0 (w.alloc (.cells (qcB b p) 40));obtain ⟨X,hX⟩:=Ae w.heap.size
 have B:qj (BW w W):=by rw [qj,N];exact bR.alloc nL _
 have r:=Aa B.o.size
 have HZ:qj (ZQ X b p W):=by rw [qj,N,<- hX];exact Z6.new w _ _ _ _ _ _ _
 have a7:=Aa HZ.o.lt
 have n:qj (∀ u,BW W u->Az u b p):=λu h=>hx.below (next B.o h)
 have H1:qj (∀ u,BW W u->qi 72 #[.agg #[qf p.l b.ls.length p.lc]] u (Ahd u b.ls)):=λu h=>Jc p.l p.lc b.ls u (n.o u h).ls (by have:=hn.2.2.2.1;omega)
 have H2:qj (∀ (u:ql) (g:Nat),BW W u->u.cell? (qzA g 0)=some (qf p.o b.off.length p.oc)->qi 73 #[qf (some (qzA g 0)) 1 1] u λe w'=>∃ a2 i,e=.returned (qf a2 b.off.length i)/\w'.ownsRow u.heap.size 3 1 (qf a2 b.off.length i) b.off.length (b.off.map (Value.int .i64))/\BW u w'):=λu g h hc=>tR g p.o p.oc b.off u hc (n.o u h).off (by have:=hn.1;omega)
 have H3:qj (∀ u,BW W u->qi 74 #[qf p.a b.az.length p.ac] u λe w'=>∃ D s,e=.returned (qf D b.az.length s)/\w'.ownsRow u.heap.size 108 6 (qf D b.az.length s) b.az.length (Ap b.az)/\BW u w'):=λu h=>(Fe p.a p.ac b.az u (n.o u h).az (by have:=hn.2.1;omega) (λa ha=>by have:=hr a ha;omega)).m (λe w' ⟨h1,h2,h3⟩=>⟨_,_,h1,h2,h3⟩)
 have H4:qj (∀ (u:ql) (g:Nat),BW W u->u.cell? (qzA g 0)=some (qf p.c b.cs.length p.cc)->qi 75 #[qf (some (qzA g 0)) 1 1] u λe w'=>∃ a2 i,e=.returned (qf a2 b.cs.length i)/\w'.ownsRow u.heap.size 111 12 (qf a2 b.cs.length i) b.cs.length (Am b.cs)/\BW u w'):=λu g h hc=>xJ g p.c p.cc b.cs u hc (n.o u h).cs (by have:=hn.2.2.1;omega)
 have H5:qj (∀ u,BW W u->qi 76 #[qf p.g b.log.length p.gc] u λe w'=>∃ I x,e=.returned (qf I b.log.length x)/\w'.ownsRow u.heap.size 9 1 (qf I b.log.length x) b.log.length (At b.log)/\BW u w'):=λu h=>(Zf KI p.g p.gc b.log u (n.o u h).log hn.2.2.2.2 hg).m (λe w' ⟨h1,h2,h3⟩=>⟨_,_,h1,h2,h3⟩)
 have HS:qj (∀ u,BW W u->u.cell? (qzA X 0)=some (qzI b.today)/\u.cell? (qzA X 1)=some (qf p.o b.off.length p.oc)/\u.cell? (qzA X 2)=some (qf p.a b.az.length p.ac)/\u.cell? (qzA X 3)=some (qf p.c b.cs.length p.cc)/\u.cell? (qzA X 4)=some (qf p.l b.ls.length p.lc)/\u.cell? (qzA X 5)=some (qf p.g b.log.length p.gc)):=λu h=>by
  have z:=HZ.o.below h;exact ⟨z.c0,z.c1,z.c2,z.c3,z.c4,z.c5⟩
 have HW:qj _:=N;have a6:qj _:=hX;have O:BW W W:=bR;unfold Fx;clear hx hn hr hg KI N hX
 go_enter func33,ntmps33
 go_upto_region 1 with fail
 rw [<- HW.o,a6.o]
 go_region_held3 (λu=>u.cell? (qzA X 0)=some (qzI b.today)/\u.cell? (qzA X 1)=some (qf p.o b.off.length p.oc)/\u.cell? (qzA X 2)=some (qf p.a b.az.length p.ac)/\u.cell? (qzA X 3)=some (qf p.c b.cs.length p.cc)/\u.cell? (qzA X 4)=some (qf p.l b.ls.length p.lc)/\u.cell? (qzA X 5)=some (qf p.g b.log.length p.gc)) ((refine HS.o _ ?_;(repeat (first|with_reducible exact x|with_reducible exact A|with_reducible exact s|with_reducible exact i|with_reducible exact y|with_reducible exact O|with_reducible refine Lm ?_|with_reducible refine Below.drew ?_)))) ((first
  | (go_at_call 72;(with_reducible refine S9 H1.o O ?_ ?_);(focus (repeat (first|with_reducible exact bR|with_reducible refine Lm ?_|with_reducible refine Below.drew ?_)));rintro e u1 ⟨a1,c1,rfl,o1,p1⟩ R;have y:BW W u1:=next (next O R) p1;have M1:=Aa (next R p1);have P1:qj _:=p1;have O1:qj _:=Fj o1 (jk r.o (next O R).size);clear p1 o1 R)
  | (go_at_call 73;(with_reducible refine Wz H2.o y ?_ ?_ ?_);(focus (repeat (first|with_reducible exact bR|with_reducible refine Lm ?_|with_reducible refine Below.drew ?_)));(focus (repeat (first|with_reducible exact rK|with_reducible refine Lf P1.o ?_|(simp;done)|with_reducible refine pZ ?_|with_reducible refine cell_dr ?_)));rintro e u2 ⟨a2,c2,rfl,o2,p2⟩ S;have i:BW W u2:=next (next y S) p2;have M2:=Aa (next S p2);have P2:qj _:=p2;have O2:qj _:=Fj o2 (jk r.o (next y S).size);clear p2 o2 S)
  | (go_at_call 74;(with_reducible refine S9 H3.o i ?_ ?_);(focus (repeat (first|with_reducible exact bR|with_reducible refine Lm ?_|with_reducible refine Below.drew ?_)));rintro e u3 ⟨D,c3,rfl,o3,p3⟩ T;have s:BW W u3:=next (next i T) p3;have M3:=Aa (next T p3);have P3:qj _:=p3;have O3:qj _:=Fj o3 (jk r.o (next i T).size);clear p3 o3 T)
  | (go_at_call 75;(with_reducible refine Wz H4.o s ?_ ?_ ?_);(focus (repeat (first|with_reducible exact bR|with_reducible refine Lm ?_|with_reducible refine Below.drew ?_)));(focus (repeat (first|with_reducible exact rK|with_reducible refine Lf P3.o ?_|with_reducible refine Lf P2.o ?_|with_reducible refine Lf P1.o ?_|(simp;done)|with_reducible refine pZ ?_|with_reducible refine cell_dr ?_)));rintro e u4 ⟨M,c4,rfl,o4,p4⟩ Y;have A:BW W u4:=next (next s Y) p4;have M4:=Aa (next Y p4);have P4:qj _:=p4;have O4:qj _:=Fj o4 (jk r.o (next s Y).size);clear p4 o4 Y)
  | (go_at_call 76;(with_reducible refine S9 H5.o A ?_ ?_);(focus (repeat (first|with_reducible exact bR|with_reducible refine Lm ?_|with_reducible refine Below.drew ?_)));rintro e u5 ⟨I,c5,rfl,o5,p5⟩ Z;have x:BW W u5:=next (next A Z) p5;have J:=Aa (next Z p5);have P5:qj _:=p5;have O5:qj _:=Fj o5 (jk r.o (next A Z).size);clear p5 o5 Z)))
 all_goals
  go_wp2;go_ret;exact Adb (next B.o x) (A5 (A5 (A5 (A5 O1.o M2.o) M3.o) M4.o) J.o) (A5 (A5 (A5 O2.o M3.o) M4.o) J.o) (A5 (A5 O3.o M4.o) J.o) (A5 O4.o J.o) O5.o
end Go.Proofs.YtfpafnefpmmofaaGreatDoor.Kb
