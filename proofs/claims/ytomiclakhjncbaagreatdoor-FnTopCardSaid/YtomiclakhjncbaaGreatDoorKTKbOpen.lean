import Derived.Test.YtomiclakhjncbaaGreatDoorJT2ar
namespace Go.Proofs.YtomiclakhjncbaaGreatDoor.Kb
open Go.RowKit Go.Proofs.Tryz
set_option maxRecDepth 100000
set_option maxHeartbeats 12800000
theorem He {u k:World} {X:Nat} {v:Value} (h:BW u k) (c:u.cell? (qzA X 0)=some v):k.cell? (qzA X 0)=some v:=(h.cell (p:=(qzA X 0)) (World.block_lt_of_cell? u _ c)).trans c
theorem dF {u:World} {X:Nat} {v:Value} {o:Obj} (c:u.cell? (qzA X 0)=some v):(u.alloc o).cell? (qzA X 0)=some v:=He ((Below.refl u.heap.size u).alloc nL o) c
theorem bS {u:World} {X:Nat} {v:Value} (c:u.cell? (qzA X 0)=some v):u.drew.cell? (qzA X 0)=some v:=He (Below.refl _ u).drew c
theorem cN {u:World} {v:Value} {t:TypeId} : (u.alloc (.cells #[v] t)).cell? ⟨u.heap.size,0,none⟩=some v:=by simp
theorem I0 {V u:World} {o:Obj} (h:BW V u):Below V.heap.size V (u.alloc o):=h.alloc h.size o
theorem Sy (u:World) (cs:Array Value) (t:TypeId):El (u.alloc (.cells cs t)) u.heap.size t:=⟨cs,(0,0),heap_alloc_new u _⟩
theorem Of {W Ng j:World} {f:Nat} {args:Array Value} {Q:Ending->World->Prop} {d:World->Ending->World->Prop} (H:∀ u,BW W u->Calls prog f args u (d u)) (K:BW W Ng) (L:BW Ng j) (h:∀ e k,d j e k->BW Ng j->Q e k):Calls prog f args j Q :=
 (H j (next K L)).mono fun e k hp=>h e k hp L
theorem Q9 {W Ng j:World} {f g:Nat} {v:Value} {Q:Ending->World->Prop} {d:World->Ending->World->Prop} (H:∀ (u:World) (g:Nat),BW W u->u.cell? (qzA g 0)=some v->Calls prog f #[.slice (some (qzA g 0)) 1 1] u (d u)) (K:BW W Ng) (L:BW Ng j) (C:j.cell? (qzA g 0)=some v) (h:∀ e k,d j e k->BW Ng j->Q e k):Calls prog f #[.slice (some (qzA g 0)) 1 1] j Q :=
 (H j g (next K L) C).mono fun e k hp=>h e k hp L
def OpR (b:Bk) (w:World) (e:Ending) (w':World):Prop:=∃ K q,e=.returned (.pointer (some (qzA K 0)))/\KS w.heap.size K 0 b q w'/\BW w w'
theorem mC {b:Bk} {w U:World} {a1 a2 A J B:Option Addr} {s i r x k5:Nat} (hb:BW w U)
  (Z:U.ownsRow w.heap.size 113 3 (.slice a1 b.ls.length s) b.ls.length (Ag b.ls)) (o2:U.ownsRow w.heap.size 3 1 (.slice a2 b.off.length i) b.off.length (b.off.map (Value.int .i64)))
  (o3:U.ownsRow w.heap.size 107 6 (.slice A b.az.length r) b.az.length (Ah b.az)) (o4:U.ownsRow w.heap.size 61 12 (.slice J b.cs.length x) b.cs.length (Aj b.cs))
  (o5:U.ownsRow w.heap.size 9 1 (.slice B b.log.length k5) b.log.length (Am b.log)) :
  OpR b w (.returned (.pointer (some ⟨U.heap.size,0,none⟩))) (U.alloc (.cells #[.int .i32 0,.int .u32 0,.slice a1 b.ls.length s,qzI b.today,.slice a2 b.off.length i,.slice A b.az.length r,.slice J b.cs.length x,.slice B b.log.length k5] 143)) :=
 ⟨U.heap.size,⟨a2,i,A,r,J,x,a1,s,B,k5⟩,rfl,⟨Z8.new U _ _ _ _ _ _ _ _ _,Sy U _ _,o2.alloc _,o3.alloc _,o4.alloc _,Z.alloc _,o5.alloc _,hb.size⟩,hb.alloc hb.size _⟩
theorem fF {F:Ff} {E:World->Prop} {G:Nat} (KI:Rq F E G) (b:Bk) (p:Bp) (w:World) (hx:Aq w b p) (D:D0 b) (hr:∀ a ∈ b.az,a.ref.length<=1048576) (hg:∀ l ∈ b.log,l.length<=1048576) :
  Calls prog 50 #[C5 b p] w (OpR b w):=by
 obtain ⟨W,M⟩:∃ W,W=w.alloc (.cells (qcB b p) 31):=⟨_,rfl⟩;obtain ⟨X,hX⟩:∃ X,w.heap.size=X:=⟨_,rfl⟩
 have y:Hid (BW w W):=by rw [Hid,M];exact bR.alloc nL _
 have n:Hid (w.heap.size<=W.heap.size):=y.o.size
 have HZ:Hid (ZQ X b p W):=by rw [Hid,M,<- hX];exact Z6.new w _ _ _ _ _ _ _
 have a7:Hid (X<W.heap.size):=HZ.o.lt
 have m:Hid (∀ u,BW W u->Aq u b p):=fun u h=>hx.below (next y.o h)
 have H1:Hid (∀ u,BW W u->Calls prog 109 #[.agg #[.slice p.l b.ls.length p.lc]] u (rG u b.ls)):=fun u h=>Hg p.l p.lc b.ls u (m.o u h).ls (by have:=D.2.2.2.1;omega)
 have H2:Hid (∀ (u:World) (g:Nat),BW W u->u.cell? (qzA g 0)=some (.slice p.o b.off.length p.oc)->Calls prog 101 #[.slice (some (qzA g 0)) 1 1] u fun e w'=>∃ a2 i,e=.returned (.slice a2 b.off.length i)/\w'.ownsRow u.heap.size 3 1 (.slice a2 b.off.length i) b.off.length (b.off.map (Value.int .i64))/\BW u w'):=fun u g h hc=>fC g p.o p.oc b.off u hc (m.o u h).off (by have:=D.1;omega)
 have H3:Hid (∀ u,BW W u->Calls prog 110 #[.slice p.a b.az.length p.ac] u fun e w'=>∃ A r,e=.returned (.slice A b.az.length r)/\w'.ownsRow u.heap.size 107 6 (.slice A b.az.length r) b.az.length (Ah b.az)/\BW u w'):=fun u h=>(Dj p.a p.ac b.az u (m.o u h).az (by have:=D.2.1;omega) (fun a ha=>by have:=hr a ha;omega)).mono (fun e w' ⟨h1,h2,h3⟩=>⟨_,_,h1,h2,h3⟩)
 have H4:Hid (∀ (u:World) (g:Nat),BW W u->u.cell? (qzA g 0)=some (.slice p.c b.cs.length p.cc)->Calls prog 111 #[.slice (some (qzA g 0)) 1 1] u fun e w'=>∃ a2 i,e=.returned (.slice a2 b.cs.length i)/\w'.ownsRow u.heap.size 61 12 (.slice a2 b.cs.length i) b.cs.length (Aj b.cs)/\BW u w'):=fun u g h hc=>fZ g p.c p.cc b.cs u hc (m.o u h).cs (by have:=D.2.2.1;omega)
 have H5:Hid (∀ u,BW W u->Calls prog 112 #[.slice p.g b.log.length p.gc] u fun e w'=>∃ B k5,e=.returned (.slice B b.log.length k5)/\w'.ownsRow u.heap.size 9 1 (.slice B b.log.length k5) b.log.length (Am b.log)/\BW u w'):=fun u h=>(Sb KI p.g p.gc b.log u (m.o u h).log D.2.2.2.2 hg).mono (fun e w' ⟨h1,h2,h3⟩=>⟨_,_,h1,h2,h3⟩)
 have HS:Hid (∀ u,BW W u->u.cell? (qzA X 0)=some (qzI b.today)/\u.cell? (qzA X 1)=some (.slice p.o b.off.length p.oc)/\u.cell? (qzA X 2)=some (.slice p.a b.az.length p.ac)/\u.cell? (qzA X 3)=some (.slice p.c b.cs.length p.cc)/\u.cell? (qzA X 4)=some (.slice p.l b.ls.length p.lc)/\u.cell? (qzA X 5)=some (.slice p.g b.log.length p.gc)):=fun u h=>by
  have z:=HZ.o.below h;exact ⟨z.c0,z.c1,z.c2,z.c3,z.c4,z.c5⟩
 have HW:Hid _:=M;have a6:Hid _:=hX;have N:BW W W:=bR;unfold C5;clear hx D hr hg KI M hX
 go_enter func50,ntmps50
 go_upto_region 1 with fail
 rw [<- HW.o,a6.o]
 go_region_held3 (fun u=>u.cell? (qzA X 0)=some (qzI b.today)/\u.cell? (qzA X 1)=some (.slice p.o b.off.length p.oc)/\u.cell? (qzA X 2)=some (.slice p.a b.az.length p.ac)/\u.cell? (qzA X 3)=some (.slice p.c b.cs.length p.cc)/\u.cell? (qzA X 4)=some (.slice p.l b.ls.length p.lc)/\u.cell? (qzA X 5)=some (.slice p.g b.log.length p.gc)) ((refine HS.o _ ?_;(repeat (first | with_reducible exact k5 | with_reducible exact x | with_reducible exact r | with_reducible exact i | with_reducible exact s | with_reducible exact N | with_reducible refine I0 ?_ | with_reducible refine Below.drew ?_)))) ((first
  | (go_at_call 109;(with_reducible refine Of H1.o N ?_ ?_);(focus (repeat (first | with_reducible exact bR | with_reducible refine I0 ?_ | with_reducible refine Below.drew ?_)));rintro e u1 ⟨a1,c1,rfl,Z,p1⟩ O;have s:BW W u1:=next (next N O) p1;have M1:Hid (BW W u1):=next O p1;have P1:Hid _:=p1;have O1:Hid _:=Ez Z (Nat.le_trans n.o (next N O).size);clear p1 Z O)
  | (go_at_call 101;(with_reducible refine Q9 H2.o s ?_ ?_ ?_);(focus (repeat (first | with_reducible exact bR | with_reducible refine I0 ?_ | with_reducible refine Below.drew ?_)));(focus (repeat (first | with_reducible exact cN | with_reducible refine He P1.o ?_ | (simp;done) | with_reducible refine dF ?_ | with_reducible refine bS ?_)));rintro e u2 ⟨a2,c2,rfl,o2,p2⟩ R;have i:BW W u2:=next (next s R) p2;have M2:Hid (BW u1 u2):=next R p2;have P2:Hid _:=p2;have O2:Hid _:=Ez o2 (Nat.le_trans n.o (next s R).size);clear p2 o2 R)
  | (go_at_call 110;(with_reducible refine Of H3.o i ?_ ?_);(focus (repeat (first | with_reducible exact bR | with_reducible refine I0 ?_ | with_reducible refine Below.drew ?_)));rintro e u3 ⟨A,c3,rfl,o3,p3⟩ S;have r:BW W u3:=next (next i S) p3;have M3:Hid (BW u2 u3):=next S p3;have P3:Hid _:=p3;have O3:Hid _:=Ez o3 (Nat.le_trans n.o (next i S).size);clear p3 o3 S)
  | (go_at_call 111;(with_reducible refine Q9 H4.o r ?_ ?_ ?_);(focus (repeat (first | with_reducible exact bR | with_reducible refine I0 ?_ | with_reducible refine Below.drew ?_)));(focus (repeat (first | with_reducible exact cN | with_reducible refine He P3.o ?_ | with_reducible refine He P2.o ?_ | with_reducible refine He P1.o ?_ | (simp;done) | with_reducible refine dF ?_ | with_reducible refine bS ?_)));rintro e u4 ⟨J,c4,rfl,o4,p4⟩ T;have x:BW W u4:=next (next r T) p4;have M4:Hid (BW u3 u4):=next T p4;have P4:Hid _:=p4;have O4:Hid _:=Ez o4 (Nat.le_trans n.o (next r T).size);clear p4 o4 T)
  | (go_at_call 112;(with_reducible refine Of H5.o x ?_ ?_);(focus (repeat (first | with_reducible exact bR | with_reducible refine I0 ?_ | with_reducible refine Below.drew ?_)));rintro e u5 ⟨B,c5,rfl,o5,p5⟩ Y;have k5:BW W u5:=next (next x Y) p5;have I:Hid (BW u4 u5):=next Y p5;have P5:Hid _:=p5;have O5:Hid _:=Ez o5 (Nat.le_trans n.o (next x Y).size);clear p5 o5 Y)))
 all_goals
  go_wp2;go_ret;exact mC (next y.o k5) (Av (Av (Av (Av O1.o M2.o) M3.o) M4.o) I.o) (Av (Av (Av O2.o M3.o) M4.o) I.o) (Av (Av O3.o M4.o) I.o) (Av O4.o I.o) O5.o
end Go.Proofs.YtomiclakhjncbaaGreatDoor.Kb
