import Derived.Test.YtomiclakhjncbaaGreatDoorJE2b
namespace Go.Proofs.YtomiclakhjncbaaGreatDoor.Kb
open Go.RowKit Go.Proofs.Tryz
set_option maxRecDepth 100000
set_option maxHeartbeats 12800000
theorem He {u u':World} {X:Nat} {v:Value} (h:BW u u') (c:u.cell? ⟨X,0,none⟩=some v):u'.cell? ⟨X,0,none⟩=some v:=(h.cell (p:=⟨X,0,none⟩) (World.block_lt_of_cell? u _ c)).trans c
theorem dF {u:World} {X:Nat} {v:Value} {o:Obj} (c:u.cell? ⟨X,0,none⟩=some v):(u.alloc o).cell? ⟨X,0,none⟩=some v:=He ((Below.refl u.heap.size u).alloc nL o) c
theorem bS {u:World} {X:Nat} {v:Value} (c:u.cell? ⟨X,0,none⟩=some v):u.drew.cell? ⟨X,0,none⟩=some v:=He (Below.refl _ u).drew c
theorem cN {u:World} {v:Value} {t:TypeId} : (u.alloc (.cells #[v] t)).cell? ⟨u.heap.size,0,none⟩=some v:=by simp
theorem I0 {V u:World} {o:Obj} (h:BW V u):Below V.heap.size V (u.alloc o):=h.alloc h.size o
theorem Sy (u:World) (cs:Array Value) (t:TypeId):El (u.alloc (.cells cs t)) u.heap.size t:=⟨cs,(0,0),heap_alloc_new u _⟩
theorem Of {W Ng uV:World} {f:Nat} {args:Array Value} {Q:Ending→World→Prop} {Post:World→Ending→World→Prop} (H:∀ u,BW W u→Calls prog f args u (Post u)) (K:BW W Ng) (L:BW Ng uV) (h:∀ e u',Post uV e u'→BW Ng uV→Q e u'):Calls prog f args uV Q :=
 (H uV (next K L)).mono fun e u' hp=>h e u' hp L
theorem Q9 {W Ng uV:World} {f g:Nat} {v:Value} {Q:Ending→World→Prop} {Post:World→Ending→World→Prop} (H:∀ (u:World) (g:Nat),BW W u→u.cell? ⟨g,0,none⟩=some v→Calls prog f #[.slice (some ⟨g,0,none⟩) 1 1] u (Post u)) (K:BW W Ng) (L:BW Ng uV) (C:uV.cell? ⟨g,0,none⟩=some v) (h:∀ e u',Post uV e u'→BW Ng uV→Q e u'):Calls prog f #[.slice (some ⟨g,0,none⟩) 1 1] uV Q :=
 (H uV g (next K L) C).mono fun e u' hp=>h e u' hp L
def OpR (b:Bk) (w:World) (e:Ending) (w':World):Prop:=∃ K q,e=.returned (.pointer (some ⟨K,0,none⟩))∧KS w.heap.size K 0 b q w'∧BW w w'
theorem mC {b:Bk} {w U:World} {a1 a2 a3 a4 a5:Option Addr} {k1 k2 k3 k4 k5:Nat} (hb:BW w U)
  (o1:U.ownsRow w.heap.size 113 3 (.slice a1 b.ls.length k1) b.ls.length (Ag b.ls)) (o2:U.ownsRow w.heap.size 3 1 (.slice a2 b.off.length k2) b.off.length (b.off.map (Value.int .i64)))
  (o3:U.ownsRow w.heap.size 107 6 (.slice a3 b.az.length k3) b.az.length (Ah b.az)) (o4:U.ownsRow w.heap.size 61 12 (.slice a4 b.cs.length k4) b.cs.length (Aj b.cs))
  (o5:U.ownsRow w.heap.size 9 1 (.slice a5 b.log.length k5) b.log.length (Am b.log)) :
  OpR b w (.returned (.pointer (some ⟨U.heap.size,0,none⟩))) (U.alloc (.cells #[.int .i32 0,.int .u32 0,.slice a1 b.ls.length k1,.int .i64 b.today,.slice a2 b.off.length k2,.slice a3 b.az.length k3,.slice a4 b.cs.length k4,.slice a5 b.log.length k5] 143)) :=
 ⟨U.heap.size,⟨a2,k2,a3,k3,a4,k4,a1,k1,a5,k5⟩,rfl,⟨Z8.new U _ _ _ _ _ _ _ _ _,Sy U _ _,o2.alloc _,o3.alloc _,o4.alloc _,o1.alloc _,o5.alloc _,hb.size⟩,hb.alloc hb.size _⟩
theorem fF {F:Ff} {E:World→Prop} {G:Nat} (KI:Rq F E G) (b:Bk) (p:Bp) (w:World) (hx:Aq w b p) (hn:D0 b) (hr:∀ a ∈ b.az,a.ref.length≤1048576) (hg:∀ l ∈ b.log,l.length≤1048576) :
  Calls prog 50 #[C5 b p] w (OpR b w):=by
 obtain ⟨W,hW⟩:∃ W,W=w.alloc (.cells (qcB b p) 31):=⟨_,rfl⟩;obtain ⟨X,hX⟩:∃ X,w.heap.size=X:=⟨_,rfl⟩
 have HBW:Hid (BW w W):=by rw [Hid,hW];exact bR.alloc nL _
 have HSW:Hid (w.heap.size≤W.heap.size):=HBW.o.size
 have HZ:Hid (ZQ X b p W):=by rw [Hid,hW,← hX];exact Z6.new w _ _ _ _ _ _ _
 have HXL:Hid (X<W.heap.size):=HZ.o.lt
 have HAT:Hid (∀ u,BW W u→Aq u b p):=fun u h=>hx.below (next HBW.o h)
 have H1:Hid (∀ u,BW W u→Calls prog 109 #[.agg #[.slice p.l b.ls.length p.lc]] u (rG u b.ls)):=fun u h=>Hg p.l p.lc b.ls u (HAT.o u h).ls (by have:=hn.2.2.2.1;omega)
 have H2:Hid (∀ (u:World) (g:Nat),BW W u→u.cell? ⟨g,0,none⟩=some (.slice p.o b.off.length p.oc)→Calls prog 101 #[.slice (some ⟨g,0,none⟩) 1 1] u fun e w'=>∃ a2 k2,e=.returned (.slice a2 b.off.length k2)∧w'.ownsRow u.heap.size 3 1 (.slice a2 b.off.length k2) b.off.length (b.off.map (Value.int .i64))∧BW u w'):=fun u g h hc=>fC g p.o p.oc b.off u hc (HAT.o u h).off (by have:=hn.1;omega)
 have H3:Hid (∀ u,BW W u→Calls prog 110 #[.slice p.a b.az.length p.ac] u fun e w'=>∃ a3 k3,e=.returned (.slice a3 b.az.length k3)∧w'.ownsRow u.heap.size 107 6 (.slice a3 b.az.length k3) b.az.length (Ah b.az)∧BW u w'):=fun u h=>(Dj p.a p.ac b.az u (HAT.o u h).az (by have:=hn.2.1;omega) (fun a ha=>by have:=hr a ha;omega)).mono (fun e w' ⟨h1,h2,h3⟩=>⟨_,_,h1,h2,h3⟩)
 have H4:Hid (∀ (u:World) (g:Nat),BW W u→u.cell? ⟨g,0,none⟩=some (.slice p.c b.cs.length p.cc)→Calls prog 111 #[.slice (some ⟨g,0,none⟩) 1 1] u fun e w'=>∃ a2 k2,e=.returned (.slice a2 b.cs.length k2)∧w'.ownsRow u.heap.size 61 12 (.slice a2 b.cs.length k2) b.cs.length (Aj b.cs)∧BW u w'):=fun u g h hc=>fZ g p.c p.cc b.cs u hc (HAT.o u h).cs (by have:=hn.2.2.1;omega)
 have H5:Hid (∀ u,BW W u→Calls prog 112 #[.slice p.g b.log.length p.gc] u fun e w'=>∃ a5 k5,e=.returned (.slice a5 b.log.length k5)∧w'.ownsRow u.heap.size 9 1 (.slice a5 b.log.length k5) b.log.length (Am b.log)∧BW u w'):=fun u h=>(Sb KI p.g p.gc b.log u (HAT.o u h).log hn.2.2.2.2 hg).mono (fun e w' ⟨h1,h2,h3⟩=>⟨_,_,h1,h2,h3⟩)
 have HS:Hid (∀ u,BW W u→u.cell? ⟨X,0,none⟩=some (.int .i64 b.today)∧u.cell? ⟨X,1,none⟩=some (.slice p.o b.off.length p.oc)∧u.cell? ⟨X,2,none⟩=some (.slice p.a b.az.length p.ac)∧u.cell? ⟨X,3,none⟩=some (.slice p.c b.cs.length p.cc)∧u.cell? ⟨X,4,none⟩=some (.slice p.l b.ls.length p.lc)∧u.cell? ⟨X,5,none⟩=some (.slice p.g b.log.length p.gc)):=fun u h=>by
  have z:=HZ.o.below h;exact ⟨z.c0,z.c1,z.c2,z.c3,z.c4,z.c5⟩
 have HW:Hid _:=hW;have HXX:Hid _:=hX;have k0:BW W W:=bR;unfold C5;clear hx hn hr hg KI hW hX
 go_enter func50,ntmps50
 go_upto_region 1 with fail
 rw [← HW.o,HXX.o]
 go_region_held3 (fun u=>u.cell? ⟨X,0,none⟩=some (.int .i64 b.today)∧u.cell? ⟨X,1,none⟩=some (.slice p.o b.off.length p.oc)∧u.cell? ⟨X,2,none⟩=some (.slice p.a b.az.length p.ac)∧u.cell? ⟨X,3,none⟩=some (.slice p.c b.cs.length p.cc)∧u.cell? ⟨X,4,none⟩=some (.slice p.l b.ls.length p.lc)∧u.cell? ⟨X,5,none⟩=some (.slice p.g b.log.length p.gc)) ((refine HS.o _ ?_;(repeat (first | with_reducible exact k5 | with_reducible exact k4 | with_reducible exact k3 | with_reducible exact k2 | with_reducible exact k1 | with_reducible exact k0 | with_reducible refine I0 ?_ | with_reducible refine Below.drew ?_)))) ((first
  | (go_at_call 109;(with_reducible refine Of H1.o k0 ?_ ?_);(focus (repeat (first | with_reducible exact bR | with_reducible refine I0 ?_ | with_reducible refine Below.drew ?_)));rintro e u1 ⟨a1,c1,rfl,o1,p1⟩ l1;have k1:BW W u1:=next (next k0 l1) p1;have M1:Hid (BW W u1):=next l1 p1;have P1:Hid _:=p1;have O1:Hid _:=Ez o1 (Nat.le_trans HSW.o (next k0 l1).size);clear p1 o1 l1)
  | (go_at_call 101;(with_reducible refine Q9 H2.o k1 ?_ ?_ ?_);(focus (repeat (first | with_reducible exact bR | with_reducible refine I0 ?_ | with_reducible refine Below.drew ?_)));(focus (repeat (first | with_reducible exact cN | with_reducible refine He P1.o ?_ | (simp;done) | with_reducible refine dF ?_ | with_reducible refine bS ?_)));rintro e u2 ⟨a2,c2,rfl,o2,p2⟩ l2;have k2:BW W u2:=next (next k1 l2) p2;have M2:Hid (BW u1 u2):=next l2 p2;have P2:Hid _:=p2;have O2:Hid _:=Ez o2 (Nat.le_trans HSW.o (next k1 l2).size);clear p2 o2 l2)
  | (go_at_call 110;(with_reducible refine Of H3.o k2 ?_ ?_);(focus (repeat (first | with_reducible exact bR | with_reducible refine I0 ?_ | with_reducible refine Below.drew ?_)));rintro e u3 ⟨a3,c3,rfl,o3,p3⟩ l3;have k3:BW W u3:=next (next k2 l3) p3;have M3:Hid (BW u2 u3):=next l3 p3;have P3:Hid _:=p3;have O3:Hid _:=Ez o3 (Nat.le_trans HSW.o (next k2 l3).size);clear p3 o3 l3)
  | (go_at_call 111;(with_reducible refine Q9 H4.o k3 ?_ ?_ ?_);(focus (repeat (first | with_reducible exact bR | with_reducible refine I0 ?_ | with_reducible refine Below.drew ?_)));(focus (repeat (first | with_reducible exact cN | with_reducible refine He P3.o ?_ | with_reducible refine He P2.o ?_ | with_reducible refine He P1.o ?_ | (simp;done) | with_reducible refine dF ?_ | with_reducible refine bS ?_)));rintro e u4 ⟨a4,c4,rfl,o4,p4⟩ l4;have k4:BW W u4:=next (next k3 l4) p4;have M4:Hid (BW u3 u4):=next l4 p4;have P4:Hid _:=p4;have O4:Hid _:=Ez o4 (Nat.le_trans HSW.o (next k3 l4).size);clear p4 o4 l4)
  | (go_at_call 112;(with_reducible refine Of H5.o k4 ?_ ?_);(focus (repeat (first | with_reducible exact bR | with_reducible refine I0 ?_ | with_reducible refine Below.drew ?_)));rintro e u5 ⟨a5,c5,rfl,o5,p5⟩ l5;have k5:BW W u5:=next (next k4 l5) p5;have M5:Hid (BW u4 u5):=next l5 p5;have P5:Hid _:=p5;have O5:Hid _:=Ez o5 (Nat.le_trans HSW.o (next k4 l5).size);clear p5 o5 l5)))
 all_goals
  go_wp2;go_ret;exact mC (next HBW.o k5) (Av (Av (Av (Av O1.o M2.o) M3.o) M4.o) M5.o) (Av (Av (Av O2.o M3.o) M4.o) M5.o) (Av (Av O3.o M4.o) M5.o) (Av O4.o M5.o) O5.o
end Go.Proofs.YtomiclakhjncbaaGreatDoor.Kb
