import Derived.Test.YtomiclakhjncbaaGreatDoorJX0a
import Derived.Test.YtomiclakhjncbaaGreatDoorJX2a
import Derived.Test.YtomiclakhjncbaaGreatDoorJX1a
namespace Go.Proofs.YtomiclakhjncbaaGreatDoor
open Go.RowKit Go.Proofs.Tryz
set_option maxRecDepth 100000
set_option maxHeartbeats 12800000
def Bp.has (q:Bp) (g:Nat):Prop:=q.o=some ⟨g,0,none⟩∨q.a=some ⟨g,0,none⟩∨q.c=some ⟨g,0,none⟩∨q.l=some ⟨g,0,none⟩∨q.g=some ⟨g,0,none⟩
theorem S6.grown {B g:Nat} {b:Bk} {p:Bp} {u u':World} (h:S6 B b p u) (hg:u.grownBy u' (some g)) (hne:B≠g):S6 B b p u':=by
 have l:=h.lt
 have hs:some B≠some g:=fun e=>hne (by injection e)
 exact ⟨(hg.cell_far ⟨B,0,none⟩ l hs).trans h.c0,(hg.cell_far ⟨B,1,none⟩ l hs).trans h.c1,(hg.cell_far ⟨B,2,none⟩ l hs).trans h.c2,(hg.cell_far ⟨B,3,none⟩ l hs).trans h.c3,(hg.cell_far ⟨B,4,none⟩ l hs).trans h.c4,(hg.cell_far ⟨B,5,none⟩ l hs).trans h.c5⟩
theorem T9 (b:Bk) (q:Bp) (base:Nat) (w:World) (ho:Ih base b q w) (hn:D0 b) (Q:World→Prop)
  (hQ:∀ g,q.has g→∀ u u':World,u.grownBy u' (some g)→Q u→Q u') (h:Q w) :
  Calls prog 20 #[C5 b q,.int .i64 1] w fun e w'=>∃ n:Int,e=.returned (.int .i64 n)∧0≤n∧Q w':=by
 obtain ⟨W,hW⟩:∃ W,W=w.alloc (.cells #[.int .i64 b.today,.slice q.o b.off.length q.oc,.slice q.a b.az.length q.ac,.slice q.c b.cs.length q.cc,.slice q.l b.ls.length q.lc,.slice q.g b.log.length q.gc] 31):=⟨_,rfl⟩
 have bW:BW w W:=by rw [hW];exact bR.alloc nL _
 have s1:S6 w.heap.size b q W:=by rw [hW];exact S6.new w b q _
 have HO:Hid (Ih base b q W):=ho.below bW;obtain ⟨g1,g2,g3,g4,g5,e1,e2,e3,e4,e5,l1,l2,l3,l4⟩:=ho.apart;have HQ1:Hid (∀ u u':World,u.grownBy u' (some g1)→Q u→Q u'):=hQ g1 (.inl e1);have HQ2:Hid (∀ u u':World,u.grownBy u' (some g2)→Q u→Q u'):=hQ g2 (.inr (.inl e2));have HQ3:Hid (∀ u u':World,u.grownBy u' (some g3)→Q u→Q u'):=hQ g3 (.inr (.inr (.inl e3)));have HQ4:Hid (∀ u u':World,u.grownBy u' (some g4)→Q u→Q u'):=hQ g4 (.inr (.inr (.inr (.inl e4))));have HQ5:Hid (∀ u u':World,u.grownBy u' (some g5)→Q u→Q u'):=hQ g5 (.inr (.inr (.inr (.inr e5))))
 have HQ:Hid (Q W):=HQ1.o w W (by rw [hW];exact World.grownBy_alloc w _ _) h
 have HNB:Hid (g1<w.heap.size∧g2<w.heap.size∧g3<w.heap.size∧g4<w.heap.size∧g5<w.heap.size):=by
  have:=(ho.log.lt g5 (by rw [e5];rfl)).2
  rw [Hid];omega
 have HS:Hid (S6 w.heap.size b q W):=s1;have HW:Hid _:=hW;have HN:Hid (D0 b):=hn;clear hQ h ho bW hW s1 hn;obtain ⟨td,fo,az,cs,ls,lg⟩:=b;obtain ⟨o,oc,a,ac,c,cc,l,lc,g,gc⟩:=q
 simp only at e1 e2 e3 e4 e5
 subst e1;subst e2;subst e3;subst e4;subst e5;obtain ⟨n1,n2,n3,n4,n5⟩:=HN.o;unfold C5
 simp only at HW n1 n2 n3 n4 n5 ⊢
 have HR1:Hid _:=HO.o.off;have HR2:Hid _:=HO.o.az;have HR3:Hid _:=HO.o.cs;have HR4:Hid _:=HO.o.ls;have HR5:Hid _:=HO.o.log;have HL:Hid (g1<g2∧g2<g3∧g3<g4∧g4<g5):=⟨l1,l2,l3,l4⟩;clear HO HN l1 l2 l3 l4;obtain ⟨c0,c1,c2,c3,c4,c5⟩:=HS.o
 simp only at c0 c1 c2 c3 c4 c5
 go_enter func20,ntmps20
 go_upto_region 1 with fail
 rw [← HW.o];clear HW;go_wp2_with fail
 refine (Mx _ _ _ _ _ _ _ HR1.o (by show fo.length≤1099511627776;omega) (by omega) (by omega)).mono ?_
 rintro e w1 ⟨rfl,-,gr0⟩;have gr1:World.grownBy _ w1 (some g1):=gr0;clear gr0;have HA1:Hid (Q w1):=HQ1.o _ _ gr1 HQ.o
 have HS1:Hid _:=HS.o.grown gr1 (by have:=HNB.o;omega)
 have HB2:Hid _:=World.ownsRow.kept HR2.o gr1 (.inr (by have:=HL.o;simp [Value.ownBlock];omega))
 have HB3:Hid _:=World.ownsRow.kept HR3.o gr1 (.inr (by have:=HL.o;simp [Value.ownBlock];omega))
 have HB4:Hid _:=World.ownsRow.kept HR4.o gr1 (.inr (by have:=HL.o;simp [Value.ownBlock];omega))
 have HB5:Hid _:=World.ownsRow.kept HR5.o gr1 (.inr (by have:=HL.o;simp [Value.ownBlock];omega))
 clear c0 c1 c2 c3 c4 c5 gr1 HQ HS HR1 HR2 HR3 HR4 HR5 HQ1;obtain ⟨c0,c1,c2,c3,c4,c5⟩:=HS1.o
 simp only at c0 c1 c2 c3 c4 c5
 rw [show (1+(fo.length:Int))=((1+fo.length:Nat):Int) by omega]
 go_wp2_with fail
 refine (Lr _ _ _ (1+fo.length) _ _ HB2.o (by show az.length≤1099511627;omega) (by omega) (by omega)).mono ?_
 rintro e w2 ⟨rfl,-,gr0⟩;have gr2:World.grownBy _ w2 (some g2):=gr0;clear gr0;have HA2:Hid (Q w2):=HQ2.o _ _ gr2 HA1.o
 have HS2:Hid _:=HS1.o.grown gr2 (by have:=HNB.o;omega)
 have HC3:Hid _:=World.ownsRow.kept HB3.o gr2 (.inr (by have:=HL.o;simp [Value.ownBlock];omega))
 have HC4:Hid _:=World.ownsRow.kept HB4.o gr2 (.inr (by have:=HL.o;simp [Value.ownBlock];omega))
 have HC5:Hid _:=World.ownsRow.kept HB5.o gr2 (.inr (by have:=HL.o;simp [Value.ownBlock];omega))
 clear c0 c1 c2 c3 c4 c5 gr2 HA1 HS1 HB2 HB3 HB4 HB5 HQ2;obtain ⟨c0,c1,c2,c3,c4,c5⟩:=HS2.o
 simp only at c0 c1 c2 c3 c4 c5
 go_wp2_with fail
 refine (Rt _ _ _ (1+fo.length+6*az.length) _ _ _ HC3.o (by show cs.length≤1048576;omega) (by omega)).mono ?_
 rintro e w3 ⟨rfl,-,gr0⟩;have gr3:World.grownBy _ w3 (some g3):=gr0;clear gr0;have HA3:Hid (Q w3):=HQ3.o _ _ gr3 HA2.o
 have HS3:Hid _:=HS2.o.grown gr3 (by have:=HNB.o;omega)
 have HD4:Hid _:=World.ownsRow.kept HC4.o gr3 (.inr (by have:=HL.o;simp [Value.ownBlock];omega))
 have HD5:Hid _:=World.ownsRow.kept HC5.o gr3 (.inr (by have:=HL.o;simp [Value.ownBlock];omega))
 clear c0 c1 c2 c3 c4 c5 gr3 HA2 HS2 HC3 HC4 HC5 HQ3;obtain ⟨c0,c1,c2,c3,c4,c5⟩:=HS3.o
 simp only at c0 c1 c2 c3 c4 c5
 go_wp2_with fail
 refine (Kc _ _ _ (1+fo.length+6*az.length+12*cs.length) _ _ HD4.o (by show ls.length≤1099511627;omega) (by omega)).mono ?_
 rintro e w4 ⟨rfl,-,gr0⟩;have gr4:World.grownBy _ w4 (some g4):=gr0;clear gr0;have HA4:Hid (Q w4):=HQ4.o _ _ gr4 HA3.o
 have HS4:Hid _:=HS3.o.grown gr4 (by have:=HNB.o;omega)
 have HE5:Hid _:=World.ownsRow.kept HD5.o gr4 (.inr (by have:=HL.o;simp [Value.ownBlock];omega))
 clear c0 c1 c2 c3 c4 c5 gr4 HA3 HS3 HD4 HD5 HQ4;obtain ⟨c0,c1,c2,c3,c4,c5⟩:=HS4.o
 simp only at c0 c1 c2 c3 c4 c5
 go_wp2_with fail
 refine (Jm _ _ _ (1+fo.length+6*az.length+12*cs.length+3*ls.length) _ _ HE5.o (by show lg.length≤1099511627;omega) (by omega) (by omega)).mono ?_
 rintro e w5 ⟨rfl,-,gr0⟩;have gr5:World.grownBy _ w5 (some g5):=gr0;clear gr0;have HA5:Hid (Q w5):=HQ5.o _ _ gr5 HA4.o;clear c0 c1 c2 c3 c4 c5 gr5;go_wp2;go_ret
 exact ⟨_,rfl,by omega,HA5.o⟩
end Go.Proofs.YtomiclakhjncbaaGreatDoor
