import Derived.Test.YtomiclakhjncbaaGreatDoorJA4a
namespace Go.Proofs.YtomiclakhjncbaaGreatDoor.Kb
open Go.RowKit
set_option maxRecDepth 100000
set_option maxHeartbeats 12800000
def authR (F:Fns) (b:Bk) (rs:Recs):Bk×Int :=
 if rs.length=4∧nth rs 0≠[]∧numsOk (rs.drop 1)=true then authB F b (nth rs 0) (numW (nth rs 1)) (numW (nth rs 2)) (numW (nth rs 3)) else (b,1)
theorem auth_yes (F:Fns) {b:Bk} {ref:List UInt8} {n0 n1 n2:Int} (h:F.addOk b.az ⟨ref,n0,n1,n2,b.today,false⟩=true):authB F b ref n0 n1 n2=(⟨b.today,b.off,F.add b.az ⟨ref,n0,n1,n2,b.today,false⟩,b.cs,b.ls,b.log⟩,0):=if_pos h
theorem auth_no (F:Fns) {b:Bk} {ref:List UInt8} {n0 n1 n2:Int} (h:F.addOk b.az ⟨ref,n0,n1,n2,b.today,false⟩=false):authB F b ref n0 n1 n2=(b,3):=if_neg (by rw [h];decide)
theorem four {α:Type} {rs:List α} (h:rs.length=4):∃ a b c d,rs=[a,b,c,d]:=by
 match rs,h with
 | [a,b,c,d],_=>exact ⟨a,b,c,d,rfl⟩
theorem txts4 {w:World} {ao:Option Addr} {a b c d:List UInt8} (h:TxtsAt w ao [a,b,c,d]):∃ g off,ao=some ⟨g,off,none⟩∧g<w.heap.size∧w.cell? ⟨g,off,none⟩=some (.string ⟨a.toArray⟩)∧w.cell? ⟨g,off+1,none⟩=some (.string ⟨b.toArray⟩)∧w.cell? ⟨g,off+2,none⟩=some (.string ⟨c.toArray⟩)∧w.cell? ⟨g,off+3,none⟩=some (.string ⟨d.toArray⟩):=by
 rcases h with h | ⟨g,off,h1,h2,h3⟩
 ·cases h
 ·exact ⟨g,off,h1,h2,h3 0 (by simp),h3 1 (by simp),h3 2 (by simp),h3 3 (by simp)⟩
theorem txts3 {w:World} {g off:Nat} {b c d:List UInt8} (hg:g<w.heap.size) (h1:w.cell? ⟨g,off,none⟩=some (.string ⟨b.toArray⟩)) (h2:w.cell? ⟨g,off+1,none⟩=some (.string ⟨c.toArray⟩)) (h3:w.cell? ⟨g,off+2,none⟩=some (.string ⟨d.toArray⟩)):TxtsAt w (some ⟨g,off,none⟩) [b,c,d] :=
 .inr ⟨g,off,rfl,hg,fun i hi=>by
  rcases (show i=0∨i=1∨i=2 by simp at hi;omega) with rfl | rfl | rfl
  ·exact h1
  ·exact h2
  ·exact h3⟩
theorem iAuth_any {F:Fns} {E:World→Prop} {G B K:Nat} (KI:KnI F E G) (b:Bk) (q:Bp) (ao:Option Addr) (cap:Nat) (rs:Recs) (w:World) (hk:KS B K 1 b q w) (hE:E w) (hP:PreI b) (hz:TxtsAt w ao rs) (hcap:rs.length≤cap) (hcm:cap≤1048577) (hd:∀ r ∈ rs,r.length≤1048576) :
  Calls Tryz.prog 173 #[.pointer (some ⟨K,0,none⟩),.slice ao rs.length cap] w (StR B K w (authR F b rs)):=by
 have HB0:Hid (B≤w.heap.size):=hk.lt
 have HK0:Hid (KS B K 1 b q w):=hk
 have HE0:Hid (E w):=hE
 have HPR:Hid (PreI b):=hP
 have HKI:Hid (KnI F E G):=KI
 obtain ⟨et,ea,hee⟩:=KI.eLine w hE
 have HBR:Hid (Below B w w):=Below.refl _ _
 by_cases hl4:rs.length=4
 ·obtain ⟨r0,r1,r2,r3,hrs⟩:=four hl4
  have d0:=hd r0 (by rw [hrs];simp)
  have d1:=hd r1 (by rw [hrs];simp)
  have d2:=hd r2 (by rw [hrs];simp)
  have d3:=hd r3 (by rw [hrs];simp)
  rw [hrs] at hz
  obtain ⟨g,off,rfl,hg,t0,t1,t2,t3⟩:=txts4 hz
  rw [hrs] at hcap ⊢
  simp only [List.length_cons,List.length_nil] at hcap
  clear hd hz hl4 hk hE hP KI hrs
  by_cases hr0:r0=[]
  ·have HR:Hid (authR F b [r0,r1,r2,r3]=(b,1)):=if_neg (by rintro ⟨_,h,_⟩;exact h hr0)
   rw [HR.out]
   subst hr0
   clear HR
   go_enter Tryz.func173,Tryz.ntmps173
   go_wp2
   go_ret
   exact st_no (by decide) HK0.out HBR.out
  ·have hrb:(r0 == [])=false:=by simpa using hr0
   have HNS:Hid (Calls Tryz.prog 206 #[.slice (some ⟨g,off+1,none⟩) 3 (cap - 1)] w fun e w'=>∃ a k,e=.returned (.tuple #[.slice a (numsV [r1,r2,r3]).length k,.bool (numsOk [r1,r2,r3])])∧w'.ownsRow w.heap.size 3 1 (.slice a (numsV [r1,r2,r3]).length k) (numsV [r1,r2,r3]).length ((numsV [r1,r2,r3]).map (Value.int .i64))∧Below w.heap.size w w') :=
    iNums_any HKI.out (some ⟨g,off+1,none⟩) (cap - 1) [r1,r2,r3] w (txts3 hg t1 t2 t3) (by simp) (by
     intro r hr
     simp at hr
     rcases hr with rfl | rfl | rfl <;> assumption) HE0.out
   have HRR:Hid (authR F b [r0,r1,r2,r3]=if numsOk [r1,r2,r3]=true then authB F b r0 (numW r1) (numW r2) (numW r3) else (b,1)):=by
    rw [Hid,authR]
    by_cases h:numsOk [r1,r2,r3]=true
    ·rw [if_pos ⟨rfl,hr0,h⟩,if_pos h];rfl
    ·rw [if_neg (fun e=>h e.2.2),if_neg h]
   rw [HRR.out]
   clear HRR hr0
   by_cases hok:numsOk [r1,r2,r3]=true
   ·have hv:numsV [r1,r2,r3]=[numW r1,numW r2,numW r3]:=if_pos hok
    have b1':=numW_bd r1
    have b2':=numW_bd r2
    have b3':=numW_bd r3
    have hn2:0≤numW r2:=by
     have:=List.all_eq_true.1 hok r2 (by simp)
     simpa using this
    rw [hv,hok] at HNS
    rw [if_pos hok]
    obtain ⟨n1,e1⟩:∃ n,numW r1=n:=⟨_,rfl⟩
    obtain ⟨n2,e2⟩:∃ n,numW r2=n:=⟨_,rfl⟩
    obtain ⟨n3,e3⟩:∃ n,numW r3=n:=⟨_,rfl⟩
    rw [e1] at HNS b1' ⊢
    rw [e2] at HNS b2' hn2 ⊢
    rw [e3] at HNS b3' ⊢
    simp only [List.length_cons,List.length_nil,List.map_cons,List.map_nil] at HNS
    clear hv e1 e2 e3 hok hee
    go_enter Tryz.func173,Tryz.ntmps173
    go_wp2_with fail
    refine Calls.mono HNS.out ?_
    rintro e w1 ⟨a,k,rfl,o1,p1⟩
    obtain ⟨g1,rfl,-,-⟩:=row_block o1 (by omega)
    have m0:w1.cell? ⟨g1,0,none⟩=some (.int .i64 n1):=by simpa using o1.cellAt 0 (by omega)
    have m1:w1.cell? ⟨g1,1,none⟩=some (.int .i64 n2):=by simpa using o1.cellAt 1 (by omega)
    have m2:w1.cell? ⟨g1,2,none⟩=some (.int .i64 n3):=by simpa using o1.cellAt 2 (by omega)
    have s0:w1.cell? ⟨g,off,none⟩=some (.string ⟨r0.toArray⟩):=(p1.cell (p:=⟨g,off,none⟩) hg).trans t0
    have HK1:Hid (KS B K 1 b q w1):=HK0.out.below p1
    have HB1:Hid (Below B w w1):=p1.mono HB0.out
    have HE1:Hid (E w1):=HKI.out.grow HE0.out p1
    have hz:=HK1.out.z
    have lK:=hz.lt
    have HS:Hid (∀ u,Below w1.heap.size w1 u→u.cell? ⟨K,3,none⟩=some (.int .i64 b.today)∧u.cell? ⟨K,5,none⟩=some (.slice q.a b.az.length q.ac)∧u.cell? ⟨g,off,none⟩=some (.string ⟨r0.toArray⟩)∧u.cell? ⟨g1,0,none⟩=some (.int .i64 n1)∧u.cell? ⟨g1,1,none⟩=some (.int .i64 n2)∧u.cell? ⟨g1,2,none⟩=some (.int .i64 n3)):=fun u h=>by
     have l1:=World.block_lt_of_cell? w1 _ m0
     have l2:=World.block_lt_of_cell? w1 _ s0
     exact ⟨(h.cell (p:=⟨K,3,none⟩) lK).trans hz.c3,(h.cell (p:=⟨K,5,none⟩) lK).trans hz.c5,(h.cell (p:=⟨g,off,none⟩) l2).trans s0,(h.cell (p:=⟨g1,0,none⟩) l1).trans m0,(h.cell (p:=⟨g1,1,none⟩) l1).trans m1,(h.cell (p:=⟨g1,2,none⟩) l1).trans m2⟩
    have HAD:Hid (∀ u,Below w1.heap.size w1 u→Calls Tryz.prog 208 #[.slice q.a b.az.length q.ac,.agg #[.string ⟨r0.toArray⟩,.int .i64 n1,.int .i64 n2,.int .i64 n3,.int .i64 b.today,.bool false]] u (AuR2 u (F.add b.az ⟨r0,n1,n2,n3,b.today,false⟩) (F.addOk b.az ⟨r0,n1,n2,n3,b.today,false⟩))):=fun u h =>
     HKI.out.add q.a q.ac b.az ⟨r0,n1,n2,n3,b.today,false⟩ u (HK1.out.below h).at.az HPR.out.sm.2.1 HPR.out.ref d0 ⟨hn2,b2'.2⟩
    have k0:Below w1.heap.size w1 w1:=Below.refl _ _
    have HY:Hid _:=@auth_yes F b r0 n1 n2 n3
    have HNO:Hid _:=@auth_no F b r0 n1 n2 n3
    obtain ⟨L,hL⟩:∃ L,F.add b.az ⟨r0,n1,n2,n3,b.today,false⟩=L:=⟨_,rfl⟩
    obtain ⟨ok,hok⟩:∃ o,F.addOk b.az ⟨r0,n1,n2,n3,b.today,false⟩=o:=⟨_,rfl⟩
    rw [hL] at HAD HY
    rw [hok] at HAD HY HNO
    clear o1 p1 HNS hL hok hz lK t0 t1 t2 t3 hn2 b1' b2' b3'
    obtain ⟨q3,q5,qg,qa,qb,qc⟩:=HS.out _ k0
    clear m0 m1 m2 s0
    go_upto_region 6 with fail
    go_region_held3 (fun u=>u.cell? ⟨K,3,none⟩=some (.int .i64 b.today)∧u.cell? ⟨K,5,none⟩=some (.slice q.a b.az.length q.ac)∧u.cell? ⟨g,off,none⟩=some (.string ⟨r0.toArray⟩)∧u.cell? ⟨g1,0,none⟩=some (.int .i64 n1)∧u.cell? ⟨g1,1,none⟩=some (.int .i64 n2)∧u.cell? ⟨g1,2,none⟩=some (.int .i64 n3)) (first | with_reducible exact HS.out _ k0 | with_reducible exact HS.out _ k0.drew | with_reducible exact HS.out _ k3) ((go_at_call 208;(first | with_reducible refine Calls.mono (HAD.out _ k0) ?_ | with_reducible refine Calls.mono (HAD.out _ k0.drew) ?_);rintro e w3 ⟨a3,c3,rfl,o3,p3⟩;have k3:Below w1.heap.size w1 w3:=(by first | exact p3 | exact (Below.trans (Below.refl w1.heap.size w1).drew p3))))
    all_goals
     rename_i hheld
     have HK3:Hid (KS B K 1 b q w3):=HK1.out.below k3
     have HBW:Hid (B≤w1.heap.size):=HK1.out.lt
     have HB3:Hid (Below B w w3):=HB1.out.trans (k3.mono HBW.out)
     obtain ⟨et,ea,hee⟩:=HKI.out.eAuth w3 (HKI.out.grow HE1.out k3)
     have HO3:Hid (w3.ownsRow w1.heap.size 107 6 (.slice a3 L.length c3) L.length (acells L)):=(by first | exact o3 | exact (by simpa using o3))
     clear hheld q3 q5 qg qa qb qc k0 k3 p3 o3
     cases ok
     ·have HQ:Hid _:=HNO.out rfl
      clear HY HNO
      go_wp2
      go_ret
      rw [HQ.out]
      exact st_no (by decide) HK3.out HB3.out
     ·have HQ:Hid _:=HY.out rfl
      have HKA:Hid _:=HK3.out.setA HO3.out HBW.out
      have HBA:Hid (Below B w (w3.setCell ⟨K,5,none⟩ (.slice a3 L.length c3))):=HB3.out.setCell HK1.out.hK _
      have z5:=HK3.out.z.z5
      have c5:=HK3.out.z.c5
      clear HY HNO
      go_wp2
      go_ret
      rw [HQ.out]
      exact st_yes HKA.out HBA.out
   ·have hokf:numsOk [r1,r2,r3]=false:=by simpa using hok
    rw [if_neg hok]
    obtain ⟨L,hL⟩:∃ L,numsV [r1,r2,r3]=L:=⟨_,rfl⟩
    rw [hL,hokf] at HNS
    clear hL hok hokf hee
    go_enter Tryz.func173,Tryz.ntmps173
    go_wp2_with fail
    refine Calls.mono HNS.out ?_
    rintro e w1 ⟨a,k,rfl,o1,p1⟩
    have HK1:Hid (KS B K 1 b q w1):=HK0.out.below p1
    have HB1:Hid (Below B w w1):=p1.mono HB0.out
    obtain ⟨et,ea,hee⟩:=HKI.out.eLine w1 (HKI.out.grow HE0.out p1)
    clear o1 p1 HNS t0 t1 t2 t3
    go_wp2
    go_ret
    exact st_no (by decide) HK1.out HB1.out
 ·have HR:Hid (authR F b rs=(b,1)):=if_neg (fun e=>hl4 e.1)
  rw [HR.out]
  obtain ⟨n,hnl⟩:∃ n,rs.length=n:=⟨_,rfl⟩
  rw [hnl] at hl4 hcap ⊢
  have hl4':((n:Int) == 4)=false:=by
   have:¬ (n:Int)=4:=by omega
   simpa using this
  have hl5:((n:Int) != 4)=true:=by
   have:¬ (n:Int)=4:=by omega
   simpa using this
  clear HR hl4 hd hz hk hE hP KI hnl hcap hcm
  go_enter Tryz.func173,Tryz.ntmps173
  go_wp2
  go_ret
  exact st_no (by decide) HK0.out HBR.out
end Go.Proofs.YtomiclakhjncbaaGreatDoor.Kb
