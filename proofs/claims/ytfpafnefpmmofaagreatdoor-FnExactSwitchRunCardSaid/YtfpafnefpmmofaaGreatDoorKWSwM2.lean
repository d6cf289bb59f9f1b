import Derived.Test.YtfpafnefpmmofaaGreatDoorJW2b
namespace Go.Proofs.YtfpafnefpmmofaaGreatDoor
open Go.RowKit Go.Maps Go.Proofs.Tryz
set_option maxRecDepth 100000
set_option maxHeartbeats 12800000
def Ky (m:Nat):List Bool:=[true,true,m.testBit 0,true,m.testBit 1,true,m.testBit 2,true,m.testBit 3,true,m.testBit 4,true,m.testBit 5,true,m.testBit 6,true,m.testBit 7,false,false]
def Pz (m:Nat):Nat:=((List.range 8).filter (m.testBit ·)).length
def Wx (m:Nat):List Nat:=((List.range 8).filter (!m.testBit ·)).map (2+2 * ·)
theorem Abl:∀ m,m<256->∀ k,k<8->m.testBit k=false->Pz (m ||| 2 ^ k)=Pz m+1/\m ||| 2 ^ k<256/\(Ky m).toArray.setIfInBounds (2+2*k) true=(Ky (m ||| 2 ^ k)).toArray:=by
 have h:((List.range 256).all λm=>(List.range 8).all λk=>m.testBit k || (decide (Pz (m ||| 2 ^ k)=Pz m+1) && decide (m ||| 2 ^ k<256) && decide ((Ky m).toArray.setIfInBounds (2+2*k) true=(Ky (m ||| 2 ^ k)).toArray)))=true:=by kernel_rfl
 intro m hm k hk hb
 have:=List.all_eq_true.1 (List.all_eq_true.1 h m (List.mem_range.2 hm)) k (List.mem_range.2 hk)
 rw [hb] at this
 simp only [Bool.false_or,jf,decide_eq_true_eq] at this
 exact ⟨this.1.1,this.1.2,this.2⟩
theorem wB:∀ m,m<256->Pz m=8->m=255:=by
 have h:((List.range 256).all λm=>!decide (Pz m=8) || decide (m=255))=true:=by kernel_rfl
 intro m hm F
 have:=List.all_eq_true.1 h m (List.mem_range.2 hm)
 rw [decide_eq_true F] at this
 simpa using this
theorem tW:∀ m,m<256->Pz m<8->Wx m≠[]:=by
 have h:((List.range 256).all λm=>decide (Pz m=8) || !(Wx m).isEmpty)=true:=by kernel_rfl
 intro m hm F
 have:=List.all_eq_true.1 h m (List.mem_range.2 hm)
 rw [decide_eq_false (by omega)] at this
 intro e;rw [e] at this
 simp at this
theorem Afv {m k j:Nat} : (m ||| 2 ^ k).testBit j=if j=k then true else m.testBit j:=by
 rw [Nat.testBit_or,Nat.testBit_two_pow]
 by_cases h:j=k
 ·simp [h]
 ·simp [h,Ne.s h]
theorem fM {P:Program} {b:Array Oper} {Q:Exit->Act->ql->Prop} {K:Act->ql->Prop} {i:Nat} {o:Oper} {a:Act} {w w':ql} {t:TypeId} {m x v:Operand} (hi:b[i]?=some o) (H:o.guard=none) (hop:o.op=Op.insert t m x v)
  {M key val:Value} (hm:a.eval m=M) (hx:a.eval x=key) (T:a.eval v=val) (B:(Instr.mapUpdate t M key val).run P w=.ok () w') (h:K (a.put o.dst undef) w'):wpOp P b Q i K a w:=by
 unfold wpOp
 simp only [hi,Region.wanted,H,if_true]
 left
 unfold Oper.wp
 simp [execOp,hop,hm,hx,T,B,Result.andThen]
 exact h
theorem Adl {b:Array Oper} {Q:Exit->Act->ql->Prop} {A:Act} {X:Nat} {G:ql->Prop}
  (hready:∀ m,m<255->Region.ready .any b (Ky m).toArray=Wx m)
  (hop:∀ k,k<8->∃ o mm x v,b[2+2*k]?=some o/\o.guard=none/\o.op=Op.insert 228 mm x v/\A.eval mm=.map (some X)/\A.eval x=.agg #[qzI (Kg k).1,qzI (Kg k).2]/\A.eval v=.func (.func (swF k)) #[] #[]/\A.put o.dst undef=A)
  (hG:∀ u L,G u->u.grownBy L (some X)->G L)
  (hend:∀ u n,Si u X n (λk=>(255:Nat).testBit k)->G u->wpAnyH prog .any b Q (λ_=>True) 2 (Ky 255).toArray A u) :
  ∀ r m u n,m<256->Pz m+r=8->n+r<=8->Si u X n (λk=>m.testBit k)->G u->wpAnyH prog .any b Q (λ_=>True) (r+2) (Ky m).toArray A u:=by
 intro r
 induction r with
 | zero =>
  intro m u n hm F _ d H;obtain rfl:=wB m hm F;exact hend u n d H
 | succ r ih =>
  intro m u n hm F hn d H
  have R:Pz m<8:=by omega
  have a4:m<255:=by
   rcases Nat.lt_or_ge m 255 with h|h
   ·exact h
   ·obtain rfl:m=255:=by omega
    exact absurd R (by decide)
  refine wpAnyH_all (hready m a4) (tW m hm R) λi hi=>?_
  obtain ⟨k,hk,rfl⟩:=List.mem_map.1 hi;obtain ⟨N,a3⟩:=List.mem_filter.1 hk;have y:=List.mem_range.1 N
  have O:m.testBit k=false:=by simpa using a3
  obtain ⟨o,mm,x,v,h1,h2,h3,h4,h5,h6,h7⟩:=hop k y
  obtain ⟨L,B,J,Y⟩:=d.put y (by omega)
  obtain ⟨c1,c2,c3⟩:=Abl m hm k y O;refine fM h1 h2 h3 h4 h5 h6 B ⟨trivial,?_⟩;rw [h7,c3]
  refine ih (m ||| 2 ^ k) L (n+1) c2 (by omega) (by omega) ?_ (hG u L H Y)
  obtain ⟨D,U,V⟩:=J
  refine ⟨D,U,λa c ha hc'=>?_⟩
  obtain ⟨e1,e2⟩:=V a c ha hc'
  constructor
  ·rw [e1]
   cases hs:Do a c with
   | none=>rfl
   | some j=>exact Afv.s
  ·intro j Z hd
   exact e2 j Z (Afv.s.t hd)
theorem Abb {b:Array Oper} (h:((List.range 255).all λm=>decide (Region.ready .any b (Ky m).toArray=Wx m))=true):∀ m,m<255->Region.ready .any b (Ky m).toArray=Wx m:=λm hm =>
 of_decide_eq_true (List.all_eq_true.1 h m (List.mem_range.2 hm))
theorem Aeq {P:Program} {md:Region.Mode} {b:Array Oper} {Q:Exit->Act->ql->Prop} {S:ql->Prop} {l l':Array Bool} {f f':Nat} {a:Act} {w:ql} (hl:l=l') (hf:f=f') (h:wpAnyH P md b Q S f' l' a w):wpAnyH P md b Q S f l a w:=by
 subst hl;subst hf;exact h
theorem gE (kd q:Int) (w:ql) (hk:aD kd) (F:aD q) :
  qi 127 #[.agg #[qzI kd,qzI q]] w λe w'=>∃ v,e=.returned (.tuple #[v,.bool (Do kd q).isSome])/\(∀ k,Do kd q=some k->v=.func (.func (swF k)) #[] #[])/\BW w w':=by
 have a5:=@run_makeMap prog
 go_enter func127,ntmps127
 go_upto_region 1 with fail
 refine wp_region_held_drew (S:=λ_=>True) (by kernel_rfl) trivial (λhHeld=>?_)
 (refine wpAnyH_take (i:=1) (oi:=_) (v:=?vq1) (by simp only [List.getElem?_toArray,je,List.getElem?_cons_zero];rfl) (by kernel_rfl) (by kernel_rfl) (by kernel_rfl) ?hq1 (Or.inl ⟨by rfl,?yq1⟩) trivial ?rq1;(case hq1=>exact (λ_ _ _ h=>h));(case yq1=>(intro w g;go_simp;(try with_reducible rfl))))
 (refine wpAnyH_take (i:=3) (oi:=_) (v:=?vq2) (by simp only [List.getElem?_toArray,je,List.getElem?_cons_zero];rfl) (by kernel_rfl) (by kernel_rfl) (by kernel_rfl) ?hq2 (Or.inl ⟨by rfl,?yq2⟩) trivial ?rq2;(case hq2=>exact (λ_ _ _ h=>h));(case yq2=>(intro w g;go_simp;(try with_reducible rfl))))
 (refine wpAnyH_take (i:=5) (oi:=_) (v:=?vq3) (by simp only [List.getElem?_toArray,je,List.getElem?_cons_zero];rfl) (by kernel_rfl) (by kernel_rfl) (by kernel_rfl) ?hq3 (Or.inl ⟨by rfl,?yq3⟩) trivial ?rq3;(case hq3=>exact (λ_ _ _ h=>h));(case yq3=>(intro w g;go_simp;(try with_reducible rfl))))
 (refine wpAnyH_take (i:=7) (oi:=_) (v:=?vq4) (by simp only [List.getElem?_toArray,je,List.getElem?_cons_zero];rfl) (by kernel_rfl) (by kernel_rfl) (by kernel_rfl) ?hq4 (Or.inl ⟨by rfl,?yq4⟩) trivial ?rq4;(case hq4=>exact (λ_ _ _ h=>h));(case yq4=>(intro w g;go_simp;(try with_reducible rfl))))
 (refine wpAnyH_take (i:=9) (oi:=_) (v:=?vq5) (by simp only [List.getElem?_toArray,je,List.getElem?_cons_zero];rfl) (by kernel_rfl) (by kernel_rfl) (by kernel_rfl) ?hq5 (Or.inl ⟨by rfl,?yq5⟩) trivial ?rq5;(case hq5=>exact (λ_ _ _ h=>h));(case yq5=>(intro w g;go_simp;(try with_reducible rfl))))
 (refine wpAnyH_take (i:=11) (oi:=_) (v:=?vq6) (by simp only [List.getElem?_toArray,je,List.getElem?_cons_zero];rfl) (by kernel_rfl) (by kernel_rfl) (by kernel_rfl) ?hq6 (Or.inl ⟨by rfl,?yq6⟩) trivial ?rq6;(case hq6=>exact (λ_ _ _ h=>h));(case yq6=>(intro w g;go_simp;(try with_reducible rfl))))
 (refine wpAnyH_take (i:=13) (oi:=_) (v:=?vq7) (by simp only [List.getElem?_toArray,je,List.getElem?_cons_zero];rfl) (by kernel_rfl) (by kernel_rfl) (by kernel_rfl) ?hq7 (Or.inl ⟨by rfl,?yq7⟩) trivial ?rq7;(case hq7=>exact (λ_ _ _ h=>h));(case yq7=>(intro w g;go_simp;(try with_reducible rfl))))
 (refine wpAnyH_take (i:=15) (oi:=_) (v:=?vq8) (by simp only [List.getElem?_toArray,je,List.getElem?_cons_zero];rfl) (by kernel_rfl) (by kernel_rfl) (by kernel_rfl) ?hq8 (Or.inl ⟨by rfl,?yq8⟩) trivial ?rq8;(case hq8=>exact (λ_ _ _ h=>h));(case yq8=>(intro w g;go_simp;(try with_reducible rfl))))
 simp only [Act.put,List.setIfInBounds_toArray]
 refine wpAnyH_ready (rs:=[0]) (by kernel_rfl) (by simp) ?_
 refine AllReadyH.cons (o:=_) rfl (λK hK=>?_) AllReadyH.nil
 go_simp
 refine hK.out _ _ trivial (λhHeld=>?_)
 clear hK K hHeld;have C:Below w.heap.size w (w.alloc (.cells #[qzI kd,qzI q] 192)):=bR.alloc nL _
 have z:Si (((w.alloc (.cells #[qzI kd,qzI q] 192)).alloc (.map #[] 0)).drew) (w.heap.size+1) 0 (λk=>(0:Nat).testBit k):=by
  obtain ⟨D,U,V⟩:=wZ (w.alloc (.cells #[qzI kd,qzI q] 192))
  refine ⟨D,by simpa using U.drew,λa c ha hc'=>?_⟩
  obtain ⟨e1,e2⟩:=V a c ha hc'
  refine ⟨?_,λk hk hd=>by simp at hd⟩
  rw [e1]
  cases Do a c <;> simp
 refine Aeq (l':=(Ky 0).toArray) (f':=8+2) (by kernel_rfl) (by kernel_rfl) ?_
 refine Adl (X:=w.heap.size+1) (G:=λu=>Below (w.heap.size+1) (w.alloc (.cells #[qzI kd,qzI q] 192)) u) (Abb (by kernel_rfl)) ?hop ?hG ?hend 8 0 _ 0 (by decide) (by decide) (by decide) z ?hg0
 case hop =>
  intro k hk
  rcases (show k=0\/k=1\/k=2\/k=3\/k=4\/k=5\/k=6\/k=7 by omega) with rfl|rfl|rfl|rfl|rfl|rfl|rfl|rfl <;> exact ⟨_,_,_,_,rfl,rfl,rfl,rfl,rfl,rfl,rfl⟩
 case hG =>
  intro u L hb H
  exact hb.grown H (by have:=hb.size;simp at this;omega) (λj Z=>by cases Z;exact nL)
 case hg0=>exact ((Below.refl (w.heap.size+1) (w.alloc (.cells #[qzI kd,qzI q] 192))).alloc (by simp) _).drew
 case hend =>
  intro u n d hb
  obtain ⟨v,I,T⟩:=d.look (λk N=>by rcases (show k=0\/k=1\/k=2\/k=3\/k=4\/k=5\/k=6\/k=7 by omega) with rfl|rfl|rfl|rfl|rfl|rfl|rfl|rfl <;> rfl) hk F
  have HV:=Aa T
  have HB:=Aa (C.t (hb.m (by simp)))
  have c0:u.cell? ⟨w.heap.size,0,none⟩=some (qzI kd):=(hb.cell (p:=⟨w.heap.size,0,none⟩) (by simp)).t (by simp [go_sem])
  have c1:u.cell? ⟨w.heap.size,1,none⟩=some (qzI q):=(hb.cell (p:=⟨w.heap.size,1,none⟩) (by simp)).t (by simp [go_sem])
  obtain ⟨S,W⟩:=Ae ((Do kd q).isSome);rw [W] at I;have HS:=Aa W;clear T d hb z C a5 W hHeld
  refine wpAnyH_ready (rs:=[17]) (by kernel_rfl) (by simp) ?_
  refine AllReadyH.cons (o:=_) rfl (λK hK=>?_) AllReadyH.nil
  go_simp
  refine hK.out _ _ trivial (λhHeld=>?_)
  clear hK K hHeld
  refine wpAnyH_ready (rs:=[18]) (by kernel_rfl) (by simp) ?_
  refine AllReadyH.cons (o:=_) rfl (λK hK=>?_) AllReadyH.nil
  go_simp
  refine hK.out _ _ trivial (λhHeld=>?_)
  clear hK K hHeld
  refine wpAnyH_done (by kernel_rfl) ?_ _
  go_wp2;go_ret2
  exact ⟨v,by rw [HS.o];rfl,HV.o,HB.o⟩
end Go.Proofs.YtfpafnefpmmofaaGreatDoor
