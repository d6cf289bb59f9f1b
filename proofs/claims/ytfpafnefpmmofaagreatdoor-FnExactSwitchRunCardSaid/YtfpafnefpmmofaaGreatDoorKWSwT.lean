import Derived.Test.YtfpafnefpmmofaaGreatDoorKWSwM2
namespace Go.Proofs.YtfpafnefpmmofaaGreatDoor
open Go.RowKit Go.Proofs.Tryz
set_option maxRecDepth 100000
set_option maxHeartbeats 12800000
theorem Aax {n:Int} (h0:-9223372036854775808<=n) (h1:n<=9223372036854775807):aD n:=by
 unfold aD Lit.wf;simp [IntKind.min,IntKind.max,IntKind.signed,IntKind.bits];omega
theorem wW {kd:Int} {fs:List Av} : aD (D7 kd fs):=by
 unfold D7
 split
 ·exact Aax (by omega) (by omega)
 ·have:=@J4 (Cb fs 24);unfold Kd;exact Aax (by omega) (by omega)
theorem Oj {n:Int} (h0:-1<=n) (h1:n<1000000000000000000):(Lib.itoa n).length<=1048576:=by
 have:=Lib.itoa_length_le n (by omega) (by omega);omega
theorem iZ {k:Nat} {fs tg:List Av} (hd:Gs fs<=1048576) (ht:∀ f ∈ tg,f.2.length<=1000):∃ a b c d f,(Cy k fs tg).1=[a,b,c,d,f]/\a.length<=1048576/\b.length<=1048576/\c.length<=1048576/\d.length<=1048576/\f.length<=1048576:=by
 have s:=λn=>Oj (@J4 (Cb fs n)).1 (@J4 (Cb fs n)).2
 have L:=λn=>Oj (@J4 (Lib.trimLeftB (Cb fs n) 48)).1 (@J4 (Lib.trimLeftB (Cb fs n) 48)).2
 have r:=Oj (@J4 (Jt tg 1)).1 (@J4 (Jt tg 1)).2;have hD:(Cb fs 37).length<=1048576:=Is hd
 have hW:(qZ tg).length<=1048576:=by
  unfold qZ;split
  ·have:=U9 (n:=2) ht;omega
  ·simp
 unfold Cy
 split
 ·exact ⟨_,_,_,_,_,rfl,by decide,hD,L 2,s 49,s 4⟩
 ·exact ⟨_,_,_,_,_,rfl,by decide,L 2,L 93,s 49,s 4⟩
 ·exact ⟨_,_,_,_,_,rfl,by decide,r,by decide,s 4,by decide⟩
 ·exact ⟨_,_,_,_,_,rfl,by decide,r,by decide,s 4,s 25⟩
 ·exact ⟨_,_,_,_,_,rfl,by decide,r,by decide,s 4,by decide⟩
 ·exact ⟨_,_,_,_,_,rfl,by decide,r,by decide,by decide,by decide⟩
 ·exact ⟨_,_,_,_,_,rfl,by decide,r,by decide,by decide,by decide⟩
 ·exact ⟨_,_,_,_,_,rfl,by decide,r,hW,s 4,by decide⟩
theorem jT {V:ql} {kd:Int} {ao:qm} {cap:Nat} {fs:List Av} {p:qm} {tc:Nat} {tg:List Av} (E:fJ V ao fs p tg) {k:Nat} (hk:k<8) {a b c d f:qn} (ho:(Cy k fs tg).1=[a,b,c,d,f]) (u:ql) (R:Me V kd ao cap fs p tc tg false false u) :
  Calls prog (swF k) #[.pointer (some ⟨V.heap.size,0,none⟩)] u (Yp V kd ao cap fs p tc tg (Cy k fs tg).2.1 (Cy k fs tg).2.2 a b c d f):=by
 rcases (show k=0\/k=1\/k=2\/k=3\/k=4\/k=5\/k=6\/k=7 by omega) with rfl|rfl|rfl|rfl|rfl|rfl|rfl|rfl
 all_goals
  obtain ⟨rfl,rfl,rfl,rfl,rfl⟩:_=a/\_=b/\_=c/\_=d/\_=f:=by simpa only [Cy,List.cons.injEq,and_true] using ho
 ·exact (lB E u R).m λe u' h=>h.flags (by simp [Cy]) (by simp [Cy])
 ·exact (xX E u R).m λe u' h=>h.flags (by simp [Cy]) (by simp [Cy])
 ·exact (bI E u R).m λe u' h=>h.flags (by simp [Cy]) (by simp [Cy])
 ·exact (cC E u R).m λe u' h=>h.flags (by simp [Cy]) (by simp [Cy])
 ·exact (cW E u R).m λe u' h=>h.flags (by simp [Cy]) (by simp [Cy])
 ·exact (uN E u R).m λe u' h=>h.flags (by simp [Cy]) (by simp [Cy])
 ·exact (mL E u R).m λe u' h=>h.flags (by simp [Cy]) (by simp [Cy])
 ·exact (Y4 E u R).m λe u' h=>h.flags (by simp [Cy]) (by simp [Cy])
theorem oA {a b c d f:qn} (ha:a.length<=1048576) (hb:b.length<=1048576) (hc:c.length<=1048576) (hd:d.length<=1048576) (hf:f.length<=1048576):(F2 [a,b,c,d,f]).length<=140737488355328:=by
 unfold F2;rw [Lib.join_cons];simp [Lib.joinTail];omega
theorem Ae6 {u:ql} {g:Nat} {a b c d f:qn} (h:u.cell? (qzA g 0)=some (qd a)/\u.cell? (qzA g 1)=some (qd b)/\u.cell? (qzA g 2)=some (qd c)/\u.cell? (qzA g 3)=some (qd d)/\u.cell? (qzA g 4)=some (qd f)) :
  ∀ (j:Nat) x,([⟨a.toArray⟩,⟨b.toArray⟩,⟨c.toArray⟩,⟨d.toArray⟩,⟨f.toArray⟩]:List ByteArray)[j]?=some x->u.cell? (qzA g (0+j))=some (.string x):=by
 obtain ⟨h0,h1,h2,h3,h4⟩:=h;intro j x l;rw [qu]
 match j,l with
 | 0,l=>simp at l;subst l;exact h0
 | 1,l=>simp at l;subst l;exact h1
 | 2,l=>simp at l;subst l;exact h2
 | 3,l=>simp at l;subst l;exact h3
 | 4,l=>simp at l;subst l;exact h4
 | n+5,l=>simp at l
theorem U4 (kd:Int) (ao:qm) (cap:Nat) (fs:List Av) (w:ql) (hk:aD kd) (hz:Aw w ao fs) (hn:fs.length<=1048576) (hd:Gs fs<=1048576) (hT:Tg.Pow10 w)
  (hp : Lib.TabIs prog w "internal/strconv.uint64pow10" .u64 Lib.pow10Tab) (hw : ∀ k, k < 10 -> w.cell? ⟨3, k, none⟩ = some (qd (xH k))) :
  qi 105 #[.agg #[qzI kd,qf ao fs.length cap]] w λe w'=>e=.returned (.tuple #[qd (Dm kd fs).1,qzI (Dm kd fs).2])/\BW w w':=by
 have y:Below w.heap.size w (w.alloc (.cells #[qzI kd,qf ao fs.length cap] 68)):=bR.alloc nL _;have W:=Aa (cE kd ao cap fs _ (hz.below y) hn hd)
 have I:qj (∀ v,qi 127 #[.agg #[qzI kd,qzI (D7 kd fs)]] v λe w'=>∃ x,e=.returned (.tuple #[x,.bool (Do kd (D7 kd fs)).isSome])/\(∀ k,Do kd (D7 kd fs)=some k->x=.func (.func (swF k)) #[] #[])/\BW v w'):=λv=>gE kd _ v hk wW
 have T:=Aa λv (b:BW w v)=>W7 kd ao cap fs v (hz.below b) hn hd
 have a7:=Aa λv (b:BW w v)=>vR kd ao cap fs v (hz.below b) hn hd (hT.below b) (Lib.tabBelow_of_tabIs hp _ b) λk hk=>by rw [b.c 3 k (qs w _ (hw k hk))];exact hw k hk
 have HD:=Aa hd
 have i:qj (Dm kd fs=match Do kd (D7 kd fs) with
  | none=>([],1)
  | some k=>if Cx kd fs=true then (if (Cy k fs (Cq fs)).2.1=true then ([],2) else if (Cy k fs (Cq fs)).2.2=true then ([],3) else (F2 (Cy k fs (Cq fs)).1,0)) else ([],1)):=rfl
 obtain ⟨A,L⟩:=Ae (Dm kd fs);rw [L] at i ⊢;obtain ⟨S,hS⟩:=Ae (Do kd (D7 kd fs));rw [hS] at i I
 have a6:=Aa λk (h:S=some k)=>(Gg (hS.t h)).1
 obtain ⟨C,r⟩:=Ae (D7 kd fs);rw [r] at W I;obtain ⟨M,hM⟩:=Ae (Cx kd fs);rw [hM] at T i;clear L hS r hM hk hz hn hd hT hp hw
 go_enter func105,ntmps105
 go_wp2_with fail
 refine W.o.m ?_;rintro e u1 ⟨rfl,b1⟩;obtain ⟨c0,c1,q1,-⟩:=Pr b1;have a5:=Aa q1;clear b1 q1 y;go_wp2_with fail
 refine (I.o u1).m ?_;rintro e u2 ⟨x,rfl,hx,b2⟩;obtain ⟨d0,d1⟩:=Xh c0 c1 b2;have z:=Aa (next a5.o b2);have HX:=Aa hx;clear c0 c1 b2 hx
 cases hs:S with
 | none =>
  have q:qj (A=([],1)):=by rw [qj,i.o,hs]
  rw [show (none:Option Nat).isSome=false from rfl]
  clear i HX hs;go_wp2;go_ret2
  exact ⟨by rw [q.o];rfl,z.o⟩
 | some k =>
  have Y:=a6.o k hs;have a9:=HX.o k hs;subst a9;rw [hs] at i
  rw [show (some k:Option Nat).isSome=true from rfl]
  clear HX hs;go_wp2_with fail
  refine (T.o u2 z.o).m ?_;rintro e u3 ⟨rfl,b3⟩;obtain ⟨e0,e1⟩:=Xh d0 d1 b3;have B:=Aa (next z.o b3);clear d0 d1 b3
  cases M
  ·have q:qj (A=([],1)):=by rw [qj,i.o];rfl
   clear i;go_wp2;go_ret2
   exact ⟨by rw [q.o];rfl,B.o⟩
  ·have G:=i.o
   simp only [if_true] at G
   have q:=Aa G;clear i G;go_wp2_with fail
   refine (a7.o u3 B.o).m ?_;rintro e u4 ⟨V,p,tc,rfl,hE,hR,hB⟩;obtain ⟨a,b,c,d,f,ho,la,lb,lc,ld,lf⟩:=iZ (k:=k) (fs:=fs) (tg:=Cq fs) HD.o hE.he;have HJ:=Aa (oA la lb lc ld lf);have H:=Aa (jT hE Y ho u4 hR);rw [ho] at q;obtain ⟨nf,a3⟩:=Ae ((Cy k fs (Cq fs)).2.1);obtain ⟨nt,a4⟩:=Ae ((Cy k fs (Cq fs)).2.2);rw [a3,a4] at H q;have N:qj (BW w V):=next B.o hB;obtain ⟨F,hF⟩:=Ae (swF k);rw [hF] at H ⊢;clear la lb lc ld lf ho a3 a4 hE hR hB e0 e1
   have b0:F=159\/F=160\/F=161\/F=162\/F=163\/F=164\/F=165\/F=166:=by
    rw [<- hF]
    rcases (show k=0\/k=1\/k=2\/k=3\/k=4\/k=5\/k=6\/k=7 by omega) with rfl|rfl|rfl|rfl|rfl|rfl|rfl|rfl <;> simp [swF]
   clear hF Y
   rcases b0 with rfl|rfl|rfl|rfl|rfl|rfl|rfl|rfl
   all_goals
    go_wp2_with fail
    refine H.o.m ?_;rintro e u5 ⟨g,rfl,h5,X⟩;have a8:qj (Me V kd ao cap fs p tc (Cq fs) nf nt u5):=X;have Z:=qs u5 _ h5.1
    have O:qj (qi 131 #[qf (some (qzA g 0)) 5 5,.string ⟨#[32]⟩] u5 (qp (qd (F2 [a,b,c,d,f])) u5)):=strings_Join g 0 5 [⟨a.toArray⟩,⟨b.toArray⟩,⟨c.toArray⟩,⟨d.toArray⟩,⟨f.toArray⟩] ⟨#[32]⟩ u5 (Ae6 h5) Z (by simp) (by simp) HJ.o
    obtain ⟨J,hJ⟩:=Ae (F2 [a,b,c,d,f]);rw [hJ] at O q;clear h5 X Z hJ;go_wp2_with fail
    refine O.o.m ?_;rintro e u6 ⟨rfl,b6⟩;have U:=Aa (a8.o.below b6);clear b6;go_wp2_with fail
    refine (mG U.o).m ?_;rintro e u7 ⟨rfl,hu⟩;subst hu;have D:=Aa (N.o.t (U.o.hb.m N.o.size))
    cases nf
    ·cases nt
     ·go_wp2
      go_ret2
      exact ⟨by rw [q.o];rfl,D.o⟩
     ·go_wp2
      go_ret2
      exact ⟨by rw [q.o];rfl,D.o⟩
    ·go_wp2
     go_ret2
     exact ⟨by rw [q.o];rfl,D.o⟩
end Go.Proofs.YtfpafnefpmmofaaGreatDoor
