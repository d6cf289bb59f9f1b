import Derived.RangeFuncNested
import Derived.RangeFuncBound
import Derived.Shelf.RegionOpen
import Derived.OwnWalkIn
import Derived.LoopNIn
import Derived.LoopIn
import Derived.Test.YtfpafnefpmmofaaGreatDoorJW1b
set_option maxRecDepth 100000
set_option maxHeartbeats 12800000
namespace Go.Proofs.YtfpafnefpmmofaaGreatDoor
open Go.RowKit Go.Proofs.Tryz
theorem Ve (ao:qm) (c:Nat) (zs:List Int) (w:ql) (J:Bg w ao zs) (T:zs.length<=1099511627776) :
  qi 260 #[qf ao zs.length c] w (qr (.bool (Dy zs)) w):=by
 by_cases hbig:400<zs.length
 ·have r:=Aa (rH hbig)
  have R:(400:Int)<(zs.length:Int):=by omega
  clear hbig
  go_enter func260,ntmps260
  go_wp2;go_ret;exact ⟨Ab r.o.s,rfl⟩
 ·have R:¬ (400:Int)<(zs.length:Int):=by omega
  have O:zs.length<=400:=by omega
  clear hbig
  rcases J with rfl|⟨b,off,rfl,hb,a⟩
  ·go_enter func260,ntmps260
   go_wp2;refine wp_loop_rounds 1 ?_;rw [rounds_succ];go_wp2;go_ret;exact ⟨rfl,rfl⟩
  ·go_enter func260,ntmps260
   go_wp2
   go_loop [3,5,11] (λl _ i=>∃ (k:Nat) (p:Int),k<=zs.length/\i=qzI k/\l=qzI p/\Hh (-1) zs=Hh p (zs.drop k)) (λ_ _ i=>zs.length - (intOf i).toNat)
   case atStart=>exact ⟨0,-1,qw _,rfl,rfl,rfl⟩
   case round =>
    obtain ⟨k,p,hk,rfl,rfl,ht⟩:=hrel
    by_cases hlt:k<zs.length
    ·have e1:=a k hlt
     have hs:=gQ zs k p hlt;obtain ⟨x,g⟩:=Ae (zs.getD k 0);rw [g] at e1 hs;have z:=Aa (ht.t hs)
     have v:(k:Int)<(zs.length:Int):=by omega
     clear a g ht hs
     by_cases hp:p<x
     ·cases hd:Fh x
      ·have r:=Aa (Rp (by rw [z.o,decide_eq_false (λhh=>by rw [Rw hh.2.1 hh.2.2] at hd;cases hd)];rfl))
       go_wp2_with (go_at_call 215;refine (Ci _ _).m ?_;rintro e w' ⟨rfl,rfl⟩)
       go_ret;exact ⟨Ab r.o.s,rfl⟩
      ·have n:=G6 hd
       have D:qj (Hh (-1) zs=Hh x (zs.drop (k+1))):=by rw [qj,z.o,decide_eq_true ⟨hp,n.1,n.2⟩];rfl
       go_wp2_with (go_at_call 215;refine (Ci _ _).m ?_;rintro e w' ⟨rfl,rfl⟩)
       go_round
       case rel=>exact ⟨k+1,x,by omega,by go_num,rfl,D.o⟩
       case measure=>simp [intOf];omega
     ·have S:x<=p:=by omega
      have r:=Aa (Rp (by rw [z.o,decide_eq_false (λhh=>hp hh.1)];rfl))
      go_wp2_with fail
      go_ret;exact ⟨Ab r.o.s,rfl⟩
    ·have N:=Aa (qL O (by rw [ht,ji (by omega)];rfl))
     have v:¬ (k:Int)<(zs.length:Int):=by omega
     clear a ht;go_wp2;go_ret;exact ⟨Ab N.o.s,rfl⟩
def Rd (zs:List Int) (k:Nat):Int:=if k=0 then -1 else zs.getD (k - 1) 0
theorem Yb (ao:qm) (c:Nat) (zs:List Int) (w:ql) (J:Bg w ao zs) (T:zs.length<=1099511627776) :
  qi 150 #[qf ao zs.length c] w (qp (.bool (Dy zs)) w):=by
 rcases J with rfl|⟨b,off,rfl,hb,a⟩
 ·go_enter func150,ntmps150
  go_wp2;refine wp_loop_rounds 1 ?_;rw [rounds_succ];go_wp2;go_ret;exact ⟨rfl,bR⟩
 ·go_enter func150,ntmps150
  go_wp2
  go_loopw [3] (λi wr=>∃ (k:Nat),k<=zs.length/\i=qzI k/\Hh (-1) zs=Hh (Rd zs k) (zs.drop k)/\BW w wr) (λi _=>zs.length - (intOf i).toNat)
  case atStart=>exact ⟨0,qw _,rfl,rfl,bR⟩
  case round =>
   obtain ⟨k,hk,rfl,ht,q⟩:=hrel
   by_cases hlt:k<zs.length
   ·have e1:=(q.c b (off+k) hb).t (a k hlt)
    have hs:=gQ zs k (Rd zs k) hlt
    have f:Rd zs (k+1)=zs.getD k 0:=by simp [Rd]
    have v:(k:Int)<(zs.length:Int):=by omega
    by_cases hk0:k=0
    ·subst hk0
     obtain ⟨x,g⟩:∃ x,zs.getD 0 0=x:=⟨_,rfl⟩;rw [g] at e1 hs f;rw [Nat.add_zero] at e1;have z:qj (Hh (-1) zs=(decide ((-1:Int)<x/\0<=x/\x<=80000) && Hh x (zs.drop (0+1)))):=ht.t hs;have C:=Aa f;clear a g ht hs f
     cases hd:Fh x
     ·have r:qj (Dy zs=false):=Rp (by rw [z.o,decide_eq_false (λhh=>by rw [Rw hh.2.1 hh.2.2] at hd;cases hd)];rfl)
      go_wp2
      go_quiet (exact Calls.quiet_of_same (Br _ _))
      go_wp2;go_ret;exact ⟨Ab r.o.s,below_drewN q _⟩
     ·have n:=G6 hd
      have D:qj (Hh (-1) zs=Hh x (zs.drop (0+1))):=by rw [qj,z.o,decide_eq_true ⟨by omega,n.1,n.2⟩];rfl
      go_wp2
      go_quiet (exact Calls.quiet_of_same (Br _ _))
      go_wp2
      go_roundw
      case rel=>exact ⟨1,by omega,by go_num,by rw [C.o];exact D.o,below_drewN q _⟩
      case measure=>simp [intOf];omega
    ·obtain ⟨j,rfl⟩:∃ j,k=j+1:=⟨k - 1,by omega⟩
     have e2:=(q.c b (off+j) hb).t (a j (by omega))
     have H:Rd zs (j+1)=zs.getD j 0:=by simp [Rd]
     rw [H] at ht hs;obtain ⟨x,g⟩:=Ae (zs.getD (j+1) 0);obtain ⟨y,M⟩:=Ae (zs.getD j 0);rw [g] at e1 hs f;rw [M] at e2 ht hs;have z:=Aa (ht.t hs);have C:=Aa f;clear a g M ht hs f H
     cases hd:Fh x
     ·have r:=Aa (Rp (by rw [z.o,decide_eq_false (λhh=>by rw [Rw hh.2.1 hh.2.2] at hd;cases hd)];rfl))
      go_wp2
      go_quiet (exact Calls.quiet_of_same (Br _ _))
      go_wp2;go_ret;exact ⟨Ab r.o.s,below_drewN q _⟩
     ·have n:=G6 hd
      by_cases hp:y<x
      ·have D:qj (Hh (-1) zs=Hh x (zs.drop (j+1+1))):=by rw [qj,z.o,decide_eq_true ⟨hp,n.1,n.2⟩];rfl
       go_wp2
       go_quiet (exact Calls.quiet_of_same (Br _ _))
       go_wp2
       go_roundw
       case rel=>exact ⟨j+1+1,by omega,by go_num,by rw [C.o];exact D.o,below_drewN q _⟩
       case measure=>simp [intOf];omega
      ·have S:x<=y:=by omega
       have r:=Aa (Rp (by rw [z.o,decide_eq_false (λhh=>hp hh.1)];rfl))
       go_wp2
       go_quiet (exact Calls.quiet_of_same (Br _ _))
       go_wp2;go_ret;exact ⟨Ab r.o.s,below_drewN q _⟩
   ·have A:Hh (-1) zs=true:=by rw [ht,ji (by omega)];rfl
    have N:qj (Dy zs=decide ((zs.length:Int)<=400)):=by
     by_cases h4:zs.length<=400
     ·rw [qj,qL h4 A,decide_eq_true (by omega)]
     ·rw [qj,rH (by omega),decide_eq_false (by omega)]
    have v:¬ (k:Int)<(zs.length:Int):=by omega
    clear a ht A;go_wp2;go_ret;exact ⟨Ab N.o.s,q⟩
theorem Ahy {zs:List Int} {d:Int} (h:d ∈ zs):wk zs d=false:=by simp [wk,h]
theorem yD {zs:List Int} {d:Int} (h:d ∉ zs):wk zs d=decide ((d+5) % 7<5):=by simp [wk,h]
theorem Aha {zs:List Int} {d:Int} (h:∀ j,j<zs.length->zs.getD j 0≠d):d ∉ zs:=λhm=>by
 obtain ⟨k,hk,e⟩:=List.mem_iff_getElem.1 hm
 exact h k hk (by simp [hk,e])
theorem Tw (d:Int) (ao:qm) (c:Nat) (zs:List Int) (w:ql) (J:Bg w ao zs) (T:zs.length<=1099511627776) (hd:Fh d=true) :
  qi 236 #[qzI d,qf ao zs.length c] w (qr (.bool (wk zs d)) w):=by
 have I:=Vp hd;have V:=G6 hd
 rcases J with rfl|⟨b,off,rfl,hb,a⟩
 ·have B:qj (wk [] d=decide ((d+5) % 7<5)):=yD (by simp)
  go_enter func236,ntmps236
  go_wp2;refine wp_loop_rounds 1 ?_;rw [rounds_succ]
  go_wp2_with (go_at_call 267;refine (Qv _ _).m ?_;rintro e w' ⟨rfl,rfl⟩;rw [I])
  go_ret;exact ⟨Ab B.o.s,rfl⟩
 ·go_enter func236,ntmps236
  go_wp2
  go_loop [5] (λi=>∃ k:Nat,k<=zs.length/\i=qzI k/\∀ j,j<k->zs.getD j 0≠d) (λi=>zs.length - (intOf i).toNat)
  case atStart=>exact ⟨0,qw _,rfl,λj hj=>by omega⟩
  case round =>
   obtain ⟨k,hk,rfl,G⟩:=hrel;have r:=Aa G;clear G
   by_cases hlt:k<zs.length
   ·have e1:=a k hlt
    have u:zs.getD k 0 ∈ zs:=by simp [hlt]
    obtain ⟨x,g⟩:=Ae (zs.getD k 0);rw [g] at e1 u;have C:=Aa g
    have v:(k:Int)<(zs.length:Int):=by omega
    clear a g
    cases he:(x == d)
    ·have F:x≠d:=by simpa using he
     have U:qj (∀ j,j<k+1->zs.getD j 0≠d):=λj hj=>by
      rcases (show j<k\/j=k from by omega) with h|rfl
      ·exact r.o j h
      ·rw [C.o];exact F
     clear u F;go_wp2
     go_round
     case rel=>exact ⟨k+1,by omega,by go_num,U.o⟩
     case measure=>simp [intOf];omega
    ·have L:x=d:=by simpa using he
     have B:=Aa (Ahy (L ▸ u));clear u L;go_wp2;go_ret;exact ⟨Ab B.o.s,rfl⟩
   ·have B:=Aa (yD (Aha (λj hj=>r.o j (by omega))))
    have v:¬ (k:Int)<(zs.length:Int):=by omega
    clear a
    go_wp2_with (go_at_call 267;refine (Qv _ _).m ?_;rintro e w' ⟨rfl,rfl⟩;rw [I])
    go_ret;exact ⟨Ab B.o.s,rfl⟩
theorem gC (x:Int) (w:ql):qi 393 #[qzI x] w λe w'=>e=.returned (.bool false)/\w'=w:=by
 have h:(x != x)=false:=by simp
 go_enter func393,ntmps393
 go_wp2;go_ret
 exact ⟨Ab (by simp),rfl⟩
theorem Ac3 (x:Int) (w:ql):qi 370 #[qzI x] w λe w'=>e=.returned (.bool false)/\w'=w:=by
 go_enter func370,ntmps370
 go_wp2;go_ret
 exact ⟨Ab (by simp),rfl⟩
theorem iE (x y:Int) (w:ql):qi 392 #[qzI x,qzI y] w λe w'=>e=.returned (.bool (decide (x<y)))/\w'=w:=by
 go_enter func392,ntmps392
 go_wp2_with (go_at_call 370;refine (Ac3 _ _).m ?_;rintro e w' ⟨rfl,rfl⟩)
 go_ret;exact ⟨rfl,rfl⟩
theorem jZ (t:Int) (b off c:Nat) (zs:List Int) (w:ql) (a:∀ i,i<zs.length->w.cell? (qzA b (off+i))=some (qzI (zs.getD i 0))) (F:zs.length<=400) (z:Hh (-1) zs=true) :
  qi 391 #[qf (some (qzA b off)) zs.length c,qzI t] w λe w'=>(∃ i:Int,e=.returned (.tuple #[qzI i,.bool (decide (t ∈ zs))]))/\w'=w:=by
 have A:qj _:=z;clear z
 go_enter func391,ntmps391
 go_wp2
 go_loop [7,8,9] (λi j _=>∃ (m n:Nat),m<=n/\n<=zs.length/\i=qzI m/\j=qzI n/\(∀ k,k<m->zs.getD k 0<t)/\(∀ k,n<=k->k<zs.length->t<=zs.getD k 0)) (λi j _=>(intOf j - intOf i).toNat)
 case atStart=>exact ⟨0,zs.length,qw _,nL,rfl,rfl,λk hk=>by omega,λk F h2=>by omega⟩
 case round =>
  obtain ⟨m,n,L,hn,rfl,rfl,q,p⟩:=hrel;have H:qj _:=q;have G:qj _:=p;clear q p
  by_cases hlt:m<n
  ·have I:(m:Int)<(n:Int):=by omega
   have e1:=a ((m+n) / 2) (by omega)
   obtain ⟨x,f⟩:=Ae (zs.getD ((m+n) / 2) 0);rw [f] at e1;have g:qj _:=f;clear f a
   by_cases hxt:x<t
   ·have D:qj (∀ k,k<(m+n) / 2+1->zs.getD k 0<t):=λk hk=>by
      rcases (show k<(m+n) / 2\/k=(m+n) / 2 from by omega) with h|h
      ·have:=lR zs _ A.o k ((m+n) / 2) h (by omega)
       rw [g.o] at this;omega
      ·rw [h,g.o];exact hxt
    go_wp2_with (go_at_call 392;refine (iE _ _ _).m ?_;rintro e w' ⟨rfl,rfl⟩)
    go_round
    case rel=>exact ⟨(m+n) / 2+1,n,by omega,hn,by go_num,rfl,D.o,G.o⟩
    case measure=>simp [intOf];omega
   ·have v:t<=x:=by omega
    have C:qj (∀ k,(m+n) / 2<=k->k<zs.length->t<=zs.getD k 0):=λk hk hkl=>by
     rcases (show (m+n) / 2<k\/k=(m+n) / 2 from by omega) with h|h
     ·have:=lR zs _ A.o ((m+n) / 2) k h hkl
      rw [g.o] at this;omega
     ·rw [h,g.o];exact v
    go_wp2_with (go_at_call 392;refine (iE _ _ _).m ?_;rintro e w' ⟨rfl,rfl⟩)
    go_round
    case rel=>exact ⟨m,(m+n) / 2,by omega,by omega,rfl,by go_num,H.o,C.o⟩
    case measure=>simp [intOf];omega
  ·have u:m=n:=by omega
   subst u;have B:qj _:=oU A.o H.o G.o
   by_cases hml:m<zs.length
   ·have r:(m:Int)<(zs.length:Int):=by omega
    have e1:=a m hml;obtain ⟨x,f⟩:=Ae (zs.getD m 0);rw [f] at e1;have g:qj _:=f;clear f a
    cases he:(x == t)
    ·have l:=Aa (decide_eq_false (λhm=>by
       have:=(B.o.1 hm).2
       rw [g.o] at this;subst this;simp at he))
     go_wp2_with (go_at_call 393;refine (gC _ _).m ?_;rintro e w' ⟨rfl,rfl⟩)
     go_ret2;exact ⟨⟨m,K7 rfl l.o.s⟩,rfl⟩
    ·have l:=Aa (decide_eq_true (B.o.2 ⟨hml,by rw [g.o];simpa using he⟩))
     go_wp2_with (go_at_call 393;refine (gC _ _).m ?_;rintro e w' ⟨rfl,rfl⟩)
     go_ret2;exact ⟨⟨m,K7 rfl l.o.s⟩,rfl⟩
   ·have r:¬ (m:Int)<(zs.length:Int):=by omega
    have l:=Aa (decide_eq_false (λhm=>hml (B.o.1 hm).1))
    clear a;go_wp2_with fail
    go_ret2;exact ⟨⟨m,K7 rfl l.o.s⟩,rfl⟩
theorem nD (t:Int) (ao:qm) (c:Nat) (w:ql) :
  qi 391 #[qf ao 0 c,qzI t] w λe w'=>(∃ i:Int,e=.returned (.tuple #[qzI i,.bool false]))/\w'=w:=by
 go_enter func391,ntmps391
 go_wp2;refine wp_loop_rounds 1 ?_;rw [rounds_succ];go_wp2;go_ret2;exact ⟨⟨0,K7 rfl rfl⟩,rfl⟩
theorem qN (d:Int) (ao:qm) (c:Nat) (zs:List Int) (w:ql) (N:Bg w ao zs) (F:zs.length<=400) (z:Hh (-1) zs=true) :
  qi 388 #[qf ao zs.length c,qzI d] w λe w'=>e=.returned (.bool (decide (d ∈ zs)))/\w'=w:=by
 rcases N with rfl|⟨b,off,rfl,hb,a⟩
 ·go_enter func388,ntmps388
  go_wp2_with fail
  refine (nD _ _ _ _).m ?_;rintro e w' ⟨⟨i,rfl⟩,hw⟩;subst hw;go_wp2;go_ret
  exact ⟨Ab (by simp),rfl⟩
 ·go_enter func388,ntmps388
  go_wp2_with fail
  refine (jZ _ _ _ _ zs _ a F z).m ?_;rintro e w' ⟨⟨i,rfl⟩,hw⟩;subst hw;go_wp2;go_ret;exact ⟨rfl,rfl⟩
theorem Ni (x:Int) (w:ql) (hd:Fh x=true) :
  qi 387 #[qzI x] w λe w'=>e=.returned (.bool (!decide ((x+5) % 7<5)))/\w'=w:=by
 have M:=Vp hd
 have J:qj (decide (4<(x+5) % 7) = !decide ((x+5) % 7<5)):=by
  by_cases h:(x+5) % 7<5
  ·rw [qj,decide_eq_true h,decide_eq_false (by omega)];rfl
  ·rw [qj,decide_eq_false h,decide_eq_true (by omega)];rfl
 clear hd
 go_enter func387,ntmps387
 go_wp2_with (go_at_call 390;refine (cX _ _).m ?_;rintro e w' ⟨rfl,rfl⟩;rw [M])
 go_ret;exact ⟨Ab J.o,rfl⟩
end Go.Proofs.YtfpafnefpmmofaaGreatDoor
namespace Go.Proofs.YtfpafnefpmmofaaGreatDoor
open Go.RowKit Go.Shelf Go.Proofs.Tryz
def Lb (N:Nat) (w:ql) (ao:qm) (zs:List Int):Prop :=
 zs=[]\/∃ b off,ao=some (qzA b off)/\b<N/\∀ i,i<zs.length->w.cell? (qzA b (off+i))=some (qzI (zs.getD i 0))
theorem Lb.keep {N:Nat} {w w':ql} {ao:qm} {zs:List Int} (h:Lb N w ao zs) (hb:Below N w w'):Lb N w' ao zs:=by
 rcases h with h|⟨b,off,Z,h2,h3⟩
 ·exact .inl h
 ·exact .inr ⟨b,off,Z,h2,λi hi=>(hb.c b (off+i) h2).t (h3 i hi)⟩
theorem Lb.at {N:Nat} {w:ql} {ao:qm} {zs:List Int} (h:Lb N w ao zs) (R:N<=w.heap.size):Bg w ao zs:=by
 rcases h with h|⟨b,off,Z,h2,h3⟩
 ·exact .inl h
 ·exact .inr ⟨b,off,Z,by omega,h3⟩
theorem Bg.in {w:ql} {ao:qm} {zs:List Int} (h:Bg w ao zs):Lb w.heap.size w ao zs:=h
def fG (N q:Nat) (W F:ql):Prop:=Below N W F/\∀ v,W.cell? (qzA q 0)=some v->F.cell? (qzA q 0)=some v
theorem Abr {N q:Nat} {A B C:ql} (h:fG N q A B) (k:fG N q B C):fG N q A C:=⟨h.1.t k.1,λv hv=>k.2 v (h.2 v hv)⟩
theorem Agd {N q:Nat} {w:ql} (hn:N<=w.heap.size) (W:ql) (l:Nat) (o o':Obj) (hl:w.heap.size<=l) (h:W.heap[l]?=some o) (hc:o.isCells=false) (hw:o.isWalk=false):fG N q W (W.putObj l o') :=
 ⟨belowK_b hn W l o o' hl h hc hw,λ_ hv=>cell_kept hv (grownBy_putObj' W l o') (λr e=>by cases e;exact ⟨o,h,hc⟩)⟩
theorem I0 {k:IntKind} {a b:Int} (h:a=b):Value.int k a=Value.int k b:=by rw [h]
theorem Ah1 (zs:List Int) (y:Int):wk zs y=(decide ((y+5) % 7<5) && !decide (y ∈ zs)):=rfl
theorem tA (n:Nat) (hn:1<=n) (l H q N c:Nat) (ao:qm) (zs:List Int) (d:Int) (hd:Fh d=true) (ho:Dy zs=true) (J V:List Int->ql->Prop)
  (hY:∀ pre x W,J pre W->pre.length<(wd zs (80000 - d).toNat).length->YieldAt Fence.wide (n - 1) prog l #[qzI x] W λe F =>
   (e=.returned (.bool true)/\J (pre++[x]) F/\fG N q W F)\/(e=.returned (.bool false)/\V (pre++[x]) F))
  (W:ql) (R:N<=W.heap.size) (cd:W.cell? (qzA H 0)=some (qzI d)) (co:W.cell? (qzA q 0)=some (qf ao zs.length c)) (hz:Lb N W ao zs) (h0:J [] W) :
  CallsIn Fence.wide n prog 386 #[.func (.yield l) #[] #[],qh H,qh q] W λe F=>(∃ v,e=.returned v) /\
   ((∃ ys,ys=wd zs (80000 - d).toNat/\J ys F)\/(∃ pre,pre <+: wd zs (80000 - d).toNat/\V pre F)):=by
 have hb:=G6 hd;have HL:=Aa (Ad0 ho);have HA:=Aa (Aez ho);clear hd ho;refine callsIn_of_wp func386 rfl trivial ?_ rfl
 simp only [ntmps386,List.size_toArray,qx,qy,Nat.reduceAdd,Nat.reduceSub,Array.replicate_succ,Array.replicate_zero,List.push_toArray,List.append_toArray,List.nil_append,List.cons_append]
 gi_wp2
 gi_loopw [4] (λp wr=>∃ (f:Nat) (pre:List Int),f<=80000/\p=qzI (80001 - f)/\pre++wd zs f=wd zs (80000 - d).toNat/\J pre wr/\fG N q W wr) (λp _=>(80001 - intOf p).toNat)
 case atStart=>exact ⟨(80000 - d).toNat,[],by omega,I0 (by omega),rfl,h0,bR,λ_ h=>h⟩
 case round =>
  obtain ⟨f,pre,hf,rfl,hx,G,hk⟩:=hrel;have U:=Aa hx;clear hx;obtain ⟨y,hy⟩:∃ y:Int,80001 - (f:Int)=y:=⟨_,rfl⟩;rw [hy];have HY:=Aa hy
  by_cases hyl:y<=80000
  ·obtain ⟨g,rfl⟩:∃ g,f=g+1:=⟨f - 1,by omega⟩
   have T:80000 - (g:Int)=y:=by omega
   have L:=Rw (by omega) hyl
   have D:=Aa T
   have b0:0<=y:=by omega
   clear hy T;have S:=Ah1 zs y;have Y:=Aa S;clear S;have a8:=hk.2 _ co;have HZ:=Aa ((hz.keep hk.1).at (jk R hk.1.size));have a9:=hn
   by_cases h5:(y+5) % 7<5
   ·have j:=decide_eq_true h5
    by_cases hin:y ∈ zs
    ·have z:=decide_eq_true hin
     have M:qj (wk zs y=false):=by rw [qj,Y.o,j,z];rfl
     clear h5 hin
     gi_wp2_with fail
     refine ⟨trivial,(callsIn_wide.2 (Ni _ _ L)).mono ?_⟩;rintro e X ⟨rfl,u⟩;subst u;rw [j]
     gi_wp2_with fail
     refine ⟨trivial,(callsIn_wide.2 (qN _ _ _ zs _ HZ.o HL.o HA.o)).mono ?_⟩;rintro e X ⟨rfl,u⟩;subst u;rw [z]
     gi_wp2
     go_roundw
     case rel=>exact ⟨g,pre,by omega,I0 (by have:=D.o;omega),by rw [<- U.o,zL (by rw [D.o];exact M.o)],G,hk⟩
     case measure=>simp [intOf];have:=D.o;omega
    ·have z:=decide_eq_false hin
     have M:qj (wk zs y=true):=by rw [qj,Y.o,j,z];rfl
     have I:qj (wd zs (80000 - d).toNat=(pre++[y])++wd zs g):=by rw [qj,<- U.o,Acq (by rw [D.o];exact M.o),D.o];simp
     clear h5 hin
     obtain ⟨fn,tmps,assign,body,b1,hR⟩:=hY pre y wr G (by rw [I.o];simp)
     gi_wp2_with fail
     refine ⟨trivial,(callsIn_wide.2 (Ni _ _ L)).mono ?_⟩;rintro e X ⟨rfl,u⟩;subst u;rw [j]
     gi_wp2_with fail
     refine ⟨trivial,(callsIn_wide.2 (qN _ _ _ zs _ HZ.o HL.o HA.o)).mono ?_⟩;rintro e X ⟨rfl,u⟩;subst u;rw [z]
     gi_wp2
     refine hR.mono ?_
     rintro e W3 (⟨rfl,a5,a7⟩|⟨rfl,O⟩)
     ·gi_wp2
      go_roundw
      case rel=>exact ⟨g,pre++[y],by omega,I0 (by have:=D.o;omega),I.o.s,a5,Abr hk a7⟩
      case measure=>simp [intOf];have:=D.o;omega
     ·gi_wp2
      refine bodyPost_ret (results_none rfl _ _ _) rfl ?_;exact ⟨⟨_,rfl⟩,.inr ⟨pre++[y],⟨wd zs g,I.o.s⟩,O⟩⟩
   ·have j:=decide_eq_false h5
    have M:qj (wk zs y=false):=by rw [qj,Y.o,j];rfl
    clear h5
    gi_wp2_with fail
    refine ⟨trivial,(callsIn_wide.2 (Ni _ _ L)).mono ?_⟩;rintro e X ⟨rfl,u⟩;subst u;rw [j]
    gi_wp2
    refine ⟨trivial,?_⟩
    gi_wp2
    go_roundw
    case rel=>exact ⟨g,pre,by omega,I0 (by have:=D.o;omega),by rw [<- U.o,zL (by rw [D.o];exact M.o)],G,hk⟩
    case measure=>simp [intOf];have:=D.o;omega
  ·have a6:f=0:=by omega
   subst a6;clear hy
   gi_wp2
   go_end0
   exact ⟨⟨_,rfl⟩,.inl (by rw [<- U.o];simpa [wd] using G)⟩
theorem eC (n:Nat) (hn:1<=n) (H q N c:Nat) (ao:qm) (zs:List Int) (d:Int) (w:ql) (hd:Fh d=true) (ho:Dy zs=true) (a3:H<w.heap.size) (a4:q<w.heap.size) (R:N<=w.heap.size)
  (cd:w.cell? (qzA H 0)=some (qzI d)) (co:w.cell? (qzA q 0)=some (qf ao zs.length c)) (hz:Lb N w ao zs) :
  SeqStopsK Fence.wide n prog 386 #[qh H,qh q] (λx:Int=>#[Value.int .i64 x]) (fG N q)
   (λys=>ys=wd zs (80000 - d).toNat) (λpre=>pre <+: wd zs (80000 - d).toNat) (wd zs (80000 - d).toNat).length w:=λl J V W hW _ _ hY h0 =>
 tA n hn l H q N c ao zs d hd ho J V hY W (jk R hW.size) ((hW.c H 0 a3).t cd) ((hW.c q 0 a4).t co) (hz.keep (hW.mono R)) h0
theorem X7 (ao:qm) (m c:Nat) (d:Int) (w:ql) :
  qi 380 #[qf ao m c,qzI d] w λe w' =>
   e=.returned (.func (.func 386) #[] #[.pointer (some ⟨w.heap.size+1,0,none⟩),.pointer (some ⟨w.heap.size,0,none⟩)]) /\
   w'=(w.alloc (.cells #[qf ao m c] 318)).alloc (.cells #[qzI d] 3):=by
 go_enter func380,ntmps380
 go_wp2;go_ret;exact ⟨rfl,rfl⟩
theorem Va {d n:Int} {zs:List Int} (h:Fh d=false\/n<0\/400<n\/Dy zs=false):Pq d n zs=none:=by
 unfold Pq;rw [if_neg];rintro ⟨a,b,c,e⟩
 rcases h with h|h|h|h
 ·rw [a] at h;cases h
 ·omega
 ·omega
 ·rw [e] at h;cases h
theorem gU {d n:Int} {zs:List Int} (a:Fh d=true) (b:0<=n) (c:n<=400) (e:Dy zs=true):Pq d n zs=U7 zs (80000 - d).toNat n.toNat:=by
 unfold Pq;rw [if_pos ⟨a,b,c,e⟩]
theorem aZ (w:ql) (x:Int) (y:Bool):((w.alloc (.cells #[qzI x] 3)).alloc (.cells #[.bool y] 4)).cell? ⟨w.heap.size,0,none⟩=some (qzI x) /\
  ((w.alloc (.cells #[qzI x] 3)).alloc (.cells #[.bool y] 4)).cell? ⟨w.heap.size+1,0,none⟩=some (.bool y):=by
 refine ⟨?_,?_⟩
 ·rw [jg _ _ _ (by simp)];simp
 ·rw [<- World.size_alloc w (.cells #[qzI x] 3)];simp
theorem L0 (w:ql) (o o':Obj):Below w.heap.size w ((w.alloc o).alloc o'):=((Below.refl _ w).alloc nL _).alloc (by simp) _
theorem Ad5 (d n:Int) (ao:qm) (c:Nat) (zs:List Int) (w:ql) (q:Bg w ao zs) (G:zs.length<=1099511627776) (h:Fh d=false\/n<0\/400<n\/Dy zs=false) :
  qi 366 #[qzI d,qzI n,qf ao zs.length c] w λe w'=>e=.returned (.tuple #[qzI 0,.bool false])/\BW w w':=by
 have O:=Aa q;clear q;have tc:=aZ w 0 false;have L:qj _:=L0 w (.cells #[qzI 0] 3) (.cells #[.bool false] 4)
 cases hd:Fh d
 ·go_enter func366,ntmps366
  go_wp2_with fail
  refine (Ci _ _).m ?_;rintro e w' ⟨rfl,hw⟩;subst hw;go_wp2
  refine bodyPost_ret (v:=.tuple #[qzI 0,.bool false]) (by simp [results,f366,go_sem]) rfl ⟨rfl,L.o⟩
 ·by_cases hn0:n<0
  ·go_enter func366,ntmps366
   go_wp2_with fail
   refine (Ci _ _).m ?_;rintro e w' ⟨rfl,hw⟩;subst hw;go_wp2
   refine bodyPost_ret (v:=.tuple #[qzI 0,.bool false]) (by simp [results,f366,go_sem]) rfl ⟨rfl,L.o⟩
  ·by_cases hn4:400<n
   ·go_enter func366,ntmps366
    go_wp2_with fail
    refine (Ci _ _).m ?_;rintro e w' ⟨rfl,hw⟩;subst hw;go_wp2
    refine bodyPost_ret (v:=.tuple #[qzI 0,.bool false]) (by simp [results,f366,go_sem]) rfl ⟨rfl,L.o⟩
   ·have ho:Dy zs=false:=by
      rcases h with h|h|h|h
      ·rw [hd] at h;cases h
      ·omega
      ·omega
      ·exact h
    clear h
    go_enter func366,ntmps366
    go_wp2_with fail
    refine (Ci _ _).m ?_;rintro e w' ⟨rfl,hw⟩;subst hw;go_wp2_with fail
    refine (Ve _ _ zs _ (Bg.below O.o L.o) G).m ?_;rintro e w' ⟨rfl,hw⟩;subst hw;go_wp2
    refine bodyPost_ret (v:=.tuple #[qzI 0,.bool false]) (by simp [results,f366,go_sem]) rfl ⟨rfl,L.o⟩
theorem vZ (d:Int) (ao:qm) (c:Nat) (zs:List Int) (w:ql) (q:Bg w ao zs) (G:zs.length<=1099511627776) (hd:Fh d=true) (ho:Dy zs=true) :
  qi 366 #[qzI d,qzI 0,qf ao zs.length c] w λe w'=>e=.returned (.tuple #[qzI d,.bool true])/\BW w w':=by
 have O:=Aa q;clear q;have tc:=aZ w d true;have a3:qj _:=L0 w (.cells #[qzI 0] 3) (.cells #[.bool false] 4);have L:qj _:=L0 w (.cells #[qzI d] 3) (.cells #[.bool true] 4)
 go_enter func366,ntmps366
 go_wp2_with fail
 refine (Ci _ _).m ?_;rintro e w' ⟨rfl,hw⟩;subst hw;go_wp2_with fail
 refine (Ve _ _ zs _ (Bg.below O.o a3.o) G).m ?_;rintro e w' ⟨rfl,hw⟩;subst hw;go_wp2
 refine bodyPost_ret (v:=.tuple #[qzI d,.bool true]) (by simp [results,f366,go_sem]) rfl ⟨rfl,L.o⟩
def Cl (W:ql) (k:Nat) (v:Value):Prop:=W.cell? (qzA k 0)=some v/\W.frozen? (qzA k 0)=false
theorem Cl.kept {W W':ql} {row:Option Nat} {k:Nat} {v:Value} (h:Cl W k v) (I:W.grownBy W' row) (J:∀ r,row=some r->∃ o:Obj,W.heap[r]?=some o/\o.isCells=false):Cl W' k v :=
 ⟨cell_kept h.1 I J,(frozen_kept h.1 I J).trans h.2⟩
theorem Cl.new (W:ql) (v:Value) (t:TypeId):Cl (W.alloc (.cells #[v] t)) W.heap.size v:=by
 have h:=World.alloc_heap_new W (.cells #[v] t)
 constructor
 ·unfold World.cell?
  simp only [h]
  rfl
 ·unfold World.frozen?
  simp only [h]
  rfl
theorem Cl.alloc {W:ql} {k:Nat} {v:Value} (h:Cl W k v) (o:Obj):Cl (W.alloc o) k v:=h.kept (World.grownBy_alloc W o none) (λr e=>by cases e)
theorem Cl.other {W:ql} {k j:Nat} {v u:Value} (h:Cl W k v) (S:j≠k):Cl (W.setCell (qzA j 0) u) k v:=by
 refine ⟨?_,by rw [World.frozen?_setCell];exact h.2⟩
 rw [World.cell?_setCell_other W (qzA j 0) u (b:=(qzA k 0)) (λe=>by injection e with e1;exact S e1)];exact h.1
theorem Cl.same {W:ql} {k:Nat} {v u:Value} (h:Cl W k v):Cl (W.setCell (qzA k 0) u) k u :=
 ⟨World.cell?_setCell_same W (qzA k 0) u h.1,by rw [World.frozen?_setCell];exact h.2⟩
theorem Cl.put {W:ql} {k D:Nat} {v:Value} {o o':Obj} (h:Cl W k v) (hD:W.heap[D]?=some o) (ho:o.isCells=false):Cl (W.putObj D o') k v :=
 h.kept (grownBy_putObj' W D o') (λr e=>by cases e;exact ⟨_,hD,ho⟩)
theorem Pk {N j:Nat} {w W:ql} (h:Below N w W) (S:N<=j) (u:Value):Below N w (W.setCell (qzA j 0) u):=h.setCell (p:=(qzA j 0)) S u
theorem Abe {N Bo j:Nat} (W:ql) (u:Value) (hN:N<=j) (S:j≠Bo):fG N Bo W (W.setCell (qzA j 0) u) :=
 ⟨(Below.refl N W).setCell (p:=(qzA j 0)) hN _,λv V=>by
  rw [World.cell?_setCell_other W (qzA j 0) u (b:=(qzA Bo 0)) (λe=>by injection e with e1;exact S e1)];exact V⟩
theorem Abn {zs:List Int} {f m:Nat} (hm:1<=m) (h:(wd zs f).length<m):U7 zs f m=none:=by
 obtain ⟨k,rfl⟩:∃ k,m=k+1:=⟨m - 1,by omega⟩
 rw [U7];exact jl (by omega)
theorem Afj {zs:List Int} {f m:Nat} {pre:List Int} {x:Int} (hp:pre++[x] <+: wd zs f) (hm:(pre++[x]).length=m):U7 zs f m=some x:=by
 obtain ⟨t,ht⟩:=hp
 simp at hm
 subst hm
 rw [U7,<- ht];simp
theorem Ai0 (w:ql) (m:Nat) (ao:qm) (k c:Nat) (d:Int):∀ i,i=(((((w.alloc (.cells #[qzI 0] 3)).alloc (.cells #[.bool false] 4)).alloc (.cells #[qzI m] 3)).alloc (.cells #[qf ao k c] 318)).alloc (.cells #[qzI d] 3)) ->
  i.heap.size=w.heap.size+5/\BW w i/\Cl i w.heap.size (qzI 0)/\Cl i (w.heap.size+1) (.bool false)/\Cl i (w.heap.size+1+1) (qzI m)/\Cl i (w.heap.size+1+1+1) (qf ao k c)/\Cl i (w.heap.size+1+1+1+1) (qzI d):=by
 rintro _ rfl;have z1:=World.size_alloc w (.cells #[qzI 0] 3);have z2:=World.size_alloc (w.alloc (.cells #[qzI 0] 3)) (.cells #[.bool false] 4);have z3:=World.size_alloc ((w.alloc (.cells #[qzI 0] 3)).alloc (.cells #[.bool false] 4)) (.cells #[qzI m] 3);have z4:=World.size_alloc (((w.alloc (.cells #[qzI 0] 3)).alloc (.cells #[.bool false] 4)).alloc (.cells #[qzI m] 3)) (.cells #[qf ao k c] 318);have k1:=Cl.new w (qzI 0) 3;have Y:=Cl.new (w.alloc (.cells #[qzI 0] 3)) (.bool false) 4;have Z:=Cl.new ((w.alloc (.cells #[qzI 0] 3)).alloc (.cells #[.bool false] 4)) (qzI m) 3;have k4:=Cl.new (((w.alloc (.cells #[qzI 0] 3)).alloc (.cells #[.bool false] 4)).alloc (.cells #[qzI m] 3)) (qf ao k c) 318;have k5:=Cl.new ((((w.alloc (.cells #[qzI 0] 3)).alloc (.cells #[.bool false] 4)).alloc (.cells #[qzI m] 3)).alloc (.cells #[qf ao k c] 318)) (qzI d) 3;rw [z4,z3,z2,z1] at k5;rw [z3,z2,z1] at k4;rw [z2,z1] at Z;rw [z1] at Y;refine ⟨?_,?_,(((k1.alloc _).alloc _).alloc _).alloc _,((Y.alloc _).alloc _).alloc _,(Z.alloc _).alloc _,k4.alloc _,k5⟩
 ·rw [World.size_alloc,z4,z3,z2,z1]
 ·exact (((L0 w _ _).alloc (by rw [z2,z1];omega) _).alloc (by rw [z3,z2,z1];omega) _).alloc (by rw [z4,z3,z2,z1];omega) _
theorem sK (d:Int) (m:Nat) (ao:qm) (c:Nat) (zs:List Int) (w:ql) (q:Bg w ao zs) (G:zs.length<=1099511627776) (hd:Fh d=true) (ho:Dy zs=true) (a4:1<=m) (hm:m<=400) :
  CallsIn Fence.wide 6 prog 366 #[qzI d,qzI m,qf ao zs.length c] w λe w'=>e=.returned (.tuple #[qzI ((U7 zs (80000 - d).toNat m).getD 0),.bool (U7 zs (80000 - d).toNat m).isSome])/\BW w w':=by
 have O:=Aa q;clear q
 have b0:¬ (m:Int)<0:=by omega
 have b1:¬ (400:Int)<(m:Int):=by omega
 have b2:((m:Int) == 0)=false:=by simp;omega
 refine callsIn_of_wp_marks func366 rfl trivial ?_ rfl
 simp only [ntmps366,List.size_toArray,qx,qy,Nat.reduceAdd,Nat.reduceSub,Array.replicate_succ,Array.replicate_zero,List.push_toArray,List.append_toArray,List.nil_append,List.cons_append]
 gi_wp2_with fail
 refine ⟨trivial,(callsIn_wide.2 (Ci _ _)).m ?_⟩;rintro e w1 ⟨rfl,z⟩;subst z
 gi_wp2_with fail
 refine ⟨trivial,(callsIn_wide.2 (Ve _ _ zs _ (Bg.below O.o (L0 w _ _)) G)).m ?_⟩;rintro e w1 ⟨rfl,z⟩;subst z
 gi_wp2_with fail
 refine ⟨trivial,(callsIn_wide.2 (X7 _ _ _ _ _)).m ?_⟩;rintro e w1 ⟨rfl,z⟩;subst z
 gi_wp2_with fail
 obtain ⟨i,M⟩:=Ae ((((((w.alloc (.cells #[qzI 0] 3)).alloc (.cells #[.bool false] 4)).alloc (.cells #[qzI m] 3)).alloc (.cells #[qf ao zs.length c] 318)).alloc (.cells #[qzI d] 3)));obtain ⟨b4,R,k1,Y,Z,k4,k5⟩:=Ai0 w m ao zs.length c d i M.s;rw [M];clear M;have HZ:Lb w.heap.size i ao zs:=(Bg.in O.o).keep R
 refine wpIn_rangeFunc_ownF (α:=Int) rfl (by omega) (gf:=386) (lb:=#[.pointer (some ⟨w.heap.size+1+1+1+1,0,none⟩),.pointer (some ⟨w.heap.size+1+1+1,0,none⟩)]) rfl trivial (enters_of func386 (by kernel_rfl) rfl)
  (eC 5 (by omega) (w.heap.size+1+1+1+1) (w.heap.size+1+1+1) w.heap.size c ao zs d i hd ho (by omega) (by omega) (by omega) k5.1 k4.1 HZ) Abr (Agd (by omega)) bR (λ_=>rfl)
  (λpre W=>(pre.length<m/\Cl W (w.heap.size+1+1) (qzI ((m:Int) - pre.length))/\Cl W w.heap.size (qzI 0)/\Cl W (w.heap.size+1) (.bool false))/\BW w W)
  (λcd pre W=>(cd=.ret/\∃ (p:List Int) (x:Int),pre=p++[x]/\pre.length=m/\Cl W w.heap.size (qzI x)/\Cl W (w.heap.size+1) (.bool true))/\BW w W)
  (OwnFrom.and (Own.from (λs A B row hs I J=>⟨hs.1,hs.2.1.kept I J,hs.2.2.1.kept I J,hs.2.2.2.kept I J⟩) _) (ownFrom_below nL (by omega)))
  (λcd=>OwnFrom.and (Own.from (λs A B row hs I J=>by obtain ⟨e1,p,x,e2,e3,e4,e5⟩:=hs;exact ⟨e1,p,x,e2,e3,e4.kept I J,e5.kept I J⟩) _) (ownFrom_below nL (by omega)))
  ⟨⟨by simp;omega,by simpa using Z,k1,Y⟩,R⟩
  (λx=>{ tmps:=#[qzI d,qzI m,qf ao zs.length c,undef,undef,undef,.pointer (some ⟨w.heap.size,0,none⟩),.pointer (some ⟨w.heap.size+1,0,none⟩),qf ao zs.length c,.pointer (some ⟨w.heap.size+1+1,0,none⟩),qzI x,qf ao zs.length c,qzI d,.bool true,.bool false,.bool false,qzI m,.bool (decide ((m:Int)<0)),.bool (decide ((m:Int)<0)),.bool (decide ((m:Int)<0)),qzI m,.bool (decide ((400:Int)<(m:Int))),.bool (decide ((m:Int)<0) || decide ((400:Int)<(m:Int))),.bool (decide ((m:Int)<0) || decide ((400:Int)<(m:Int))),qf ao zs.length c,.bool true,.bool false,.bool (decide ((m:Int)<0) || decide ((400:Int)<(m:Int))),qzI m,.bool false,undef,qzI m,qf ao zs.length c,qzI d,.func (.func 386) #[] #[.pointer (some ⟨w.heap.size+1+1+1+1,0,none⟩),.pointer (some ⟨w.heap.size+1+1+1,0,none⟩)],qzI x,undef,undef,undef,undef,undef],defers:=[] }) ?assign ?body ?done ?stop
 case assign =>
  intro l x W K hK;have U:=Oper.semAt_some
  gi_wp2
  exact hK
 case body =>
  rintro l pre x W ⟨⟨g,X,C,F⟩,hB⟩ _;obtain ⟨v,V⟩:∃ v:Int,(m:Int) - pre.length=v:=⟨_,rfl⟩;rw [V] at X
  have b5:1<=v:=by omega
  have b6:v<=400:=by omega
  have HV:qj _:=V;have b8:=X.1;have b9:=X.2;have a5:=C.1;have a6:=C.2;have a7:=F.1;have a8:=F.2;clear V
  cases he:(v - 1 == 0)
  ·have b3:v≠1:=by intro h;subst h;simp at he
   have U:=Oper.semAt_some
   gi_wp2
   exact ⟨KeepsOthers.setCell _ _ _,Abe W _ (by omega) (by omega),⟨by have:=HV.o;simp;omega,by rw [show (m:Int) - (pre++[x]).length=v - 1 from by have:=HV.o;simp;omega];exact X.same,C.other (by omega),F.other (by omega)⟩,Pk hB (by omega) _⟩
  ·have a9:v - 1=0:=by simpa using he
   have b7:v=1:=by omega
   have U:=Oper.semAt_some
   gi_wp2
   refine ⟨((KeepsOthers.setCell _ _ _).trans (KeepsOthers.setCell _ _ _)).trans (KeepsOthers.setCell _ _ _),⟨rfl,pre,x,rfl,by have:=HV.o;simp;omega,((C.other (by omega)).same).other (by omega),((F.other (by omega)).other (by omega)).same⟩,?_⟩
   exact Pk (Pk (Pk hB (by omega) _) nL _) (by omega) _
 case done =>
  rintro D ys W hD rfl ⟨⟨g,X,C,F⟩,hB⟩ hK;have HN:qj _:=Abn a4 g;have a5:=C.1;have a6:=C.2;have a7:=F.1;have a8:=F.2
  gi_wp2
  have H:=(KeepsOthers.setCell (W.setCell ⟨w.heap.size,0,none⟩ (qzI 0)) ⟨w.heap.size+1,0,none⟩ (.bool false)).same D _ ((KeepsOthers.setCell W ⟨w.heap.size,0,none⟩ (qzI 0)).same D _ hK rfl) rfl
  refine ⟨by simp,.inl ⟨_,_,rfl,run_takeDeferred H,?_⟩⟩
  have qa:=(((C.same (u:=qzI 0)).other (j:=w.heap.size+1) (u:=.bool false) (by omega)).put (o':=.deferred none) H rfl).1
  have qb:=(((F.other (j:=w.heap.size) (u:=qzI 0) (by omega)).same (u:=.bool false)).put (o':=.deferred none) H rfl).1
  refine ⟨.tuple #[qzI 0,.bool false],?_,by rw [HN.o];rfl,(Pk (Pk hB nL _) (by omega) _).trans (belowK_b (w:=w) nL _ D _ _ (by omega) H rfl rfl)⟩
  simp [results,f366,go_sem,qa,qb]
 case stop =>
  rintro D cd pre W hD T ⟨⟨rfl,p,x,rfl,g,C,F⟩,hB⟩ hK;have HN:qj _:=Afj T g
  gi_wp2
  refine ⟨by simp,.inl ⟨_,_,rfl,run_takeDeferred hK,?_⟩⟩
  have qa:=(C.put (o':=.deferred none) hK rfl).1;have qb:=(F.put (o':=.deferred none) hK rfl).1
  refine ⟨.tuple #[qzI x,.bool true],?_,by rw [HN.o];rfl,hB.trans (belowK_b (w:=w) nL W D _ _ (by omega) hK rfl rfl)⟩
  simp [results,f366,go_sem,qa,qb]
theorem eL (d n:Int) (ao:qm) (c:Nat) (zs:List Int) (w:ql) (q:Bg w ao zs) (G:zs.length<=1099511627776) :
  qi 366 #[qzI d,qzI n,qf ao zs.length c] w λe w'=>e=.returned (.tuple #[qzI ((Pq d n zs).getD 0),.bool (Pq d n zs).isSome])/\BW w w':=by
 by_cases h:Fh d=false\/n<0\/400<n\/Dy zs=false
 ·rw [Va h];exact Ad5 d n ao c zs w q G h
 ·have hd:Fh d=true:=by cases e:Fh d;exact absurd (.inl e) h;rfl
  have ho:Dy zs=true:=by cases e:Dy zs;exact absurd (.inr (.inr (.inr e))) h;rfl
  obtain ⟨m,rfl⟩:=jj (show 0<=n by omega)
  rw [gU hd (by omega) (by omega) ho,show ((m:Int)).toNat=m from by omega]
  cases m with
  | zero =>
   have hb:=G6 hd
   rw [gL,show 80000 - (((80000 - d).toNat:Nat):Int)=d from by omega]
   exact vZ d ao c zs w q G hd ho
  | succ m=>exact callsIn_wide.1 (sK d (m+1) ao c zs w q G hd ho (by omega) (by omega))
end Go.Proofs.YtfpafnefpmmofaaGreatDoor
namespace Go.Proofs.YtfpafnefpmmofaaGreatDoor
open Go.RowKit Go.Proofs.Tryz
theorem gW (d n:Int) (ao:qm) (c:Nat) (zs:List Int) (w:ql) (z:Bg w ao zs) (r:zs.length<=1099511627776) :
  qi 200 #[qzI d,qzI n,qf ao zs.length c] w λe w'=>e=.returned (.tuple #[qzI ((Pq d n zs).getD 0),.bool (Pq d n zs).isSome])/\BW w w':=by
 have u:qj (Bg w ao zs):=z;clear z
 cases hd:Fh d
 ·have a:qj _:=Va (n:=n) (zs:=zs) (.inl hd)
  go_enter func200,ntmps200
  go_wp2_with fail
  refine (Br _ _).m ?_;rintro e w' ⟨rfl,hw⟩;subst hw;go_wp2;go_ret2
  exact ⟨K7 (by rw [a.o];rfl) (by rw [a.o];rfl),bR⟩
 ·cases hn:Gb n 0 400
  ·have a:qj (Pq d n zs=none):=by
     refine Va ?_
     by_cases h0:n<0
     ·exact .inr (.inl h0)
     ·by_cases h4:400<n
      ·exact .inr (.inr (.inl h4))
      ·rw [Vc (by omega) (by omega)] at hn;cases hn
   go_enter func200,ntmps200
   go_wp2_with fail
   refine (Br _ _).m ?_;rintro e w' ⟨rfl,hw⟩;subst hw;go_wp2_with fail
   refine (Cg _ _ _ _).m ?_;rintro e w' ⟨rfl,hw⟩;subst hw;go_wp2;go_ret2
   exact ⟨K7 (by rw [a.o];rfl) (by rw [a.o];rfl),bR⟩
  ·have j:0<=n/\n<=400:=by simpa [Gb] using hn
   cases ho:Dy zs
   ·have a:qj _:=Va (d:=d) (n:=n) (.inr (.inr (.inr ho)))
    go_enter func200,ntmps200
    go_wp2_with fail
    refine (Br _ _).m ?_;rintro e w' ⟨rfl,hw⟩;subst hw;go_wp2_with fail
    refine (Cg _ _ _ _).m ?_;rintro e w' ⟨rfl,hw⟩;subst hw;go_wp2_with fail
    refine (Yb _ _ zs _ u.o r).m ?_;rintro e A ⟨rfl,i⟩;go_wp2;go_ret2
    exact ⟨K7 (by rw [a.o];rfl) (by rw [a.o];rfl),i⟩
   ·have x:qj _:=gU hd j.1 j.2 ho
    have B:=G6 hd
    go_enter func200,ntmps200
    go_wp2_with fail
    refine (Br _ _).m ?_;rintro e w' ⟨rfl,hw⟩;subst hw;go_wp2_with fail
    refine (Cg _ _ _ _).m ?_;rintro e w' ⟨rfl,hw⟩;subst hw;go_wp2_with fail
    refine (Yb _ _ zs _ u.o r).m ?_;rintro e A ⟨rfl,i⟩;have h:qj (Bg A ao zs):=Bg.below u.o i;go_wp2
    go_loop [0,1] (λp q=>∃ (f m:Nat),f<=80000/\m<=400/\p=qzI (80000 - f)/\q=qzI m/\U7 zs f m=U7 zs (80000 - d).toNat n.toNat) (λp _=>(80000 - intOf p).toNat)
    case atStart=>exact ⟨(80000 - d).toNat,n.toNat,by omega,by omega,I0 (by omega),I0 (by omega),rfl⟩
    case round =>
     obtain ⟨f,m,H,hm,rfl,rfl,ht⟩:=hrel;have l:qj _:=ht;clear ht;obtain ⟨y,hy⟩:∃ y:Int,80000 - (f:Int)=y:=⟨_,rfl⟩;rw [hy]
     have D:0<=y:=by omega
     have F:y<=80000:=by omega
     have G:qj _:=hy
     cases m with
     | zero =>
      have g:qj (Pq d n zs=some y):=by rw [qj,x.o,<- l.o,gL,hy]
      clear hy;go_wp2;go_ret2
      exact ⟨K7 (by rw [g.o];rfl) (by rw [g.o];rfl),i⟩
     | succ m =>
      have C:(0:Int)<((m+1:Nat):Int):=by omega
      cases f with
      | zero =>
       have v:y=80000:=by omega
       have g:qj (Pq d n zs=none):=by rw [qj,x.o,<- l.o,Aep]
       have b:Fh (y+1)=false:=Aeb (by omega)
       clear hy;go_wp2_with fail
       refine (Br _ _).m ?_;rintro e w' ⟨rfl,hw⟩;subst hw;go_wp2;go_ret2
       exact ⟨K7 (by rw [g.o];rfl) (by rw [g.o];rfl),i⟩
      | succ f =>
       have k:qj (80000 - (f:Int)=y+1):=by rw [qj];omega
       have v:y<=79999:=by omega
       have b:Fh (y+1)=true:=Rw (by omega) (by omega)
       cases hw2:wk zs (y+1)
       ·have t:qj (U7 zs f (m+1)=U7 zs (80000 - d).toNat n.toNat):=by rw [qj,<- l.o,Ag3 (by rw [k.o];exact hw2)]
        clear hy;go_wp2_with fail
        refine (Br _ _).m ?_;rintro e w' ⟨rfl,hw⟩;subst hw;go_wp2_with fail
        refine (Tw _ _ _ zs _ h.o r b).m ?_;rintro e w' ⟨rfl,hw⟩;subst hw;go_wp2
        go_round
        case rel=>exact ⟨f,m+1,by omega,hm,I0 k.o.s,rfl,t.o⟩
        case measure=>simp [intOf];omega
       ·have t:qj (U7 zs f m=U7 zs (80000 - d).toNat n.toNat):=by rw [qj,<- l.o,Adz (by rw [k.o];exact hw2)]
        clear hy;go_wp2_with fail
        refine (Br _ _).m ?_;rintro e w' ⟨rfl,hw⟩;subst hw;go_wp2_with fail
        refine (Tw _ _ _ zs _ h.o r b).m ?_;rintro e w' ⟨rfl,hw⟩;subst hw;go_wp2
        go_round
        case rel=>exact ⟨f,m,by omega,by omega,I0 k.o.s,I0 (by omega),t.o⟩
        case measure=>simp [intOf];omega
def Dt (d n:Int) (zs:List Int):Int:=(Pq d n zs).getD (-1)
theorem qO {d n:Int} {zs:List Int} (h:Pq d n zs=none):Dt d n zs = -1:=by rw [Dt,h];rfl
theorem gI {d n y:Int} {zs:List Int} (h:Pq d n zs=some y):Dt d n zs=y:=by rw [Dt,h];rfl
theorem gF (d n:Int) (ao:qm) (c:Nat) (zs:List Int) (w:ql) (a:Bg w ao zs) (j:zs.length<=1099511627776) :
  qi 344 #[qzI d,qzI n,qf ao zs.length c] w (qp (qzI (Dt d n zs)) w):=by
 cases h:Pq d n zs with
 | none =>
  have f:=Aa (qO h)
  have b:qj (qi 366 #[qzI d,qzI n,qf ao zs.length c] w (qp (.tuple #[qzI 0,.bool false]) w)):=by
   have g:=eL d n ao c zs w a j;rw [h] at g;exact g
  clear a
  go_enter func344,ntmps344
  go_wp2_with fail
  refine Calls.m b.o ?_;rintro e k ⟨rfl,i⟩;go_wp2;go_ret;exact ⟨Af f.o.s,i⟩
 | some y =>
  have f:=Aa (gI h)
  have b:qj (qi 366 #[qzI d,qzI n,qf ao zs.length c] w (qp (.tuple #[qzI y,.bool true]) w)):=by
   have g:=eL d n ao c zs w a j;rw [h] at g;exact g
  clear a
  go_enter func344,ntmps344
  go_wp2_with fail
  refine Calls.m b.o ?_;rintro e k ⟨rfl,i⟩;go_wp2;go_ret;exact ⟨Af f.o.s,i⟩
theorem Mb (d n:Int) (ao:qm) (c:Nat) (zs:List Int) (w:ql) (a:Bg w ao zs) (j:zs.length<=1099511627776) :
  qi 153 #[qzI d,qzI n,qf ao zs.length c] w (qp (qzI (Dt d n zs)) w):=by
 cases h:Pq d n zs with
 | none =>
  have f:=Aa (qO h)
  have b:qj (qi 200 #[qzI d,qzI n,qf ao zs.length c] w (qp (.tuple #[qzI 0,.bool false]) w)):=by
   have g:=gW d n ao c zs w a j;rw [h] at g;exact g
  clear a
  go_enter func153,ntmps153
  go_wp2_with fail
  refine Calls.m b.o ?_;rintro e k ⟨rfl,i⟩;go_wp2;go_ret;exact ⟨Af f.o.s,i⟩
 | some y =>
  have f:=Aa (gI h)
  have b:qj (qi 200 #[qzI d,qzI n,qf ao zs.length c] w (qp (.tuple #[qzI y,.bool true]) w)):=by
   have g:=gW d n ao c zs w a j;rw [h] at g;exact g
  clear a
  go_enter func153,ntmps153
  go_wp2_with fail
  refine Calls.m b.o ?_;rintro e k ⟨rfl,i⟩;go_wp2;go_ret;exact ⟨Af f.o.s,i⟩
end Go.Proofs.YtfpafnefpmmofaaGreatDoor
namespace Go.Proofs.YtfpafnefpmmofaaGreatDoor
open Go.Proofs.Tryz
def Ck (c:Cs) (x:Int):List En:=if x=0 then [] else [(c.acq,c.iss,c.cur,x)]
def Ez (c:Cs) (x:Int):List En:=if x=0 then [] else [(c.iss,c.acq,c.cur,x)]
def Mr (c:Cs) (x:Int):Cs:=⟨c.iss,c.acq,c.cur,c.am,7,c.rsn,0,c.bk+x,c.fee,c.cop,c.sta,-1⟩
def Tu (c:Cs) (x:Int):Int:=if c.cl<=2*x then c.acq else c.iss
def Gp (c:Cs) (x:Int):Cs:=⟨c.iss,c.acq,c.cur,c.am,7,c.rsn,0,c.bk+x,c.fee+50000,c.cop,c.sta,-1⟩
def Fc (c:Cs) (x:Int):List En:=Ck c x++[(Tu c x,9999,c.cur,50000)]
def Oe (c:Cs):Cs:=⟨c.iss,c.acq,c.cur,c.am,2,c.rsn,c.cl,c.bk,c.fee,true,c.sta,-1⟩
def Fi (st k:Int):Bool :=
 if k=0 then decide (st=0) else if k=1 then decide (st=1) else if k=2 then decide (0<=st/\st<=2) else if k=3 then decide (st=3) else if k=4 then decide (st=4)
 else if k=5 then decide (st=5) else if k=6 then decide (st=5) else if k=7 then decide (st=6) else if k=8 then decide (st=1\/3<=st/\st<=6) else if k=9 then decide (st=0\/st=2) else false
theorem Ol {st k:Int} (h:Fi st k=true):(k=0/\st=0)\/(k=1/\st=1)\/(k=2/\(st=0\/st=1\/st=2))\/(k=3/\st=3)\/(k=4/\st=4)\/(k=5/\st=5)\/(k=6/\st=5)\/(k=7/\st=6)\/(k=8/\(st=1\/st=3\/st=4\/st=5\/st=6))\/(k=9/\(st=0\/st=2)):=by
 unfold Fi at h
 repeat' split at h
 all_goals simp at h
 all_goals omega
def Gk (c:Cs) (t:Int):Bool:=c.cop || (decide (c.st=1) && Cr t c.due)
def Ce (c:Cs) (a:Ac) (t:Int) (zs:List Int):Int :=
 if Ty a.rsn=false\/(Gf a.rsn=true/\Gk c t=false) then 3
 else if ¬ (1<=a.am/\a.am<=c.am)\/(a.am<c.am/\Iw a.rsn=false) then 2
 else if Cr t (Dt c.sta (Im a.rsn) zs)=true then 4 else 0
def Cj (c:Cs) (a:Ac) (t:Int) (zs:List Int):Int :=
 if a.kind=2 then Ce c a t zs
 else if a.kind=1\/a.kind=6 then (if Cr t c.due=true then 4 else 0)
 else if a.kind=3\/a.kind=4 then (if Cr t c.due=true then 4 else if 1<=a.am/\a.am<=c.cl then 0 else 2)
 else if a.kind=7 then (if 0<=a.am/\a.am<=c.cl then 0 else 2)
 else if a.kind=8 then (if Cr t c.due=true then 0 else 4) else 0
def De (c:Cs):Cs:=if c.st=1 then Oe c else if c.st=5 then Mr c c.cl else if c.st=6 then Gp c (c.cl / 2) else Mr c 0
def C6 (c:Cs):List En:=if c.st=1 then [] else if c.st=5 then Ck c c.cl else if c.st=6 then Fc c (c.cl / 2) else []
def Ca (c:Cs) (a:Ac) (t:Int) (zs:List Int):Cs :=
 if a.kind=0 then ⟨c.iss,c.acq,c.cur,c.am,1,c.rsn,c.cl,c.bk,c.fee,c.cop,c.sta,Dt t 20 zs⟩
 else if a.kind=1 then Oe c
 else if a.kind=2 then ⟨c.iss,c.acq,c.cur,c.am,3,a.rsn,a.am,a.am,c.fee,c.cop,c.sta,Dt t 30 zs⟩
 else if a.kind=3 then ⟨c.iss,c.acq,c.cur,c.am,4,c.rsn,a.am,c.bk - a.am,c.fee,c.cop,c.sta,Dt t 30 zs⟩
 else if a.kind=4 then ⟨c.iss,c.acq,c.cur,c.am,5,c.rsn,a.am,c.bk,c.fee,c.cop,c.sta,Dt t 15 zs⟩
 else if a.kind=5 then Mr c c.cl
 else if a.kind=6 then ⟨c.iss,c.acq,c.cur,c.am,6,c.rsn,c.cl,c.bk,c.fee,c.cop,c.sta,Dt t 60 zs⟩
 else if a.kind=7 then Gp c a.am
 else if a.kind=8 then De c
 else ⟨c.iss,c.acq,c.cur,c.am,7,c.rsn,c.cl,c.bk,c.fee,c.cop,c.sta,-1⟩
def Cc (c:Cs) (a:Ac):List En :=
 if a.kind=2 then Ck c a.am else if a.kind=3 then Ez c a.am else if a.kind=5 then Ck c c.cl else if a.kind=7 then Fc c a.am else if a.kind=8 then C6 c else []
def Fm (c:Cs) (t:Int) (zs:List Int):Bool:=Aq c && (Fh t && (decide (c.sta<=t) && Dy zs))
def doV (c:Cs) (a:Ac) (t:Int) (zs:List Int):Int :=
 if Fm c t zs=false then 5 else if Fi c.st a.kind=false then 1 else if Cj c a t zs≠0 then Cj c a t zs else if Aq (Ca c a t zs)=true then 0 else 1
def doC (c:Cs) (a:Ac) (t:Int) (zs:List Int):Cs:=if doV c a t zs=0 then Ca c a t zs else c
def doE (c:Cs) (a:Ac) (t:Int) (zs:List Int):List En:=if doV c a t zs=0 then Cc c a else []
theorem Pj (c:Cs) (n:Int):(Ck c n).length<=1:=by unfold Ck;split <;> simp
theorem iR (c:Cs) (n:Int):(Ez c n).length<=1:=by unfold Ez;split <;> simp
theorem Z3 (c:Cs) (n:Int):(Fc c n).length<=2:=by
 have:=Pj c n
 unfold Fc;simp;omega
theorem gJ (c:Cs):(C6 c).length<=2:=by
 have b:=Pj c c.cl;have d:=Z3 c (c.cl / 2);unfold C6
 split
 ·simp
 ·split
  ·omega
  ·split
   ·omega
   ·simp
theorem xT (c:Cs) (a:Ac):(Cc c a).length<=2:=by
 have b:=Pj c a.am;have d:=iR c a.am;have f:=Pj c c.cl;have g:=Z3 c a.am;have i:=gJ c;unfold Cc
 split
 ·omega
 ·split
  ·omega
  ·split
   ·omega
   ·split
    ·omega
    ·split
     ·omega
     ·simp
theorem rV (c:Cs) (a:Ac) (t:Int) (zs:List Int):(doE c a t zs).length<=2:=by
 unfold doE;split
 ·exact xT c a
 ·simp
theorem pH (c:Cs) (a:Ac) (t:Int) (zs:List Int):0<=Ce c a t zs/\Ce c a t zs<=4:=by
 unfold Ce
 split
 ·omega
 ·split
  ·omega
  ·split <;> omega
theorem Aca (c:Cs) (a:Ac) (t:Int) (zs:List Int):0<=Cj c a t zs/\Cj c a t zs<=4:=by
 have h:=pH c a t zs;unfold Cj
 split
 ·exact h
 ·split
  ·split <;> omega
  ·split
   ·split
    ·omega
    ·split <;> omega
   ·split
    ·split <;> omega
    ·split
     ·split <;> omega
     ·omega
theorem Ac4 (c:Cs) (a:Ac) (t:Int) (zs:List Int):0<=doV c a t zs/\doV c a t zs<=5:=by
 have h:=Aca c a t zs;unfold doV
 split
 ·omega
 ·split
  ·omega
  ·split
   ·omega
   ·split <;> omega
end Go.Proofs.YtfpafnefpmmofaaGreatDoor
namespace Go.Proofs.YtfpafnefpmmofaaGreatDoor
open Go.RowKit Go.Proofs.Tryz
theorem wU (a:Int) (w:ql) :
  qi 239 #[qzI a] w λe w'=>e=.returned (.bool (Cm a))/\w'=w:=by
 by_cases h1:1<=a
 ·by_cases h2:a<=9999
  ·have f:qj (Cm a=true):=by simp [qj,Cm,h1,h2]
   go_enter func239,ntmps239
   go_wp2;go_ret;exact ⟨Ab f.o.s,rfl⟩
  ·have f:qj (Cm a=false):=by simp [qj,Cm,h1,h2]
   go_enter func239,ntmps239
   go_wp2;go_ret;exact ⟨Ab f.o.s,rfl⟩
 ·have f:qj (Cm a=false):=by simp [qj,Cm];omega
  go_enter func239,ntmps239
  go_wp2;go_ret;exact ⟨Ab f.o.s,rfl⟩
theorem Dv {a:Int} {q:Bool} (h:Cm a=q) (w:ql):qi 239 #[qzI a] w λe w'=>e=.returned (.bool q)/\w'=w:=by rw [<- h];exact wU a w
theorem Yd {c:Int} (w:ql) (d:Int) (h:D6 c=d) (k:(Lit.int .i64 c).wf=true):qi 278 #[qzI c] w λe w'=>e=.returned (qzI d)/\BW w w':=by rw [<- h];exact Fq c w k
theorem zA (a b c:Int) (w:ql) :
  qi 342 #[.agg #[qzI a,qzI b,qzI c]] w λe w'=>e=.returned (.agg #[qzI a,qzI b])/\BW w w':=by
 go_enter func342,ntmps342
 go_wp2
 go_returns
 refine ⟨rfl,?_⟩
 go_grown
theorem Ry (a b c m:Int) (w:ql) (k:(Lit.int .i64 c).wf=true) :
  qi 315 #[.agg #[qzI a,qzI b,qzI c,qzI m]] w λe w'=>e=.returned (.bool (B7 (a,b,c,m)))/\BW w w':=by
 have bel:Below w.heap.size w (w.alloc (.cells #[qzI a,qzI b,qzI c,qzI m] 217)):=by go_grown
 have z:qj _:=k;clear k
 cases h1:Cm a
 ·have f:qj (B7 (a,b,c,m)=false):=by simp [qj,B7,h1]
  have i:qj _:=h1;clear h1
  go_enter func315,ntmps315
  go_wp2_with fail
  refine (Dv i.o _).m ?_;rintro e u ⟨rfl,hw⟩;rw [hw];clear hw;go_wp2;go_ret;exact ⟨Ab f.o.s,bel⟩
 have i:qj _:=h1
 cases h2:Cm b
 ·have f:qj (B7 (a,b,c,m)=false):=by simp [qj,B7,h2]
  have j:qj _:=h2;clear h1 h2
  go_enter func315,ntmps315
  go_wp2_with fail
  refine (Dv i.o _).m ?_;rintro e u ⟨rfl,hw⟩;rw [hw];clear hw;go_wp2_with fail
  refine (Dv j.o _).m ?_;rintro e x ⟨rfl,hw⟩;rw [hw];clear hw;go_wp2;go_ret;exact ⟨Ab f.o.s,bel⟩
 have j:qj _:=h2
 by_cases h3:a=b
 ·have f:qj (B7 (a,b,c,m)=false):=by simp [qj,B7,h3]
  have r:(a != b)=false:=by simpa using h3
  clear h1 h2 h3
  go_enter func315,ntmps315
  go_wp2_with fail
  refine (Dv i.o _).m ?_;rintro e u ⟨rfl,hw⟩;rw [hw];clear hw;go_wp2_with fail
  refine (Dv j.o _).m ?_;rintro e x ⟨rfl,hw⟩;rw [hw];clear hw;go_wp2;go_ret;exact ⟨Ab f.o.s,bel⟩
 have r:(a != b)=true:=by simpa using h3
 have v:∀ q:Bool,(decide (0<=D6 c) && decide (1<=m/\m<=1000000000000))=q->B7 (a,b,c,m)=q:=by
  intro q B
  simp only [B7,h1,h2,ja,decide_eq_true h3]
  exact B
 obtain ⟨d,hd⟩:∃ d,D6 c=d:=⟨_,rfl⟩;have A:qj _:=hd
 have f:qj (B7 (a,b,c,m)=(decide (0<=d) && decide (1<=m/\m<=1000000000000))):=v _ (by rw [hd])
 clear v hd h3 h1 h2
 go_enter func315,ntmps315
 go_wp2_with fail
 refine (Dv i.o _).m ?_;rintro e u ⟨rfl,hw⟩;rw [hw];clear hw;go_wp2_with fail
 refine (Dv j.o _).m ?_;rintro e x ⟨rfl,hw⟩;rw [hw];clear hw;go_wp2_with fail
 refine (Yd _ d A.o z.o).m ?_;rintro e C ⟨rfl,n⟩
 have D:=(n.cell (p:=⟨w.heap.size,3,none⟩) (by simp)).t (show _=some (qzI m) by simp)
 have l:=bel.t (n.m bel.size);clear n bel
 by_cases h4:0<=d
 ·by_cases h5:1<=m
  ·by_cases h6:m<=1000000000000
   ·have g:qj (B7 (a,b,c,m)=true):=by rw [qj,f.o];simp [h4,h5,h6]
    clear f;go_wp2;go_ret;exact ⟨Ab g.o.s,l⟩
   ·have g:qj (B7 (a,b,c,m)=false):=by rw [qj,f.o];simp [h6]
    have y:qj (decide (m<=1000000000000)=false):=decide_eq_false h6;clear f;go_wp2;go_ret
    exact ⟨Ab (by rw [g.o,y.o]),l⟩
  ·have g:qj (B7 (a,b,c,m)=false):=by rw [qj,f.o];simp [h5]
   clear f;go_wp2;go_ret;exact ⟨Ab g.o.s,l⟩
 ·have g:qj (B7 (a,b,c,m)=false):=by rw [qj,f.o];simp [h4]
  clear f;go_wp2;go_ret;exact ⟨Ab g.o.s,l⟩
theorem Abp (l:qn):decide (0<=Lib.indexByte l 32)=l.any (λc=>c == 32):=by
 induction l with
 | nil=>rfl
 | cons b l ih =>
  have T:=Lib.indexByte_ge l 32
  by_cases hb:b=32
  ·have v:(b == 32)=true:=by simp [hb]
   have D:Lib.indexByte (b::l) 32=0:=by rw [Lib.indexByte,if_pos v]
   rw [D,List.any_cons,v];rfl
  ·have v:(b == 32)=false:=by simp [hb]
   rw [List.any_cons,v,Bool.false_or,<- ih]
   by_cases h:Lib.indexByte l 32 = -1
   ·have D:Lib.indexByte (b::l) 32 = -1:=by rw [Lib.indexByte,if_neg (by rw [v];decide),if_pos (by simp [h])]
    rw [D,h]
   ·have D:Lib.indexByte (b::l) 32=Lib.indexByte l 32+1:=by rw [Lib.indexByte,if_neg (by rw [v];decide),if_neg (by simp [h])]
    rw [D,decide_eq_true (show 0<=Lib.indexByte l 32+1 by omega),decide_eq_true (show 0<=Lib.indexByte l 32 by omega)]
theorem nP (l:qn):Ag 33 126 l=(Ag 32 126 l && !decide (0<=Lib.indexByte l 32)):=by
 rw [Abp]
 induction l with
 | nil=>rfl
 | cons b l ih =>
  simp only [Ag,List.all_cons,List.any_cons] at ih ⊢
  rw [ih]
  by_cases hb:b.toNat=32
  ·have v:(b == 32)=true:=by
     have:b=32:=UInt8.toNat_inj.1 hb
     simp [this]
   have N:decide (33<=b.toNat)=false:=by simp [hb]
   rw [v,N]
   simp
  ·have v:(b == 32)=false:=by
     cases h:(b == 32)
     ·rfl
     ·have:b=32:=by simpa using h
      subst this;exact absurd rfl hb
   have N:decide (33<=b.toNat)=decide (32<=b.toNat):=by
    by_cases h:33<=b.toNat
    ·rw [decide_eq_true h,decide_eq_true (show 32<=b.toNat by omega)]
    ·rw [decide_eq_false h,decide_eq_false (show ¬ 32<=b.toNat by omega)]
   rw [v,N,Bool.false_or]
   cases decide (32<=b.toNat) <;> cases decide (b.toNat<=126) <;> simp
theorem Acn (l:qn) (w:ql) (k:l.length<=1099511627776) :
  qi 237 #[qd l] w (qr (.bool (Nt l)) w):=by
 by_cases h12:l.length=12
 ·have L:((l.length:Int) == 12)=true:=by simp [h12]
  have I:qj (Nt l=(Ag 32 126 l && !decide (0<=Lib.indexByte l 32))):=by rw [qj,Nt,nP,decide_eq_true h12,ja]
  clear h12
  cases hp:Ag 32 126 l
  ·go_enter func237,ntmps237
   go_wp2_with fail
   refine (Px l _ k).m ?_;rintro e n ⟨rfl,hw⟩;subst hw;rw [hp];go_wp2;go_ret
   exact ⟨Ab (by rw [I.o,hp];rfl),rfl⟩
  ·go_enter func237,ntmps237
   go_wp2_with fail
   refine (Px l _ k).m ?_;rintro e n ⟨rfl,hw⟩;subst hw;rw [hp];go_wp2_with fail
   refine (strings_Contains_one ⟨l.toArray⟩ 32 _).m ?_;rintro e n ⟨rfl,hw⟩;subst hw;obtain ⟨q,A⟩:=Ae (decide (0<=Lib.indexByte (⟨l.toArray⟩:ByteArray).data.toList 32));rw [A];have H:=Aa A;clear A;go_wp2;go_ret
   exact ⟨Ab (by rw [I.o,hp,H.o];rfl),rfl⟩
 ·have L:((l.length:Int) == 12)=false:=by simp;omega
  have I:qj (Nt l=false):=by rw [qj,Nt,decide_eq_false h12];rfl
  clear h12
  go_enter func237,ntmps237
  go_wp2;go_ret;exact ⟨Ab I.o.s,rfl⟩
theorem Rk {l:qn} {q:Bool} (h:Nt l=q) (w:ql) (k:l.length<=1099511627776):qi 237 #[qd l] w (qr (.bool q) w):=by rw [<- h];exact Acn l w k
theorem Tz (a:Au) (w:ql) (k:a.ref.length<=1099511627776) (J:Bs a.cur) :
  qi 252 #[Ha a] w (qp (.bool (I2 a)) w):=by
 obtain ⟨r,i,c,m,d,u⟩:=a
 simp only [Ha] at k J ⊢
 have y:qj (I2 ⟨r,i,c,m,d,u⟩=(Nt r && (Cm i && (decide (0<=D6 c) && (decide (1<=m/\m<=100000000000) && Fh d))))):=rfl
 have M:∀ o,Below w.heap.size w (w.alloc o):=λo=>bR.alloc nL _
 cases hr:Nt r
 ·go_enter func252,ntmps252
  go_wp2_with fail
  refine (Rk hr _ k).m ?_;rintro e n ⟨rfl,hw⟩;subst hw;go_wp2;go_ret
  exact ⟨Ab (by rw [y.o,hr];rfl),M _⟩
 cases hi:Cm i
 ·go_enter func252,ntmps252
  go_wp2_with fail
  refine (Rk hr _ k).m ?_;rintro e n ⟨rfl,hw⟩;subst hw;go_wp2_with fail
  refine (Dv hi _).m ?_;rintro e n ⟨rfl,hw⟩;subst hw;go_wp2;go_ret
  exact ⟨Ab (by rw [y.o,hr,hi];rfl),M _⟩
 obtain ⟨W,z⟩:=Ae (w.alloc (.cells #[qd r,qzI i,qzI c,qzI m,qzI d,.bool u] 108));have x:=z ▸ M _
 have c3:W.cell? ⟨w.heap.size,3,none⟩=some (qzI m):=by rw [<- z];simp
 have c4:W.cell? ⟨w.heap.size,4,none⟩=some (qzI d):=by rw [<- z];simp
 have c2:W.cell? ⟨w.heap.size,2,none⟩=some (qzI c):=by rw [<- z];simp
 have O:w.heap.size<W.heap.size:=by rw [<- z];simp
 have C:=Aa z;clear z
 by_cases hd:0<=D6 c
 ·by_cases hm:1<=m/\m<=100000000000
  ·obtain ⟨F,G⟩:=hm
   obtain ⟨q,L⟩:=Ae (Fh d);have H:=Aa L;clear L
   have f:qj (I2 ⟨r,i,c,m,d,u⟩=q):=by rw [qj,y.o,hr,hi,decide_eq_true hd,decide_eq_true (show 1<=m/\m<=100000000000 from ⟨F,G⟩),H.o];rfl
   clear y
   go_enter func252,ntmps252
   go_wp2_with fail
   refine (Rk hr _ k).m ?_;rintro e n ⟨rfl,hw⟩;subst hw;go_wp2_with fail
   refine (Dv hi _).m ?_;rintro e n ⟨rfl,hw⟩;subst hw;rw [C.o];go_wp2_with fail
   refine (Fq c _ J).m ?_;rintro e R ⟨rfl,j⟩;have e3:=(j.cell (p:=⟨w.heap.size,3,none⟩) O).t c3;have S:=(j.cell (p:=⟨w.heap.size,4,none⟩) O).t c4;have B:=Aa (x.t (j.m x.size))
   generalize D6 c=g at hd
   clear c2 c3 c4 x j C;go_wp2_with fail
   refine (Ci d _).m ?_;rintro e U ⟨rfl,hw⟩;subst hw;rw [H.o];go_wp2;go_ret;exact ⟨Ab f.o.s,B.o⟩
  ·have f:qj (I2 ⟨r,i,c,m,d,u⟩=false):=by rw [qj,y.o,hr,hi,decide_eq_true hd,decide_eq_false hm];rfl
   clear y
   go_enter func252,ntmps252
   go_wp2_with fail
   refine (Rk hr _ k).m ?_;rintro e n ⟨rfl,hw⟩;subst hw;go_wp2_with fail
   refine (Dv hi _).m ?_;rintro e n ⟨rfl,hw⟩;subst hw;rw [C.o];go_wp2_with fail
   refine (Fq c _ J).m ?_;rintro e R ⟨rfl,j⟩;have e3:=(j.cell (p:=⟨w.heap.size,3,none⟩) O).t c3;have B:=Aa (x.t (j.m x.size))
   generalize D6 c=g at hd
   clear c2 c3 c4 x j C
   by_cases F:1<=m
   ·have G:100000000000<m:=by omega
    clear hm;go_wp2;go_ret;exact ⟨Ab f.o.s,B.o⟩
   ·clear hm
    go_wp2;go_ret;exact ⟨Ab f.o.s,B.o⟩
 ·have f:qj (I2 ⟨r,i,c,m,d,u⟩=false):=by rw [qj,y.o,hr,hi,decide_eq_false hd];rfl
  clear y
  go_enter func252,ntmps252
  go_wp2_with fail
  refine (Rk hr _ k).m ?_;rintro e n ⟨rfl,hw⟩;subst hw;go_wp2_with fail
  refine (Dv hi _).m ?_;rintro e n ⟨rfl,hw⟩;subst hw;rw [C.o];go_wp2_with fail
  refine (Fq c _ J).m ?_;rintro e R ⟨rfl,j⟩;have B:=Aa (x.t (j.m x.size))
  generalize D6 c=g at hd
  clear c2 c3 c4 x j C;go_wp2;go_ret;exact ⟨Ab f.o.s,B.o⟩
structure Yr (b:Nat) (a:Au) (u:ql):Prop where
 c0:u.cell? (qzA b 0)=some (qd a.ref)
 c1:u.cell? (qzA b 1)=some (qzI a.iss)
 c2:u.cell? (qzA b 2)=some (qzI a.cur)
 c3:u.cell? (qzA b 3)=some (qzI a.am)
 c4:u.cell? (qzA b 4)=some (qzI a.day)
 c5:u.cell? (qzA b 5)=some (.bool a.used)
theorem Yr.lt {b:Nat} {a:Au} {u:ql} (x:Yr b a u):b<u.heap.size:=qs u _ x.c0
theorem Yr.below {b:Nat} {a:Au} {u d:ql} (x:Yr b a u) (h:BW u d):Yr b a d:=by
 have l:=x.lt;exact ⟨(h.c b 0 l).t x.c0,(h.c b 1 l).t x.c1,(h.c b 2 l).t x.c2,(h.c b 3 l).t x.c3,(h.c b 4 l).t x.c4,(h.c b 5 l).t x.c5⟩
theorem Yr.new (w:ql) (a:Au) (t:TypeId):Yr w.heap.size a (w.alloc (.cells #[qd a.ref,qzI a.iss,qzI a.cur,qzI a.am,qzI a.day,.bool a.used] t)) :=
 ⟨by simp,by simp,by simp,by simp,by simp,by simp⟩
theorem rY {x:Int} (h:(Lit.int .i64 x).wf=true):-9223372036854775808<=x/\x<=9223372036854775807:=by
 simpa [Lit.wf,IntKind.min,IntKind.max,IntKind.signed,IntKind.bits] using h
theorem jJ {a:Au} {p n am day:Int} (h:gP a p n am day=false):Gd a p n am day = -1:=by rw [Gd,if_neg (by rw [h];decide)]
theorem Z9 {a:Au} {p n am day:Int} (h:gP a p n am day=true):Gd a p n am day=8*cZ (am - a.am)+day - a.day:=by rw [Gd,if_pos h]
theorem Acg (a:Au) (p n am day:Int):gP a p n am day=(I2 a && (!a.used && (decide (a.iss=p) && (decide (a.cur=n) && (Ge a day && Kr a am))))):=rfl
theorem Afo (x:Int):max x (-x)=cZ x:=by unfold cZ;split <;> omega
theorem uU (a:Au) (day:Int) (w:ql) (hd:0<=a.day/\a.day<=80000) (hb:day<=9223372036854775807) :
  qi 281 #[Ha a,qzI day] w (qp (.bool (Ge a day)) w):=by
 obtain ⟨r,i,c,m,d,u⟩:=a
 simp only [Ha] at hd ⊢
 have V:∀ o,Below w.heap.size w (w.alloc o):=λo=>bR.alloc nL _
 by_cases h1:d<=day
 ·by_cases h2:day - d<=7
  ·have b:qj (Ge ⟨r,i,c,m,d,u⟩ day=true):=by rw [qj,Ge];exact decide_eq_true (show d<=day/\day<=d+7 by omega)
   go_enter func281,ntmps281
   go_wp2;go_ret;exact ⟨Ab b.o.s,V _⟩
  ·have b:qj (Ge ⟨r,i,c,m,d,u⟩ day=false):=by rw [qj,Ge];exact decide_eq_false (show ¬ (d<=day/\day<=d+7) by omega)
   go_enter func281,ntmps281
   go_wp2;go_ret;exact ⟨Ab b.o.s,V _⟩
 ·have b:qj (Ge ⟨r,i,c,m,d,u⟩ day=false):=by rw [qj,Ge];exact decide_eq_false (show ¬ (d<=day/\day<=d+7) by omega)
  go_enter func281,ntmps281
  go_wp2;go_ret;exact ⟨Ab b.o.s,V _⟩
theorem Ac0 (a:Au) (am:Int) (w:ql) (hd:1<=a.am/\a.am<=100000000000) :
  qi 282 #[Ha a,qzI am] w λe w'=>e=.returned (.bool (Kr a am))/\BW w w':=by
 obtain ⟨r,i,c,m,d,u⟩:=a
 simp only [Ha] at hd ⊢
 have V:∀ o,Below w.heap.size w (w.alloc o):=λo=>bR.alloc nL _
 have T:m.tdiv 10=m / 10:=Int.tdiv_eq_ediv_of_nonneg (by omega)
 obtain ⟨t,ht⟩:=Ae (m / 10)
 have a8:0<=t/\t<=10000000000:=by omega
 have b:qj (Kr ⟨r,i,c,m,d,u⟩ am=decide (1<=am/\am<=m+t)):=by rw [qj,Kr,ht]
 rw [ht] at T
 by_cases h1:1<=am
 ·by_cases h2:am<=m+t
  ·have l:qj (Kr ⟨r,i,c,m,d,u⟩ am=true):=by rw [qj,b.o];exact decide_eq_true ⟨h1,h2⟩
   clear b
   go_enter func282,ntmps282
   go_wp2;go_ret;exact ⟨Ab l.o.s,V _⟩
  ·have l:qj (Kr ⟨r,i,c,m,d,u⟩ am=false):=by rw [qj,b.o];exact decide_eq_false (λh=>h2 h.2)
   clear b
   go_enter func282,ntmps282
   go_wp2;go_ret;exact ⟨Ab l.o.s,V _⟩
 ·have l:qj (Kr ⟨r,i,c,m,d,u⟩ am=false):=by rw [qj,b.o];exact decide_eq_false (λh=>h1 h.1)
  clear b
  go_enter func282,ntmps282
  go_wp2;go_ret;exact ⟨Ab l.o.s,V _⟩
theorem nZ (a:Au) (p n am day:Int) (w:ql) (hl:a.ref.length<=1099511627776) (hc:Bs a.cur) (_w3:(Lit.int .i64 am).wf=true) (w4:(Lit.int .i64 day).wf=true) :
  qi 255 #[Ha a,qzI p,qzI n,qzI am,qzI day] w (qp (qzI (Gd a p n am day)) w):=by
 have a3:=rY w4;have b:=Acg a p n am day;obtain ⟨q,T⟩:=Ae (I2 a)
 have k:qj (∀ u,qi 252 #[Ha a] u (qp (.bool q) u)):=λu=>by rw [<- T];exact Tz a u hl hc
 have L:qj (gP a p n am day=false->Gd a p n am day = -1):=jJ;have S:qj (gP a p n am day=true->Gd a p n am day=8*cZ (am - a.am)+day - a.day):=Z9;obtain ⟨W,j⟩:=A0 (w.alloc (.cells #[qd a.ref,qzI a.iss,qzI a.cur,qzI a.am,qzI a.day,.bool a.used] 108))
 have B:Yr w.heap.size a W:=by rw [j];exact Yr.new w a _
 have y:=Aa B
 have bW:BW w W:=by rw [j];exact bR.alloc nL _
 have z:=Aa bW;clear bW _w3 w4
 cases q
 ·have H:=Aa (L.o (by rw [b,T];rfl))
  clear b L S T y;obtain ⟨r,i,c,m,d,u⟩:=a;unfold Ha at k ⊢
  simp only at j k ⊢
  have l:=Aa j;obtain ⟨f0,f1,f2,f3,f4,f5⟩:=B;clear j
  go_enter func255,ntmps255
  go_upto_region 1 with fail
  rw [<- l.o];go_wp2_with fail
  refine (k.o _).m ?_;rintro e Y ⟨rfl,g⟩;have f:=Aa (next z.o g);clear g f0 f1 f2 f3 f4 f5;go_wp2;go_ret;exact ⟨Af H.o.s,f.o⟩
 obtain ⟨-,-,-,G,a4⟩:=Qm T;have F:=G6 a4
 have I:=Aa λu=>uU a day u F a3.2
 have M:=Aa λu=>Ac0 a am u G
 have C:qj (Ge a day=true->a.day<=day/\day<=a.day+7):=λh=>of_decide_eq_true h
 have A:qj (Kr a am=true->1<=am/\am<=a.am+a.am / 10):=λh=>of_decide_eq_true h
 rw [T,ja] at b;clear T a4
 cases hu:a.used
 ·rw [hu,Bool.not_false,ja] at b
  cases hi:(a.iss != p)
  ·have v:=decide_eq_true (by simpa using hi)
   rw [v,ja] at b
   cases hcu:(a.cur != n)
   ·have D:=decide_eq_true (by simpa using hcu)
    rw [D,ja] at b
    cases ht:Ge a day
    ·have H:=Aa (L.o (by rw [b,ht];rfl))
     rw [ht] at I;clear b L S ht M C A v D;obtain ⟨r,i,c,m,d,u⟩:=a;unfold Ha at k I ⊢
     simp only at j k I hu hi hcu G F ⊢
     subst hu;have l:=Aa j;obtain ⟨f0,f1,f2,f3,f4,f5⟩:=B;clear j
     go_enter func255,ntmps255
     go_upto_region 1 with fail
     rw [<- l.o];go_wp2_with fail
     refine (k.o _).m ?_;rintro e Y ⟨rfl,g⟩;have J:=y.o.below g;have f:=Aa (next z.o g);clear g f0 f1 f2 f3 f4 f5;obtain ⟨f0,f1,f2,f3,f4,f5⟩:=J
     simp only at f0 f1 f2 f3 f4 f5
     go_wp2_with fail
     refine (I.o _).m ?_;rintro e u2 ⟨rfl,R⟩;have N:=Aa (next f.o R);clear R f0 f1 f2 f3 f4 f5;go_wp2;go_ret;exact ⟨Af H.o.s,N.o⟩
    ·rw [ht,ja] at b
     rw [ht] at I;have a5:=C.o ht
     cases hs:Kr a am
     ·have H:=Aa (L.o (by rw [b,hs]))
      rw [hs] at M;clear b L S ht C A v D hs a5;obtain ⟨r,i,c,m,d,u⟩:=a;unfold Ha at k I M ⊢
      simp only at j k I M hu hi hcu G F ⊢
      subst hu;have l:=Aa j;obtain ⟨f0,f1,f2,f3,f4,f5⟩:=B;clear j
      go_enter func255,ntmps255
      go_upto_region 1 with fail
      rw [<- l.o];go_wp2_with fail
      refine (k.o _).m ?_;rintro e Y ⟨rfl,g⟩;have J:=y.o.below g;have O:=Aa J;have f:=Aa (next z.o g);clear g f0 f1 f2 f3 f4 f5;obtain ⟨f0,f1,f2,f3,f4,f5⟩:=J
      simp only at f0 f1 f2 f3 f4 f5
      go_wp2_with fail
      refine (I.o _).m ?_;rintro e u2 ⟨rfl,R⟩;have B2:=O.o.below R;have N:=Aa (next f.o R);clear R f0 f1 f2 f3 f4 f5;obtain ⟨f0,f1,f2,f3,f4,f5⟩:=B2
      simp only at f0 f1 f2 f3 f4 f5
      go_wp2_with fail
      refine (M.o _).m ?_;rintro e u3 ⟨rfl,X⟩;have U:=Aa (next N.o X);clear X f0 f1 f2 f3 f4 f5;go_wp2;go_ret;exact ⟨Af H.o.s,U.o⟩
     ·have a7:=A.o hs
      have H:qj (Gd a p n am day=8*max (am - a.am) (-(am - a.am))+day - a.day):=by rw [qj,S.o (by rw [b,hs]),Afo]
      rw [hs] at M
      have a6:0<=max (am - a.am) (-(am - a.am))/\max (am - a.am) (-(am - a.am))<=100000000000:=by omega
      clear b L S ht C A v D hs;obtain ⟨r,i,c,m,d,u⟩:=a;unfold Ha at k I M ⊢
      simp only at j k I M hu hi hcu G F a5 a7 H a6 ⊢
      subst hu;have l:=Aa j;obtain ⟨f0,f1,f2,f3,f4,f5⟩:=B;clear j
      go_enter func255,ntmps255
      go_upto_region 1 with fail
      rw [<- l.o];go_wp2_with fail
      refine (k.o _).m ?_;rintro e Y ⟨rfl,g⟩;have J:=y.o.below g;have O:=Aa J;have f:=Aa (next z.o g);clear g f0 f1 f2 f3 f4 f5;obtain ⟨f0,f1,f2,f3,f4,f5⟩:=J
      simp only at f0 f1 f2 f3 f4 f5
      go_wp2_with fail
      refine (I.o _).m ?_;rintro e u2 ⟨rfl,R⟩;have B2:=O.o.below R;have Z:=Aa B2;have N:=Aa (next f.o R);clear R f0 f1 f2 f3 f4 f5;obtain ⟨f0,f1,f2,f3,f4,f5⟩:=B2
      simp only at f0 f1 f2 f3 f4 f5
      go_wp2_with fail
      refine (M.o _).m ?_;rintro e u3 ⟨rfl,X⟩;have B3:=Z.o.below X;have U:=Aa (next N.o X);clear X f0 f1 f2 f3 f4 f5;obtain ⟨f0,f1,f2,f3,f4,f5⟩:=B3
      simp only at f0 f1 f2 f3 f4 f5
      go_wp2;go_ret;exact ⟨Af H.o.s,U.o⟩
   ·have D:=decide_eq_false (by simpa using hcu)
    have H:=Aa (L.o (by rw [b,D];rfl))
    clear b L S I M C A v D;obtain ⟨r,i,c,m,d,u⟩:=a;unfold Ha at k ⊢
    simp only at j k hu hi hcu G F ⊢
    subst hu;have l:=Aa j;obtain ⟨f0,f1,f2,f3,f4,f5⟩:=B;clear j
    go_enter func255,ntmps255
    go_upto_region 1 with fail
    rw [<- l.o];go_wp2_with fail
    refine (k.o _).m ?_;rintro e Y ⟨rfl,g⟩;have J:=y.o.below g;have f:=Aa (next z.o g);clear g f0 f1 f2 f3 f4 f5;obtain ⟨f0,f1,f2,f3,f4,f5⟩:=J
    simp only at f0 f1 f2 f3 f4 f5
    go_wp2;go_ret;exact ⟨Af H.o.s,f.o⟩
  ·have v:=decide_eq_false (by simpa using hi)
   have H:=Aa (L.o (by rw [b,v];rfl))
   clear b L S I M C A v;obtain ⟨r,i,c,m,d,u⟩:=a;unfold Ha at k ⊢
   simp only at j k hu hi G F ⊢
   subst hu;have l:=Aa j;obtain ⟨f0,f1,f2,f3,f4,f5⟩:=B;clear j
   go_enter func255,ntmps255
   go_upto_region 1 with fail
   rw [<- l.o];go_wp2_with fail
   refine (k.o _).m ?_;rintro e Y ⟨rfl,g⟩;have J:=y.o.below g;have f:=Aa (next z.o g);clear g f0 f1 f2 f3 f4 f5;obtain ⟨f0,f1,f2,f3,f4,f5⟩:=J
   simp only at f0 f1 f2 f3 f4 f5
   go_wp2;go_ret;exact ⟨Af H.o.s,f.o⟩
 ·have H:=Aa (L.o (by rw [b,hu];rfl))
  clear b L S I M C A;obtain ⟨r,i,c,m,d,u⟩:=a;unfold Ha at k ⊢
  simp only at j k hu G F ⊢
  subst hu;have l:=Aa j;obtain ⟨f0,f1,f2,f3,f4,f5⟩:=B;clear j
  go_enter func255,ntmps255
  go_upto_region 1 with fail
  rw [<- l.o];go_wp2_with fail
  refine (k.o _).m ?_;rintro e Y ⟨rfl,g⟩;have J:=y.o.below g;have f:=Aa (next z.o g);clear g f0 f1 f2 f3 f4 f5;obtain ⟨f0,f1,f2,f3,f4,f5⟩:=J
  simp only at f0 f1 f2 f3 f4 f5
  go_wp2;go_ret;exact ⟨Af H.o.s,f.o⟩
theorem bY {x a b:Int} {q:Bool} (h:Gb x a b=q) (w:ql):qi 89 #[qzI x,qzI a,qzI b] w (qr (.bool q) w):=by rw [<- h];exact Cg x a b w
theorem Uv (a:Au) (w:ql) (S:a.ref.length<=1099511627776) :
  qi 119 #[Ha a] w (qp (.bool (I2 a)) w):=by
 obtain ⟨r,i,c,m,d,u⟩:=a
 simp only [Ha] at S ⊢
 have z:qj (I2 ⟨r,i,c,m,d,u⟩=((decide (r.length=12) && Ag 33 126 r) && (Cm i && (decide (0<=D6 c) && (decide (1<=m/\m<=100000000000) && Fh d))))):=rfl;obtain ⟨W,y⟩:=Ae (w.alloc (.cells #[qd r,qzI i,qzI c,qzI m,qzI d,.bool u] 108));have J:=y ▸ bR.alloc nL _;have l:=Aa J
 have c0:W.cell? ⟨w.heap.size,0,none⟩=some (qd r):=by rw [<- y];simp
 have c1:W.cell? ⟨w.heap.size,1,none⟩=some (qzI i):=by rw [<- y];simp
 have c2:W.cell? ⟨w.heap.size,2,none⟩=some (qzI c):=by rw [<- y];simp
 have c3:W.cell? ⟨w.heap.size,3,none⟩=some (qzI m):=by rw [<- y];simp
 have c4:W.cell? ⟨w.heap.size,4,none⟩=some (qzI d):=by rw [<- y];simp
 have L:w.heap.size<W.heap.size:=by rw [<- y];simp
 have I:=Aa y;clear y J
 go_enter func119,ntmps119
 go_wp2;rw [I.o];clear I
 go_loopw [3] (λi wr=>∃ k:Nat,k<=r.length/\i=qzI k/\Ag 33 126 r=Ag 33 126 (r.drop k)/\wr=W) (λi _=>r.length - (intOf i).toNat)
 case atStart=>exact ⟨0,qw _,rfl,rfl,rfl⟩
 case round =>
  obtain ⟨k,hk,rfl,ht,G⟩:=hrel;subst G
  by_cases hlt:k<r.length
  ·have R:(k:Int)<(r.length:Int):=by omega
   have hs:=Ex 33 126 r k hlt
   obtain ⟨b,hb⟩:=Ae ((⟨r.toArray⟩:ByteArray)[k]'(by rw [Cu];exact hlt))
   rw [(Fl r k hlt).t hb,<- nG b 33 126] at hs;have A:=Aa (ht.t hs);have U:=Lj b;clear hs ht
   cases hin:Gb (b.toNat:Int) 33 126
   ·have N:qj (Ag 33 126 r=false):=by rw [qj,A.o];simp [hin]
    clear A;go_wp2_with fail
    refine (bY hin _).m ?_;rintro e H ⟨rfl,j⟩;subst j;go_wp2;go_ret
    exact ⟨Ab (by rw [z.o,N.o];simp),l.o⟩
   ·have O:qj (Ag 33 126 r=Ag 33 126 (r.drop (k+1))):=by rw [qj,A.o];simp [hin]
    clear A;go_wp2_with fail
    refine (bY hin _).m ?_;rintro e H ⟨rfl,j⟩;subst j;go_wp2
    go_roundw
    case rel=>exact ⟨k+1,by omega,by go_num,O.o,trivial⟩
    case measure=>simp [intOf];omega
  ·have F:k=r.length:=by omega
   subst F
   have D:qj (Ag 33 126 r=true):=by rw [qj,ht,Fo]
   clear ht
   by_cases h12:r.length=12
   ·have T:((r.length:Int) == 12)=true:=by simp [h12]
    have f:qj (I2 ⟨r,i,c,m,d,u⟩=(Cm i && (decide (0<=D6 c) && (decide (1<=m/\m<=100000000000) && Fh d)))):=by rw [qj,z.o,D.o,decide_eq_true h12];rfl
    clear h12 z D
    cases hi:Cm i
    ·go_wp2_with fail
     refine (El hi _).m ?_;rintro e H ⟨rfl,j⟩;subst j;go_wp2;go_ret
     exact ⟨Ab (by rw [f.o,hi];rfl),l.o⟩
    ·go_wp2_with fail
     refine (El hi _).m ?_;rintro e H ⟨rfl,j⟩;subst j;go_wp2_with fail
     refine (Ih c _).m ?_;rintro e X ⟨rfl,B⟩;have e3:=(B.cell (p:=⟨w.heap.size,3,none⟩) L).t c3;have V:=(B.cell (p:=⟨w.heap.size,4,none⟩) L).t c4;have C:=Aa (l.o.t (B.m l.o.size));rw [hi] at f;clear c0 c1 c2 c3 c4 B l
     by_cases hd:0<=D6 c
     ·cases hin:Gb m 1 100000000000
      ·have n:qj (I2 ⟨r,i,c,m,d,u⟩=false):=by
         have:decide (1<=m/\m<=100000000000)=false:=hin
         rw [qj,f.o,decide_eq_true hd,this];rfl
       clear f
       generalize D6 c=g at hd
       go_wp2_with fail
       refine (bY hin _).m ?_;rintro e M ⟨rfl,v⟩;subst v;go_wp2;go_ret;exact ⟨Ab n.o.s,C.o⟩
      ·have n:qj (I2 ⟨r,i,c,m,d,u⟩=Fh d):=by
         have:decide (1<=m/\m<=100000000000)=true:=hin
         rw [qj,f.o,decide_eq_true hd,this];rfl
       clear f
       generalize D6 c=g at hd
       go_wp2_with fail
       refine (bY hin _).m ?_;rintro e M ⟨rfl,v⟩;subst v;go_wp2_with fail
       refine (Br d _).m ?_;rintro e M ⟨rfl,v⟩;subst v
       generalize Fh d=q at n
       go_wp2;go_ret;exact ⟨Ab n.o.s,C.o⟩
     ·have n:qj (I2 ⟨r,i,c,m,d,u⟩=false):=by rw [qj,f.o,decide_eq_false hd];rfl
      clear f
      generalize D6 c=g at hd
      go_wp2;go_ret;exact ⟨Ab n.o.s,C.o⟩
   ·have T:((r.length:Int) == 12)=false:=by simp;omega
    have f:qj (I2 ⟨r,i,c,m,d,u⟩=false):=by rw [qj,z.o,decide_eq_false h12];rfl
    clear h12 z D;go_wp2;go_ret;exact ⟨Ab f.o.s,l.o⟩
theorem kL (a:Au) (M L am day:Int) (w:ql) (hl:a.ref.length<=1099511627776) (_w3:(Lit.int .i64 am).wf=true) (w4:(Lit.int .i64 day).wf=true) :
  qi 147 #[Ha a,qzI M,qzI L,qzI am,qzI day] w λe w'=>e=.returned (qzI (Gd a M L am day))/\BW w w':=by
 have a4:=rY w4;have n:=Acg a M L am day;obtain ⟨q,V⟩:=Ae (I2 a)
 have l:qj (∀ u,qi 119 #[Ha a] u λe w'=>e=.returned (.bool q)/\BW u w'):=λu=>by rw [<- V];exact Uv a u hl
 have I:qj (gP a M L am day=false->Gd a M L am day = -1):=jJ;have R:qj (gP a M L am day=true->Gd a M L am day=8*cZ (am - a.am)+day - a.day):=Z9;obtain ⟨W,k⟩:=A0 (w.alloc (.cells #[qd a.ref,qzI a.iss,qzI a.cur,qzI a.am,qzI a.day,.bool a.used] 108))
 have B:Yr w.heap.size a W:=by rw [k];exact Yr.new w a _
 have p:=Aa B
 have bW:BW w W:=by rw [k];exact bR.alloc nL _
 have t:=Aa bW;clear bW _w3 w4
 cases q
 ·have v:=Aa (I.o (by rw [n,V];rfl))
  clear n I R V;obtain ⟨r,i,c,m,d,u⟩:=a;unfold Ha at l ⊢
  simp only at k l  ⊢
  have C:qj _:=k;obtain ⟨f0,f1,f2,f3,f4,f5⟩:=B;clear k
  go_enter func147,ntmps147
  go_upto_region 1 with fail
  rw [<- C.o];go_wp2_with fail
  refine (l.o _).m ?_;rintro e U ⟨rfl,f⟩;have y:=p.o.below f;have b:=Aa (next t.o f);clear f f0 f1 f2 f3 f4 f5;obtain ⟨f0,f1,f2,f3,f4,f5⟩:=y
  simp only at f0 f1 f2 f3 f4 f5
  go_wp2;go_ret;exact ⟨Af v.o.s,b.o⟩
 obtain ⟨-,-,-,G,Y⟩:=Qm V;have F:=G6 Y
 have A:qj (Ge a day=true->a.day<=day/\day<=a.day+7):=λh=>of_decide_eq_true h
 have z:qj (Kr a am=true->1<=am/\am<=a.am+a.am / 10):=λh=>of_decide_eq_true h
 have J:qj (∀ u,qi 89 #[qzI day,qzI a.day,qzI (a.day+7)] u λe w'=>e=.returned (.bool (Ge a day))/\w'=u):=λu=>Cg day a.day (a.day+7) u
 have H:qj (∀ u,qi 89 #[qzI am,qzI 1,qzI (a.am+a.am / 10)] u λe w'=>e=.returned (.bool (Kr a am))/\w'=u):=λu=>Cg am 1 (a.am+a.am / 10) u
 have g:a.am.tdiv 10=a.am / 10:=Int.tdiv_eq_ediv_of_nonneg (by omega)
 rw [V,ja] at n;clear V Y
 cases hu:a.used
 ·rw [hu,Bool.not_false,ja] at n
  cases hi:(a.iss != M)
  ·have x:decide (a.iss=M)=true:=decide_eq_true (by simpa using hi)
   rw [x,ja] at n
   cases hcu:(a.cur != L)
   ·have D:decide (a.cur=L)=true:=decide_eq_true (by simpa using hcu)
    rw [D,ja] at n
    cases ht:Ge a day
    ·have v:=Aa (I.o (by rw [n,ht];rfl))
     rw [ht] at J;clear n I R ht H A z x D g;obtain ⟨r,i,c,m,d,u⟩:=a;unfold Ha at l ⊢
     simp only at k l J hu hi hcu G F ⊢
     subst hu;have C:qj _:=k;obtain ⟨f0,f1,f2,f3,f4,f5⟩:=B;clear k
     go_enter func147,ntmps147
     go_upto_region 1 with fail
     rw [<- C.o];go_wp2_with fail
     refine (l.o _).m ?_;rintro e U ⟨rfl,f⟩;have y:=p.o.below f;have b:=Aa (next t.o f);clear f f0 f1 f2 f3 f4 f5;obtain ⟨f0,f1,f2,f3,f4,f5⟩:=y
     simp only at f0 f1 f2 f3 f4 f5
     go_wp2_with fail
     refine (J.o _).m ?_;rintro e X ⟨rfl,j⟩;subst j;go_wp2;go_ret;exact ⟨Af v.o.s,b.o⟩
    ·rw [ht,ja] at n
     rw [ht] at J;have T:=A.o ht
     cases hs:Kr a am
     ·have v:=Aa (I.o (by rw [n,hs]))
      rw [hs] at H;clear n I R ht A z x D hs T;obtain ⟨Z,N⟩:=Ae (a.am / 10)
      have a3:0<=Z/\Z<=10000000000:=by omega
      rw [N] at H g;clear N;obtain ⟨r,i,c,m,d,u⟩:=a;unfold Ha at l ⊢
      simp only at k l J H hu hi hcu G F g ⊢
      subst hu;have C:=Aa k;obtain ⟨f0,f1,f2,f3,f4,f5⟩:=B;clear k
      go_enter func147,ntmps147
      go_upto_region 1 with fail
      rw [<- C.o];go_wp2_with fail
      refine (l.o _).m ?_;rintro e U ⟨rfl,f⟩;have y:=p.o.below f;have b:=Aa (next t.o f);clear f f0 f1 f2 f3 f4 f5;obtain ⟨f0,f1,f2,f3,f4,f5⟩:=y
      simp only at f0 f1 f2 f3 f4 f5
      go_wp2_with fail
      refine (J.o _).m ?_;rintro e X ⟨rfl,j⟩;subst j;go_wp2_with fail
      refine (H.o _).m ?_;rintro e X ⟨rfl,j⟩;subst j;go_wp2;go_ret;exact ⟨Af v.o.s,b.o⟩
     ·have S:=z.o hs
      rw [hs] at H
      have O:qj (Gd a M L am day=8*cZ (am - a.am)+day - a.day):=by rw [qj,R.o (by rw [n,hs])]
      clear n I R ht A z x D hs;obtain ⟨Z,N⟩:=Ae (a.am / 10)
      have a3:0<=Z/\Z<=10000000000:=by omega
      rw [N] at H g S;clear N
      by_cases hng:am - a.am<0
      ·have v:qj (Gd a M L am day=8 * (-(am - a.am))+day - a.day):=by rw [qj,O.o,cZ,if_pos hng]
       clear O;obtain ⟨r,i,c,m,d,u⟩:=a;unfold Ha at l ⊢
       simp only at k l J H v hu hi hcu G F T S g hng ⊢
       subst hu;have C:=Aa k;obtain ⟨f0,f1,f2,f3,f4,f5⟩:=B;clear k
       go_enter func147,ntmps147
       go_upto_region 1 with fail
       rw [<- C.o];go_wp2_with fail
       refine (l.o _).m ?_;rintro e U ⟨rfl,f⟩;have y:=p.o.below f;have b:=Aa (next t.o f);clear f f0 f1 f2 f3 f4 f5;obtain ⟨f0,f1,f2,f3,f4,f5⟩:=y
       simp only at f0 f1 f2 f3 f4 f5
       go_wp2_with fail
       refine (J.o _).m ?_;rintro e X ⟨rfl,j⟩;subst j;go_wp2_with fail
       refine (H.o _).m ?_;rintro e X ⟨rfl,j⟩;subst j;go_wp2;go_ret;exact ⟨Af v.o.s,b.o⟩
      ·have v:qj (Gd a M L am day=8 * (am - a.am)+day - a.day):=by rw [qj,O.o,cZ,if_neg hng]
       clear O;obtain ⟨r,i,c,m,d,u⟩:=a;unfold Ha at l ⊢
       simp only at k l J H v hu hi hcu G F T S g hng ⊢
       subst hu;have C:=Aa k;obtain ⟨f0,f1,f2,f3,f4,f5⟩:=B;clear k
       go_enter func147,ntmps147
       go_upto_region 1 with fail
       rw [<- C.o];go_wp2_with fail
       refine (l.o _).m ?_;rintro e U ⟨rfl,f⟩;have y:=p.o.below f;have b:=Aa (next t.o f);clear f f0 f1 f2 f3 f4 f5;obtain ⟨f0,f1,f2,f3,f4,f5⟩:=y
       simp only at f0 f1 f2 f3 f4 f5
       go_wp2_with fail
       refine (J.o _).m ?_;rintro e X ⟨rfl,j⟩;subst j;go_wp2_with fail
       refine (H.o _).m ?_;rintro e X ⟨rfl,j⟩;subst j;go_wp2;go_ret;exact ⟨Af v.o.s,b.o⟩
   ·have D:=decide_eq_false (by simpa using hcu)
    have v:=Aa (I.o (by rw [n,D];rfl))
    clear n I R J H A z x D g;obtain ⟨r,i,c,m,d,u⟩:=a;unfold Ha at l ⊢
    simp only at k l hu hi hcu G F ⊢
    subst hu;have C:=Aa k;obtain ⟨f0,f1,f2,f3,f4,f5⟩:=B;clear k
    go_enter func147,ntmps147
    go_upto_region 1 with fail
    rw [<- C.o];go_wp2_with fail
    refine (l.o _).m ?_;rintro e U ⟨rfl,f⟩;have y:=p.o.below f;have b:=Aa (next t.o f);clear f f0 f1 f2 f3 f4 f5;obtain ⟨f0,f1,f2,f3,f4,f5⟩:=y
    simp only at f0 f1 f2 f3 f4 f5
    go_wp2;go_ret;exact ⟨Af v.o.s,b.o⟩
  ·have x:=decide_eq_false (by simpa using hi)
   have v:=Aa (I.o (by rw [n,x];rfl))
   clear n I R J H A z x g;obtain ⟨r,i,c,m,d,u⟩:=a;unfold Ha at l ⊢
   simp only at k l hu hi G F ⊢
   subst hu;have C:=Aa k;obtain ⟨f0,f1,f2,f3,f4,f5⟩:=B;clear k
   go_enter func147,ntmps147
   go_upto_region 1 with fail
   rw [<- C.o];go_wp2_with fail
   refine (l.o _).m ?_;rintro e U ⟨rfl,f⟩;have y:=p.o.below f;have b:=Aa (next t.o f);clear f f0 f1 f2 f3 f4 f5;obtain ⟨f0,f1,f2,f3,f4,f5⟩:=y
   simp only at f0 f1 f2 f3 f4 f5
   go_wp2;go_ret;exact ⟨Af v.o.s,b.o⟩
 ·have v:=Aa (I.o (by rw [n,hu];rfl))
  clear n I R J H A z g;obtain ⟨r,i,c,m,d,u⟩:=a;unfold Ha at l ⊢
  simp only at k l hu G F ⊢
  subst hu;have C:=Aa k;obtain ⟨f0,f1,f2,f3,f4,f5⟩:=B;clear k
  go_enter func147,ntmps147
  go_upto_region 1 with fail
  rw [<- C.o];go_wp2_with fail
  refine (l.o _).m ?_;rintro e U ⟨rfl,f⟩;have y:=p.o.below f;have b:=Aa (next t.o f);clear f f0 f1 f2 f3 f4 f5;obtain ⟨f0,f1,f2,f3,f4,f5⟩:=y
  simp only at f0 f1 f2 f3 f4 f5
  go_wp2;go_ret;exact ⟨Af v.o.s,b.o⟩
end Go.Proofs.YtfpafnefpmmofaaGreatDoor
