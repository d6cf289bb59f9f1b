import Derived.Test.YtfpafnefpmmofaaGreatDoorJW1a
namespace Go.Proofs.YtfpafnefpmmofaaGreatDoor
open Go.RowKit Go.Proofs.Tryz
set_option maxRecDepth 100000
set_option maxHeartbeats 12800000
theorem Y5 (kd:Int) (ao:qm) (cap:Nat) (fs:List Av) (w:ql) (hz:Aw w ao fs) (hn:fs.length<=1048576) :
  qi 32 #[.agg #[qzI kd,qf ao fs.length cap]] w λe w'=>∃ g,e=.returned (.agg #[qzI kd,qf (some (qzA g 0)) fs.length fs.length]) /\
   w'.ownsRow w.heap.size 136 2 (qf (some (qzA g 0)) fs.length fs.length) fs.length (Bt fs)/\BW w w':=by
 go_enter func32,ntmps32
 go_wp2_with fail
 refine (dG _ _ _ _ (hz.below (by go_grown)) hn).m ?_
 rintro e F ⟨rfl,ho,u⟩
 generalize hW:(((w.alloc (.cells #[qzI kd,qf ao fs.length cap] 62)).alloc (.cells #[qzI 0,qe] 68)).alloc (.cells #[qzI kd,qe] 68))=W at ho u ⊢
 have hs:W.heap.size=w.heap.size+3:=by rw [<- hW];simp
 have bW:BW w W:=by rw [<- hW];go_grown
 have c1:F.cell? ⟨w.heap.size+1,0,none⟩=some (qzI 0):=(u.cell (p:=⟨w.heap.size+1,0,none⟩) (by rw [hs];simp)).t (by rw [<- hW];simp [go_sem])
 have c2:F.cell? ⟨w.heap.size+1,1,none⟩=some qe:=(u.cell (p:=⟨w.heap.size+1,1,none⟩) (by rw [hs];simp)).t (by rw [<- hW];simp [go_sem])
 have c3:F.cell? ⟨w.heap.size+1+1,0,none⟩=some (qzI kd):=(u.cell (p:=⟨w.heap.size+1+1,0,none⟩) (by rw [hs];simp)).t (by rw [<- hW];simp [go_sem])
 have c4:F.cell? ⟨w.heap.size+1+1,1,none⟩=some qe:=(u.cell (p:=⟨w.heap.size+1+1,1,none⟩) (by rw [hs];simp)).t (by rw [<- hW];simp [go_sem])
 have z1:F.frozen? ⟨w.heap.size+1,0,none⟩=false:=(u.frozen (p:=⟨w.heap.size+1,0,none⟩) (by rw [hs];simp)).t (by rw [<- hW];simp [go_sem])
 have z2:F.frozen? ⟨w.heap.size+1,1,none⟩=false:=(u.frozen (p:=⟨w.heap.size+1,1,none⟩) (by rw [hs];simp)).t (by rw [<- hW];simp [go_sem])
 have z4:F.frozen? ⟨w.heap.size+1+1,1,none⟩=false:=(u.frozen (p:=⟨w.heap.size+1+1,1,none⟩) (by rw [hs];simp)).t (by rw [<- hW];simp [go_sem])
 have S:=Aa (bW.t (u.m (by rw [hs];omega)))
 have HO:=Aa ho;have HS:=Aa hs;clear u bW hW ho hs hz;go_wp2
 refine bodyPost_ret (by simp [results,results32,go_sem,c1,c2];try rfl) rfl ?_
 refine ⟨W.heap.size,rfl,?_,((S.o.setCell (by show w.heap.size<=w.heap.size+1+1;omega) _).setCell (by show w.heap.size<=w.heap.size+1;omega) _).setCell (by show w.heap.size<=w.heap.size+1;omega) _⟩
 have hs:=HS.o
 have C:∀ (c:Nat) (g:Nat),c<=2->(Value.slice (some ⟨W.heap.size,0,none⟩) fs.length fs.length).ownBlock=some g->g≠w.heap.size+c:=by
  intro c g hc h
  simp [Value.ownBlock] at h
  omega
 exact Yj (dB (dB (dB HO.o _ _ (λg h=>C 2 g (by omega) h)) _ _ (λg h=>C 1 g (by omega) h)) _ _ (λg h=>C 1 g (by omega) h)) (by omega)
def Wb (f g:Av):Bool:=decide (f=g)
theorem tI {f g:Av} (h:Wb f g=true):f=g:=of_decide_eq_true h
theorem Acl {f g:Av} (h:Wb f g=false):f≠g:=of_decide_eq_false h
theorem Ua (n m:Int) (s t:qn) (w:ql) :
  qi 111 #[.agg #[qzI n,qd s],.agg #[qzI m,qd t]] w λe w'=>e=.returned (.bool (Wb (n,s) (m,t)))/\BW w w':=by
 cases H:(n != m)
 ·cases R:(s == t)
  ·have B:qj (¬ (n,s)=(m,t)):=by
     intro e;rw [Prod.mk.injEq] at e;rw [e.2] at R;simp at R
   go_enter func111,ntmps111
   go_wp2;go_ret
   exact ⟨Ab (by rw [Wb,decide_eq_false B.o]),by go_grown⟩
  ·have B:qj ((n,s)=(m,t)):=by
     have e1:n=m:=by simpa using H
     have e2:s=t:=by simpa using R
     rw [qj,e1,e2]
   go_enter func111,ntmps111
   go_wp2;go_ret
   exact ⟨Ab (by rw [Wb,decide_eq_true B.o]),by go_grown⟩
 ·have B:qj (¬ (n,s)=(m,t)):=by
    intro e;rw [Prod.mk.injEq] at e;rw [e.1] at H;simp at H
  go_enter func111,ntmps111
  go_wp2;go_ret
  exact ⟨Ab (by rw [Wb,decide_eq_false B.o]),by go_grown⟩
theorem dM (ao O:qm) (c1 c2:Nat) (a l:List Av) (w:ql) (hx:Aw w ao a) (hy:Aw w O l) (H:a.length<=1099511627776) (R:l.length<=1099511627776) :
  qi 83 #[qf ao a.length c1,qf O l.length c2] w λe w'=>e=.returned (.bool (decide (a=l)))/\BW w w':=by
 by_cases hl:a.length=l.length
 ·rcases hx with rfl|⟨b,off,rfl,hb,I⟩
  ·have a6:=qz hl.s
   subst a6
   go_enter func83,ntmps83
   go_wp2;refine wp_loop_rounds 1 ?_;rw [rounds_succ];go_wp2;go_ret;exact ⟨rfl,bR⟩
  ·rcases hy with rfl|⟨d,D,rfl,hd,J⟩
   ·have a5:=qz hl
    subst a5
    go_enter func83,ntmps83
    go_wp2;refine wp_loop_rounds 1 ?_;rw [rounds_succ];go_wp2;go_ret;exact ⟨rfl,bR⟩
   ·obtain ⟨n,hn⟩:=Ae a.length
    have L:l.length=n:=by omega
    rw [hn] at I H ⊢;rw [L] at J ⊢;have HX:=Aa hn;have HY:=Aa L;have T:=Aa I;have U:=Aa J;clear hl hn L I J
    go_enter func83,ntmps83
    go_wp2
    go_loopw [5] (λi wr=>∃ k:Nat,k<=n/\i=qzI k/\(∀ j,j<k->Dn a j=Dn l j)/\BW w wr) (λi _=>n - (intOf i).toNat)
    case atStart=>exact ⟨0,qw _,rfl,λj hj=>by omega,bR⟩
    case round =>
     obtain ⟨k,hk,rfl,v,q⟩:=hrel;have HS:=Aa v;clear v
     by_cases hlt:k<n
     ·have e1:=(q.c b (off+k*2) hb).t (T.o k hlt).1
      have e2:=(q.c b (off+k*2+1) hb).t (T.o k hlt).2;have e3:=(q.c d (D+k*2) hd).t (U.o k hlt).1;have e4:=(q.c d (D+k*2+1) hd).t (U.o k hlt).2
      have a7:(k:Int)<(n:Int):=by omega
      have G:qj (Dn a k≠Dn l k->¬ a=l):=λh e=>h (by rw [e])
      obtain ⟨⟨x,s⟩,M⟩:∃ x,Dn a k=x:=⟨_,rfl⟩;obtain ⟨⟨y,t⟩,N⟩:∃ y,Dn l k=y:=⟨_,rfl⟩;rw [M] at e1 e2;rw [N] at e3 e4
      simp only at e1 e2 e3 e4
      have V:=Aa M;have X:=Aa N;clear M N
      cases hq:Wb (x,s) (y,t)
      ·have HN:=Aa (G.o (by rw [V.o,X.o];exact Acl hq))
       have HQ:=Aa hq;clear hq G;go_wp2
       go_region_with (refine (Ua _ _ _ _ _).m ?_;rintro e w2 ⟨rfl,b2⟩;rw [HQ.o])
       all_goals
        go_wp2;go_ret
        exact ⟨Ab (by rw [decide_eq_false HN.o]),(below_drewN q _).t (b2.m q.size)⟩
      ·have a4:qj (Dn a k=Dn l k):=by rw [qj,V.o,X.o];exact tI hq
       have HQ:=Aa hq;clear hq G;go_wp2
       go_region_with (refine (Ua _ _ _ _ _).m ?_;rintro e w2 ⟨rfl,b2⟩;rw [HQ.o])
       all_goals
        go_wp2
        go_roundw
        case rel=>exact ⟨k+1,by omega,by go_num,λj hj=>by rcases (show j<k\/j=k from by omega) with h|rfl;exact HS.o j h;exact a4.o,(below_drewN q _).t (b2.m q.size)⟩
        case measure=>simp [intOf];omega
     ·have B:qj (a=l):=by
        apply List.ext_getElem (by rw [HX.o,HY.o])
        intro i g1 g2
        have:=HS.o i (by rw [HX.o] at g1;omega)
        simpa [Dn,g1,g2] using this
      go_wp2;go_ret
      exact ⟨Ab (by rw [decide_eq_true B.o]),q⟩
 ·have C:((a.length:Int) != (l.length:Int))=true:=by simp;omega
  have B:qj (¬ a=l):=λe=>hl (by rw [e])
  go_enter func83,ntmps83
  go_wp2;go_ret
  exact ⟨Ab (by rw [decide_eq_false B.o]),bR⟩
def Zh (z:Int) (a:List Av) (A:Int) (l:List Av):Bool:=decide (z=A/\a=l)
theorem nO (k:Int) (a:List Av):Zh k a k a=true:=decide_eq_true ⟨rfl,rfl⟩
theorem Yu (z A:Int) (ao O:qm) (c1 c2:Nat) (a l:List Av) (w:ql) (hx:Aw w ao a) (hy:Aw w O l) (H:a.length<=1099511627776) (R:l.length<=1099511627776) :
  qi 42 #[.agg #[qzI z,qf ao a.length c1],.agg #[qzI A,qf O l.length c2]] w λe w'=>e=.returned (.bool (Zh z a A l))/\BW w w':=by
 cases hk:(z != A)
 ·have Y:z=A:=by simpa using hk
  have bel:Below w.heap.size w ((w.alloc (.cells #[qzI z,qf ao a.length c1] 68)).alloc (.cells #[qzI A,qf O l.length c2] 68)):=by go_grown
  have Z:=hx.below bel;have a3:=hy.below bel
  have HM:qj (Zh z a A l=decide (a=l)):=by
   rw [qj,Zh];by_cases h:a=l <;> simp [h,Y]
  have S:=Aa bel;clear Y bel hx hy
  go_enter func42,ntmps42
  go_wp2_with fail
  refine (dM _ _ _ _ _ _ _ Z a3 H R).m ?_;rintro e F ⟨rfl,u⟩
  have bb:=S.o.t (u.m (by have:=S.o.size;exact this))
  rw [<- HM.o];obtain ⟨r,hr⟩:=Ae (Zh z a A l);rw [hr];have HR:=Aa hr;clear u Z a3 HM S hr
  cases r
  ·go_wp2
   go_ret;exact ⟨Ab HR.o.s,bb⟩
  ·go_wp2
   go_ret;exact ⟨Ab HR.o.s,bb⟩
 ·have HM:qj (Zh z a A l=false):=decide_eq_false (λe=>by rw [e.1] at hk;simp at hk)
  go_enter func42,ntmps42
  go_wp2;go_ret
  exact ⟨Ab HM.o.s,by go_grown⟩
end Go.Proofs.YtfpafnefpmmofaaGreatDoor
