import Derived.Test.YtfpafnefpmmofaaGreatDoorKWSLed2
namespace Go.Proofs.YtfpafnefpmmofaaGreatDoor
open Go.RowKit Go.Proofs.Tryz
set_option maxRecDepth 100000
set_option maxHeartbeats 12800000
def Sh (done:Bool) (ls:List Ln) (a c m:Int):List Ln:=if done=true then ls else Dj ls a c m
theorem Pe (ls:List Ln) (a c m:Int):Sh true ls a c m=ls:=rfl
theorem Ok (ls:List Ln) (a c m:Int):Sh false ls a c m=Dj ls a c m:=rfl
theorem Aah {x:Ln} {r:List Ln} {a c m:Int} (h:So x a c=false):Dj (x::r) a c m=x::Dj r a c m:=by simp only [Dj];rw [if_neg (by rw [h];decide)]
theorem xY {x:Ln} {r:List Ln} {a c m:Int} (h:So x a c=true) (he:x.1=a/\x.2.1=c):Dj (x::r) a c m=if x.2.2+m≠0 then (a,c,x.2.2+m)::r else r:=by simp only [Dj];rw [if_pos h,if_pos he]
theorem zK {x:Ln} {r:List Ln} {a c m:Int} (h:So x a c=true) (he:¬ (x.1=a/\x.2.1=c)):Dj (x::r) a c m=(a,c,m)::x::r:=by simp only [Dj];rw [if_pos h,if_neg he]
theorem fT (x y z:Int):∀ u ∈ [Value.int .i64 x,qzI y,qzI z],u.oneCell'=true:=by
 intro u hu
 simp at hu
 rcases hu with rfl|rfl|rfl <;> rfl
theorem nC {w:ql} {base n:Nat} {t:TypeId} {v:Value} {out:List Ln} {x y z:Int} (h:w.ownsRow base t 3 v n (Ak out++[qzI x,qzI y,qzI z])):w.ownsRow base t 3 v n (Ak (out++[(x,y,z)])):=by
 rw [K0];exact h
theorem Zz (ao:qm) (cap:Nat) (ls:List Ln) (a c m:Int) (w:ql) (hz:Ar w ao ls) (hn:ls.length<=1048576) (hm:-1000000000000<=m/\m<=1000000000000) (hb:∀ x ∈ ls,-4000000000000<=x.2.2/\x.2.2<=4000000000000) :
  qi 197 #[qf ao ls.length cap,qzI a,qzI c,qzI m] w λe w'=>∃ g cap',e=.returned (qf g (Dj ls a c m).length cap') /\
   w'.ownsRow w.heap.size 151 3 (qf g (Dj ls a c m).length cap') (Dj ls a c m).length (Ak (Dj ls a c m))/\BW w w':=by
 obtain ⟨i0,hi,G,H,I⟩:=info_parts sD;have HZ:=Aa hz;have HB:=Aa hb
 have a4:(w.alloc (.cells #[] 151)).ownsRow w.heap.size 151 3 (qf (some ⟨w.heap.size,0,none⟩) 0 0) 0 (Ak []):=World.ownsRow_lit w #[] 0 nL (by unfold maxLen;omega) rfl
 have b2:=Aa a4;clear hz hb a4;obtain ⟨A,hA⟩:=Ae (Dj ls a c m);rw [hA];have HA:=Aa hA;clear hA
 go_enter func197,ntmps197
 go_wp2
 go_loopw [9,10,11] (λs d i wr=>∃ (v:Value) (k:Nat) (done:Bool) (out:List Ln),v=s/\d=.bool done/\k<=ls.length/\i=qzI k/\A=out++Sh done (ls.drop k) a c m/\((done=false->out.length<=k)/\out.length<=k+1)/\wr.ownsRow w.heap.size 151 3 v out.length (Ak out)/\BW w wr) (λ_ _ i _=>ls.length - (intOf i).toNat)
 case atStart=>exact ⟨_,0,false,[],rfl,rfl,qw _,rfl,HA.o.s,⟨λ_=>qw _,qw _⟩,b2.o,by go_grown⟩
 case round =>
  obtain ⟨v,k,done,out,d3,rfl,hk,rfl,b4,⟨a3,d5⟩,ho,T⟩:=hrel;subst d3;have b6:=T.size;have O:=Aa ho
  have N:=Aa λj (hj:v.ownBlock=some j)=>(ho.lt j hj).1
  have f:=Aa b4;clear ho b4 b2
  by_cases hlt:k<ls.length
  ·have d1:(k:Int)<(ls.length:Int):=by omega
   obtain ⟨b,off,rfl,d4,c1,c2,c3⟩:=(HZ.o.below T).at hlt;have b5:=HB.o _ (F8 hlt);have a9:=Zo ls k hlt;obtain ⟨⟨x,y,z⟩,hx⟩:∃ x,Cw ls k=x:=⟨_,rfl⟩;rw [hx] at c1 c2 c3 a9 b5
   simp only at c1 c2 c3 b5
   have l:=Aa a9;obtain ⟨W,hW⟩:=A0 (wr.alloc (.cells #[qzI x,qzI y,qzI z] 151))
   have bW:BW w W:=by rw [hW];exact T.alloc b6 _
   have p:qj (W.ownsRow w.heap.size 151 3 v out.length (Ak out)):=by rw [qj,hW];exact O.o.alloc _
   have y0:W.cell? ⟨wr.heap.size,0,none⟩=some (qzI x):=by rw [hW];simp
   have y1:W.cell? ⟨wr.heap.size,1,none⟩=some (qzI y):=by rw [hW];simp
   have y2:W.cell? ⟨wr.heap.size,2,none⟩=some (qzI z):=by rw [hW];simp
   have f2:W.frozen? ⟨wr.heap.size,2,none⟩=false:=by rw [hW];simp [go_sem]
   have Y:=bW.size;have b1:wr.heap.size<W.heap.size:=qs W _ y0;clear a9 hx;go_upto_region 7 with fail
   rw [<- hW];clear hW c1 c2 c3
   cases done
   ·have S:=Aa (a3 rfl)
    clear a3
    cases hr:So (x,y,z) a c
    ·have L:qj (A=(out++[(x,y,z)])++Sh false (ls.drop (k+1)) a c m):=by
       rw [qj,f.o,Ok,l.o,Aah hr,Ok,List.append_assoc];rfl
     have D:=hr
     simp only [So,decide_eq_false_iff_not] at D
     have v1:¬ a<x:=by omega
     by_cases J:x=a
     ·have b9:(x == a)=true:=by simpa using J
      have v3:¬ c<=y:=by omega
      clear hr D f l J
      go_wp2_with (at_builtin;refine wpList_append_own _ rfl (.tmp 73) (.tmp 75) 36 rfl w.heap.size 151 i0 _ 3 24 underlying36 hi G H I rfl (by decide) _ _ _ rfl (p.o.alloc _) ⟨W.heap.size,0,none⟩ 1 1 [qzI x,qzI y,qzI z] rfl rfl (World.news_of_block (heap_alloc_new W _)) (fT x y z) (by unfold maxLen;omega) (by omega) (by simp;omega) ?_;intro v5 F C q _)
      have B:qj (F.ownsRow w.heap.size 151 3 v5 (out++[(x,y,z)]).length (Ak (out++[(x,y,z)]))):=by rw [qj,qv];exact nC C
      have R:BW w F:=(bW.alloc Y _).grown q (by simp;omega) N.o
      clear C q O p;go_wp2
      go_roundw
      case rel=>exact ⟨_,k+1,false,_,rfl,rfl,by omega,by go_num,L.o,⟨λ_=>by have:=S.o;simp;omega,by have:=S.o;simp;omega⟩,B.o,R⟩
      case measure=>simp [intOf];omega
     ·have b9:(x == a)=false:=by simpa using J
      clear hr D f l J
      go_wp2_with (at_builtin;refine wpList_append_own _ rfl (.tmp 73) (.tmp 75) 36 rfl w.heap.size 151 i0 _ 3 24 underlying36 hi G H I rfl (by decide) _ _ _ rfl (p.o.alloc _) ⟨W.heap.size,0,none⟩ 1 1 [qzI x,qzI y,qzI z] rfl rfl (World.news_of_block (heap_alloc_new W _)) (fT x y z) (by unfold maxLen;omega) (by omega) (by simp;omega) ?_;intro v5 F C q _)
      have B:qj (F.ownsRow w.heap.size 151 3 v5 (out++[(x,y,z)]).length (Ak (out++[(x,y,z)]))):=by rw [qj,qv];exact nC C
      have R:BW w F:=(bW.alloc Y _).grown q (by simp;omega) N.o
      clear C q O p;go_wp2
      go_roundw
      case rel=>exact ⟨_,k+1,false,_,rfl,rfl,by omega,by go_num,L.o,⟨λ_=>by have:=S.o;simp;omega,by have:=S.o;simp;omega⟩,B.o,R⟩
      case measure=>simp [intOf];omega
    ·have D:=hr
     simp only [So,decide_eq_true_eq] at D
     by_cases he:x=a/\y=c
     ·obtain ⟨J,v3⟩:=he
      have b9:(x == a)=true:=by simpa using J
      have d7:(y == c)=true:=by simpa using v3
      have v1:¬ a<x:=by omega
      have v4:c<=y:=by omega
      have hh:=xY (m:=m) (r:=ls.drop (k+1)) hr ⟨J,v3⟩
      have d6:IntKind.i64.wrap (z+m)=z+m:=by simp [IntKind.wrap,IntKind.bits,IntKind.signed];omega
      obtain ⟨V,X⟩:=A0 (W.setCell ⟨wr.heap.size,2,none⟩ (qzI (z+m)))
      have p0:V.cell? ⟨wr.heap.size,0,none⟩=some (qzI x):=by rw [X];simp [go_sem,y0]
      have p1:V.cell? ⟨wr.heap.size,1,none⟩=some (qzI y):=by rw [X];simp [go_sem,y1]
      have p2:V.cell? ⟨wr.heap.size,2,none⟩=some (qzI (z+m)):=by rw [X];simp [go_sem,y2]
      have bV:BW w V:=by rw [X];exact bW.setCell (by show w.heap.size<=wr.heap.size;omega) _
      have a7:qj (V.ownsRow w.heap.size 151 3 v out.length (Ak out)):=by
       rw [qj,X]
       exact Bf p.o _ _ (λg hg=>by have:=(O.o.lt g hg).2;simp only;omega)
      have c9:=bV.size;have HV:qj _:=X
      by_cases hs0:z+m=0
      ·have L:qj (A=out++Sh true (ls.drop (k+1)) a c m):=by
         rw [qj,f.o,Ok,l.o,hh,if_neg (by simpa using hs0)];rfl
       have b7:(z+m != 0)=false:=by simpa using hs0
       have b3:qj _:=hs0;clear hr D f l J v3 hh X p0 p1 p2;go_wp2
       go_roundw
       case rel=>exact ⟨_,k+1,true,out,rfl,rfl,by omega,by go_num,L.o,⟨(λh=>by cases h),by omega⟩,by have h:=a7.o;rw [HV.o,b3.o] at h;exact h,by have h:=bV;rw [HV.o,b3.o] at h;exact h⟩
       case measure=>simp [intOf];omega
      ·have L:qj (A=(out++[(x,y,z+m)])++Sh true (ls.drop (k+1)) a c m):=by
         rw [qj,f.o,Ok,l.o,hh,if_pos (by simpa using hs0),Pe,J,v3,List.append_assoc];rfl
       have b7:(z+m != 0)=true:=by simpa using hs0
       clear hr D f l J v3 hh hs0;go_upto_region 12 with fail
       rw [<- X];clear X
       go_wp2_with (at_builtin;refine wpList_append_own _ rfl (.tmp 62) (.tmp 64) 36 rfl w.heap.size 151 i0 _ 3 24 underlying36 hi G H I rfl (by decide) _ _ _ rfl (a7.o.alloc _) ⟨V.heap.size,0,none⟩ 1 1 [qzI x,qzI y,qzI (z+m)] rfl rfl (World.news_of_block (heap_alloc_new V _)) (fT x y (z+m)) (by unfold maxLen;omega) (by omega) (by simp;omega) ?_;intro v5 F C q _)
       have B:qj (F.ownsRow w.heap.size 151 3 v5 (out++[(x,y,z+m)]).length (Ak (out++[(x,y,z+m)]))):=by rw [qj,qv];exact nC C
       have R:BW w F:=(bV.alloc c9 _).grown q (by simp;omega) N.o
       clear C q O p a7;go_wp2
       go_roundw
       case rel=>exact ⟨_,k+1,true,_,rfl,rfl,by omega,by go_num,L.o,⟨(λh=>by cases h),by simp;omega⟩,B.o,R⟩
       case measure=>simp [intOf];omega
     ·have L:qj (A=(out++[(a,c,m)]++[(x,y,z)])++Sh true (ls.drop (k+1)) a c m):=by
        rw [qj,f.o,Ok,l.o,zK hr he,Pe,List.append_assoc,List.append_assoc];rfl
      have b8:∀ o,(W.alloc o).cell? ⟨wr.heap.size,0,none⟩=some (qzI x)/\(W.alloc o).cell? ⟨wr.heap.size,1,none⟩=some (qzI y)/\(W.alloc o).cell? ⟨wr.heap.size,2,none⟩=some (qzI z):=λo=>⟨(jg _ _ ⟨wr.heap.size,0,none⟩ b1).t y0,(jg _ _ ⟨wr.heap.size,1,none⟩ b1).t y1,(jg _ _ ⟨wr.heap.size,2,none⟩ b1).t y2⟩
      have a8:qj _:=b8
      have a5:qj (some wr.heap.size≠v.ownBlock):=λe=>by have:=(O.o.lt _ e.s).2;omega
      have Z:(a<x/\(x == a)=false)\/(¬ a<x/\(x == a)=true/\c<=y/\(y == c)=false):=by
       by_cases v1:a<x
       ·exact .inl ⟨v1,by simp;omega⟩
       ·have J:x=a:=by omega
        exact .inr ⟨v1,by simpa using J,by omega,by simp;intro h;exact he ⟨J,h⟩⟩
      clear hr D f l he b8
      rcases Z with ⟨v1,J⟩|⟨v1,J,v3,v4⟩
      all_goals
       go_wp2_with (at_builtin;first
        | (refine wpList_append_own _ rfl (.tmp 66) (.tmp 71) 36 rfl w.heap.size 151 i0 _ 3 24 underlying36 hi G H I rfl (by decide) _ _ _ rfl (p.o.alloc _) ⟨W.heap.size,0,none⟩ 1 1 [.int .i64 a,.int .i64 c,.int .i64 m] rfl rfl (World.news_of_block (heap_alloc_new W _)) (fT a c m) (by unfold maxLen;omega) (by omega) (by simp;omega) ?_;intro v5 F C q _;have R:BW w F:=(bW.alloc Y _).grown q (by simp;omega) N.o;have k0:=(q.cell_far ⟨wr.heap.size,0,none⟩ (by simp;omega) a5.o).t (a8.o _).1;have k1:=(q.cell_far ⟨wr.heap.size,1,none⟩ (by simp;omega) a5.o).t (a8.o _).2.1;have k2:=(q.cell_far ⟨wr.heap.size,2,none⟩ (by simp;omega) a5.o).t (a8.o _).2.2;have a6:=Aa C;have d2:=R.size;clear C q)
        | (refine wpList_append_own _ rfl (.tmp 73) (.tmp 75) 36 rfl w.heap.size 151 i0 _ 3 24 underlying36 hi G H I rfl (by decide) _ _ _ rfl (a6.o.alloc _) ⟨F.heap.size,0,none⟩ 1 1 [.int .i64 x,.int .i64 y,.int .i64 z] rfl rfl (World.news_of_block (heap_alloc_new F _)) (fT x y z) (by unfold maxLen;omega) (by omega) (by simp;omega) ?_;intro v6 w6 o6 g6 _))
       have c8:qj (w6.ownsRow w.heap.size 151 3 v6 (out++[(a,c,m)]++[(x,y,z)]).length (Ak (out++[(a,c,m)]++[(x,y,z)]))):=by
        rw [qj,qv,qv,K0,K0];exact o6
       have q6:BW w w6:=(R.alloc d2 _).grown g6 (by simp;omega) (λj hj=>(a6.o.lt j hj).1)
       clear o6 g6 O p a6;go_wp2
       go_roundw
       case rel=>exact ⟨_,k+1,true,_,rfl,rfl,by omega,by go_num,L.o,⟨(λh=>by cases h),by have:=S.o;simp;omega⟩,c8.o,q6⟩
       case measure=>simp [intOf];omega
   ·have L:qj (A=(out++[(x,y,z)])++Sh true (ls.drop (k+1)) a c m):=by
      rw [qj,f.o,Pe,l.o,Pe,List.append_assoc];rfl
    clear f l
    go_wp2_with (at_builtin;refine wpList_append_own _ rfl (.tmp 73) (.tmp 75) 36 rfl w.heap.size 151 i0 _ 3 24 underlying36 hi G H I rfl (by decide) _ _ _ rfl (p.o.alloc _) ⟨W.heap.size,0,none⟩ 1 1 [qzI x,qzI y,qzI z] rfl rfl (World.news_of_block (heap_alloc_new W _)) (fT x y z) (by unfold maxLen;omega) (by omega) (by simp;omega) ?_;intro v5 F C q _)
    have B:qj (F.ownsRow w.heap.size 151 3 v5 (out++[(x,y,z)]).length (Ak (out++[(x,y,z)]))):=by rw [qj,qv];exact nC C
    have R:=(bW.alloc Y _).grown q (by simp;omega) N.o
    clear C q O p;go_wp2
    go_roundw
    case rel=>exact ⟨_,k+1,true,_,rfl,rfl,by omega,by go_num,L.o,⟨(λh=>by cases h),by simp;omega⟩,B.o,R⟩
    case measure=>simp [intOf];omega
  ·have d0:k=ls.length:=by omega
   subst d0
   have d1:¬ (ls.length:Int)<(ls.length:Int):=by omega
   have hd:ls.drop ls.length=[]:=ji nL
   cases done
   ·have L:qj (A=out++[(a,c,m)]):=by rw [qj,f.o,hd];rfl
    clear f hd
    go_wp2_with (at_builtin;refine wpList_append_own _ rfl (.tmp 79) (.tmp 84) 36 rfl w.heap.size 151 i0 _ 3 24 underlying36 hi G H I rfl (by decide) _ _ _ rfl (O.o.alloc _) ⟨wr.heap.size,0,none⟩ 1 1 [qzI a,qzI c,qzI m] rfl rfl (World.news_of_block (heap_alloc_new wr _)) (fT a c m) (by unfold maxLen;omega) (by omega) (by simp;omega) ?_;intro v5 F C q _;obtain ⟨U,M,b0,-,-⟩:=Ft (ls:=out++[(a,c,m)]) (nC C);subst b0)
    have B:qj (F.ownsRow w.heap.size 151 3 (qf U (out++[(a,c,m)]).length M) (out++[(a,c,m)]).length (Ak (out++[(a,c,m)]))):=by
     have h:=nC C;rw [qv] at h ⊢;exact h
    have R:=(T.alloc b6 _).grown q (by simp;omega) N.o
    clear C q O;go_wp2;go_ret;have hN:=L.o;subst hN
    exact ⟨U,M,by rw [qv];rfl,B.o,R⟩
   ·have L:qj (A=out):=by rw [qj,f.o,hd];simp [Sh]
    obtain ⟨U,M,b0,-,-⟩:=Ft O.o;subst b0;clear f hd;go_wp2;go_ret;have hN:=L.o;subst hN;exact ⟨U,M,rfl,O.o,T⟩
end Go.Proofs.YtfpafnefpmmofaaGreatDoor
