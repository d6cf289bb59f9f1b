import Derived.Test.YtfpafnefpmmofaaGreatDoorJW2c
set_option maxRecDepth 100000
set_option maxHeartbeats 12800000
namespace Go.Proofs.YtfpafnefpmmofaaGreatDoor
open Go.RowKit Go.Proofs.Tryz
theorem Zb (L:Int) (ao:qm) (cap:Nat) (fs:List Av) (w:ql) (b4:0<=L) (b5:L<=1048576) (J:Aw w ao fs) (hd:Xq fs) :
  qi 56 #[qf ao fs.length cap,qzI L] w (qp (qzI (Dz fs L)) w):=by
 have hn:fs.length<=9223372036854775807:=by have:=hd.1;unfold maxLen at this;omega
 have HD:qj (∀ k,k<fs.length->(Dn fs k).2.length<=9223372036854775807):=by
  intro k hk;have:=hd.2 _ (Mq hk);unfold maxLen at this;omega
 clear hd
 by_cases hneg:L - (fs.length:Int)<0
 ·have HE:qj (Dz fs L = -1):=if_pos hneg
  go_enter func56,ntmps56
  go_wp2;go_ret;exact ⟨Af HE.o.s,bR⟩
 ·have HE:qj (Dz fs L=Ev fs (L - (fs.length:Int))):=if_neg hneg
  rcases J with rfl|⟨b,off,rfl,hb,T⟩
  ·go_enter func56,ntmps56
   go_wp2;refine wp_loop_rounds 1 ?_;rw [rounds_succ];go_wp2;go_ret
   exact ⟨Af (by rw [HE.o];simp [Ev]),bR⟩
  ·have HC:=Aa T
   clear T
   go_enter func56,ntmps56
   go_wp2
   go_loopw [1,5] (λv i wr=>∃ (k:Nat) (l:Int),k<=fs.length/\i=qzI k/\v=qzI l/\0<=l/\l<=1048576/\Dz fs L=Ev (fs.drop k) l/\BW w wr) (λ_ i _=>fs.length - (intOf i).toNat)
   case atStart=>exact ⟨0,_,qw _,rfl,rfl,by omega,by omega,HE.o,bR⟩
   case round =>
    obtain ⟨k,l,hk,rfl,rfl,h0,O,d,p⟩:=hrel
    by_cases hlt:k<fs.length
    ·have c1:=(p.c b (off+k*2) hb).t (HC.o k hlt).1
     have c2:=(p.c b (off+k*2+1) hb).t (HC.o k hlt).2
     have a6:(k:Int)<(fs.length:Int):=by omega
     have C:=fY fs k l hlt;have q:=HD.o k hlt;obtain ⟨⟨n,s⟩,I⟩:∃ f,Dn fs k=f:=⟨_,rfl⟩;rw [I] at c1 c2 C q
     simp only at c1 c2 C q
     by_cases hng:l - (s.length:Int)<0
     ·have H:qj (Dz fs L = -1):=by rw [qj,d,C,if_pos hng]
      have HF:qj (iJ s l = -1):=if_pos hng;clear C I d;go_wp2_with fail
      refine (T0 _ _ _ _ ⟨O,h0⟩ q).m ?_;rintro e w1 ⟨rfl,V⟩;rw [HF.o];go_wp2;go_ret;exact ⟨Af H.o.s,p.t (V.m p.size)⟩
     ·have H:qj (Dz fs L=Ev (fs.drop (k+1)) (l - (s.length:Int))):=by rw [qj,d,C,if_neg hng]
      have HF:qj (iJ s l=l - (s.length:Int)):=if_neg hng;clear C I d;go_wp2_with fail
      refine (T0 _ _ _ _ ⟨O,h0⟩ q).m ?_;rintro e w1 ⟨rfl,V⟩;rw [HF.o];go_wp2
      go_roundw
      case rel=>exact ⟨k+1,_,by omega,by go_num,rfl,by omega,by omega,H.o,p.t (V.m p.size)⟩
      case measure=>simp [intOf];omega
    ·have:k=fs.length:=by omega
     subst this
     have H:qj (Dz fs L=l):=by rw [qj,d,ji nL];rfl
     clear d;go_wp2;go_ret;exact ⟨Af H.o.s,p⟩
theorem Om (L kd:Int) (ao:qm) (cap:Nat) (fs:List Av) (w:ql) (b4:0<=L) (b5:L<=1048576) (J:Aw w ao fs) (hd:Xq fs) :
  qi 23 #[.agg #[qzI kd,qf ao fs.length cap],qzI L] w λe w'=>e=.returned (qzI (Dz fs L))/\BW w w':=by
 have F:Below w.heap.size w (w.alloc (.cells #[qzI kd,qf ao fs.length cap] 62)):=bR.alloc nL _;have a3:=J.below F
 have g4:-1<=Dz fs L:=by
  have:∀ (gs:List Av) (l:Int),-1<=l->-1<=Ev gs l:=by
   intro gs
   induction gs with
   | nil=>intro l h;exact h
   | cons f r ih=>intro l h;simp only [Ev];split;omega;exact ih _ (by omega)
  unfold Dz;split
  ·omega
  ·exact this _ _ (by omega)
 go_enter func23,ntmps23
 go_wp2_with fail
 refine (Zb _ _ _ _ _ b4 b5 a3 hd).m ?_;rintro e w1 ⟨rfl,V⟩;have bel:=F.t (V.m F.size);clear V F a3 J hd;obtain ⟨r,hr⟩:=Ae (Dz fs L);rw [hr] at g4 ⊢;have HR:=Aa hr;clear hr
 by_cases hneg:r<0
 ·obtain rfl:r = -1:=by omega
  go_wp2;go_ret;exact ⟨Af HR.o.s,bel⟩
 ·go_wp2
  go_ret;exact ⟨Af HR.o.s,bel⟩
def J7:List U2->Int->Int
 | [],left=>left
 | m::r,left=>if Dz m.2 left<0 then -1 else J7 r (Dz m.2 left)
def F4 (D:List U2) (left:Int):Int:=if left - (D.length:Int)<0 then -1 else J7 D (left - (D.length:Int))
theorem Tv (D:List U2) (k:Nat) (left:Int) (h:k<D.length):J7 (D.drop k) left=if Dz (mAt D k).2 left<0 then -1 else J7 (D.drop (k+1)) (Dz (mAt D k).2 left):=by
 rw [jc h,kV h];rfl
theorem tM (fs:List Av):∀ left,0<=Ev fs left->Ev fs left<=left:=by
 induction fs with
 | nil=>intro left _;simp [Ev]
 | cons f r ih =>
  intro left h
  simp only [Ev] at h ⊢
  split at h
  ·omega
  ·rename_i hn
   rw [if_neg hn]
   have:=ih _ h
   omega
theorem Xf {fs:List Av} {left:Int} (h:0<=Dz fs left):Dz fs left<=left - (fs.length:Int):=by
 unfold Dz at h ⊢
 split at h
 ·omega
 ·rename_i hn
  rw [if_neg hn]
  have:=tM fs _ h
  omega
theorem Aav (fs:List Av) {left:Int} (h:Dz fs left<0):Dz fs left = -1:=by
 have:∀ (gs:List Av) (l:Int),0<=l->Ev gs l<0->Ev gs l = -1:=by
  intro gs
  induction gs with
  | nil=>intro l h X;simp only [Ev] at X;omega
  | cons f r ih =>
   intro l h X
   simp only [Ev] at X ⊢
   split
   ·rfl
   ·rename_i hn
    rw [if_neg hn] at X
    exact ih _ (by omega) X
 unfold Dz at h ⊢
 split
 ·rfl
 ·rename_i hn
  rw [if_neg hn] at h
  exact this _ _ (by omega) h
theorem mO {D:List U2} : ∀ {left:Int},0<=J7 D left->∀ m ∈ D,(m.2.length:Int)+Gs m.2<=left:=by
 induction D with
 | nil=>intro left _ m hm;cases hm
 | cons x r ih =>
  intro left h m hm
  simp only [J7] at h
  split at h
  ·omega
  ·rename_i hn
   have O:0<=Dz x.2 left:=by omega
   have X:=tH O;have h3:=Xf O
   rcases List.mem_cons.1 hm with rfl|hr
   ·exact X
   ·have:=ih h m hr;omega
theorem Xw {D:List U2} {left:Int} (h:0<=F4 D left):(D.length:Int)<=left/\∀ m ∈ D,(m.2.length:Int)+Gs m.2<=left:=by
 unfold F4 at h
 split at h
 ·omega
 ·exact ⟨by omega,λm hm=>by have:=mO h m hm;omega⟩
theorem U1 (s:Int) (i2:0<=s) (hs:s<=1048576) (ao:qm) (cap:Nat) (a:List MV) (w:ql) (J:Dq w ao a) (hd:cS a) :
  qi 5 #[qf ao a.length cap,qzI s] w (qp (qzI (F4 (As a) s)) w):=by
 have hn:a.length<=9223372036854775807:=by have:=hd.1;unfold maxLen at this;omega
 have HD:=Aa λk (hk:k<a.length)=>hd.2 _ (I8 hk)
 have HZ:=Aa J;clear hd J
 have d0:IntKind.i64.wrap (s - (a.length:Int))=s - (a.length:Int):=by simp [IntKind.wrap,IntKind.bits,IntKind.signed];omega
 by_cases hneg:s - (a.length:Int)<0
 ·have HE:qj (F4 (As a) s = -1):=by unfold F4;rw [Bh];exact if_pos hneg
  go_enter func5,ntmps5
  go_wp2;go_ret;exact ⟨Af HE.o.s,bR⟩
 ·have HE:qj (F4 (As a) s=J7 (As a) (s - (a.length:Int))):=by unfold F4;rw [Bh];exact if_neg hneg
  go_enter func5,ntmps5
  go_wp2
  go_loopw [1,5] (λv i wr=>∃ (k:Nat) (l:Int),k<=a.length/\i=qzI k/\v=qzI l/\0<=l/\l<=1048576/\F4 (As a) s=J7 ((As a).drop k) l/\BW w wr) (λ_ i _=>a.length - (intOf i).toNat)
  case atStart=>exact ⟨0,_,qw _,rfl,rfl,by omega,by omega,HE.o,bR⟩
  case round =>
   obtain ⟨k,l,hk,rfl,rfl,h0,O,d,p⟩:=hrel
   by_cases hlt:k<a.length
   ·obtain ⟨b,off,rfl,hb,c1,c2,I⟩:=(HZ.o.below p).at hlt
    have a6:(k:Int)<(a.length:Int):=by omega
    have C:=Tv (As a) k l (by rw [Bh];exact hlt)
    rw [Ht hlt] at C;have q:=HD.o k hlt;obtain ⟨⟨kd,fa,fc,fs⟩,hx⟩:∃ x,Gm a k=x:=⟨_,rfl⟩;rw [hx] at c1 c2 C q I
    simp only at c1 c2 C q I
    by_cases hng:Dz fs l<0
    ·have H:qj (F4 (As a) s = -1):=by rw [qj,d,C,if_pos hng]
     have HF:=Aa (Aav fs hng);clear C hx d hng;go_wp2_with fail
     refine (Om _ _ _ _ _ _ h0 O I q).m ?_;rintro e w1 ⟨rfl,V⟩;rw [HF.o];go_wp2;go_ret;exact ⟨Af H.o.s,p.t (V.m p.size)⟩
    ·have H:qj (F4 (As a) s=J7 ((As a).drop (k+1)) (Dz fs l)):=by rw [qj,d,C,if_neg hng]
     have g3:=Xf (fs:=fs) (left:=l) (by omega)
     have HC:qj (qi 23 #[.agg #[qzI kd,qf fa fs.length fc],qzI l] wr (qp (qzI (Dz fs l)) wr)):=Om _ _ _ _ _ _ h0 O I q;obtain ⟨r,hr⟩:=Ae (Dz fs l);rw [hr] at H hng g3 HC;clear C hx d hr;go_wp2_with fail
     refine HC.o.m ?_;rintro e w1 ⟨rfl,V⟩;go_wp2
     go_roundw
     case rel=>exact ⟨k+1,_,by omega,by go_num,rfl,by omega,by omega,H.o,p.t (V.m p.size)⟩
     case measure=>simp [intOf];omega
   ·have:k=a.length:=by omega
    subst this
    have H:qj (F4 (As a) s=l):=by rw [qj,d,ji (by rw [Bh];exact nL)];rfl
    clear d;go_wp2;go_ret;exact ⟨Af H.o.s,p⟩
def bT (base:Nat) (x:MV):Prop:=∃ g,x.ao=some (qzA g 0)/\base<g/\x.cap=x.fs.length
theorem Aw.set {w:ql} {g o B:Nat} {v:Value} {fs:List Av} (h:Aw w (some (qzA g 0)) fs) (i1:B<g):Aw (w.setCell (qzA B o) v) (some (qzA g 0)) fs:=by
 rcases h with h|⟨b,off,O,X,h3⟩
 ·exact .inl h
 ·obtain ⟨rfl,rfl⟩:g=b/\0=off:=by simpa using O
  refine .inr ⟨g,0,rfl,by simpa using X,λi hi=>?_⟩
  have a1:(w.setCell (qzA B o) v).cell? (qzA g (0+i*2))=w.cell? (qzA g (0+i*2)):=World.cell?_setCell_other _ _ _ _ (by first|(simp;done)|(simp;omega))
  have a2:(w.setCell (qzA B o) v).cell? (qzA g (0+i*2+1))=w.cell? (qzA g (0+i*2+1)):=World.cell?_setCell_other _ _ _ _ (by first|(simp;done)|(simp;omega))
  rw [a1,a2];exact h3 i hi
theorem Aem (A:List MV) (n k:Nat) (x:MV) (hk:A.length=k) (h:k<n):(A++List.replicate (n - k) MV.z).set k x=A++[x]++List.replicate (n - (k+1)) MV.z:=by
 subst hk
 rw [List.set_append,if_neg (by omega),Nat.sub_self,show n - A.length=n - (A.length+1)+1 by omega,List.replicate_succ,List.set_cons_zero,List.append_assoc]
 rfl
theorem Agb (A:List MV) (n k:Nat) (hk:A.length=k) (h:k<n):Gm (A++List.replicate (n - k) MV.z) k=MV.z:=by
 subst hk
 have e:n - A.length=n - (A.length+1)+1:=by omega
 simp [Gm,e,List.replicate_succ]
theorem Xd {w:ql} {base n size B i:Nat} {t:TypeId} {v x:Value} {a:List Value} (h:w.ownsRow base t size v n a) (hB:B<base:=by omega):(w.setCell (qzA B i) x).ownsRow base t size v n a:=by
 have hg:w.grownBy (w.setCell (qzA B i) x) (some B):=⟨rfl,rfl,rfl,by simp,λj _ hj=>Below.heap_setCell _ _ _ _ (λe=>hj (by rw [e]))⟩
 exact h.kept hg (.inr λe=>by have:=(h.lt _ e).1;omega)
structure Qq (B:Nat) (w:ql) (y:MV):Prop where
 row:w.ownsRow (B+1) 136 2 (qf y.ao y.fs.length y.cap) y.fs.length (Bt y.fs)
theorem Qq.lt {B:Nat} {w:ql} {y:MV} (h:Qq B w y) (g:Nat) (e:y.ao=some (qzA g 0)):B<g/\g<w.heap.size:=by
 have:=h.row.lt g (by rw [e];rfl);omega
theorem Qq.below {B:Nat} {w w':ql} {y:MV} (h:Qq B w y) (hb:BW w w'):Qq B w' y:=⟨Ja h.row hb⟩
theorem Qq.set2 {B:Nat} {w:ql} {y:MV} (h:Qq B w y) (i j:Nat) (u v:Value):Qq B ((w.setCell (qzA B i) u).setCell (qzA B j) v) y:=⟨Xd (Xd h.row)⟩
theorem Qq.mk' {w w1 M:ql} {g:Nat} {kd:Int} {fs:List Av} (hw:w.heap.size<w1.heap.size) (o:M.ownsRow w1.heap.size 136 2 (qf (some (qzA g 0)) fs.length fs.length) fs.length (Bt fs)):Qq w.heap.size M ⟨kd,some (qzA g 0),fs.length,fs⟩:=⟨Yj o hw⟩
theorem Ux (ao:qm) (cap:Nat) (a:List MV) (w:ql) (J:Dq w ao a) (hn:a.length<=1048576) (hd:∀ x ∈ a,x.fs.length<=1048576) :
  qi 8 #[qf ao a.length cap] w λe w'=>∃ G,e=.returned (qf (some ⟨w.heap.size,0,none⟩) a.length a.length)/\As G=As a/\Dq w' (some ⟨w.heap.size,0,none⟩) G/\(∀ y ∈ G,bT w.heap.size y)/\(w'.ownsRow w.heap.size 68 2 (qf (some ⟨w.heap.size,0,none⟩) a.length a.length) a.length (Gv G)/\(∀ y ∈ G,Qq w.heap.size w' y)/\List.Pairwise (λx y:MV=>x.ao≠y.ao) G)/\BW w w':=by
 obtain ⟨i0,hi,g6,a3,g7⟩:=info_parts Aib;have b8:=oH a.length;have HZ:=Aa J
 have HD:=Aa λk (hk:k<a.length)=>hd _ (I8 hk)
 clear J hd
 go_enter func8,ntmps8
 go_wp2_with (refine wpList_make_full _ rfl (.tmp 6) (.tmp 6) 45 rfl w.heap.size 68 i0 _ 2 underlying45 hi g6 a3 .i64 .i64 _ _ a.length rfl rfl rfl rfl (by rw [g7];omega) (by unfold maxLen;omega) nL ?_;intro w1 U hg)
 rw [b8] at U
 have b6:=bR.grown hg nL (λk hk=>by cases hk)
 clear b8 hg
 go_loopw [4] (λi wr=>∃ (A:List MV) (k:Nat),A.length=k/\k<=a.length/\i=qzI k/\As A=(As a).take k/\(∀ y ∈ A,bT w.heap.size y/\Aw wr y.ao y.fs)/\(∀ y ∈ A,Qq w.heap.size wr y)/\(List.Pairwise (λx y:MV=>x.ao≠y.ao) A)/\wr.ownsRow w.heap.size 68 2 (qf (some ⟨w.heap.size,0,none⟩) a.length a.length) a.length (Gv (A++List.replicate (a.length - k) MV.z))/\BW w wr) (λi _=>a.length - (intOf i).toNat)
 case atStart=>exact ⟨[],0,rfl,qw _,rfl,rfl,(λy hy=>by cases hy),(λy hy=>by cases hy),List.Pairwise.nil,U,b6⟩
 case round =>
  obtain ⟨A,k,Z,hk,rfl,c8,b7,b9,c9,ho,p⟩:=hrel;have W:=Aa b9;have a4:=Aa c9;clear b9 c9;clear U b6;have d5:=Aa Z;have b0:=Aa c8;have N:=Aa b7;clear c8 b7
  by_cases hlt:k<a.length
  ·obtain ⟨b,off,rfl,hb,c1,c2,I⟩:=(HZ.o.below p).at hlt
   have a6:(k:Int)<(a.length:Int):=by omega
   have q:=HD.o _ hlt
   have a5:qj ((As a).take (k+1)=(As a).take k++[((Gm a k).kd,(Gm a k).fs)]):=by rw [qj,Xx _ _ (by rw [Bh];exact hlt),Ht hlt]
   have a8:qj ((A++List.replicate (a.length - k) MV.z).length=a.length):=by rw [qj];simp;omega
   have HO:=Aa ho;have HA:=Aa (Agb A a.length k Z hlt)
   have d9:=Aa λx=>Aem A a.length k x Z hlt
   have d0:=(ho.lt _ rfl).2;obtain ⟨⟨kd,fa,fc,fs⟩,hx⟩:∃ x,Gm a k=x:=⟨_,rfl⟩;rw [hx] at c1 c2 I q a5
   simp only at c1 c2 I q a5
   clear hx ho Z;go_wp2_with fail
   refine (Y5 _ _ _ _ _ I q).m ?_;rintro e M ⟨g,rfl,o2,b2⟩;have ho:=Ja HO.o b2;have h9:=(o2.lt g rfl).1
   have Y:=Lk (A++List.replicate (a.length - k) MV.z) k (by rw [a8.o];exact hlt)
   rw [HA.o] at Y
   have c3:M.cell? ⟨w.heap.size,k*2,none⟩=some (qzI 0):=by rw [ho.cellAt (k*2) (by omega)];exact Y.1
   have c4:M.cell? ⟨w.heap.size,k*2+1,none⟩=some qe:=by rw [ho.cellAt (k*2+1) (by omega)];exact Y.2
   have c5:M.frozen? ⟨w.heap.size,k*2,none⟩=false:=ho.frozenAt _;have c6:M.frozen? ⟨w.heap.size,k*2+1,none⟩=false:=ho.frozenAt _;have a7:=Aa (Ud o2)
   have HR:qj (((M.setCell ⟨w.heap.size,k*2,none⟩ (qzI kd)).setCell ⟨w.heap.size,k*2+1,none⟩ (qf (some (qzA g 0)) fs.length fs.length)).ownsRow w.heap.size 68 2 (qf (some ⟨w.heap.size,0,none⟩) a.length a.length) a.length (Gv (A++[⟨kd,some (qzA g 0),fs.length,fs⟩]++List.replicate (a.length - (k+1)) MV.z))):=by
    have R:=((ho.stored (k*2) (qzI kd)).1.stored (k*2+1) (qf (some (qzA g 0)) fs.length fs.length)).1
    have S:=oT (A++List.replicate (a.length - k) MV.z) ⟨kd,some (qzA g 0),fs.length,fs⟩ k (by rw [a8.o];exact hlt)
    simp only at S
    rw [S,d9.o] at R;exact R
   have d3:qj (Below w.heap.size w ((M.setCell ⟨w.heap.size,k*2,none⟩ (qzI kd)).setCell ⟨w.heap.size,k*2+1,none⟩ (qf (some (qzA g 0)) fs.length fs.length))):=((p.t (b2.m p.size)).setCell nL _).setCell nL _
   have d4:qj (∀ y ∈ A++[⟨kd,some (qzA g 0),fs.length,fs⟩],bT w.heap.size y/\Aw ((M.setCell ⟨w.heap.size,k*2,none⟩ (qzI kd)).setCell ⟨w.heap.size,k*2+1,none⟩ (qf (some (qzA g 0)) fs.length fs.length)) y.ao y.fs):=by
    intro y hy
    rcases List.mem_append.1 hy with h|h
    ·obtain ⟨⟨gy,e1,e2,e3⟩,e4⟩:=N.o y h
     refine ⟨⟨gy,e1,e2,e3⟩,?_⟩;have e5:=e4.below b2;rw [e1] at e5 ⊢;exact Aw.set (Aw.set e5 e2) e2
    ·obtain rfl:y=⟨kd,some (qzA g 0),fs.length,fs⟩:=by simpa using h
     exact ⟨⟨g,rfl,by omega,rfl⟩,Aw.set (Aw.set a7.o (by omega)) (by omega)⟩
   have a9:qj (∀ y ∈ A++[⟨kd,some (qzA g 0),fs.length,fs⟩],Qq w.heap.size ((M.setCell ⟨w.heap.size,k*2,none⟩ (qzI kd)).setCell ⟨w.heap.size,k*2+1,none⟩ (qf (some (qzA g 0)) fs.length fs.length)) y):=by
    intro y hy
    rcases List.mem_append.1 hy with h|h
    ·exact ((W.o y h).below b2).set2 _ _ _ _
    ·obtain rfl:y=⟨kd,some (qzA g 0),fs.length,fs⟩:=by simpa using h
     exact (Qq.mk' d0 o2).set2 _ _ _ _
   have b3:qj (List.Pairwise (λx y:MV=>x.ao≠y.ao) (A++[⟨kd,some (qzA g 0),fs.length,fs⟩])):=by
    refine List.pairwise_append.2 ⟨a4.o,List.pairwise_singleton _ _,λy hy z J e=>?_⟩
    obtain rfl:z=⟨kd,some (qzA g 0),fs.length,fs⟩:=by simpa using J
    obtain ⟨gy,e1,e2,e3⟩:=(N.o y hy).1;have h4:=(W.o y hy).lt gy e1;rw [e1] at e
    injection e with e
    injection e with e
    omega
   have d7:qj (As (A++[⟨kd,some (qzA g 0),fs.length,fs⟩])=(As a).take (k+1)):=by
    rw [qj,a5.o,<- b0.o];simp [As,MV.m]
   clear ho Y o2 N a7 W a4;go_wp2
   go_roundw
   case rel=>exact ⟨A++[⟨kd,some (qzA g 0),fs.length,fs⟩],k+1,by rw [qv,d5.o];rfl,by omega,by go_num,d7.o,d4.o,a9.o,b3.o,HR.o,d3.o⟩
   case measure=>simp [intOf];omega
  ·have g2:k=a.length:=by omega
   subst g2
   have HM:qj (Dq wr (some ⟨w.heap.size,0,none⟩) A):=by
    rw [Nat.sub_self,List.replicate_zero,List.append_nil] at ho
    obtain ⟨g0,g9,hv,hm,_⟩:=eU ho (λy hy=>(N.o y hy).2)
    obtain ⟨rfl,_⟩:some (⟨w.heap.size,0,none⟩:Addr)=g0/\_:=by simpa using hv
    exact hm
   have d8:qj (As A=As a):=by rw [qj,b0.o,List.take_of_length_le (by rw [Bh];exact nL)]
   have d6:qj (wr.ownsRow w.heap.size 68 2 (qf (some ⟨w.heap.size,0,none⟩) a.length a.length) a.length (Gv A)):=by rw [Nat.sub_self,List.replicate_zero,List.append_nil] at ho;exact ho
   clear ho;go_wp2;go_ret
   exact ⟨A,rfl,d8.o,HM.o,λy hy=>(N.o y hy).1,⟨d6.o,W.o,a4.o⟩,p⟩
theorem Uy (ao bo:qm) (c1 c2:Nat) (a G:List MV) (w:ql) (hx:Dq w ao a) (hy:Dq w bo G) (he:As a=As G) (O:a.length<=1099511627776) (hd:∀ x ∈ a,x.fs.length<=1099511627776) :
  qi 12 #[qf ao a.length c1,qf bo G.length c2] w (qp (.bool true) w):=by
 have hl:a.length=G.length:=by have:=congrArg List.length he;rwa [Bh,Bh] at this
 have HX:=Aa hx;have HY:=Aa hy
 have HV:qj (∀ k,k<a.length->((Gm a k).kd,(Gm a k).fs)=((Gm G k).kd,(Gm G k).fs)):=λk hk=>by
  rw [<- Ht hk,<- Ht (by omega),he]
 have HD:=Aa λk (hk:k<a.length)=>hd _ (I8 hk)
 clear hx hy he hd;rw [<- hl];have HL:=Aa hl;clear hl
 go_enter func12,ntmps12
 go_wp2
 go_loopw [5] (λi wr=>∃ k:Nat,k<=a.length/\i=qzI k/\BW w wr) (λi _=>a.length - (intOf i).toNat)
 case atStart=>exact ⟨0,qw _,rfl,bR⟩
 case round =>
  obtain ⟨k,hk,rfl,p⟩:=hrel
  by_cases hlt:k<a.length
  ·obtain ⟨b,off,rfl,hb,e1,e2,f1⟩:=(HX.o.below p).at hlt
   obtain ⟨b',h5,rfl,h8,e3,e4,f2⟩:=(HY.o.below p).at (k:=k) (by have:=HL.o;omega)
   have a6:(k:Int)<(a.length:Int):=by omega
   have hv:=HV.o k hlt;have q:=HD.o k hlt;obtain ⟨⟨kd,fa,fc,fs⟩,d1⟩:∃ x,Gm a k=x:=⟨_,rfl⟩;obtain ⟨⟨g8,h6,h7,g1⟩,d2⟩:∃ x,Gm G k=x:=⟨_,rfl⟩;rw [d1] at e1 e2 f1 hv q;rw [d2] at e3 e4 f2 hv
   simp only at e1 e2 e3 e4 f1 f2 hv q
   obtain ⟨rfl,rfl⟩:kd=g8/\fs=g1:=by simpa using hv
   clear d1 d2 hv;go_wp2;have g5:=nO kd fs
   go_region_with (go_at_call 42;refine (Yu _ _ _ _ _ _ _ _ _ (f1.below (bR.drew)) (f2.below (bR.drew)) q q).m ?_;rintro e M ⟨rfl,b2⟩;rw [g5])
   all_goals
    go_wp2
    go_roundw
    case rel=>exact ⟨k+1,by omega,by go_num,(p.drew).t (b2.m p.size)⟩
    case measure=>simp [intOf];omega
  ·go_wp2
   go_ret;exact ⟨rfl,p⟩
def mkF (k n:Nat):List Av:=(List.range n).map λi=>(((k+2*i:Nat):Int),Vh (k+2*i+1))
theorem Vb (k n:Nat):(mkF k n).length=n:=by simp [mkF]
def It (fs:List Av) (k j:Nat):List Av:=mkF k j++fs.drop j
theorem Zy (fs:List Av) (k j:Nat) (h:j<=fs.length):(It fs k j).length=fs.length:=by simp [It,Vb];omega
theorem oV (fs:List Av) (k:Nat):It fs k 0=fs:=by simp [It,mkF]
theorem sQ (fs:List Av) (k:Nat):It fs k fs.length=mkF k fs.length:=by simp [It]
theorem kA (fs:List Av) (k j:Nat) (h:j<fs.length):(It fs k j).set j (((k+2*j:Nat):Int),Vh (k+2*j+1))=It fs k (j+1):=by
 unfold It
 rw [List.set_append,if_neg (by rw [Vb];omega),Vb,Nat.sub_self,jc h,List.set_cons_zero]
 simp [mkF,List.range_succ]
theorem yR {w w':ql} (h:BW w w') (r:Option Nat):w.grownBy w' r:=⟨h.os,h.tape,h.output,h.size,λk hk _=>h.block k hk⟩
theorem Wq (ao:qm) (cap base k:Nat) (fs:List Av) (w:ql) (ho:w.ownsRow base 136 2 (qf ao fs.length cap) fs.length (Bt fs)) (hn:fs.length<=1099511627) (S:k<=1099511627) :
  qi 48 #[qf ao fs.length cap,qzI k] w λe w'=>e=.returned (qzI (k+2*fs.length:Nat)) /\
   w'.ownsRow base 136 2 (qf ao fs.length cap) fs.length (Bt (mkF k fs.length))/\w.grownBy w' (Value.slice ao fs.length cap).ownBlock:=by
 rcases ho.2 with ⟨u,G⟩|⟨g,q,O,u,f⟩
 ·obtain rfl:fs=[]:=qz G
  obtain ⟨rfl,rfl⟩:ao=none/\cap=0:=by simpa using u
  clear u G
  go_enter func48,ntmps48
  go_wp2;refine wp_loop_rounds 1 ?_;rw [rounds_succ];go_wp2;go_ret
  exact ⟨Af (by simp),jh _ _ _ _,jm _ _⟩
 ·obtain ⟨rfl,rfl⟩:ao=some (qzA g 0)/\cap=q:=by simpa using u
  clear u f
  go_enter func48,ntmps48
  go_wp2
  go_loopw [1,5] (λc i wr=>∃ j:Nat,j<=fs.length/\i=qzI j/\c=qzI (k+2*j:Nat)/\wr.ownsRow base 136 2 (qf (some (qzA g 0)) fs.length cap) fs.length (Bt (It fs k j))/\w.grownBy wr (some g)) (λ_ i _=>fs.length - (intOf i).toNat)
  case atStart=>exact ⟨0,qw _,rfl,rfl,by rw [oV];exact ho,jm _ _⟩
  case round =>
   obtain ⟨j,H,rfl,rfl,a,d⟩:=hrel;clear ho
   by_cases hlt:j<fs.length
   ·have M:(j:Int)<(fs.length:Int):=by omega
    have b:=Lr (It fs k j) j (by rw [Zy fs k j H];exact hlt)
    have c1:wr.cell? (qzA g (j*2))=some (qzI (Dn (It fs k j) j).1):=by rw [a.cellAt (j*2) (by omega)];exact b.1
    have c3:wr.frozen? (qzA g (j*2))=false:=a.frozenAt _;have R:=a.stored (j*2) (qzI (k+2*j:Nat));have A:qj _:=R.1;have z:=Aa (d.t R.2);have F:=Aa b.2
    have B:qj _:=Xe (It fs k j) (((k+2*j:Nat):Int),Vh (k+2*j+1)) j (by rw [Zy fs k j H];exact hlt)
    have y:qj _:=kA fs k j hlt;obtain ⟨m,hm⟩:∃ m:Nat,k+2*j=m:=⟨_,rfl⟩;obtain ⟨old,hold⟩:=Ae ((Dn (It fs k j) j).1);rw [hm] at A z B y ⊢;rw [hold] at c1
    have N:m<=3298534883:=by omega
    have J:qj (k+2 * (j+1)=m+1+1):=by rw [qj];omega
    clear R a d b hm hold;go_wp2_with fail
    rw [show ((m:Int)+1)=((m+1:Nat):Int) by omega]
    refine (Gx (m+1) _ (by omega) (by omega)).m ?_
    rintro e I ⟨rfl,C⟩;have x:=Ja A.o C
    have c4:I.cell? (qzA g (j*2+1))=some (qd (Dn (It fs k j) j).2):=by
     rw [x.cellAt (j*2+1) (by omega),List.getElem?_set_ne (by omega)];exact F.o
    have c5:I.frozen? (qzA g (j*2+1))=false:=x.frozenAt _;have v:=x.stored (j*2+1) (qd (Vh (m+1)));rw [B.o,y.o] at v;have p:qj _:=v.1;have l:=Aa ((z.o.t (yR C _)).t v.2);obtain ⟨os,s⟩:=Ae ((Dn (It fs k j) j).2);rw [s] at c4
    generalize Vh (m+1)=tx at p l
    clear v x s C A z B y F;go_wp2
    go_roundw
    case rel=>exact ⟨j+1,by omega,by go_num,by rw [J.o];go_num,p.o,l.o⟩
    case measure=>simp [intOf];omega
   ·have D:j=fs.length:=by omega
    subst D;rw [sQ] at a;have L:qj _:=a;clear a;go_wp2;go_ret;exact ⟨rfl,L.o,d⟩
structure U6 (b T:Nat) (a:List MV) (w:ql):Prop where
 lt:b<w.heap.size
 c0:∀ i,i<a.length->∃ z,w.cell? (qzA b (i*2))=some (qzI z)
 c1:∀ i,i<a.length->w.cell? (qzA b (i*2+1))=some (qf (Gm a i).ao (Gm a i).fs.length (Gm a i).cap)
 fr:∀ j,w.frozen? (qzA b j)=false
 rows:∀ i,i<a.length->∃ fs:List Av,fs.length=(Gm a i).fs.length/\w.ownsRow (b+1) 136 2 (qf (Gm a i).ao (Gm a i).fs.length (Gm a i).cap) (Gm a i).fs.length (Bt fs)
 be:∀ i,i<a.length->∃ g,(Gm a i).ao=some (qzA g 0)/\b<g/\g<T
 pair:∀ i j,i<a.length->j<a.length->i≠j->(Gm a i).ao≠(Gm a j).ao
theorem vL (u:ql) (b k:Nat) (v:Value):u.grownBy (u.setCell (qzA b k) v) (some b):=⟨rfl,rfl,rfl,by simp,λj _ D=>Below.heap_setCell _ _ _ _ (λe=>D (by rw [e]))⟩
theorem U6.setKd {b T:Nat} {a:List MV} {w:ql} (h:U6 b T a w) (j:Nat) (y:Int):U6 b T a (w.setCell (qzA b (j*2)) (qzI y)):=by
 refine ⟨by simpa using h.lt,λi hi=>?_,λi hi=>?_,λk=>?_,λi hi=>?_,h.be,h.pair⟩
 ·obtain ⟨z,G⟩:=h.c0 i hi
  by_cases e:i=j
  ·subst e
   exact ⟨y,by simp [go_sem,G]⟩
  ·exact ⟨z,by rw [World.cell?_setCell_other _ _ _ _ (by first|(simp;done)|(simp;omega))];exact G⟩
 ·rw [World.cell?_setCell_other _ _ _ _ (by first|(simp;done)|(simp;omega))]
  exact h.c1 i hi
 ·have:=h.fr k
  simpa [go_sem] using this
 ·obtain ⟨fs,e,r⟩:=h.rows i hi
  exact ⟨fs,e,Xd r⟩
theorem U6.setFs {b T j g:Nat} {a:List MV} {w w':ql} {gs:List Av} (h:U6 b T a w) (D:j<a.length) (ha:(Gm a j).ao=some (qzA g 0)) (a9:b<g) (F:gs.length=(Gm a j).fs.length) (f:w.grownBy w' (some g)) (ho:w'.ownsRow (b+1) 136 2 (qf (Gm a j).ao (Gm a j).fs.length (Gm a j).cap) (Gm a j).fs.length (Bt gs)):U6 b T a w':=by
 have n:some b≠some g:=λe=>by injection e;omega
 refine ⟨jd h.lt f.size,λi hi=>?_,λi hi=>(f.cell_far (qzA b (i*2+1)) h.lt n).t (h.c1 i hi),λk=>(f.frozen_far (qzA b k) h.lt n).t (h.fr k),λi hi=>?_,h.be,h.pair⟩
 ·obtain ⟨z,G⟩:=h.c0 i hi
  exact ⟨z,(f.cell_far (qzA b (i*2)) h.lt n).t G⟩
 ·by_cases e:i=j
  ·subst e;exact ⟨gs,F,ho⟩
  ·obtain ⟨fs,e1,r⟩:=h.rows i hi
   obtain ⟨g',e2,_⟩:=h.be i hi
   refine ⟨fs,e1,r.kept f (.inr λe3=>h.pair i j hi D e ?_)⟩
   rw [e2] at e3 ⊢;rw [ha]
   injection e3 with e3
   have e4:g'=g:=e3;rw [e4]
theorem U6.of {b:Nat} {a:List MV} {w:ql} {cap:Nat} (Z:w.ownsRow b 68 2 (qf (some (qzA b 0)) a.length cap) a.length (Gv a)) (h2:∀ y ∈ a,Qq b w y) (h3:∀ y ∈ a,bT b y) (h4:a.Pairwise λx y:MV=>x.ao≠y.ao):U6 b w.heap.size a w:=by
 refine ⟨(Z.lt b rfl).2,λi hi=>⟨_,by rw [Z.cellAt (i*2) (by omega)];exact (Lk a i hi).1⟩,λi hi=>by rw [Z.cellAt (i*2+1) (by omega)];exact (Lk a i hi).2,λj=>Z.frozenAt _,λi hi=>⟨_,rfl,(h2 _ (I8 hi)).row⟩,λi hi=>?_,λi j hi D hij=>?_⟩
 ·obtain ⟨g,e,f,_⟩:=h3 _ (I8 hi)
  exact ⟨g,e,f,((h2 _ (I8 hi)).lt g e).2⟩
 ·have hp:=List.pairwise_iff_getElem.1 h4
  rw [dQ hi,dQ D]
  rcases Nat.lt_or_gt_of_ne hij with d|d
  ·exact hp i j hi D d
  ·exact λe=>hp j i D hi d e.s
theorem U6.below {b T:Nat} {a:List MV} {w w':ql} (h:U6 b T a w) (hb:BW w w'):U6 b T a w' :=
 ⟨jd h.lt hb.size,λi hi=>(h.c0 i hi).imp λ_ G=>(hb.c b (i*2) h.lt).t G,λi hi=>(hb.c b (i*2+1) h.lt).t (h.c1 i hi),λj=>(hb.frozen (p:=(qzA b j)) h.lt).t (h.fr j),λi hi=>(h.rows i hi).imp λ_ r=>⟨r.1,Ja r.2 hb⟩,h.be,h.pair⟩
theorem U6.farB {b T r:Nat} {a:List MV} {w w':ql} (h:U6 b T a w) (f:w.grownBy w' (some r)) (hr:r<b):U6 b T a w':=by
 have n:some b≠some r:=λe=>by injection e;omega
 exact ⟨jd h.lt f.size,λi hi=>(h.c0 i hi).imp λ_ G=>(f.cell_far (qzA b (i*2)) h.lt n).t G,λi hi=>(f.cell_far (qzA b (i*2+1)) h.lt n).t (h.c1 i hi),λk=>(f.frozen_far (qzA b k) h.lt n).t (h.fr k),λi hi=>(h.rows i hi).imp λ_ q=>⟨q.1,q.2.kept f (.inr λe=>by have:=(q.2.lt r e).1;omega)⟩,h.be,h.pair⟩
theorem iM (b T cap K:Nat) (a:List MV) (l0:Int) (w:ql) (h:U6 b T a w) (F:0<=F4 (As a) l0) (b2:l0<=1048576) (hK:K<=30000000) (a6:b<T) (Q:ql->Prop)
  (hQ:∀ g,b<=g->g<T->∀ u u':ql,u.grownBy u' (some g)->Q u->Q u') (J:Q w) :
  qi 14 #[qf (some (qzA b 0)) a.length cap,qzI K] w λe w'=>∃ m:Nat,e=.returned (qzI m)/\Q w':=by
 have HN:=(Xw F).1;rw [Bh] at HN
 have a3:qj (0<=J7 (As a) (l0 - (a.length:Int))):=by
  unfold F4 at F;rw [Bh] at F
  rw [if_neg (show ¬ l0 - (a.length:Int)<0 by omega)] at F
  exact F
 have HH:=Aa h;have HQ:=Aa hQ;have a5:=Aa J;clear h F hQ J
 go_enter func14,ntmps14
 go_wp2
 go_loopw [1,5] (λc i wr=>∃ (j m:Nat) (l:Int),j<=a.length/\i=qzI j/\c=qzI m/\0<=J7 ((As a).drop j) l/\0<=l/\(m:Int)+2*l<=K+j+2097152/\U6 b T a wr/\Q wr) (λ_ i _=>a.length - (intOf i).toNat)
 case atStart=>exact ⟨0,K,_,qw _,rfl,rfl,a3.o,by omega,by omega,HH.o,a5.o⟩
 case round =>
  obtain ⟨j,m,l,D,rfl,rfl,A,b1,hm,U,J⟩:=hrel
  have b3:m<=40000000:=by omega
  by_cases d:j<a.length
  ·have b0:(j:Int)<(a.length:Int):=by omega
   obtain ⟨z,c0⟩:=U.c0 j d;have f0:=U.fr (j*2);have S:=U.setKd j (m:Int);have q2:=HQ.o b nL a6 _ _ (vL wr b (j*2) (qzI (m:Int))) J
   have B:=Tv (As a) j l (by rw [Bh];exact d)
   rw [Ht d] at B
   have Y:¬ Dz (Gm a j).fs l<0:=λe=>by rw [B,if_pos e] at A;omega
   rw [B,if_neg Y] at A
   have W:=Xf (fs:=(Gm a j).fs) (left:=l) (by omega)
   have N:=Aa A;obtain ⟨fs,I,r1⟩:=S.rows j d;obtain ⟨g,f,V,a7⟩:=S.be j d;have c1:=S.c1 j d
   have h5:=Wq (Gm a j).ao (Gm a j).cap (b+1) (m+1) fs _ (by rw [I];exact r1) (by omega) (by omega)
   rw [I] at h5;have HC:=Aa h5;have O:=Aa S;have HG:=Aa f;have R:=Aa q2;obtain ⟨l2,X⟩:=Ae (Dz (Gm a j).fs l);rw [X] at N Y W;obtain ⟨L,hL⟩:=Ae (Gm a j).fs.length;obtain ⟨C,hC⟩:=Ae (Gm a j).cap;have M:qj ((Gm a j).fs.length=L/\(Gm a j).cap=C):=⟨hL,hC⟩;rw [f,hL,hC] at c1 HC;rw [hL] at W;clear B A X hL hC h5 r1 S q2 J U f I;go_wp2_with fail
   rw [show (m:Int)+1=((m+1:Nat):Int) by omega]
   refine HC.o.m ?_;rintro e w2 ⟨rfl,o2,g2⟩
   have a4:qj (U6 b T a w2):=by
    have e:=M.o
    exact O.o.setFs (gs:=mkF (m+1) L) d HG.o V (by rw [Vb,e.1]) g2 (by rw [HG.o,e.1,e.2];exact o2)
   have H:=Aa (HQ.o g (jb V) a7 _ _ g2 R.o);clear HC o2 g2 O R HG M;go_wp2
   go_roundw
   case rel=>exact ⟨j+1,m+1+2*L,l2,by omega,by go_num,rfl,N.o,by omega,by omega,a4.o,H.o⟩
   case measure=>simp [intOf];omega
  ·have a8:j=a.length:=by omega
   subst a8;have H:=Aa J;clear U A;go_wp2;go_ret;exact ⟨_,rfl,H.o⟩
end Go.Proofs.YtfpafnefpmmofaaGreatDoor
namespace Go.Proofs.YtfpafnefpmmofaaGreatDoor
open Go.ChangeShapes Go.WideShapes Go.ChangeAt Go.RowKit Go.Deep Go.Proofs.Tryz
structure Aaf (b:Bk):Prop where
 td:(Lit.int .i64 b.today).wf=true
 off:b.off.length<=maxLen/\∀ z ∈ b.off,(Lit.int .i64 z).wf=true
 az:Vq b.az
 cs:dI b.cs
 ls:Vs b.ls
 log:eD b.log
section
variable {P:Program} {H:Type} {enc:TypeId×Value->H} {W:ql}
theorem uM {t e:TypeId} {fuel:Nat} {y:Value} {x:DataW H×List MemPlace} (ht:P.underlying t=some (.slice e)) (he:P.underlying e=some (.int .i64)) (k:P.cellsOf e=1)
  (h:DataW.trod enc P W 0 (λ_=>true) true fuel t [y]=some x):∃ a cap zs,y=qf a (List.length zs) cap/\Bg W a zs/\(zs.length<=maxLen/\∀ z ∈ zs,(Lit.int .i64 z).wf=true):=by
 rcases open_ints ht he k h with ⟨j,_⟩|⟨x,l,c,zs,j,_,u,hm,D,_,q,C⟩
 ·simp at j
  exact ⟨none,0,[],by rw [j];rfl,.inl rfl,qw _,λf g=>by cases g⟩
 ·simp at j
  have hr:Afq .i64 W (some x) l c zs:=.inr ⟨x,rfl,u,hm,by simpa using D,q,C⟩
  obtain ⟨e1,e2⟩:=gO hr
  exact ⟨some x,c,zs.take l,by rw [j,e1],e2,by rw [e1];omega,λz D=>C z (List.mem_of_mem_take D)⟩
theorem uJ {t e:TypeId} {fuel:Nat} {y:Value} {x:DataW H×List MemPlace} (ht:P.underlying t=some (.slice e)) (he:P.underlying e=some .string) (k:P.cellsOf e=1)
  (h:DataW.trod enc P W 0 (λ_=>true) true fuel t [y]=some x):∃ a cap rs,y=qf a (List.length rs) cap/\Bw W a rs/\eD rs:=by
 rcases open_strs ht he k h with ⟨e1,_⟩|⟨a,len,cap,m,G,e1,_,N,hm,B,_,O⟩
 ·simp at e1
  exact ⟨none,0,[],by rw [e1];rfl,.inl rfl,qw _,λf g=>by cases g⟩
 ·simp at e1 B
  subst B
  refine ⟨some a,m,(List.range len).map λi=>(G i).data.toList,by rw [e1];simp,?_,by rw [List.length_map,List.length_range];exact jk N hm,λf g=>by
   obtain ⟨i,hi,rfl⟩:=List.mem_map.1 g
   have:=(O i (by have:=List.mem_range.1 hi;omega)).2
   rw [Array.length_toList];exact this⟩
  by_cases D:len=0
  ·subst D;exact .inl rfl
  ·obtain ⟨bk,off,F⟩:=a
   have A:=(O 0 (by omega)).1
   have s:F=none:=by simpa [Addr.add] using World.cell?_spot A
   subst s
   refine .inr ⟨bk,off,rfl,qs W _ A,λi hi=>?_⟩
   have M:i<len:=by simpa using hi
   have J:Ao ((List.range len).map λi=>(G i).data.toList) i=(G i).data.toList:=by simp [Ao,M]
   have o:=(O i (by omega)).1
   rw [add_plain] at o;rw [J,o]
theorem iA {t e:TypeId} {o f0 f1 f2:Field} {fuel:Nat} {y:Value} {x:DataW H×List MemPlace} (hg:P.underlying t=some (.struct #[o])) (og:o.offset=0) (I:P.cellsOf o.type=1) (ht:P.underlying o.type=some (.slice e))
  (he:P.underlying e=some (.struct #[f0,f1,f2])) (k:P.cellsOf e=3) (S:f0.offset=0) (T:f1.offset=1) (U:f2.offset=2)
  (c0:P.cellsOf f0.type=1) (c1:P.cellsOf f1.type=1) (c2:P.cellsOf f2.type=1) (u0:P.underlying f0.type=some (.int .i64)) (u1:P.underlying f1.type=some (.int .i64)) (u2:P.underlying f2.type=some (.int .i64))
  (h:DataW.trod enc P W 0 (λ_=>true) true fuel t [y]=some x):∃ a cap ls,y=qf a (List.length ls) cap/\Ar W a ls/\Vs ls:=by
 obtain ⟨y0,m,_,u,w⟩:=trod_struct1 hg h
 simp [og,I] at w
 exact nM ht he k S T U c0 c1 c2 u0 u1 u2 w
theorem Adm {r:Reach} {base:Nat} {t:TypeId} {f0 f1 f2 f3 f4 f5:Field} {v:Value} {d:DataW H} {p:List MemPlace} (he:P.underlying t=some (.struct #[f0,f1,f2,f3,f4,f5])) (k:P.cellsOf t=6) (S:f0.offset=0) (T:f1.offset=1) (U:f2.offset=2) (o3:f3.offset=3) (o4:f4.offset=4) (o5:f5.offset=5)
  (c0:P.cellsOf f0.type=1) (c1:P.cellsOf f1.type=1) (c2:P.cellsOf f2.type=1) (c3:P.cellsOf f3.type=1) (c4:P.cellsOf f4.type=1) (c5:P.cellsOf f5.type=1) (u0:P.underlying f0.type=some (.int .i64))
  (q1:∀ (fuel:Nat) (y:Value) (x:DataW H×List MemPlace),DataW.trod enc P W 0 (λ_=>true) true fuel f1.type [y]=some x->∃ a cap ls,y=qf a (List.length ls) cap/\Bg W a ls/\(ls.length<=maxLen/\∀ z ∈ ls,(Lit.int .i64 z).wf=true))
  (q2:∀ (fuel:Nat) (y:Value) (x:DataW H×List MemPlace),DataW.trod enc P W 0 (λ_=>true) true fuel f2.type [y]=some x->∃ a cap ls,y=qf a (List.length ls) cap/\Ba W a ls/\Vq ls)
  (q3:∀ (fuel:Nat) (y:Value) (x:DataW H×List MemPlace),DataW.trod enc P W 0 (λ_=>true) true fuel f3.type [y]=some x->∃ a cap ls,y=qf a (List.length ls) cap/\Cf W a ls/\dI ls)
  (q4:∀ (fuel:Nat) (y:Value) (x:DataW H×List MemPlace),DataW.trod enc P W 0 (λ_=>true) true fuel f4.type [y]=some x->∃ a cap ls,y=qf a (List.length ls) cap/\Ar W a ls/\Vs ls)
  (q5:∀ (fuel:Nat) (y:Value) (x:DataW H×List MemPlace),DataW.trod enc P W 0 (λ_=>true) true fuel f5.type [y]=some x->∃ a cap ls,y=qf a (List.length ls) cap/\Bw W a ls/\eD ls)
  (hv:Value.okWide P W r base t v) (h:DataW.Trod enc P W 0 (λ_=>true) true t v d p):∃ b p,v=Fx b p/\Az W b p/\Aaf b:=by
 obtain ⟨cs,rfl,_⟩:=okWide_struct he hv;obtain ⟨fuel,L⟩:=h;obtain ⟨xs,n,_,_,u,R,g⟩:=DataW.trod_struct he L
 simp only [Value.cells] at u g
 rw [k] at u;obtain ⟨l⟩:=cs
 match xs,R,l,u with
 | [y0,y1,y2,y3,y4,y5],_,[a0,a1,a2,a3,a4,a5],_ =>
  have w:=g 0 f0 rfl
  simp [S,c0] at w
  have V:=g 1 f1 rfl
  simp [T,c1] at V
  have X:=g 2 f2 rfl
  simp [U,c2] at X
  have Y:=g 3 f3 rfl
  simp [o3,c3] at Y
  have Z:=g 4 f4 rfl
  simp [o4,c4] at Z
  have h5:=g 5 f5 rfl
  simp [o5,c5] at h5
  obtain ⟨z0,e0,_,r0⟩:=DataW.trod_int u0 w
  simp at e0
  obtain ⟨p1,k1,l1,e1,i1,b1⟩:=q1 _ _ _ V;obtain ⟨p2,k2,l2,e2,i2,b2⟩:=q2 _ _ _ X;obtain ⟨p3,k3,l3,e3,i3,b3⟩:=q3 _ _ _ Y;obtain ⟨p4,k4,l4,e4,i4,b4⟩:=q4 _ _ _ Z;obtain ⟨p5,k5,l5,e5,i5,b5⟩:=q5 _ _ _ h5
  exact ⟨⟨z0,l1,l2,l3,l4,l5⟩,⟨p1,k1,p2,k2,p3,k3,p4,k4,p5,k5⟩,by rw [e0,e1,e2,e3,e4,e5];rfl,⟨i1,i2,i3,i4,i5⟩,⟨r0,b1,b2,b3,b4,b5⟩⟩
end
end Go.Proofs.YtfpafnefpmmofaaGreatDoor
namespace Go.Proofs.YtfpafnefpmmofaaGreatDoor
open Go.RowKit Go.Proofs.Tryz
theorem Qn {n:Nat} {left:Int} (h:0<=Hn n left):(n:Int)<=left/\Hn n left<=left:=by
 unfold Hn at h ⊢
 split at h
 ·omega
 ·rename_i hh
  rw [if_neg hh]
  omega
theorem lM (ao:qm) (cap n:Nat) (left:Int) (w:ql) (h0:0<=left) (M:left<=1048576) (hn:n<=9223372036854775807) :
  qi 18 #[qf ao n cap,qzI left] w λe w'=>e=.returned (qzI (Hn n left))/\w'=w:=by
 have hw:wrap64 (left - (n:Int))=left - (n:Int):=by unfold wrap64;omega
 by_cases h:left - (n:Int)<0
 ·have e:Hn n left = -1:=if_pos h
  rw [e]
  go_enter func18,ntmps18
  go_wp2;go_ret;exact ⟨rfl,rfl⟩
 ·have e:Hn n left=left - (n:Int):=if_neg h
  rw [e]
  go_enter func18,ntmps18
  go_wp2;go_ret;exact ⟨rfl,rfl⟩
def Ai4 (b:Bk):Prop:=Ld b/\(b.log.length:Int)+eI b.log<=1048576
def zM (b:Bk):Prop:=Ai4 b/\∀ x ∈ b.az,x.ref.length<=1048576
theorem wQ (rs:Bn):∀ l:Int,0<=l->Iq rs l<=l:=by
 induction rs with
 | nil=>intro l _;exact Int.le_refl _
 | cons f r ih =>
  intro l h
  simp only [Iq]
  split
  ·omega
  ·have:=ih (l - (f.length:Int)) (by omega);omega
theorem Abz (rs:Bn) {l:Int} (h:0<=l):M8 rs l<=l:=by
 unfold M8
 split
 ·omega
 ·have:=wQ rs (l - (rs.length:Int)) (by omega);omega
theorem iT (b:Bk) (p:Bp) (w:ql) (B:Az w b p) (hd:Aaf b) :
  qi 4 #[Fx b p,qzI 1048576] w λe w'=>∃ n:Int,e=.returned (qzI n)/\(0<=n->zM b/\n<=1048576)/\BW w w':=by
 obtain ⟨W,A⟩:=A0 (w.alloc (.cells (qcB b p) 30))
 have J:BW w W:=by rw [A];exact bR.alloc nL _
 have Y:S6 w.heap.size b p W:=by rw [A];exact S6.new w b p _
 have H:=Aa (B.below J);have i:=Aa J;have C:=Aa Y;have F:qj _:=A
 have m1:b.off.length<=9223372036854775807:=by have:=hd.off.1;unfold maxLen at this;omega
 have m3:b.cs.length<=9223372036854775807:=by have:=hd.cs.1;unfold maxLen at this;omega
 have m4:b.ls.length<=9223372036854775807:=by have:=hd.ls.1;unfold maxLen at this;omega
 have t:=Aa hd.az;have u:=Aa hd.log;obtain ⟨G,hG⟩:=A0 (zM b)
 have S:qj (b.off.length<=1048576->b.az.length<=1048576->iY b.az<=1048576->b.cs.length<=1048576->b.ls.length<=1048576->(b.log.length:Int)+eI b.log<=1048576->G):=by
  intro M N hr O V X;rw [hG]
  exact ⟨⟨⟨M,N,O,V,by omega⟩,X⟩,λx B=>jk (yI B) hr⟩
 rw [<- hG];clear B J A Y hd hG;obtain ⟨td,L,az,cs,ls,R⟩:=b;obtain ⟨o,oc,a,ac,c,cc,l,lc,g,gc⟩:=p;unfold Fx
 simp only at F t u S m1 m3 m4 ⊢
 obtain ⟨c0,c1,c2,c3,c4,c5⟩:=C.o
 simp only at c0 c1 c2 c3 c4 c5
 go_enter func4,ntmps4
 go_upto_region 1 with fail
 rw [<- F.o];clear F;go_wp2_with fail
 refine (lM _ _ _ _ _ (by omega) (by omega) m1).m ?_
 rintro e w1 ⟨rfl,hw⟩;replace hw:=hw.s;subst hw;have f1:=@Qn L.length 1048576
 generalize Hn L.length 1048576=n1 at f1 ⊢
 by_cases M:n1<0
 ·go_wp2
  go_ret
  exact ⟨_,rfl,λh=>absurd h (by decide),i.o⟩
 replace f1:=f1 (by omega)
 go_wp2_with fail
 refine (iG _ _ _ _ _ H.o.az t.o (by omega) (by omega)).m ?_
 rintro e w2 ⟨rfl,y⟩;have v:qj _:=H.o.below y;have j:qj _:=C.o.below y;have d:=Aa (next i.o y);clear c0 c1 c2 c3 c4 c5 y H C i;obtain ⟨c0,c1,c2,c3,c4,c5⟩:=j.o
 simp only at c0 c1 c2 c3 c4 c5
 have f2:=@lL az n1
 generalize J1 az n1=n2 at f2 ⊢
 by_cases N:n2<0
 ·go_wp2
  go_ret
  exact ⟨_,rfl,λh=>absurd h (by decide),d.o⟩
 replace f2:=f2 (by omega)
 have U:(az.length<=1048576/\iY az<=1048576)/\n2<=1048576:=by omega
 have Z:L.length<=1048576:=by omega
 clear f1 f2;go_wp2_with fail
 refine (gZ _ _ _ _ _ (by omega) (by omega) m3).m ?_
 rintro e w3 ⟨rfl,hw⟩;replace hw:=hw.s;subst hw;have f3:=@Qn cs.length n2
 generalize Hn cs.length n2=n3 at f3 ⊢
 by_cases O:n3<0
 ·go_wp2
  go_ret
  exact ⟨_,rfl,λh=>absurd h (by decide),d.o⟩
 replace f3:=f3 (by omega)
 have g3:cs.length<=1048576/\n3<=1048576:=by omega
 clear f3 N;go_wp2_with fail
 refine (dR _ _ _ _ _ (by omega) (by omega) m4).m ?_
 rintro e w4 ⟨rfl,z⟩;have I:qj _:=v.o.below z;have D:qj _:=j.o.below z;have k:=Aa (next d.o z);clear c0 c1 c2 c3 c4 c5 z v j d;obtain ⟨c0,c1,c2,c3,c4,c5⟩:=D.o
 simp only at c0 c1 c2 c3 c4 c5
 have f4:=@Qn ls.length n3
 generalize Hn ls.length n3=n4 at f4 ⊢
 by_cases V:n4<0
 ·go_wp2
  go_ret
  exact ⟨_,rfl,λh=>absurd h (by decide),k.o⟩
 replace f4:=f4 (by omega)
 have g4:ls.length<=1048576/\n4<=1048576:=by omega
 clear f4 O;go_wp2_with fail
 refine (Y8 _ _ _ _ _ I.o.log u.o (by omega) (by omega)).m ?_
 rintro e w5 ⟨rfl,T⟩;have q:=Aa (next k.o T);clear c0 c1 c2 c3 c4 c5 T;have f5:=@xG R n4
 have q5:=Abz R (l:=n4) (by omega)
 generalize M8 R n4=n5 at f5 q5 ⊢
 by_cases X:n5<0
 ·go_wp2
  go_ret
  exact ⟨_,rfl,λh=>absurd h (by decide),q.o⟩
 ·replace f5:=f5 (by omega)
  go_wp2;go_ret
  exact ⟨_,rfl,λ_=>⟨S.o Z U.1.1 U.1.2 g3.1 g4.1 (by omega),by omega⟩,q.o⟩
def Bp.has (q:Bp) (g:Nat):Prop:=q.o=some (qzA g 0)\/q.a=some (qzA g 0)\/q.c=some (qzA g 0)\/q.l=some (qzA g 0)\/q.g=some (qzA g 0)
theorem S6.grown {B g:Nat} {b:Bk} {p:Bp} {u u':ql} (h:S6 B b p u) (D:u.grownBy u' (some g)) (b2:B≠g):S6 B b p u':=by
 have l:=h.lt
 have hs:some B≠some g:=λe=>b2 (by injection e)
 exact ⟨(D.cell_far (qzA B 0) l hs).t h.c0,(D.cell_far (qzA B 1) l hs).t h.c1,(D.cell_far (qzA B 2) l hs).t h.c2,(D.cell_far (qzA B 3) l hs).t h.c3,(D.cell_far (qzA B 4) l hs).t h.c4,(D.cell_far (qzA B 5) l hs).t h.c5⟩
theorem bL (b:Bk) (q:Bp) (base:Nat) (w:ql) (ho:Jr base b q w) (hn:Ld b) (Q:ql->Prop)
  (hQ:∀ g,q.has g->∀ u u':ql,u.grownBy u' (some g)->Q u->Q u') (h:Q w) :
  qi 13 #[Fx b q,qzI 1] w λe w'=>∃ n:Int,e=.returned (qzI n)/\(0<=n/\n<=30000000)/\Q w':=by
 obtain ⟨W,hW⟩:=A0 (w.alloc (.cells (qcB b q) 40))
 have bW:BW w W:=by rw [hW];exact bR.alloc nL _
 have s1:S6 w.heap.size b q W:=by rw [hW];exact S6.new w b q _
 have C:=Aa (ho.below bW);obtain ⟨g1,g2,g3,g4,g5,e1,e2,e3,e4,e5,l1,l2,l3,l4⟩:=ho.apart;have v:=Aa (hQ g1 (.inl e1));have U:=Aa (hQ g2 (.inr (.inl e2)));have V:=Aa (hQ g3 (.inr (.inr (.inl e3))));have X:=Aa (hQ g4 (.inr (.inr (.inr (.inl e4)))));have b0:=Aa (hQ g5 (.inr (.inr (.inr (.inr e5)))))
 have HQ:=Aa (v.o w W (by rw [hW];exact World.grownBy_alloc w _ _) h)
 have r:qj (g1<w.heap.size/\g2<w.heap.size/\g3<w.heap.size/\g4<w.heap.size/\g5<w.heap.size):=by
  have:=(ho.log.lt g5 (by rw [e5];rfl)).2
  rw [qj];omega
 have HS:=Aa s1;have HW:=Aa hW;have HN:=Aa hn;clear hQ h ho bW hW s1 hn;obtain ⟨td,A,az,cs,ls,lg⟩:=b;obtain ⟨o,oc,a,ac,c,cc,l,lc,g,gc⟩:=q
 simp only at e1 e2 e3 e4 e5
 subst e1;subst e2;subst e3;subst e4;subst e5;obtain ⟨n1,n2,n3,n4,n5⟩:=HN.o;unfold Fx
 simp only at HW n1 n2 n3 n4 n5 ⊢
 have Y:=Aa C.o.off;have Z:=Aa C.o.az;have a3:=Aa C.o.cs;have a4:qj _:=C.o.ls;have a5:qj _:=C.o.log;have k:qj (g1<g2/\g2<g3/\g3<g4/\g4<g5):=⟨l1,l2,l3,l4⟩;clear C HN l1 l2 l3 l4;obtain ⟨c0,c1,c2,c3,c4,c5⟩:=HS.o
 simp only at c0 c1 c2 c3 c4 c5
 go_enter func13,ntmps13
 go_upto_region 1 with fail
 rw [<- HW.o];clear HW;go_wp2_with fail
 refine (Ro _ _ _ _ _ _ _ Y.o (by show A.length<=1099511627776;omega) (by omega) (by omega)).m ?_
 rintro e w1 ⟨rfl,-,d⟩;have f:World.grownBy _ w1 (some g1):=d;clear d;have F:=Aa (v.o _ _ f HQ.o)
 have x:qj _:=HS.o.grown f (by have:=r.o;omega)
 have I:=Aa (World.ownsRow.kept Z.o f (.inr (by have:=k.o;simp [Value.ownBlock];omega)))
 have J:qj _:=World.ownsRow.kept a3.o f (.inr (by have:=k.o;simp [Value.ownBlock];omega))
 have L:qj _:=World.ownsRow.kept a4.o f (.inr (by have:=k.o;simp [Value.ownBlock];omega))
 have M:qj _:=World.ownsRow.kept a5.o f (.inr (by have:=k.o;simp [Value.ownBlock];omega))
 clear c0 c1 c2 c3 c4 c5 f HQ HS Y Z a3 a4 a5 v;obtain ⟨c0,c1,c2,c3,c4,c5⟩:=x.o
 simp only at c0 c1 c2 c3 c4 c5
 rw [show (1+(A.length:Int))=((1+A.length:Nat):Int) by omega]
 go_wp2_with fail
 refine (Py _ _ _ (1+A.length) _ _ I.o (by show az.length<=1099511627;omega) (by omega) (by omega)).m ?_
 rintro e w2 ⟨rfl,-,d⟩;have i:World.grownBy _ w2 (some g2):=d;clear d;have G:=Aa (U.o _ _ i F.o)
 have y:qj _:=x.o.grown i (by have:=r.o;omega)
 have N:qj _:=World.ownsRow.kept J.o i (.inr (by have:=k.o;simp [Value.ownBlock];omega))
 have O:qj _:=World.ownsRow.kept L.o i (.inr (by have:=k.o;simp [Value.ownBlock];omega))
 have R:qj _:=World.ownsRow.kept M.o i (.inr (by have:=k.o;simp [Value.ownBlock];omega))
 clear c0 c1 c2 c3 c4 c5 i F x I J L M U;obtain ⟨c0,c1,c2,c3,c4,c5⟩:=y.o
 simp only at c0 c1 c2 c3 c4 c5
 go_wp2_with fail
 refine (Yq _ _ _ (1+A.length+6*az.length) _ _ _ N.o (by show cs.length<=1048576;omega) (by omega)).m ?_
 rintro e w3 ⟨rfl,-,d⟩;have j:World.grownBy _ w3 (some g3):=d;clear d;have H:=Aa (V.o _ _ j G.o)
 have z:qj _:=y.o.grown j (by have:=r.o;omega)
 have S:qj _:=World.ownsRow.kept O.o j (.inr (by have:=k.o;simp [Value.ownBlock];omega))
 have T:qj _:=World.ownsRow.kept R.o j (.inr (by have:=k.o;simp [Value.ownBlock];omega))
 clear c0 c1 c2 c3 c4 c5 j G y N O R V;obtain ⟨c0,c1,c2,c3,c4,c5⟩:=z.o
 simp only at c0 c1 c2 c3 c4 c5
 go_wp2_with fail
 refine (Nh _ _ _ (1+A.length+6*az.length+12*cs.length) _ _ S.o (by show ls.length<=1099511627;omega) (by omega)).m ?_
 rintro e w4 ⟨rfl,-,d⟩;have s:World.grownBy _ w4 (some g4):=d;clear d;have a7:=Aa (X.o _ _ s H.o)
 have b1:qj _:=z.o.grown s (by have:=r.o;omega)
 have a9:=Aa (World.ownsRow.kept T.o s (.inr (by have:=k.o;simp [Value.ownBlock];omega)))
 clear c0 c1 c2 c3 c4 c5 s H z S T X;obtain ⟨c0,c1,c2,c3,c4,c5⟩:=b1.o
 simp only at c0 c1 c2 c3 c4 c5
 go_wp2_with fail
 refine (M9 _ _ _ (1+A.length+6*az.length+12*cs.length+3*ls.length) _ _ a9.o (by show lg.length<=1099511627;omega) (by omega) (by omega)).m ?_
 rintro e w5 ⟨rfl,-,d⟩;have a6:=d;clear d;have a8:=Aa (b0.o _ _ a6 a7.o);clear c0 c1 c2 c3 c4 c5 a6;go_wp2;go_ret
 exact ⟨_,rfl,⟨by omega,by omega⟩,a8.o⟩
end Go.Proofs.YtfpafnefpmmofaaGreatDoor
namespace Go.Proofs.YtfpafnefpmmofaaGreatDoor
open Go.ChangeShapes Go.WideShapes Go.ChangeAt Go.RowKit Go.Deep Go.Proofs.Tryz
theorem Abw {P:Program} {H:Type} {enc:TypeId×Value->H} {W:ql} {r:Reach} {base:Nat} {t s e:TypeId} {f0 f1 b c:Field} {v:Value} {d:DataW H} {p:List MemPlace}
  (ht:P.underlying t=some (.slice s))
  (hs:P.underlying s=some (.struct #[f0,f1])) (hc:P.cellsOf s=2) (o0:f0.offset=0) (o1:f1.offset=1) (c0:P.cellsOf f0.type=1) (c1:P.cellsOf f1.type=1)
  (t0:P.underlying f0.type=some (.int .i64)) (t1:P.underlying f1.type=some (.slice e))
  (he:P.underlying e=some (.struct #[b,c])) (ce:P.cellsOf e=2) (p0:b.offset=0) (p1:c.offset=1) (d0:P.cellsOf b.type=1) (d1:P.cellsOf c.type=1)
  (u0:P.underlying b.type=some (.int .i64)) (u1:P.underlying c.type=some .string)
  (hv:Value.okWide P W r base t v) (h:DataW.Trod enc P W 0 (λ_=>true) true t v d p) :
  ∃ a cap xs,v=qf a (List.length xs) cap/\(Dq W a xs/\cS xs)/\∀ x ∈ xs,(Lit.int .i64 x.kd).wf=true:=by
 obtain ⟨C,G,D,rfl⟩:=okWide_slice ht hv;obtain ⟨fuel,R⟩:=h
 rcases open_slice_pairs ht hs hc o0 o1 c0 c1 R with ⟨e1,_⟩|⟨a,len,cap,m,k,I,J,D0,V,X,Y,e1,hb,A,hm,q,_,j⟩
 ·have e2:Value.slice C G D=qe:=by simpa [Value.cells] using e1
  exact ⟨none,0,[],e2,⟨⟨.inl rfl,λf hf=>by cases hf⟩,qw _,λf hf=>by cases hf⟩,λf hf=>by cases hf⟩
 ·simp at q
  subst q
  have e2:Value.slice C G D=qf (some a) len m:=by simpa [Value.cells] using e1
  obtain ⟨F,l⟩:=choose_lt (α:=MV) (n:=m) (p:=λi x=>I i=.int .i64 x.kd/\J i=qf x.ao x.fs.length x.cap/\Aw W x.ao x.fs/\Xq x.fs/\(Lit.int .i64 x.kd).wf=true) (λi hi=>by
   obtain ⟨_,_,N,O⟩:=j i hi;obtain ⟨z,B,_,hw⟩:=DataW.trod_int t0 N;obtain ⟨L,M,fs,S,T,U⟩:=vK t1 he ce p0 p1 d0 d1 u0 u1 O
   simp at B
   exact ⟨⟨z,L,M,fs⟩,B,S,T,U,hw⟩)
  refine ⟨some a,m,(List.range len).map F,by rw [e2];simp,⟨⟨?_,λx j=>by
   obtain ⟨i,hi,rfl⟩:=List.mem_map.1 j
   exact (l i (by have:=List.mem_range.1 hi;omega)).2.2.1⟩,by rw [List.length_map,List.length_range];exact jk A hm,λf hf=>by
   obtain ⟨i,hi,rfl⟩:=List.mem_map.1 hf
   exact (l i (by have:=List.mem_range.1 hi;omega)).2.2.2.1⟩,λx j=>by
   obtain ⟨i,hi,rfl⟩:=List.mem_map.1 j
   exact (l i (by have:=List.mem_range.1 hi;omega)).2.2.2.2⟩
  by_cases hz:len=0
  ·subst hz;exact .inl rfl
  ·obtain ⟨bk,off,u⟩:=a
   have o:=(j 0 (by omega)).1
   have g:u=none:=by simpa [Addr.add] using World.cell?_spot o
   subst g
   refine .inr ⟨bk,off,rfl,?_,λi hi=>?_⟩
   ·exact qs W _ o
   ·have y:i<len:=by simpa using hi
    have w:Gm ((List.range len).map F) i=F i:=by simp [Gm,y]
    obtain ⟨b,c,_,_⟩:=j i (by omega)
    rw [w,<- (l i (by omega)).1,<- (l i (by omega)).2.1]
    rw [add_plain] at b c
    exact ⟨b,by rw [Nat.add_assoc];exact c⟩
end Go.Proofs.YtfpafnefpmmofaaGreatDoor
