import Derived.Test.YtomiclakhjncbaaGreatDoorJT3a
import Derived.Test.YtomiclakhjncbaaGreatDoorJT1ar
set_option maxRecDepth 100000
set_option maxHeartbeats 12800000
namespace Go.Proofs.YtomiclakhjncbaaGreatDoor
open Go.RowKit Go.Proofs.Tryz
theorem dP (ao:Option Addr) (cap:Nat) (az:List Au) (C B am day:Int) (w:World) (hz:Ar w ao az) (hn:az.length<=1048576) (hd:∀ a ∈ az,a.ref.length<=1099511627776) (hc:∀ a ∈ az,Bf a.cur) (w3:(Lit.int .i64 am).wf=true) (w4:(Lit.int .i64 day).wf=true) :
  Calls prog 209 #[.slice ao az.length cap,qzI C,qzI B,qzI am,qzI day] w fun e w'=>∃ x,e=.returned (qzI x)/\Gm az C B am day x/\BW w w':=by
 by_cases hb:100<az.length
 ·have a6:(100:Int)<(az.length:Int):=by omega
  go_enter func209,ntmps209
  go_wp2;go_ret;exact ⟨_,rfl,.inr ⟨hb,rfl⟩,bR⟩
 have a6:(az.length:Int)<=100:=by omega
 have X:Hid (∀ k,k<az.length->∀ u,Calls prog 251 #[Fe (Ak az k),qzI C,qzI B,qzI am,qzI day] u fun e w'=>e=.returned (qzI (scA az C B am day k))/\BW u w'):=fun k hk u=>aV _ C B am day u (hd _ (J8 hk)) (hc _ (J8 hk)) w3 w4
 have S:Hid (HP none w [] none 0 (w.alloc (.cells #[.slice none 0 0] 291))) :=
  ⟨bR.alloc nL _,by simp,by simp [go_sem],World.ownsRow_nil _ _ _ _,fun _ _ e=>by cases e⟩
 obtain ⟨j,L⟩:∃ f,scA az C B am day=f:=⟨_,rfl⟩
 have O:Hid (∀ x,Io j az.length x->Gm az C B am day x):=fun x hx=>.inl ⟨by omega,by rw [L];exact hx⟩
 rw [L] at X;clear L hd hc w3 w4
 go_enter func209,ntmps209
 go_wp2
 go_loopw [12,13,14,22] (fun _ _ _ i wr=>∃ (k:Nat) (H:List Cd) (a:Option Addr) (c:Nat),k<=az.length/\i=qzI k/\Gu j k H/\HP none w H a c wr) (fun _ _ _ i _=>az.length - (intOf i).toNat)
 case atStart=>exact ⟨0,[],none,0,Nat.zero_le _,rfl,Gu.start j,S.o⟩
 case round =>
  obtain ⟨k,H,I,cc,hk,rfl,J,hp⟩:=hrel;have v:Hid (Gu j k H):=J;have y:Hid (HP none w H I cc wr):=hp
  have R:Hid (H.length<=900):=by have:=J.le;rw [Hid];omega
  clear J hp S
  by_cases hlt:k<az.length
  ·rcases hz with M | ⟨b,off,rfl,n,A⟩
   ·rw [M] at hlt;simp at hlt
   have h:BW w wr:=y.o.bel;have l:Hid (∀ i,i<az.length->w.cell? (qzA b (off+i*6))=some (.string ⟨(Ak az i).ref.toArray⟩)/\w.cell? (qzA b (off+i*6+1))=some (qzI (Ak az i).iss)/\w.cell? (qzA b (off+i*6+2))=some (qzI (Ak az i).cur)/\w.cell? (qzA b (off+i*6+3))=some (qzI (Ak az i).am)/\w.cell? (qzA b (off+i*6+4))=some (qzI (Ak az i).day)/\w.cell? (qzA b (off+i*6+5))=some (.bool (Ak az i).used)):=A;have x0:wr.cell? (qzA b (off+k*6))=some (.string ⟨(Ak az k).ref.toArray⟩):=(h.cell (p:=(qzA b (off+k*6))) n).trans (l.o k hlt).1;have x1:wr.cell? (qzA b (off+k*6+1))=some (qzI (Ak az k).iss):=(h.cell (p:=(qzA b (off+k*6+1))) n).trans (l.o k hlt).2.1;have x2:wr.cell? (qzA b (off+k*6+2))=some (qzI (Ak az k).cur):=(h.cell (p:=(qzA b (off+k*6+2))) n).trans (l.o k hlt).2.2.1;have x3:wr.cell? (qzA b (off+k*6+3))=some (qzI (Ak az k).am):=(h.cell (p:=(qzA b (off+k*6+3))) n).trans (l.o k hlt).2.2.2.1;have x4:wr.cell? (qzA b (off+k*6+4))=some (qzI (Ak az k).day):=(h.cell (p:=(qzA b (off+k*6+4))) n).trans (l.o k hlt).2.2.2.2.1;have x5:wr.cell? (qzA b (off+k*6+5))=some (.bool (Ak az k).used):=(h.cell (p:=(qzA b (off+k*6+5))) n).trans (l.o k hlt).2.2.2.2.2
   have a8:(k:Int)<(az.length:Int):=by omega
   have z:Hid (∀ u,Calls prog 251 #[Fe (Ak az k),qzI C,qzI B,qzI am,qzI day] u fun e w'=>e=.returned (qzI (j k))/\BW u w'):=X.o k hlt
   obtain ⟨⟨r,i,c,m,d,u⟩,hf⟩:∃ a,Ak az k=a:=⟨_,rfl⟩;rw [hf] at x0 x1 x2 x3 x4 x5 z;unfold Fe at z
   simp only at x0 x1 x2 x3 x4 x5 z
   clear hf A h;go_upto_region 7 with fail
   clear x0 x1 x2 x3 x4 x5;obtain ⟨W,hW⟩:∃ W,wr.alloc (.cells #[.string ⟨r.toArray⟩,qzI i,qzI c,qzI m,qzI d,.bool u] 107)=W:=⟨_,rfl⟩;have bW:BW wr W:=hW ▸ bR.alloc nL _;have BX:Jo wr.heap.size ⟨r,i,c,m,d,u⟩ W:=hW ▸ Jo.new wr ⟨r,i,c,m,d,u⟩ _;rw [hW];clear hW;have V:Hid (HP none w H I cc W):=y.o.below bW;obtain ⟨q0,q1,q2,q3,q4,q5⟩:=BX
   simp only at q0 q1 q2 q3 q4 q5
   clear bW y;go_wp2_with fail
   refine (z.o _).mono ?_;rintro e u2 ⟨rfl,b2⟩;have T:Hid (HP none w H I cc u2):=V.o.below b2;clear b2 q0 q1 q2 q3 q4 q5 V z
   by_cases hs:0<=j k
   ·have N:Hid (Calls prog 252 #[.pointer (some ⟨w.heap.size,0,none⟩),qzI (j k),qzI k] u2 fun e u'=>e=.returned (.tuple #[])/\∃ g c G,HP none w G (some (qzA g 0)) c u'/\F1 G/\Fv (H++[(j k,(k:Int))]) G):=dN T.o v.o.heap (j k) k R.o
    have U:Hid (∀ G,F1 G->Fv (H++[(j k,(k:Int))]) G->Gu j (k+1) G):=fun G h1 h2=>v.o.push hs h1 h2
    generalize j k=s at hs N U
    go_wp2_with fail
    refine Calls.mono N.o ?_;rintro e u3 ⟨rfl,g3,c3,G,Z,hG,hS⟩;have a5:Hid (HP none w G (some (qzA g3 0)) c3 u3):=Z;have D:Hid (Gu j (k+1) G):=U.o G hG hS;clear Z hG hS;go_wp2
    go_roundw
    case rel=>exact ⟨k+1,G,_,_,by omega,by go_num,D.o,a5.o⟩
    case measure=>simp [intOf];omega
   ·have D:Hid (Gu j (k+1) H):=v.o.skip (by omega)
    generalize j k=s at hs
    go_wp2
    go_roundw
    case rel=>exact ⟨k+1,H,_,_,by omega,by go_num,D.o,T.o⟩
    case measure=>simp [intOf];omega
  ·have a7:k=az.length:=by omega
   subst a7
   by_cases M:0<H.length
   ·have F:Hid (Calls prog 253 #[.pointer (some ⟨w.heap.size,0,none⟩)] wr fun e u'=>e=.returned (.tuple #[.agg #[qzI (Bc H 0).1,qzI (Bc H 0).2],.bool true])/\BW w u'):=Vj y.o R.o M
    have t:Hid (Gm az C B am day (Bc H 0).2):=O.o _ (eB v.o M);obtain ⟨⟨s,p⟩,a3⟩:∃ x,Bc H 0=x:=⟨_,rfl⟩;rw [a3] at F t
    simp only at F t
    clear a3 M hz;go_wp2_with fail
    refine Calls.mono F.o ?_;rintro e u3 ⟨rfl,Y⟩;have q:Hid _:=Y;clear Y;go_wp2;go_ret;exact ⟨_,rfl,t.o,q.o.alloc q.o.size _⟩
   ·have a4:Hid (Calls prog 253 #[.pointer (some ⟨w.heap.size,0,none⟩)] wr fun e u'=>e=.returned (.tuple #[.agg #[qzI 0,qzI 0],.bool false])/\BW w u'):=Zg y.o (by omega)
    have t:Hid (Gm az C B am day (-1)):=O.o _ (fB v.o (by omega))
    clear M hz;go_wp2_with fail
    refine Calls.mono a4.o ?_;rintro e u3 ⟨rfl,Y⟩;have q:Hid _:=Y;clear Y;go_wp2;go_ret;exact ⟨_,rfl,t.o,q.o.alloc q.o.size _⟩
end Go.Proofs.YtomiclakhjncbaaGreatDoor
