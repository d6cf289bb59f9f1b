import Derived.Test.YtomiclakhjncbaaGreatDoorJL0a
import Derived.Test.YtomiclakhjncbaaGreatDoorJL2a
namespace Go.Proofs.YtomiclakhjncbaaGreatDoor
open Go.RowKit Go.Proofs.Tryz
set_option maxRecDepth 100000
set_option maxHeartbeats 12800000
theorem Qq (c:Cs) (w:World):Calls prog 88 #[cv c] w fun e w'=>e=.returned (.bool (Jp c))∧BW w w':=by
 obtain ⟨iss,acq,cur,am,st,rsn,cl,bk,fee,cop,sta,due⟩:=c;unfold cv
 simp only
 by_cases h:st=7
 ·subst h
  go_enter func88,ntmps88
  go_wp2;go_ret;refine ⟨rfl,?_⟩
  go_grown
 ·have h7:(st != 7)=true:=by simpa using h
  have HP:Hid _:=@Pm ⟨iss,acq,cur,am,st,rsn,cl,bk,fee,cop,sta,due⟩ (by simpa using h)
  go_enter func88,ntmps88
  go_wp2;go_ret;refine ⟨Aa HP.o.symm,?_⟩
  go_grown
theorem rV (ao:Option Addr) (cap:Nat) (cs:List Cs) (w:World) (hz:A0 w ao cs) (hn:cs.length≤1048576) :
  Calls prog 87 #[.slice ao cs.length cap,.func (.func 88) #[] #[]] w (qN w (Bl Jp cs cs.length)):=by
 obtain ⟨i0,hi,hz0,hz1,hz2⟩:=info_parts dE;have HX:Hid (A0 w ao cs):=hz;clear hz
 go_enter func87,ntmps87
 go_wp2
 go_loopw [5,10] (fun s i wr=>∃ (v:Value) (k:Nat),v=s∧k≤cs.length∧i=.int .i64 (k:Int)∧wr.ownsRow w.heap.size 3 1 v (Bl Jp cs k).length ((Bl Jp cs k).map (Value.int .i64))∧BW w wr) (fun _ i _=>cs.length - (intOf i).toNat)
 case atStart=>exact ⟨_,0,rfl,Nat.zero_le _,rfl,World.ownsRow_nil _ _ _ _,bR⟩
 case round =>
  obtain ⟨v,k,hvs,hk,rfl,hown,hbr⟩:=hrel;subst hvs;have HBR:Hid (BW w wr):=hbr;have HO:Hid (wr.ownsRow w.heap.size 3 1 v (Bl Jp cs k).length ((Bl Jp cs k).map (Value.int .i64))):=hown
  by_cases hlt:k<cs.length
  ·have hki:(k:Int)<(cs.length:Int):=by omega
   obtain ⟨cb,off,rfl,hb2,hcb⟩:=(HX.o.below hbr).at hlt;have hle:=Iz Jp cs k;have HIN:Hid _:=@Ms (Jp) cs k;have HOUT:Hid _:=@Ko (Jp) cs k;obtain ⟨⟨iss,acq,cur,am,st,rsn,cl,bk,fee,cop,sta,due⟩,hc⟩:∃ f,A8 cs k=f:=⟨_,rfl⟩;rw [hc] at hcb HIN HOUT;obtain ⟨y0,y1,y2,y3,y4,y5,y6,y7,y8,y9,y10,y11⟩:=hcb
   simp only at y0 y1 y2 y3 y4 y5 y6 y7 y8 y9 y10 y11
   clear hc hown hbr hb2;go_upto_region 5 with fail
   obtain ⟨B,hB⟩:∃ B,Jp ⟨iss,acq,cur,am,st,rsn,cl,bk,fee,cop,sta,due⟩=B:=⟨_,rfl⟩;obtain ⟨U,hU⟩:∃ U,U=wr.alloc (.cells #[.int .i64 iss,.int .i64 acq,.int .i64 cur,.int .i64 am,.int .i64 st,.int .i64 rsn,.int .i64 cl,.int .i64 bk,.int .i64 fee,.bool cop,.int .i64 sta,.int .i64 due] 61):=⟨_,rfl⟩
   have bU:BW wr U:=by rw [hU];exact bR.alloc nL _
   have hcU:CB wr.heap.size 0 ⟨iss,acq,cur,am,st,rsn,cl,bk,fee,cop,sta,due⟩ U:=by rw [hU];exact ⟨by simp,by simp,by simp,by simp,by simp,by simp,by simp,by simp,by simp,by simp,by simp,by simp⟩
   rw [← hU]
   have HFN:Hid (Calls prog 88 #[.agg #[.int .i64 iss,.int .i64 acq,.int .i64 cur,.int .i64 am,.int .i64 st,.int .i64 rsn,.int .i64 cl,.int .i64 bk,.int .i64 fee,.bool cop,.int .i64 sta,.int .i64 due]] U fun e w'=>e=.returned (.bool B)∧BW U w'):=by rw [Hid,← hB];exact Qq ⟨iss,acq,cur,am,st,rsn,cl,bk,fee,cop,sta,due⟩ U
   have HO1:Hid (U.ownsRow w.heap.size 3 1 v (Bl Jp cs k).length ((Bl Jp cs k).map (Value.int .i64))):=Av HO.o bU;have HB1:Hid (BW w U):=next HBR.o bU;rw [hB] at HIN HOUT;clear hU bU HO HBR y0 y1 y2 y3 y4 y5 y6 y7 y8 y9 y10 y11 hB;obtain ⟨z0,z1,z2,z3,z4,z5,z6,z7,z8,z9,z10,z11⟩:=hcU
   simp only [Nat.zero_add] at z0 z1 z2 z3 z4 z5 z6 z7 z8 z9 z10 z11
   go_wp2_with fail
   refine HFN.o.mono ?_;rintro e w2 ⟨rfl,b2⟩;have HO2:Hid (w2.ownsRow w.heap.size 3 1 v (Bl Jp cs k).length ((Bl Jp cs k).map (Value.int .i64))):=Av HO1.o b2;have HB2:Hid (BW w w2):=next HB1.o b2;have HSZ:Hid (w.heap.size≤w2.heap.size):=HB2.o.size;clear b2 HFN HO1 HB1 z0 z1 z2 z3 z4 z5 z6 z7 z8 z9 z10 z11
   cases B
   ·have HR5:Hid (w2.ownsRow w.heap.size 3 1 v (Bl Jp cs (k+1)).length ((Bl Jp cs (k+1)).map (Value.int .i64))):=by
      rw [Hid,HOUT.o (by first | rfl | trivial)];exact HO2.o
    go_wp2
    go_roundw
    case rel=>exact ⟨_,k+1,rfl,by omega,by go_num,HR5.o,HB2.o⟩
    case measure=>simp [intOf];omega
   ·have HLT:Hid (∀ j,v.ownBlock=some j→w.heap.size≤j):=fun j hj=>(HO2.o.lt j hj).1
    go_wp2_with (at_builtin;refine wpList_append_own _ rfl (.tmp 18) (.tmp 20) 22 rfl w.heap.size 3 i0 (.int .i64 0) 1 8 underlying22 hi hz0 hz1 hz2 rfl (by decide) _ _ _ rfl (HO2.o.alloc _) ⟨w2.heap.size,0,none⟩ 1 1 [.int .i64 (k:Int)] rfl rfl (World.news_of_block (heap_alloc_new w2 _)) (Tw _) (by unfold maxLen;omega) (by omega) (by simp;have:=HSZ.o;omega) ?_;intro v5 w5 o5 g5 _)
    have q5:BW w w5:=(HB2.o.alloc (by have:=HSZ.o;omega) _).grown g5 (by have:=HSZ.o;simp;omega) HLT.o
    have HR5:Hid (w5.ownsRow w.heap.size 3 1 v5 (Bl Jp cs (k+1)).length ((Bl Jp cs (k+1)).map (Value.int .i64))):=by
     rw [Hid,HIN.o (by first | rfl | trivial),List.length_append,List.map_append];exact o5
    clear o5 g5;go_wp2
    go_roundw
    case rel=>exact ⟨_,k+1,rfl,by omega,by go_num,HR5.o,q5⟩
    case measure=>simp [intOf];omega
  ·have hke:k=cs.length:=by omega
   subst hke
   have hki:¬ (cs.length:Int)<(cs.length:Int):=by omega
   obtain ⟨va,vk,hva⟩:=Fz hown;subst hva;clear hbr hown;go_wp2;go_ret;exact ⟨va,vk,rfl,HO.o,HBR.o⟩
theorem uM (b:Bk) (p:Bp) (w:World) (hx:Aq w b p) (hn:D0 b) :
  Calls prog 34 #[C5 b p] w (qN w (Bl Jp b.cs b.cs.length)):=by
 obtain ⟨W,hW⟩:∃ W,W=w.alloc (.cells #[.int .i64 b.today,.slice p.o b.off.length p.oc,.slice p.a b.az.length p.ac,.slice p.c b.cs.length p.cc,.slice p.l b.ls.length p.lc,.slice p.g b.log.length p.gc] 31):=⟨_,rfl⟩
 have bW:BW w W:=by rw [hW];exact bR.alloc nL _
 have HS:Hid (S6 w.heap.size b p W):=by rw [Hid,hW];exact S6.new w b p _
 have HX:Hid (A0 W p.c b.cs):=(hx.below bW).cs;have HBW:Hid (BW w W):=bW;have HWS:Hid (w.heap.size≤W.heap.size):=bW.size;have hcn:=hn.2.2.1;clear hx hn bW;have HW:Hid _:=hW;clear hW;obtain ⟨td,fo,az,cs,ls,lg⟩:=b;obtain ⟨o,oc,a,ac,c,cc,l,lc,g,gc⟩:=p;unfold C5
 simp only at HW HX hcn ⊢
 obtain ⟨x0,x1,x2,x3,x4,x5⟩:=HS.o
 simp only at x0 x1 x2 x3 x4 x5
 go_enter func34,ntmps34
 go_upto_region 1 with fail
 rw [← HW.o];clear HW;go_wp2_with fail
 refine (rV _ _ cs _ HX.o hcn).mono ?_;rintro e w2 ⟨va,vk,rfl,o2,b2⟩;have HO:Hid _:=Bi o2 HWS.o;have HB2:Hid (BW w w2):=next HBW.o b2;clear x0 x1 x2 x3 x4 x5 o2 b2;go_wp2;go_ret;exact ⟨va,vk,rfl,HO.o,HB2.o⟩
end Go.Proofs.YtomiclakhjncbaaGreatDoor
