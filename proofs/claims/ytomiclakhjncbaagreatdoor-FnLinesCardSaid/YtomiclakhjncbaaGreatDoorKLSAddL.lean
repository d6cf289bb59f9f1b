import Derived.Test.YtomiclakhjncbaaGreatDoorJL0a
import Derived.Test.YtomiclakhjncbaaGreatDoorKLSLed2
import Derived.Test.YtomiclakhjncbaaGreatDoorJL1a
import Derived.Maps.AppendAt
import Derived.Deep.DeepCutAuto
namespace Go.Proofs.YtomiclakhjncbaaGreatDoor
open Go.RowKit Go.Proofs.Tryz
set_option maxRecDepth 100000
set_option maxHeartbeats 12800000
def Mu (done:Bool) (ls:List Ln) (a c m:Int):List Ln:=if done=true then ls else Cr ls a c m
theorem Kz (ls:List Ln) (a c m:Int):Mu true ls a c m=ls:=rfl
theorem Js (ls:List Ln) (a c m:Int):Mu false ls a c m=Cr ls a c m:=rfl
theorem jI {x:Ln} {r:List Ln} {a c m:Int} (h:My x a c=false):Cr (x::r) a c m=x::Cr r a c m:=by simp only [Cr];rw [if_neg (by rw [h];decide)]
theorem eJ {x:Ln} {r:List Ln} {a c m:Int} (h:My x a c=true) (he:x.1=a∧x.2.1=c):Cr (x::r) a c m=if x.2.2+m≠0 then (a,c,x.2.2+m)::r else r:=by simp only [Cr];rw [if_pos h,if_pos he]
theorem lD {x:Ln} {r:List Ln} {a c m:Int} (h:My x a c=true) (he:¬ (x.1=a∧x.2.1=c)):Cr (x::r) a c m=(a,c,m)::x::r:=by simp only [Cr];rw [if_pos h,if_neg he]
theorem Ve (x y z:Int):∀ u ∈ [Value.int .i64 x,.int .i64 y,.int .i64 z],u.oneCell'=true:=by
 intro u hu
 simp at hu
 rcases hu with rfl | rfl | rfl <;> rfl
theorem aD {w:World} {base n:Nat} {t:TypeId} {v:Value} {out:List Ln} {x y z:Int} (h:w.ownsRow base t 3 v n (Ag out++[.int .i64 x,.int .i64 y,.int .i64 z])):w.ownsRow base t 3 v n (Ag (out++[(x,y,z)])):=by
 rw [Ip];exact h
theorem Tf (ao:Option Addr) (cap:Nat) (ls:List Ln) (a c m:Int) (w:World) (hz:Ai w ao ls) (hn:ls.length≤1048576) (hm:-1000000000000≤m∧m≤1000000000000) (hb:∀ x ∈ ls,-4000000000000≤x.2.2∧x.2.2≤4000000000000) :
  Calls prog 262 #[.slice ao ls.length cap,.int .i64 a,.int .i64 c,.int .i64 m] w fun e w'=>∃ g cap',e=.returned (.slice g (Cr ls a c m).length cap') ∧
   w'.ownsRow w.heap.size 113 3 (.slice g (Cr ls a c m).length cap') (Cr ls a c m).length (Ag (Cr ls a c m))∧BW w w':=by
 obtain ⟨i0,hi,hz0,hz1,hz2⟩:=info_parts bY;have HZ:Hid (Ai w ao ls):=hz;have HB:Hid (∀ x ∈ ls,-4000000000000≤x.2.2∧x.2.2≤4000000000000):=hb
 have ownE:(w.alloc (.cells #[] 113)).ownsRow w.heap.size 113 3 (.slice (some ⟨w.heap.size,0,none⟩) 0 0) 0 (Ag []):=World.ownsRow_lit w #[] 0 nL (by unfold maxLen;omega) rfl
 have HOE:Hid ((w.alloc (.cells #[] 113)).ownsRow w.heap.size 113 3 (.slice (some ⟨w.heap.size,0,none⟩) 0 0) 0 (Ag [])):=ownE;clear hz hb ownE;obtain ⟨A,hA⟩:∃ A,Cr ls a c m=A:=⟨_,rfl⟩;rw [hA];have HA:Hid _:=hA;clear hA
 go_enter func262,ntmps262
 go_wp2
 go_loopw [9,10,11] (fun s d i wr=>∃ (v:Value) (k:Nat) (done:Bool) (out:List Ln),v=s∧d=.bool done∧k≤ls.length∧i=.int .i64 k∧A=out++Mu done (ls.drop k) a c m∧((done=false→out.length≤k)∧out.length≤k+1)∧wr.ownsRow w.heap.size 113 3 v out.length (Ag out)∧BW w wr) (fun _ _ i _=>ls.length - (intOf i).toNat)
 case atStart=>exact ⟨_,0,false,[],rfl,rfl,Nat.zero_le _,rfl,HA.o.symm,⟨fun _=>Nat.zero_le _,Nat.zero_le _⟩,HOE.o,by go_grown⟩
 case round =>
  obtain ⟨v,k,done,out,hvs,rfl,hk,rfl,hAe,⟨hol0,hol⟩,ho,hbr⟩:=hrel;subst hvs;have hbs:=hbr.size;have HO:Hid (wr.ownsRow w.heap.size 113 3 v out.length (Ag out)):=ho
  have HLT:Hid (∀ j,v.ownBlock=some j→w.heap.size≤j):=fun j hj=>(ho.lt j hj).1
  have HAE:Hid _:=hAe;clear ho hAe HOE
  by_cases hlt:k<ls.length
  ·have hki:(k:Int)<(ls.length:Int):=by omega
   obtain ⟨b,off,rfl,hb2,c1,c2,c3⟩:=(HZ.o.below hbr).at hlt;have hbd:=HB.o _ (Ex hlt);have hdr:=Tu ls k hlt;obtain ⟨⟨x,y,z⟩,hx⟩:∃ x,Cg ls k=x:=⟨_,rfl⟩;rw [hx] at c1 c2 c3 hdr hbd
   simp only at c1 c2 c3 hbd
   have HDR:Hid _:=hdr;obtain ⟨W,hW⟩:∃ W,W=wr.alloc (.cells #[.int .i64 x,.int .i64 y,.int .i64 z] 113):=⟨_,rfl⟩
   have bW:BW w W:=by rw [hW];exact hbr.alloc hbs _
   have HOW:Hid (W.ownsRow w.heap.size 113 3 v out.length (Ag out)):=by rw [Hid,hW];exact HO.o.alloc _
   have y0:W.cell? ⟨wr.heap.size,0,none⟩=some (.int .i64 x):=by rw [hW];simp
   have y1:W.cell? ⟨wr.heap.size,1,none⟩=some (.int .i64 y):=by rw [hW];simp
   have y2:W.cell? ⟨wr.heap.size,2,none⟩=some (.int .i64 z):=by rw [hW];simp
   have f2:W.frozen? ⟨wr.heap.size,2,none⟩=false:=by rw [hW];simp [go_sem]
   have hWs:=bW.size;have hwW:wr.heap.size<W.heap.size:=World.block_lt_of_cell? W _ y0;clear hdr hx;go_upto_region 7 with fail
   rw [← hW];clear hW c1 c2 c3
   cases done
   ·have HL0:Hid (out.length≤k):=hol0 rfl
    clear hol0
    cases hr:My (x,y,z) a c
    ·have HN:Hid (A=(out++[(x,y,z)])++Mu false (ls.drop (k+1)) a c m):=by
       rw [Hid,HAE.o,Js,HDR.o,jI hr,Js,List.append_assoc];rfl
     have hr':=hr
     simp only [My,decide_eq_false_iff_not] at hr'
     have v1:¬ a<x:=by omega
     by_cases v2:x=a
     ·have v2':(x == a)=true:=by simpa using v2
      have v3:¬ c≤y:=by omega
      clear hr hr' HAE HDR v2
      go_wp2_with (at_builtin;refine wpList_append_own _ rfl (.tmp 73) (.tmp 75) 27 rfl w.heap.size 113 i0 _ 3 24 underlying27 hi hz0 hz1 hz2 rfl (by decide) _ _ _ rfl (HOW.o.alloc _) ⟨W.heap.size,0,none⟩ 1 1 [.int .i64 x,.int .i64 y,.int .i64 z] rfl rfl (World.news_of_block (heap_alloc_new W _)) (Ve x y z) (by unfold maxLen;omega) (by omega) (by simp;omega) ?_;intro v5 w5 o5 g5 _)
      have HR5:Hid (w5.ownsRow w.heap.size 113 3 v5 (out++[(x,y,z)]).length (Ag (out++[(x,y,z)]))):=by rw [Hid,List.length_append];exact aD o5
      have q5:BW w w5:=(bW.alloc hWs _).grown g5 (by simp;omega) HLT.o
      clear o5 g5 HO HOW;go_wp2
      go_roundw
      case rel=>exact ⟨_,k+1,false,_,rfl,rfl,by omega,by go_num,HN.o,⟨fun _=>by have:=HL0.o;simp;omega,by have:=HL0.o;simp;omega⟩,HR5.o,q5⟩
      case measure=>simp [intOf];omega
     ·have v2':(x == a)=false:=by simpa using v2
      clear hr hr' HAE HDR v2
      go_wp2_with (at_builtin;refine wpList_append_own _ rfl (.tmp 73) (.tmp 75) 27 rfl w.heap.size 113 i0 _ 3 24 underlying27 hi hz0 hz1 hz2 rfl (by decide) _ _ _ rfl (HOW.o.alloc _) ⟨W.heap.size,0,none⟩ 1 1 [.int .i64 x,.int .i64 y,.int .i64 z] rfl rfl (World.news_of_block (heap_alloc_new W _)) (Ve x y z) (by unfold maxLen;omega) (by omega) (by simp;omega) ?_;intro v5 w5 o5 g5 _)
      have HR5:Hid (w5.ownsRow w.heap.size 113 3 v5 (out++[(x,y,z)]).length (Ag (out++[(x,y,z)]))):=by rw [Hid,List.length_append];exact aD o5
      have q5:BW w w5:=(bW.alloc hWs _).grown g5 (by simp;omega) HLT.o
      clear o5 g5 HO HOW;go_wp2
      go_roundw
      case rel=>exact ⟨_,k+1,false,_,rfl,rfl,by omega,by go_num,HN.o,⟨fun _=>by have:=HL0.o;simp;omega,by have:=HL0.o;simp;omega⟩,HR5.o,q5⟩
      case measure=>simp [intOf];omega
    ·have hr':=hr
     simp only [My,decide_eq_true_eq] at hr'
     by_cases he:x=a∧y=c
     ·obtain ⟨v2,v3⟩:=he
      have v2':(x == a)=true:=by simpa using v2
      have v3':(y == c)=true:=by simpa using v3
      have v1:¬ a<x:=by omega
      have v4:c≤y:=by omega
      have hh:=eJ (m:=m) (r:=ls.drop (k+1)) hr ⟨v2,v3⟩
      have hwz:IntKind.i64.wrap (z+m)=z+m:=by simp [IntKind.wrap,IntKind.bits,IntKind.signed];omega
      obtain ⟨V,hV⟩:∃ V,V=W.setCell ⟨wr.heap.size,2,none⟩ (.int .i64 (z+m)):=⟨_,rfl⟩
      have p0:V.cell? ⟨wr.heap.size,0,none⟩=some (.int .i64 x):=by rw [hV];simp [go_sem,y0]
      have p1:V.cell? ⟨wr.heap.size,1,none⟩=some (.int .i64 y):=by rw [hV];simp [go_sem,y1]
      have p2:V.cell? ⟨wr.heap.size,2,none⟩=some (.int .i64 (z+m)):=by rw [hV];simp [go_sem,y2]
      have bV:BW w V:=by rw [hV];exact bW.setCell (by show w.heap.size≤wr.heap.size;omega) _
      have HOV:Hid (V.ownsRow w.heap.size 113 3 v out.length (Ag out)):=by
       rw [Hid,hV]
       exact A5 HOW.o _ _ (fun g hg=>by have:=(HO.o.lt g hg).2;simp only;omega)
      have hVs:=bV.size;have HV:Hid _:=hV
      by_cases hs0:z+m=0
      ·have HN:Hid (A=out++Mu true (ls.drop (k+1)) a c m):=by
         rw [Hid,HAE.o,Js,HDR.o,hh,if_neg (by simpa using hs0)];rfl
       have hs0':(z+m != 0)=false:=by simpa using hs0
       have HS0:Hid _:=hs0;clear hr hr' HAE HDR v2 v3 hh hV p0 p1 p2;go_wp2
       go_roundw
       case rel=>exact ⟨_,k+1,true,out,rfl,rfl,by omega,by go_num,HN.o,⟨(fun h=>by cases h),by omega⟩,by have h:=HOV.o;rw [HV.o,HS0.o] at h;exact h,by have h:=bV;rw [HV.o,HS0.o] at h;exact h⟩
       case measure=>simp [intOf];omega
      ·have HN:Hid (A=(out++[(x,y,z+m)])++Mu true (ls.drop (k+1)) a c m):=by
         rw [Hid,HAE.o,Js,HDR.o,hh,if_pos (by simpa using hs0),Kz,v2,v3,List.append_assoc];rfl
       have hs0':(z+m != 0)=true:=by simpa using hs0
       clear hr hr' HAE HDR v2 v3 hh hs0;go_upto_region 12 with fail
       rw [← hV];clear hV
       go_wp2_with (at_builtin;refine wpList_append_own _ rfl (.tmp 62) (.tmp 64) 27 rfl w.heap.size 113 i0 _ 3 24 underlying27 hi hz0 hz1 hz2 rfl (by decide) _ _ _ rfl (HOV.o.alloc _) ⟨V.heap.size,0,none⟩ 1 1 [.int .i64 x,.int .i64 y,.int .i64 (z+m)] rfl rfl (World.news_of_block (heap_alloc_new V _)) (Ve x y (z+m)) (by unfold maxLen;omega) (by omega) (by simp;omega) ?_;intro v5 w5 o5 g5 _)
       have HR5:Hid (w5.ownsRow w.heap.size 113 3 v5 (out++[(x,y,z+m)]).length (Ag (out++[(x,y,z+m)]))):=by rw [Hid,List.length_append];exact aD o5
       have q5:BW w w5:=(bV.alloc hVs _).grown g5 (by simp;omega) HLT.o
       clear o5 g5 HO HOW HOV;go_wp2
       go_roundw
       case rel=>exact ⟨_,k+1,true,_,rfl,rfl,by omega,by go_num,HN.o,⟨(fun h=>by cases h),by simp;omega⟩,HR5.o,q5⟩
       case measure=>simp [intOf];omega
     ·have HN:Hid (A=(out++[(a,c,m)]++[(x,y,z)])++Mu true (ls.drop (k+1)) a c m):=by
        rw [Hid,HAE.o,Js,HDR.o,lD hr he,Kz,List.append_assoc,List.append_assoc];rfl
      have hya:∀ o,(W.alloc o).cell? ⟨wr.heap.size,0,none⟩=some (.int .i64 x)∧(W.alloc o).cell? ⟨wr.heap.size,1,none⟩=some (.int .i64 y)∧(W.alloc o).cell? ⟨wr.heap.size,2,none⟩=some (.int .i64 z):=fun o=>⟨(World.cell?_alloc_lt _ _ ⟨wr.heap.size,0,none⟩ hwW).trans y0,(World.cell?_alloc_lt _ _ ⟨wr.heap.size,1,none⟩ hwW).trans y1,(World.cell?_alloc_lt _ _ ⟨wr.heap.size,2,none⟩ hwW).trans y2⟩
      have HYA:Hid _:=hya
      have HNE:Hid (some wr.heap.size≠v.ownBlock):=fun e=>by have:=(HO.o.lt _ e.symm).2;omega
      have hguard:(a<x∧(x == a)=false)∨(¬ a<x∧(x == a)=true∧c≤y∧(y == c)=false):=by
       by_cases v1:a<x
       ·exact .inl ⟨v1,by simp;omega⟩
       ·have v2:x=a:=by omega
        exact .inr ⟨v1,by simpa using v2,by omega,by simp;intro h;exact he ⟨v2,h⟩⟩
      clear hr hr' HAE HDR he hya
      rcases hguard with ⟨v1,v2⟩ | ⟨v1,v2,v3,v4⟩
      all_goals
       go_wp2_with (at_builtin;first
        | (refine wpList_append_own _ rfl (.tmp 66) (.tmp 71) 27 rfl w.heap.size 113 i0 _ 3 24 underlying27 hi hz0 hz1 hz2 rfl (by decide) _ _ _ rfl (HOW.o.alloc _) ⟨W.heap.size,0,none⟩ 1 1 [.int .i64 a,.int .i64 c,.int .i64 m] rfl rfl (World.news_of_block (heap_alloc_new W _)) (Ve a c m) (by unfold maxLen;omega) (by omega) (by simp;omega) ?_;intro v5 w5 o5 g5 _;have q5:BW w w5:=(bW.alloc hWs _).grown g5 (by simp;omega) HLT.o;have k0:=(g5.cell_far ⟨wr.heap.size,0,none⟩ (by simp;omega) HNE.o).trans (HYA.o _).1;have k1:=(g5.cell_far ⟨wr.heap.size,1,none⟩ (by simp;omega) HNE.o).trans (HYA.o _).2.1;have k2:=(g5.cell_far ⟨wr.heap.size,2,none⟩ (by simp;omega) HNE.o).trans (HYA.o _).2.2;have HO5:Hid (w5.ownsRow w.heap.size 113 3 v5 (out.length+1) (Ag out++[.int .i64 a,.int .i64 c,.int .i64 m])):=o5;have hs5:=q5.size;clear o5 g5)
        | (refine wpList_append_own _ rfl (.tmp 73) (.tmp 75) 27 rfl w.heap.size 113 i0 _ 3 24 underlying27 hi hz0 hz1 hz2 rfl (by decide) _ _ _ rfl (HO5.o.alloc _) ⟨w5.heap.size,0,none⟩ 1 1 [.int .i64 x,.int .i64 y,.int .i64 z] rfl rfl (World.news_of_block (heap_alloc_new w5 _)) (Ve x y z) (by unfold maxLen;omega) (by omega) (by simp;omega) ?_;intro v6 w6 o6 g6 _))
       have HR6:Hid (w6.ownsRow w.heap.size 113 3 v6 (out++[(a,c,m)]++[(x,y,z)]).length (Ag (out++[(a,c,m)]++[(x,y,z)]))):=by
        rw [Hid,List.length_append,List.length_append,Ip,Ip];exact o6
       have q6:BW w w6:=(q5.alloc hs5 _).grown g6 (by simp;omega) (fun j hj=>(HO5.o.lt j hj).1)
       clear o6 g6 HO HOW HO5;go_wp2
       go_roundw
       case rel=>exact ⟨_,k+1,true,_,rfl,rfl,by omega,by go_num,HN.o,⟨(fun h=>by cases h),by have:=HL0.o;simp;omega⟩,HR6.o,q6⟩
       case measure=>simp [intOf];omega
   ·have HN:Hid (A=(out++[(x,y,z)])++Mu true (ls.drop (k+1)) a c m):=by
      rw [Hid,HAE.o,Kz,HDR.o,Kz,List.append_assoc];rfl
    clear HAE HDR
    go_wp2_with (at_builtin;refine wpList_append_own _ rfl (.tmp 73) (.tmp 75) 27 rfl w.heap.size 113 i0 _ 3 24 underlying27 hi hz0 hz1 hz2 rfl (by decide) _ _ _ rfl (HOW.o.alloc _) ⟨W.heap.size,0,none⟩ 1 1 [.int .i64 x,.int .i64 y,.int .i64 z] rfl rfl (World.news_of_block (heap_alloc_new W _)) (Ve x y z) (by unfold maxLen;omega) (by omega) (by simp;omega) ?_;intro v5 w5 o5 g5 _)
    have HR5:Hid (w5.ownsRow w.heap.size 113 3 v5 (out++[(x,y,z)]).length (Ag (out++[(x,y,z)]))):=by rw [Hid,List.length_append];exact aD o5
    have q5:BW w w5:=(bW.alloc hWs _).grown g5 (by simp;omega) HLT.o
    clear o5 g5 HO HOW;go_wp2
    go_roundw
    case rel=>exact ⟨_,k+1,true,_,rfl,rfl,by omega,by go_num,HN.o,⟨(fun h=>by cases h),by simp;omega⟩,HR5.o,q5⟩
    case measure=>simp [intOf];omega
  ·have hke:k=ls.length:=by omega
   subst hke
   have hki:¬ (ls.length:Int)<(ls.length:Int):=by omega
   have hd:ls.drop ls.length=[]:=List.drop_of_length_le nL
   cases done
   ·have HN:Hid (A=out++[(a,c,m)]):=by rw [Hid,HAE.o,hd];rfl
    clear HAE hd
    go_wp2_with (at_builtin;refine wpList_append_own _ rfl (.tmp 79) (.tmp 84) 27 rfl w.heap.size 113 i0 _ 3 24 underlying27 hi hz0 hz1 hz2 rfl (by decide) _ _ _ rfl (HO.o.alloc _) ⟨wr.heap.size,0,none⟩ 1 1 [.int .i64 a,.int .i64 c,.int .i64 m] rfl rfl (World.news_of_block (heap_alloc_new wr _)) (Ve a c m) (by unfold maxLen;omega) (by omega) (by simp;omega) ?_;intro v5 w5 o5 g5 _;obtain ⟨ao5,cap5,hv5,-,-⟩:=Ef (ls:=out++[(a,c,m)]) (aD o5);subst hv5)
    have HR5:Hid (w5.ownsRow w.heap.size 113 3 (.slice ao5 (out++[(a,c,m)]).length cap5) (out++[(a,c,m)]).length (Ag (out++[(a,c,m)]))):=by
     have h:=aD o5;rw [List.length_append] at h ⊢;exact h
    have q5:BW w w5:=(hbr.alloc hbs _).grown g5 (by simp;omega) HLT.o
    clear o5 g5 HO;go_wp2;go_ret;have hN:=HN.o;subst hN
    exact ⟨ao5,cap5,by rw [List.length_append];rfl,HR5.o,q5⟩
   ·have HN:Hid (A=out):=by rw [Hid,HAE.o,hd];simp [Mu]
    obtain ⟨ao5,cap5,hv5,-,-⟩:=Ef HO.o;subst hv5;clear HAE hd;go_wp2;go_ret;have hN:=HN.o;subst hN;exact ⟨ao5,cap5,rfl,HO.o,hbr⟩
end Go.Proofs.YtomiclakhjncbaaGreatDoor
