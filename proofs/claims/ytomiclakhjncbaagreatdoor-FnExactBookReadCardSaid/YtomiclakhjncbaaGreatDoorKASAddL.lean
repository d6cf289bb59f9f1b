import Derived.Test.YtomiclakhjncbaaGreatDoorKASLed2
import Derived.Test.YtomiclakhjncbaaGreatDoorJA1a
import Derived.Maps.AppendAt
import Derived.Deep.DeepCutAuto
namespace Go.Proofs.YtomiclakhjncbaaGreatDoor
open Go.RowKit
set_option maxRecDepth 100000
set_option maxHeartbeats 12800000
def restA (done:Bool) (ls:List Ln) (a c m:Int):List Ln:=if done=true then ls else addL ls a c m
theorem restA_yes (ls:List Ln) (a c m:Int):restA true ls a c m=ls:=rfl
theorem restA_no (ls:List Ln) (a c m:Int):restA false ls a c m=addL ls a c m:=rfl
theorem addL_far {x:Ln} {r:List Ln} {a c m:Int} (h:reach x a c=false):addL (x::r) a c m=x::addL r a c m:=by simp only [addL];rw [if_neg (by rw [h];decide)]
theorem addL_here {x:Ln} {r:List Ln} {a c m:Int} (h:reach x a c=true) (he:x.1=a∧x.2.1=c):addL (x::r) a c m=if x.2.2+m≠0 then (a,c,x.2.2+m)::r else r:=by simp only [addL];rw [if_pos h,if_pos he]
theorem addL_new {x:Ln} {r:List Ln} {a c m:Int} (h:reach x a c=true) (he:¬ (x.1=a∧x.2.1=c)):addL (x::r) a c m=(a,c,m)::x::r:=by simp only [addL];rw [if_pos h,if_neg he]
theorem one3 (x y z:Int):∀ u ∈ [Value.int .i64 x,.int .i64 y,.int .i64 z],u.oneCell'=true:=by
 intro u hu
 simp at hu
 rcases hu with rfl | rfl | rfl <;> rfl
theorem own3 {w:World} {base n:Nat} {t:TypeId} {v:Value} {out:List Ln} {x y z:Int} (h:w.ownsRow base t 3 v n (lcells out++[.int .i64 x,.int .i64 y,.int .i64 z])):w.ownsRow base t 3 v n (lcells (out++[(x,y,z)])):=by
 rw [lcells_append];exact h
theorem sAddL_any (ao:Option Addr) (cap:Nat) (ls:List Ln) (a c m:Int) (w:World) (hz:LinesAt w ao ls) (hn:ls.length≤1048576) (hm:-1000000000000≤m∧m≤1000000000000) (hb:∀ x ∈ ls,-4000000000000≤x.2.2∧x.2.2≤4000000000000) :
  Calls Tryz.prog 262 #[.slice ao ls.length cap,.int .i64 a,.int .i64 c,.int .i64 m] w fun e w'=>∃ g cap',e=.returned (.slice g (addL ls a c m).length cap') ∧
   w'.ownsRow w.heap.size 113 3 (.slice g (addL ls a c m).length cap') (addL ls a c m).length (lcells (addL ls a c m))∧Below w.heap.size w w':=by
 obtain ⟨i0,hi,hz0,hz1,hz2⟩:=info_parts infoL
 have HZ:Hid (LinesAt w ao ls):=hz
 have HB:Hid (∀ x ∈ ls,-4000000000000≤x.2.2∧x.2.2≤4000000000000):=hb
 have ownE:(w.alloc (.cells #[] 113)).ownsRow w.heap.size 113 3 (.slice (some ⟨w.heap.size,0,none⟩) 0 0) 0 (lcells []):=World.ownsRow_lit w #[] 0 (Nat.le_refl _) (by unfold maxLen;omega) rfl
 have HOE:Hid ((w.alloc (.cells #[] 113)).ownsRow w.heap.size 113 3 (.slice (some ⟨w.heap.size,0,none⟩) 0 0) 0 (lcells [])):=ownE
 clear hz hb ownE
 obtain ⟨A,hA⟩:∃ A,addL ls a c m=A:=⟨_,rfl⟩
 rw [hA]
 have HA:Hid _:=hA
 clear hA
 go_enter Tryz.func262,Tryz.ntmps262
 go_wp2
 go_loopw [9,10,11] (fun s d i wr=>∃ (v:Value) (k:Nat) (done:Bool) (out:List Ln),v=s∧d=.bool done∧k≤ls.length∧i=.int .i64 k∧A=out++restA done (ls.drop k) a c m∧((done=false→out.length≤k)∧out.length≤k+1)∧wr.ownsRow w.heap.size 113 3 v out.length (lcells out)∧Below w.heap.size w wr) (fun _ _ i _=>ls.length - (intOf i).toNat)
 case atStart=>exact ⟨_,0,false,[],rfl,rfl,Nat.zero_le _,rfl,HA.out.symm,⟨fun _=>Nat.zero_le _,Nat.zero_le _⟩,HOE.out,by go_grown⟩
 case round =>
  obtain ⟨v,k,done,out,hvs,rfl,hk,rfl,hAe,⟨hol0,hol⟩,ho,hbr⟩:=hrel
  subst hvs
  have hbs:=hbr.size
  have HO:Hid (wr.ownsRow w.heap.size 113 3 v out.length (lcells out)):=ho
  have HLT:Hid (∀ j,v.ownBlock=some j→w.heap.size≤j):=fun j hj=>(ho.lt j hj).1
  have HAE:Hid _:=hAe
  clear ho hAe HOE
  by_cases hlt:k<ls.length
  ·have hki:(k:Int)<(ls.length:Int):=by omega
   obtain ⟨b,off,rfl,hb2,c1,c2,c3⟩:=(HZ.out.below hbr).at hlt
   have hbd:=HB.out _ (lnAt_mem hlt)
   have hdr:=drop_lnAt ls k hlt
   obtain ⟨⟨x,y,z⟩,hx⟩:∃ x,lnAt ls k=x:=⟨_,rfl⟩
   rw [hx] at c1 c2 c3 hdr hbd
   simp only at c1 c2 c3 hbd
   have HDR:Hid _:=hdr
   obtain ⟨W,hW⟩:∃ W,W=wr.alloc (.cells #[.int .i64 x,.int .i64 y,.int .i64 z] 113):=⟨_,rfl⟩
   have bW:Below w.heap.size w W:=by rw [hW];exact hbr.alloc hbs _
   have HOW:Hid (W.ownsRow w.heap.size 113 3 v out.length (lcells out)):=by rw [Hid,hW];exact HO.out.alloc _
   have y0:W.cell? ⟨wr.heap.size,0,none⟩=some (.int .i64 x):=by rw [hW];simp
   have y1:W.cell? ⟨wr.heap.size,1,none⟩=some (.int .i64 y):=by rw [hW];simp
   have y2:W.cell? ⟨wr.heap.size,2,none⟩=some (.int .i64 z):=by rw [hW];simp
   have f2:W.frozen? ⟨wr.heap.size,2,none⟩=false:=by rw [hW];simp [go_sem]
   have hWs:=bW.size
   have hwW:wr.heap.size<W.heap.size:=World.block_lt_of_cell? W _ y0
   clear hdr hx
   go_upto_region 7 with fail
   rw [← hW]
   clear hW c1 c2 c3
   cases done
   ·have HL0:Hid (out.length≤k):=hol0 rfl
    clear hol0
    cases hr:reach (x,y,z) a c
    ·have HN:Hid (A=(out++[(x,y,z)])++restA false (ls.drop (k+1)) a c m):=by
       rw [Hid,HAE.out,restA_no,HDR.out,addL_far hr,restA_no,List.append_assoc];rfl
     have hr':=hr
     simp only [reach,decide_eq_false_iff_not] at hr'
     have v1:¬ a<x:=by omega
     by_cases v2:x=a
     ·have v2':(x == a)=true:=by simpa using v2
      have v3:¬ c≤y:=by omega
      clear hr hr' HAE HDR v2
      go_wp2_with (at_builtin;refine wpList_append_own _ rfl (.tmp 73) (.tmp 75) 27 rfl w.heap.size 113 i0 _ 3 24 Tryz.underlying27 hi hz0 hz1 hz2 rfl (by decide) _ _ _ rfl (HOW.out.alloc _) ⟨W.heap.size,0,none⟩ 1 1 [.int .i64 x,.int .i64 y,.int .i64 z] rfl rfl (World.news_of_block (heap_alloc_new W _)) (one3 x y z) (by unfold maxLen;omega) (by omega) (by simp;omega) ?_;intro v5 w5 o5 g5 _)
      have HR5:Hid (w5.ownsRow w.heap.size 113 3 v5 (out++[(x,y,z)]).length (lcells (out++[(x,y,z)]))):=by rw [Hid,List.length_append];exact own3 o5
      have q5:Below w.heap.size w w5:=(bW.alloc hWs _).grown g5 (by simp;omega) HLT.out
      clear o5 g5 HO HOW
      go_wp2
      go_roundw
      case rel=>exact ⟨_,k+1,false,_,rfl,rfl,by omega,by go_num,HN.out,⟨fun _=>by have:=HL0.out;simp;omega,by have:=HL0.out;simp;omega⟩,HR5.out,q5⟩
      case measure=>simp [intOf];omega
     ·have v2':(x == a)=false:=by simpa using v2
      clear hr hr' HAE HDR v2
      go_wp2_with (at_builtin;refine wpList_append_own _ rfl (.tmp 73) (.tmp 75) 27 rfl w.heap.size 113 i0 _ 3 24 Tryz.underlying27 hi hz0 hz1 hz2 rfl (by decide) _ _ _ rfl (HOW.out.alloc _) ⟨W.heap.size,0,none⟩ 1 1 [.int .i64 x,.int .i64 y,.int .i64 z] rfl rfl (World.news_of_block (heap_alloc_new W _)) (one3 x y z) (by unfold maxLen;omega) (by omega) (by simp;omega) ?_;intro v5 w5 o5 g5 _)
      have HR5:Hid (w5.ownsRow w.heap.size 113 3 v5 (out++[(x,y,z)]).length (lcells (out++[(x,y,z)]))):=by rw [Hid,List.length_append];exact own3 o5
      have q5:Below w.heap.size w w5:=(bW.alloc hWs _).grown g5 (by simp;omega) HLT.out
      clear o5 g5 HO HOW
      go_wp2
      go_roundw
      case rel=>exact ⟨_,k+1,false,_,rfl,rfl,by omega,by go_num,HN.out,⟨fun _=>by have:=HL0.out;simp;omega,by have:=HL0.out;simp;omega⟩,HR5.out,q5⟩
      case measure=>simp [intOf];omega
    ·have hr':=hr
     simp only [reach,decide_eq_true_eq] at hr'
     by_cases he:x=a∧y=c
     ·obtain ⟨v2,v3⟩:=he
      have v2':(x == a)=true:=by simpa using v2
      have v3':(y == c)=true:=by simpa using v3
      have v1:¬ a<x:=by omega
      have v4:c≤y:=by omega
      have hh:=addL_here (m:=m) (r:=ls.drop (k+1)) hr ⟨v2,v3⟩
      have hwz:IntKind.i64.wrap (z+m)=z+m:=by simp [IntKind.wrap,IntKind.bits,IntKind.signed];omega
      obtain ⟨V,hV⟩:∃ V,V=W.setCell ⟨wr.heap.size,2,none⟩ (.int .i64 (z+m)):=⟨_,rfl⟩
      have p0:V.cell? ⟨wr.heap.size,0,none⟩=some (.int .i64 x):=by rw [hV];simp [go_sem,y0]
      have p1:V.cell? ⟨wr.heap.size,1,none⟩=some (.int .i64 y):=by rw [hV];simp [go_sem,y1]
      have p2:V.cell? ⟨wr.heap.size,2,none⟩=some (.int .i64 (z+m)):=by rw [hV];simp [go_sem,y2]
      have bV:Below w.heap.size w V:=by rw [hV];exact bW.setCell (by show w.heap.size≤wr.heap.size;omega) _
      have HOV:Hid (V.ownsRow w.heap.size 113 3 v out.length (lcells out)):=by
       rw [Hid,hV]
       exact keepSetL HOW.out _ _ (fun g hg=>by have:=(HO.out.lt g hg).2;simp only;omega)
      have hVs:=bV.size
      have HV:Hid _:=hV
      by_cases hs0:z+m=0
      ·have HN:Hid (A=out++restA true (ls.drop (k+1)) a c m):=by
         rw [Hid,HAE.out,restA_no,HDR.out,hh,if_neg (by simpa using hs0)];rfl
       have hs0':(z+m != 0)=false:=by simpa using hs0
       have HS0:Hid _:=hs0
       clear hr hr' HAE HDR v2 v3 hh hV p0 p1 p2
       go_wp2
       go_roundw
       case rel=>exact ⟨_,k+1,true,out,rfl,rfl,by omega,by go_num,HN.out,⟨(fun h=>by cases h),by omega⟩,by have h:=HOV.out;rw [HV.out,HS0.out] at h;exact h,by have h:=bV;rw [HV.out,HS0.out] at h;exact h⟩
       case measure=>simp [intOf];omega
      ·have HN:Hid (A=(out++[(x,y,z+m)])++restA true (ls.drop (k+1)) a c m):=by
         rw [Hid,HAE.out,restA_no,HDR.out,hh,if_pos (by simpa using hs0),restA_yes,v2,v3,List.append_assoc];rfl
       have hs0':(z+m != 0)=true:=by simpa using hs0
       clear hr hr' HAE HDR v2 v3 hh hs0
       go_upto_region 12 with fail
       rw [← hV]
       clear hV
       go_wp2_with (at_builtin;refine wpList_append_own _ rfl (.tmp 62) (.tmp 64) 27 rfl w.heap.size 113 i0 _ 3 24 Tryz.underlying27 hi hz0 hz1 hz2 rfl (by decide) _ _ _ rfl (HOV.out.alloc _) ⟨V.heap.size,0,none⟩ 1 1 [.int .i64 x,.int .i64 y,.int .i64 (z+m)] rfl rfl (World.news_of_block (heap_alloc_new V _)) (one3 x y (z+m)) (by unfold maxLen;omega) (by omega) (by simp;omega) ?_;intro v5 w5 o5 g5 _)
       have HR5:Hid (w5.ownsRow w.heap.size 113 3 v5 (out++[(x,y,z+m)]).length (lcells (out++[(x,y,z+m)]))):=by rw [Hid,List.length_append];exact own3 o5
       have q5:Below w.heap.size w w5:=(bV.alloc hVs _).grown g5 (by simp;omega) HLT.out
       clear o5 g5 HO HOW HOV
       go_wp2
       go_roundw
       case rel=>exact ⟨_,k+1,true,_,rfl,rfl,by omega,by go_num,HN.out,⟨(fun h=>by cases h),by simp;omega⟩,HR5.out,q5⟩
       case measure=>simp [intOf];omega
     ·have HN:Hid (A=(out++[(a,c,m)]++[(x,y,z)])++restA true (ls.drop (k+1)) a c m):=by
        rw [Hid,HAE.out,restA_no,HDR.out,addL_new hr he,restA_yes,List.append_assoc,List.append_assoc];rfl
      have hya:∀ o,(W.alloc o).cell? ⟨wr.heap.size,0,none⟩=some (.int .i64 x)∧(W.alloc o).cell? ⟨wr.heap.size,1,none⟩=some (.int .i64 y)∧(W.alloc o).cell? ⟨wr.heap.size,2,none⟩=some (.int .i64 z):=fun o=>⟨(World.cell?_alloc_lt _ _ ⟨wr.heap.size,0,none⟩ hwW).trans y0,(World.cell?_alloc_lt _ _ ⟨wr.heap.size,1,none⟩ hwW).trans y1,(World.cell?_alloc_lt _ _ ⟨wr.heap.size,2,none⟩ hwW).trans y2⟩
      have HYA:Hid _:=hya
      have HNE:Hid (some wr.heap.size≠v.ownBlock):=fun e=>by have:=(HO.out.lt _ e.symm).2;omega
      have hguard:(a<x∧(x == a)=false)∨(¬ a<x∧(x == a)=true∧c≤y∧(y == c)=false):=by
       by_cases v1:a<x
       ·exact .inl ⟨v1,by simp;omega⟩
       ·have v2:x=a:=by omega
        exact .inr ⟨v1,by simpa using v2,by omega,by simp;intro h;exact he ⟨v2,h⟩⟩
      clear hr hr' HAE HDR he hya
      rcases hguard with ⟨v1,v2⟩ | ⟨v1,v2,v3,v4⟩
      all_goals
       go_wp2_with (at_builtin;first
        | (refine wpList_append_own _ rfl (.tmp 66) (.tmp 71) 27 rfl w.heap.size 113 i0 _ 3 24 Tryz.underlying27 hi hz0 hz1 hz2 rfl (by decide) _ _ _ rfl (HOW.out.alloc _) ⟨W.heap.size,0,none⟩ 1 1 [.int .i64 a,.int .i64 c,.int .i64 m] rfl rfl (World.news_of_block (heap_alloc_new W _)) (one3 a c m) (by unfold maxLen;omega) (by omega) (by simp;omega) ?_;intro v5 w5 o5 g5 _;have q5:Below w.heap.size w w5:=(bW.alloc hWs _).grown g5 (by simp;omega) HLT.out;have k0:=(g5.cell_far ⟨wr.heap.size,0,none⟩ (by simp;omega) HNE.out).trans (HYA.out _).1;have k1:=(g5.cell_far ⟨wr.heap.size,1,none⟩ (by simp;omega) HNE.out).trans (HYA.out _).2.1;have k2:=(g5.cell_far ⟨wr.heap.size,2,none⟩ (by simp;omega) HNE.out).trans (HYA.out _).2.2;have HO5:Hid (w5.ownsRow w.heap.size 113 3 v5 (out.length+1) (lcells out++[.int .i64 a,.int .i64 c,.int .i64 m])):=o5;have hs5:=q5.size;clear o5 g5)
        | (refine wpList_append_own _ rfl (.tmp 73) (.tmp 75) 27 rfl w.heap.size 113 i0 _ 3 24 Tryz.underlying27 hi hz0 hz1 hz2 rfl (by decide) _ _ _ rfl (HO5.out.alloc _) ⟨w5.heap.size,0,none⟩ 1 1 [.int .i64 x,.int .i64 y,.int .i64 z] rfl rfl (World.news_of_block (heap_alloc_new w5 _)) (one3 x y z) (by unfold maxLen;omega) (by omega) (by simp;omega) ?_;intro v6 w6 o6 g6 _))
       have HR6:Hid (w6.ownsRow w.heap.size 113 3 v6 (out++[(a,c,m)]++[(x,y,z)]).length (lcells (out++[(a,c,m)]++[(x,y,z)]))):=by
        rw [Hid,List.length_append,List.length_append,lcells_append,lcells_append];exact o6
       have q6:Below w.heap.size w w6:=(q5.alloc hs5 _).grown g6 (by simp;omega) (fun j hj=>(HO5.out.lt j hj).1)
       clear o6 g6 HO HOW HO5
       go_wp2
       go_roundw
       case rel=>exact ⟨_,k+1,true,_,rfl,rfl,by omega,by go_num,HN.out,⟨(fun h=>by cases h),by have:=HL0.out;simp;omega⟩,HR6.out,q6⟩
       case measure=>simp [intOf];omega
   ·have HN:Hid (A=(out++[(x,y,z)])++restA true (ls.drop (k+1)) a c m):=by
      rw [Hid,HAE.out,restA_yes,HDR.out,restA_yes,List.append_assoc];rfl
    clear HAE HDR
    go_wp2_with (at_builtin;refine wpList_append_own _ rfl (.tmp 73) (.tmp 75) 27 rfl w.heap.size 113 i0 _ 3 24 Tryz.underlying27 hi hz0 hz1 hz2 rfl (by decide) _ _ _ rfl (HOW.out.alloc _) ⟨W.heap.size,0,none⟩ 1 1 [.int .i64 x,.int .i64 y,.int .i64 z] rfl rfl (World.news_of_block (heap_alloc_new W _)) (one3 x y z) (by unfold maxLen;omega) (by omega) (by simp;omega) ?_;intro v5 w5 o5 g5 _)
    have HR5:Hid (w5.ownsRow w.heap.size 113 3 v5 (out++[(x,y,z)]).length (lcells (out++[(x,y,z)]))):=by rw [Hid,List.length_append];exact own3 o5
    have q5:Below w.heap.size w w5:=(bW.alloc hWs _).grown g5 (by simp;omega) HLT.out
    clear o5 g5 HO HOW
    go_wp2
    go_roundw
    case rel=>exact ⟨_,k+1,true,_,rfl,rfl,by omega,by go_num,HN.out,⟨(fun h=>by cases h),by simp;omega⟩,HR5.out,q5⟩
    case measure=>simp [intOf];omega
  ·have hke:k=ls.length:=by omega
   subst hke
   have hki:¬ (ls.length:Int)<(ls.length:Int):=by omega
   have hd:ls.drop ls.length=[]:=List.drop_of_length_le (Nat.le_refl _)
   cases done
   ·have HN:Hid (A=out++[(a,c,m)]):=by rw [Hid,HAE.out,hd];rfl
    clear HAE hd
    go_wp2_with (at_builtin;refine wpList_append_own _ rfl (.tmp 79) (.tmp 84) 27 rfl w.heap.size 113 i0 _ 3 24 Tryz.underlying27 hi hz0 hz1 hz2 rfl (by decide) _ _ _ rfl (HO.out.alloc _) ⟨wr.heap.size,0,none⟩ 1 1 [.int .i64 a,.int .i64 c,.int .i64 m] rfl rfl (World.news_of_block (heap_alloc_new wr _)) (one3 a c m) (by unfold maxLen;omega) (by omega) (by simp;omega) ?_;intro v5 w5 o5 g5 _;obtain ⟨ao5,cap5,hv5,-,-⟩:=lines_of_own (ls:=out++[(a,c,m)]) (own3 o5);subst hv5)
    have HR5:Hid (w5.ownsRow w.heap.size 113 3 (.slice ao5 (out++[(a,c,m)]).length cap5) (out++[(a,c,m)]).length (lcells (out++[(a,c,m)]))):=by
     have h:=own3 o5
     rw [List.length_append] at h ⊢;exact h
    have q5:Below w.heap.size w w5:=(hbr.alloc hbs _).grown g5 (by simp;omega) HLT.out
    clear o5 g5 HO
    go_wp2
    go_ret
    have hN:=HN.out
    subst hN
    exact ⟨ao5,cap5,by rw [List.length_append];rfl,HR5.out,q5⟩
   ·have HN:Hid (A=out):=by rw [Hid,HAE.out,hd];simp [restA]
    obtain ⟨ao5,cap5,hv5,-,-⟩:=lines_of_own HO.out
    subst hv5
    clear HAE hd
    go_wp2
    go_ret
    have hN:=HN.out
    subst hN
    exact ⟨ao5,cap5,rfl,HO.out,hbr⟩
end Go.Proofs.YtomiclakhjncbaaGreatDoor
