import Derived.Test.YtomiclakhjncbaaGreatDoorJA4a
namespace Go.Proofs.YtomiclakhjncbaaGreatDoor
open Go.RowKit
set_option maxRecDepth 100000
set_option maxHeartbeats 12800000
theorem sLineD_any (F:Fns) (K:Known F) {Pre:Bk→Prop} (hsm:∀ b,Pre b→bkSm b) {Pay:Bk→Int→Int→Int→Int→Bk×Int→Prop} {Act:Bk→Int→Ac→Bk×Int} (_ST:Steps Pre Pay Act) (b:Bk) (p:Bp) (line:List UInt8) (w:World) (hx:BookAt w b p) (hah:AhB p w.heap.size) (hp:Pre b) (hl:line.length≤1048575) (hsel:isDay (wordsW line)=true) :
  Calls Tryz.prog 84 #[bkv b p,.string ⟨line.toArray⟩] w fun e w'=>∃ r,LineRel F Pay Act b line r∧BdR w p r.1 r.2 e w':=by
 have hn:=hsm b hp
 have HPRE:Hid (Pre b):=hp
 have HSEL:Hid (isDay (wordsW line)=true):=hsel
 clear hsel
 have HAB:Hid (AhB p w.heap.size):=hah
 have HREL:Hid (∀ r,LineRel F Pay Act b line r=(if isDay (wordsW line)=true then r=dayB F b (numW (nth (wordsW line) 1))
  else if isAuth (wordsW line)=true then (if numsOk ((wordsW line).drop 2)=true then r=authB F b (nth (wordsW line) 1) (numW (nth (wordsW line) 2)) (numW (nth (wordsW line) 3)) (numW (nth (wordsW line) 4)) else r=(b,1))
  else if isPay (wordsW line)=true then (if numsOk ((wordsW line).drop 1)=true then Pay b (numW (nth (wordsW line) 1)) (numW (nth (wordsW line) 2)) (numW (nth (wordsW line) 3)) (numW (nth (wordsW line) 4)) r else r=(b,1))
  else if isAct (wordsW line)=true then (if numsOk [nth (wordsW line) 1,nth (wordsW line) 3,nth (wordsW line) 4]=true then r=Act b (numW (nth (wordsW line) 1)) ⟨kindW (nth (wordsW line) 2),numW (nth (wordsW line) 3),numW (nth (wordsW line) 4)⟩ else r=(b,1))
  else r=(b,1))):=fun r=>rfl
 obtain ⟨LR,hLR⟩:∃ L,LineRel F Pay Act b line=L:=⟨_,rfl⟩
 simp only [hLR] at HREL ⊢
 clear hp hah hLR
 have HDAY:Hid (∀ n u,Below w.heap.size w u→Calls Tryz.prog 141 #[bkv b p,.int .i64 n] u (BdR u p (dayB F b n).1 (dayB F b n).2)):=fun n u h=>sDay_any F K b p n u (hx.below h) hn
 have HX:Hid (∀ u,Below w.heap.size w u→BookAt u b p):=fun u h=>hx.below h
 have HN:Hid (bkSm b):=hn
 clear hx hn
 obtain ⟨td,fo,az,cs,ls,lg⟩:=b
 obtain ⟨o,oc,a,ac,c,cc,l,lc,g,gc⟩:=p
 unfold bkv at HDAY ⊢
 simp only at HDAY ⊢
 obtain ⟨u0,hu0⟩:∃ u,u=((w.alloc (.cells #[.int .i64 td,.slice o fo.length oc,.slice a az.length ac,.slice c cs.length cc,.slice l ls.length lc,.slice g lg.length gc] 31))).alloc (.cells #[.int .i64 0,.slice none 0 0,.slice none 0 0,.slice none 0 0,.slice none 0 0,.slice none 0 0] 31):=⟨_,rfl⟩
 have HB0:Hid (Below w.heap.size w u0):=by rw [Hid,hu0];go_grown
 have HS0:Hid ((w.heap.size+1)<u0.heap.size):=by rw [Hid,hu0];simp
 have HZ0:Hid (Z6 w.heap.size (.int .i64 td) (.slice o fo.length oc) (.slice a az.length ac) (.slice c cs.length cc) (.slice l ls.length lc) (.slice g lg.length gc) u0):=by
  rw [Hid,hu0]
  exact ((Z6.new w (.int .i64 td) (.slice o fo.length oc) (.slice a az.length ac) (.slice c cs.length cc) (.slice l ls.length lc) (.slice g lg.length gc) 31)).below ((Below.refl _ _).alloc (Nat.le_refl _) _)
 have HR0:Hid (Z6 (w.heap.size+1) (.int .i64 0) (.slice none 0 0) (.slice none 0 0) (.slice none 0 0) (.slice none 0 0) (.slice none 0 0) u0):=by
  have h:=Z6.new ((w.alloc (.cells #[.int .i64 td,.slice o fo.length oc,.slice a az.length ac,.slice c cs.length cc,.slice l ls.length lc,.slice g lg.length gc] 31))) (.int .i64 0) (.slice none 0 0) (.slice none 0 0) (.slice none 0 0) (.slice none 0 0) (.slice none 0 0) 31
  rw [Hid,hu0];simpa using h
 have HU0:Hid _:=hu0
 clear hu0
 go_enter Tryz.func84,Tryz.ntmps84
 go_upto_region 1 with fail
 rw [← HU0.out]
 clear HU0
 obtain ⟨t0,t1,t2,t3,t4,t5,s0,s1,s2,s3,s4,s5⟩:=HZ0.out
 obtain ⟨q0,q1,q2,q3,q4,q5,p0,p1,p2,p3,p4,p5⟩:=HR0.out
 have hwl:=wordsW_len line
 have hws:=wordsW_short line
 go_wp2_with fail
 refine (sWords_any line _ (by omega)).mono ?_
 rintro e u1 ⟨wa,wk,rfl,ow,b1⟩
 obtain ⟨ws,hwe⟩:∃ ws,wordsW line=ws:=⟨_,rfl⟩
 rw [hwe] at ow hwl hws ⊢
 simp only [hwe] at HREL HSEL
 obtain ⟨gw,rfl⟩:∃ gw,wa=some ⟨gw,0,none⟩:=by
  rcases ow.2 with ⟨_,h⟩ | ⟨g,cap,cur,h,_⟩
  ·omega
  ·injection h with h _ _
   exact ⟨g,h⟩
 have HWC:Hid (∀ u,Below u1.heap.size u1 u→∀ i,i<ws.length→u.cell? ⟨gw,i,none⟩=some (.string ⟨(nth ws i).toArray⟩)):=fun u h i hi=>by
  have:=(txts_cell ((txts_any ow).below h) hi).1
  simpa using this
 have HWS:Hid (∀ i,i<ws.length→(nth ws i).length≤1048576):=fun i hi=>by have:=hws _ (nth_mem hi);omega
 have HOW:Hid (u1.ownsRow u0.heap.size 9 1 (.slice (some ⟨gw,0,none⟩) ws.length wk) ws.length (scells ws)):=ow
 have HZ1:Hid (Z6 w.heap.size (.int .i64 td) (.slice o fo.length oc) (.slice a az.length ac) (.slice c cs.length cc) (.slice l ls.length lc) (.slice g lg.length gc) u1):=HZ0.out.below b1
 have HR1:Hid (Z6 (w.heap.size+1) (.int .i64 0) (.slice none 0 0) (.slice none 0 0) (.slice none 0 0) (.slice none 0 0) (.slice none 0 0) u1):=HR0.out.below b1
 have HB1:Hid (Below w.heap.size w u1):=next HB0.out b1
 have HS1:Hid (w.heap.size+1<u1.heap.size):=by have:=HS0.out;have:=b1.size;rw [Hid];omega
 have HUW:Hid (w.heap.size+1<u0.heap.size):=HS0.out
 clear t0 t1 t2 t3 t4 t5 s0 s1 s2 s3 s4 s5 q0 q1 q2 q3 q4 q5 p0 p1 p2 p3 p4 p5 HZ0 HR0 HB0 HS0 b1 ow hws hwe
 have hn0:(0:Int)<(ws.length:Int):=by omega
 go_upto_region 2 with fail
 go_cut [17] (fun v wc=>v=.bool (isDay ws)∧wc=u1)
 case first =>
  have w0:=HWC.out u1 (Below.refl _ _) 0 (by omega)
  have HDY:Hid (isDay ws=(decide (nth ws 0=dayT) && (decide (ws.length=2) && decide (0≤numW (nth ws 1))))):=rfl
  obtain ⟨r0,hr0⟩:∃ r,nth ws 0=r:=⟨_,rfl⟩
  rw [hr0] at w0 HDY
  by_cases hd:r0=dayT
  ·subst hd
   by_cases h2:ws.length=2
   ·have h2':((ws.length:Int) == 2)=true:=by simp;omega
    have h12:(1:Int)<(ws.length:Int):=by omega
    have w1:=HWC.out u1 (Below.refl _ _) 1 (by omega)
    have hnm:=sNumW_any (nth ws 1) u1 (HWS.out 1 (by omega))
    obtain ⟨r1,hr1⟩:∃ r,nth ws 1=r:=⟨_,rfl⟩
    rw [hr1] at w1 HDY hnm
    have HD2:Hid (isDay ws=decide (0≤numW r1)):=by rw [Hid,HDY.out];simp [h2]
    unfold dayT at w0
    clear h2
    go_wp2_with (go_at_call 140;refine hnm.mono ?_;rintro e w' ⟨rfl,hw'⟩;replace hw':=hw'.symm;subst hw')
    go_meet
    exact ⟨by rw [HD2.out],rfl⟩
   ·have h2':((ws.length:Int) == 2)=false:=by simp;omega
    have HD2:Hid (isDay ws=false):=by rw [Hid,HDY.out];simp [h2]
    unfold dayT at w0
    clear h2
    go_wp2
    go_meet
    exact ⟨by rw [HD2.out],rfl⟩
  ·have hdb:(r0 == dayT)=false:=by simpa using hd
   have HD2:Hid (isDay ws=false):=by rw [Hid,HDY.out];simp [hd]
   unfold dayT at hdb
   go_wp2
   go_meet
   exact ⟨by rw [HD2.out],rfl⟩
 case rest =>
  obtain ⟨rfl,hwc⟩:=hcut
  replace hwc:=hwc.symm
  subst hwc
  have HEND:Hid (∀ r,LR r→r=(⟨td,fo,az,cs,ls,lg⟩,1)→LR (⟨td,fo,az,cs,ls,lg⟩,1)):=fun r h e=>e ▸ h
  cases hday:isDay ws
  case true =>
   have HR':Hid (∀ r,r=dayB F ⟨td,fo,az,cs,ls,lg⟩ (numW (nth ws 1))→LR r):=fun r h=>by rw [HREL.out r,if_pos hday];exact h
   have h2:ws.length=2:=by simp [isDay] at hday;exact hday.2.1
   have h12:(1:Int)<(ws.length:Int):=by omega
   have w1:=HWC.out u1 (Below.refl _ _) 1 (by omega)
   have hnm:=fun u=>sNumW_any (nth ws 1) u (HWS.out 1 (by omega))
   obtain ⟨r1,hr1⟩:∃ r,nth ws 1=r:=⟨_,rfl⟩
   rw [hr1] at w1 hnm HR'
   have HNM:Hid _:=hnm
   have HDC:Hid (∀ u,Below w.heap.size w u→Calls Tryz.prog 141 #[.agg #[.int .i64 td,.slice o fo.length oc,.slice a az.length ac,.slice c cs.length cc,.slice l ls.length lc,.slice g lg.length gc],.int .i64 (numW r1)] u (BdR u ⟨o,oc,a,ac,c,cc,l,lc,g,gc⟩ (dayB F ⟨td,fo,az,cs,ls,lg⟩ (numW r1)).1 (dayB F ⟨td,fo,az,cs,ls,lg⟩ (numW r1)).2)):=fun u h=>HDAY.out (numW r1) u h
   obtain ⟨⟨⟨td2,fo2,az2,cs2,ls2,lg2⟩,code⟩,hD⟩:∃ r,dayB F ⟨td,fo,az,cs,ls,lg⟩ (numW r1)=r:=⟨_,rfl⟩
   simp only [hD] at HDC HR'
   have HBW:Hid (Below w.heap.size w u1.drew):=HB1.out.trans (((Below.refl _ _).drew).mono HB1.out.size)
   clear hday h2 hnm hD
   obtain ⟨t0,t1,t2,t3,t4,t5,s0,s1,s2,s3,s4,s5⟩:=HZ1.out
   go_upto_region 3 with fail
   go_region_with (first
    | (go_at_call 140;refine (HNM.out _).mono ?_;rintro e w' ⟨rfl,hw'⟩;replace hw':=hw'.symm;subst hw')
    | (go_at_call 141;(first | refine (HDC.out _ HB1.out).mono ?_ | refine (HDC.out _ HBW.out).mono ?_);rintro e u4 ⟨qq,rfl,hb4,hg4,hgc4,hpt,b4'⟩;have b4:Below u1.heap.size u1 u4:=(by first | exact b4' | exact ((Below.refl _ _).drew).trans b4');have HG4:Hid (qq.g=g∧qq.gc=gc∧(qq.o=o∧(qq.a=a∨Fresh qq.a u1.heap.size)∧(qq.c=c∨Fresh qq.c u1.heap.size)∧(qq.l=l∨Fresh qq.l u1.heap.size))):=⟨hg4,hgc4,by first | exact hpt | simpa using hpt⟩;have HB4:Hid _:=hb4;have HBB:Hid _:=b4;clear hg4 hgc4 hpt hb4 b4';obtain ⟨qo,qoc,qa,qac,qc,qcc,ql,qlc,qg,qgc⟩:=qq;unfold bkv;simp only;obtain ⟨q0,q1,q2,q3,q4,q5,p0,p1,p2,p3,p4,p5⟩:=HR1.out.below b4))
   all_goals
    clear b4
    go_wp2
    refine bodyPost_ret (by simp [results,Tryz.results84,go_sem,q0,q1,q2,q3,q4,q5];try rfl) rfl ?_
    obtain ⟨hg4,hgc4,hpt⟩:=HG4.out
    exact ⟨(⟨td2,fo2,az2,cs2,ls2,lg2⟩,code),HR'.out _ rfl,bd_end HAB.out HB1.out (by omega) HS1.out HB4.out hg4 hgc4 hpt HBB.out _ _ _ _ _ _⟩
  case false=>exact absurd (hday.symm.trans HSEL.out) (by decide)
end Go.Proofs.YtomiclakhjncbaaGreatDoor
