import Derived.Test.YtomiclakhjncbaaGreatDoorKAKbPay
import Derived.Test.YtomiclakhjncbaaGreatDoorJA4a
import Derived.Test.YtomiclakhjncbaaGreatDoorKASDo3
import Derived.Test.YtomiclakhjncbaaGreatDoorKAFDis3
namespace Go.Proofs.YtomiclakhjncbaaGreatDoor.Kb
open Go.RowKit
set_option maxRecDepth 100000
set_option maxHeartbeats 12800000
theorem putAt_grown (u:World) (g k:Nat) (D:Cs):u.grownBy (putAt u g k D) (some g):=by
 unfold putAt
 exact ((((((((((((set_grown _ g (k*12) _).trans (set_grown _ g (k*12+1) _)).trans (set_grown _ g (k*12+2) _)).trans (set_grown _ g (k*12+3) _)).trans (set_grown _ g (k*12+4) _)).trans (set_grown _ g (k*12+5) _)).trans (set_grown _ g (k*12+6) _)).trans (set_grown _ g (k*12+7) _)).trans (set_grown _ g (k*12+8) _)).trans (set_grown _ g (k*12+9) _)).trans (set_grown _ g (k*12+10) _)).trans (set_grown _ g (k*12+11) _))
theorem KS.putC {B K:Nat} {st:Int} {b:Bk} {q:Bp} {u:World} (h:KS B K st b q u) {g:Nat} (hg:q.c=some ⟨g,0,none⟩) {k:Nat} (hk:k<b.cs.length) (D:Cs) :
  KS B K st ⟨b.today,b.off,b.az,b.cs.set k D,b.ls,b.log⟩ q (putAt u g k D):=by
 have gr:u.grownBy (putAt u g k D) (Value.slice q.c b.cs.length q.cc).ownBlock:=by
  rw [hg];exact putAt_grown u g k D
 have nK:=own_neR h.cs h.kt (by decide)
 have hc:=h.cs
 rw [hg] at hc
 have r:=putAt_row D hk hc
 have z:=h.z.grown gr nK
 refine ⟨?_,h.kt.grown gr nK,h.off.kept gr (own_ne h.off h.cs (by decide)),h.az.kept gr (own_ne h.az h.cs (by decide)),?_,h.ls.kept gr (own_ne h.ls h.cs (by decide)),h.log.kept gr (own_ne h.log h.cs (by decide)),h.hK⟩
 ·simp only [List.length_set];exact z
 ·simp only [List.length_set];rw [hg];exact r
def actR (F:Fns) (b:Bk) (rs:Recs):Bk×Int :=
 if rs.length=4∧0≤kindW (nth rs 1)∧numsOk [nth rs 0,nth rs 2,nth rs 3]=true then actB F b (numW (nth rs 0)) ⟨kindW (nth rs 1),numW (nth rs 2),numW (nth rs 3)⟩ else (b,1)
def ActKn (F:Fns) (E:World→Prop) (B K:Nat):Prop:=∀ (b:Bk) (q:Bp) (ao:Option Addr) (cap:Nat) (rs:Recs) (w:World),KS B K 1 b q w→E w→PreI b→TxtsAt w ao rs→(∀ r ∈ rs,r.length≤1048576) →
  Calls Tryz.prog 175 #[.pointer (some ⟨K,0,none⟩),.slice ao rs.length cap] w (StR B K w (actR F b rs))
def WordsI (F:Fns) (b:Bk) (ws:Recs) (r:Bk×Int):Prop :=
 if nth ws 0=dayT then r=dayR F b (ws.drop 1) else if nth ws 0=authW then r=authR F b (ws.drop 1) else if nth ws 0=payT then PayRl F b (ws.drop 1) r else if nth ws 0=actT then r=actR F b (ws.drop 1) else r=(b,1)
def ObR (B K:Nat) (F:Fns) (b:Bk) (ws:Recs) (w:World) (e:Ending) (w':World):Prop:=∃ r,WordsI F b ws r∧StR B K w r e w'
theorem txts_tail {w:World} {ao:Option Addr} {r:List UInt8} {rs:Recs} (h:TxtsAt w ao (r::rs)):∃ g off,ao=some ⟨g,off,none⟩∧w.cell? ⟨g,off,none⟩=some (.string ⟨r.toArray⟩)∧TxtsAt w (some ⟨g,off+1,none⟩) rs:=by
 rcases h with h | ⟨g,off,h1,h2,h3⟩
 ·cases h
 ·refine ⟨g,off,h1,h3 0 (by simp),.inr ⟨g,off+1,rfl,h2,fun i hi=>?_⟩⟩
  have:=h3 (i+1) (by simp;omega)
  rw [show off+1+i=off+(i+1) from by omega]
  exact this
theorem elemTx:Tryz.prog.elem 23=9:=by simp [Program.elem,Tryz.underlying23]
theorem underTx:Tryz.prog.underlying 23=some (.slice (Tryz.prog.elem 23)):=by rw [elemTx];exact Tryz.underlying23
theorem sizeTx (w:World):(sizeOf 9).run Tryz.prog w=.ok 1 w:=by
 obtain ⟨i0,hi,hz0,hz1,hz2⟩:=info_parts infoS
 simp [sizeOf,typeInfo,hi,hz1]
theorem slice_tail {g off n c:Nat} (hn:n≤c):∃ aS:Option Addr,(n=0∨aS=some ⟨g,off+1,none⟩) ∧
  ∀ W:World,(Instr.slice 23 (.slice (some ⟨g,off,none⟩) (n+1) (c+1)) (some (.int .i64 1)) none none).run Tryz.prog W=.ok (.slice aS n c) W:=by
 by_cases h0:c=0
 ·refine ⟨some ⟨g,off,none⟩,.inl (by omega),fun W=>?_⟩
  rw [run_slice_l W _ _ _ _ underTx .i64 _ (by omega) (by omega),elemTx,sizeTx]
  simp [Result.andThen,sliced,h0]
  try omega
 ·refine ⟨some ⟨g,off+1,none⟩,.inr rfl,fun W=>?_⟩
  rw [run_slice_l W _ _ _ _ underTx .i64 _ (by omega) (by omega),elemTx,sizeTx]
  simp [Result.andThen,sliced,h0,Addr.add]
  try omega
theorem ob_of {B K:Nat} {F:Fns} {b:Bk} {ws:Recs} {w w':World} {e:Ending} {r:Bk×Int} (h:WordsI F b ws r) (hs:StR B K w r e w'):ObR B K F b ws w e w':=⟨r,h,hs⟩
theorem iObey_any {F:Fns} {E:World→Prop} {G B K:Nat} (KI:KnI F E G) (hGB:G≤B) (HA:ActKn F E B K) (b:Bk) (q:Bp) (ao:Option Addr) (c:Nat) (r0:List UInt8) (rs:Recs) (w:World) (hk:KS B K 1 b q w) (hE:E w) (hP:PreI b) (hz:TxtsAt w ao (r0::rs)) (hn:rs.length≤1048576) (hcap:rs.length≤c) (hcm:c≤1048576) (hd:∀ r ∈ rs,r.length≤1048576) :
  Calls Tryz.prog 137 #[.pointer (some ⟨K,0,none⟩),.slice ao (rs.length+1) (c+1)] w (ObR B K F b (r0::rs) w):=by
 obtain ⟨g,off,rfl,t0,ht0⟩:=txts_tail hz
 obtain ⟨aS,haS,hsl⟩:=slice_tail (g:=g) (off:=off) hcap
 have ht:TxtsAt w aS rs:=by
  rcases haS with h | h
  ·exact .inl (List.eq_nil_of_length_eq_zero h)
  ·rw [h];exact ht0
 obtain ⟨et,ea,hee⟩:=KI.eLine w hE
 have HDY:Hid (Calls Tryz.prog 172 #[.pointer (some ⟨K,0,none⟩),.slice aS rs.length c] w (StR B K w (dayR F b rs))):=iDay_any KI b q _ c rs w hk hE hP ht hn hd
 have HAU:Hid (Calls Tryz.prog 173 #[.pointer (some ⟨K,0,none⟩),.slice aS rs.length c] w (StR B K w (authR F b rs))):=iAuth_any KI b q _ c rs w hk hE hP ht hcap (by omega) hd
 have HPA:Hid (Calls Tryz.prog 174 #[.pointer (some ⟨K,0,none⟩),.slice aS rs.length c] w (PaR B K F b rs w)):=iPay_any KI hGB b q _ c rs w hk hE hP ht hn hd
 have HAC:Hid (Calls Tryz.prog 175 #[.pointer (some ⟨K,0,none⟩),.slice aS rs.length c] w (StR B K w (actR F b rs))):=HA b q _ c rs w hk hE hP ht hd
 have HK0:Hid (KS B K 1 b q w):=hk
 have HBR:Hid (Below B w w):=Below.refl _ _
 have HW:Hid (∀ r,(if r0=dayT then r=dayR F b rs else if r0=authW then r=authR F b rs else if r0=payT then PayRl F b rs r else if r0=actT then r=actR F b rs else r=(b,1))→WordsI F b (r0::rs) r):=fun r h=>h
 obtain ⟨n,hnn⟩:∃ n,rs.length=n:=⟨_,rfl⟩
 rw [hnn] at HDY HAU HPA HAC hcap hn hsl ⊢
 clear hz ht ht0 haS hk hE hP hd KI HA hGB hnn
 by_cases h1:r0=dayT
 ·have HQ:Hid (WordsI F b (r0::rs) (dayR F b rs)):=HW.out _ (by rw [if_pos h1])
  have hb1:(r0 == [100,97,121])=true:=by rw [h1];decide
  clear HW h1 hee
  go_enter Tryz.func137,Tryz.ntmps137
  go_wp2_with fail
  refine Calls.mono HDY.out ?_
  rintro e w' hs
  obtain ⟨q',v,rfl,hv⟩:=hs
  have HS:Hid (StR B K w (dayR F b rs) (.returned v) w'):=⟨q',v,rfl,hv⟩
  clear hv
  go_wp2
  go_ret
  exact ob_of HQ.out HS.out
 have b1:(r0 == [100,97,121])=false:=by simpa [dayT] using h1
 by_cases h2:r0=authW
 ·have HQ:Hid (WordsI F b (r0::rs) (authR F b rs)):=HW.out _ (by rw [if_neg h1,if_pos h2])
  have hb1:(r0 == [97,117,116,104])=true:=by rw [h2];decide
  clear HW h1 h2 hee
  go_enter Tryz.func137,Tryz.ntmps137
  go_wp2_with fail
  refine Calls.mono HAU.out ?_
  rintro e w' hs
  obtain ⟨q',v,rfl,hv⟩:=hs
  have HS:Hid (StR B K w (authR F b rs) (.returned v) w'):=⟨q',v,rfl,hv⟩
  clear hv
  go_wp2
  go_ret
  exact ob_of HQ.out HS.out
 have b2:(r0 == [97,117,116,104])=false:=by simpa [authW] using h2
 by_cases h3:r0=payT
 ·have HQ:Hid (∀ r,PayRl F b rs r→WordsI F b (r0::rs) r):=fun r hr=>HW.out _ (by rw [if_neg h1,if_neg h2,if_pos h3];exact hr)
  have hb1:(r0 == [112,97,121])=true:=by rw [h3];decide
  clear HW h1 h2 h3 hee
  go_enter Tryz.func137,Tryz.ntmps137
  go_wp2_with fail
  refine Calls.mono HPA.out ?_
  rintro e w' ⟨r,hr,q',v,rfl,hv⟩
  have HS:Hid (StR B K w r (.returned v) w'):=⟨q',v,rfl,hv⟩
  have HR:Hid (WordsI F b (r0::rs) r):=HQ.out r hr
  clear hv hr HQ
  go_wp2
  go_ret
  exact ob_of HR.out HS.out
 have b3:(r0 == [112,97,121])=false:=by simpa [payT] using h3
 by_cases h4:r0=actT
 ·have HQ:Hid (WordsI F b (r0::rs) (actR F b rs)):=HW.out _ (by rw [if_neg h1,if_neg h2,if_neg h3,if_pos h4])
  have hb1:(r0 == [97,99,116])=true:=by rw [h4];decide
  clear HW h1 h2 h3 h4 hee
  go_enter Tryz.func137,Tryz.ntmps137
  go_wp2_with fail
  refine Calls.mono HAC.out ?_
  rintro e w' hs
  obtain ⟨q',v,rfl,hv⟩:=hs
  have HS:Hid (StR B K w (actR F b rs) (.returned v) w'):=⟨q',v,rfl,hv⟩
  clear hv
  go_wp2
  go_ret
  exact ob_of HQ.out HS.out
 have b4:(r0 == [97,99,116])=false:=by simpa [actT] using h4
 have HQ:Hid (WordsI F b (r0::rs) (b,1)):=HW.out _ (by rw [if_neg h1,if_neg h2,if_neg h3,if_neg h4])
 clear HW h1 h2 h3 h4
 go_enter Tryz.func137,Tryz.ntmps137
 go_wp2
 go_ret
 exact ob_of HQ.out (st_no (by decide) HK0.out HBR.out)
end Go.Proofs.YtomiclakhjncbaaGreatDoor.Kb
namespace Go.Proofs.YtomiclakhjncbaaGreatDoor
open Go.RowKit
set_option maxRecDepth 100000
set_option maxHeartbeats 12800000
theorem sCode_any (c:Cs) (a:Ac) (t:Int) (ao:Option Addr) (cp:Nat) (zs:List Int) (w:World) (hx:IntsAt w ao zs) (hn:zs.length≤1099511627776) (hk:0≤a.kind∧a.kind≤9) :
  Calls Tryz.prog 221 #[cv c,av a,.int .i64 t,.slice ao zs.length cp] w fun e w'=>e=.returned (.int .i64 (codeV c a t zs))∧Below w.heap.size w w':=by
 obtain ⟨W,hW⟩:∃ W,W=(w.alloc (.cells #[.int .i64 c.iss,.int .i64 c.acq,.int .i64 c.cur,.int .i64 c.am,.int .i64 c.st,.int .i64 c.rsn,.int .i64 c.cl,.int .i64 c.bk,.int .i64 c.fee,.bool c.cop,.int .i64 c.sta,.int .i64 c.due] 61)).alloc (.cells #[.int .i64 a.kind,.int .i64 a.am,.int .i64 a.rsn] 165):=⟨_,rfl⟩
 have HX:Hid (B2 w.heap.size c a W):=by rw [Hid,hW];exact B2.new w c a _ _
 have HBW:Hid (Below w.heap.size w W):=by rw [Hid,hW];go_grown
 have HW:Hid _:=hW
 have HCH:Hid (∀ u,Below W.heap.size W u→Calls Tryz.prog 263 #[cv c,av a,.int .i64 t,.slice ao zs.length cp] u fun e w'=>e=.returned (.int .i64 (chargeV c a t zs))∧Below u.heap.size u w'):=fun u hu=>sCharge_any c a t ao cp zs u ((hx.below HBW.out).below hu) hn
 obtain ⟨r,hr⟩:∃ r,codeV c a t zs=r:=⟨_,rfl⟩
 have HR:Hid _:=hr
 rw [hr]
 clear hx hW hr
 obtain ⟨k,m,q⟩:=a
 obtain ⟨iss,acq,cur,am,st,rsn,cl,bk,fee,cop,sta,due⟩:=c
 unfold cv av at HCH ⊢
 simp only at HW HCH hk ⊢
 go_enter Tryz.func221,Tryz.ntmps221
 go_upto_region 1 with fail
 rw [← HW.out]
 clear HW
 obtain ⟨⟨f0,f1,f2,f3,f4,f5,f6,f7,f8,f9,f10,f11⟩,k0,k1,k2⟩:=HX.out
 simp only [Nat.zero_add] at f0 f1 f2 f3 f4 f5 f6 f7 f8 f9 f10 f11 k0 k1 k2
 go_wp2_with fail
 refine (sLate_any t due _).mono ?_
 rintro e u1 ⟨rfl,hu⟩
 rw [hu]
 clear hu
 obtain ⟨l,hl⟩:∃ l,lateV t due=l:=⟨_,rfl⟩
 have HL:Hid _:=hl
 rw [hl]
 clear hl
 rcases (show k=0∨k=1∨k=2∨k=3∨k=4∨k=5∨k=6∨k=7∨k=8∨k=9 by omega) with rfl | rfl | rfl | rfl | rfl | rfl | rfl | rfl | rfl | rfl
 ·have HE:Hid (r=0):=by rw [Hid,← HR.out];simp [codeV]
  clear HCH
  go_wp2
  go_ret
  exact ⟨one_int HE.out.symm,HBW.out⟩
 ·have HE:Hid (r=if l=true then 4 else 0):=by rw [Hid,← HR.out,← HL.out];simp [codeV]
  clear HCH
  cases l
  ·go_wp2
   go_ret
   exact ⟨one_int (by rw [HE.out];rfl),HBW.out⟩
  ·go_wp2
   go_ret
   exact ⟨one_int (by rw [HE.out];rfl),HBW.out⟩
 ·have HE:Hid (chargeV ⟨iss,acq,cur,am,st,rsn,cl,bk,fee,cop,sta,due⟩ ⟨2,m,q⟩ t zs=r):=by rw [Hid,← HR.out];simp [codeV]
  go_wp2_with fail
  refine (HCH.out _ (Below.refl _ _)).mono ?_
  rintro e u2 ⟨rfl,b2⟩
  have HB2:Hid (Below w.heap.size w u2):=next HBW.out b2
  clear b2
  rw [HE.out]
  go_wp2
  go_ret
  exact ⟨rfl,HB2.out⟩
 ·have HE:Hid (r=if l=true then 4 else if 1≤m∧m≤cl then 0 else 2):=by rw [Hid,← HR.out,← HL.out];simp [codeV]
  clear HCH
  cases l
  ·rw [if_neg (by decide)] at HE
   go_wp2_with fail
   cases h1:inB m 1 cl
   ·have g:=inB_of h1
    have HE2:Hid (r=2):=by rw [Hid,HE.out,if_neg (of_decide_eq_false g)]
    refine (in_is h1 _).mono ?_
    rintro e v1 ⟨rfl,hv⟩
    rw [hv]
    clear hv h1 g
    go_wp2
    go_ret
    exact ⟨one_int HE2.out.symm,HBW.out⟩
   ·have g:=inB_of h1
    have HE2:Hid (r=0):=by rw [Hid,HE.out,if_pos (of_decide_eq_true g)]
    refine (in_is h1 _).mono ?_
    rintro e v1 ⟨rfl,hv⟩
    rw [hv]
    clear hv h1 g
    go_wp2
    go_ret
    exact ⟨one_int HE2.out.symm,HBW.out⟩
  ·go_wp2
   go_ret
   exact ⟨one_int (by rw [HE.out];rfl),HBW.out⟩
 ·have HE:Hid (r=if l=true then 4 else if 1≤m∧m≤cl then 0 else 2):=by rw [Hid,← HR.out,← HL.out];simp [codeV]
  clear HCH
  cases l
  ·rw [if_neg (by decide)] at HE
   go_wp2_with fail
   cases h1:inB m 1 cl
   ·have g:=inB_of h1
    have HE2:Hid (r=2):=by rw [Hid,HE.out,if_neg (of_decide_eq_false g)]
    refine (in_is h1 _).mono ?_
    rintro e v1 ⟨rfl,hv⟩
    rw [hv]
    clear hv h1 g
    go_wp2
    go_ret
    exact ⟨one_int HE2.out.symm,HBW.out⟩
   ·have g:=inB_of h1
    have HE2:Hid (r=0):=by rw [Hid,HE.out,if_pos (of_decide_eq_true g)]
    refine (in_is h1 _).mono ?_
    rintro e v1 ⟨rfl,hv⟩
    rw [hv]
    clear hv h1 g
    go_wp2
    go_ret
    exact ⟨one_int HE2.out.symm,HBW.out⟩
  ·go_wp2
   go_ret
   exact ⟨one_int (by rw [HE.out];rfl),HBW.out⟩
 ·have HE:Hid (r=0):=by rw [Hid,← HR.out];simp [codeV]
  clear HCH
  go_wp2
  go_ret
  exact ⟨one_int HE.out.symm,HBW.out⟩
 ·have HE:Hid (r=if l=true then 4 else 0):=by rw [Hid,← HR.out,← HL.out];simp [codeV]
  clear HCH
  cases l
  ·go_wp2
   go_ret
   exact ⟨one_int (by rw [HE.out];rfl),HBW.out⟩
  ·go_wp2
   go_ret
   exact ⟨one_int (by rw [HE.out];rfl),HBW.out⟩
 ·have HE:Hid (r=if 0≤m∧m≤cl then 0 else 2):=by rw [Hid,← HR.out];simp [codeV]
  clear HCH
  go_wp2_with fail
  cases h1:inB m 0 cl
  ·have g:=inB_of h1
   have HE2:Hid (r=2):=by rw [Hid,HE.out,if_neg (of_decide_eq_false g)]
   refine (in_is h1 _).mono ?_
   rintro e v1 ⟨rfl,hv⟩
   rw [hv]
   clear hv h1 g
   go_wp2
   go_ret
   exact ⟨one_int HE2.out.symm,HBW.out⟩
  ·have g:=inB_of h1
   have HE2:Hid (r=0):=by rw [Hid,HE.out,if_pos (of_decide_eq_true g)]
   refine (in_is h1 _).mono ?_
   rintro e v1 ⟨rfl,hv⟩
   rw [hv]
   clear hv h1 g
   go_wp2
   go_ret
   exact ⟨one_int HE2.out.symm,HBW.out⟩
 ·have HE:Hid (r=if l=true then 0 else 4):=by rw [Hid,← HR.out,← HL.out];simp [codeV]
  clear HCH
  cases l
  ·go_wp2
   go_ret
   exact ⟨one_int (by rw [HE.out];rfl),HBW.out⟩
  ·go_wp2
   go_ret
   exact ⟨one_int (by rw [HE.out];rfl),HBW.out⟩
 ·have HE:Hid (r=0):=by rw [Hid,← HR.out];simp [codeV]
  clear HCH
  go_wp2
  go_ret
  exact ⟨one_int HE.out.symm,HBW.out⟩
theorem second_any {b:Nat} {ao:Option Addr} {cp:Nat} {zs:List Int} {a:Ac} {t:Int} {c:Cs} {v:Value} {w:World} (h:DS b ao cp zs a t c [] v w) (hn:zs.length≤1099511627776) :
  Calls Tryz.prog 292 #[.pointer (some ⟨b,0,none⟩)] w (DR b ao cp zs a t w (.int .i64 (replyV c a t)) (if replyV c a t=0 then ⟨c.iss,c.acq,c.cur,c.am,5,c.rsn,a.am,c.bk,c.fee,c.cop,c.sta,dueV t 15 zs⟩ else c) []):=by
 have HH:Hid (DS b ao cp zs a t c [] v w):=h
 have HL:Hid (b<w.heap.size):=h.lt
 have HQ:Hid (Calls Tryz.prog 322 #[.pointer (some ⟨b,0,none⟩)] w fun e w'=>e=.returned (.int .i64 (replyV c a t))∧Below w.heap.size w w'):=reply_any h
 clear h
 obtain ⟨r,hr⟩:∃ r,replyV c a t=r:=⟨_,rfl⟩
 rw [hr] at HQ ⊢
 clear hr
 by_cases h0:r=0
 ·subst h0
  rw [if_pos rfl]
  go_enter Tryz.func292,Tryz.ntmps292
  go_wp2_with fail
  refine Calls.mono HQ.out ?_
  rintro e w1 ⟨rfl,b1⟩
  have HB:Hid (Below w.heap.size w w1):=b1
  have h:=HH.out.below b1
  have c13:=h.db.a1
  have c4:=h.db.cb.f4
  have c6:=h.db.cb.f6
  have z4:=h.db.fz.z4
  have z6:=h.db.fz.z6
  simp only [Nat.zero_add] at c4 c6 z4 z6
  have HH1:Hid (DS b ao cp zs a t c [] v w1):=h
  clear b1 h
  go_wp2_with fail
  refine (dueIn_any ((HH1.out.set4 5).set6 a.am) hn 2 15 rfl).mono ?_
  rintro e w2 ⟨rfl,D2,b2⟩
  have HD:Hid _:=D2
  have HB2:Hid (Below b w w2):=(((HB.out.mono (Nat.le_of_lt HL.out)).trans (bel_at _ _ 4 _)).trans (bel_at _ _ 6 _)).trans b2
  clear D2 b2
  go_wp2
  go_ret
  exact ⟨rfl,HD.out,HB2.out⟩
 ·rw [if_neg h0]
  have h0':(r != 0)=true:=by simpa using h0
  clear h0
  go_enter Tryz.func292,Tryz.ntmps292
  go_wp2_with fail
  refine Calls.mono HQ.out ?_
  rintro e w1 ⟨rfl,b1⟩
  have HB:Hid (Below w.heap.size w w1):=b1
  clear b1
  go_wp2
  go_ret
  exact ⟨rfl,⟨v,HH.out.below HB.out⟩,HB.out.mono (Nat.le_of_lt HL.out)⟩
theorem accept_any {b:Nat} {ao:Option Addr} {cp:Nat} {zs:List Int} {a:Ac} {t:Int} {c:Cs} {v:Value} {w:World} (h:DS b ao cp zs a t c [] v w) (hb:0≤c.bk∧c.bk≤1000000000000) (hc:0≤c.cl∧c.cl≤1000000000000) :
  Calls Tryz.prog 293 #[.pointer (some ⟨b,0,none⟩)] w (DR b ao cp zs a t w (.int .i64 0) (endC c c.cl) (toIss c c.cl)):=by
 have HH:Hid (DS b ao cp zs a t c [] v w):=h
 have HG:Hid (Calls Tryz.prog 323 #[.pointer (some ⟨b,0,none⟩),.int .i64 c.cl] w (DR b ao cp zs a t w (.tuple #[]) ⟨c.iss,c.acq,c.cur,c.am,c.st,c.rsn,c.cl,c.bk+c.cl,c.fee,c.cop,c.sta,c.due⟩ (toIss c c.cl))):=by
  have g:=giveBack_any h (Nat.zero_le _) c.cl hc hb
  rw [moved_nil hc.1] at g
  exact g
 have c6:=h.db.cb.f6
 simp only [Nat.zero_add] at c6
 clear h
 go_enter Tryz.func293,Tryz.ntmps293
 go_wp2_with fail
 refine Calls.mono HG.out ?_
 rintro e w1 ⟨rfl,⟨v1,D1⟩,b1⟩
 have HD:Hid (DS b ao cp zs a t ⟨c.iss,c.acq,c.cur,c.am,c.st,c.rsn,c.cl,c.bk+c.cl,c.fee,c.cop,c.sta,c.due⟩ (toIss c c.cl) v1 w1):=D1
 have HB:Hid (Below b w w1):=b1
 clear D1 b1
 go_wp2_with fail
 refine (end_any HD.out 5 (.inl rfl)).mono ?_
 rintro e w2 ⟨rfl,D2,b2⟩
 have HD2:Hid _:=D2
 have HB2:Hid (Below b w w2):=HB.out.trans b2
 clear D2 b2
 go_wp2
 go_ret
 exact ⟨rfl,HD2.out,HB2.out⟩
theorem ruleFor_any {b:Nat} {ao:Option Addr} {cp:Nat} {zs:List Int} {a:Ac} {t:Int} {c:Cs} {v:Value} {w:World} (h:DS b ao cp zs a t c [] v w) (s:Int) (hs:0≤s∧s≤1000000000000) (hb:0≤c.bk∧c.bk≤1000000000000) (hf:0≤c.fee∧c.fee≤1000000) :
  Calls Tryz.prog 325 #[.pointer (some ⟨b,0,none⟩),.int .i64 s] w (DR b ao cp zs a t w (.int .i64 0) (ruleC c s) (ruleE c s)):=by
 have HH:Hid (DS b ao cp zs a t c [] v w):=h
 have HL:Hid (b<w.heap.size):=h.lt
 have HG:Hid (Calls Tryz.prog 323 #[.pointer (some ⟨b,0,none⟩),.int .i64 s] w (DR b ao cp zs a t w (.tuple #[]) ⟨c.iss,c.acq,c.cur,c.am,c.st,c.rsn,c.cl,c.bk+s,c.fee,c.cop,c.sta,c.due⟩ (toIss c s))):=by
  have g:=giveBack_any h (Nat.zero_le _) s hs hb
  rw [moved_nil hs.1] at g
  exact g
 have HT:Hid ((toIss c s).length≤100):=by rw [Hid,← moved_nil hs.1];have:=moved_len c [] c.acq c.iss s;simp only [List.length_nil] at this;omega
 have c0:=h.db.cb.f0
 have c1:=h.db.cb.f1
 have c6:=h.db.cb.f6
 simp only [Nat.zero_add] at c0 c1 c6
 obtain ⟨y,hy⟩:∃ y,c.cl=y:=⟨_,rfl⟩
 have HY:Hid _:=hy
 rw [hy] at c6
 obtain ⟨lo,hlo⟩:∃ lo,loser c s=lo:=⟨_,rfl⟩
 have HLO:Hid _:=hlo
 have HE:Hid (ruleE c s=toIss c s++[(lo,9999,c.cur,50000)]):=by rw [Hid,ruleE,hlo]
 obtain ⟨fe,hfe⟩:∃ fe,c.fee=fe:=⟨_,rfl⟩
 have HFE:Hid _:=hfe
 rw [hfe] at hf
 clear h hy hlo hfe hb
 by_cases hc:y≤2*s
 ·have HA:Hid (lo=c.acq):=by rw [Hid,← HLO.out,loser,HY.out,if_pos hc]
  go_enter Tryz.func325,Tryz.ntmps325
  go_wp2_with fail
  refine Calls.mono HG.out ?_
  rintro e w1 ⟨rfl,⟨v1,D1⟩,b1⟩
  have HD:Hid (DS b ao cp zs a t ⟨c.iss,c.acq,c.cur,c.am,c.st,c.rsn,c.cl,c.bk+s,c.fee,c.cop,c.sta,c.due⟩ (toIss c s) v1 w1):=D1
  have HB:Hid (Below b w w1):=b1
  clear D1 b1
  go_wp2_with fail
  refine (move_any HD.out HT.out _ 9999 50000).mono ?_
  rintro e w2 ⟨rfl,⟨v2,D2⟩,b2⟩
  have HB2:Hid (Below b w w2):=HB.out.trans b2
  have c8:=D2.db.cb.f8
  have z8:=D2.db.fz.z8
  simp only [Nat.zero_add] at c8 z8
  rw [HFE.out] at c8
  have HD2:Hid _:=D2
  clear D2 b2
  go_wp2_with fail
  refine (end_any (HD2.out.set8 (fe+50000)) 7 (.inr (.inl rfl))).mono ?_
  rintro e w3 ⟨rfl,⟨v3,D3⟩,b3⟩
  have HD3:Hid _:=D3
  have HB3:Hid (Below b w w3):=(HB2.out.trans (bel_at _ _ 8 _)).trans b3
  clear D3 b3
  go_wp2
  go_ret
  refine ⟨rfl,⟨v3,?_⟩,HB3.out⟩
  rw [HE.out,HA.out,ruleC,HFE.out]
  exact HD3.out
 ·have HA:Hid (lo=c.iss):=by rw [Hid,← HLO.out,loser,HY.out,if_neg hc]
  go_enter Tryz.func325,Tryz.ntmps325
  go_wp2_with fail
  refine Calls.mono HG.out ?_
  rintro e w1 ⟨rfl,⟨v1,D1⟩,b1⟩
  have HD:Hid (DS b ao cp zs a t ⟨c.iss,c.acq,c.cur,c.am,c.st,c.rsn,c.cl,c.bk+s,c.fee,c.cop,c.sta,c.due⟩ (toIss c s) v1 w1):=D1
  have HB:Hid (Below b w w1):=b1
  clear D1 b1
  go_wp2_with fail
  refine (move_any HD.out HT.out _ 9999 50000).mono ?_
  rintro e w2 ⟨rfl,⟨v2,D2⟩,b2⟩
  have HB2:Hid (Below b w w2):=HB.out.trans b2
  have c8:=D2.db.cb.f8
  have z8:=D2.db.fz.z8
  simp only [Nat.zero_add] at c8 z8
  rw [HFE.out] at c8
  have HD2:Hid _:=D2
  clear D2 b2
  go_wp2_with fail
  refine (end_any (HD2.out.set8 (fe+50000)) 7 (.inr (.inl rfl))).mono ?_
  rintro e w3 ⟨rfl,⟨v3,D3⟩,b3⟩
  have HD3:Hid _:=D3
  have HB3:Hid (Below b w w3):=(HB2.out.trans (bel_at _ _ 8 _)).trans b3
  clear D3 b3
  go_wp2
  go_ret
  refine ⟨rfl,⟨v3,?_⟩,HB3.out⟩
  rw [HE.out,HA.out,ruleC,HFE.out]
  exact HD3.out
theorem rule_any {b:Nat} {ao:Option Addr} {cp:Nat} {zs:List Int} {a:Ac} {t:Int} {c:Cs} {v:Value} {w:World} (h:DS b ao cp zs a t c [] v w) (hb:0≤c.bk∧c.bk≤1000000000000) (hc:0≤c.cl∧c.cl≤1000000000000) (hf:0≤c.fee∧c.fee≤1000000) :
  Calls Tryz.prog 295 #[.pointer (some ⟨b,0,none⟩)] w (DR b ao cp zs a t w (.int .i64 (if 0≤a.am∧a.am≤c.cl then 0 else 2)) (if 0≤a.am∧a.am≤c.cl then ruleC c a.am else c) (if 0≤a.am∧a.am≤c.cl then ruleE c a.am else [])):=by
 have HH:Hid (DS b ao cp zs a t c [] v w):=h
 have HL:Hid (b<w.heap.size):=h.lt
 have c13:=h.db.a1
 have c6:=h.db.cb.f6
 simp only [Nat.zero_add] at c6
 have HG:Hid (0≤a.am∧a.am≤c.cl→∀ u,Below w.heap.size w u→Calls Tryz.prog 325 #[.pointer (some ⟨b,0,none⟩),.int .i64 a.am] u (DR b ao cp zs a t u (.int .i64 0) (ruleC c a.am) (ruleE c a.am))):=fun hx u hu=>ruleFor_any (h.below hu) a.am ⟨hx.1,by omega⟩ hb hf
 clear h hb hf
 by_cases hx:0≤a.am∧a.am≤c.cl
 ·rw [if_pos hx,if_pos hx,if_pos hx]
  have HG':Hid (∀ u,Below w.heap.size w u→Calls Tryz.prog 325 #[.pointer (some ⟨b,0,none⟩),.int .i64 a.am] u (DR b ao cp zs a t u (.int .i64 0) (ruleC c a.am) (ruleE c a.am))):=HG.out hx
  obtain ⟨x,hxx⟩:∃ x,a.am=x:=⟨_,rfl⟩
  obtain ⟨y,hyy⟩:∃ y,c.cl=y:=⟨_,rfl⟩
  obtain ⟨C,hC⟩:∃ C,ruleC c a.am=C:=⟨_,rfl⟩
  obtain ⟨E,hE⟩:∃ E,ruleE c a.am=E:=⟨_,rfl⟩
  rw [hC,hE] at HG' ⊢
  rw [hxx] at c13 hx HG'
  rw [hyy] at c6 hx
  obtain ⟨h1,h2⟩:=hx
  clear hxx hyy hC hE HG hc
  have b0:Below w.heap.size w w:=Below.refl _ _
  go_enter Tryz.func295,Tryz.ntmps295
  go_wp2
  go_quiet (fail)
  all_goals
   go_wp2_with fail
   refine (HG'.out _ (below_drewN b0 _)).mono ?_
   rintro e w1 ⟨rfl,D1,b1⟩
   have HD1:Hid _:=D1
   have HB1:Hid (Below b w w1):=(below_drewN (Below.refl b w) _).trans b1
   clear D1 b1
   go_wp2
   go_ret
   exact ⟨rfl,HD1.out,HB1.out⟩
 ·rw [if_neg hx,if_neg hx,if_neg hx]
  obtain ⟨x,hxx⟩:∃ x,a.am=x:=⟨_,rfl⟩
  obtain ⟨y,hyy⟩:∃ y,c.cl=y:=⟨_,rfl⟩
  rw [hxx] at c13 hx
  rw [hyy] at c6 hx
  clear hxx hyy HG hc
  by_cases h1:x<0
  ·clear hx
   go_enter Tryz.func295,Tryz.ntmps295
   go_wp2
   go_quiet (fail)
   all_goals
    go_wp2
    go_ret
    exact ⟨rfl,⟨v,HH.out.below (below_drewN (Below.refl _ _) _)⟩,below_drewN (Below.refl _ _) _⟩
  ·have h2:y<x:=by omega
   clear hx
   go_enter Tryz.func295,Tryz.ntmps295
   go_wp2
   go_quiet (fail)
   all_goals
    go_wp2
    go_ret
    exact ⟨rfl,⟨v,HH.out.below (below_drewN (Below.refl _ _) _)⟩,below_drewN (Below.refl _ _) _⟩
end Go.Proofs.YtomiclakhjncbaaGreatDoor
