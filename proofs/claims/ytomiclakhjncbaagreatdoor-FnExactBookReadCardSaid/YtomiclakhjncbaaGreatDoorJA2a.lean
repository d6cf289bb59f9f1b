import Derived.Test.YtomiclakhjncbaaGreatDoorKALnLaw2
import Derived.Test.YtomiclakhjncbaaGreatDoorKAOff
import Derived.RangeFuncNested
import Derived.RangeFuncBound
import Derived.RangeFuncCalls
import Derived.RangeFuncLeaves
import Derived.Shelf.Abstract
import Derived.Shelf.RegionOpen
import Derived.WalkKit
import Derived.OwnWalkIn
import Derived.TacticsInMore
import Derived.LoopNIn
import Derived.LoopIn
import Derived.Test.YtomiclakhjncbaaGreatDoorJA1a
import Derived.Test.YtomiclakhjncbaaGreatDoorJA0a
import Derived.Test.YtomiclakhjncbaaGreatDoorKASLed
import Derived.Deep.DeepCutAuto
import Derived.Test.YtomiclakhjncbaaGreatDoorKAAuLaw
import Derived.Lib.SliceRun
import Derived.Test.YtomiclakhjncbaaGreatDoorKAHpOps
import Derived.Test.YtomiclakhjncbaaGreatDoorKAFLed2
import Derived.Sort.Grow
import Derived.Maps.RangeWalk
import Derived.Handy
namespace Go.Proofs.YtomiclakhjncbaaGreatDoor
open Go.RowKit
set_option maxRecDepth 100000
set_option maxHeartbeats 12800000
def ecell (x:En):List Value:=[.int .i64 x.1,.int .i64 x.2.1,.int .i64 x.2.2.1,.int .i64 x.2.2.2]
def ecells (es:List En):List Value:=es.flatMap ecell
theorem ecells_cons (x:En) (r:List En):ecells (x::r)=.int .i64 x.1::.int .i64 x.2.1::.int .i64 x.2.2.1::.int .i64 x.2.2.2::ecells r:=rfl
theorem ecells_len (es:List En):(ecells es).length=es.length*4:=by
 induction es with
 | nil=>rfl
 | cons f r ih=>rw [ecells_cons];simp [ih];omega
theorem ecells_at (es:List En):∀ k,k<es.length→(ecells es)[k*4]?=some (.int .i64 (enAt es k).1)∧(ecells es)[k*4+1]?=some (.int .i64 (enAt es k).2.1)∧(ecells es)[k*4+2]?=some (.int .i64 (enAt es k).2.2.1)∧(ecells es)[k*4+3]?=some (.int .i64 (enAt es k).2.2.2):=by
 induction es with
 | nil=>intro k h;simp at h
 | cons f r ih =>
  intro k h
  rw [ecells_cons]
  cases k with
  | zero=>exact ⟨rfl,rfl,rfl,rfl⟩
  | succ k =>
   have:=ih k (by simpa using h)
   rw [show (k+1) * 4=k*4+1+1+1+1 by omega]
   simp only [List.getElem?_cons_succ]
   exact this
theorem ents_of_own {w:World} {base n:Nat} {t:TypeId} {v:Value} {es:List En} (h:w.ownsRow base t 4 v n (ecells es)):∃ ao cap,v=.slice ao es.length cap∧EntsAt w ao es∧n=es.length:=by
 have hn:n=es.length:=by have:=h.1;rw [ecells_len] at this;omega
 subst hn
 rcases h.2 with ⟨rfl,hn⟩ | ⟨g,cap,cur,rfl,_⟩
 ·have:es=[]:=List.eq_nil_of_length_eq_zero hn
  subst this
  exact ⟨none,0,rfl,.inl rfl,rfl⟩
 ·refine ⟨_,cap,rfl,?_,rfl⟩
  by_cases h0:es=[]
  ·exact .inl h0
  ·refine .inr ⟨g,0,rfl,(h.lt g rfl).2,fun i hi=>?_⟩
   have:=ecells_at es i hi
   rw [Nat.zero_add,h.cellAt (i*4) (by omega),h.cellAt (i*4+1) (by omega),h.cellAt (i*4+2) (by omega),h.cellAt (i*4+3) (by omega)]
   exact this
theorem ents_any {w:World} {base n:Nat} {t:TypeId} {ao:Option Addr} {cap:Nat} {es:List En} (h:w.ownsRow base t 4 (.slice ao es.length cap) n (ecells es)):EntsAt w ao es:=by
 obtain ⟨ao',cap',hv,hf,_⟩:=ents_of_own h
 obtain ⟨rfl,_⟩:ao=ao'∧cap=cap':=by simpa using hv
 exact hf
theorem infoE:(Tryz.prog.info? 269).map (fun i=>(i.zero,i.size,i.bytes))=some (some (.agg #[.int .i64 0,.int .i64 0,.int .i64 0,.int .i64 0]),4,32):=by kernel_rfl
theorem nan1_any (x:Int) (w:World):Calls Tryz.prog 361 #[.int .i64 x] w fun e w'=>e=.returned (.bool false)∧w'=w:=by
 have h:(x != x)=false:=by simp
 go_enter Tryz.func361,Tryz.ntmps361
 go_wp2
 go_ret
 exact ⟨one_bool (by simp),rfl⟩
theorem nan2_any (x:Int) (w:World):Calls Tryz.prog 187 #[.int .i64 x] w fun e w'=>e=.returned (.bool false)∧w'=w:=by
 go_enter Tryz.func187,Tryz.ntmps187
 go_wp2
 go_ret
 exact ⟨one_bool (by simp),rfl⟩
theorem less_any (x y:Int) (w:World):Calls Tryz.prog 360 #[.int .i64 x,.int .i64 y] w fun e w'=>e=.returned (.bool (decide (x<y)))∧w'=w:=by
 go_enter Tryz.func360,Tryz.ntmps360
 go_wp2_with (go_at_call 187;refine (nan2_any _ _).mono ?_;rintro e w' ⟨rfl,rfl⟩)
 go_ret
 exact ⟨rfl,rfl⟩
theorem search_any (t:Int) (b off c:Nat) (zs:List Int) (w:World) (hcx:∀ i,i<zs.length→w.cell? ⟨b,off+i,none⟩=some (.int .i64 (zs.getD i 0))) (h1:zs.length≤400) (ha:ascB (-1) zs=true) :
  Calls Tryz.prog 359 #[.slice (some ⟨b,off,none⟩) zs.length c,.int .i64 t] w fun e w'=>(∃ i:Int,e=.returned (.tuple #[.int .i64 i,.bool (decide (t ∈ zs))]))∧w'=w:=by
 have HA:Hid _:=ha
 clear ha
 go_enter Tryz.func359,Tryz.ntmps359
 go_wp2
 go_loop [7,8,9] (fun i j _=>∃ (m n:Nat),m≤n∧n≤zs.length∧i=.int .i64 m∧j=.int .i64 n∧(∀ k,k<m→zs.getD k 0<t)∧(∀ k,n≤k→k<zs.length→t≤zs.getD k 0)) (fun i j _=>(intOf j - intOf i).toNat)
 case atStart=>exact ⟨0,zs.length,Nat.zero_le _,Nat.le_refl _,rfl,rfl,fun k hk=>by omega,fun k h1 h2=>by omega⟩
 case round =>
  obtain ⟨m,n,hmn,hn,rfl,rfl,hlo,hhi⟩:=hrel
  have HL:Hid _:=hlo
  have HH:Hid _:=hhi
  clear hlo hhi
  by_cases hlt:m<n
  ·have hlti:(m:Int)<(n:Int):=by omega
   have e1:=hcx ((m+n) / 2) (by omega)
   obtain ⟨x,hxk⟩:∃ x,zs.getD ((m+n) / 2) 0=x:=⟨_,rfl⟩
   rw [hxk] at e1
   have HX:Hid _:=hxk
   clear hxk hcx
   by_cases hxt:x<t
   ·have HL2:Hid (∀ k,k<(m+n) / 2+1→zs.getD k 0<t):=fun k hk=>by
      rcases (show k<(m+n) / 2∨k=(m+n) / 2 from by omega) with h | h
      ·have:=asc_lt zs _ HA.out k ((m+n) / 2) h (by omega)
       rw [HX.out] at this;omega
      ·rw [h,HX.out];exact hxt
    go_wp2_with (go_at_call 360;refine (less_any _ _ _).mono ?_;rintro e w' ⟨rfl,rfl⟩)
    go_round
    case rel=>exact ⟨(m+n) / 2+1,n,by omega,hn,by go_num,rfl,HL2.out,HH.out⟩
    case measure=>simp [intOf];omega
   ·have hxt':t≤x:=by omega
    have HH2:Hid (∀ k,(m+n) / 2≤k→k<zs.length→t≤zs.getD k 0):=fun k hk hkl=>by
     rcases (show (m+n) / 2<k∨k=(m+n) / 2 from by omega) with h | h
     ·have:=asc_lt zs _ HA.out ((m+n) / 2) k h hkl
      rw [HX.out] at this;omega
     ·rw [h,HX.out];exact hxt'
    go_wp2_with (go_at_call 360;refine (less_any _ _ _).mono ?_;rintro e w' ⟨rfl,rfl⟩)
    go_round
    case rel=>exact ⟨m,(m+n) / 2,by omega,by omega,rfl,by go_num,HL.out,HH2.out⟩
    case measure=>simp [intOf];omega
  ·have hmn':m=n:=by omega
   subst hmn'
   have HE:Hid _:=search_end HA.out HL.out HH.out
   by_cases hml:m<zs.length
   ·have hmli:(m:Int)<(zs.length:Int):=by omega
    have e1:=hcx m hml
    obtain ⟨x,hxk⟩:∃ x,zs.getD m 0=x:=⟨_,rfl⟩
    rw [hxk] at e1
    have HX:Hid _:=hxk
    clear hxk hcx
    cases he:(x == t)
    ·have HR:Hid (decide (t ∈ zs)=false):=decide_eq_false (fun hm=>by
       have:=(HE.out.1 hm).2
       rw [HX.out] at this;subst this;simp at he)
     go_wp2_with (go_at_call 361;refine (nan1_any _ _).mono ?_;rintro e w' ⟨rfl,rfl⟩)
     go_ret2
     exact ⟨⟨m,two_eq rfl HR.out.symm⟩,rfl⟩
    ·have HR:Hid (decide (t ∈ zs)=true):=decide_eq_true (HE.out.2 ⟨hml,by rw [HX.out];simpa using he⟩)
     go_wp2_with (go_at_call 361;refine (nan1_any _ _).mono ?_;rintro e w' ⟨rfl,rfl⟩)
     go_ret2
     exact ⟨⟨m,two_eq rfl HR.out.symm⟩,rfl⟩
   ·have hmli:¬ (m:Int)<(zs.length:Int):=by omega
    have HR:Hid (decide (t ∈ zs)=false):=decide_eq_false (fun hm=>hml (HE.out.1 hm).1)
    clear hcx
    go_wp2_with fail
    go_ret2
    exact ⟨⟨m,two_eq rfl HR.out.symm⟩,rfl⟩
theorem search_nil (t:Int) (ao:Option Addr) (c:Nat) (w:World) :
  Calls Tryz.prog 359 #[.slice ao 0 c,.int .i64 t] w fun e w'=>(∃ i:Int,e=.returned (.tuple #[.int .i64 i,.bool false]))∧w'=w:=by
 go_enter Tryz.func359,Tryz.ntmps359
 go_wp2
 refine wp_loop_rounds 1 ?_
 rw [rounds_succ]
 go_wp2
 go_ret2
 exact ⟨⟨0,two_eq rfl rfl⟩,rfl⟩
theorem has_any (d:Int) (ao:Option Addr) (c:Nat) (zs:List Int) (w:World) (hx:IntsAt w ao zs) (h1:zs.length≤400) (ha:ascB (-1) zs=true) :
  Calls Tryz.prog 356 #[.slice ao zs.length c,.int .i64 d] w fun e w'=>e=.returned (.bool (decide (d ∈ zs)))∧w'=w:=by
 rcases hx with rfl | ⟨b,off,rfl,hb,hcx⟩
 ·go_enter Tryz.func356,Tryz.ntmps356
  go_wp2_with fail
  refine (search_nil _ _ _ _).mono ?_
  rintro e w' ⟨⟨i,rfl⟩,hw⟩
  subst hw
  go_wp2
  go_ret
  exact ⟨one_bool (by simp),rfl⟩
 ·go_enter Tryz.func356,Tryz.ntmps356
  go_wp2_with fail
  refine (search_any _ _ _ _ zs _ hcx h1 ha).mono ?_
  rintro e w' ⟨⟨i,rfl⟩,hw⟩
  subst hw
  go_wp2
  go_ret
  exact ⟨rfl,rfl⟩
theorem weekend_any (x:Int) (w:World) (hd:dOk x=true) :
  Calls Tryz.prog 355 #[.int .i64 x] w fun e w'=>e=.returned (.bool (!decide ((x+5) % 7<5)))∧w'=w:=by
 have hv:=wdV_yes hd
 have HB:Hid (decide (4<(x+5) % 7) = !decide ((x+5) % 7<5)):=by
  by_cases h:(x+5) % 7<5
  ·rw [Hid,decide_eq_true h,decide_eq_false (by omega)];rfl
  ·rw [Hid,decide_eq_false h,decide_eq_true (by omega)];rfl
 clear hd
 go_enter Tryz.func355,Tryz.ntmps355
 go_wp2_with (go_at_call 358;refine (iWeekDay_any _ _).mono ?_;rintro e w' ⟨rfl,rfl⟩;rw [hv])
 go_ret
 exact ⟨one_bool HB.out,rfl⟩
end Go.Proofs.YtomiclakhjncbaaGreatDoor
namespace Go.Proofs.YtomiclakhjncbaaGreatDoor
open Go.RowKit Go.Shelf
set_option maxRecDepth 100000
set_option maxHeartbeats 12800000
def IntsIn (N:Nat) (w:World) (ao:Option Addr) (zs:List Int):Prop :=
 zs=[]∨∃ b off,ao=some ⟨b,off,none⟩∧b<N∧∀ i,i<zs.length→w.cell? ⟨b,off+i,none⟩=some (.int .i64 (zs.getD i 0))
theorem IntsIn.keep {N:Nat} {w w':World} {ao:Option Addr} {zs:List Int} (h:IntsIn N w ao zs) (hb:Below N w w'):IntsIn N w' ao zs:=by
 rcases h with h | ⟨b,off,h1,h2,h3⟩
 ·exact .inl h
 ·exact .inr ⟨b,off,h1,h2,fun i hi=>(hb.cell (p:=⟨b,off+i,none⟩) h2).trans (h3 i hi)⟩
theorem IntsIn.at {N:Nat} {w:World} {ao:Option Addr} {zs:List Int} (h:IntsIn N w ao zs) (hN:N≤w.heap.size):IntsAt w ao zs:=by
 rcases h with h | ⟨b,off,h1,h2,h3⟩
 ·exact .inl h
 ·exact .inr ⟨b,off,h1,by omega,h3⟩
theorem IntsAt.in {w:World} {ao:Option Addr} {zs:List Int} (h:IntsAt w ao zs):IntsIn w.heap.size w ao zs:=h
def Keep (N Bo:Nat) (W W':World):Prop:=Below N W W'∧∀ v,W.cell? ⟨Bo,0,none⟩=some v→W'.cell? ⟨Bo,0,none⟩=some v
theorem keep_t {N Bo:Nat} {A B C:World} (h:Keep N Bo A B) (k:Keep N Bo B C):Keep N Bo A C:=⟨h.1.trans k.1,fun v hv=>k.2 v (h.2 v hv)⟩
theorem keep_b {N Bo:Nat} {w:World} (hn:N≤w.heap.size) (W:World) (l:Nat) (o o':Obj) (hl:w.heap.size≤l) (h:W.heap[l]?=some o) (hc:o.isCells=false) (hw:o.isWalk=false):Keep N Bo W (W.putObj l o') :=
 ⟨belowK_b hn W l o o' hl h hc hw,fun _ hv=>cell_kept hv (grownBy_putObj' W l o') (fun r e=>by cases e;exact ⟨o,h,hc⟩)⟩
theorem val_int {k:IntKind} {a b:Int} (h:a=b):Value.int k a=Value.int k b:=by rw [h]
theorem wk_of (zs:List Int) (y:Int):wk zs y=(decide ((y+5) % 7<5) && !decide (y ∈ zs)):=rfl
theorem behind_in (n:Nat) (hn:1≤n) (l Bd Bo N c:Nat) (ao:Option Addr) (zs:List Int) (d:Int) (hd:dOk d=true) (ho:offOk zs=true) (J Jx:List Int→World→Prop)
  (hY:∀ pre x W,J pre W→pre.length<(wd zs (80000 - d).toNat).length→YieldAt Fence.wide (n - 1) Tryz.prog l #[.int .i64 x] W fun e W' =>
   (e=.returned (.bool true)∧J (pre++[x]) W'∧Keep N Bo W W')∨(e=.returned (.bool false)∧Jx (pre++[x]) W'))
  (W:World) (hN:N≤W.heap.size) (cd:W.cell? ⟨Bd,0,none⟩=some (.int .i64 d)) (co:W.cell? ⟨Bo,0,none⟩=some (.slice ao zs.length c)) (hz:IntsIn N W ao zs) (h0:J [] W) :
  CallsIn Fence.wide n Tryz.prog 354 #[.func (.yield l) #[] #[],.pointer (some ⟨Bd,0,none⟩),.pointer (some ⟨Bo,0,none⟩)] W fun e W'=>(∃ v,e=.returned v) ∧
   ((∃ ys,ys=wd zs (80000 - d).toNat∧J ys W')∨(∃ pre,pre <+: wd zs (80000 - d).toNat∧Jx pre W')):=by
 have hb:=dOk_bd hd
 have HL:Hid _:=off_len ho
 have HA:Hid _:=off_asc ho
 clear hd ho
 refine callsIn_of_wp Tryz.func354 rfl trivial ?_ rfl
 simp only [Tryz.ntmps354,List.size_toArray,List.length_cons,List.length_nil,Nat.reduceAdd,Nat.reduceSub,Array.replicate_succ,Array.replicate_zero,List.push_toArray,List.append_toArray,List.nil_append,List.cons_append]
 gi_wp2
 gi_loopw [4] (fun p wr=>∃ (f:Nat) (pre:List Int),f≤80000∧p=.int .i64 (80001 - f)∧pre++wd zs f=wd zs (80000 - d).toNat∧J pre wr∧Keep N Bo W wr) (fun p _=>(80001 - intOf p).toNat)
 case atStart=>exact ⟨(80000 - d).toNat,[],by omega,val_int (by omega),rfl,h0,Below.refl _ _,fun _ h=>h⟩
 case round =>
  obtain ⟨f,pre,hf,rfl,hx,hJs,hk⟩:=hrel
  have HX:Hid _:=hx
  clear hx
  obtain ⟨y,hy⟩:∃ y:Int,80001 - (f:Int)=y:=⟨_,rfl⟩
  rw [hy]
  have HY:Hid _:=hy
  by_cases hyl:y≤80000
  ·obtain ⟨g,rfl⟩:∃ g,f=g+1:=⟨f - 1,by omega⟩
   have hyg:80000 - (g:Int)=y:=by omega
   have hyd:dOk y=true:=dOk_pos (by omega) hyl
   have HG:Hid _:=hyg
   have hy0:0≤y:=by omega
   clear hy hyg
   have hwe:=wk_of zs y
   have HW:Hid _:=hwe
   clear hwe
   have co':wr.cell? ⟨Bo,0,none⟩=some (.slice ao zs.length c):=hk.2 _ co
   have HZ:Hid (IntsAt wr ao zs):=(hz.keep hk.1).at (Nat.le_trans hN hk.1.size)
   have hn':1≤n:=hn
   by_cases h5:(y+5) % 7<5
   ·have hdec:decide ((y+5) % 7<5)=true:=decide_eq_true h5
    by_cases hin:y ∈ zs
    ·have hdin:decide (y ∈ zs)=true:=decide_eq_true hin
     have HN:Hid (wk zs y=false):=by rw [Hid,HW.out,hdec,hdin];rfl
     clear h5 hin
     gi_wp2_with fail
     refine ⟨trivial,(callsIn_wide.2 (weekend_any _ _ hyd)).mono ?_⟩
     rintro e w1 ⟨rfl,hw1⟩
     subst hw1
     rw [hdec]
     gi_wp2_with fail
     refine ⟨trivial,(callsIn_wide.2 (has_any _ _ _ zs _ HZ.out HL.out HA.out)).mono ?_⟩
     rintro e w1 ⟨rfl,hw1⟩
     subst hw1
     rw [hdin]
     gi_wp2
     go_roundw
     case rel=>exact ⟨g,pre,by omega,val_int (by have:=HG.out;omega),by rw [← HX.out,wd_no (by rw [HG.out];exact HN.out)],hJs,hk⟩
     case measure=>simp [intOf];have:=HG.out;omega
    ·have hdin:decide (y ∈ zs)=false:=decide_eq_false hin
     have HN:Hid (wk zs y=true):=by rw [Hid,HW.out,hdec,hdin];rfl
     have HX2:Hid (wd zs (80000 - d).toNat=(pre++[y])++wd zs g):=by rw [Hid,← HX.out,wd_yes (by rw [HG.out];exact HN.out),HG.out];simp
     clear h5 hin
     obtain ⟨fn,tmps,assign,body,hyy,hR⟩:=hY pre y wr hJs (by rw [HX2.out];simp)
     gi_wp2_with fail
     refine ⟨trivial,(callsIn_wide.2 (weekend_any _ _ hyd)).mono ?_⟩
     rintro e w1 ⟨rfl,hw1⟩
     subst hw1
     rw [hdec]
     gi_wp2_with fail
     refine ⟨trivial,(callsIn_wide.2 (has_any _ _ _ zs _ HZ.out HL.out HA.out)).mono ?_⟩
     rintro e w1 ⟨rfl,hw1⟩
     subst hw1
     rw [hdin]
     gi_wp2
     refine hR.mono ?_
     rintro e W3 (⟨rfl,hJ3,hk3⟩ | ⟨rfl,hJx3⟩)
     ·gi_wp2
      go_roundw
      case rel=>exact ⟨g,pre++[y],by omega,val_int (by have:=HG.out;omega),HX2.out.symm,hJ3,keep_t hk hk3⟩
      case measure=>simp [intOf];have:=HG.out;omega
     ·gi_wp2
      refine bodyPost_ret (results_none rfl _ _ _) rfl ?_
      exact ⟨⟨_,rfl⟩,.inr ⟨pre++[y],⟨wd zs g,HX2.out.symm⟩,hJx3⟩⟩
   ·have hdec:decide ((y+5) % 7<5)=false:=decide_eq_false h5
    have HN:Hid (wk zs y=false):=by rw [Hid,HW.out,hdec];rfl
    clear h5
    gi_wp2_with fail
    refine ⟨trivial,(callsIn_wide.2 (weekend_any _ _ hyd)).mono ?_⟩
    rintro e w1 ⟨rfl,hw1⟩
    subst hw1
    rw [hdec]
    gi_wp2
    refine ⟨trivial,?_⟩
    gi_wp2
    go_roundw
    case rel=>exact ⟨g,pre,by omega,val_int (by have:=HG.out;omega),by rw [← HX.out,wd_no (by rw [HG.out];exact HN.out)],hJs,hk⟩
    case measure=>simp [intOf];have:=HG.out;omega
  ·have hf0:f=0:=by omega
   subst hf0
   clear hy
   gi_wp2
   go_end0
   exact ⟨⟨_,rfl⟩,.inl (by rw [← HX.out];simpa [wd] using hJs)⟩
theorem behind_stops (n:Nat) (hn:1≤n) (Bd Bo N c:Nat) (ao:Option Addr) (zs:List Int) (d:Int) (w:World) (hd:dOk d=true) (ho:offOk zs=true) (hBd:Bd<w.heap.size) (hBo:Bo<w.heap.size) (hN:N≤w.heap.size)
  (cd:w.cell? ⟨Bd,0,none⟩=some (.int .i64 d)) (co:w.cell? ⟨Bo,0,none⟩=some (.slice ao zs.length c)) (hz:IntsIn N w ao zs) :
  SeqStopsK Fence.wide n Tryz.prog 354 #[.pointer (some ⟨Bd,0,none⟩),.pointer (some ⟨Bo,0,none⟩)] (fun x:Int=>#[Value.int .i64 x]) (Keep N Bo)
   (fun ys=>ys=wd zs (80000 - d).toNat) (fun pre=>pre <+: wd zs (80000 - d).toNat) (wd zs (80000 - d).toNat).length w:=fun l J Jx W hW _ _ hY h0 =>
 behind_in n hn l Bd Bo N c ao zs d hd ho J Jx hY W (Nat.le_trans hN hW.size) ((hW.cell (p:=⟨Bd,0,none⟩) hBd).trans cd) ((hW.cell (p:=⟨Bo,0,none⟩) hBo).trans co) (hz.keep (hW.mono hN)) h0
theorem workBehind_any (ao:Option Addr) (m c:Nat) (d:Int) (w:World) :
  Calls Tryz.prog 348 #[.slice ao m c,.int .i64 d] w fun e w' =>
   e=.returned (.func (.func 354) #[] #[.pointer (some ⟨w.heap.size+1,0,none⟩),.pointer (some ⟨w.heap.size,0,none⟩)]) ∧
   w'=(w.alloc (.cells #[.slice ao m c] 120)).alloc (.cells #[.int .i64 d] 3):=by
 go_enter Tryz.func348,Tryz.ntmps348
 go_wp2
 go_ret
 exact ⟨rfl,rfl⟩
theorem addV_no {d n:Int} {zs:List Int} (h:dOk d=false∨n<0∨400<n∨offOk zs=false):addV d n zs=none:=by
 unfold addV
 rw [if_neg]
 rintro ⟨a,b,c,e⟩
 rcases h with h | h | h | h
 ·rw [a] at h;cases h
 ·omega
 ·omega
 ·rw [e] at h;cases h
theorem addV_yes {d n:Int} {zs:List Int} (a:dOk d=true) (b:0≤n) (c:n≤400) (e:offOk zs=true):addV d n zs=adv zs (80000 - d).toNat n.toNat:=by
 unfold addV;rw [if_pos ⟨a,b,c,e⟩]
theorem two_cells (w:World) (x:Int) (y:Bool):((w.alloc (.cells #[.int .i64 x] 3)).alloc (.cells #[.bool y] 4)).cell? ⟨w.heap.size,0,none⟩=some (.int .i64 x) ∧
  ((w.alloc (.cells #[.int .i64 x] 3)).alloc (.cells #[.bool y] 4)).cell? ⟨w.heap.size+1,0,none⟩=some (.bool y):=by
 refine ⟨?_,?_⟩
 ·rw [World.cell?_alloc_lt _ _ _ (by simp)];simp
 ·rw [← World.size_alloc w (.cells #[.int .i64 x] 3)];simp
theorem two_below (w:World) (o o':Obj):Below w.heap.size w ((w.alloc o).alloc o'):=((Below.refl _ w).alloc (Nat.le_refl _) _).alloc (by simp) _
theorem iAdd_no (d n:Int) (ao:Option Addr) (c:Nat) (zs:List Int) (w:World) (hx:IntsAt w ao zs) (h1:zs.length≤1099511627776) (h:dOk d=false∨n<0∨400<n∨offOk zs=false) :
  Calls Tryz.prog 338 #[.int .i64 d,.int .i64 n,.slice ao zs.length c] w fun e w'=>e=.returned (.tuple #[.int .i64 0,.bool false])∧Below w.heap.size w w':=by
 have HX:Hid (IntsAt w ao zs):=hx
 clear hx
 have tc:=two_cells w 0 false
 have HB:Hid _:=two_below w (.cells #[.int .i64 0] 3) (.cells #[.bool false] 4)
 cases hd:dOk d
 ·go_enter Tryz.func338,Tryz.ntmps338
  go_wp2_with fail
  refine (iDayOk_any _ _).mono ?_
  rintro e w' ⟨rfl,hw⟩
  subst hw
  go_wp2
  refine bodyPost_ret (v:=.tuple #[.int .i64 0,.bool false]) (by simp [results,Tryz.f338,go_sem]) rfl ⟨rfl,HB.out⟩
 ·by_cases hn0:n<0
  ·go_enter Tryz.func338,Tryz.ntmps338
   go_wp2_with fail
   refine (iDayOk_any _ _).mono ?_
   rintro e w' ⟨rfl,hw⟩
   subst hw
   go_wp2
   refine bodyPost_ret (v:=.tuple #[.int .i64 0,.bool false]) (by simp [results,Tryz.f338,go_sem]) rfl ⟨rfl,HB.out⟩
  ·by_cases hn4:400<n
   ·go_enter Tryz.func338,Tryz.ntmps338
    go_wp2_with fail
    refine (iDayOk_any _ _).mono ?_
    rintro e w' ⟨rfl,hw⟩
    subst hw
    go_wp2
    refine bodyPost_ret (v:=.tuple #[.int .i64 0,.bool false]) (by simp [results,Tryz.f338,go_sem]) rfl ⟨rfl,HB.out⟩
   ·have ho:offOk zs=false:=by
      rcases h with h | h | h | h
      ·rw [hd] at h;cases h
      ·omega
      ·omega
      ·exact h
    clear h
    go_enter Tryz.func338,Tryz.ntmps338
    go_wp2_with fail
    refine (iDayOk_any _ _).mono ?_
    rintro e w' ⟨rfl,hw⟩
    subst hw
    go_wp2_with fail
    refine (iOk_any _ _ zs _ (IntsAt.below HX.out HB.out) h1).mono ?_
    rintro e w' ⟨rfl,hw⟩
    subst hw
    go_wp2
    refine bodyPost_ret (v:=.tuple #[.int .i64 0,.bool false]) (by simp [results,Tryz.f338,go_sem]) rfl ⟨rfl,HB.out⟩
theorem iAdd_zero (d:Int) (ao:Option Addr) (c:Nat) (zs:List Int) (w:World) (hx:IntsAt w ao zs) (h1:zs.length≤1099511627776) (hd:dOk d=true) (ho:offOk zs=true) :
  Calls Tryz.prog 338 #[.int .i64 d,.int .i64 0,.slice ao zs.length c] w fun e w'=>e=.returned (.tuple #[.int .i64 d,.bool true])∧Below w.heap.size w w':=by
 have HX:Hid (IntsAt w ao zs):=hx
 clear hx
 have tc:=two_cells w d true
 have HB0:Hid _:=two_below w (.cells #[.int .i64 0] 3) (.cells #[.bool false] 4)
 have HB:Hid _:=two_below w (.cells #[.int .i64 d] 3) (.cells #[.bool true] 4)
 go_enter Tryz.func338,Tryz.ntmps338
 go_wp2_with fail
 refine (iDayOk_any _ _).mono ?_
 rintro e w' ⟨rfl,hw⟩
 subst hw
 go_wp2_with fail
 refine (iOk_any _ _ zs _ (IntsAt.below HX.out HB0.out) h1).mono ?_
 rintro e w' ⟨rfl,hw⟩
 subst hw
 go_wp2
 refine bodyPost_ret (v:=.tuple #[.int .i64 d,.bool true]) (by simp [results,Tryz.f338,go_sem]) rfl ⟨rfl,HB.out⟩
def Cl (W:World) (k:Nat) (v:Value):Prop:=W.cell? ⟨k,0,none⟩=some v∧W.frozen? ⟨k,0,none⟩=false
theorem Cl.kept {W W':World} {row:Option Nat} {k:Nat} {v:Value} (h:Cl W k v) (hg:W.grownBy W' row) (hr:∀ r,row=some r→∃ o:Obj,W.heap[r]?=some o∧o.isCells=false):Cl W' k v :=
 ⟨cell_kept h.1 hg hr,(frozen_kept h.1 hg hr).trans h.2⟩
theorem Cl.new (W:World) (v:Value) (t:TypeId):Cl (W.alloc (.cells #[v] t)) W.heap.size v:=by
 have h:=World.alloc_heap_new W (.cells #[v] t)
 constructor
 ·unfold World.cell?
  simp only [h]
  rfl
 ·unfold World.frozen?
  simp only [h]
  rfl
theorem Cl.alloc {W:World} {k:Nat} {v:Value} (h:Cl W k v) (o:Obj):Cl (W.alloc o) k v:=h.kept (World.grownBy_alloc W o none) (fun r e=>by cases e)
theorem Cl.other {W:World} {k j:Nat} {v u:Value} (h:Cl W k v) (hj:j≠k):Cl (W.setCell ⟨j,0,none⟩ u) k v:=by
 refine ⟨?_,by rw [World.frozen?_setCell];exact h.2⟩
 rw [World.cell?_setCell_other W ⟨j,0,none⟩ u (b:=⟨k,0,none⟩) (fun e=>by injection e with e1;exact hj e1)];exact h.1
theorem Cl.same {W:World} {k:Nat} {v u:Value} (h:Cl W k v):Cl (W.setCell ⟨k,0,none⟩ u) k u :=
 ⟨World.cell?_setCell_same W ⟨k,0,none⟩ u h.1,by rw [World.frozen?_setCell];exact h.2⟩
theorem Cl.put {W:World} {k D:Nat} {v:Value} {o o':Obj} (h:Cl W k v) (hD:W.heap[D]?=some o) (ho:o.isCells=false):Cl (W.putObj D o') k v :=
 h.kept (grownBy_putObj' W D o') (fun r e=>by cases e;exact ⟨_,hD,ho⟩)
theorem bel_set {N j:Nat} {w W:World} (h:Below N w W) (hj:N≤j) (u:Value):Below N w (W.setCell ⟨j,0,none⟩ u):=h.setCell (p:=⟨j,0,none⟩) hj u
theorem keep_set {N Bo j:Nat} (W:World) (u:Value) (hN:N≤j) (hj:j≠Bo):Keep N Bo W (W.setCell ⟨j,0,none⟩ u) :=
 ⟨(Below.refl N W).setCell (p:=⟨j,0,none⟩) hN _,fun v hv=>by
  rw [World.cell?_setCell_other W ⟨j,0,none⟩ u (b:=⟨Bo,0,none⟩) (fun e=>by injection e with e1;exact hj e1)];exact hv⟩
theorem adv_none {zs:List Int} {f m:Nat} (hm:1≤m) (h:(wd zs f).length<m):adv zs f m=none:=by
 obtain ⟨k,rfl⟩:∃ k,m=k+1:=⟨m - 1,by omega⟩
 rw [adv];exact List.getElem?_eq_none (by omega)
theorem adv_pre {zs:List Int} {f m:Nat} {pre:List Int} {x:Int} (hp:pre++[x] <+: wd zs f) (hm:(pre++[x]).length=m):adv zs f m=some x:=by
 obtain ⟨t,ht⟩:=hp
 simp at hm
 subst hm
 rw [adv,← ht];simp
theorem five (w:World) (m:Nat) (ao:Option Addr) (k c:Nat) (d:Int):∀ W0,W0=(((((w.alloc (.cells #[.int .i64 0] 3)).alloc (.cells #[.bool false] 4)).alloc (.cells #[.int .i64 m] 3)).alloc (.cells #[.slice ao k c] 120)).alloc (.cells #[.int .i64 d] 3)) →
  W0.heap.size=w.heap.size+5∧Below w.heap.size w W0∧Cl W0 w.heap.size (.int .i64 0)∧Cl W0 (w.heap.size+1) (.bool false)∧Cl W0 (w.heap.size+1+1) (.int .i64 m)∧Cl W0 (w.heap.size+1+1+1) (.slice ao k c)∧Cl W0 (w.heap.size+1+1+1+1) (.int .i64 d):=by
 rintro _ rfl
 have z1:=World.size_alloc w (.cells #[.int .i64 0] 3)
 have z2:=World.size_alloc (w.alloc (.cells #[.int .i64 0] 3)) (.cells #[.bool false] 4)
 have z3:=World.size_alloc ((w.alloc (.cells #[.int .i64 0] 3)).alloc (.cells #[.bool false] 4)) (.cells #[.int .i64 m] 3)
 have z4:=World.size_alloc (((w.alloc (.cells #[.int .i64 0] 3)).alloc (.cells #[.bool false] 4)).alloc (.cells #[.int .i64 m] 3)) (.cells #[.slice ao k c] 120)
 have k1:=Cl.new w (.int .i64 0) 3
 have k2:=Cl.new (w.alloc (.cells #[.int .i64 0] 3)) (.bool false) 4
 have k3:=Cl.new ((w.alloc (.cells #[.int .i64 0] 3)).alloc (.cells #[.bool false] 4)) (.int .i64 m) 3
 have k4:=Cl.new (((w.alloc (.cells #[.int .i64 0] 3)).alloc (.cells #[.bool false] 4)).alloc (.cells #[.int .i64 m] 3)) (.slice ao k c) 120
 have k5:=Cl.new ((((w.alloc (.cells #[.int .i64 0] 3)).alloc (.cells #[.bool false] 4)).alloc (.cells #[.int .i64 m] 3)).alloc (.cells #[.slice ao k c] 120)) (.int .i64 d) 3
 rw [z4,z3,z2,z1] at k5
 rw [z3,z2,z1] at k4
 rw [z2,z1] at k3
 rw [z1] at k2
 refine ⟨?_,?_,(((k1.alloc _).alloc _).alloc _).alloc _,((k2.alloc _).alloc _).alloc _,(k3.alloc _).alloc _,k4.alloc _,k5⟩
 ·rw [World.size_alloc,z4,z3,z2,z1]
 ·exact (((two_below w _ _).alloc (by rw [z2,z1];omega) _).alloc (by rw [z3,z2,z1];omega) _).alloc (by rw [z4,z3,z2,z1];omega) _
theorem iAdd_loop (d:Int) (m:Nat) (ao:Option Addr) (c:Nat) (zs:List Int) (w:World) (hx:IntsAt w ao zs) (h1:zs.length≤1099511627776) (hd:dOk d=true) (ho:offOk zs=true) (hm0:1≤m) (hm:m≤400) :
  CallsIn Fence.wide 6 Tryz.prog 338 #[.int .i64 d,.int .i64 m,.slice ao zs.length c] w fun e w'=>e=.returned (.tuple #[.int .i64 ((adv zs (80000 - d).toNat m).getD 0),.bool (adv zs (80000 - d).toNat m).isSome])∧Below w.heap.size w w':=by
 have HX:Hid (IntsAt w ao zs):=hx
 clear hx
 have hm1:¬ (m:Int)<0:=by omega
 have hm2:¬ (400:Int)<(m:Int):=by omega
 have hm3:((m:Int) == 0)=false:=by simp;omega
 refine callsIn_of_wp_marks Tryz.func338 rfl trivial ?_ rfl
 simp only [Tryz.ntmps338,List.size_toArray,List.length_cons,List.length_nil,Nat.reduceAdd,Nat.reduceSub,Array.replicate_succ,Array.replicate_zero,List.push_toArray,List.append_toArray,List.nil_append,List.cons_append]
 gi_wp2_with fail
 refine ⟨trivial,(callsIn_wide.2 (iDayOk_any _ _)).mono ?_⟩
 rintro e w1 ⟨rfl,hw1⟩
 subst hw1
 gi_wp2_with fail
 refine ⟨trivial,(callsIn_wide.2 (iOk_any _ _ zs _ (IntsAt.below HX.out (two_below w _ _)) h1)).mono ?_⟩
 rintro e w1 ⟨rfl,hw1⟩
 subst hw1
 gi_wp2_with fail
 refine ⟨trivial,(callsIn_wide.2 (workBehind_any _ _ _ _ _)).mono ?_⟩
 rintro e w1 ⟨rfl,hw1⟩
 subst hw1
 gi_wp2_with fail
 obtain ⟨W0,hW0⟩:∃ W0,(((((w.alloc (.cells #[.int .i64 0] 3)).alloc (.cells #[.bool false] 4)).alloc (.cells #[.int .i64 m] 3)).alloc (.cells #[.slice ao zs.length c] 120)).alloc (.cells #[.int .i64 d] 3))=W0:=⟨_,rfl⟩
 obtain ⟨hsz,hB0,k1,k2,k3,k4,k5⟩:=five w m ao zs.length c d W0 hW0.symm
 rw [hW0]
 clear hW0
 have HZ:IntsIn w.heap.size W0 ao zs:=(IntsAt.in HX.out).keep hB0
 refine wpIn_rangeFunc_ownF (α:=Int) rfl (by omega) (gf:=354) (lb:=#[.pointer (some ⟨w.heap.size+1+1+1+1,0,none⟩),.pointer (some ⟨w.heap.size+1+1+1,0,none⟩)]) rfl trivial (enters_of Tryz.func354 (by kernel_rfl) rfl)
  (behind_stops 5 (by omega) (w.heap.size+1+1+1+1) (w.heap.size+1+1+1) w.heap.size c ao zs d W0 hd ho (by omega) (by omega) (by omega) k5.1 k4.1 HZ) keep_t (keep_b (by omega)) (Below.refl _ _) (fun _=>rfl)
  (fun pre W=>(pre.length<m∧Cl W (w.heap.size+1+1) (.int .i64 ((m:Int) - pre.length))∧Cl W w.heap.size (.int .i64 0)∧Cl W (w.heap.size+1) (.bool false))∧Below w.heap.size w W)
  (fun cd pre W=>(cd=.ret∧∃ (p:List Int) (x:Int),pre=p++[x]∧pre.length=m∧Cl W w.heap.size (.int .i64 x)∧Cl W (w.heap.size+1) (.bool true))∧Below w.heap.size w W)
  (OwnFrom.and (Own.from (fun s A B row hs hg hr=>⟨hs.1,hs.2.1.kept hg hr,hs.2.2.1.kept hg hr,hs.2.2.2.kept hg hr⟩) _) (ownFrom_below (Nat.le_refl _) (by omega)))
  (fun cd=>OwnFrom.and (Own.from (fun s A B row hs hg hr=>by obtain ⟨e1,p,x,e2,e3,e4,e5⟩:=hs;exact ⟨e1,p,x,e2,e3,e4.kept hg hr,e5.kept hg hr⟩) _) (ownFrom_below (Nat.le_refl _) (by omega)))
  ⟨⟨by simp;omega,by simpa using k3,k1,k2⟩,hB0⟩
  (fun x=>{ tmps:=#[.int .i64 d,.int .i64 m,.slice ao zs.length c,undef,undef,undef,.pointer (some ⟨w.heap.size,0,none⟩),.pointer (some ⟨w.heap.size+1,0,none⟩),.slice ao zs.length c,.pointer (some ⟨w.heap.size+1+1,0,none⟩),.int .i64 x,.slice ao zs.length c,.int .i64 d,.bool true,.bool false,.bool false,.int .i64 m,.bool (decide ((m:Int)<0)),.bool (decide ((m:Int)<0)),.bool (decide ((m:Int)<0)),.int .i64 m,.bool (decide ((400:Int)<(m:Int))),.bool (decide ((m:Int)<0) || decide ((400:Int)<(m:Int))),.bool (decide ((m:Int)<0) || decide ((400:Int)<(m:Int))),.slice ao zs.length c,.bool true,.bool false,.bool (decide ((m:Int)<0) || decide ((400:Int)<(m:Int))),.int .i64 m,.bool false,undef,.int .i64 m,.slice ao zs.length c,.int .i64 d,.func (.func 354) #[] #[.pointer (some ⟨w.heap.size+1+1+1+1,0,none⟩),.pointer (some ⟨w.heap.size+1+1+1,0,none⟩)],.int .i64 x,undef,undef,undef,undef,undef],defers:=[] }) ?assign ?body ?done ?stop
 case assign =>
  intro l x W K hK
  have hsm:=Oper.semAt_some
  gi_wp2
  exact hK
 case body =>
  rintro l pre x W ⟨⟨hlen,kl,ka,kb⟩,hB⟩ _
  obtain ⟨v,hv⟩:∃ v:Int,(m:Int) - pre.length=v:=⟨_,rfl⟩
  rw [hv] at kl
  have hv1:1≤v:=by omega
  have hv2:v≤400:=by omega
  have HV:Hid _:=hv
  have kl1:=kl.1
  have kl2:=kl.2
  have ka1:=ka.1
  have ka2:=ka.2
  have kb1:=kb.1
  have kb2:=kb.2
  clear hv
  cases he:(v - 1 == 0)
  ·have hne:v≠1:=by intro h;subst h;simp at he
   have hsm:=Oper.semAt_some
   gi_wp2
   exact ⟨KeepsOthers.setCell _ _ _,keep_set W _ (by omega) (by omega),⟨by have:=HV.out;simp;omega,by rw [show (m:Int) - (pre++[x]).length=v - 1 from by have:=HV.out;simp;omega];exact kl.same,ka.other (by omega),kb.other (by omega)⟩,bel_set hB (by omega) _⟩
  ·have hve:v=1:=by have h0:v - 1=0:=(by simpa using he);omega
   have hsm:=Oper.semAt_some
   gi_wp2
   refine ⟨((KeepsOthers.setCell _ _ _).trans (KeepsOthers.setCell _ _ _)).trans (KeepsOthers.setCell _ _ _),⟨rfl,pre,x,rfl,by have:=HV.out;simp;omega,((ka.other (by omega)).same).other (by omega),((kb.other (by omega)).other (by omega)).same⟩,?_⟩
   exact bel_set (bel_set (bel_set hB (by omega) _) (Nat.le_refl _) _) (by omega) _
 case done =>
  rintro D ys W hD rfl ⟨⟨hlen,kl,ka,kb⟩,hB⟩ hK
  have HN:Hid _:=adv_none hm0 hlen
  have ka1:=ka.1
  have ka2:=ka.2
  have kb1:=kb.1
  have kb2:=kb.2
  gi_wp2
  have hK':=(KeepsOthers.setCell (W.setCell ⟨w.heap.size,0,none⟩ (.int .i64 0)) ⟨w.heap.size+1,0,none⟩ (.bool false)).same D _ ((KeepsOthers.setCell W ⟨w.heap.size,0,none⟩ (.int .i64 0)).same D _ hK rfl) rfl
  refine ⟨by simp,.inl ⟨_,_,rfl,run_takeDeferred hK',?_⟩⟩
  have qa:=(((ka.same (u:=.int .i64 0)).other (j:=w.heap.size+1) (u:=.bool false) (by omega)).put (o':=.deferred none) hK' rfl).1
  have qb:=(((kb.other (j:=w.heap.size) (u:=.int .i64 0) (by omega)).same (u:=.bool false)).put (o':=.deferred none) hK' rfl).1
  refine ⟨.tuple #[.int .i64 0,.bool false],?_,by rw [HN.out];rfl,(bel_set (bel_set hB (Nat.le_refl _) _) (by omega) _).trans (belowK_b (w:=w) (Nat.le_refl _) _ D _ _ (by omega) hK' rfl rfl)⟩
  simp [results,Tryz.f338,go_sem,qa,qb]
 case stop =>
  rintro D cd pre W hD hpre ⟨⟨rfl,p,x,rfl,hlen,ka,kb⟩,hB⟩ hK
  have HN:Hid _:=adv_pre hpre hlen
  gi_wp2
  refine ⟨by simp,.inl ⟨_,_,rfl,run_takeDeferred hK,?_⟩⟩
  have qa:=(ka.put (o':=.deferred none) hK rfl).1
  have qb:=(kb.put (o':=.deferred none) hK rfl).1
  refine ⟨.tuple #[.int .i64 x,.bool true],?_,by rw [HN.out];rfl,hB.trans (belowK_b (w:=w) (Nat.le_refl _) W D _ _ (by omega) hK rfl rfl)⟩
  simp [results,Tryz.f338,go_sem,qa,qb]
theorem iAdd_any (d n:Int) (ao:Option Addr) (c:Nat) (zs:List Int) (w:World) (hx:IntsAt w ao zs) (h1:zs.length≤1099511627776) :
  Calls Tryz.prog 338 #[.int .i64 d,.int .i64 n,.slice ao zs.length c] w fun e w'=>e=.returned (.tuple #[.int .i64 ((addV d n zs).getD 0),.bool (addV d n zs).isSome])∧Below w.heap.size w w':=by
 by_cases h:dOk d=false∨n<0∨400<n∨offOk zs=false
 ·rw [addV_no h];exact iAdd_no d n ao c zs w hx h1 h
 ·have hd:dOk d=true:=by cases e:dOk d;exact absurd (.inl e) h;rfl
  have ho:offOk zs=true:=by cases e:offOk zs;exact absurd (.inr (.inr (.inr e))) h;rfl
  obtain ⟨m,rfl⟩:=Int.eq_ofNat_of_zero_le (show 0≤n by omega)
  rw [addV_yes hd (by omega) (by omega) ho,show ((m:Int)).toNat=m from by omega]
  cases m with
  | zero =>
   have hb:=dOk_bd hd
   rw [adv_zero,show 80000 - (((80000 - d).toNat:Nat):Int)=d from by omega]
   exact iAdd_zero d ao c zs w hx h1 hd ho
  | succ m=>exact callsIn_wide.1 (iAdd_loop d (m+1) ao c zs w hx h1 hd ho (by omega) (by omega))
theorem four (w:World) (b:Int) (ao:Option Addr) (k c:Nat) (d:Int):∀ W0,W0=((((w.alloc (.cells #[.int .i64 b] 3)).alloc (.cells #[.int .i64 0] 3)).alloc (.cells #[.slice ao k c] 120)).alloc (.cells #[.int .i64 d] 3)) →
  W0.heap.size=w.heap.size+4∧Below w.heap.size w W0∧Cl W0 w.heap.size (.int .i64 b)∧Cl W0 (w.heap.size+1) (.int .i64 0)∧Cl W0 (w.heap.size+1+1) (.slice ao k c)∧Cl W0 (w.heap.size+1+1+1) (.int .i64 d):=by
 rintro _ rfl
 have z1:=World.size_alloc w (.cells #[.int .i64 b] 3)
 have z2:=World.size_alloc (w.alloc (.cells #[.int .i64 b] 3)) (.cells #[.int .i64 0] 3)
 have z3:=World.size_alloc ((w.alloc (.cells #[.int .i64 b] 3)).alloc (.cells #[.int .i64 0] 3)) (.cells #[.slice ao k c] 120)
 have k1:=Cl.new w (.int .i64 b) 3
 have k2:=Cl.new (w.alloc (.cells #[.int .i64 b] 3)) (.int .i64 0) 3
 have k3:=Cl.new ((w.alloc (.cells #[.int .i64 b] 3)).alloc (.cells #[.int .i64 0] 3)) (.slice ao k c) 120
 have k4:=Cl.new (((w.alloc (.cells #[.int .i64 b] 3)).alloc (.cells #[.int .i64 0] 3)).alloc (.cells #[.slice ao k c] 120)) (.int .i64 d) 3
 rw [z3,z2,z1] at k4
 rw [z2,z1] at k3
 rw [z1] at k2
 refine ⟨?_,?_,((k1.alloc _).alloc _).alloc _,(k2.alloc _).alloc _,k3.alloc _,k4⟩
 ·rw [World.size_alloc,z3,z2,z1]
 ·exact ((two_below w _ _).alloc (by rw [z2,z1];omega) _).alloc (by rw [z3,z2,z1];omega) _
end Go.Proofs.YtomiclakhjncbaaGreatDoor
namespace Go.Proofs.YtomiclakhjncbaaGreatDoor
open Go.RowKit
set_option maxRecDepth 100000
set_option maxHeartbeats 12800000
theorem sAdd_any (d n:Int) (ao:Option Addr) (c:Nat) (zs:List Int) (w:World) (hx:IntsAt w ao zs) (h1:zs.length≤1099511627776) :
  Calls Tryz.prog 264 #[.int .i64 d,.int .i64 n,.slice ao zs.length c] w fun e w'=>e=.returned (.tuple #[.int .i64 ((addV d n zs).getD 0),.bool (addV d n zs).isSome])∧Below w.heap.size w w':=by
 have HX:Hid (IntsAt w ao zs):=hx
 clear hx
 cases hd:dOk d
 ·have HN:Hid _:=addV_no (n:=n) (zs:=zs) (.inl hd)
  go_enter Tryz.func264,Tryz.ntmps264
  go_wp2_with fail
  refine (sDayOk_any _ _).mono ?_
  rintro e w' ⟨rfl,hw⟩
  subst hw
  go_wp2
  go_ret2
  exact ⟨two_eq (by rw [HN.out];rfl) (by rw [HN.out];rfl),Below.refl _ _⟩
 ·cases hn:inB n 0 400
  ·have HN:Hid (addV d n zs=none):=by
     refine addV_no ?_
     by_cases h0:n<0
     ·exact .inr (.inl h0)
     ·by_cases h4:400<n
      ·exact .inr (.inr (.inl h4))
      ·rw [inB_pos (by omega) (by omega)] at hn;cases hn
   go_enter Tryz.func264,Tryz.ntmps264
   go_wp2_with fail
   refine (sDayOk_any _ _).mono ?_
   rintro e w' ⟨rfl,hw⟩
   subst hw
   go_wp2_with fail
   refine (in_any _ _ _ _).mono ?_
   rintro e w' ⟨rfl,hw⟩
   subst hw
   go_wp2
   go_ret2
   exact ⟨two_eq (by rw [HN.out];rfl) (by rw [HN.out];rfl),Below.refl _ _⟩
  ·have hnb:0≤n∧n≤400:=by simpa [inB] using hn
   cases ho:offOk zs
   ·have HN:Hid _:=addV_no (d:=d) (n:=n) (.inr (.inr (.inr ho)))
    go_enter Tryz.func264,Tryz.ntmps264
    go_wp2_with fail
    refine (sDayOk_any _ _).mono ?_
    rintro e w' ⟨rfl,hw⟩
    subst hw
    go_wp2_with fail
    refine (in_any _ _ _ _).mono ?_
    rintro e w' ⟨rfl,hw⟩
    subst hw
    go_wp2_with fail
    refine (sOff_any _ _ zs _ HX.out h1).mono ?_
    rintro e w1 ⟨rfl,b1⟩
    go_wp2
    go_ret2
    exact ⟨two_eq (by rw [HN.out];rfl) (by rw [HN.out];rfl),b1⟩
   ·have HV:Hid _:=addV_yes hd hnb.1 hnb.2 ho
    have hdb:=dOk_bd hd
    go_enter Tryz.func264,Tryz.ntmps264
    go_wp2_with fail
    refine (sDayOk_any _ _).mono ?_
    rintro e w' ⟨rfl,hw⟩
    subst hw
    go_wp2_with fail
    refine (in_any _ _ _ _).mono ?_
    rintro e w' ⟨rfl,hw⟩
    subst hw
    go_wp2_with fail
    refine (sOff_any _ _ zs _ HX.out h1).mono ?_
    rintro e w1 ⟨rfl,b1⟩
    have HX1:Hid (IntsAt w1 ao zs):=IntsAt.below HX.out b1
    go_wp2
    go_loop [0,1] (fun p q=>∃ (f m:Nat),f≤80000∧m≤400∧p=.int .i64 (80000 - f)∧q=.int .i64 m∧adv zs f m=adv zs (80000 - d).toNat n.toNat) (fun p _=>(80000 - intOf p).toNat)
    case atStart=>exact ⟨(80000 - d).toNat,n.toNat,by omega,by omega,val_int (by omega),val_int (by omega),rfl⟩
    case round =>
     obtain ⟨f,m,hf,hm,rfl,rfl,ht⟩:=hrel
     have HT:Hid _:=ht
     clear ht
     obtain ⟨y,hy⟩:∃ y:Int,80000 - (f:Int)=y:=⟨_,rfl⟩
     rw [hy]
     have hy1:0≤y:=by omega
     have hy2:y≤80000:=by omega
     have HY:Hid _:=hy
     cases m with
     | zero =>
      have HE:Hid (addV d n zs=some y):=by rw [Hid,HV.out,← HT.out,adv_zero,hy]
      clear hy
      go_wp2
      go_ret2
      exact ⟨two_eq (by rw [HE.out];rfl) (by rw [HE.out];rfl),b1⟩
     | succ m =>
      have hmp:(0:Int)<((m+1:Nat):Int):=by omega
      cases f with
      | zero =>
       have hye:y=80000:=by omega
       have HE:Hid (addV d n zs=none):=by rw [Hid,HV.out,← HT.out,adv_end]
       have hdk:dOk (y+1)=false:=dOk_neg (by omega)
       clear hy
       go_wp2_with fail
       refine (sDayOk_any _ _).mono ?_
       rintro e w' ⟨rfl,hw⟩
       subst hw
       go_wp2
       go_ret2
       exact ⟨two_eq (by rw [HE.out];rfl) (by rw [HE.out];rfl),b1⟩
      | succ f =>
       have HF:Hid (80000 - (f:Int)=y+1):=by rw [Hid];omega
       have hye:y≤79999:=by omega
       have hdk:dOk (y+1)=true:=dOk_pos (by omega) (by omega)
       cases hw2:wk zs (y+1)
       ·have HR:Hid (adv zs f (m+1)=adv zs (80000 - d).toNat n.toNat):=by rw [Hid,← HT.out,adv_no (by rw [HF.out];exact hw2)]
        clear hy
        go_wp2_with fail
        refine (sDayOk_any _ _).mono ?_
        rintro e w' ⟨rfl,hw⟩
        subst hw
        go_wp2_with fail
        refine (sWorks2_any _ _ _ zs _ HX1.out h1 hdk).mono ?_
        rintro e w' ⟨rfl,hw⟩
        subst hw
        go_wp2
        go_round
        case rel=>exact ⟨f,m+1,by omega,hm,val_int HF.out.symm,rfl,HR.out⟩
        case measure=>simp [intOf];omega
       ·have HR:Hid (adv zs f m=adv zs (80000 - d).toNat n.toNat):=by rw [Hid,← HT.out,adv_yes (by rw [HF.out];exact hw2)]
        clear hy
        go_wp2_with fail
        refine (sDayOk_any _ _).mono ?_
        rintro e w' ⟨rfl,hw⟩
        subst hw
        go_wp2_with fail
        refine (sWorks2_any _ _ _ zs _ HX1.out h1 hdk).mono ?_
        rintro e w' ⟨rfl,hw⟩
        subst hw
        go_wp2
        go_round
        case rel=>exact ⟨f,m,by omega,by omega,val_int HF.out.symm,val_int (by omega),HR.out⟩
        case measure=>simp [intOf];omega
def dueV (d n:Int) (zs:List Int):Int:=(addV d n zs).getD (-1)
theorem dueV_no {d n:Int} {zs:List Int} (h:addV d n zs=none):dueV d n zs = -1:=by rw [dueV,h];rfl
theorem dueV_yes {d n y:Int} {zs:List Int} (h:addV d n zs=some y):dueV d n zs=y:=by rw [dueV,h];rfl
theorem iDue_any (d n:Int) (ao:Option Addr) (c:Nat) (zs:List Int) (w:World) (hx:IntsAt w ao zs) (h1:zs.length≤1099511627776) :
  Calls Tryz.prog 330 #[.int .i64 d,.int .i64 n,.slice ao zs.length c] w fun e w'=>e=.returned (.int .i64 (dueV d n zs))∧Below w.heap.size w w':=by
 cases h:addV d n zs with
 | none =>
  have HV:Hid _:=dueV_no h
  have HC:Hid (Calls Tryz.prog 338 #[.int .i64 d,.int .i64 n,.slice ao zs.length c] w fun e w'=>e=.returned (.tuple #[.int .i64 0,.bool false])∧Below w.heap.size w w'):=by
   have g:=iAdd_any d n ao c zs w hx h1
   rw [h] at g
   exact g
  clear hx
  go_enter Tryz.func330,Tryz.ntmps330
  go_wp2_with fail
  refine Calls.mono HC.out ?_
  rintro e w1 ⟨rfl,b1⟩
  go_wp2
  go_ret
  exact ⟨one_int HV.out.symm,b1⟩
 | some y =>
  have HV:Hid _:=dueV_yes h
  have HC:Hid (Calls Tryz.prog 338 #[.int .i64 d,.int .i64 n,.slice ao zs.length c] w fun e w'=>e=.returned (.tuple #[.int .i64 y,.bool true])∧Below w.heap.size w w'):=by
   have g:=iAdd_any d n ao c zs w hx h1
   rw [h] at g
   exact g
  clear hx
  go_enter Tryz.func330,Tryz.ntmps330
  go_wp2_with fail
  refine Calls.mono HC.out ?_
  rintro e w1 ⟨rfl,b1⟩
  go_wp2
  go_ret
  exact ⟨one_int HV.out.symm,b1⟩
theorem sDue_any (d n:Int) (ao:Option Addr) (c:Nat) (zs:List Int) (w:World) (hx:IntsAt w ao zs) (h1:zs.length≤1099511627776) :
  Calls Tryz.prog 222 #[.int .i64 d,.int .i64 n,.slice ao zs.length c] w fun e w'=>e=.returned (.int .i64 (dueV d n zs))∧Below w.heap.size w w':=by
 cases h:addV d n zs with
 | none =>
  have HV:Hid _:=dueV_no h
  have HC:Hid (Calls Tryz.prog 264 #[.int .i64 d,.int .i64 n,.slice ao zs.length c] w fun e w'=>e=.returned (.tuple #[.int .i64 0,.bool false])∧Below w.heap.size w w'):=by
   have g:=sAdd_any d n ao c zs w hx h1
   rw [h] at g
   exact g
  clear hx
  go_enter Tryz.func222,Tryz.ntmps222
  go_wp2_with fail
  refine Calls.mono HC.out ?_
  rintro e w1 ⟨rfl,b1⟩
  go_wp2
  go_ret
  exact ⟨one_int HV.out.symm,b1⟩
 | some y =>
  have HV:Hid _:=dueV_yes h
  have HC:Hid (Calls Tryz.prog 264 #[.int .i64 d,.int .i64 n,.slice ao zs.length c] w fun e w'=>e=.returned (.tuple #[.int .i64 y,.bool true])∧Below w.heap.size w w'):=by
   have g:=sAdd_any d n ao c zs w hx h1
   rw [h] at g
   exact g
  clear hx
  go_enter Tryz.func222,Tryz.ntmps222
  go_wp2_with fail
  refine Calls.mono HC.out ?_
  rintro e w1 ⟨rfl,b1⟩
  go_wp2
  go_ret
  exact ⟨one_int HV.out.symm,b1⟩
end Go.Proofs.YtomiclakhjncbaaGreatDoor
namespace Go.Proofs.YtomiclakhjncbaaGreatDoor
set_option maxRecDepth 100000
set_option maxHeartbeats 12800000
def toIss (c:Cs) (x:Int):List En:=if x=0 then [] else [(c.acq,c.iss,c.cur,x)]
def fromIss (c:Cs) (x:Int):List En:=if x=0 then [] else [(c.iss,c.acq,c.cur,x)]
def endC (c:Cs) (x:Int):Cs:=⟨c.iss,c.acq,c.cur,c.am,7,c.rsn,0,c.bk+x,c.fee,c.cop,c.sta,-1⟩
def loser (c:Cs) (x:Int):Int:=if c.cl≤2*x then c.acq else c.iss
def ruleC (c:Cs) (x:Int):Cs:=⟨c.iss,c.acq,c.cur,c.am,7,c.rsn,0,c.bk+x,c.fee+50000,c.cop,c.sta,-1⟩
def ruleE (c:Cs) (x:Int):List En:=toIss c x++[(loser c x,9999,c.cur,50000)]
def givenC (c:Cs):Cs:=⟨c.iss,c.acq,c.cur,c.am,2,c.rsn,c.cl,c.bk,c.fee,true,c.sta,-1⟩
def ofSt (st k:Int):Bool :=
 if k=0 then decide (st=0) else if k=1 then decide (st=1) else if k=2 then decide (0≤st∧st≤2) else if k=3 then decide (st=3) else if k=4 then decide (st=4)
 else if k=5 then decide (st=5) else if k=6 then decide (st=5) else if k=7 then decide (st=6) else if k=8 then decide (st=1∨3≤st∧st≤6) else if k=9 then decide (st=0∨st=2) else false
theorem of_cases {st k:Int} (h:ofSt st k=true):(k=0∧st=0)∨(k=1∧st=1)∨(k=2∧(st=0∨st=1∨st=2))∨(k=3∧st=3)∨(k=4∧st=4)∨(k=5∧st=5)∨(k=6∧st=5)∨(k=7∧st=6)∨(k=8∧(st=1∨st=3∨st=4∨st=5∨st=6))∨(k=9∧(st=0∨st=2)):=by
 unfold ofSt at h
 repeat' split at h
 all_goals simp at h
 all_goals omega
def copied (c:Cs) (t:Int):Bool:=c.cop || (decide (c.st=1) && lateV t c.due)
def chargeV (c:Cs) (a:Ac) (t:Int) (zs:List Int):Int :=
 if rOk a.rsn=false∨(rProof a.rsn=true∧copied c t=false) then 3
 else if ¬ (1≤a.am∧a.am≤c.am)∨(a.am<c.am∧rPart a.rsn=false) then 2
 else if lateV t (dueV c.sta (rDays a.rsn) zs)=true then 4 else 0
def codeV (c:Cs) (a:Ac) (t:Int) (zs:List Int):Int :=
 if a.kind=2 then chargeV c a t zs
 else if a.kind=1∨a.kind=6 then (if lateV t c.due=true then 4 else 0)
 else if a.kind=3∨a.kind=4 then (if lateV t c.due=true then 4 else if 1≤a.am∧a.am≤c.cl then 0 else 2)
 else if a.kind=7 then (if 0≤a.am∧a.am≤c.cl then 0 else 2)
 else if a.kind=8 then (if lateV t c.due=true then 0 else 4) else 0
def expireC (c:Cs):Cs:=if c.st=1 then givenC c else if c.st=5 then endC c c.cl else if c.st=6 then ruleC c (c.cl / 2) else endC c 0
def expireE (c:Cs):List En:=if c.st=1 then [] else if c.st=5 then toIss c c.cl else if c.st=6 then ruleE c (c.cl / 2) else []
def nextC (c:Cs) (a:Ac) (t:Int) (zs:List Int):Cs :=
 if a.kind=0 then ⟨c.iss,c.acq,c.cur,c.am,1,c.rsn,c.cl,c.bk,c.fee,c.cop,c.sta,dueV t 20 zs⟩
 else if a.kind=1 then givenC c
 else if a.kind=2 then ⟨c.iss,c.acq,c.cur,c.am,3,a.rsn,a.am,a.am,c.fee,c.cop,c.sta,dueV t 30 zs⟩
 else if a.kind=3 then ⟨c.iss,c.acq,c.cur,c.am,4,c.rsn,a.am,c.bk - a.am,c.fee,c.cop,c.sta,dueV t 30 zs⟩
 else if a.kind=4 then ⟨c.iss,c.acq,c.cur,c.am,5,c.rsn,a.am,c.bk,c.fee,c.cop,c.sta,dueV t 15 zs⟩
 else if a.kind=5 then endC c c.cl
 else if a.kind=6 then ⟨c.iss,c.acq,c.cur,c.am,6,c.rsn,c.cl,c.bk,c.fee,c.cop,c.sta,dueV t 60 zs⟩
 else if a.kind=7 then ruleC c a.am
 else if a.kind=8 then expireC c
 else ⟨c.iss,c.acq,c.cur,c.am,7,c.rsn,c.cl,c.bk,c.fee,c.cop,c.sta,-1⟩
def nextE (c:Cs) (a:Ac):List En :=
 if a.kind=2 then toIss c a.am else if a.kind=3 then fromIss c a.am else if a.kind=5 then toIss c c.cl else if a.kind=7 then ruleE c a.am else if a.kind=8 then expireE c else []
def dayOkAt (c:Cs) (t:Int) (zs:List Int):Bool:=caseOk c && (dOk t && (decide (c.sta≤t) && offOk zs))
def doV (c:Cs) (a:Ac) (t:Int) (zs:List Int):Int :=
 if dayOkAt c t zs=false then 5 else if ofSt c.st a.kind=false then 1 else if codeV c a t zs≠0 then codeV c a t zs else if caseOk (nextC c a t zs)=true then 0 else 1
def doC (c:Cs) (a:Ac) (t:Int) (zs:List Int):Cs:=if doV c a t zs=0 then nextC c a t zs else c
def doE (c:Cs) (a:Ac) (t:Int) (zs:List Int):List En:=if doV c a t zs=0 then nextE c a else []
theorem toIss_len (c:Cs) (n:Int):(toIss c n).length≤1:=by unfold toIss;split <;> simp
theorem fromIss_len (c:Cs) (n:Int):(fromIss c n).length≤1:=by unfold fromIss;split <;> simp
theorem ruleE_len (c:Cs) (n:Int):(ruleE c n).length≤2:=by
 have:=toIss_len c n
 unfold ruleE;simp;omega
theorem expireE_len (c:Cs):(expireE c).length≤2:=by
 have h1:=toIss_len c c.cl
 have h2:=ruleE_len c (c.cl / 2)
 unfold expireE
 split
 ·simp
 ·split
  ·omega
  ·split
   ·omega
   ·simp
theorem nextE_len (c:Cs) (a:Ac):(nextE c a).length≤2:=by
 have h1:=toIss_len c a.am
 have h2:=fromIss_len c a.am
 have h3:=toIss_len c c.cl
 have h4:=ruleE_len c a.am
 have h5:=expireE_len c
 unfold nextE
 split
 ·omega
 ·split
  ·omega
  ·split
   ·omega
   ·split
    ·omega
    ·split
     ·omega
     ·simp
theorem doE_len (c:Cs) (a:Ac) (t:Int) (zs:List Int):(doE c a t zs).length≤2:=by
 unfold doE;split
 ·exact nextE_len c a
 ·simp
theorem chargeV_bd (c:Cs) (a:Ac) (t:Int) (zs:List Int):0≤chargeV c a t zs∧chargeV c a t zs≤4:=by
 unfold chargeV
 split
 ·omega
 ·split
  ·omega
  ·split <;> omega
theorem codeV_bd (c:Cs) (a:Ac) (t:Int) (zs:List Int):0≤codeV c a t zs∧codeV c a t zs≤4:=by
 have h:=chargeV_bd c a t zs
 unfold codeV
 split
 ·exact h
 ·split
  ·split <;> omega
  ·split
   ·split
    ·omega
    ·split <;> omega
   ·split
    ·split <;> omega
    ·split
     ·split <;> omega
     ·omega
theorem doV_bd (c:Cs) (a:Ac) (t:Int) (zs:List Int):0≤doV c a t zs∧doV c a t zs≤5:=by
 have h:=codeV_bd c a t zs
 unfold doV
 split
 ·omega
 ·split
  ·omega
  ·split
   ·omega
   ·split <;> omega
end Go.Proofs.YtomiclakhjncbaaGreatDoor
namespace Go.Proofs.YtomiclakhjncbaaGreatDoor
open Go.RowKit
set_option maxRecDepth 100000
set_option maxHeartbeats 12800000
theorem in_isA {x a b:Int} {q:Bool} (h:inB x a b=q) (w:World):Calls Tryz.prog 134 #[.int .i64 x,.int .i64 a,.int .i64 b] w fun e w'=>e=.returned (.bool q)∧w'=w:=by rw [← h];exact in_any x a b w
theorem sAuthOk_any (a:Au) (w:World) (hl:a.ref.length≤1099511627776) :
  Calls Tryz.prog 179 #[auv a] w fun e w'=>e=.returned (.bool (auOk a))∧Below w.heap.size w w':=by
 obtain ⟨r,i,c,m,d,u⟩:=a
 simp only [auv] at hl ⊢
 have HV:Hid (auOk ⟨r,i,c,m,d,u⟩=((decide (r.length=12) && within 33 126 r) && (acctOk i && (decide (0≤digs c) && (decide (1≤m∧m≤100000000000) && dOk d))))):=rfl
 obtain ⟨W,hW⟩:∃ W,w.alloc (.cells #[.string ⟨r.toArray⟩,.int .i64 i,.int .i64 c,.int .i64 m,.int .i64 d,.bool u] 107)=W:=⟨_,rfl⟩
 have bW:Below w.heap.size w W:=hW ▸ (Below.refl _ _).alloc (Nat.le_refl _) _
 have HBW:Hid (Below w.heap.size w W):=bW
 have c0:W.cell? ⟨w.heap.size,0,none⟩=some (.string ⟨r.toArray⟩):=by rw [← hW];simp
 have c1:W.cell? ⟨w.heap.size,1,none⟩=some (.int .i64 i):=by rw [← hW];simp
 have c2:W.cell? ⟨w.heap.size,2,none⟩=some (.int .i64 c):=by rw [← hW];simp
 have c3:W.cell? ⟨w.heap.size,3,none⟩=some (.int .i64 m):=by rw [← hW];simp
 have c4:W.cell? ⟨w.heap.size,4,none⟩=some (.int .i64 d):=by rw [← hW];simp
 have lW:w.heap.size<W.heap.size:=by rw [← hW];simp
 have HW:Hid _:=hW
 clear hW bW
 go_enter Tryz.func179,Tryz.ntmps179
 go_wp2
 rw [HW.out]
 clear HW
 go_loopw [3] (fun i wr=>∃ k:Nat,k≤r.length∧i=.int .i64 k∧within 33 126 r=within 33 126 (r.drop k)∧wr=W) (fun i _=>r.length - (intOf i).toNat)
 case atStart=>exact ⟨0,Nat.zero_le _,rfl,rfl,rfl⟩
 case round =>
  obtain ⟨k,hk,rfl,ht,hwr⟩:=hrel
  subst hwr
  by_cases hlt:k<r.length
  ·have hki:(k:Int)<(r.length:Int):=by omega
   have hs:=within_step 33 126 r k hlt
   obtain ⟨b,hb⟩:∃ b,(⟨r.toArray⟩:ByteArray)[k]'(by rw [ba_size];exact hlt)=b:=⟨_,rfl⟩
   rw [(byte_at r k hlt).trans hb,← in_byte b 33 126] at hs
   have HS:Hid _:=ht.trans hs
   have hwc:=wrap_byte b
   clear hs ht
   cases hin:inB (b.toNat:Int) 33 126
   ·have HN:Hid (within 33 126 r=false):=by rw [Hid,HS.out];simp [hin]
    clear HS
    go_wp2_with fail
    refine (in_isA hin _).mono ?_
    rintro e w1 ⟨rfl,hw1⟩
    subst hw1
    go_wp2
    go_ret
    exact ⟨one_bool (by rw [HV.out,HN.out];simp),HBW.out⟩
   ·have HY:Hid (within 33 126 r=within 33 126 (r.drop (k+1))):=by rw [Hid,HS.out];simp [hin]
    clear HS
    go_wp2_with fail
    refine (in_isA hin _).mono ?_
    rintro e w1 ⟨rfl,hw1⟩
    subst hw1
    go_wp2
    go_roundw
    case rel=>exact ⟨k+1,by omega,by go_num,HY.out,trivial⟩
    case measure=>simp [intOf];omega
  ·have hke:k=r.length:=by omega
   subst hke
   have HE:Hid (within 33 126 r=true):=by rw [Hid,ht,within_end]
   clear ht
   by_cases h12:r.length=12
   ·have hq:((r.length:Int) == 12)=true:=by simp [h12]
    have HV1:Hid (auOk ⟨r,i,c,m,d,u⟩=(acctOk i && (decide (0≤digs c) && (decide (1≤m∧m≤100000000000) && dOk d)))):=by rw [Hid,HV.out,HE.out,decide_eq_true h12];rfl
    clear h12 HV HE
    cases hi:acctOk i
    ·go_wp2_with fail
     refine (acct_is hi _).mono ?_
     rintro e w1 ⟨rfl,hw1⟩
     subst hw1
     go_wp2
     go_ret
     exact ⟨one_bool (by rw [HV1.out,hi];rfl),HBW.out⟩
    ·go_wp2_with fail
     refine (acct_is hi _).mono ?_
     rintro e w1 ⟨rfl,hw1⟩
     subst hw1
     go_wp2_with fail
     refine (sDigits_any c _).mono ?_
     rintro e w2 ⟨rfl,b2⟩
     have e3:w2.cell? ⟨w.heap.size,3,none⟩=some (.int .i64 m):=(b2.cell (p:=⟨w.heap.size,3,none⟩) lW).trans c3
     have e4:w2.cell? ⟨w.heap.size,4,none⟩=some (.int .i64 d):=(b2.cell (p:=⟨w.heap.size,4,none⟩) lW).trans c4
     have HB:Hid (Below w.heap.size w w2):=HBW.out.trans (b2.mono HBW.out.size)
     rw [hi] at HV1
     clear c0 c1 c2 c3 c4 b2 HBW
     by_cases hd:0≤digs c
     ·cases hin:inB m 1 100000000000
      ·have HVV:Hid (auOk ⟨r,i,c,m,d,u⟩=false):=by
         have:decide (1≤m∧m≤100000000000)=false:=hin
         rw [Hid,HV1.out,decide_eq_true hd,this];rfl
       clear HV1
       generalize digs c=g at hd
       go_wp2_with fail
       refine (in_isA hin _).mono ?_
       rintro e w3 ⟨rfl,hw3⟩
       subst hw3
       go_wp2
       go_ret
       exact ⟨one_bool HVV.out.symm,HB.out⟩
      ·have HVV:Hid (auOk ⟨r,i,c,m,d,u⟩=dOk d):=by
         have:decide (1≤m∧m≤100000000000)=true:=hin
         rw [Hid,HV1.out,decide_eq_true hd,this];rfl
       clear HV1
       generalize digs c=g at hd
       go_wp2_with fail
       refine (in_isA hin _).mono ?_
       rintro e w3 ⟨rfl,hw3⟩
       subst hw3
       go_wp2_with fail
       refine (sDayOk_any d _).mono ?_
       rintro e w3 ⟨rfl,hw3⟩
       subst hw3
       generalize dOk d=q at HVV
       go_wp2
       go_ret
       exact ⟨one_bool HVV.out.symm,HB.out⟩
     ·have HVV:Hid (auOk ⟨r,i,c,m,d,u⟩=false):=by rw [Hid,HV1.out,decide_eq_false hd];rfl
      clear HV1
      generalize digs c=g at hd
      go_wp2
      go_ret
      exact ⟨one_bool HVV.out.symm,HB.out⟩
   ·have hq:((r.length:Int) == 12)=false:=by simp;omega
    have HV1:Hid (auOk ⟨r,i,c,m,d,u⟩=false):=by rw [Hid,HV.out,decide_eq_false h12];rfl
    clear h12 HV HE
    go_wp2
    go_ret
    exact ⟨one_bool HV1.out.symm,HBW.out⟩
theorem sScore_any (a:Au) (iss cur am day:Int) (w:World) (hl:a.ref.length≤1099511627776) (_w3:(Lit.int .i64 am).wf=true) (w4:(Lit.int .i64 day).wf=true) :
  Calls Tryz.prog 218 #[auv a,.int .i64 iss,.int .i64 cur,.int .i64 am,.int .i64 day] w fun e w'=>e=.returned (.int .i64 (scoreV a iss cur am day))∧Below w.heap.size w w':=by
 have hday:=wf_bd w4
 have HV:=can_is a iss cur am day
 obtain ⟨q,hq⟩:∃ q,auOk a=q:=⟨_,rfl⟩
 have HO:Hid (∀ u,Calls Tryz.prog 179 #[auv a] u fun e w'=>e=.returned (.bool q)∧Below u.heap.size u w'):=fun u=>by rw [← hq];exact sAuthOk_any a u hl
 have HN:Hid (canV a iss cur am day=false→scoreV a iss cur am day = -1):=score_no
 have HY:Hid (canV a iss cur am day=true→scoreV a iss cur am day=8*absV (am - a.am)+day - a.day):=score_yes
 obtain ⟨W,hW⟩:∃ W,W=w.alloc (.cells #[.string ⟨a.ref.toArray⟩,.int .i64 a.iss,.int .i64 a.cur,.int .i64 a.am,.int .i64 a.day,.bool a.used] 107):=⟨_,rfl⟩
 have B:AuB w.heap.size a W:=by rw [hW];exact AuB.new w a _
 have HBB:Hid (AuB w.heap.size a W):=B
 have bW:Below w.heap.size w W:=by rw [hW];exact (Below.refl _ _).alloc (Nat.le_refl _) _
 have HBW:Hid (Below w.heap.size w W):=bW
 clear bW _w3 w4
 cases q
 ·have HE:Hid (scoreV a iss cur am day = -1):=HN.out (by rw [HV,hq];rfl)
  clear HV HN HY hq
  obtain ⟨r,i,c,m,d,u⟩:=a
  unfold auv at HO ⊢
  simp only at hW HO  ⊢
  have HW:Hid _:=hW
  obtain ⟨f0,f1,f2,f3,f4,f5⟩:=B
  clear hW
  go_enter Tryz.func218,Tryz.ntmps218
  go_upto_region 1 with fail
  rw [← HW.out]
  go_wp2_with fail
  refine (HO.out _).mono ?_
  rintro e u1 ⟨rfl,b1⟩
  have B1:=HBB.out.below b1
  have HB1:Hid (Below w.heap.size w u1):=next HBW.out b1
  clear b1 f0 f1 f2 f3 f4 f5
  obtain ⟨f0,f1,f2,f3,f4,f5⟩:=B1
  simp only at f0 f1 f2 f3 f4 f5
  go_wp2
  go_ret
  exact ⟨one_int HE.out.symm,HB1.out⟩
 obtain ⟨-,-,-,hmm,hdd⟩:=auOk_parts hq
 have hdb:=dOk_bd hdd
 have HTB:Hid (timeOk a day=true→a.day≤day∧day≤a.day+7):=fun h=>of_decide_eq_true h
 have HSB:Hid (sumOk a am=true→1≤am∧am≤a.am+a.am / 10):=fun h=>of_decide_eq_true h
 have HT:Hid (∀ u,Calls Tryz.prog 134 #[.int .i64 day,.int .i64 a.day,.int .i64 (a.day+7)] u fun e w'=>e=.returned (.bool (timeOk a day))∧w'=u):=fun u=>in_any day a.day (a.day+7) u
 have HS:Hid (∀ u,Calls Tryz.prog 134 #[.int .i64 am,.int .i64 1,.int .i64 (a.am+a.am / 10)] u fun e w'=>e=.returned (.bool (sumOk a am))∧w'=u):=fun u=>in_any am 1 (a.am+a.am / 10) u
 have hq10:a.am.tdiv 10=a.am / 10:=Int.tdiv_eq_ediv_of_nonneg (by omega)
 rw [hq,Bool.true_and] at HV
 clear hq hdd
 cases hu:a.used
 ·rw [hu,Bool.not_false,Bool.true_and] at HV
  cases hi:(a.iss != iss)
  ·have hi':decide (a.iss=iss)=true:=decide_eq_true (by simpa using hi)
   rw [hi',Bool.true_and] at HV
   cases hcu:(a.cur != cur)
   ·have hc':decide (a.cur=cur)=true:=decide_eq_true (by simpa using hcu)
    rw [hc',Bool.true_and] at HV
    cases ht:timeOk a day
    ·have HE:Hid (scoreV a iss cur am day = -1):=HN.out (by rw [HV,ht];rfl)
     rw [ht] at HT
     clear HV HN HY ht HS HTB HSB hi' hc' hq10
     obtain ⟨r,i,c,m,d,u⟩:=a
     unfold auv at HO ⊢
     simp only at hW HO HT hu hi hcu hmm hdb ⊢
     subst hu
     have HW:Hid _:=hW
     obtain ⟨f0,f1,f2,f3,f4,f5⟩:=B
     clear hW
     go_enter Tryz.func218,Tryz.ntmps218
     go_upto_region 1 with fail
     rw [← HW.out]
     go_wp2_with fail
     refine (HO.out _).mono ?_
     rintro e u1 ⟨rfl,b1⟩
     have B1:=HBB.out.below b1
     have HB1:Hid (Below w.heap.size w u1):=next HBW.out b1
     clear b1 f0 f1 f2 f3 f4 f5
     obtain ⟨f0,f1,f2,f3,f4,f5⟩:=B1
     simp only at f0 f1 f2 f3 f4 f5
     go_wp2_with fail
     refine (HT.out _).mono ?_
     rintro e u2 ⟨rfl,hu2⟩
     subst hu2
     go_wp2
     go_ret
     exact ⟨one_int HE.out.symm,HB1.out⟩
    ·rw [ht,Bool.true_and] at HV
     rw [ht] at HT
     have htb:=HTB.out ht
     cases hs:sumOk a am
     ·have HE:Hid (scoreV a iss cur am day = -1):=HN.out (by rw [HV,hs])
      rw [hs] at HS
      clear HV HN HY ht HTB HSB hi' hc' hs htb
      obtain ⟨tt,htt⟩:∃ t,a.am / 10=t:=⟨_,rfl⟩
      have ht1:0≤tt∧tt≤10000000000:=by omega
      rw [htt] at HS hq10
      clear htt
      obtain ⟨r,i,c,m,d,u⟩:=a
      unfold auv at HO ⊢
      simp only at hW HO HT HS hu hi hcu hmm hdb hq10 ⊢
      subst hu
      have HW:Hid _:=hW
      obtain ⟨f0,f1,f2,f3,f4,f5⟩:=B
      clear hW
      go_enter Tryz.func218,Tryz.ntmps218
      go_upto_region 1 with fail
      rw [← HW.out]
      go_wp2_with fail
      refine (HO.out _).mono ?_
      rintro e u1 ⟨rfl,b1⟩
      have B1:=HBB.out.below b1
      have HB1:Hid (Below w.heap.size w u1):=next HBW.out b1
      clear b1 f0 f1 f2 f3 f4 f5
      obtain ⟨f0,f1,f2,f3,f4,f5⟩:=B1
      simp only at f0 f1 f2 f3 f4 f5
      go_wp2_with fail
      refine (HT.out _).mono ?_
      rintro e u2 ⟨rfl,hu2⟩
      subst hu2
      go_wp2_with fail
      refine (HS.out _).mono ?_
      rintro e u2 ⟨rfl,hu2⟩
      subst hu2
      go_wp2
      go_ret
      exact ⟨one_int HE.out.symm,HB1.out⟩
     ·have hsb:=HSB.out hs
      rw [hs] at HS
      have HEE:Hid (scoreV a iss cur am day=8*absV (am - a.am)+day - a.day):=by rw [Hid,HY.out (by rw [HV,hs])]
      clear HV HN HY ht HTB HSB hi' hc' hs
      obtain ⟨tt,htt⟩:∃ t,a.am / 10=t:=⟨_,rfl⟩
      have ht1:0≤tt∧tt≤10000000000:=by omega
      rw [htt] at HS hq10 hsb
      clear htt
      by_cases hng:am - a.am<0
      ·have HE:Hid (scoreV a iss cur am day=8 * (-(am - a.am))+day - a.day):=by rw [Hid,HEE.out,absV,if_pos hng]
       clear HEE
       obtain ⟨r,i,c,m,d,u⟩:=a
       unfold auv at HO ⊢
       simp only at hW HO HT HS HE hu hi hcu hmm hdb htb hsb hq10 hng ⊢
       subst hu
       have HW:Hid _:=hW
       obtain ⟨f0,f1,f2,f3,f4,f5⟩:=B
       clear hW
       go_enter Tryz.func218,Tryz.ntmps218
       go_upto_region 1 with fail
       rw [← HW.out]
       go_wp2_with fail
       refine (HO.out _).mono ?_
       rintro e u1 ⟨rfl,b1⟩
       have B1:=HBB.out.below b1
       have HB1:Hid (Below w.heap.size w u1):=next HBW.out b1
       clear b1 f0 f1 f2 f3 f4 f5
       obtain ⟨f0,f1,f2,f3,f4,f5⟩:=B1
       simp only at f0 f1 f2 f3 f4 f5
       go_wp2_with fail
       refine (HT.out _).mono ?_
       rintro e u2 ⟨rfl,hu2⟩
       subst hu2
       go_wp2_with fail
       refine (HS.out _).mono ?_
       rintro e u2 ⟨rfl,hu2⟩
       subst hu2
       go_wp2
       go_ret
       exact ⟨one_int HE.out.symm,HB1.out⟩
      ·have HE:Hid (scoreV a iss cur am day=8 * (am - a.am)+day - a.day):=by rw [Hid,HEE.out,absV,if_neg hng]
       clear HEE
       obtain ⟨r,i,c,m,d,u⟩:=a
       unfold auv at HO ⊢
       simp only at hW HO HT HS HE hu hi hcu hmm hdb htb hsb hq10 hng ⊢
       subst hu
       have HW:Hid _:=hW
       obtain ⟨f0,f1,f2,f3,f4,f5⟩:=B
       clear hW
       go_enter Tryz.func218,Tryz.ntmps218
       go_upto_region 1 with fail
       rw [← HW.out]
       go_wp2_with fail
       refine (HO.out _).mono ?_
       rintro e u1 ⟨rfl,b1⟩
       have B1:=HBB.out.below b1
       have HB1:Hid (Below w.heap.size w u1):=next HBW.out b1
       clear b1 f0 f1 f2 f3 f4 f5
       obtain ⟨f0,f1,f2,f3,f4,f5⟩:=B1
       simp only at f0 f1 f2 f3 f4 f5
       go_wp2_with fail
       refine (HT.out _).mono ?_
       rintro e u2 ⟨rfl,hu2⟩
       subst hu2
       go_wp2_with fail
       refine (HS.out _).mono ?_
       rintro e u2 ⟨rfl,hu2⟩
       subst hu2
       go_wp2
       go_ret
       exact ⟨one_int HE.out.symm,HB1.out⟩
   ·have hc':decide (a.cur=cur)=false:=decide_eq_false (by simpa using hcu)
    have HE:Hid (scoreV a iss cur am day = -1):=HN.out (by rw [HV,hc'];rfl)
    clear HV HN HY HT HS HTB HSB hi' hc' hq10
    obtain ⟨r,i,c,m,d,u⟩:=a
    unfold auv at HO ⊢
    simp only at hW HO hu hi hcu hmm hdb ⊢
    subst hu
    have HW:Hid _:=hW
    obtain ⟨f0,f1,f2,f3,f4,f5⟩:=B
    clear hW
    go_enter Tryz.func218,Tryz.ntmps218
    go_upto_region 1 with fail
    rw [← HW.out]
    go_wp2_with fail
    refine (HO.out _).mono ?_
    rintro e u1 ⟨rfl,b1⟩
    have B1:=HBB.out.below b1
    have HB1:Hid (Below w.heap.size w u1):=next HBW.out b1
    clear b1 f0 f1 f2 f3 f4 f5
    obtain ⟨f0,f1,f2,f3,f4,f5⟩:=B1
    simp only at f0 f1 f2 f3 f4 f5
    go_wp2
    go_ret
    exact ⟨one_int HE.out.symm,HB1.out⟩
  ·have hi':decide (a.iss=iss)=false:=decide_eq_false (by simpa using hi)
   have HE:Hid (scoreV a iss cur am day = -1):=HN.out (by rw [HV,hi'];rfl)
   clear HV HN HY HT HS HTB HSB hi' hq10
   obtain ⟨r,i,c,m,d,u⟩:=a
   unfold auv at HO ⊢
   simp only at hW HO hu hi hmm hdb ⊢
   subst hu
   have HW:Hid _:=hW
   obtain ⟨f0,f1,f2,f3,f4,f5⟩:=B
   clear hW
   go_enter Tryz.func218,Tryz.ntmps218
   go_upto_region 1 with fail
   rw [← HW.out]
   go_wp2_with fail
   refine (HO.out _).mono ?_
   rintro e u1 ⟨rfl,b1⟩
   have B1:=HBB.out.below b1
   have HB1:Hid (Below w.heap.size w u1):=next HBW.out b1
   clear b1 f0 f1 f2 f3 f4 f5
   obtain ⟨f0,f1,f2,f3,f4,f5⟩:=B1
   simp only at f0 f1 f2 f3 f4 f5
   go_wp2
   go_ret
   exact ⟨one_int HE.out.symm,HB1.out⟩
 ·have HE:Hid (scoreV a iss cur am day = -1):=HN.out (by rw [HV,hu];rfl)
  clear HV HN HY HT HS HTB HSB hq10
  obtain ⟨r,i,c,m,d,u⟩:=a
  unfold auv at HO ⊢
  simp only at hW HO hu hmm hdb ⊢
  subst hu
  have HW:Hid _:=hW
  obtain ⟨f0,f1,f2,f3,f4,f5⟩:=B
  clear hW
  go_enter Tryz.func218,Tryz.ntmps218
  go_upto_region 1 with fail
  rw [← HW.out]
  go_wp2_with fail
  refine (HO.out _).mono ?_
  rintro e u1 ⟨rfl,b1⟩
  have B1:=HBB.out.below b1
  have HB1:Hid (Below w.heap.size w u1):=next HBW.out b1
  clear b1 f0 f1 f2 f3 f4 f5
  obtain ⟨f0,f1,f2,f3,f4,f5⟩:=B1
  simp only at f0 f1 f2 f3 f4 f5
  go_wp2
  go_ret
  exact ⟨one_int HE.out.symm,HB1.out⟩
def scA (az:List Au) (iss cur am day:Int) (k:Nat):Int:=scoreV (auAt az k) iss cur am day
def BestAt (az:List Au) (iss cur am day x:Int):Prop:=(az.length≤100∧Best (scA az iss cur am day) az.length x)∨(100<az.length∧x = -1)
theorem bestAt_one {az:List Au} {iss cur am day x y:Int} (h:BestAt az iss cur am day x) (g:BestAt az iss cur am day y):x=y:=by
 rcases h with ⟨h1,h⟩ | ⟨h1,rfl⟩
 ·rcases g with ⟨_,g⟩ | ⟨g1,_⟩
  ·exact best_one h g
  ·omega
 ·rcases g with ⟨g1,_⟩ | ⟨_,rfl⟩
  ·omega
  ·rfl
theorem sBest_any (ao:Option Addr) (cap:Nat) (az:List Au) (iss cur am day:Int) (w:World) (hz:AuthsAt w ao az) (hn:az.length≤1048576) (hd:∀ a ∈ az,a.ref.length≤1099511627776) (w3:(Lit.int .i64 am).wf=true) (w4:(Lit.int .i64 day).wf=true) :
  Calls Tryz.prog 180 #[.slice ao az.length cap,.int .i64 iss,.int .i64 cur,.int .i64 am,.int .i64 day] w fun e w'=>∃ x,e=.returned (.int .i64 x)∧BestAt az iss cur am day x∧Below w.heap.size w w':=by
 by_cases hb:100<az.length
 ·have hb':(100:Int)<(az.length:Int):=by omega
  have h0:(0:Int)<(az.length:Int):=by omega
  go_enter Tryz.func180,Tryz.ntmps180
  go_wp2
  refine wp_loop_rounds 1 ?_
  rw [rounds_succ]
  go_wp2
  go_ret
  exact ⟨_,rfl,.inr ⟨hb,rfl⟩,Below.refl _ _⟩
 have hb':(az.length:Int)≤100:=by omega
 have HSC:Hid (∀ k,k<az.length→∀ u,Calls Tryz.prog 218 #[auv (auAt az k),.int .i64 iss,.int .i64 cur,.int .i64 am,.int .i64 day] u fun e w'=>e=.returned (.int .i64 (scA az iss cur am day k))∧Below u.heap.size u w'):=fun k hk u=>sScore_any _ iss cur am day u (hd _ (auAt_mem hk)) w3 w4
 obtain ⟨sc,hsc⟩:∃ f,scA az iss cur am day=f:=⟨_,rfl⟩
 have HBA:Hid (∀ x,Best sc az.length x→BestAt az iss cur am day x):=fun x hx=>.inl ⟨by omega,by rw [hsc];exact hx⟩
 rw [hsc] at HSC
 clear hsc hd w3 w4
 go_enter Tryz.func180,Tryz.ntmps180
 go_wp2
 go_loopw [11,12,13,14] (fun b t i _ wr=>∃ (k:Nat) (x y:Int),k≤az.length∧i=.int .i64 k∧t=.int .i64 x∧b=.int .i64 y∧Best sc k x∧(x = -1∨∃ j:Nat,x=(j:Int)∧y=sc j)∧Below w.heap.size w wr) (fun _ _ i _ _=>az.length - (intOf i).toNat)
 case atStart=>exact ⟨0,-1,-1,Nat.zero_le _,rfl,rfl,rfl,.inl ⟨rfl,fun k hk=>by omega⟩,.inl rfl,Below.refl _ _⟩
 case round =>
  obtain ⟨k,x,y,hk,rfl,rfl,rfl,hbest,hxy,hbr⟩:=hrel
  have HBE:Hid (Best sc k x):=hbest
  have HB:Hid (Below w.heap.size w wr):=hbr
  have HXY:Hid (x = -1∨∃ j:Nat,x=(j:Int)∧y=sc j):=hxy
  clear hbest hxy
  by_cases hlt:k<az.length
  ·rcases hz with h0 | ⟨b,off,rfl,hbz,hcell⟩
   ·rw [h0] at hlt;simp at hlt
   have HCL:Hid (∀ i,i<az.length→w.cell? ⟨b,off+i*6,none⟩=some (.string ⟨(auAt az i).ref.toArray⟩)∧w.cell? ⟨b,off+i*6+1,none⟩=some (.int .i64 (auAt az i).iss)∧w.cell? ⟨b,off+i*6+2,none⟩=some (.int .i64 (auAt az i).cur)∧w.cell? ⟨b,off+i*6+3,none⟩=some (.int .i64 (auAt az i).am)∧w.cell? ⟨b,off+i*6+4,none⟩=some (.int .i64 (auAt az i).day)∧w.cell? ⟨b,off+i*6+5,none⟩=some (.bool (auAt az i).used)):=hcell
   have x0:wr.cell? ⟨b,off+k*6,none⟩=some (.string ⟨(auAt az k).ref.toArray⟩):=(hbr.cell (p:=⟨b,off+k*6,none⟩) hbz).trans (HCL.out k hlt).1
   have x1:wr.cell? ⟨b,off+k*6+1,none⟩=some (.int .i64 (auAt az k).iss):=(hbr.cell (p:=⟨b,off+k*6+1,none⟩) hbz).trans (HCL.out k hlt).2.1
   have x2:wr.cell? ⟨b,off+k*6+2,none⟩=some (.int .i64 (auAt az k).cur):=(hbr.cell (p:=⟨b,off+k*6+2,none⟩) hbz).trans (HCL.out k hlt).2.2.1
   have x3:wr.cell? ⟨b,off+k*6+3,none⟩=some (.int .i64 (auAt az k).am):=(hbr.cell (p:=⟨b,off+k*6+3,none⟩) hbz).trans (HCL.out k hlt).2.2.2.1
   have x4:wr.cell? ⟨b,off+k*6+4,none⟩=some (.int .i64 (auAt az k).day):=(hbr.cell (p:=⟨b,off+k*6+4,none⟩) hbz).trans (HCL.out k hlt).2.2.2.2.1
   have x5:wr.cell? ⟨b,off+k*6+5,none⟩=some (.bool (auAt az k).used):=(hbr.cell (p:=⟨b,off+k*6+5,none⟩) hbz).trans (HCL.out k hlt).2.2.2.2.2
   have hki:(k:Int)<(az.length:Int):=by omega
   have HSK:Hid (∀ u,Calls Tryz.prog 218 #[auv (auAt az k),.int .i64 iss,.int .i64 cur,.int .i64 am,.int .i64 day] u fun e w'=>e=.returned (.int .i64 (sc k))∧Below u.heap.size u w'):=HSC.out k hlt
   obtain ⟨⟨r,i,c,m,d,u⟩,hf⟩:∃ a,auAt az k=a:=⟨_,rfl⟩
   rw [hf] at x0 x1 x2 x3 x4 x5 HSK
   unfold auv at HSK
   simp only at x0 x1 x2 x3 x4 x5 HSK
   clear hf hcell hbr
   go_wp2_with fail
   refine (HSK.out _).mono ?_
   rintro e u2 ⟨rfl,b2⟩
   have HB2:Hid (Below w.heap.size w u2):=HB.out.trans (b2.mono HB.out.size)
   clear b2 x0 x1 x2 x3 x4 x5 HSK
   by_cases hs:0≤sc k
   ·rcases HXY.out with hx | ⟨j,hx,hy⟩
    ·subst hx
     have HN:Hid (Best sc (k+1) (k:Int)):=best_first HBE.out hs
     have HSE:Hid (∃ j:Nat,(k:Int)=(j:Int)∧sc k=sc j):=⟨k,rfl,rfl⟩
     generalize sc k=s at hs HSE
     go_wp2
     go_roundw
     case rel=>exact ⟨k+1,k,s,by omega,by go_num,rfl,rfl,HN.out,.inr HSE.out,HB2.out⟩
     case measure=>simp [intOf];omega
    ·subst hx
     have hj0:¬ (j:Int)<0:=by omega
     by_cases hl:sc k<y
     ·have HN:Hid (Best sc (k+1) (k:Int)):=best_new HBE.out hs (by rw [← hy];exact hl)
      have HSE:Hid (∃ j:Nat,(k:Int)=(j:Int)∧sc k=sc j):=⟨k,rfl,rfl⟩
      clear hy
      generalize sc k=s at hs HSE hl
      go_wp2
      go_roundw
      case rel=>exact ⟨k+1,k,s,by omega,by go_num,rfl,rfl,HN.out,.inr HSE.out,HB2.out⟩
      case measure=>simp [intOf];omega
     ·have HN:Hid (Best sc (k+1) (j:Int)):=best_old HBE.out (by rw [← hy];exact hl)
      have HSE:Hid (∃ i:Nat,(j:Int)=(i:Int)∧y=sc i):=⟨j,rfl,hy⟩
      clear hy
      generalize sc k=s at hs hl
      go_wp2
      go_roundw
      case rel=>exact ⟨k+1,j,y,by omega,by go_num,rfl,rfl,HN.out,.inr HSE.out,HB2.out⟩
      case measure=>simp [intOf];omega
   ·have HN:Hid (Best sc (k+1) x):=best_step HBE.out (by omega)
    generalize sc k=s at hs
    go_wp2
    go_roundw
    case rel=>exact ⟨k+1,x,y,by omega,by go_num,rfl,rfl,HN.out,HXY.out,HB2.out⟩
    case measure=>simp [intOf];omega
  ·have hke:k=az.length:=by omega
   subst hke
   have HR:Hid (BestAt az iss cur am day x):=HBA.out _ HBE.out
   go_wp2
   go_ret
   exact ⟨_,rfl,HR.out,HB.out⟩
theorem copyAuths_any (ao:Option Addr) (cap:Nat) (az:List Au) (w:World) (hz:AuthsAt w ao az) (hn:az.length≤4194304) (hd:∀ a ∈ az,a.ref.length≤1099511627776) :
  Calls Tryz.prog 110 #[.slice ao az.length cap] w fun e w'=>e=.returned (.slice (some ⟨w.heap.size,0,none⟩) az.length az.length) ∧
   w'.ownsRow w.heap.size 107 6 (.slice (some ⟨w.heap.size,0,none⟩) az.length az.length) az.length (acells az)∧Below w.heap.size w w':=by
 obtain ⟨i0,hi,hz0,hz1,hz2⟩:=info_parts infoA
 have hm0:=cells_repA az.length
 rcases hz with rfl | ⟨b,off,rfl,hb,hcell⟩
 ·go_enter Tryz.func110,Tryz.ntmps110
  go_wp2_with (refine wpList_make_full _ rfl (.tmp 7) (.tmp 7) 132 rfl w.heap.size 107 i0 _ 6 Tryz.underlying132 hi hz0 hz1 .i64 .i64 _ _ 0 rfl rfl rfl rfl (by rw [hz2];omega) (by unfold maxLen;omega) (Nat.le_refl _) ?_;intro w1 hown hg)
  refine wp_loop_rounds 1 ?_
  rw [rounds_succ]
  go_wp2
  go_ret
  exact ⟨rfl,by simpa [madeCells,acells] using hown,(Below.refl _ _).grown hg (Nat.le_refl _) (fun k hk=>by cases hk)⟩
 rw [← halfA_zero az] at hm0
 have HC:Hid (∀ i,i<az.length→w.cell? ⟨b,off+i*6,none⟩=some (.string ⟨(auAt az i).ref.toArray⟩)∧w.cell? ⟨b,off+i*6+1,none⟩=some (.int .i64 (auAt az i).iss)∧w.cell? ⟨b,off+i*6+2,none⟩=some (.int .i64 (auAt az i).cur)∧w.cell? ⟨b,off+i*6+3,none⟩=some (.int .i64 (auAt az i).am)∧w.cell? ⟨b,off+i*6+4,none⟩=some (.int .i64 (auAt az i).day)∧w.cell? ⟨b,off+i*6+5,none⟩=some (.bool (auAt az i).used)):=hcell
 clear hcell
 go_enter Tryz.func110,Tryz.ntmps110
 go_wp2_with (refine wpList_make_full _ rfl (.tmp 7) (.tmp 7) 132 rfl w.heap.size 107 i0 _ 6 Tryz.underlying132 hi hz0 hz1 .i64 .i64 _ _ az.length rfl rfl rfl rfl (by rw [hz2];omega) (by unfold maxLen;omega) (Nat.le_refl _) ?_;intro w1 hown hg)
 rw [hm0] at hown
 have hb1:Below w.heap.size w w1:=(Below.refl _ _).grown hg (Nat.le_refl _) (fun k hk=>by cases hk)
 clear hm0 hg
 go_loopw [4,5,11] (fun _ _ i wr=>∃ k:Nat,k≤az.length∧i=.int .i64 k∧wr.ownsRow w.heap.size 107 6 (.slice (some ⟨w.heap.size,0,none⟩) az.length az.length) az.length (acells (halfA az k))∧Below w.heap.size w wr) (fun _ _ i _=>az.length - (intOf i).toNat)
 case atStart=>exact ⟨0,Nat.zero_le _,rfl,hown,hb1⟩
 case round =>
  obtain ⟨k,hk,rfl,ho,hbr⟩:=hrel
  clear hown hb1
  by_cases hlt:k<az.length
  ·have x0:wr.cell? ⟨b,off+k*6,none⟩=some (.string ⟨(auAt az k).ref.toArray⟩):=(hbr.cell (p:=⟨b,off+k*6,none⟩) hb).trans (HC.out k hlt).1
   have x1:wr.cell? ⟨b,off+k*6+1,none⟩=some (.int .i64 (auAt az k).iss):=(hbr.cell (p:=⟨b,off+k*6+1,none⟩) hb).trans (HC.out k hlt).2.1
   have x2:wr.cell? ⟨b,off+k*6+2,none⟩=some (.int .i64 (auAt az k).cur):=(hbr.cell (p:=⟨b,off+k*6+2,none⟩) hb).trans (HC.out k hlt).2.2.1
   have x3:wr.cell? ⟨b,off+k*6+3,none⟩=some (.int .i64 (auAt az k).am):=(hbr.cell (p:=⟨b,off+k*6+3,none⟩) hb).trans (HC.out k hlt).2.2.2.1
   have x4:wr.cell? ⟨b,off+k*6+4,none⟩=some (.int .i64 (auAt az k).day):=(hbr.cell (p:=⟨b,off+k*6+4,none⟩) hb).trans (HC.out k hlt).2.2.2.2.1
   have x5:wr.cell? ⟨b,off+k*6+5,none⟩=some (.bool (auAt az k).used):=(hbr.cell (p:=⟨b,off+k*6+5,none⟩) hb).trans (HC.out k hlt).2.2.2.2.2
   have hki:(k:Int)<(az.length:Int):=by omega
   have hdk:=hd _ (auAt_mem hlt)
   have HS:Hid _:=halfA_succ az k hlt
   have HT:Hid _:=acells_set (halfA az k) (auAt az k) k (by rw [halfA_len az k hk];exact hlt)
   have HFL:Hid (k<(halfA az k).length):=by rw [Hid,halfA_len az k hk];exact hlt
   have HFL2:Hid (k<(halfA az (k+1)).length):=by rw [Hid,halfA_len az (k+1) hlt];exact hlt
   have HAT:Hid (auAt (halfA az (k+1)) k=auAt az k):=by
    rw [Hid,← halfA_succ az k hlt,auAt_is (by rw [List.length_set];exact HFL.out),List.getElem_set_self]
   obtain ⟨⟨r,i,c,m,d,u⟩,hf⟩:∃ f,auAt az k=f:=⟨_,rfl⟩
   rw [hf] at x0 x1 x2 x3 x4 x5 HS HT hdk HAT
   simp only at x0 x1 x2 x3 x4 x5 HT hdk
   have HO:Hid (wr.ownsRow w.heap.size 107 6 (.slice (some ⟨w.heap.size,0,none⟩) az.length az.length) az.length (acells (halfA az k))):=ho
   have HA:Hid _:=halfA_at az k hlt
   have HBR:Hid (Below w.heap.size w wr):=hbr
   have hws:w.heap.size<wr.heap.size:=(ho.lt _ rfl).2
   clear hf ho hbr
   go_upto_region 5 with fail
   clear x0 x1 x2 x3 x4 x5
   obtain ⟨W,hW⟩:∃ W,wr.alloc (.cells #[.string ⟨r.toArray⟩,.int .i64 i,.int .i64 c,.int .i64 m,.int .i64 d,.bool u] 107)=W:=⟨_,rfl⟩
   have bW:Below wr.heap.size wr W:=hW ▸ (Below.refl _ _).alloc (Nat.le_refl _) _
   have BX:AuB wr.heap.size ⟨r,i,c,m,d,u⟩ W:=hW ▸ AuB.new wr ⟨r,i,c,m,d,u⟩ _
   rw [hW]
   clear hW
   have oW:=keepA HO.out bW
   have hat:=acells_at (halfA az k) k HFL.out
   rw [HA.out] at hat
   have HBX:Hid (AuB wr.heap.size ⟨r,i,c,m,d,u⟩ W):=BX
   have y0:W.cell? ⟨w.heap.size,k*6,none⟩=some (.string ⟨#[]⟩):=by rw [oW.cellAt (k*6) (by omega)];exact hat.1
   have z0:W.frozen? ⟨w.heap.size,k*6,none⟩=false:=oW.frozenAt _
   have y1:W.cell? ⟨w.heap.size,k*6+1,none⟩=some (.int .i64 0):=by rw [oW.cellAt (k*6+1) (by omega)];exact hat.2.1
   have z1:W.frozen? ⟨w.heap.size,k*6+1,none⟩=false:=oW.frozenAt _
   have y2:W.cell? ⟨w.heap.size,k*6+2,none⟩=some (.int .i64 0):=by rw [oW.cellAt (k*6+2) (by omega)];exact hat.2.2.1
   have z2:W.frozen? ⟨w.heap.size,k*6+2,none⟩=false:=oW.frozenAt _
   have y3:W.cell? ⟨w.heap.size,k*6+3,none⟩=some (.int .i64 0):=by rw [oW.cellAt (k*6+3) (by omega)];exact hat.2.2.2.1
   have z3:W.frozen? ⟨w.heap.size,k*6+3,none⟩=false:=oW.frozenAt _
   have y4:W.cell? ⟨w.heap.size,k*6+4,none⟩=some (.int .i64 0):=by rw [oW.cellAt (k*6+4) (by omega)];exact hat.2.2.2.2.1
   have z4:W.frozen? ⟨w.heap.size,k*6+4,none⟩=false:=oW.frozenAt _
   have y5:W.cell? ⟨w.heap.size,k*6+5,none⟩=some (.bool false):=by rw [oW.cellAt (k*6+5) (by omega)];exact hat.2.2.2.2.2
   have z5:W.frozen? ⟨w.heap.size,k*6+5,none⟩=false:=oW.frozenAt _
   have HR:Hid ((((((((W.setCell ⟨w.heap.size,k*6,none⟩ (.string ⟨r.toArray⟩)).setCell ⟨w.heap.size,k*6+1,none⟩ (.int .i64 i)).setCell ⟨w.heap.size,k*6+2,none⟩ (.int .i64 c)).setCell ⟨w.heap.size,k*6+3,none⟩ (.int .i64 m)).setCell ⟨w.heap.size,k*6+4,none⟩ (.int .i64 d)).setCell ⟨w.heap.size,k*6+5,none⟩ (.bool u))).ownsRow w.heap.size 107 6 (.slice (some ⟨w.heap.size,0,none⟩) az.length az.length) az.length (acells (halfA az (k+1)))):=by
    have R:=(((((((oW.stored (k*6) (.string ⟨r.toArray⟩)).1.stored (k*6+1) (.int .i64 i)).1.stored (k*6+2) (.int .i64 c)).1.stored (k*6+3) (.int .i64 m)).1.stored (k*6+4) (.int .i64 d)).1.stored (k*6+5) (.bool u))).1
    rw [HT.out,HS.out] at R
    exact R
   have HBW:Hid (Below w.heap.size w (((((((W.setCell ⟨w.heap.size,k*6,none⟩ (.string ⟨r.toArray⟩)).setCell ⟨w.heap.size,k*6+1,none⟩ (.int .i64 i)).setCell ⟨w.heap.size,k*6+2,none⟩ (.int .i64 c)).setCell ⟨w.heap.size,k*6+3,none⟩ (.int .i64 m)).setCell ⟨w.heap.size,k*6+4,none⟩ (.int .i64 d)).setCell ⟨w.heap.size,k*6+5,none⟩ (.bool u)))):=(((((((HBR.out.trans (bW.mono HBR.out.size)).setCell (Nat.le_refl _) _).setCell (Nat.le_refl _) _).setCell (Nat.le_refl _) _).setCell (Nat.le_refl _) _).setCell (Nat.le_refl _) _).setCell (Nat.le_refl _) _)
   have HBOX:Hid ((((((((W.setCell ⟨w.heap.size,k*6,none⟩ (.string ⟨r.toArray⟩)).setCell ⟨w.heap.size,k*6+1,none⟩ (.int .i64 i)).setCell ⟨w.heap.size,k*6+2,none⟩ (.int .i64 c)).setCell ⟨w.heap.size,k*6+3,none⟩ (.int .i64 m)).setCell ⟨w.heap.size,k*6+4,none⟩ (.int .i64 d)).setCell ⟨w.heap.size,k*6+5,none⟩ (.bool u))).cell? ⟨wr.heap.size,0,none⟩=some (.string ⟨r.toArray⟩)):=(World.grownBy.cell_far (row:=some w.heap.size) (((((((oW.stored (k*6) (.string ⟨r.toArray⟩)).2).trans ((oW.stored (k*6) (.string ⟨r.toArray⟩)).1.stored (k*6+1) (.int .i64 i)).2).trans (((oW.stored (k*6) (.string ⟨r.toArray⟩)).1.stored (k*6+1) (.int .i64 i)).1.stored (k*6+2) (.int .i64 c)).2).trans ((((oW.stored (k*6) (.string ⟨r.toArray⟩)).1.stored (k*6+1) (.int .i64 i)).1.stored (k*6+2) (.int .i64 c)).1.stored (k*6+3) (.int .i64 m)).2).trans (((((oW.stored (k*6) (.string ⟨r.toArray⟩)).1.stored (k*6+1) (.int .i64 i)).1.stored (k*6+2) (.int .i64 c)).1.stored (k*6+3) (.int .i64 m)).1.stored (k*6+4) (.int .i64 d)).2).trans ((((((oW.stored (k*6) (.string ⟨r.toArray⟩)).1.stored (k*6+1) (.int .i64 i)).1.stored (k*6+2) (.int .i64 c)).1.stored (k*6+3) (.int .i64 m)).1.stored (k*6+4) (.int .i64 d)).1.stored (k*6+5) (.bool u)).2) ⟨wr.heap.size,0,none⟩ BX.lt (by simp;omega)).trans BX.c0
   obtain ⟨q0,q1,q2,q3,q4,q5⟩:=BX
   simp only at q0 q1 q2 q3 q4 q5
   clear oW hat bW HO HA HS HT
   go_upto_region 6 with fail
   clear q0 q1 q2 q3 q4 q5 y0 z0 y1 z1 y2 z2 y3 z3 y4 z4 y5 z5
   obtain ⟨V,hV⟩:∃ V,(((((((W.setCell ⟨w.heap.size,k*6,none⟩ (.string ⟨r.toArray⟩)).setCell ⟨w.heap.size,k*6+1,none⟩ (.int .i64 i)).setCell ⟨w.heap.size,k*6+2,none⟩ (.int .i64 c)).setCell ⟨w.heap.size,k*6+3,none⟩ (.int .i64 m)).setCell ⟨w.heap.size,k*6+4,none⟩ (.int .i64 d)).setCell ⟨w.heap.size,k*6+5,none⟩ (.bool u)))=V:=⟨_,rfl⟩
   rw [hV] at HR HBW HBOX ⊢
   clear hV
   have v0:=HBOX.out
   have lb:wr.heap.size<V.heap.size:=World.block_lt_of_cell? V _ v0
   go_wp2_with fail
   refine (clone_any r _ hdk).mono ?_
   rintro e w2 ⟨rfl,b2⟩
   have o2:=keepA HR.out b2
   have hat:=acells_at (halfA az (k+1)) k HFL2.out
   rw [HAT.out] at hat
   have t0:w2.cell? ⟨w.heap.size,k*6,none⟩=some (.string ⟨r.toArray⟩):=by rw [o2.cellAt (k*6) (by omega)];exact hat.1
   have t1:w2.frozen? ⟨w.heap.size,k*6,none⟩=false:=o2.frozenAt _
   have HR2:Hid ((w2.setCell ⟨w.heap.size,k*6,none⟩ (.string ⟨r.toArray⟩)).ownsRow w.heap.size 107 6 (.slice (some ⟨w.heap.size,0,none⟩) az.length az.length) az.length (acells (halfA az (k+1)))):=by
    have R:=(o2.stored (k*6) (.string ⟨r.toArray⟩)).1
    rw [set_there hat.1] at R
    exact R
   have HB2:Hid (Below w.heap.size w (w2.setCell ⟨w.heap.size,k*6,none⟩ (.string ⟨r.toArray⟩))):=(HBW.out.trans (b2.mono HBW.out.size)).setCell (Nat.le_refl _) _
   clear o2 hat b2 HR HBW v0 HBOX HBX HAT
   go_wp2
   go_roundw
   case rel=>exact ⟨k+1,by omega,by go_num,HR2.out,HB2.out⟩
   case measure=>simp [intOf];omega
  ·have hke:k=az.length:=by omega
   subst hke
   rw [halfA_all] at ho
   have HO:Hid _:=ho
   clear ho
   go_wp2
   go_ret
   exact ⟨rfl,HO.out,hbr⟩
def refP (l:List UInt8) (a:Au):Bool:=a.ref == l
def addOk (az:List Au) (a:Au):Bool:=auOk a && (!az.any (refP a.ref) && decide (az.length<100))
def addA (az:List Au) (a:Au):List Au:=if addOk az a=true then az++[a] else az
theorem addA_no {az:List Au} {a:Au} (h:addOk az a=false):addA az a=az:=by rw [addA,if_neg (by rw [h];decide)]
theorem addA_yes {az:List Au} {a:Au} (h:addOk az a=true):addA az a=az++[a]:=by rw [addA,if_pos h]
theorem addA_len (az:List Au) (a:Au):(addA az a).length≤az.length+1:=by unfold addA;split <;> simp
theorem any_step (p:Au→Bool) (az:List Au) (k:Nat) (h:k<az.length):(az.drop k).any p=(p (auAt az k) || (az.drop (k+1)).any p):=by
 rw [List.drop_eq_getElem_cons h,auAt_is h,List.any_cons]
theorem au_oneA {w:World} {g:Nat} {a:Au} (h:AuB g a w):AuthsAt w (some ⟨g,0,none⟩) [a] :=
 .inr ⟨g,0,rfl,h.lt,fun i hi=>by
  obtain rfl:i=0:=by simpa using hi
  exact ⟨h.c0,h.c1,h.c2,h.c3,h.c4,h.c5⟩⟩
theorem refIs_any (a:Au) (l:List UInt8) (g:Nat) (w:World) (hc:w.cell? ⟨g,0,none⟩=some (.string ⟨l.toArray⟩)) :
  Calls Tryz.prog 278 #[auv a,.pointer (some ⟨g,0,none⟩)] w fun e w'=>e=.returned (.bool (refP l a))∧Below w.heap.size w w':=by
 have hg:g<w.heap.size:=World.block_lt_of_cell? w _ hc
 obtain ⟨r,i,c,m,d,u⟩:=a
 have HQ:Hid (refP l ⟨r,i,c,m,d,u⟩=(r == l)):=rfl
 simp only [auv]
 have hc2:(w.alloc (.cells #[.string ⟨r.toArray⟩,.int .i64 i,.int .i64 c,.int .i64 m,.int .i64 d,.bool u] 107)).cell? ⟨g,0,none⟩=some (.string ⟨l.toArray⟩):=by rw [World.cell?_alloc_lt _ _ _ hg];exact hc
 go_enter Tryz.func278,Tryz.ntmps278
 go_wp2
 go_ret
 exact ⟨one_bool HQ.out.symm,(Below.refl _ _).alloc (Nat.le_refl _) _⟩
theorem index_any (ao:Option Addr) (cap:Nat) (az:List Au) (l:List UInt8) (g:Nat) (w:World) (hz:AuthsAt w ao az) (hn:az.length≤4194304) (hc:w.cell? ⟨g,0,none⟩=some (.string ⟨l.toArray⟩)) :
  Calls Tryz.prog 309 #[.slice ao az.length cap,.func (.func 278) #[] #[.pointer (some ⟨g,0,none⟩)]] w fun e w'=>∃ x:Int,e=.returned (.int .i64 x)∧decide (0≤x)=az.any (refP l)∧Below w.heap.size w w':=by
 have hg:g<w.heap.size:=World.block_lt_of_cell? w _ hc
 rcases hz with rfl | ⟨b,off,rfl,hb,hcell⟩
 ·go_enter Tryz.func309,Tryz.ntmps309
  go_wp2
  refine wp_loop_rounds 1 ?_
  rw [rounds_succ]
  go_wp2
  go_ret
  exact ⟨_,rfl,by simp,Below.refl _ _⟩
 have HC:Hid (∀ i,i<az.length→w.cell? ⟨b,off+i*6,none⟩=some (.string ⟨(auAt az i).ref.toArray⟩)∧w.cell? ⟨b,off+i*6+1,none⟩=some (.int .i64 (auAt az i).iss)∧w.cell? ⟨b,off+i*6+2,none⟩=some (.int .i64 (auAt az i).cur)∧w.cell? ⟨b,off+i*6+3,none⟩=some (.int .i64 (auAt az i).am)∧w.cell? ⟨b,off+i*6+4,none⟩=some (.int .i64 (auAt az i).day)∧w.cell? ⟨b,off+i*6+5,none⟩=some (.bool (auAt az i).used)):=hcell
 have HG:Hid _:=hc
 clear hcell hc
 go_enter Tryz.func309,Tryz.ntmps309
 go_wp2
 go_loopw [5,8] (fun _ i wr=>∃ k:Nat,k≤az.length∧i=.int .i64 k∧az.any (refP l)=(az.drop k).any (refP l)∧Below w.heap.size w wr) (fun _ i _=>az.length - (intOf i).toNat)
 case atStart=>exact ⟨0,Nat.zero_le _,rfl,rfl,Below.refl _ _⟩
 case round =>
  obtain ⟨k,hk,rfl,hany,hbr⟩:=hrel
  by_cases hlt:k<az.length
  ·have x0:wr.cell? ⟨b,off+k*6,none⟩=some (.string ⟨(auAt az k).ref.toArray⟩):=(hbr.cell (p:=⟨b,off+k*6,none⟩) hb).trans (HC.out k hlt).1
   have x1:wr.cell? ⟨b,off+k*6+1,none⟩=some (.int .i64 (auAt az k).iss):=(hbr.cell (p:=⟨b,off+k*6+1,none⟩) hb).trans (HC.out k hlt).2.1
   have x2:wr.cell? ⟨b,off+k*6+2,none⟩=some (.int .i64 (auAt az k).cur):=(hbr.cell (p:=⟨b,off+k*6+2,none⟩) hb).trans (HC.out k hlt).2.2.1
   have x3:wr.cell? ⟨b,off+k*6+3,none⟩=some (.int .i64 (auAt az k).am):=(hbr.cell (p:=⟨b,off+k*6+3,none⟩) hb).trans (HC.out k hlt).2.2.2.1
   have x4:wr.cell? ⟨b,off+k*6+4,none⟩=some (.int .i64 (auAt az k).day):=(hbr.cell (p:=⟨b,off+k*6+4,none⟩) hb).trans (HC.out k hlt).2.2.2.2.1
   have x5:wr.cell? ⟨b,off+k*6+5,none⟩=some (.bool (auAt az k).used):=(hbr.cell (p:=⟨b,off+k*6+5,none⟩) hb).trans (HC.out k hlt).2.2.2.2.2
   have hki:(k:Int)<(az.length:Int):=by omega
   have HST:Hid _:=hany.trans (any_step (refP l) az k hlt)
   have hgr:=(hbr.cell (p:=⟨g,0,none⟩) hg).trans HG.out
   have HCL:Hid (Calls Tryz.prog 278 #[auv (auAt az k),.pointer (some ⟨g,0,none⟩)] wr fun e w'=>e=.returned (.bool (refP l (auAt az k)))∧Below wr.heap.size wr w'):=refIs_any _ l g wr hgr
   obtain ⟨q,hq⟩:∃ q,refP l (auAt az k)=q:=⟨_,rfl⟩
   rw [hq] at HST HCL
   obtain ⟨⟨r,i,c,m,d,u⟩,hf⟩:∃ a,auAt az k=a:=⟨_,rfl⟩
   rw [hf] at x0 x1 x2 x3 x4 x5 HCL
   unfold auv at HCL
   simp only at x0 x1 x2 x3 x4 x5 HCL
   have HB:Hid (Below w.heap.size w wr):=hbr
   clear hf hany hgr hq hbr
   go_wp2_with fail
   refine (HCL.out).mono ?_
   rintro e w2 ⟨rfl,b2⟩
   have HB2:Hid (Below w.heap.size w w2):=HB.out.trans (b2.mono HB.out.size)
   clear b2 x0 x1 x2 x3 x4 x5
   cases q
   ·go_wp2
    go_roundw
    case rel=>exact ⟨k+1,by omega,by go_num,by rw [HST.out];rfl,HB2.out⟩
    case measure=>simp [intOf];omega
   ·go_wp2
    go_ret
    exact ⟨(k:Int),rfl,by rw [HST.out,decide_eq_true (show (0:Int)≤(k:Int) by omega)];rfl,HB2.out⟩
  ·have HE:Hid (az.any (refP l)=false):=by rw [Hid,hany,List.drop_of_length_le (by omega)];rfl
   go_wp2
   go_ret
   exact ⟨_,rfl,by rw [HE.out];rfl,hbr⟩
theorem hasRef_any (ao:Option Addr) (cap:Nat) (az:List Au) (l:List UInt8) (w:World) (hz:AuthsAt w ao az) (hn:az.length≤4194304) :
  Calls Tryz.prog 249 #[.slice ao az.length cap,.string ⟨l.toArray⟩] w fun e w'=>e=.returned (.bool (az.any (refP l)))∧Below w.heap.size w w':=by
 have bA:∀ t,Below w.heap.size w (w.alloc (.cells #[.string ⟨l.toArray⟩] t)):=fun t=>(Below.refl _ _).alloc (Nat.le_refl _) _
 have HC:Hid (∀ t,Calls Tryz.prog 277 #[.slice ao az.length cap,.func (.func 278) #[] #[.pointer (some ⟨w.heap.size,0,none⟩)]] (w.alloc (.cells #[.string ⟨l.toArray⟩] t)) fun e w'=>e=.returned (.bool (az.any (refP l)))∧Below w.heap.size w w'):=fun t=>by
  have hzA:=hz.below (bA t)
  have hcc:(w.alloc (.cells #[.string ⟨l.toArray⟩] t)).cell? ⟨w.heap.size,0,none⟩=some (.string ⟨l.toArray⟩):=by simp
  have HIX:Hid (Calls Tryz.prog 309 #[.slice ao az.length cap,.func (.func 278) #[] #[.pointer (some ⟨w.heap.size,0,none⟩)]] (w.alloc (.cells #[.string ⟨l.toArray⟩] t)) fun e w'=>∃ x:Int,e=.returned (.int .i64 x)∧decide (0≤x)=az.any (refP l)∧Below (w.alloc (.cells #[.string ⟨l.toArray⟩] t)).heap.size (w.alloc (.cells #[.string ⟨l.toArray⟩] t)) w'):=index_any ao cap az l w.heap.size _ hzA hn hcc
  have HB0:Hid (Below w.heap.size w (w.alloc (.cells #[.string ⟨l.toArray⟩] t))):=bA t
  generalize w.alloc (.cells #[.string ⟨l.toArray⟩] t)=W at HIX HB0
  clear hzA hcc bA
  go_enter Tryz.func277,Tryz.ntmps277
  go_wp2_with fail
  refine Calls.mono HIX.out ?_
  rintro e w2 ⟨x,rfl,hx,b2⟩
  have HX:Hid _:=hx
  have HB2:Hid (Below w.heap.size w w2):=HB0.out.trans (b2.mono HB0.out.size)
  clear hx b2
  go_wp2
  go_ret
  exact ⟨one_bool HX.out,HB2.out⟩
 clear bA hz
 go_enter Tryz.func249,Tryz.ntmps249
 go_wp2_with fail
 refine (HC.out _).mono ?_
 rintro e w2 ⟨rfl,b2⟩
 have HB2:Hid _:=b2
 clear b2
 go_wp2
 go_ret
 exact ⟨rfl,HB2.out⟩
def TwoA (w:World) (g:Nat) (a1:Option Addr) (c1:Nat) (a2:Option Addr) (c2:Nat) (xs ys:List Au):Prop :=
 w.cell? ⟨g,0,none⟩=some (.slice a1 xs.length c1)∧w.cell? ⟨g,1,none⟩=some (.slice a2 ys.length c2)∧AuthsAt w a1 xs∧AuthsAt w a2 ys
theorem TwoA.below {w w':World} {g:Nat} {a1 a2:Option Addr} {c1 c2:Nat} {xs ys:List Au} (h:TwoA w g a1 c1 a2 c2 xs ys) (hb:Below w.heap.size w w'):TwoA w' g a1 c1 a2 c2 xs ys:=by
 obtain ⟨h1,h2,h3,h4⟩:=h
 have hg:g<w.heap.size:=World.block_lt_of_cell? w _ h1
 exact ⟨(hb.cell (p:=⟨g,0,none⟩) hg).trans h1,(hb.cell (p:=⟨g,1,none⟩) hg).trans h2,h3.below hb,h4.below hb⟩
theorem joinA_any (g:Nat) (a1 a2:Option Addr) (c1 c2:Nat) (xs ys:List Au) (w:World) (h:TwoA w g a1 c1 a2 c2 xs ys) (hx:xs.length≤1048576) (hy:ys.length≤1048576) :
  Calls Tryz.prog 250 #[.slice (some ⟨g,0,none⟩) 2 2] w fun e w'=>∃ v,e=.returned v ∧
   w'.ownsRow w.heap.size 107 6 v (xs.length+ys.length) (acells (xs++ys))∧Below w.heap.size w w':=by
 have HT:Hid (TwoA w g a1 c1 a2 c2 xs ys):=h
 obtain ⟨e1,e2,f1,f2⟩:=h
 have HF1:Hid _:=f1
 clear f1 f2
 go_enter Tryz.func250,Tryz.ntmps250
 go_wp2
 refine wp_loop_rounds 3 ?_
 rw [rounds_succ]
 go_wp2_with (at_builtin;refine wpList_append_auths _ rfl (.tmp 12) (.tmp 13) rfl w.heap.size _ 0 [] rfl (World.ownsRow_nil _ _ _ _) a1 c1 xs rfl HF1.out (by omega) (Nat.le_refl _) ?_;intro v2 w2 o2 g2 _)
 have q2:Below w.heap.size w w2:=(Below.refl _ _).grown g2 (Nat.le_refl _) (fun k hk=>by cases hk)
 obtain ⟨_,d2,f1,f2⟩:=HT.out.below q2
 have HF2:Hid _:=f2
 have HO2:Hid (w2.ownsRow w.heap.size 107 6 v2 (0+xs.length) ([]++acells xs)):=o2
 have hs2:=q2.size
 clear e1 e2 f1 f2 o2 g2 HF1
 go_wp2
 rw [rounds_succ]
 go_wp2_with (at_builtin;refine wpList_append_auths _ rfl (.tmp 12) (.tmp 13) rfl w.heap.size _ _ _ rfl HO2.out a2 c2 ys rfl HF2.out (by omega) hs2 ?_;intro v3 w3 o3 g3 _)
 have q3:Below w.heap.size w w3:=q2.grown g3 hs2 (fun k hk=>(HO2.out.lt k hk).1)
 have HO3:Hid (w3.ownsRow w.heap.size 107 6 v3 (xs.length+ys.length) (acells (xs++ys))):=by
  rw [acells_append]
  rw [Nat.zero_add,List.nil_append] at o3
  exact o3
 clear d2 o3 g3 HO2 hs2 HF2
 go_wp2
 rw [rounds_succ]
 go_wp2
 go_ret
 exact ⟨v3,rfl,HO3.out,q3⟩
theorem iAdd10_any (ao:Option Addr) (cap:Nat) (az:List Au) (a:Au) (w:World) (hz:AuthsAt w ao az) (hn:az.length≤1048576) (hd:∀ x ∈ az,x.ref.length≤1099511627776) (hl:a.ref.length≤1099511627776) (hc:wf64 a.cur) :
  Calls Tryz.prog 208 #[.slice ao az.length cap,auv a] w (AuR2 w (addA az a) (addOk az a)):=by
 have HV:Hid (addOk az a=(auOk a && (!az.any (refP a.ref) && decide (az.length<100)))):=rfl
 have HN:Hid (addOk az a=false→addA az a=az):=addA_no
 have HY:Hid (addOk az a=true→addA az a=az++[a]):=addA_yes
 have HZ:Hid (AuthsAt w ao az):=hz
 clear hz
 obtain ⟨q,hq⟩:∃ q,auOk a=q:=⟨_,rfl⟩
 have HO:Hid (∀ u,Calls Tryz.prog 248 #[auv a] u fun e w'=>e=.returned (.bool q)∧Below u.heap.size u w'):=fun u=>by rw [← hq];exact iAuthOk_any a u hl hc
 obtain ⟨h,hh⟩:∃ h,az.any (refP a.ref)=h:=⟨_,rfl⟩
 have HH:Hid (∀ u,AuthsAt u ao az→Calls Tryz.prog 249 #[.slice ao az.length cap,.string ⟨a.ref.toArray⟩] u fun e w'=>e=.returned (.bool h)∧Below u.heap.size u w'):=fun u hu=>by rw [← hh];exact hasRef_any ao cap az a.ref u hu (by omega)
 have HCP:Hid (∀ u,AuthsAt u ao az→Calls Tryz.prog 110 #[.slice ao az.length cap] u fun e w'=>e=.returned (.slice (some ⟨u.heap.size,0,none⟩) az.length az.length) ∧
   w'.ownsRow u.heap.size 107 6 (.slice (some ⟨u.heap.size,0,none⟩) az.length az.length) az.length (acells az)∧Below u.heap.size u w'):=fun u hu=>copyAuths_any ao cap az u hu (by omega) hd
 have HCN:Hid (∀ (u:World) (bo:Option Addr) (cb:Nat),AuthsAt u bo (az++[a])→Calls Tryz.prog 110 #[.slice bo (az++[a]).length cb] u fun e w'=>e=.returned (.slice (some ⟨u.heap.size,0,none⟩) (az++[a]).length (az++[a]).length) ∧
   w'.ownsRow u.heap.size 107 6 (.slice (some ⟨u.heap.size,0,none⟩) (az++[a]).length (az++[a]).length) (az++[a]).length (acells (az++[a]))∧Below u.heap.size u w'):=fun u bo cb hu=>copyAuths_any bo cb (az++[a]) u hu (by simp;omega) (fun x hx=>by
    rcases List.mem_append.1 hx with h1 | h1
    ·exact hd x h1
    ·have:x=a:=by simpa using h1
     rw [this];exact hl)
 obtain ⟨W,hW⟩:∃ W,W=w.alloc (.cells #[.string ⟨a.ref.toArray⟩,.int .i64 a.iss,.int .i64 a.cur,.int .i64 a.am,.int .i64 a.day,.bool a.used] 107):=⟨_,rfl⟩
 have B:AuB w.heap.size a W:=by rw [hW];exact AuB.new w a _
 have HBB:Hid (AuB w.heap.size a W):=B
 have bW:Below w.heap.size w W:=by rw [hW];exact (Below.refl _ _).alloc (Nat.le_refl _) _
 have HBW:Hid (Below w.heap.size w W):=bW
 rw [hq,hh] at HV
 clear bW hd hl hc hq hh
 cases q
 ·have HQ:Hid (addOk az a=false):=HV.out
  have HL:Hid (addA az a=az):=HN.out HQ.out
  rw [HQ.out,HL.out]
  clear HV HN HY HQ HL HCN HH
  obtain ⟨r,i,c,m,d,u⟩:=a
  unfold auv at HO ⊢
  simp only at hW HO ⊢
  have HW:Hid _:=hW
  obtain ⟨f0,f1,f2,f3,f4,f5⟩:=B
  clear hW
  go_enter Tryz.func208,Tryz.ntmps208
  go_upto_region 1 with fail
  rw [← HW.out]
  go_wp2_with fail
  refine (HO.out _).mono ?_
  rintro e u1 ⟨rfl,b1⟩
  have HB1:Hid (Below w.heap.size w u1):=next HBW.out b1
  clear b1 f0 f1 f2 f3 f4 f5
  go_wp2_with fail
  refine (HCP.out _ (HZ.out.below HB1.out)).mono ?_
  rintro e u2 ⟨rfl,o2,b2⟩
  have HO2:Hid _:=lowerA o2 HB1.out.size
  have HB2:Hid (Below w.heap.size w u2):=next HB1.out b2
  clear o2 b2
  go_wp2
  go_ret2
  exact ⟨_,_,rfl,HO2.out,HB2.out⟩
 cases h
 ·by_cases h100:az.length<100
  ·have HQ:Hid (addOk az a=true):=by rw [Hid,HV.out,decide_eq_true h100];rfl
   have HL:Hid (addA az a=az++[a]):=HY.out HQ.out
   rw [HQ.out,HL.out]
   have h100':(az.length:Int)<100:=by omega
   have HXL:Hid ((az++[a]).length=az.length+1):=by rw [Hid];simp
   have HJ:Hid (∀ (u:World) (g:Nat) (a2:Option Addr) (c2:Nat),TwoA u g ao cap a2 c2 az [a]→Calls Tryz.prog 250 #[.slice (some ⟨g,0,none⟩) 2 2] u fun e w'=>∃ bo cb,e=.returned (.slice bo (az++[a]).length cb)∧AuthsAt w' bo (az++[a])∧Below u.heap.size u w'):=fun u g a2 c2 h2 =>
    (joinA_any g ao a2 cap c2 az [a] u h2 (by omega) (by simp)).mono fun e u' ⟨v,he,hv,hb⟩=>by
     obtain ⟨bo,cb,rfl,hA,_⟩:=auths_of_own' hv
     exact ⟨bo,cb,he,hA,hb⟩
   clear HV HN HY HQ HL HCP
   obtain ⟨L,hL⟩:∃ L,az++[a]=L:=⟨_,rfl⟩
   rw [hL] at HCN HJ HXL ⊢
   have HTW:Hid (∀ (u:World) (t1 t2:TypeId),AuthsAt u ao az→TwoA ((u.alloc (.cells #[.string ⟨a.ref.toArray⟩,.int .i64 a.iss,.int .i64 a.cur,.int .i64 a.am,.int .i64 a.day,.bool a.used] t1)).alloc (.cells #[.slice ao az.length cap,.slice (some ⟨u.heap.size,0,none⟩) 1 1] t2)) (u.heap.size+1) ao cap (some ⟨u.heap.size,0,none⟩) 1 az [a]∧Below u.heap.size u ((u.alloc (.cells #[.string ⟨a.ref.toArray⟩,.int .i64 a.iss,.int .i64 a.cur,.int .i64 a.am,.int .i64 a.day,.bool a.used] t1)).alloc (.cells #[.slice ao az.length cap,.slice (some ⟨u.heap.size,0,none⟩) 1 1] t2))):=fun u t1 t2 hu=>by
    have b1:Below u.heap.size u (u.alloc (.cells #[.string ⟨a.ref.toArray⟩,.int .i64 a.iss,.int .i64 a.cur,.int .i64 a.am,.int .i64 a.day,.bool a.used] t1)):=(Below.refl _ _).alloc (Nat.le_refl _) _
    have B1:=AuB.new u a t1
    have z1:=hu.below b1
    have hsz:(u.alloc (.cells #[.string ⟨a.ref.toArray⟩,.int .i64 a.iss,.int .i64 a.cur,.int .i64 a.am,.int .i64 a.day,.bool a.used] t1)).heap.size=u.heap.size+1:=by simp
    generalize u.alloc (.cells #[.string ⟨a.ref.toArray⟩,.int .i64 a.iss,.int .i64 a.cur,.int .i64 a.am,.int .i64 a.day,.bool a.used] t1)=V at b1 B1 z1 hsz
    have b2:Below V.heap.size V (V.alloc (.cells #[.slice ao az.length cap,.slice (some ⟨u.heap.size,0,none⟩) 1 1] t2)):=(Below.refl _ _).alloc (Nat.le_refl _) _
    have k1:(V.alloc (.cells #[.slice ao az.length cap,.slice (some ⟨u.heap.size,0,none⟩) 1 1] t2)).cell? ⟨V.heap.size,0,none⟩=some (.slice ao az.length cap):=by simp
    have k2:(V.alloc (.cells #[.slice ao az.length cap,.slice (some ⟨u.heap.size,0,none⟩) 1 1] t2)).cell? ⟨V.heap.size,1,none⟩=some (.slice (some ⟨u.heap.size,0,none⟩) 1 1):=by simp
    rw [hsz] at k1 k2
    exact ⟨⟨k1,k2,z1.below b2,au_oneA (B1.below b2)⟩,next b1 b2⟩
   clear hL
   obtain ⟨r,i,c,m,d,u⟩:=a
   unfold auv at HO ⊢
   simp only at hW HO HH HTW ⊢
   have HW:Hid _:=hW
   obtain ⟨f0,f1,f2,f3,f4,f5⟩:=B
   clear hW
   go_enter Tryz.func208,Tryz.ntmps208
   go_upto_region 1 with fail
   rw [← HW.out]
   go_wp2_with fail
   refine (HO.out _).mono ?_
   rintro e u1 ⟨rfl,b1⟩
   have HB1:Hid (Below w.heap.size w u1):=next HBW.out b1
   have B1:=HBB.out.below b1
   have HBB1:Hid (AuB w.heap.size ⟨r,i,c,m,d,u⟩ u1):=B1
   clear b1 f0 f1 f2 f3 f4 f5
   obtain ⟨f0,f1,f2,f3,f4,f5⟩:=B1
   simp only at f0 f1 f2 f3 f4 f5
   go_wp2_with fail
   refine (HH.out _ (HZ.out.below HB1.out)).mono ?_
   rintro e u2 ⟨rfl,b2⟩
   have HB2:Hid (Below w.heap.size w u2):=next HB1.out b2
   have B2:=HBB1.out.below b2
   clear b2 f0 f1 f2 f3 f4 f5
   obtain ⟨f0,f1,f2,f3,f4,f5⟩:=B2
   simp only at f0 f1 f2 f3 f4 f5
   go_wp2_with fail
   refine (HJ.out _ _ _ _ (HTW.out u2 _ _ (HZ.out.below HB2.out)).1).mono ?_
   rintro e u3 ⟨bo,cb,rfl,hA3,b3⟩
   have HB3:Hid (Below w.heap.size w u3):=next (next HB2.out (HTW.out u2 _ _ (HZ.out.below HB2.out)).2) b3
   have HA3:Hid (AuthsAt u3 bo L):=hA3
   clear hA3 b3 f0 f1 f2 f3 f4 f5
   go_wp2_with fail
   refine (HCN.out _ _ _ HA3.out).mono ?_
   rintro e u4 ⟨rfl,o4,b4⟩
   have HO4:Hid _:=lowerA o4 HB3.out.size
   have HB4:Hid (Below w.heap.size w u4):=next HB3.out b4
   clear o4 b4
   go_wp2
   go_ret2
   exact ⟨_,_,rfl,HO4.out,HB4.out⟩
  ·have HQ:Hid (addOk az a=false):=by rw [Hid,HV.out,decide_eq_false h100];rfl
   have HL:Hid (addA az a=az):=HN.out HQ.out
   rw [HQ.out,HL.out]
   have h100':100≤(az.length:Int):=by omega
   clear HV HN HY HQ HL HCN
   obtain ⟨r,i,c,m,d,u⟩:=a
   unfold auv at HO ⊢
   simp only at hW HO HH ⊢
   have HW:Hid _:=hW
   obtain ⟨f0,f1,f2,f3,f4,f5⟩:=B
   clear hW
   go_enter Tryz.func208,Tryz.ntmps208
   go_upto_region 1 with fail
   rw [← HW.out]
   go_wp2_with fail
   refine (HO.out _).mono ?_
   rintro e u1 ⟨rfl,b1⟩
   have HB1:Hid (Below w.heap.size w u1):=next HBW.out b1
   have B1:=HBB.out.below b1
   clear b1 f0 f1 f2 f3 f4 f5
   obtain ⟨f0,f1,f2,f3,f4,f5⟩:=B1
   simp only at f0 f1 f2 f3 f4 f5
   go_wp2_with fail
   refine (HH.out _ (HZ.out.below HB1.out)).mono ?_
   rintro e u2 ⟨rfl,b2⟩
   have HB2:Hid (Below w.heap.size w u2):=next HB1.out b2
   clear b2 f0 f1 f2 f3 f4 f5
   go_wp2_with fail
   refine (HCP.out _ (HZ.out.below HB2.out)).mono ?_
   rintro e u3 ⟨rfl,o3,b3⟩
   have HO3:Hid _:=lowerA o3 HB2.out.size
   have HB3:Hid (Below w.heap.size w u3):=next HB2.out b3
   clear o3 b3
   go_wp2
   go_ret2
   exact ⟨_,_,rfl,HO3.out,HB3.out⟩
 ·have HQ:Hid (addOk az a=false):=by rw [Hid,HV.out];rfl
  have HL:Hid (addA az a=az):=HN.out HQ.out
  rw [HQ.out,HL.out]
  clear HV HN HY HQ HL HCN
  obtain ⟨r,i,c,m,d,u⟩:=a
  unfold auv at HO ⊢
  simp only at hW HO HH ⊢
  have HW:Hid _:=hW
  obtain ⟨f0,f1,f2,f3,f4,f5⟩:=B
  clear hW
  go_enter Tryz.func208,Tryz.ntmps208
  go_upto_region 1 with fail
  rw [← HW.out]
  go_wp2_with fail
  refine (HO.out _).mono ?_
  rintro e u1 ⟨rfl,b1⟩
  have HB1:Hid (Below w.heap.size w u1):=next HBW.out b1
  have B1:=HBB.out.below b1
  clear b1 f0 f1 f2 f3 f4 f5
  obtain ⟨f0,f1,f2,f3,f4,f5⟩:=B1
  simp only at f0 f1 f2 f3 f4 f5
  go_wp2_with fail
  refine (HH.out _ (HZ.out.below HB1.out)).mono ?_
  rintro e u2 ⟨rfl,b2⟩
  have HB2:Hid (Below w.heap.size w u2):=next HB1.out b2
  clear b2 f0 f1 f2 f3 f4 f5
  go_wp2_with fail
  refine (HCP.out _ (HZ.out.below HB2.out)).mono ?_
  rintro e u3 ⟨rfl,o3,b3⟩
  have HO3:Hid _:=lowerA o3 HB2.out.size
  have HB3:Hid (Below w.heap.size w u3):=next HB2.out b3
  clear o3 b3
  go_wp2
  go_ret2
  exact ⟨_,_,rfl,HO3.out,HB3.out⟩
theorem sAdd10_any (ao:Option Addr) (cap:Nat) (az:List Au) (a:Au) (w:World) (hz:AuthsAt w ao az) (hn:az.length≤1048576) (hl:a.ref.length≤1099511627776) :
  Calls Tryz.prog 143 #[.slice ao az.length cap,auv a] w (AuR2 w (addA az a) (addOk az a)):=by
 have HV:Hid (addOk az a=(auOk a && (!az.any (refP a.ref) && decide (az.length<100)))):=rfl
 have HN:Hid (addOk az a=false→addA az a=az):=addA_no
 have HY:Hid (addOk az a=true→addA az a=az++[a]):=addA_yes
 have HZ:Hid (AuthsAt w ao az):=hz
 obtain ⟨q,hq⟩:∃ q,auOk a=q:=⟨_,rfl⟩
 have HO:Hid (∀ u,Calls Tryz.prog 179 #[auv a] u fun e w'=>e=.returned (.bool q)∧Below u.heap.size u w'):=fun u=>by rw [← hq];exact sAuthOk_any a u hl
 obtain ⟨W,hW⟩:∃ W,W=w.alloc (.cells #[.string ⟨a.ref.toArray⟩,.int .i64 a.iss,.int .i64 a.cur,.int .i64 a.am,.int .i64 a.day,.bool a.used] 107):=⟨_,rfl⟩
 have B:AuB w.heap.size a W:=by rw [hW];exact AuB.new w a _
 have HBB:Hid (AuB w.heap.size a W):=B
 have bW:Below w.heap.size w W:=by rw [hW];exact (Below.refl _ _).alloc (Nat.le_refl _) _
 have HBW:Hid (Below w.heap.size w W):=bW
 have bA:Below W.heap.size W (W.alloc (.cells #[] 107)):=(Below.refl _ _).alloc (Nat.le_refl _) _
 have HZ1:Hid (AuthsAt (W.alloc (.cells #[] 107)) ao az):=(hz.below bW).below bA
 have HO1:=auLit W
 rw [hq] at HV
 obtain ⟨A,hA⟩:∃ A,a=A:=⟨_,rfl⟩
 rw [hA] at HV HN HY HBB ⊢
 have HAR:Hid (A.ref=a.ref):=by rw [hA];exact rfl
 have HAA:Hid (A=⟨a.ref,a.iss,a.cur,a.am,a.day,a.used⟩):=by rw [hA];exact rfl
 have e0:auv A=auv a:=by rw [hA]
 rw [e0]
 clear bW hl hq hz e0 hA
 obtain ⟨r,i,c,m,d,u⟩:=a
 unfold auv at HO ⊢
 simp only at hW HO HAR HAA ⊢
 rw [HAR.out] at HV
 have HW:Hid _:=hW
 clear hW B
 go_enter Tryz.func143,Tryz.ntmps143
 go_upto_region 1 with fail
 rw [← HW.out]
 go_upto_region 2 with (at_builtin;refine wpList_append_auths _ rfl (.tmp 8) (.tmp 9) rfl W.heap.size (.slice (some ⟨W.heap.size,0,none⟩) 0 0) 0 [] rfl HO1 ao cap az rfl HZ1.out (by omega) (by simp) ?_;intro v2 w2 o2 g2 n2)
 obtain ⟨g,cc,rfl⟩:=au_notnil o2 (n2 (by simp))
 simp only [Nat.zero_add,List.nil_append] at o2 ⊢
 have b2:Below W.heap.size W w2:=bA.grown g2 (by simp) (fun j hj=>by cases hj;exact Nat.le_refl _)
 have B2:=HBB.out.below b2
 rw [HAA.out] at B2
 have HB2:Hid (Below w.heap.size w w2):=next HBW.out b2
 have HBX2:Hid (AuB w.heap.size ⟨r,i,c,m,d,u⟩ w2):=B2
 have HR:Hid (w2.ownsRow w.heap.size 107 6 (.slice (some ⟨g,0,none⟩) az.length cc) az.length (acells az)):=lowerA o2 HBW.out.size
 have HG:Hid (W.heap.size≤g):=(o2.lt g rfl).1
 clear o2 b2 g2 n2 HO1 bA HZ1
 obtain ⟨f0,f1,f2,f3,f4,f5⟩:=B2
 simp only at f0 f1 f2 f3 f4 f5
 cases q
 ·have HQ:Hid (addOk az A=false):=HV.out
  have HL:Hid (addA az A=az):=HN.out HQ.out
  clear HV HN HY HAA HAR
  go_wp2_with fail
  refine (HO.out _).mono ?_
  rintro e u1 ⟨rfl,b1⟩
  have HB3:Hid (Below w.heap.size w u1):=next HB2.out b1
  have HR3:Hid _:=keepA HR.out b1
  clear b1 f0 f1 f2 f3 f4 f5
  go_wp2
  go_ret2
  rw [HQ.out,HL.out]
  exact ⟨_,_,rfl,HR3.out,HB3.out⟩
 by_cases h100:az.length<100
 ·have h100':(az.length:Int)<100:=by omega
  have HV2:Hid (addOk az A = !az.any (refP r)):=by rw [Hid,HV.out,decide_eq_true h100,Bool.and_true,Bool.true_and]
  clear HV
  go_wp2_with fail
  refine (HO.out _).mono ?_
  rintro e u1 ⟨rfl,b1⟩
  have HB3:Hid (Below w.heap.size w u1):=next HB2.out b1
  have HR3:Hid (u1.ownsRow w.heap.size 107 6 (.slice (some ⟨g,0,none⟩) az.length cc) az.length (acells az)):=keepA HR.out b1
  have HBX3:Hid (AuB w.heap.size ⟨r,i,c,m,d,u⟩ u1):=HBX2.out.below b1
  have HZ3:Hid (AuthsAt u1 ao az):=HZ.out.below HB3.out
  clear b1 f0 f1 f2 f3 f4 f5 HR HBX2 HB2 HO HZ HBB
  go_wp2
  go_loopw [7] (fun i wr=>∃ k:Nat,k≤az.length∧i=.int .i64 k∧az.any (refP r)=(az.drop k).any (refP r)∧Below u1.heap.size u1 wr) (fun i _=>az.length - (intOf i).toNat)
  case atStart=>exact ⟨0,Nat.zero_le _,rfl,rfl,Below.refl _ _⟩
  case round =>
   obtain ⟨k,hk,rfl,hany,hbr⟩:=hrel
   obtain ⟨f0,f1,f2,f3,f4,f5⟩:=HBX3.out.below hbr
   simp only at f0 f1 f2 f3 f4 f5
   by_cases hlt:k<az.length
   ·have hki:(k:Int)<(az.length:Int):=by omega
    have HST:Hid _:=hany.trans (any_step (refP r) az k hlt)
    rcases HZ3.out with h0 | ⟨b,off,rfl,hb,hcell⟩
    ·rw [h0] at hlt;simp at hlt
    have x0:wr.cell? ⟨b,off+k*6,none⟩=some (.string ⟨(auAt az k).ref.toArray⟩):=(hbr.cell (p:=⟨b,off+k*6,none⟩) hb).trans (hcell k hlt).1
    have HPQ:Hid (refP r (auAt az k)=((auAt az k).ref == r)):=rfl
    obtain ⟨l,hlx⟩:∃ l,(auAt az k).ref=l:=⟨_,rfl⟩
    rw [hlx] at x0 HPQ
    have HB4:Hid (Below u1.heap.size u1 wr):=hbr
    have HWR:Hid (Below w.heap.size w wr):=next HB3.out hbr
    have HR4:Hid _:=keepA HR3.out hbr
    clear hlx hany hcell hbr
    cases hq:(l == r)
    ·have HE:Hid (az.any (refP r)=(az.drop (k+1)).any (refP r)):=by rw [Hid,HST.out,HPQ.out,hq];rfl
     clear HST HPQ
     go_wp2
     go_quiet (fail)
     go_wp2
     go_roundw
     case rel=>exact ⟨k+1,by omega,by go_num,HE.out,below_drewN HB4.out _⟩
     case measure=>simp [intOf];omega
    ·have HE:Hid (az.any (refP r)=true):=by rw [Hid,HST.out,HPQ.out,hq];rfl
     have HQ:Hid (addOk az A=false):=by rw [Hid,HV2.out,HE.out];rfl
     have HL:Hid (addA az A=az):=HN.out HQ.out
     clear HST HPQ
     go_wp2
     go_quiet (fail)
     go_wp2
     go_ret2
     rw [HQ.out,HL.out]
     exact ⟨_,_,rfl,keepA HR4.out (below_drewN (Below.refl _ _) _),below_drewN HWR.out _⟩
   ·have HE:Hid (az.any (refP r)=false):=by rw [Hid,hany,List.drop_of_length_le (by omega)];rfl
    have HQ:Hid (addOk az A=true):=by rw [Hid,HV2.out,HE.out];rfl
    have HL:Hid (addA az A=az++[⟨r,i,c,m,d,u⟩]):=by rw [Hid,HY.out HQ.out,HAA.out]
    have HWR:Hid (Below w.heap.size w wr):=next HB3.out hbr
    have HR4:Hid (wr.ownsRow w.heap.size 107 6 (.slice (some ⟨g,0,none⟩) az.length cc) az.length (acells az)):=keepA HR3.out hbr
    have HON:Hid (AuthsAt (wr.alloc (.cells #[.string ⟨r.toArray⟩,.int .i64 i,.int .i64 c,.int .i64 m,.int .i64 d,.bool u] 107)) (some ⟨wr.heap.size,0,none⟩) [⟨r,i,c,m,d,u⟩]):=au_oneA (AuB.new wr ⟨r,i,c,m,d,u⟩ _)
    have HOA:Hid ((wr.alloc (.cells #[.string ⟨r.toArray⟩,.int .i64 i,.int .i64 c,.int .i64 m,.int .i64 d,.bool u] 107)).ownsRow w.heap.size 107 6 (.slice (some ⟨g,0,none⟩) az.length cc) az.length (acells az)):=keepA HR4.out ((Below.refl _ _).alloc (Nat.le_refl _) _)
    have hwz:w.heap.size≤wr.heap.size:=HWR.out.size
    clear HE hany hbr HN HY HV2
    go_wp2_with (at_builtin;refine wpList_append_auths _ rfl (.tmp 35) (.tmp 37) rfl w.heap.size (.slice (some ⟨g,0,none⟩) az.length cc) az.length (acells az) rfl HOA.out (some ⟨wr.heap.size,0,none⟩) 1 [⟨r,i,c,m,d,u⟩] rfl HON.out (by simp;omega) (by simp;omega) ?_;intro v3 w3 o3 g3 n3)
    obtain ⟨a3,c3,rfl⟩:=auShape o3
    have HO3:Hid (w3.ownsRow w.heap.size 107 6 (.slice a3 (az++([⟨r,i,c,m,d,u⟩]:List Au)).length c3) (az++([⟨r,i,c,m,d,u⟩]:List Au)).length (acells (az++[⟨r,i,c,m,d,u⟩]))):=by rw [Hid,List.length_append,acells_append];exact o3
    have HB5:Hid (Below w.heap.size w w3):=(HWR.out.alloc HWR.out.size _).grown g3 (by simp;omega) (fun j hj=>(HOA.out.lt j hj).1)
    clear o3 g3 n3 HOA HON
    go_wp2
    go_ret2
    rw [HQ.out,HL.out]
    exact ⟨a3,c3,by rw [List.length_append];rfl,HO3.out,HB5.out⟩
 ·have h100':100≤(az.length:Int):=by omega
  have HQ:Hid (addOk az A=false):=by rw [Hid,HV.out,decide_eq_false h100,Bool.and_false];rfl
  have HL:Hid (addA az A=az):=HN.out HQ.out
  clear HV HN HY HAA HAR
  go_wp2_with fail
  refine (HO.out _).mono ?_
  rintro e u1 ⟨rfl,b1⟩
  have HB3:Hid (Below w.heap.size w u1):=next HB2.out b1
  have HR3:Hid _:=keepA HR.out b1
  clear b1 f0 f1 f2 f3 f4 f5
  go_wp2
  go_ret2
  rw [HQ.out,HL.out]
  exact ⟨_,_,rfl,HR3.out,HB3.out⟩
def keepP (f:Int) (a:Au):Bool:=!a.used && decide (f≤a.day)
def pruneL (az:List Au) (t:Int):List Au:=if dOk t=true then az.filter (keepP (t - 7)) else []
theorem pruneL_len (az:List Au) (t:Int):(pruneL az t).length≤az.length:=by unfold pruneL;split;exact List.length_filter_le _ _;exact Nat.zero_le _
theorem take_filter (f:Int) (az:List Au) (k:Nat) (h:k<az.length):(az.take (k+1)).filter (keepP f)=(az.take k).filter (keepP f)++(if keepP f (auAt az k)=true then [auAt az k] else []):=by
 rw [List.take_succ_eq_append_getElem h,List.filter_append,auAt_is h]
 cases hq:keepP f az[k] <;> simp [hq]
theorem own_setCells {base n:Nat} {t:TypeId} {g cap:Nat} (vs:List Value):∀ (o:Nat) (w:World) (xs:List Value),w.ownsRow base t 6 (.slice (some ⟨g,0,none⟩) n cap) n xs→o+vs.length≤n*6 →
  ∃ ys,(w.setCells g o vs).ownsRow base t 6 (.slice (some ⟨g,0,none⟩) n cap) n ys∧ys.take o=xs.take o∧w.grownBy (w.setCells g o vs) (some g):=by
 induction vs with
 | nil=>intro o w xs h _;exact ⟨xs,h,rfl,World.grownBy.refl _ _⟩
 | cons v r ih =>
  intro o w xs h hl
  have hs:=h.stored o v
  obtain ⟨ys,h1,h2,h3⟩:=ih (o+1) _ _ hs.1 (by simp at hl;omega)
  refine ⟨ys,h1,?_,hs.2.trans h3⟩
  have e:ys.take o=(ys.take (o+1)).take o:=by rw [List.take_take,Nat.min_eq_left (Nat.le_succ o)]
  rw [e,h2,List.take_take,Nat.min_eq_left (Nat.le_succ o),List.take_set_of_le (Nat.le_refl o)]
theorem own_cut {w:World} {base n s:Nat} {t:TypeId} {g cap:Nat} {xs:List Value} (h:w.ownsRow base t 6 (.slice (some ⟨g,0,none⟩) n cap) n xs) (hs:s≤n):w.ownsRow base t 6 (.slice (some ⟨g,0,none⟩) s cap) s (xs.take (s*6)):=by
 obtain ⟨h1,h2⟩:=h
 rcases h2 with ⟨hv,_⟩ | ⟨g',cap',cur,hv,hg,hh,a1,a2,a3,a4⟩
 ·cases hv
 ·obtain ⟨rfl,rfl⟩:g=g'∧cap=cap':=by simpa using hv
  refine ⟨by rw [List.length_take,h1];omega,.inr ⟨g,cap,cur,rfl,hg,hh,by omega,a2,a3,?_⟩⟩
  rw [← a4,List.take_take,Nat.min_eq_left (by omega)]
theorem zeros_one (n:Nat):∀ v ∈ (Builtin.zeroCells (Value.agg #[.string ⟨#[]⟩,.int .i64 0,.int .i64 0,.int .i64 0,.int .i64 0,.bool false]).cells n).toList,v.oneCell'=true:=by
 intro v hv
 simp only [Builtin.zeroCells,Array.toList_map,List.mem_map] at hv
 obtain ⟨j,_,rfl⟩:=hv
 have:j % 6=0∨j % 6=1∨j % 6=2∨j % 6=3∨j % 6=4∨j % 6=5:=by omega
 simp only [Value.cells]
 show Value.oneCell' ((#[Value.string ⟨#[]⟩,.int .i64 0,.int .i64 0,.int .i64 0,.int .i64 0,.bool false]:Array Value)[j % 6]!)=true
 rcases this with e | e | e | e | e | e <;> rw [e] <;> rfl
theorem clear_rows {W:World} {base n s g:Nat} {xs:List Value} (ho:W.ownsRow base 107 6 (.slice (some ⟨g,0,none⟩) n n) n xs) (hs:s<n) :
  ∃ V ys,(∀ ty,(Builtin.clear_ #[132] ty #[.slice (some ⟨g,s*6,none⟩) (n - s) (n - s)]).run Tryz.prog W=.ok (.tuple #[]) V)∧V.ownsRow base 107 6 (.slice (some ⟨g,0,none⟩) n n) n ys∧ys.take (s*6)=xs.take (s*6)∧W.grownBy V (some g):=by
 have hlen:(Builtin.zeroCells (Value.agg #[.string ⟨#[]⟩,.int .i64 0,.int .i64 0,.int .i64 0,.int .i64 0,.bool false]).cells (n - s)).toList.length=(n - s) * 6:=by simp [Builtin.zeroCells,Value.cells]
 obtain ⟨vs,hvs⟩:∃ vs,(Builtin.zeroCells (Value.agg #[.string ⟨#[]⟩,.int .i64 0,.int .i64 0,.int .i64 0,.int .i64 0,.bool false]).cells (n - s)).toList=vs:=⟨_,rfl⟩
 have hone:∀ v ∈ vs,v.oneCell'=true:=by rw [← hvs];exact zeros_one _
 rw [hvs] at hlen
 have hxl:=ho.1
 obtain ⟨ys,h1,h2,h3⟩:=own_setCells vs (s*6) W xs ho (by rw [hlen];omega)
 refine ⟨_,ys,fun ty=>?_,h1,h2,h3⟩
 have hst:=run_storeCells_cells (P:=Tryz.prog) g (s*6) vs 0 W (fun j hj=>by rw [ho.cellAt _ (by omega)];simp;omega) (fun j hj=>ho.frozenAt _) hone
 simp only [Nat.add_zero] at hst
 obtain ⟨q,hq⟩:∃ q,n - s=q+1:=⟨n - s - 1,by omega⟩
 rw [hq] at hvs ⊢
 simp [Builtin.clear_,run_underlying Tryz.underlying132,Tryz.zeroValue107,hvs,hst]
theorem au_one {w:World} {g:Nat} {a:Au} (h:AuB g a w):AuthsAt w (some ⟨g,0,none⟩) [a] :=
 .inr ⟨g,0,rfl,h.lt,fun i hi=>by
  obtain rfl:i=0:=by simpa using hi
  exact ⟨h.c0,h.c1,h.c2,h.c3,h.c4,h.c5⟩⟩
theorem elemOwn:Tryz.prog.elem 132=107:=by simp [Program.elem,Tryz.underlying132]
theorem underOwn:Tryz.prog.underlying 132=some (.slice (Tryz.prog.elem 132)):=by rw [elemOwn];exact Tryz.underlying132
theorem sizeOwn (w:World):(sizeOf 107).run Tryz.prog w=.ok 6 w:=by
 obtain ⟨i0,hi,hz0,hz1,hz2⟩:=info_parts infoA
 simp [sizeOf,typeInfo,hi,hz1]
theorem slice_from {g n s:Nat} (hs:s≤n) (W:World):(Instr.slice 132 (.slice (some ⟨g,0,none⟩) n n) (some (.int .i64 s)) none none).run Tryz.prog W=.ok (.slice (some (if n=s then ⟨g,0,none⟩ else ⟨g,s*6,none⟩)) (n - s) (n - s)) W:=by
 rw [run_slice_l W _ _ _ _ underOwn .i64 _ (by omega) (by omega),elemOwn,sizeOwn]
 by_cases h:n=s
 ·simp [Result.andThen,sliced,h]
 ·simp [Result.andThen,sliced,h,Addr.add]
  intro h0
  exact h0.symm
theorem slice_upto {g n s:Nat} (hs:s≤n) (W:World):(Instr.slice 132 (.slice (some ⟨g,0,none⟩) n n) none (some (.int .i64 s)) none).run Tryz.prog W=.ok (.slice (some ⟨g,0,none⟩) s n) W:=by
 rw [run_slice_h W _ _ _ _ underOwn .i64 _ (by omega) (by omega),elemOwn,sizeOwn]
 simp [Result.andThen,sliced,Addr.add]
structure Prn (f:Int) (az bs:List Au) (s k:Nat):Prop where
 len:bs.length=az.length
 le:s≤k
 front:bs.take s=(az.take k).filter (keepP f)
 rest:∀ j,k≤j→j<az.length→auAt bs j=auAt az j
theorem Prn.start (f:Int) (az:List Au):Prn f az az 0 0:=⟨rfl,Nat.le_refl _,rfl,fun _ _ _=>rfl⟩
theorem Prn.skip {f:Int} {az bs:List Au} {s k:Nat} (h:Prn f az bs s k) (hk:k<az.length) (hq:keepP f (auAt az k)=false):Prn f az bs s (k+1) :=
 ⟨h.len,Nat.le_succ_of_le h.le,by rw [take_filter f az k hk,hq,h.front];simp,fun j h1 h2=>h.rest j (by omega) h2⟩
theorem Prn.keep {f:Int} {az bs:List Au} {s k:Nat} (h:Prn f az bs s k) (hk:k<az.length) (hq:keepP f (auAt az k)=true):Prn f az (bs.set s (auAt az k)) (s+1) (k+1):=by
 have hl:=h.len
 have hle:=h.le
 refine ⟨by rw [List.length_set];exact hl,by omega,?_,fun j h1 h2=>?_⟩
 ·rw [take_filter f az k hk,hq,if_pos rfl,← h.front,List.take_succ_eq_append_getElem (by rw [List.length_set];omega),List.take_set_of_le (Nat.le_refl s),List.getElem_set_self]
 ·rw [auAt_is (by rw [List.length_set];omega),List.getElem_set_ne (by omega),← auAt_is (by omega)]
  exact h.rest j (by omega) h2
theorem pruned_any (g base:Nat) (az:List Au) (f:Int) (w:World) (ho:w.ownsRow base 107 6 (.slice (some ⟨g,0,none⟩) az.length az.length) az.length (acells az)) (hn:az.length≤4194304) :
  Calls Tryz.prog 247 #[.slice (some ⟨g,0,none⟩) az.length az.length,.int .i64 f] w fun e w'=>e=.returned (.slice (some ⟨g,0,none⟩) (az.filter (keepP f)).length az.length) ∧
   w'.ownsRow base 107 6 (.slice (some ⟨g,0,none⟩) (az.filter (keepP f)).length az.length) (az.filter (keepP f)).length (acells (az.filter (keepP f)))∧w.grownBy w' (some g):=by
 have HO0:Hid _:=ho
 clear ho
 go_enter Tryz.func247,Tryz.ntmps247
 go_wp2
 go_loopw [5,7,10] (fun s _ i wr=>∃ (k y:Nat) (bs:List Au),k≤az.length∧i=.int .i64 k∧s=.int .i64 y∧Prn f az bs y k∧wr.ownsRow base 107 6 (.slice (some ⟨g,0,none⟩) az.length az.length) az.length (acells bs)∧w.grownBy wr (some g)) (fun _ _ i _=>az.length - (intOf i).toNat)
 case atStart=>exact ⟨0,0,az,Nat.zero_le _,rfl,rfl,Prn.start f az,HO0.out,World.grownBy.refl _ _⟩
 case round =>
  obtain ⟨k,y,bs,hk,rfl,rfl,hp,hor,hgr⟩:=hrel
  have hyk:=hp.le
  have HP:Hid (Prn f az bs y k):=hp
  have HBL:Hid (bs.length=az.length):=hp.len
  clear hp HO0
  by_cases hlt:k<az.length
  ·have hki:(k:Int)<(az.length:Int):=by omega
   have hat:=acells_at bs k (by have:=HBL.out;omega)
   rw [HP.out.rest k (Nat.le_refl _) hlt] at hat
   have x0:wr.cell? ⟨g,k*6,none⟩=some (.string ⟨(auAt az k).ref.toArray⟩):=by rw [hor.cellAt (k*6) (by omega)];exact hat.1
   have x1:wr.cell? ⟨g,k*6+1,none⟩=some (.int .i64 (auAt az k).iss):=by rw [hor.cellAt (k*6+1) (by omega)];exact hat.2.1
   have x2:wr.cell? ⟨g,k*6+2,none⟩=some (.int .i64 (auAt az k).cur):=by rw [hor.cellAt (k*6+2) (by omega)];exact hat.2.2.1
   have x3:wr.cell? ⟨g,k*6+3,none⟩=some (.int .i64 (auAt az k).am):=by rw [hor.cellAt (k*6+3) (by omega)];exact hat.2.2.2.1
   have x4:wr.cell? ⟨g,k*6+4,none⟩=some (.int .i64 (auAt az k).day):=by rw [hor.cellAt (k*6+4) (by omega)];exact hat.2.2.2.2.1
   have x5:wr.cell? ⟨g,k*6+5,none⟩=some (.bool (auAt az k).used):=by rw [hor.cellAt (k*6+5) (by omega)];exact hat.2.2.2.2.2
   have HK:Hid (keepP f (auAt az k)=(!(auAt az k).used && decide (f≤(auAt az k).day))):=rfl
   have HTK:Hid (keepP f (auAt az k)=true→Prn f az (bs.set y (auAt az k)) (y+1) (k+1)):=fun h=>HP.out.keep hlt h
   have HTS:Hid (keepP f (auAt az k)=false→Prn f az bs y (k+1)):=fun h=>HP.out.skip hlt h
   have HST:Hid _:=acells_set bs (auAt az k) y (by have:=HBL.out;omega)
   obtain ⟨⟨r,i,c,m,d,u⟩,hf⟩:∃ a,auAt az k=a:=⟨_,rfl⟩
   rw [hf] at x0 x1 x2 x3 x4 x5 HK HTK HTS HST
   simp only at x0 x1 x2 x3 x4 x5 HK HST
   have HO:Hid (wr.ownsRow base 107 6 (.slice (some ⟨g,0,none⟩) az.length az.length) az.length (acells bs)):=hor
   have HG:Hid (w.grownBy wr (some g)):=hgr
   have hgl:g<wr.heap.size:=(hor.lt g rfl).2
   clear hf hor hgr hat
   go_upto_region 5 with fail
   clear x0 x1 x2 x3 x4 x5
   obtain ⟨W,hW⟩:∃ W,wr.alloc (.cells #[.string ⟨r.toArray⟩,.int .i64 i,.int .i64 c,.int .i64 m,.int .i64 d,.bool u] 107)=W:=⟨_,rfl⟩
   have bW:Below wr.heap.size wr W:=hW ▸ (Below.refl _ _).alloc (Nat.le_refl _) _
   have BX:AuB wr.heap.size ⟨r,i,c,m,d,u⟩ W:=hW ▸ AuB.new wr ⟨r,i,c,m,d,u⟩ _
   rw [hW]
   clear hW
   have oW:=keepA HO.out bW
   have gW:w.grownBy W (some g):=HG.out.trans ⟨bW.os,bW.tape,bW.output,bW.size,fun j hj _=>bW.block j hj⟩
   have HOW:Hid (W.ownsRow base 107 6 (.slice (some ⟨g,0,none⟩) az.length az.length) az.length (acells bs)):=oW
   have HGW:Hid (w.grownBy W (some g)):=gW
   obtain ⟨q0,q1,q2,q3,q4,q5⟩:=BX
   simp only at q0 q1 q2 q3 q4 q5
   cases u
   ·by_cases hfd:f≤d
    ·have HY:Hid (Prn f az (bs.set y ⟨r,i,c,m,d,false⟩) (y+1) (k+1)):=HTK.out (by rw [HK.out,decide_eq_true hfd];rfl)
     have hat2:=acells_at bs y (by have:=HBL.out;omega)
     have y0:W.cell? ⟨g,y*6,none⟩=some (.string ⟨(auAt bs y).ref.toArray⟩):=by rw [oW.cellAt (y*6) (by omega)];exact hat2.1
     have z0:W.frozen? ⟨g,y*6,none⟩=false:=oW.frozenAt _
     have y1:W.cell? ⟨g,y*6+1,none⟩=some (.int .i64 (auAt bs y).iss):=by rw [oW.cellAt (y*6+1) (by omega)];exact hat2.2.1
     have z1:W.frozen? ⟨g,y*6+1,none⟩=false:=oW.frozenAt _
     have y2:W.cell? ⟨g,y*6+2,none⟩=some (.int .i64 (auAt bs y).cur):=by rw [oW.cellAt (y*6+2) (by omega)];exact hat2.2.2.1
     have z2:W.frozen? ⟨g,y*6+2,none⟩=false:=oW.frozenAt _
     have y3:W.cell? ⟨g,y*6+3,none⟩=some (.int .i64 (auAt bs y).am):=by rw [oW.cellAt (y*6+3) (by omega)];exact hat2.2.2.2.1
     have z3:W.frozen? ⟨g,y*6+3,none⟩=false:=oW.frozenAt _
     have y4:W.cell? ⟨g,y*6+4,none⟩=some (.int .i64 (auAt bs y).day):=by rw [oW.cellAt (y*6+4) (by omega)];exact hat2.2.2.2.2.1
     have z4:W.frozen? ⟨g,y*6+4,none⟩=false:=oW.frozenAt _
     have y5:W.cell? ⟨g,y*6+5,none⟩=some (.bool (auAt bs y).used):=by rw [oW.cellAt (y*6+5) (by omega)];exact hat2.2.2.2.2.2
     have z5:W.frozen? ⟨g,y*6+5,none⟩=false:=oW.frozenAt _
     obtain ⟨⟨r',i',c',m',d',u'⟩,hf'⟩:∃ a,auAt bs y=a:=⟨_,rfl⟩
     rw [hf'] at y0 y1 y2 y3 y4 y5
     simp only at y0 y1 y2 y3 y4 y5
     have HR:Hid ((((((((W.setCell ⟨g,y*6,none⟩ (.string ⟨r.toArray⟩)).setCell ⟨g,y*6+1,none⟩ (.int .i64 i)).setCell ⟨g,y*6+2,none⟩ (.int .i64 c)).setCell ⟨g,y*6+3,none⟩ (.int .i64 m)).setCell ⟨g,y*6+4,none⟩ (.int .i64 d)).setCell ⟨g,y*6+5,none⟩ (.bool false))).ownsRow base 107 6 (.slice (some ⟨g,0,none⟩) az.length az.length) az.length (acells (bs.set y ⟨r,i,c,m,d,false⟩))):=by
      have R:=(((((((oW.stored (y*6) (.string ⟨r.toArray⟩)).1.stored (y*6+1) (.int .i64 i)).1.stored (y*6+2) (.int .i64 c)).1.stored (y*6+3) (.int .i64 m)).1.stored (y*6+4) (.int .i64 d)).1.stored (y*6+5) (.bool false))).1
      rw [HST.out] at R
      exact R
     have HGR:Hid (w.grownBy (((((((W.setCell ⟨g,y*6,none⟩ (.string ⟨r.toArray⟩)).setCell ⟨g,y*6+1,none⟩ (.int .i64 i)).setCell ⟨g,y*6+2,none⟩ (.int .i64 c)).setCell ⟨g,y*6+3,none⟩ (.int .i64 m)).setCell ⟨g,y*6+4,none⟩ (.int .i64 d)).setCell ⟨g,y*6+5,none⟩ (.bool false))) (some g)):=gW.trans (((((((oW.stored (y*6) (.string ⟨r.toArray⟩)).2).trans ((oW.stored (y*6) (.string ⟨r.toArray⟩)).1.stored (y*6+1) (.int .i64 i)).2).trans (((oW.stored (y*6) (.string ⟨r.toArray⟩)).1.stored (y*6+1) (.int .i64 i)).1.stored (y*6+2) (.int .i64 c)).2).trans ((((oW.stored (y*6) (.string ⟨r.toArray⟩)).1.stored (y*6+1) (.int .i64 i)).1.stored (y*6+2) (.int .i64 c)).1.stored (y*6+3) (.int .i64 m)).2).trans (((((oW.stored (y*6) (.string ⟨r.toArray⟩)).1.stored (y*6+1) (.int .i64 i)).1.stored (y*6+2) (.int .i64 c)).1.stored (y*6+3) (.int .i64 m)).1.stored (y*6+4) (.int .i64 d)).2).trans ((((((oW.stored (y*6) (.string ⟨r.toArray⟩)).1.stored (y*6+1) (.int .i64 i)).1.stored (y*6+2) (.int .i64 c)).1.stored (y*6+3) (.int .i64 m)).1.stored (y*6+4) (.int .i64 d)).1.stored (y*6+5) (.bool false)).2)
     have hyl:(y:Int)<(az.length:Int):=by omega
     clear hf' hat2 oW gW bW HO HG HOW HGW HP HK HTK HTS HST HBL
     go_wp2
     go_roundw
     case rel=>exact ⟨k+1,y+1,_,by omega,by go_num,by go_num,HY.out,HR.out,HGR.out⟩
     case measure=>simp [intOf];omega
    ·have HY:Hid (Prn f az bs y (k+1)):=HTS.out (by rw [HK.out,decide_eq_false hfd];rfl)
     clear oW gW bW HO HG HP HK HTK HTS HST HBL
     go_wp2
     go_roundw
     case rel=>exact ⟨k+1,y,bs,by omega,by go_num,rfl,HY.out,HOW.out,HGW.out⟩
     case measure=>simp [intOf];omega
   ·have HY:Hid (Prn f az bs y (k+1)):=HTS.out (by rw [HK.out];rfl)
    clear oW gW bW HO HG HP HK HTK HTS HST HBL
    go_wp2
    go_roundw
    case rel=>exact ⟨k+1,y,bs,by omega,by go_num,rfl,HY.out,HOW.out,HGW.out⟩
    case measure=>simp [intOf];omega
  ·have hke:k=az.length:=by omega
   subst hke
   have hfr:bs.take y=az.filter (keepP f):=by have:=HP.out.front;rwa [List.take_length] at this
   have hfl:(az.filter (keepP f)).length=y:=by rw [← hfr,List.length_take,HBL.out];omega
   have htk:(acells bs).take (y*6)=acells (az.filter (keepP f)):=by
    have e:acells bs=acells (bs.take y)++acells (bs.drop y):=by rw [← acells_append,List.take_append_drop]
    rw [e,List.take_append_of_le_length (by rw [acells_len,List.length_take,HBL.out];omega),List.take_of_length_le (by rw [acells_len,List.length_take,HBL.out];omega),hfr]
   have HFL:Hid _:=hfl
   have HTK:Hid _:=htk
   have HO:Hid (wr.ownsRow base 107 6 (.slice (some ⟨g,0,none⟩) az.length az.length) az.length (acells bs)):=hor
   have HG:Hid (w.grownBy wr (some g)):=hgr
   have hs1:=slice_from (g:=g) (n:=az.length) (s:=y) hyk
   have hs2:=slice_upto (g:=g) (n:=az.length) (s:=y) hyk
   by_cases hye:az.length=y
   ·have HR:Hid (wr.ownsRow base 107 6 (.slice (some ⟨g,0,none⟩) y az.length) y (acells (az.filter (keepP f)))):=by
      have:=own_cut HO.out hyk
      rwa [HTK.out] at this
    rw [hye,Nat.sub_self,if_pos rfl] at hs1
    rw [hye] at hs2
    have HYE:Hid _:=hye
    have hcl:∀ ty,(Builtin.clear_ #[132] ty #[.slice (some ⟨g,0,none⟩) 0 0]).run Tryz.prog wr=.ok (.tuple #[]) wr:=fun ty=>by
     simp [Builtin.clear_,run_underlying Tryz.underlying132]
    rw [hye] at HR hn ⊢
    clear hor hgr hfr hfl htk HP HBL hye hyk hk hlt HO HTK
    go_wp2
    go_ret
    rw [HFL.out,HYE.out]
    exact ⟨rfl,HR.out,HG.out⟩
   ·obtain ⟨V,ys,hcl,oV,htv,gV⟩:=clear_rows HO.out (show y<az.length by omega)
    have HR:Hid (V.ownsRow base 107 6 (.slice (some ⟨g,0,none⟩) y az.length) y (acells (az.filter (keepP f)))):=by
     have:=own_cut oV hyk
     rwa [htv,HTK.out] at this
    have HGV:Hid (w.grownBy V (some g)):=HG.out.trans gV
    rw [if_neg hye] at hs1
    clear hor hgr hfr hfl htk HP HBL HO HTK oV htv gV
    go_wp2
    go_ret
    rw [HFL.out]
    exact ⟨rfl,HR.out,HGV.out⟩
theorem iPrune_any (ao:Option Addr) (cap:Nat) (az:List Au) (t:Int) (w:World) (hz:AuthsAt w ao az) (hn:az.length≤4194304) (hd:∀ a ∈ az,a.ref.length≤1099511627776) :
  Calls Tryz.prog 207 #[.slice ao az.length cap,.int .i64 t] w (AuR1 w (pruneL az t)):=by
 cases hq:dOk t
 ·have HL:Hid (pruneL az t=[]):=by rw [Hid,pruneL,if_neg (by rw [hq];decide)]
  go_enter Tryz.func207,Tryz.ntmps207
  go_wp2_with fail
  refine (iDayOk_any t _).mono ?_
  rintro e w1 ⟨rfl,hw⟩
  subst hw
  rw [hq]
  go_wp2
  go_ret
  rw [HL.out]
  exact ⟨none,0,rfl,World.ownsRow_nil _ _ _ _,Below.refl _ _⟩
 ·have htb:=dOk_bd hq
  have HL:Hid (pruneL az t=az.filter (keepP (t - 7))):=by rw [Hid,pruneL,if_pos hq]
  go_enter Tryz.func207,Tryz.ntmps207
  go_wp2_with fail
  refine (iDayOk_any t _).mono ?_
  rintro e w1 ⟨rfl,hw⟩
  subst hw
  rw [hq]
  go_wp2_with fail
  refine (copyAuths_any _ _ _ _ hz hn hd).mono ?_
  rintro e w2 ⟨rfl,o2,b2⟩
  have HO:Hid _:=o2
  have HB:Hid _:=b2
  clear o2 b2 hz
  go_wp2_with fail
  refine (pruned_any _ _ _ _ _ HO.out hn).mono ?_
  rintro e w3 ⟨rfl,o3,g3⟩
  have HO3:Hid _:=o3
  have HG3:Hid _:=HB.out.grown g3 HB.out.size (fun k hk=>by cases hk;exact Nat.le_refl _)
  clear o3 g3 HO HB
  go_wp2
  go_ret
  rw [HL.out]
  exact ⟨_,_,rfl,HO3.out,HG3.out⟩
theorem sPrune_any (ao:Option Addr) (cap:Nat) (az:List Au) (t:Int) (w:World) (hz:AuthsAt w ao az) (hn:az.length≤4194304) :
  Calls Tryz.prog 178 #[.slice ao az.length cap,.int .i64 t] w (AuR1 w (pruneL az t)):=by
 have bA:Below w.heap.size w (w.alloc (.cells #[] 107)):=(Below.refl _ _).alloc (Nat.le_refl _) _
 have oA:=auLit w
 have HDY:Hid (∀ u,Calls Tryz.prog 102 #[.int .i64 t] u fun e w'=>e=.returned (.bool (dOk t))∧w'=u):=fun u=>sDayOk_any t u
 cases hq:dOk t
 ·have HL:Hid (pruneL az t=[]):=by rw [Hid,pruneL,if_neg (by rw [hq];decide)]
  rw [hq] at HDY
  have HO:Hid _:=And.intro oA bA
  clear oA bA
  by_cases h0:0<az.length
  ·have h0':(0:Int)<(az.length:Int):=by omega
   go_enter Tryz.func178,Tryz.ntmps178
   go_wp2
   refine wp_loop_rounds 1 ?_
   rw [rounds_succ]
   go_wp2_with fail
   refine (HDY.out _).mono ?_
   rintro e w1 ⟨rfl,hw⟩
   subst hw
   go_wp2
   go_ret
   rw [HL.out]
   exact ⟨_,_,rfl,HO.out.1,HO.out.2⟩
  ·have h0':¬ (0:Int)<(az.length:Int):=by omega
   go_enter Tryz.func178,Tryz.ntmps178
   go_wp2
   refine wp_loop_rounds 1 ?_
   rw [rounds_succ]
   go_wp2
   go_ret
   rw [HL.out]
   exact ⟨_,_,rfl,HO.out.1,HO.out.2⟩
 ·have htb:=dOk_bd hq
  have HL:Hid (pruneL az t=az.filter (keepP (t - 7))):=by rw [Hid,pruneL,if_pos hq]
  rw [hq] at HDY
  rcases hz with rfl | ⟨b,off,rfl,hb,hcell⟩
  ·have HO:Hid _:=And.intro oA bA
   clear oA bA
   go_enter Tryz.func178,Tryz.ntmps178
   go_wp2
   refine wp_loop_rounds 1 ?_
   rw [rounds_succ]
   go_wp2
   go_ret
   rw [HL.out]
   exact ⟨_,_,rfl,HO.out.1,HO.out.2⟩
  have HC:Hid (∀ i,i<az.length→w.cell? ⟨b,off+i*6,none⟩=some (.string ⟨(auAt az i).ref.toArray⟩)∧w.cell? ⟨b,off+i*6+1,none⟩=some (.int .i64 (auAt az i).iss)∧w.cell? ⟨b,off+i*6+2,none⟩=some (.int .i64 (auAt az i).cur)∧w.cell? ⟨b,off+i*6+3,none⟩=some (.int .i64 (auAt az i).am)∧w.cell? ⟨b,off+i*6+4,none⟩=some (.int .i64 (auAt az i).day)∧w.cell? ⟨b,off+i*6+5,none⟩=some (.bool (auAt az i).used)):=hcell
  clear hcell
  go_enter Tryz.func178,Tryz.ntmps178
  go_wp2
  go_loopw [5,6] (fun v i wr=>∃ (k:Nat) (ao:Option Addr) (c:Nat),k≤az.length∧i=.int .i64 k∧v=.slice ao ((az.take k).filter (keepP (t - 7))).length c∧wr.ownsRow w.heap.size 107 6 (.slice ao ((az.take k).filter (keepP (t - 7))).length c) ((az.take k).filter (keepP (t - 7))).length (acells ((az.take k).filter (keepP (t - 7))))∧Below w.heap.size w wr) (fun _ i _=>az.length - (intOf i).toNat)
  case atStart=>exact ⟨0,_,_,Nat.zero_le _,rfl,rfl,oA,bA⟩
  case round =>
   obtain ⟨k,ao,cc,hk,rfl,rfl,hor,hbr⟩:=hrel
   clear oA bA
   by_cases hlt:k<az.length
   ·have x0:wr.cell? ⟨b,off+k*6,none⟩=some (.string ⟨(auAt az k).ref.toArray⟩):=(hbr.cell (p:=⟨b,off+k*6,none⟩) hb).trans (HC.out k hlt).1
    have x1:wr.cell? ⟨b,off+k*6+1,none⟩=some (.int .i64 (auAt az k).iss):=(hbr.cell (p:=⟨b,off+k*6+1,none⟩) hb).trans (HC.out k hlt).2.1
    have x2:wr.cell? ⟨b,off+k*6+2,none⟩=some (.int .i64 (auAt az k).cur):=(hbr.cell (p:=⟨b,off+k*6+2,none⟩) hb).trans (HC.out k hlt).2.2.1
    have x3:wr.cell? ⟨b,off+k*6+3,none⟩=some (.int .i64 (auAt az k).am):=(hbr.cell (p:=⟨b,off+k*6+3,none⟩) hb).trans (HC.out k hlt).2.2.2.1
    have x4:wr.cell? ⟨b,off+k*6+4,none⟩=some (.int .i64 (auAt az k).day):=(hbr.cell (p:=⟨b,off+k*6+4,none⟩) hb).trans (HC.out k hlt).2.2.2.2.1
    have x5:wr.cell? ⟨b,off+k*6+5,none⟩=some (.bool (auAt az k).used):=(hbr.cell (p:=⟨b,off+k*6+5,none⟩) hb).trans (HC.out k hlt).2.2.2.2.2
    have hki:(k:Int)<(az.length:Int):=by omega
    have HTF:Hid _:=take_filter (t - 7) az k hlt
    have HK:Hid (keepP (t - 7) (auAt az k)=(!(auAt az k).used && decide (t - 7≤(auAt az k).day))):=rfl
    have hll:((az.take k).filter (keepP (t - 7))).length≤k:=Nat.le_trans (List.length_filter_le _ _) (by simp;omega)
    obtain ⟨B,hB⟩:∃ B,(az.take k).filter (keepP (t - 7))=B:=⟨_,rfl⟩
    obtain ⟨⟨r,i,c,m,d,u⟩,hf⟩:∃ a,auAt az k=a:=⟨_,rfl⟩
    rw [hf] at x0 x1 x2 x3 x4 x5 HK HTF
    rw [hB] at hor hll HTF ⊢
    simp only at x0 x1 x2 x3 x4 x5 HK
    have HO:Hid (wr.ownsRow w.heap.size 107 6 (.slice ao B.length cc) B.length (acells B)):=hor
    have HB:Hid (Below w.heap.size w wr):=hbr
    clear hB hf hor hbr
    go_wp2_with fail
    refine (HDY.out _).mono ?_
    rintro e w1 ⟨rfl,hw⟩
    subst hw
    cases u
    ·by_cases hfd:t - 7≤d
     ·have HE:Hid ((az.take (k+1)).filter (keepP (t - 7))=B++[⟨r,i,c,m,d,false⟩]):=by rw [Hid,HTF.out,HK.out,decide_eq_true hfd];rfl
      have HON:Hid (AuthsAt (w1.alloc (.cells #[.string ⟨r.toArray⟩,.int .i64 i,.int .i64 c,.int .i64 m,.int .i64 d,.bool false] 107)) (some ⟨w1.heap.size,0,none⟩) [⟨r,i,c,m,d,false⟩]):=au_one (AuB.new w1 ⟨r,i,c,m,d,false⟩ _)
      have HOA:Hid ((w1.alloc (.cells #[.string ⟨r.toArray⟩,.int .i64 i,.int .i64 c,.int .i64 m,.int .i64 d,.bool false] 107)).ownsRow w.heap.size 107 6 (.slice ao B.length cc) B.length (acells B)):=keepA HO.out ((Below.refl _ _).alloc (Nat.le_refl _) _)
      have hwz:w.heap.size≤w1.heap.size:=HB.out.size
      go_wp2_with (at_builtin;refine wpList_append_auths _ rfl (.tmp 34) (.tmp 39) rfl w.heap.size (.slice ao B.length cc) B.length (acells B) rfl HOA.out (some ⟨w1.heap.size,0,none⟩) 1 [⟨r,i,c,m,d,false⟩] rfl HON.out (by simp;omega) (by simp;omega) ?_;intro v2 w2 o2 g2 n2)
      obtain ⟨a2,c2,rfl⟩:=auShape o2
      have HO2:Hid (w2.ownsRow w.heap.size 107 6 (.slice a2 (B++([⟨r,i,c,m,d,false⟩]:List Au)).length c2) (B++([⟨r,i,c,m,d,false⟩]:List Au)).length (acells (B++[⟨r,i,c,m,d,false⟩]))):=by rw [Hid,List.length_append,acells_append];exact o2
      have HB2:Hid (Below w.heap.size w w2):=(HB.out.alloc HB.out.size _).grown g2 (by simp;omega) (fun j hj=>(HOA.out.lt j hj).1)
      clear o2 g2 n2 HOA HON HTF HK
      go_wp2
      go_roundw
      case rel=>exact ⟨k+1,a2,c2,by omega,by go_num,by rw [HE.out,List.length_append],by rw [HE.out];exact HO2.out,HB2.out⟩
      case measure=>simp [intOf];omega
     ·have HE:Hid ((az.take (k+1)).filter (keepP (t - 7))=B):=by rw [Hid,HTF.out,HK.out,decide_eq_false hfd];simp
      clear HTF HK
      go_wp2
      go_roundw
      case rel=>exact ⟨k+1,ao,cc,by omega,by go_num,by rw [HE.out],by rw [HE.out];exact HO.out,HB.out⟩
      case measure=>simp [intOf];omega
    ·have HE:Hid ((az.take (k+1)).filter (keepP (t - 7))=B):=by rw [Hid,HTF.out,HK.out];simp
     clear HTF HK
     go_wp2
     go_roundw
     case rel=>exact ⟨k+1,ao,cc,by omega,by go_num,by rw [HE.out],by rw [HE.out];exact HO.out,HB.out⟩
     case measure=>simp [intOf];omega
   ·have hke:k=az.length:=by omega
    subst hke
    rw [List.take_length] at hor ⊢
    have HO:Hid _:=And.intro hor hbr
    clear hor hbr
    go_wp2
    go_ret
    rw [HL.out]
    exact ⟨_,_,rfl,HO.out.1,HO.out.2⟩
def useOk (az:List Au) (i:Int):Bool:=decide (0≤i∧i<az.length) && !(auAt az i.toNat).used
def usedAu (a:Au):Au:=⟨a.ref,a.iss,a.cur,a.am,a.day,true⟩
def useL (az:List Au) (i:Int):List Au:=if useOk az i=true then az.set i.toNat (usedAu (auAt az i.toNat)) else az
theorem useL_len (az:List Au) (i:Int):(useL az i).length=az.length:=by unfold useL;split <;> simp
theorem useL_no {az:List Au} {i:Int} (h:useOk az i=false):useL az i=az:=by rw [useL,if_neg (by rw [h];decide)]
theorem iUse_any (ao:Option Addr) (cap:Nat) (az:List Au) (i:Int) (w:World) (hz:AuthsAt w ao az) (hn:az.length≤4194304) (hd:∀ a ∈ az,a.ref.length≤1099511627776) :
  Calls Tryz.prog 212 #[.slice ao az.length cap,.int .i64 i] w (AuR2 w (useL az i) (useOk az i)):=by
 by_cases h0:i<0
 ·have HQ:Hid (useOk az i=false):=by rw [Hid,useOk,decide_eq_false (by omega)];rfl
  go_enter Tryz.func212,Tryz.ntmps212
  go_wp2_with fail
  refine (copyAuths_any _ _ _ _ hz hn hd).mono ?_
  rintro e w1 ⟨rfl,o1,b1⟩
  have HO:Hid _:=And.intro o1 b1
  clear o1 b1 hz
  go_wp2
  go_ret2
  rw [HQ.out,useL_no HQ.out]
  exact ⟨_,_,rfl,HO.out.1,HO.out.2⟩
 by_cases h1:(az.length:Int)≤i
 ·have HQ:Hid (useOk az i=false):=by rw [Hid,useOk,decide_eq_false (by omega)];rfl
  go_enter Tryz.func212,Tryz.ntmps212
  go_wp2_with fail
  refine (copyAuths_any _ _ _ _ hz hn hd).mono ?_
  rintro e w1 ⟨rfl,o1,b1⟩
  have HO:Hid _:=And.intro o1 b1
  clear o1 b1 hz
  go_wp2
  go_ret2
  rw [HQ.out,useL_no HQ.out]
  exact ⟨_,_,rfl,HO.out.1,HO.out.2⟩
 obtain ⟨k,rfl⟩:=Int.eq_ofNat_of_zero_le (show 0≤i by omega)
 have hk:k<az.length:=by omega
 have hlt:(k:Int)<(az.length:Int):=by omega
 have HAT:Hid ((acells az)[k*6+5]?=some (.bool (auAt az k).used)):=(acells_at az k hk).2.2.2.2.2
 have HST:Hid ((acells az).set (k*6+5) (.bool true)=acells (az.set k (usedAu (auAt az k)))):=acells_set5 az true k hk
 have HU:Hid (useOk az (k:Int) = !(auAt az k).used):=by rw [Hid,useOk,decide_eq_true (show 0≤(k:Int)∧(k:Int)<az.length by omega),Bool.true_and,Int.toNat_natCast]
 have HUL:Hid (useOk az (k:Int)=true→useL az (k:Int)=az.set k (usedAu (auAt az k))):=fun h=>by rw [useL,if_pos h,Int.toNat_natCast]
 obtain ⟨us,hus⟩:∃ us,(auAt az k).used=us:=⟨_,rfl⟩
 rw [hus] at HAT HU
 clear hus
 go_enter Tryz.func212,Tryz.ntmps212
 go_wp2_with fail
 refine (copyAuths_any _ _ _ _ hz hn hd).mono ?_
 rintro e w1 ⟨rfl,o1,b1⟩
 have y5:w1.cell? ⟨w.heap.size,k*6+5,none⟩=some (.bool us):=by rw [o1.cellAt (k*6+5) (by omega)];exact HAT.out
 have z5:w1.frozen? ⟨w.heap.size,k*6+5,none⟩=false:=o1.frozenAt _
 have HO:Hid _:=And.intro o1 b1
 clear o1 b1 hz
 cases us
 ·have HQ:Hid (useOk az (k:Int)=true):=HU.out
  have HR:Hid ((w1.setCell ⟨w.heap.size,k*6+5,none⟩ (.bool true)).ownsRow w.heap.size 107 6 (.slice (some ⟨w.heap.size,0,none⟩) az.length az.length) az.length (acells (az.set k (usedAu (auAt az k))))):=by
   have R:=(HO.out.1.stored (k*6+5) (.bool true)).1
   rw [HST.out] at R
   exact R
  go_wp2
  go_ret2
  rw [HQ.out,HUL.out HQ.out]
  exact ⟨some ⟨w.heap.size,0,none⟩,az.length,by rw [List.length_set];rfl,by rw [List.length_set];exact HR.out,HO.out.2.setCell (Nat.le_refl _) _⟩
 ·have HQ:Hid (useOk az (k:Int)=false):=HU.out
  go_wp2
  go_ret2
  rw [HQ.out,useL_no HQ.out]
  exact ⟨_,_,rfl,HO.out.1,HO.out.2⟩
theorem sUse_any (ao:Option Addr) (cap:Nat) (az:List Au) (i:Int) (w:World) (hz:AuthsAt w ao az) (hn:az.length≤4194304) :
  Calls Tryz.prog 183 #[.slice ao az.length cap,.int .i64 i] w (AuR2 w (useL az i) (useOk az i)):=by
 have bA:Below w.heap.size w (w.alloc (.cells #[] 107)):=(Below.refl _ _).alloc (Nat.le_refl _) _
 have HZ1:Hid (AuthsAt (w.alloc (.cells #[] 107)) ao az):=hz.below bA
 have HO1:=auLit w
 have HIN:Hid (∀ u,Calls Tryz.prog 134 #[.int .i64 i,.int .i64 0,.int .i64 ((az.length:Int) - 1)] u fun e w'=>e=.returned (.bool (decide (0≤i∧i<az.length)))∧w'=u):=fun u=>by
  have:=in_any i 0 ((az.length:Int) - 1) u
  rwa [show inB i 0 ((az.length:Int) - 1)=decide (0≤i∧i<az.length) by unfold inB;exact decide_eq_decide.2 (by omega)] at this
 by_cases hin:0≤i∧i<az.length
 ·obtain ⟨k,rfl⟩:=Int.eq_ofNat_of_zero_le hin.1
  have hk:k<az.length:=by omega
  have hlt:(k:Int)<(az.length:Int):=by omega
  rw [decide_eq_true hin] at HIN
  have HAT:Hid ((acells az)[k*6+5]?=some (.bool (auAt az k).used)):=(acells_at az k hk).2.2.2.2.2
  have HST:Hid ((acells az).set (k*6+5) (.bool true)=acells (az.set k (usedAu (auAt az k)))):=acells_set5 az true k hk
  have HU:Hid (useOk az (k:Int) = !(auAt az k).used):=by rw [Hid,useOk,decide_eq_true (show 0≤(k:Int)∧(k:Int)<az.length by omega),Bool.true_and,Int.toNat_natCast]
  have HUL:Hid (useOk az (k:Int)=true→useL az (k:Int)=az.set k (usedAu (auAt az k))):=fun h=>by rw [useL,if_pos h,Int.toNat_natCast]
  rcases hz with rfl | ⟨b,off,rfl,hb,hcell⟩
  ·simp at hk
  have HC5:Hid (w.cell? ⟨b,off+k*6+5,none⟩=some (.bool (auAt az k).used)):=(hcell k hk).2.2.2.2.2
  obtain ⟨us,hus⟩:∃ us,(auAt az k).used=us:=⟨_,rfl⟩
  rw [hus] at HAT HU HC5
  clear hus hcell hin
  go_enter Tryz.func183,Tryz.ntmps183
  go_wp2_with (at_builtin;refine wpList_append_auths _ rfl (.tmp 7) (.tmp 8) rfl w.heap.size (.slice (some ⟨w.heap.size,0,none⟩) 0 0) 0 [] rfl HO1 _ cap az rfl HZ1.out (by omega) (by simp) ?_;intro v2 w2 o2 g2 n2)
  obtain ⟨g,cc,rfl⟩:=au_notnil o2 (n2 (by simp))
  simp only [Nat.zero_add,List.nil_append] at o2 ⊢
  have b2:Below w.heap.size w w2:=bA.grown g2 (by simp) (fun j hj=>by cases hj;exact Nat.le_refl _)
  have y5:w2.cell? ⟨g,k*6+5,none⟩=some (.bool us):=by rw [o2.cellAt (k*6+5) (by omega)];exact HAT.out
  have z5:w2.frozen? ⟨g,k*6+5,none⟩=false:=o2.frozenAt _
  have x5:w2.cell? ⟨b,off+k*6+5,none⟩=some (.bool us):=(b2.cell (p:=⟨b,off+k*6+5,none⟩) hb).trans HC5.out
  have HB:Hid (Below w.heap.size w w2):=b2
  have HO:Hid (w2.ownsRow w.heap.size 107 6 (.slice (some ⟨g,0,none⟩) az.length cc) az.length (acells az)):=o2
  have hgw:=(o2.lt g rfl).1
  clear o2 b2 g2 n2 HO1 bA
  go_wp2_with fail
  refine (HIN.out _).mono ?_
  rintro e w3 ⟨rfl,hw3⟩
  subst hw3
  cases us
  ·have HQ:Hid (useOk az (k:Int)=true):=HU.out
   have HR:Hid ((w3.setCell ⟨g,k*6+5,none⟩ (.bool true)).ownsRow w.heap.size 107 6 (.slice (some ⟨g,0,none⟩) az.length cc) az.length (acells (az.set k (usedAu (auAt az k))))):=by
    have R:=(HO.out.stored (k*6+5) (.bool true)).1
    rw [HST.out] at R
    exact R
   go_wp2
   go_ret2
   rw [HQ.out,HUL.out HQ.out]
   exact ⟨some ⟨g,0,none⟩,cc,by rw [List.length_set];rfl,by rw [List.length_set];exact HR.out,HB.out.setCell hgw _⟩
  ·have HQ:Hid (useOk az (k:Int)=false):=HU.out
   go_wp2
   go_ret2
   rw [HQ.out,useL_no HQ.out]
   exact ⟨_,_,rfl,HO.out,HB.out⟩
 ·have HQ:Hid (useOk az i=false):=by rw [Hid,useOk,decide_eq_false hin];rfl
  rw [decide_eq_false hin] at HIN
  clear hin
  go_enter Tryz.func183,Tryz.ntmps183
  go_wp2_with (at_builtin;refine wpList_append_auths _ rfl (.tmp 7) (.tmp 8) rfl w.heap.size (.slice (some ⟨w.heap.size,0,none⟩) 0 0) 0 [] rfl HO1 ao cap az rfl HZ1.out (by omega) (by simp) ?_;intro v2 w2 o2 g2 n2)
  obtain ⟨g,cc,rfl⟩:=au_notnil o2 (n2 (by simp))
  simp only [Nat.zero_add,List.nil_append] at o2 ⊢
  have b2:Below w.heap.size w w2:=bA.grown g2 (by simp) (fun j hj=>by cases hj;exact Nat.le_refl _)
  have HB:Hid (Below w.heap.size w w2):=b2
  have HO:Hid (w2.ownsRow w.heap.size 107 6 (.slice (some ⟨g,0,none⟩) az.length cc) az.length (acells az)):=o2
  clear o2 b2 g2 n2 HO1 bA hz
  go_wp2_with fail
  refine (HIN.out _).mono ?_
  rintro e w3 ⟨rfl,hw3⟩
  subst hw3
  go_wp2
  go_ret2
  rw [HQ.out,useL_no HQ.out]
  exact ⟨_,_,rfl,HO.out,HB.out⟩
theorem run_append_c (w:World) (base:Nat) (ty:TypeId) (v:Value) (n:Nat) (xs:List Value) (hown:w.ownsRow base 294 2 v n xs) (gs c:Nat) (x:Cd) (h0:w.cell? ⟨gs,0,none⟩=some (.int .i64 x.1)) (h1:w.cell? ⟨gs,1,none⟩=some (.int .i64 x.2))
  (hn:n+1≤5000000) (hbase:base≤w.heap.size) :
  ∃ v' w',(Builtin.append_ #[291,291] ty #[v,.slice (some ⟨gs,0,none⟩) 1 c]).run Tryz.prog w=.ok v' w'∧w'.ownsRow base 294 2 v' (n+1) (xs++ccell x)∧w.grownBy w' v.ownBlock:=by
 obtain ⟨i0,hi,hz0,hz1,hz2⟩:=info_parts infoHp
 have hnews:∀ j u,(ccell x)[j]?=some u→w.cell? ((⟨gs,0,none⟩:Addr).add j)=some u:=by
  intro j u hj
  have hlt:j<2:=by have:=(List.getElem?_eq_some_iff.1 hj).1;simpa [ccell] using this
  rcases (show j=0∨j=1 by omega) with rfl | rfl
  ·simp [ccell] at hj;subst hj;simpa [Addr.add] using h0
  ·simp [ccell] at hj;subst hj;simpa [Addr.add] using h1
 obtain ⟨v',w',h1,h2,h3,_⟩:=run_append_own_at (P:=Tryz.prog) w base 291 ty 294 i0 _ 2 16 Tryz.underlying291 hi hz0 hz1 hz2 rfl (by decide) v n xs hown ⟨gs,0,none⟩ 1 c (ccell x) rfl hnews (ccells_one [x]) (by unfold maxLen;omega) (by omega) hbase
 exact ⟨v',w',h1,h2,h3⟩
theorem step_append_c {ops:Array Oper} {o:Oper} {a:Act} {w:World} {K:Act→World→Prop} {Q:Exit→Act→World→Prop} {E:Prop} (hgd:o.guard=none) (s x:Operand)
  (ho:o.op=.call { callee:=.builtin .append,args:=#[s,x],argTypes:=#[291,291] }) (base:Nat) (v:Value) (n:Nat) (xs:List Value) (hs:a.eval s=v) (hown:w.ownsRow base 294 2 v n xs)
  (gs c:Nat) (y:Cd) (hx:a.eval x=.slice (some ⟨gs,0,none⟩) 1 c) (h0:w.cell? ⟨gs,0,none⟩=some (.int .i64 y.1)) (h1:w.cell? ⟨gs,1,none⟩=some (.int .i64 y.2)) (hn:n+1≤5000000) (hbase:base≤w.heap.size)
  (h:∀ v' w',w'.ownsRow base 294 2 v' (n+1) (xs++ccell y)→w.grownBy w' v.ownBlock→K (a.put o.dst v') w') :
  if Region.wanted o (yielded ops a.tmps)=true then Oper.wp Tryz.prog o a w K Q else E:=by
 have hw:Region.wanted o (yielded ops a.tmps)=true:=by simp [Region.wanted,hgd]
 rw [if_pos hw]
 obtain ⟨v',w',hr,h1,h2⟩:=run_append_c w base o.type v n xs hown gs c y h0 h1 hn hbase
 unfold Oper.wp execOp
 simp only [ho,resolve,invoke,builtin,Sem.run_bind,Sem.run_pure,Result.andThen_ok,List.map_toArray,List.map_cons,List.map_nil,hs,hx,hr]
 exact h v' w' h1 h2
theorem cShape {w:World} {base n:Nat} {v:Value} {xs:List Value} (h:w.ownsRow base 294 2 v (n+1) xs):∃ g cap,v=.slice (some ⟨g,0,none⟩) (n+1) cap:=by
 rcases h.2 with ⟨_,h0⟩ | ⟨g,c,cur,rfl,_⟩
 ·omega
 ·exact ⟨g,c,rfl⟩
theorem keepSetC {w:World} {base n size:Nat} {t:TypeId} {v:Value} {xs:List Value} (h:w.ownsRow base t size v n xs) (p:Addr) (u:Value) (hp:∀ g,v.ownBlock=some g→g≠p.block):(w.setCell p u).ownsRow base t size v n xs:=by
 obtain ⟨h1,h2⟩:=h
 refine ⟨h1,?_⟩
 rcases h2 with h | ⟨g,cap,cur,hv,hg,hh,a1,a2,a3,a4⟩
 ·exact .inl h
 ·exact .inr ⟨g,cap,cur,hv,hg,(Below.heap_setCell w p u g (hp g (by rw [hv];rfl))).trans hh,a1,a2,a3,a4⟩
theorem taC (s p:Int) (W:World):(Instr.typeAssert (.iface 294 (.agg #[.int .i64 s,.int .i64 p])) 20 294 false).run Tryz.prog W=.ok (.agg #[.int .i64 s,.int .i64 p]) W:=by kernel_rfl
theorem taC2 (s p:Int) (W:World):(Instr.typeAssert (.iface 294 (.agg #[.int .i64 s,.int .i64 p])) 20 294 true).run Tryz.prog W=.ok (.tuple #[.agg #[.int .i64 s,.int .i64 p],.bool true]) W:=by kernel_rfl
theorem pushm_any {w u:World} {H:List Cd} {ao:Option Addr} {cap:Nat} (h:HP none w H ao cap u) (s p:Int) (hn:H.length≤1000) :
  Calls Tryz.prog 403 #[.pointer (some ⟨w.heap.size,0,none⟩),.iface 294 (.agg #[.int .i64 s,.int .i64 p])] u fun e u'=>e=.returned (.tuple #[])∧∃ g c,HP none w (H++[(s,p)]) (some ⟨g,0,none⟩) c u':=by
 have HH:Hid (HP none w H ao cap u):=h
 have k0:=h.box
 have f0:=h.fz
 have hlt:=h.lt
 have ta:=taC s p
 clear h
 go_enter Tryz.func403,Tryz.ntmps403
 have k1:∀ o,(u.alloc o).cell? ⟨w.heap.size,0,none⟩=some (.slice ao H.length cap):=fun o=>by rw [World.cell?_alloc_lt _ _ _ hlt];exact k0
 go_region_law ((refine step_append_c rfl (.tmp 7) (.tmp 10) rfl (w.heap.size+1) (.slice ao H.length cap) H.length (ccells H) (by rfl) (keepC HH.out.own (by go_grown)) u.heap.size 1 (s,p) (by rfl) (by simp [go_sem]) (by simp [go_sem]) (by omega) (by simp;omega) ?_;intro v5 w5 o5 g5;obtain ⟨h5,k5,rfl⟩:=cShape o5;have c5:w5.cell? ⟨w.heap.size,0,none⟩=some (.slice ao H.length cap):=(g5.cell_far ⟨w.heap.size,0,none⟩ (by simp;omega) HH.out.apart).trans (by simp [go_sem,World.cell?_alloc_some,k0]);have z5:w5.frozen? ⟨w.heap.size,0,none⟩=false:=(g5.frozen_far ⟨w.heap.size,0,none⟩ (by simp;omega) HH.out.apart).trans (by have:=((Below.refl u.heap.size u).alloc (Nat.le_refl _) (.cells #[.int .i64 s,.int .i64 p] 294)).frozen (p:=⟨w.heap.size,0,none⟩) hlt;simpa [f0] using this)))
 all_goals
  have HO:Hid (w5.ownsRow (w.heap.size+1) 294 2 (.slice (some ⟨h5,0,none⟩) (H++[(s,p)]).length k5) (H++[(s,p)]).length (ccells (H++[(s,p)]))):=by rw [Hid,List.length_append,ccells_append];exact o5
  have HB:Hid (Below w.heap.size w w5):=Below.grown (HP.below HH.out (by go_grown)).bel g5 (by simp;omega) (fun j hj=>by have:=(HH.out.own.lt j hj).1;omega)
  have hh5:=(o5.lt h5 rfl).1
  clear o5 g5
  go_wp2
  go_end0
  refine ⟨rfl,h5,k5,HB.out.setCell (Nat.le_refl _) _,?_,by simp [z5],?_,fun _ _ e=>by cases e⟩
  ·rw [List.length_append];exact World.cell?_setCell_same w5 ⟨w.heap.size,0,none⟩ _ c5
  ·exact keepSetC HO.out ⟨w.heap.size,0,none⟩ _ (fun x hx=>by have e:h5=x:=Option.some.inj hx;show x≠w.heap.size;omega)
theorem underC:Tryz.prog.underlying 291=some (.slice (Tryz.prog.elem 291)):=by
 have e:Tryz.prog.elem 291=294:=by simp [Program.elem,Tryz.underlying291]
 rw [e];exact Tryz.underlying291
theorem elemC:Tryz.prog.elem 291=294:=by simp [Program.elem,Tryz.underlying291]
theorem sizeC (w:World):(sizeOf 294).run Tryz.prog w=.ok 2 w:=by
 obtain ⟨i0,hi,hz0,hz1,hz2⟩:=info_parts infoHp
 simp [sizeOf,typeInfo,hi,hz1]
theorem sliceC {g n c s:Nat} (hs:s≤c) (W:World):(Instr.slice 291 (.slice (some ⟨g,0,none⟩) n c) none (some (.int .i64 s)) none).run Tryz.prog W=.ok (.slice (some ⟨g,0,none⟩) s c) W:=by
 rw [run_slice_h W _ _ _ _ underC .i64 _ (by omega) (by omega),elemC,sizeC]
 simp [Result.andThen,sliced,Addr.add]
theorem HP.cap {q:Option (Nat×Obj)} {w u:World} {H:List Cd} {g cap:Nat} (h:HP q w H (some ⟨g,0,none⟩) cap u):H.length≤cap:=by
 rcases h.own.2 with ⟨hv,_⟩ | ⟨g',c,cur,hv,_,_,hc,_⟩
 ·cases hv
 ·obtain ⟨rfl,rfl⟩:g=g'∧cap=c:=by simpa using hv
  exact hc
theorem popm_any {q:Option (Nat×Obj)} {w u:World} {H:List Cd} {g cap:Nat} (h:HP q w H (some ⟨g,0,none⟩) cap u) (m:Nat) (hm:H.length=m+1) (hn:H.length≤1000) :
  Calls Tryz.prog 402 #[.pointer (some ⟨w.heap.size,0,none⟩)] u fun e u'=>e=.returned (.iface 294 (.agg #[.int .i64 (cdAt H m).1,.int .i64 (cdAt H m).2]))∧Below w.heap.size w u'∧∀ x o,q=some (x,o)→u'.heap[x]?=some o:=by
 have HK:Hid (∀ x o,q=some (x,o)→u.heap[x]?=some o∧w.heap.size<x):=fun x o e=>⟨(h.kp x o e).1,(h.kp x o e).2.1⟩
 have HB:Hid (Below w.heap.size w u):=h.bel
 have k0:=h.box
 have f0:=h.fz
 have hlt:=h.lt
 obtain ⟨k1,k2⟩:=h.at (k:=m) (by omega)
 have hcap:=h.cap
 have hgu:=h.row (by omega)
 obtain ⟨g',e,hg1,hg2⟩:=hgu
 obtain rfl:g=g':=by simpa using e
 obtain ⟨⟨a,b⟩,hab⟩:∃ x,cdAt H m=x:=⟨_,rfl⟩
 rw [hab] at k1 k2 ⊢
 simp only at k1 k2 ⊢
 rw [hm] at k0 hcap hn
 have hsl:=sliceC (g:=g) (n:=m+1) (c:=cap) (s:=m) (by omega)
 clear hab h e
 go_enter Tryz.func402,Tryz.ntmps402
 go_upto_region 3 with fail
 obtain ⟨W,hW⟩:∃ W,u.alloc (.cells #[.int .i64 a,.int .i64 b] 294)=W:=⟨_,rfl⟩
 have j0:W.cell? ⟨u.heap.size,0,none⟩=some (.int .i64 a):=by rw [← hW];simp
 have j1:W.cell? ⟨u.heap.size,1,none⟩=some (.int .i64 b):=by rw [← hW];simp
 have j2:W.cell? ⟨w.heap.size,0,none⟩=some (.slice (some ⟨g,0,none⟩) (m+1) cap):=by rw [← hW,World.cell?_alloc_lt _ _ _ hlt];exact k0
 have j3:W.frozen? ⟨w.heap.size,0,none⟩=false:=by rw [← hW];have:=((Below.refl u.heap.size u).alloc (Nat.le_refl _) (.cells #[.int .i64 a,.int .i64 b] 294)).frozen (p:=⟨w.heap.size,0,none⟩) hlt;rw [this];exact f0
 have HKW:Hid (∀ x o,q=some (x,o)→W.heap[x]?=some o∧w.heap.size<x):=fun x o e=>by
  obtain ⟨h1,h2⟩:=HK.out x o e
  refine ⟨?_,h2⟩
  rw [← hW]
  exact (((Below.refl u.heap.size u).alloc (Nat.le_refl _) _).block x (Array.getElem?_eq_some_iff.1 h1).1).trans h1
 have HBW:Hid (Below w.heap.size w W):=by rw [Hid,← hW];exact HB.out.alloc HB.out.size _
 rw [hW]
 have hne:¬ w.heap.size=u.heap.size:=by omega
 have hne2:¬ u.heap.size=w.heap.size:=by omega
 clear hW k0 f0 k1 k2
 go_wp2
 go_ret
 refine ⟨rfl,HBW.out.setCell (Nat.le_refl _) _,fun x o e=>?_⟩
 obtain ⟨h1,h2⟩:=HKW.out x o e
 rw [Below.heap_setCell _ _ _ _ (fun e=>by have e:x=w.heap.size:=e;omega)]
 exact h1
def hpV (w:World):Value:=.iface 322 (.pointer (some ⟨w.heap.size,0,none⟩))
theorem lenm_any (ao:Option Addr) (n cap:Nat) (u:World):Calls Tryz.prog 282 #[.slice ao n cap] u fun e u'=>e=.returned (.int .i64 n)∧u'=u:=by
 go_enter Tryz.func282,Tryz.ntmps282
 go_wp2
 go_ret
 exact ⟨rfl,rfl⟩
theorem near_list {H:List Cd} {j:Nat} (h:Near H j) (h0:0<j) (hj:j<H.length) (hl:ltC (cdAt H j) (cdAt H (par j))=true):Near (swapL H (par j) j) (par j):=by
 unfold Near
 have hp:=par_lt h0
 rw [swapL_fun (show par j<H.length by omega) hj,swapL_len]
 exact near_swap h h0 hj hl
theorem up_any {w u:World} {H:List Cd} {g cap:Nat} (h:HP none w H (some ⟨g,0,none⟩) cap u) (j:Nat) (hj:j<H.length) (hn:H.length≤1000) (hnear:Near H j) :
  Calls Tryz.prog 310 #[hpV w,.int .i64 j] u fun e u'=>e=.returned (.tuple #[])∧∃ G,HP none w G (some ⟨g,0,none⟩) cap u'∧IsHeap G∧SameC H G:=by
 have HH:Hid (HP none w H (some ⟨g,0,none⟩) cap u):=h
 have HN:Hid (Near H j):=hnear
 clear h hnear
 unfold hpV
 go_enter Tryz.func310,Tryz.ntmps310
 go_wp2
 go_loopw [1,4] (fun v _ wr=>∃ (k:Nat) (G:List Cd),k≤j∧v=.int .i64 k∧HP none w G (some ⟨g,0,none⟩) cap wr∧Near G k∧SameC H G) (fun v _ _=>(intOf v).toNat)
 case atStart=>exact ⟨j,H,Nat.le_refl _,rfl,HH.out,HN.out,SameC.refl H⟩
 case round =>
  obtain ⟨k,G,hk,rfl,hp,hne,hs⟩:=hrel
  have HGL:Hid (G.length=H.length):=hs.1
  have hkG:k<G.length:=by have:=HGL.out;omega
  have HP0:Hid (HP none w G (some ⟨g,0,none⟩) cap wr):=hp
  have HNE:Hid (Near G k):=hne
  have HS:Hid (SameC H G):=hs
  have hbox:=hp.box
  have hml:=methLess hbox
  have hms:=methSwap hbox
  clear HH HN hp hne hs
  by_cases hk0:k=0
  ·subst hk0
   have hq:(-1:Int).tdiv 2=0:=by decide
   go_wp2
   go_end0
   exact ⟨rfl,G,HP0.out,near_done HNE.out (.inl rfl),HS.out⟩
  ·have hq:((k:Int) - 1).tdiv 2=((par k:Nat):Int):=by
     unfold par
     rw [Int.tdiv_eq_ediv_of_nonneg (by omega)]
     omega
   have hpk:=par_lt (show 0<k by omega)
   obtain ⟨p,hpe⟩:∃ p,par k=p:=⟨_,rfl⟩
   have HSW:Hid (ltC (cdAt G k) (cdAt G (par k))=true→Near (swapL G (par k) k) (par k)):=fun hl=>near_list HNE.out (by omega) hkG hl
   have HDN:Hid (ltC (cdAt G k) (cdAt G (par k))=false→IsHeap G):=fun hl=>near_done HNE.out (.inr hl)
   rw [hpe] at hq hpk HSW HDN
   have hneq:((p:Int) == (k:Int))=false:=by simp;omega
   have hkk:(0:Int)<(k:Int):=by omega
   clear hpe
   cases hl:ltC (cdAt G k) (cdAt G p)
   ·have HL:Hid (∀ v,HP none w G (some ⟨g,0,none⟩) cap v→Calls Tryz.prog 400 #[.slice (some ⟨g,0,none⟩) G.length cap,.int .i64 k,.int .i64 p] v fun e u'=>e=.returned (.bool false)∧Below v.heap.size v u'):=fun v hv=>by rw [← hl];exact lessHp_any hv k p hkG (by omega)
    have HIS:Hid (IsHeap G):=HDN.out hl
    go_wp2_with fail
    refine (HL.out _ HP0.out).mono ?_
    rintro e u2 ⟨rfl,b2⟩
    have HP2:Hid (HP none w G (some ⟨g,0,none⟩) cap u2):=HP0.out.below b2
    clear b2
    go_wp2
    go_end0
    exact ⟨rfl,G,HP2.out,HIS.out,HS.out⟩
   ·have HL:Hid (∀ v,HP none w G (some ⟨g,0,none⟩) cap v→Calls Tryz.prog 400 #[.slice (some ⟨g,0,none⟩) G.length cap,.int .i64 k,.int .i64 p] v fun e u'=>e=.returned (.bool true)∧Below v.heap.size v u'):=fun v hv=>by rw [← hl];exact lessHp_any hv k p hkG (by omega)
    have HSG:Hid (Near (swapL G p k) p):=HSW.out hl
    have HSS:Hid (SameC H (swapL G p k)):=HS.out.trans (same_swap (by omega) hkG)
    go_wp2_with fail
    refine (HL.out _ HP0.out).mono ?_
    rintro e u2 ⟨rfl,b2⟩
    have hp2:=HP0.out.below b2
    have HP2:Hid (HP none w G (some ⟨g,0,none⟩) cap u2):=hp2
    have hms2:=methSwap hp2.box
    clear b2 hms hml hp2
    go_wp2_with fail
    refine (swap_any HP2.out p k hpk hkG).mono ?_
    rintro e u3 ⟨rfl,hp3⟩
    have HP3:Hid (HP none w (swapL G p k) (some ⟨g,0,none⟩) cap u3):=hp3
    clear hp3
    go_wp2
    go_roundw
    case rel=>exact ⟨p,swapL G p k,by omega,rfl,HP3.out,HSG.out,HSS.out⟩
    case measure=>simp [intOf];omega
theorem cmpLines_any (a b c x y z:Int) (w:World) :
  Calls Tryz.prog 94 #[.agg #[.int .i64 a,.int .i64 b,.int .i64 c],.agg #[.int .i64 x,.int .i64 y,.int .i64 z]] w fun e w'=>e=.returned (.int .i64 (cmpL (a,b,c) (x,y,z)))∧∃ q os,w'=Go.Sort.grow (w.drewN q) os:=by
 obtain ⟨p,hp⟩:∃ p,cmpI a x=p:=⟨_,rfl⟩
 obtain ⟨r,hr⟩:∃ r,cmpI b y=r:=⟨_,rfl⟩
 have HE:Hid (cmpL (a,b,c) (x,y,z)=orI p r):=by rw [Hid,← hp,← hr];rfl
 have HP:Hid (∀ w,Calls Tryz.prog 151 #[.int .i64 a,.int .i64 x] w fun e w'=>e=.returned (.int .i64 p)∧w'=w):=fun w=>by rw [← hp];exact compare_any _ _ _
 have HR:Hid (∀ w,Calls Tryz.prog 151 #[.int .i64 b,.int .i64 y] w fun e w'=>e=.returned (.int .i64 r)∧w'=w):=fun w=>by rw [← hr];exact compare_any _ _ _
 clear hp hr
 obtain ⟨W,hW⟩:∃ W,W=(w.alloc (.cells #[.int .i64 a,.int .i64 b,.int .i64 c] 113)).alloc (.cells #[.int .i64 x,.int .i64 y,.int .i64 z] 113):=⟨_,rfl⟩
 have k0:W.cell? ⟨w.heap.size,0,none⟩=some (.int .i64 a):=by rw [hW];simp [go_sem]
 have k1:W.cell? ⟨w.heap.size,1,none⟩=some (.int .i64 b):=by rw [hW];simp [go_sem]
 have k2:W.cell? ⟨w.heap.size+1,0,none⟩=some (.int .i64 x):=by rw [hW];simp [go_sem]
 have k3:W.cell? ⟨w.heap.size+1,1,none⟩=some (.int .i64 y):=by rw [hW];simp [go_sem]
 have HWE:Hid _:=hW
 go_enter Tryz.func94,Tryz.ntmps94
 go_wp2
 rw [← hW]
 clear hW
 go_region_held3 (fun w'=>w'.cell? ⟨w.heap.size,0,none⟩=some (.int .i64 a)∧w'.cell? ⟨w.heap.size,1,none⟩=some (.int .i64 b)∧w'.cell? ⟨w.heap.size+1,0,none⟩=some (.int .i64 x)∧w'.cell? ⟨w.heap.size+1,1,none⟩=some (.int .i64 y)) (first | exact ⟨k0,k1,k2,k3⟩ | (simp [go_sem,World.cell?_alloc_some,k0,k1,k2,k3];done)) ((first
  | (go_at_call_of 151 (Value.int .i64 x);refine (HP.out _).mono ?_;rintro e w' ⟨rfl,rfl⟩)
  | (go_at_call_of 151 (Value.int .i64 y);refine (HR.out _).mono ?_;rintro e w' ⟨rfl,rfl⟩)
  | (go_at_call 150;refine (or_any _ p r _ ?_ ?_).mono ?_;simp [go_sem];simp [go_sem];rintro e w' ⟨rfl,rfl⟩)))
 all_goals
  go_wp2
  go_ret
  refine ⟨one_int HE.out.symm,1,#[.cells #[.int .i64 a,.int .i64 b,.int .i64 c] 113,.cells #[.int .i64 x,.int .i64 y,.int .i64 z] 113,.cells #[.int .i64 p,.int .i64 r] 3],?_⟩
  rw [HWE.out]
  rfl
end Go.Proofs.YtomiclakhjncbaaGreatDoor
namespace Go.Proofs.YtomiclakhjncbaaGreatDoor
open Go.RowKit Go.Sort Go.Shelf Go.Lib
set_option maxRecDepth 100000
set_option maxHeartbeats 12800000
theorem flat_lcells (ls:List Ln):flatK lcell 3 ls.toArray=(lcells ls).toArray:=by
 apply ext_get!
 ·simp [lcells_len]
 ·intro t ht
  simp only [size_flatK,List.size_toArray] at ht
  rw [get_flatK _ _ _ _ (by simpa using ht)]
  have hq:t / 3<ls.length:=by omega
  have hx:ls.toArray[t / 3]! = lnAt ls (t / 3):=by simp [lnAt,List.getD_eq_getElem?_getD,hq]
  have h:=lcells_at ls (t / 3) hq
  rw [hx]
  have hg:(lcells ls).toArray[t]! = ((lcells ls)[t]?).getD default:=by simp
  rw [hg]
  rcases (show t % 3=0∨t % 3=1∨t % 3=2 by omega) with e | e | e
  ·rw [e,show t=t / 3*3 by omega,h.1,show (t / 3*3) / 3=t / 3 by omega];rfl
  ·rw [e,show t=t / 3*3+1 by omega,h.2.1,show (t / 3*3+1) / 3=t / 3 by omega];rfl
  ·rw [e,show t=t / 3*3+2 by omega,h.2.2,show (t / 3*3+2) / 3=t / 3 by omega];rfl
theorem holds_own {w:World} {base n cap g:Nat} {t:TypeId} {ls:List Ln} (h:w.ownsRow base t 3 (.slice (some ⟨g,0,none⟩) n cap) n (lcells ls)):HoldsK lcell 3 w g 0 ls.toArray:=by
 have hn:n=ls.length:=by have:=h.1;rw [lcells_len] at this;omega
 intro j hj
 rw [flat_lcells] at hj ⊢
 simp only [List.size_toArray,lcells_len] at hj
 refine ⟨?_,h.frozenAt _⟩
 rw [Nat.zero_add,h.cellAt j (by omega)]
 have:j<(lcells ls).length:=by rw [lcells_len];omega
 simp [getElem!_pos,this]
theorem own_sorted {w:World} {base n cap g m:Nat} {t:TypeId} {ls ds:List Ln} {os:Array Obj} (h:w.ownsRow base t 3 (.slice (some ⟨g,0,none⟩) n cap) n (lcells ls)) (hl:ds.length=ls.length) :
  (sortWorldK lcell 3 w g 0 m ds.toArray os).ownsRow base t 3 (.slice (some ⟨g,0,none⟩) n cap) n (lcells ds):=by
 have hn:n=ls.length:=by have:=h.1;rw [lcells_len] at this;omega
 have hlt:g<w.heap.size:=(h.lt g rfl).2
 rcases h.2 with ⟨e0,_⟩ | ⟨g',cap',cur,e0,hb,hg,hnc,hm,hs,ht⟩
 ·cases e0
 ·injection e0 with e1 _ e3
  injection e1 with e1
  injection e1 with e1
  subst e1;subst e3
  refine ⟨by rw [lcells_len];omega,.inr ⟨g,cap,putCells id 0 (lcells ds).toArray cur,rfl,hb,?_,hnc,hm,by simpa [putCells] using hs,?_⟩⟩
  ·unfold sortWorldK putRowK
   rw [flat_lcells]
   have e1:((w.heap.modify g (onCells (putCells id 0 (lcells ds).toArray)))++os)[g]?=some (.cells (putCells id 0 (lcells ds).toArray cur) t):=by
    rw [Array.getElem?_append_left (by simpa using hlt),Array.getElem?_modify,if_pos rfl,hg];rfl
   exact e1
  ·apply List.ext_getElem?
   intro j
   rw [List.getElem?_take,Array.getElem?_toList]
   by_cases hj:j<n*3
   ·have hjc:j<cur.size:=by rw [hs];exact Nat.lt_of_lt_of_le hj (Nat.mul_le_mul_right 3 hnc)
    have hd:j<(lcells ds).length:=by rw [lcells_len];omega
    simp only [if_pos hj,putCells,Array.getElem?_mapIdx,Array.getElem?_eq_getElem hjc,Option.map_some]
    rw [if_pos ⟨Nat.zero_le _,by simpa using hd⟩,List.getElem?_eq_getElem hd]
    simp [getElem!_pos,hd]
   ·rw [if_neg hj,List.getElem?_eq_none (by rw [lcells_len];omega)]
theorem below_sorted {B:Nat} {w0 w:World} {g m:Nat} {d:Array Ln} {os:Array Obj} (h:RowKit.Below B w0 w) (hB:B≤w0.heap.size) (hg:B≤g):RowKit.Below B w0 (sortWorldK lcell 3 w g 0 m d os):=by
 refine ⟨h.os,h.tape,h.output,?_,fun k hk=>?_⟩
 ·have:=h.size
  simp [sortWorldK,putRowK,grow,putRow,mapBlock,Sort.ahead];omega
 ·rw [← h.block k hk]
  have hs:=h.size
  have e1:((w.heap.modify g (onCells (putCells id 0 (flatK lcell 3 d))))++os)[k]?=w.heap[k]?:=by
   rw [Array.getElem?_append_left (by simp;omega),Array.getElem?_modify,if_neg (by omega)]
  exact e1
theorem ltOf_cmp (x y:Ln):ltOf cmpL x y=lnLt x y:=by
 unfold ltOf
 rw [Bool.eq_iff_iff,decide_eq_true_eq];exact cmpL_lt x y
theorem swoL:SWO (ltOf cmpL) where
 irrefl x:=by rw [ltOf_cmp];simp [lnLt]
 trans x y z h1 h2:=by rw [ltOf_cmp] at *;exact lnLt_trans h1 h2
 ntrans x y z h1 h2:=by rw [ltOf_cmp] at *;simp [lnLt] at *;omega
theorem cmpLays (blk off size:Nat) (w:World):CmpLays Tryz.prog 94 #[] lcell 3 cmpL blk off size w :=
 fun _ _ _ _ x y=>cmpLines_any x.1 x.2.1 x.2.2 y.1 y.2.1 y.2.2 _
theorem perm_of {ls:List Ln} {d:Array Ln} (h:PermIn 0 ls.toArray.size ls.toArray d):d.toList.Perm ls∧d.size=ls.length:=by
 obtain ⟨h1,_,h3⟩:=h
 have hs:d.size=ls.length:=by simpa using h1
 refine ⟨?_,hs⟩
 have e1:d.extract 0 ls.toArray.size=d:=by simp [← hs]
 have e2:ls.toArray.extract 0 ls.toArray.size=ls.toArray:=by simp
 rw [e1,e2] at h3
 simpa using h3
theorem sorted_of {n:Nat} {d:Array Ln} (h:SortedIn (ltOf cmpL) 0 n d) (hn:d.size=n):d.toList.Pairwise (fun x y=>lnLt y x=false):=by
 rw [List.pairwise_iff_getElem]
 intro i j hi hj hij
 simp only [Array.length_toList] at hi hj
 have:=h i j (Nat.zero_le _) hij (by omega)
 rw [ltOf_cmp,getElem!_pos d j hj,getElem!_pos d i hi] at this
 simpa using this
theorem sort_any (ao:Option Addr) (n cap base:Nat) (ls:List Ln) (w:World) (ho:w.ownsRow base 113 3 (.slice ao n cap) n (lcells ls)) (hn:ls.length≤1000) (hb:base≤w.heap.size) :
  Calls Tryz.prog 329 #[.slice ao n cap,.func (.func 94) #[] #[]] w fun e w'=>e=.returned (.tuple #[])∧∃ ds:List Ln,ds.Perm ls∧ds.Pairwise (fun x y=>lnLt y x=false)∧w'.ownsRow base 113 3 (.slice ao n cap) n (lcells ds)∧RowKit.Below base w w':=by
 have hnl:n=ls.length:=by have:=ho.1;rw [lcells_len] at this;omega
 rcases ho.2 with ⟨e0,h0⟩ | ⟨g,cap',cur,e0,hbg,_⟩
 ·have hls:ls=[]:=List.eq_nil_of_length_eq_zero (by omega)
  subst h0
  have h:=AnyF.slices_SortFunc_none Tryz.sortLn ao cap (.func (.func 94) #[] #[]) w
  change Calls Tryz.prog 329 _ _ _ at h
  refine h.mono ?_
  rintro e w' ⟨rfl,rfl⟩
  refine ⟨rfl,[],by rw [hls],List.Pairwise.nil,?_,RowKit.Below.refl _ _⟩
  rw [hls] at ho;exact ho
 ·injection e0 with e1 _ e3
  subst e1
  have hlt:=(ho.lt g rfl).2
  have eg:∀ args w,(callFunc 94 args).run Tryz.prog w=.ok (.enter 94 args) w:=enters_of Tryz.func94 (by kernel_rfl) rfl
  have h:=AnyQ.slices_SortFunc Tryz.sortLn 3 Tryz.isAgg113 Tryz.sizeOf113 lcell (fun _=>rfl) (fun x v hv=>by simp [lcell] at hv;rcases hv with rfl | rfl | rfl <;> rfl) cmpL swoL 94 #[] g 0 cap ls.toArray w eg (cmpLays g 0 ls.toArray.size w) (holds_own ho) hlt (by simp;omega)
  change Calls Tryz.prog 329 _ _ _ at h
  have hz:ls.toArray.size=n:=by simp [hnl]
  rw [hz] at h
  refine h.mono ?_
  rintro e w' ⟨rfl,d',m,os,hp,hs,rfl⟩
  rw [← hz] at hp
  obtain ⟨p1,p2⟩:=perm_of hp
  have hd:d'=d'.toList.toArray:=by simp
  refine ⟨rfl,d'.toList,p1,sorted_of hs (by rw [p2,hnl]),?_,below_sorted (RowKit.Below.refl _ _) hb hbg⟩
  rw [hd]
  exact own_sorted ho (by simp [p2])
end Go.Proofs.YtomiclakhjncbaaGreatDoor
namespace Go.Proofs.YtomiclakhjncbaaGreatDoor
open Go.RowKit Go.Maps
set_option maxRecDepth 100000
set_option maxHeartbeats 12800000
def evB (ls:List Ln):Bool:=ls.all fun x=>decide (sumC x.2.1 ls=0)
def SumMap (D:DataW Unit) (ls:List Ln):Prop :=
 (∀ c,Maps.has D (.int .i64 c)=ls.any fun x=>decide (x.2.1=c))∧∀ c,D.atKey (.int .i64 c) (.lit (.int .i64 0))=.lit (.int .i64 (sumC c ls))
theorem sumMap_nil:SumMap (.map []) []:=⟨fun _=>rfl,fun _=>rfl⟩
theorem sumC_snoc (c:Int) (ls:List Ln) (x:Ln):sumC c (ls++[x])=sumC c ls+if x.2.1=c then x.2.2 else 0:=by simp [sumC]
theorem sumMap_snoc {D:DataW Unit} {ls:List Ln} (h:SumMap D ls) (hm:IsMap D) (x y z:Int):SumMap (D.put (.int .i64 y) (.lit (.int .i64 (sumC y ls+z)))) (ls++[(x,y,z)]):=by
 constructor
 ·intro c
  rw [List.any_append]
  by_cases hc:c=y
  ·subst hc
   rw [Maps.has_put_same (k:=.int .i64 c) hm trivial];simp
  ·rw [Maps.has_put_other (lit_ne hc),h.1 c]
   simp [Ne.symm hc]
 ·intro c
  rw [sumC_snoc]
  by_cases hc:c=y
  ·subst hc
   rw [Maps.atKey_put_same (k:=.int .i64 c) hm trivial];simp
  ·rw [Maps.atKey_put_other (lit_ne hc),h.2 c]
   simp [Ne.symm hc]
theorem sumC_abs {ls:List Ln} (h:∀ x ∈ ls,-1000000000000≤x.2.2∧x.2.2≤1000000000000) (c:Int) (k:Nat):-1000000000000 * (k:Int)≤sumC c (ls.take k)∧sumC c (ls.take k)≤1000000000000 * (k:Int):=by
 induction k with
 | zero=>simp [sumC]
 | succ k ih =>
  by_cases hk:k<ls.length
  ·rw [sumC_step c ls k hk]
   have:=h _ (lnAt_mem hk)
   split <;> omega
  ·rw [List.take_of_length_le (by omega)]
   rw [List.take_of_length_le (by omega)] at ih
   omega
theorem even_any (ao:Option Addr) (cap:Nat) (ls:List Ln) (w:World) (hz:LinesAt w ao ls) (hn:ls.length≤400) (hbd:∀ x ∈ ls,-1000000000000≤x.2.2∧x.2.2≤1000000000000) (hwf:∀ x ∈ ls,wf64 x.2.1) :
  Calls Tryz.prog 95 #[.slice ao ls.length cap] w fun e w'=>e=.returned (.bool (evB ls))∧Below w.heap.size w w':=by
 have hmm:=@run_makeMap Tryz.prog
 have HZ:Hid (LinesAt w ao ls):=hz
 have HBD:Hid (∀ x ∈ ls,-1000000000000≤x.2.2∧x.2.2≤1000000000000):=hbd
 have HWF:Hid (∀ x ∈ ls,wf64 x.2.1):=hwf
 clear hz hbd hwf
 have hown0:=World.ownsMap_made w Tryz.prog 3 (plainElem (H:=Unit) Tryz.prog 3)
 have hb0:=(Below.refl w.heap.size w).alloc (Nat.le_refl _) (.map #[] 0)
 go_enter Tryz.func95,Tryz.ntmps95
 go_wp2
 go_loopw [11] (fun i wr=>∃ (k:Nat) (D:DataW Unit),k≤ls.length∧i=.int .i64 k∧wr.ownsMap Tryz.prog 3 (plainElem (H:=Unit) Tryz.prog 3) w.heap.size k D∧SumMap D (ls.take k)∧Below w.heap.size w wr) (fun i _=>ls.length - (intOf i).toNat)
 case atStart=>exact ⟨0,.map [],Nat.zero_le _,rfl,hown0,sumMap_nil,hb0⟩
 case round =>
  obtain ⟨k,D,hk,rfl,hown,hsum,hbr⟩:=hrel
  have hbs:=hbr.size
  have HSUM:Hid (SumMap D (ls.take k)):=hsum
  have HOWN:Hid (wr.ownsMap Tryz.prog 3 (plainElem (H:=Unit) Tryz.prog 3) w.heap.size k D):=hown
  clear hown0 hb0 hsum hown
  by_cases hlt:k<ls.length
  ·have hki:(k:Int)<(ls.length:Int):=by omega
   obtain ⟨b,off,rfl,hb2,c1,c2,c3⟩:=(HZ.out.below hbr).at hlt
   have hbk:=HBD.out _ (lnAt_mem hlt)
   have hwk:=HWF.out _ (lnAt_mem hlt)
   have HTK:Hid _:=take_lnAt ls k hlt
   obtain ⟨⟨x,y,z⟩,hx⟩:∃ x,lnAt ls k=x:=⟨_,rfl⟩
   rw [hx] at c1 c2 c3 hbk hwk HTK
   simp only at c1 c2 c3 hbk hwk
   have hab:=sumC_abs HBD.out y k
   have HWK:Hid (wf64 y):=hwk
   have hy:∀ c:Int,D.atKey (.int .i64 y) (.lit (.int .i64 0))=.lit (.int .i64 c)→c=sumC y (ls.take k)∧IntKind.i64.wrap (c+z)=c+z∧(Lit.int .i64 (c+z)).wf=true:=fun c h=>by
    have e:=h.symm.trans (HSUM.out.2 y)
    have hc:c=sumC y (ls.take k):=by injection e with e1;injection e1
    have hk4:(k:Int)≤400:=by omega
    refine ⟨hc,?_,?_⟩
    ·rw [hc];simp [IntKind.wrap,IntKind.bits,IntKind.signed];omega
    ·exact WalkArith.wf_i64 (by rw [hc];omega)
   have HY:Hid _:=hy
   have HKM:Hid (k<maxLen):=by unfold maxLen;rw [Hid];omega
   have HBX:Hid (∀ o,Below w.heap.size w (wr.alloc o)):=fun o=>hbr.alloc hbs o
   clear hx hwk hab hy hbk
   go_wp2_with (first
    | (at_lookup;refine wpList_lookup_own_int _ rfl _ _ 186 rfl 3 3 .i64 lawInt Tryz.underlying186 Tryz.underlying3 (zero3 _) w.heap.size k D rfl (HOWN.out.alloc _) _ _ rfl (keyOf_int_mk Tryz.underlying3 HWK.out) ?_;intro c hat hwc;have HC:Hid (c=sumC y (ls.take k)):=(HY.out c hat).1;have hwr:=(HY.out c hat).2.1;have HWC:Hid ((Lit.int .i64 (c+z)).wf=true):=(HY.out c hat).2.2;clear hat hwc)
    | (at_mapUpdate;refine wpList_mapUpdate_own _ rfl _ _ _ 186 rfl 3 3 lawInt Tryz.underlying186 _ w.heap.size k D rfl (HOWN.out.alloc _) HKM.out _ _ _ rfl rfl (keyOf_int_mk Tryz.underlying3 HWK.out) _ [] (plainElem_int Tryz.underlying3 HWC.out) ?_;intro w1 hown1 hgrow1)
    | go_in)
   have HO1:Hid (w1.ownsMap Tryz.prog 3 (plainElem (H:=Unit) Tryz.prog 3) w.heap.size (k+1) (D.put (.int .i64 y) (.lit (.int .i64 (c+z))))):=hown1
   have q1:Below w.heap.size w w1:=(HBX.out _).grown hgrow1 (HBX.out _).size (fun j hj=>by cases hj;exact Nat.le_refl _)
   clear hown1 hgrow1
   go_wp2
   go_roundw
   case rel=>exact ⟨k+1,_,by omega,by go_num,HO1.out,by rw [HTK.out,HC.out];exact sumMap_snoc HSUM.out HOWN.out.isMap x y z,q1⟩
   case measure=>simp [intOf];omega
  ·have hke:k=ls.length:=by omega
   subst hke
   have hki:¬ (ls.length:Int)<(ls.length:Int):=by omega
   rw [List.take_length] at HSUM
   obtain ⟨W,hW⟩:∃ W,W=wr:=⟨_,rfl⟩
   subst hW
   go_wp2_with (first
    | (at_range;refine wpList_range_own _ rfl _ 186 rfl 3 3 lawInt Tryz.underlying186 _ w.heap.size ls.length _ rfl HOWN.out ?_;intro w0 hrg0 hg0 hs0)
    | go_in)
   try go_frame
   have qb0:Below w.heap.size w w0:=hbr.grown hg0 hbs (fun j hj=>by cases hj)
   go_loopw [7] (fun _ wr=>∃ (left:Lit→Bool) (cnt:Nat),wr.ranges Tryz.prog 3 (plainElem (H:=Unit) Tryz.prog 3) w.heap.size W.heap.size ls.length D left cnt∧(∀ c,left (.int .i64 c)=true→Maps.has D (.int .i64 c)=true)∧(∀ c,Maps.has D (.int .i64 c)=true→left (.int .i64 c)=false→sumC c ls=0)∧Below w.heap.size w wr)
    (fun _ wr=>wr.rangeLeft w.heap.size W.heap.size)
   case atStart=>exact ⟨_,_,hrg0,fun _ h=>h,(fun c h1 h2=>by rw [h1] at h2;cases h2),qb0⟩
   case round =>
    obtain ⟨left,cnt,hrg,hle,hzero,hbw⟩:=hrel
    clear hrg0 hg0 hs0 qb0
    have HLE:Hid (∀ c,left (.int .i64 c)=true→Maps.has D (.int .i64 c)=true):=hle
    have HZR:Hid (∀ c,Maps.has D (.int .i64 c)=true→left (.int .i64 c)=false→sumC c ls=0):=hzero
    have HRG:Hid (wr.ranges Tryz.prog 3 (plainElem (H:=Unit) Tryz.prog 3) w.heap.size W.heap.size ls.length D left cnt):=hrg
    clear hle hzero hrg
    go_wp2_with (first
     | (at_next;refine wpList_next_ranges_ii _ rfl _ rfl 3 3 .i64 .i64 lawInt Tryz.underlying3 Tryz.underlying3 w.heap.size W.heap.size ls.length _ _ _ rfl HRG.out ?_ ?_)
     | go_in)
    ·intro _ hl0
     have HV:Hid (evB ls=true):=by
      rw [Hid,evB,List.all_eq_true]
      intro x hx
      have hh:Maps.has D (.int .i64 x.2.1)=true:=by
       rw [HSUM.out.1,List.any_eq_true];exact ⟨x,hx,by simp⟩
      simpa using HZR.out _ hh (hl0 _)
     clear hl0
     go_wp2
     go_ret
     exact ⟨one_bool HV.out.symm,hbw⟩
    ·intro x c w1 cnt1 hwx hwc hlx hat hrg1 hlt hg1 hs1 hen
     have hcs:c=sumC x ls:=by
      have e:=(hat (.lit (.int .i64 0))).symm.trans (HSUM.out.2 x)
      injection e with e1;injection e1
     have q1:Below w.heap.size w w1:=hbw.grown hg1 hbw.size (fun j hj=>by cases hj;exact hbs)
     have HRG1:Hid (w1.ranges Tryz.prog 3 (plainElem (H:=Unit) Tryz.prog 3) w.heap.size W.heap.size ls.length D (fun z=>left z && !z.sameKey (.int .i64 x)) cnt1):=hrg1
     have HLT:Hid _:=hlt
     have HHX:Hid _:=HLE.out _ hlx
     clear hat hrg1 hlt hg1 hwx hwc
     by_cases hc0:c=0
     ·have hc0':(c != 0)=false:=by simpa using hc0
      have HS0:Hid (sumC x ls=0):=by rw [Hid,← hcs,hc0]
      clear hcs hc0
      go_wp2
      go_roundw
      case rel =>
       refine ⟨_,cnt1,HRG1.out,(fun c' h=>HLE.out c' (Bool.and_eq_true _ _ ▸ h).1),fun c' h1 h2=>?_,q1⟩
       by_cases hx:c'=x
       ·rw [hx];exact HS0.out
       ·refine HZR.out c' h1 ?_
        have:=Maps.sameKey_ne (lit_ne hx)
        simp [this] at h2
        exact h2
      case measure=>rw [HRG1.out.left_eq,HRG.out.left_eq];exact HLT.out
     ·have hc0':(c != 0)=true:=by simpa using hc0
      have HV:Hid (evB ls=false):=by
       rw [Hid,evB]
       have hh:=HHX.out
       rw [HSUM.out.1,List.any_eq_true] at hh
       obtain ⟨y,hy,he⟩:=hh
       simp at he
       rw [List.all_eq_false]
       exact ⟨y,hy,by rw [he,← hcs];simpa using hc0⟩
      clear hcs hc0
      go_wp2
      go_ret
      exact ⟨one_bool HV.out.symm,q1⟩
end Go.Proofs.YtomiclakhjncbaaGreatDoor
namespace Go.Proofs.YtomiclakhjncbaaGreatDoor
open Go.RowKit
set_option maxRecDepth 100000
set_option maxHeartbeats 12800000
def bsOk (t:Int) (zs:List Int):Bool:=dOk t && offOk zs
def bsT (t:Int) (zs:List Int):Int:=if bsOk t zs=true then t else 0
def bsL (t:Int) (zs:List Int):List Int:=if bsOk t zs=true then zs else []
def bk0 (t:Int) (a:Option Addr) (n k:Nat):Value:=.agg #[.int .i64 t,.slice a n k,.slice none 0 0,.slice none 0 0,.slice none 0 0,.slice none 0 0]
def BsR (w:World) (t:Int) (zs:List Int) (e:Ending) (w':World):Prop :=
 ∃ a k,e=.returned (.tuple #[bk0 (bsT t zs) a (bsL t zs).length k,.bool (bsOk t zs)])∧w'.ownsRow w.heap.size 3 1 (.slice a (bsL t zs).length k) (bsL t zs).length ((bsL t zs).map (Value.int .i64))∧Below w.heap.size w w'
def put6 (u:World) (h:Nat) (a b c d e f:Value):World:=((((((u.setCell ⟨h,0,none⟩ a).setCell ⟨h,1,none⟩ b).setCell ⟨h,2,none⟩ c).setCell ⟨h,3,none⟩ d).setCell ⟨h,4,none⟩ e).setCell ⟨h,5,none⟩ f)
theorem _root_.Go.RowKit.Below.put6 {w u:World} (h:Below w.heap.size w u) (a b c d e f:Value):Below w.heap.size w (put6 u w.heap.size a b c d e f) :=
 (((((h.setCell (Nat.le_refl _) _).setCell (Nat.le_refl _) _).setCell (Nat.le_refl _) _).setCell (Nat.le_refl _) _).setCell (Nat.le_refl _) _).setCell (Nat.le_refl _) _
theorem bs_no {w u:World} {t:Int} {zs:List Int} (h:bsOk t zs=false) (b:Below w.heap.size w u):BsR w t zs (.returned (.tuple #[bk0 0 none 0 0,.bool false])) u:=by
 have e1:bsT t zs=0:=by simp [bsT,h]
 have e2:bsL t zs=[]:=by simp [bsL,h]
 refine ⟨none,0,?_,?_,b⟩
 ·rw [e1,e2,h];rfl
 ·rw [e2];exact World.ownsRow_nil _ _ _ _
theorem lowerI {w:World} {base base' n:Nat} {v:Value} {xs:List Value} (h:w.ownsRow base 3 1 v n xs) (hb:base'≤base):w.ownsRow base' 3 1 v n xs:=by
 obtain ⟨h1,h2⟩:=h
 refine ⟨h1,?_⟩
 rcases h2 with h2 | ⟨g,cap,cur,e1,e2,e3⟩
 ·exact .inl h2
 ·exact .inr ⟨g,cap,cur,e1,Nat.le_trans hb e2,e3⟩
theorem put6_grown (u:World) (h:Nat) (a b c d e f:Value):u.grownBy (put6 u h a b c d e f) (some h):=by
 have g:∀ (x:World) (k:Nat) (v:Value),x.grownBy (x.setCell ⟨h,k,none⟩ v) (some h):=fun x k v=>⟨rfl,rfl,rfl,by simp,fun j _ hj=>Below.heap_setCell _ _ _ _ (fun e=>hj (by rw [e]))⟩
 exact (((((g _ _ _).trans (g _ _ _)).trans (g _ _ _)).trans (g _ _ _)).trans (g _ _ _)).trans (g _ _ _)
theorem bs_yes {w u:World} {t:Int} {zs:List Int} {a:Option Addr} {k base:Nat} (h:bsOk t zs=true) (o:u.ownsRow base 3 1 (.slice a zs.length k) zs.length (zs.map (Value.int .i64))) (hb:w.heap.size+1≤base) (b:Below w.heap.size w u) :
  BsR w t zs (.returned (.tuple #[bk0 t a zs.length k,.bool true])) (put6 u w.heap.size (.int .i64 t) (.slice a zs.length k) (.slice none 0 0) (.slice none 0 0) (.slice none 0 0) (.slice none 0 0)):=by
 have e1:bsT t zs=t:=by simp [bsT,h]
 have e2:bsL t zs=zs:=by simp [bsL,h]
 refine ⟨a,k,?_,?_,b.put6 _ _ _ _ _ _⟩
 ·rw [e1,e2,h]
 ·rw [e2]
  exact lowerI (o.kept (put6_grown _ _ _ _ _ _ _ _) (.inr fun hh=>by have:=(o.lt _ hh).1;omega)) (by omega)
theorem iBStart_any (t:Int) (ao:Option Addr) (c:Nat) (zs:List Int) (w:World) (hx:IntsAt w ao zs) (hn:zs.length≤1048576) :
  Calls Tryz.prog 44 #[.int .i64 t,.slice ao zs.length c] w (BsR w t zs):=by
 obtain ⟨W,hW⟩:∃ W,W=w.alloc (.cells #[.int .i64 0,.slice none 0 0,.slice none 0 0,.slice none 0 0,.slice none 0 0,.slice none 0 0] 31):=⟨_,rfl⟩
 have c0:W.cell? ⟨w.heap.size,0,none⟩=some (.int .i64 0):=by rw [hW];simp
 have z0:W.frozen? ⟨w.heap.size,0,none⟩=false:=by rw [hW];simp [go_sem]
 have c1:W.cell? ⟨w.heap.size,1,none⟩=some (.slice none 0 0):=by rw [hW];simp
 have z1:W.frozen? ⟨w.heap.size,1,none⟩=false:=by rw [hW];simp [go_sem]
 have c2:W.cell? ⟨w.heap.size,2,none⟩=some (.slice none 0 0):=by rw [hW];simp
 have z2:W.frozen? ⟨w.heap.size,2,none⟩=false:=by rw [hW];simp [go_sem]
 have c3:W.cell? ⟨w.heap.size,3,none⟩=some (.slice none 0 0):=by rw [hW];simp
 have z3:W.frozen? ⟨w.heap.size,3,none⟩=false:=by rw [hW];simp [go_sem]
 have c4:W.cell? ⟨w.heap.size,4,none⟩=some (.slice none 0 0):=by rw [hW];simp
 have z4:W.frozen? ⟨w.heap.size,4,none⟩=false:=by rw [hW];simp [go_sem]
 have c5:W.cell? ⟨w.heap.size,5,none⟩=some (.slice none 0 0):=by rw [hW];simp
 have z5:W.frozen? ⟨w.heap.size,5,none⟩=false:=by rw [hW];simp [go_sem]
 have bW:Below w.heap.size w W:=by rw [hW];go_grown
 have hWs:W.heap.size=w.heap.size+1:=by rw [hW];simp
 have HW:Hid _:=hW
 have HX:Hid (IntsAt W ao zs):=hx.below bW
 have HBW:Hid (Below w.heap.size w W):=bW
 have HWS:Hid (W.heap.size=w.heap.size+1):=hWs
 clear hx bW hWs hW
 have HDK:Hid (∀ u,Calls Tryz.prog 99 #[.int .i64 t] u fun e w'=>e=.returned (.bool (dOk t))∧w'=u):=fun u=>iDayOk_any t u
 have HOK:Hid (Calls Tryz.prog 100 #[.slice ao zs.length c] W fun e w'=>e=.returned (.bool (offOk zs))∧Below W.heap.size W w'):=(iOk_any ao c zs W HX.out (by omega)).mono fun _ _ ⟨h,h2⟩=>⟨h,h2 ▸ Below.refl _ _⟩
 cases hd:dOk t
 ·have HB:Hid (bsOk t zs=false):=by simp [Hid,bsOk,hd]
  rw [hd] at HDK
  go_enter Tryz.func44,Tryz.ntmps44
  go_upto_region 1 with fail
  rw [← HW.out]
  go_wp2_with fail
  refine (HDK.out _).mono ?_
  rintro e w1 ⟨rfl,hw1⟩
  replace hw1:=hw1.symm
  subst hw1
  go_wp2
  refine bodyPost_ret (by simp [results,Tryz.results44,go_sem,c0,c1,c2,c3,c4,c5];try rfl) rfl ?_
  exact bs_no HB.out (HBW.out.put6 _ _ _ _ _ _)
 ·rw [hd] at HDK
  cases ho:offOk zs
  ·have HB:Hid (bsOk t zs=false):=by simp [Hid,bsOk,ho]
   rw [ho] at HOK
   go_enter Tryz.func44,Tryz.ntmps44
   go_upto_region 1 with fail
   rw [← HW.out]
   go_wp2_with fail
   refine (HDK.out _).mono ?_
   rintro e w1 ⟨rfl,hw1⟩
   replace hw1:=hw1.symm
   subst hw1
   go_wp2_with fail
   refine HOK.out.mono ?_
   rintro e w2 ⟨rfl,b2⟩
   replace c0:=(b2.cell (p:=⟨w.heap.size,0,none⟩) (by have:=HWS.out;show w.heap.size<W.heap.size;omega)).trans c0
   replace z0:=(b2.frozen (p:=⟨w.heap.size,0,none⟩) (by have:=HWS.out;show w.heap.size<W.heap.size;omega)).trans z0
   replace c1:=(b2.cell (p:=⟨w.heap.size,1,none⟩) (by have:=HWS.out;show w.heap.size<W.heap.size;omega)).trans c1
   replace z1:=(b2.frozen (p:=⟨w.heap.size,1,none⟩) (by have:=HWS.out;show w.heap.size<W.heap.size;omega)).trans z1
   replace c2:=(b2.cell (p:=⟨w.heap.size,2,none⟩) (by have:=HWS.out;show w.heap.size<W.heap.size;omega)).trans c2
   replace z2:=(b2.frozen (p:=⟨w.heap.size,2,none⟩) (by have:=HWS.out;show w.heap.size<W.heap.size;omega)).trans z2
   replace c3:=(b2.cell (p:=⟨w.heap.size,3,none⟩) (by have:=HWS.out;show w.heap.size<W.heap.size;omega)).trans c3
   replace z3:=(b2.frozen (p:=⟨w.heap.size,3,none⟩) (by have:=HWS.out;show w.heap.size<W.heap.size;omega)).trans z3
   replace c4:=(b2.cell (p:=⟨w.heap.size,4,none⟩) (by have:=HWS.out;show w.heap.size<W.heap.size;omega)).trans c4
   replace z4:=(b2.frozen (p:=⟨w.heap.size,4,none⟩) (by have:=HWS.out;show w.heap.size<W.heap.size;omega)).trans z4
   replace c5:=(b2.cell (p:=⟨w.heap.size,5,none⟩) (by have:=HWS.out;show w.heap.size<W.heap.size;omega)).trans c5
   replace z5:=(b2.frozen (p:=⟨w.heap.size,5,none⟩) (by have:=HWS.out;show w.heap.size<W.heap.size;omega)).trans z5
   have HB2:Hid (Below w.heap.size w w2):=next HBW.out b2
   have HX2:Hid (IntsAt w2 ao zs):=HX.out.below b2
   have HS2:Hid (w.heap.size+1≤w2.heap.size):=by have h1:=HWS.out;have h2:=b2.size;rw [Hid];omega
   clear b2
   go_wp2
   refine bodyPost_ret (by simp [results,Tryz.results44,go_sem,c0,c1,c2,c3,c4,c5];try rfl) rfl ?_
   exact bs_no HB.out (HB2.out.put6 _ _ _ _ _ _)
  ·have HB:Hid (bsOk t zs=true):=by simp [Hid,bsOk,ho,hd]
   rw [ho] at HOK
   go_enter Tryz.func44,Tryz.ntmps44
   go_upto_region 1 with fail
   rw [← HW.out]
   go_wp2_with fail
   refine (HDK.out _).mono ?_
   rintro e w1 ⟨rfl,hw1⟩
   replace hw1:=hw1.symm
   subst hw1
   go_wp2_with fail
   refine HOK.out.mono ?_
   rintro e w2 ⟨rfl,b2⟩
   replace c0:=(b2.cell (p:=⟨w.heap.size,0,none⟩) (by have:=HWS.out;show w.heap.size<W.heap.size;omega)).trans c0
   replace z0:=(b2.frozen (p:=⟨w.heap.size,0,none⟩) (by have:=HWS.out;show w.heap.size<W.heap.size;omega)).trans z0
   replace c1:=(b2.cell (p:=⟨w.heap.size,1,none⟩) (by have:=HWS.out;show w.heap.size<W.heap.size;omega)).trans c1
   replace z1:=(b2.frozen (p:=⟨w.heap.size,1,none⟩) (by have:=HWS.out;show w.heap.size<W.heap.size;omega)).trans z1
   replace c2:=(b2.cell (p:=⟨w.heap.size,2,none⟩) (by have:=HWS.out;show w.heap.size<W.heap.size;omega)).trans c2
   replace z2:=(b2.frozen (p:=⟨w.heap.size,2,none⟩) (by have:=HWS.out;show w.heap.size<W.heap.size;omega)).trans z2
   replace c3:=(b2.cell (p:=⟨w.heap.size,3,none⟩) (by have:=HWS.out;show w.heap.size<W.heap.size;omega)).trans c3
   replace z3:=(b2.frozen (p:=⟨w.heap.size,3,none⟩) (by have:=HWS.out;show w.heap.size<W.heap.size;omega)).trans z3
   replace c4:=(b2.cell (p:=⟨w.heap.size,4,none⟩) (by have:=HWS.out;show w.heap.size<W.heap.size;omega)).trans c4
   replace z4:=(b2.frozen (p:=⟨w.heap.size,4,none⟩) (by have:=HWS.out;show w.heap.size<W.heap.size;omega)).trans z4
   replace c5:=(b2.cell (p:=⟨w.heap.size,5,none⟩) (by have:=HWS.out;show w.heap.size<W.heap.size;omega)).trans c5
   replace z5:=(b2.frozen (p:=⟨w.heap.size,5,none⟩) (by have:=HWS.out;show w.heap.size<W.heap.size;omega)).trans z5
   have HB2:Hid (Below w.heap.size w w2):=next HBW.out b2
   have HX2:Hid (IntsAt w2 ao zs):=HX.out.below b2
   have HS2:Hid (w.heap.size+1≤w2.heap.size):=by have h1:=HWS.out;have h2:=b2.size;rw [Hid];omega
   clear b2
   go_wp2_with fail
   refine (joinI_any w2.heap.size ao c zs _ (by simp) (HX2.out.below ((Below.refl _ _).alloc (Nat.le_refl _) _)) (by omega)).mono ?_
   rintro e w3 ⟨a2,k2,rfl,o3,b3⟩
   have bb:Below w2.heap.size w2 w3:=((Below.refl _ _).alloc (Nat.le_refl _) _).trans (b3.mono (by simp))
   replace c0:=(bb.cell (p:=⟨w.heap.size,0,none⟩) (by have:=HS2.out;show w.heap.size<w2.heap.size;omega)).trans c0
   replace z0:=(bb.frozen (p:=⟨w.heap.size,0,none⟩) (by have:=HS2.out;show w.heap.size<w2.heap.size;omega)).trans z0
   replace c1:=(bb.cell (p:=⟨w.heap.size,1,none⟩) (by have:=HS2.out;show w.heap.size<w2.heap.size;omega)).trans c1
   replace z1:=(bb.frozen (p:=⟨w.heap.size,1,none⟩) (by have:=HS2.out;show w.heap.size<w2.heap.size;omega)).trans z1
   replace c2:=(bb.cell (p:=⟨w.heap.size,2,none⟩) (by have:=HS2.out;show w.heap.size<w2.heap.size;omega)).trans c2
   replace z2:=(bb.frozen (p:=⟨w.heap.size,2,none⟩) (by have:=HS2.out;show w.heap.size<w2.heap.size;omega)).trans z2
   replace c3:=(bb.cell (p:=⟨w.heap.size,3,none⟩) (by have:=HS2.out;show w.heap.size<w2.heap.size;omega)).trans c3
   replace z3:=(bb.frozen (p:=⟨w.heap.size,3,none⟩) (by have:=HS2.out;show w.heap.size<w2.heap.size;omega)).trans z3
   replace c4:=(bb.cell (p:=⟨w.heap.size,4,none⟩) (by have:=HS2.out;show w.heap.size<w2.heap.size;omega)).trans c4
   replace z4:=(bb.frozen (p:=⟨w.heap.size,4,none⟩) (by have:=HS2.out;show w.heap.size<w2.heap.size;omega)).trans z4
   replace c5:=(bb.cell (p:=⟨w.heap.size,5,none⟩) (by have:=HS2.out;show w.heap.size<w2.heap.size;omega)).trans c5
   replace z5:=(bb.frozen (p:=⟨w.heap.size,5,none⟩) (by have:=HS2.out;show w.heap.size<w2.heap.size;omega)).trans z5
   have HB3:Hid (Below w.heap.size w w3):=next HB2.out bb
   have HO3:Hid (w3.ownsRow (w.heap.size+1) 3 1 (.slice a2 zs.length k2) zs.length (zs.map (Value.int .i64))):=lowerI o3 (by have:=HS2.out;simp;omega)
   clear bb o3 b3
   go_wp2
   refine bodyPost_ret (by simp [results,Tryz.results44,go_sem,c0,c1,c2,c3,c4,c5];try rfl) rfl ?_
   exact bs_yes HB.out HO3.out (Nat.le_refl _) HB3.out
theorem sBStart_any (t:Int) (ao:Option Addr) (c:Nat) (zs:List Int) (w:World) (hx:IntsAt w ao zs) (hn:zs.length≤1048576) :
  Calls Tryz.prog 45 #[.int .i64 t,.slice ao zs.length c] w (BsR w t zs):=by
 obtain ⟨W,hW⟩:∃ W,W=w.alloc (.cells #[.int .i64 0,.slice none 0 0,.slice none 0 0,.slice none 0 0,.slice none 0 0,.slice none 0 0] 31):=⟨_,rfl⟩
 have c0:W.cell? ⟨w.heap.size,0,none⟩=some (.int .i64 0):=by rw [hW];simp
 have z0:W.frozen? ⟨w.heap.size,0,none⟩=false:=by rw [hW];simp [go_sem]
 have c1:W.cell? ⟨w.heap.size,1,none⟩=some (.slice none 0 0):=by rw [hW];simp
 have z1:W.frozen? ⟨w.heap.size,1,none⟩=false:=by rw [hW];simp [go_sem]
 have c2:W.cell? ⟨w.heap.size,2,none⟩=some (.slice none 0 0):=by rw [hW];simp
 have z2:W.frozen? ⟨w.heap.size,2,none⟩=false:=by rw [hW];simp [go_sem]
 have c3:W.cell? ⟨w.heap.size,3,none⟩=some (.slice none 0 0):=by rw [hW];simp
 have z3:W.frozen? ⟨w.heap.size,3,none⟩=false:=by rw [hW];simp [go_sem]
 have c4:W.cell? ⟨w.heap.size,4,none⟩=some (.slice none 0 0):=by rw [hW];simp
 have z4:W.frozen? ⟨w.heap.size,4,none⟩=false:=by rw [hW];simp [go_sem]
 have c5:W.cell? ⟨w.heap.size,5,none⟩=some (.slice none 0 0):=by rw [hW];simp
 have z5:W.frozen? ⟨w.heap.size,5,none⟩=false:=by rw [hW];simp [go_sem]
 have bW:Below w.heap.size w W:=by rw [hW];go_grown
 have hWs:W.heap.size=w.heap.size+1:=by rw [hW];simp
 have HW:Hid _:=hW
 have HX:Hid (IntsAt W ao zs):=hx.below bW
 have HBW:Hid (Below w.heap.size w W):=bW
 have HWS:Hid (W.heap.size=w.heap.size+1):=hWs
 clear hx bW hWs hW
 have HDK:Hid (∀ u,Calls Tryz.prog 102 #[.int .i64 t] u fun e w'=>e=.returned (.bool (dOk t))∧w'=u):=fun u=>sDayOk_any t u
 have HOK:Hid (Calls Tryz.prog 103 #[.slice ao zs.length c] W fun e w'=>e=.returned (.bool (offOk zs))∧Below W.heap.size W w'):=sOff_any ao c zs W HX.out (by omega)
 cases hd:dOk t
 ·have HB:Hid (bsOk t zs=false):=by simp [Hid,bsOk,hd]
  rw [hd] at HDK
  go_enter Tryz.func45,Tryz.ntmps45
  go_upto_region 1 with fail
  rw [← HW.out]
  go_wp2_with fail
  refine (HDK.out _).mono ?_
  rintro e w1 ⟨rfl,hw1⟩
  replace hw1:=hw1.symm
  subst hw1
  go_wp2
  refine bodyPost_ret (by simp [results,Tryz.results45,go_sem,c0,c1,c2,c3,c4,c5];try rfl) rfl ?_
  exact bs_no HB.out (HBW.out.put6 _ _ _ _ _ _)
 ·rw [hd] at HDK
  cases ho:offOk zs
  ·have HB:Hid (bsOk t zs=false):=by simp [Hid,bsOk,ho]
   rw [ho] at HOK
   go_enter Tryz.func45,Tryz.ntmps45
   go_upto_region 1 with fail
   rw [← HW.out]
   go_wp2_with fail
   refine (HDK.out _).mono ?_
   rintro e w1 ⟨rfl,hw1⟩
   replace hw1:=hw1.symm
   subst hw1
   go_wp2_with fail
   refine HOK.out.mono ?_
   rintro e w2 ⟨rfl,b2⟩
   replace c0:=(b2.cell (p:=⟨w.heap.size,0,none⟩) (by have:=HWS.out;show w.heap.size<W.heap.size;omega)).trans c0
   replace z0:=(b2.frozen (p:=⟨w.heap.size,0,none⟩) (by have:=HWS.out;show w.heap.size<W.heap.size;omega)).trans z0
   replace c1:=(b2.cell (p:=⟨w.heap.size,1,none⟩) (by have:=HWS.out;show w.heap.size<W.heap.size;omega)).trans c1
   replace z1:=(b2.frozen (p:=⟨w.heap.size,1,none⟩) (by have:=HWS.out;show w.heap.size<W.heap.size;omega)).trans z1
   replace c2:=(b2.cell (p:=⟨w.heap.size,2,none⟩) (by have:=HWS.out;show w.heap.size<W.heap.size;omega)).trans c2
   replace z2:=(b2.frozen (p:=⟨w.heap.size,2,none⟩) (by have:=HWS.out;show w.heap.size<W.heap.size;omega)).trans z2
   replace c3:=(b2.cell (p:=⟨w.heap.size,3,none⟩) (by have:=HWS.out;show w.heap.size<W.heap.size;omega)).trans c3
   replace z3:=(b2.frozen (p:=⟨w.heap.size,3,none⟩) (by have:=HWS.out;show w.heap.size<W.heap.size;omega)).trans z3
   replace c4:=(b2.cell (p:=⟨w.heap.size,4,none⟩) (by have:=HWS.out;show w.heap.size<W.heap.size;omega)).trans c4
   replace z4:=(b2.frozen (p:=⟨w.heap.size,4,none⟩) (by have:=HWS.out;show w.heap.size<W.heap.size;omega)).trans z4
   replace c5:=(b2.cell (p:=⟨w.heap.size,5,none⟩) (by have:=HWS.out;show w.heap.size<W.heap.size;omega)).trans c5
   replace z5:=(b2.frozen (p:=⟨w.heap.size,5,none⟩) (by have:=HWS.out;show w.heap.size<W.heap.size;omega)).trans z5
   have HB2:Hid (Below w.heap.size w w2):=next HBW.out b2
   have HX2:Hid (IntsAt w2 ao zs):=HX.out.below b2
   have HS2:Hid (w.heap.size+1≤w2.heap.size):=by have h1:=HWS.out;have h2:=b2.size;rw [Hid];omega
   clear b2
   go_wp2
   refine bodyPost_ret (by simp [results,Tryz.results45,go_sem,c0,c1,c2,c3,c4,c5];try rfl) rfl ?_
   exact bs_no HB.out (HB2.out.put6 _ _ _ _ _ _)
  ·have HB:Hid (bsOk t zs=true):=by simp [Hid,bsOk,ho,hd]
   rw [ho] at HOK
   go_enter Tryz.func45,Tryz.ntmps45
   go_upto_region 1 with fail
   rw [← HW.out]
   go_wp2_with fail
   refine (HDK.out _).mono ?_
   rintro e w1 ⟨rfl,hw1⟩
   replace hw1:=hw1.symm
   subst hw1
   go_wp2_with fail
   refine HOK.out.mono ?_
   rintro e w2 ⟨rfl,b2⟩
   replace c0:=(b2.cell (p:=⟨w.heap.size,0,none⟩) (by have:=HWS.out;show w.heap.size<W.heap.size;omega)).trans c0
   replace z0:=(b2.frozen (p:=⟨w.heap.size,0,none⟩) (by have:=HWS.out;show w.heap.size<W.heap.size;omega)).trans z0
   replace c1:=(b2.cell (p:=⟨w.heap.size,1,none⟩) (by have:=HWS.out;show w.heap.size<W.heap.size;omega)).trans c1
   replace z1:=(b2.frozen (p:=⟨w.heap.size,1,none⟩) (by have:=HWS.out;show w.heap.size<W.heap.size;omega)).trans z1
   replace c2:=(b2.cell (p:=⟨w.heap.size,2,none⟩) (by have:=HWS.out;show w.heap.size<W.heap.size;omega)).trans c2
   replace z2:=(b2.frozen (p:=⟨w.heap.size,2,none⟩) (by have:=HWS.out;show w.heap.size<W.heap.size;omega)).trans z2
   replace c3:=(b2.cell (p:=⟨w.heap.size,3,none⟩) (by have:=HWS.out;show w.heap.size<W.heap.size;omega)).trans c3
   replace z3:=(b2.frozen (p:=⟨w.heap.size,3,none⟩) (by have:=HWS.out;show w.heap.size<W.heap.size;omega)).trans z3
   replace c4:=(b2.cell (p:=⟨w.heap.size,4,none⟩) (by have:=HWS.out;show w.heap.size<W.heap.size;omega)).trans c4
   replace z4:=(b2.frozen (p:=⟨w.heap.size,4,none⟩) (by have:=HWS.out;show w.heap.size<W.heap.size;omega)).trans z4
   replace c5:=(b2.cell (p:=⟨w.heap.size,5,none⟩) (by have:=HWS.out;show w.heap.size<W.heap.size;omega)).trans c5
   replace z5:=(b2.frozen (p:=⟨w.heap.size,5,none⟩) (by have:=HWS.out;show w.heap.size<W.heap.size;omega)).trans z5
   have HB2:Hid (Below w.heap.size w w2):=next HBW.out b2
   have HX2:Hid (IntsAt w2 ao zs):=HX.out.below b2
   have HS2:Hid (w.heap.size+1≤w2.heap.size):=by have h1:=HWS.out;have h2:=b2.size;rw [Hid];omega
   clear b2
   have HOE:Hid ((w2.alloc (.cells #[] 3)).ownsRow (w.heap.size+1) 3 1 (.slice (some ⟨w2.heap.size,0,none⟩) 0 0) 0 []):=World.ownsRow_lit w2 #[] 0 HS2.out (by unfold maxLen;omega) rfl
   go_wp2_with (at_builtin;refine wpList_append_intsAt _ rfl (.tmp 16) (.tmp 17) rfl (w.heap.size+1) _ 0 [] rfl HOE.out ao c zs rfl (HX2.out.below ((Below.refl _ _).alloc (Nat.le_refl _) _)) (by omega) (by have:=HS2.out;simp;omega) ?_;intro v3 w3 o3 g3;obtain ⟨a2,k2,hv3⟩:=own_shape o3;rw [Nat.zero_add] at hv3;subst hv3;rw [Nat.zero_add,List.nil_append] at o3;have bb:Below w2.heap.size w2 w3:=((Below.refl _ _).alloc (Nat.le_refl _) _).grown g3 (by simp) (fun j hj=>by have hj2:some w2.heap.size=some j:=hj;injection hj2 with hj2;omega);replace c0:=(bb.cell (p:=⟨w.heap.size,0,none⟩) (by have:=HS2.out;show w.heap.size<w2.heap.size;omega)).trans c0;replace z0:=(bb.frozen (p:=⟨w.heap.size,0,none⟩) (by have:=HS2.out;show w.heap.size<w2.heap.size;omega)).trans z0;replace c1:=(bb.cell (p:=⟨w.heap.size,1,none⟩) (by have:=HS2.out;show w.heap.size<w2.heap.size;omega)).trans c1;replace z1:=(bb.frozen (p:=⟨w.heap.size,1,none⟩) (by have:=HS2.out;show w.heap.size<w2.heap.size;omega)).trans z1;replace c2:=(bb.cell (p:=⟨w.heap.size,2,none⟩) (by have:=HS2.out;show w.heap.size<w2.heap.size;omega)).trans c2;replace z2:=(bb.frozen (p:=⟨w.heap.size,2,none⟩) (by have:=HS2.out;show w.heap.size<w2.heap.size;omega)).trans z2;replace c3:=(bb.cell (p:=⟨w.heap.size,3,none⟩) (by have:=HS2.out;show w.heap.size<w2.heap.size;omega)).trans c3;replace z3:=(bb.frozen (p:=⟨w.heap.size,3,none⟩) (by have:=HS2.out;show w.heap.size<w2.heap.size;omega)).trans z3;replace c4:=(bb.cell (p:=⟨w.heap.size,4,none⟩) (by have:=HS2.out;show w.heap.size<w2.heap.size;omega)).trans c4;replace z4:=(bb.frozen (p:=⟨w.heap.size,4,none⟩) (by have:=HS2.out;show w.heap.size<w2.heap.size;omega)).trans z4;replace c5:=(bb.cell (p:=⟨w.heap.size,5,none⟩) (by have:=HS2.out;show w.heap.size<w2.heap.size;omega)).trans c5;replace z5:=(bb.frozen (p:=⟨w.heap.size,5,none⟩) (by have:=HS2.out;show w.heap.size<w2.heap.size;omega)).trans z5)
   have HB3:Hid (Below w.heap.size w w3):=next HB2.out bb
   have HO3:Hid (w3.ownsRow (w.heap.size+1) 3 1 (.slice a2 zs.length k2) zs.length (zs.map (Value.int .i64))):=o3
   clear bb o3 g3 HOE
   go_wp2
   refine bodyPost_ret (by simp [results,Tryz.results45,go_sem,c0,c1,c2,c3,c4,c5];try rfl) rfl ?_
   exact bs_yes HB.out HO3.out (Nat.le_refl _) HB3.out
def mkA1 (n:Nat):Au:=⟨mtx (n),((n+1:Nat):Int),((n+2:Nat):Int),((n+3:Nat):Int),((n+4:Nat):Int),((n+5:Nat):Int) % 3 == 0⟩
def mkA (k n:Nat):List Au:=(List.range n).map fun i=>mkA1 (k+6*i)
theorem mkA_len (k n:Nat):(mkA k n).length=n:=by simp [mkA]
theorem mkA_at (k n i:Nat) (h:i<n):auAt (mkA k n) i=mkA1 (k+6*i):=by simp [auAt,mkA,List.getD_eq_getElem?_getD,h]
def fillA (az:List Au) (k j:Nat):List Au:=mkA k j++az.drop j
theorem fillA_len (az:List Au) (k j:Nat) (h:j≤az.length):(fillA az k j).length=az.length:=by simp [fillA,mkA_len];omega
theorem fillA_zero (az:List Au) (k:Nat):fillA az k 0=az:=by simp [fillA,mkA]
theorem fillA_all (az:List Au) (k:Nat):fillA az k az.length=mkA k az.length:=by simp [fillA]
theorem fillA_succ (az:List Au) (k j:Nat) (h:j<az.length):(fillA az k j).set j (mkA1 (k+6*j))=fillA az k (j+1):=by
 unfold fillA
 rw [List.set_append,if_neg (by rw [mkA_len];omega),mkA_len,Nat.sub_self,List.drop_eq_getElem_cons h,List.set_cons_zero]
 simp [mkA,List.range_succ]
theorem grown_ofA {w w':World} (h:Below w.heap.size w w') (r:Option Nat):w.grownBy w' r:=⟨h.os,h.tape,h.output,h.size,fun k hk _=>h.block k hk⟩
theorem markAuthS_any (ao:Option Addr) (cap base k:Nat) (az:List Au) (w:World) (ho:w.ownsRow base 107 6 (.slice ao az.length cap) az.length (acells az)) (hn:az.length≤1099511627) (k1:0<k) (k2:k≤1099511627) :
  Calls Tryz.prog 57 #[.slice ao az.length cap,.int .i64 k] w fun e w'=>e=.returned (.int .i64 (k+6*az.length:Nat)) ∧
   w'.ownsRow base 107 6 (.slice ao az.length cap) az.length (acells (mkA k az.length))∧w.grownBy w' (Value.slice ao az.length cap).ownBlock:=by
 rcases ho.2 with ⟨hv,h0⟩ | ⟨g,cap',cur,hv,hrest⟩
 ·obtain rfl:az=[]:=List.eq_nil_of_length_eq_zero h0
  obtain ⟨rfl,rfl⟩:ao=none∧cap=0:=by simpa using hv
  clear hv h0
  go_enter Tryz.func57,Tryz.ntmps57
  go_wp2
  refine wp_loop_rounds 1 ?_
  rw [rounds_succ]
  go_wp2
  go_ret
  exact ⟨one_int (by simp),World.ownsRow_nil _ _ _ _,World.grownBy.refl _ _⟩
 ·obtain ⟨rfl,rfl⟩:ao=some ⟨g,0,none⟩∧cap=cap':=by simpa using hv
  clear hv hrest
  go_enter Tryz.func57,Tryz.ntmps57
  go_wp2
  go_loopw [1,5] (fun c i wr=>∃ j:Nat,j≤az.length∧i=.int .i64 j∧c=.int .i64 (k+6*j:Nat)∧wr.ownsRow base 107 6 (.slice (some ⟨g,0,none⟩) az.length cap) az.length (acells (fillA az k j))∧w.grownBy wr (some g)) (fun _ i _=>az.length - (intOf i).toNat)
  case atStart=>exact ⟨0,Nat.zero_le _,rfl,rfl,by rw [fillA_zero];exact ho,World.grownBy.refl _ _⟩
  case round =>
   obtain ⟨j,hj,rfl,rfl,hor,hgr⟩:=hrel
   clear ho
   by_cases hlt:j<az.length
   ·have hji:(j:Int)<(az.length:Int):=by omega
    have HFL:Hid (j<(fillA az k j).length):=by rw [Hid,fillA_len az k j hj];exact hlt
    have HSU:Hid ((fillA az k j).set j (mkA1 (k+6*j))=fillA az k (j+1)):=fillA_succ az k j hlt
    obtain ⟨fs,hfs⟩:∃ x,fillA az k j=x:=⟨_,rfl⟩
    obtain ⟨gs,hgs⟩:∃ x,fillA az k (j+1)=x:=⟨_,rfl⟩
    have HGS:Hid _:=hgs
    rw [hfs] at hor HFL HSU
    rw [hgs] at HSU
    obtain ⟨m,hm⟩:∃ m:Nat,k+6*j=m:=⟨_,rfl⟩
    rw [hm] at HSU ⊢
    have hmb:m≤7696581390:=by omega
    have hm0:0<m:=by omega
    have HM:Hid (k+6 * (j+1)=m+1+1+1+1+1+1):=by rw [Hid];omega
    have HO:Hid (wr.ownsRow base 107 6 (.slice (some ⟨g,0,none⟩) az.length cap) az.length (acells fs)):=hor
    have HG:Hid (w.grownBy wr (some g)):=hgr
    clear hor hgr hm hfs hgs
    go_wp2_with fail
    refine (markText_any m _ hm0 (by omega)).mono ?_
    rintro e w2 ⟨rfl,b2⟩
    have ho:=keepA HO.out b2
    have hat:=acells_at fs j HFL.out
    have HS:=acells_set fs (mkA1 m) j HFL.out
    rw [HSU.out] at HS
    simp only [mkA1] at HS
    have y0:w2.cell? ⟨g,j*6,none⟩=some (.string ⟨(auAt fs j).ref.toArray⟩):=by rw [ho.cellAt (j*6) (by omega)];exact hat.1
    have z0:w2.frozen? ⟨g,j*6,none⟩=false:=ho.frozenAt _
    have y1:w2.cell? ⟨g,j*6+1,none⟩=some (.int .i64 (auAt fs j).iss):=by rw [ho.cellAt (j*6+1) (by omega)];exact hat.2.1
    have z1:w2.frozen? ⟨g,j*6+1,none⟩=false:=ho.frozenAt _
    have y2:w2.cell? ⟨g,j*6+2,none⟩=some (.int .i64 (auAt fs j).cur):=by rw [ho.cellAt (j*6+2) (by omega)];exact hat.2.2.1
    have z2:w2.frozen? ⟨g,j*6+2,none⟩=false:=ho.frozenAt _
    have y3:w2.cell? ⟨g,j*6+3,none⟩=some (.int .i64 (auAt fs j).am):=by rw [ho.cellAt (j*6+3) (by omega)];exact hat.2.2.2.1
    have z3:w2.frozen? ⟨g,j*6+3,none⟩=false:=ho.frozenAt _
    have y4:w2.cell? ⟨g,j*6+4,none⟩=some (.int .i64 (auAt fs j).day):=by rw [ho.cellAt (j*6+4) (by omega)];exact hat.2.2.2.2.1
    have z4:w2.frozen? ⟨g,j*6+4,none⟩=false:=ho.frozenAt _
    have y5:w2.cell? ⟨g,j*6+5,none⟩=some (.bool (auAt fs j).used):=by rw [ho.cellAt (j*6+5) (by omega)];exact hat.2.2.2.2.2
    have z5:w2.frozen? ⟨g,j*6+5,none⟩=false:=ho.frozenAt _
    have R0:=ho.stored (j*6) (.string ⟨(mtx m).toArray⟩)
    have R1:=R0.1.stored (j*6+1) (.int .i64 ((m+1:Nat):Int))
    have R2:=R1.1.stored (j*6+2) (.int .i64 ((m+2:Nat):Int))
    have R3:=R2.1.stored (j*6+3) (.int .i64 ((m+3:Nat):Int))
    have R4:=R3.1.stored (j*6+4) (.int .i64 ((m+4:Nat):Int))
    have R5:=R4.1.stored (j*6+5) (.bool (((m+5:Nat):Int) % 3 == 0))
    have R:=R5.1
    rw [HS] at R
    have G:=(((((((HG.out.trans (grown_ofA b2 (some g))).trans R0.2).trans R1.2).trans R2.2).trans R3.2).trans R4.2).trans R5.2)
    rw [show ((m+1:Nat):Int)=(m:Int)+1 by omega,show ((m+2:Nat):Int)=(m:Int)+1+1 by omega,show ((m+3:Nat):Int)=(m:Int)+1+1+1 by omega,show ((m+4:Nat):Int)=(m:Int)+1+1+1+1 by omega,show ((m+5:Nat):Int)=(m:Int)+1+1+1+1+1 by omega] at R G
    have HR:Hid _:=R
    have HGG:Hid _:=G
    obtain ⟨⟨r,i,c,q,d,u⟩,hold⟩:∃ x,auAt fs j=x:=⟨_,rfl⟩
    rw [hold] at y0 y1 y2 y3 y4 y5
    simp only at y0 y1 y2 y3 y4 y5
    obtain ⟨tx,htx⟩:∃ x,mtx m=x:=⟨_,rfl⟩
    rw [htx] at HR HGG ⊢
    clear R0 R1 R2 R3 R4 R5 R G hat HS HSU ho hold htx HO HG b2 HFL
    go_wp2
    go_roundw
    case rel=>exact ⟨j+1,by omega,by go_num,by rw [HM.out];go_num,by rw [HGS.out];exact HR.out,HGG.out⟩
    case measure=>simp [intOf];omega
   ·have hjn:j=az.length:=by omega
    subst hjn
    rw [fillA_all] at hor
    have HO:Hid _:=hor
    clear hor
    go_wp2
    go_ret
    exact ⟨rfl,HO.out,hgr⟩
theorem markText_isA (n:Nat) (x:Int) (hx:x=(n:Int)) (w:World) (h0:0<n) (hn:n≤1099511627776) :
  Calls Tryz.prog 56 #[.int .i64 x] w fun e w'=>e=.returned (.string ⟨(mtx n).toArray⟩)∧Below w.heap.size w w':=by
 rw [hx];exact markText_any n w h0 hn
theorem heldAuthS_any (ao:Option Addr) (cap n k:Nat) (w:World) (hz:AuthsAt w ao (mkA k n)) (hn:n≤1099511627) (k1:0<k) (k2:k≤1099511627) :
  Calls Tryz.prog 61 #[.slice ao n cap,.int .i64 k] w fun e w'=>e=.returned (.int .i64 (k+6*n:Nat))∧Below w.heap.size w w':=by
 rcases hz with h0 | ⟨b,off,rfl,hb,hcell⟩
 ·have hn0:n=0:=by have:=mkA_len k n;rw [h0] at this;simpa using this.symm
  subst hn0
  clear h0
  go_enter Tryz.func61,Tryz.ntmps61
  go_wp2
  refine wp_loop_rounds 1 ?_
  rw [rounds_succ]
  go_wp2
  go_ret
  exact ⟨one_int (by simp),Below.refl _ _⟩
 ·rw [mkA_len] at hcell
  have HC:Hid (∀ i,i<n→w.cell? ⟨b,off+i*6,none⟩=some (.string ⟨(mtx (k+6*i)).toArray⟩)∧w.cell? ⟨b,off+i*6+1,none⟩=some (.int .i64 ((k+6*i+1:Nat):Int))∧w.cell? ⟨b,off+i*6+2,none⟩=some (.int .i64 ((k+6*i+2:Nat):Int))∧w.cell? ⟨b,off+i*6+3,none⟩=some (.int .i64 ((k+6*i+3:Nat):Int))∧w.cell? ⟨b,off+i*6+4,none⟩=some (.int .i64 ((k+6*i+4:Nat):Int))∧w.cell? ⟨b,off+i*6+5,none⟩=some (.bool (((k+6*i+5:Nat):Int) % 3 == 0))):=by
   intro i hi
   have:=hcell i hi
   rw [mkA_at k n i hi] at this
   exact this
  clear hcell
  go_enter Tryz.func61,Tryz.ntmps61
  go_wp2
  go_loopw [1,5] (fun c i wr=>∃ j:Nat,j≤n∧i=.int .i64 j∧c=.int .i64 (k+6*j:Nat)∧Below w.heap.size w wr) (fun _ i _=>n - (intOf i).toNat)
  case atStart=>exact ⟨0,Nat.zero_le _,rfl,rfl,Below.refl _ _⟩
  case round =>
   obtain ⟨j,hj,rfl,rfl,hbr⟩:=hrel
   by_cases hlt:j<n
   ·have hji:(j:Int)<(n:Int):=by omega
    have HX:Hid (∀ v,Below w.heap.size w v→v.cell? ⟨b,off+j*6,none⟩=some (.string ⟨(mtx (k+6*j)).toArray⟩)∧v.cell? ⟨b,off+j*6+1,none⟩=some (.int .i64 ((k+6*j+1:Nat):Int))∧v.cell? ⟨b,off+j*6+2,none⟩=some (.int .i64 ((k+6*j+2:Nat):Int))∧v.cell? ⟨b,off+j*6+3,none⟩=some (.int .i64 ((k+6*j+3:Nat):Int))∧v.cell? ⟨b,off+j*6+4,none⟩=some (.int .i64 ((k+6*j+4:Nat):Int))∧v.cell? ⟨b,off+j*6+5,none⟩=some (.bool (((k+6*j+5:Nat):Int) % 3 == 0))):=fun v hv=>⟨(hv.cell (p:=⟨b,off+j*6,none⟩) hb).trans (HC.out j hlt).1,(hv.cell (p:=⟨b,off+j*6+1,none⟩) hb).trans (HC.out j hlt).2.1,(hv.cell (p:=⟨b,off+j*6+2,none⟩) hb).trans (HC.out j hlt).2.2.1,(hv.cell (p:=⟨b,off+j*6+3,none⟩) hb).trans (HC.out j hlt).2.2.2.1,(hv.cell (p:=⟨b,off+j*6+4,none⟩) hb).trans (HC.out j hlt).2.2.2.2.1,(hv.cell (p:=⟨b,off+j*6+5,none⟩) hb).trans (HC.out j hlt).2.2.2.2.2⟩
    obtain ⟨m,hm⟩:∃ m:Nat,k+6*j=m:=⟨_,rfl⟩
    rw [hm] at HX ⊢
    simp only [show ((m+1:Nat):Int)=(m:Int)+1 by omega,show ((m+2:Nat):Int)=(m:Int)+1+1 by omega,show ((m+3:Nat):Int)=(m:Int)+1+1+1 by omega,show ((m+4:Nat):Int)=(m:Int)+1+1+1+1 by omega,show ((m+5:Nat):Int)=(m:Int)+1+1+1+1+1 by omega] at HX
    have hmb:m≤7696581390:=by omega
    have hm0:0<m:=by omega
    have HM:Hid (k+6 * (j+1)=m+1+1+1+1+1+1):=by rw [Hid];omega
    clear hm
    obtain ⟨x0,-⟩:=HX.out wr hbr
    have hne:=over_ne wr
    have g2:=over_cell x0
    go_wp2
    refine wp_region_over (by kernel_rfl) (by kernel_rfl) ?_
    repeat (go_big_quiet_step (exact over_of (markText_isA m _ rfl _ hm0 (by omega))))
    refine wpQuiet_nil ?_
    rintro w2 ⟨⟨wz,b2⟩,hw2⟩
    subst hw2
    have HB:Hid (Below w.heap.size w w2):=hbr.trans (b2.mono hbr.size)
    obtain ⟨-,x1,x2,x3,x4,x5⟩:=HX.out w2 HB.out
    clear x0 hne g2 b2 hbr
    generalize mtx m=tx
    have n1:((m:Int)+1 != (m:Int)+1)=false:=by simp
    have n2:((m:Int)+1+1 != (m:Int)+1+1)=false:=by simp
    have n3:((m:Int)+1+1+1 != (m:Int)+1+1+1)=false:=by simp
    have n4:((m:Int)+1+1+1+1 != (m:Int)+1+1+1+1)=false:=by simp
    have n5:((((m:Int)+1+1+1+1+1) % 3 == 0) != (((m:Int)+1+1+1+1+1) % 3 == 0))=false:=by simp
    go_wp2
    go_roundw
    case rel=>exact ⟨j+1,by omega,by go_num,by rw [HM.out];go_num,HB.out⟩
    case measure=>simp [intOf];omega
   ·have hjn:j=n:=by omega
    subst hjn
    go_wp2
    go_ret
    exact ⟨rfl,hbr⟩
end Go.Proofs.YtomiclakhjncbaaGreatDoor
