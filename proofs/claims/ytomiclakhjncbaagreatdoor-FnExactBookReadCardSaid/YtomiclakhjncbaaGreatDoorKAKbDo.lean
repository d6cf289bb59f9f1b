import Derived.Test.YtomiclakhjncbaaGreatDoorJA6a
import Derived.Test.YtomiclakhjncbaaGreatDoorJA1a
namespace Go.Proofs.YtomiclakhjncbaaGreatDoor.Kb
open Go.RowKit Go.MuLone
set_option maxRecDepth 100000
set_option maxHeartbeats 12800000
def withLog (b:Bk) (line:List UInt8):Bk:=⟨b.today,b.off,b.az,b.cs,b.ls,b.log++[line]⟩
def DoRl (F:Fns) (b:Bk) (line:List UInt8) (r:Bk×Int):Prop :=
 if 600≤b.log.length then r=(b,2) else ∃ r0,WordsI F b (wordsW line) r0∧r=if r0.2=0 then (withLog r0.1 line,0) else r0
def DoR (B K:Nat) (F:Fns) (b:Bk) (line:List UInt8) (w:World) (e:Ending) (w':World):Prop:=∃ r q v,DoRl F b line r∧e=.returned v∧errIs r.2 v∧KS B K 0 r.1 q w'∧Below B w w'
theorem step_append_txts {ops:Array Oper} {o:Oper} {a:Act} {w:World} {K:Act→World→Prop} {Q:Exit→Act→World→Prop} {E:Prop} (hgd:o.guard=none) (s x:Operand)
  (ho:o.op=.call { callee:=.builtin .append,args:=#[s,x],argTypes:=#[23,23] }) (base:Nat) (v:Value) (n:Nat) (xs:List Value) (hs:a.eval s=v) (hown:w.ownsRow base 9 1 v n xs)
  (ao:Option Addr) (c:Nat) (rs:Recs) (hx:a.eval x=.slice ao rs.length c) (hz:TxtsAt w ao rs) (hn:n+rs.length≤4000000) (hbase:base≤w.heap.size)
  (h:∀ v' w',w'.ownsRow base 9 1 v' (n+rs.length) (xs++scells rs)→w.grownBy w' v.ownBlock→K (a.put o.dst v') w') :
  if Region.wanted o (yielded ops a.tmps)=true then Oper.wp Tryz.prog o a w K Q else E:=by
 have hw:Region.wanted o (yielded ops a.tmps)=true:=by simp [Region.wanted,hgd]
 rw [if_pos hw]
 obtain ⟨v',w',hr,h1,h2⟩:=run_append_txtsAt w base o.type v n xs hown ao c rs hz hn hbase
 unfold Oper.wp execOp
 simp only [ho,resolve,invoke,builtin,Sem.run_bind,Sem.run_pure,Result.andThen_ok,List.map_toArray,List.map_cons,List.map_nil,hs,hx,hr]
 exact h v' w' h1 h2
theorem one_text {u:World} {g:Nat} {r:List UInt8} (h:u.cell? ⟨g,0,none⟩=some (.string ⟨r.toArray⟩)):TxtsAt u (some ⟨g,0,none⟩) [r] :=
 .inr ⟨g,0,rfl,World.block_lt_of_cell? u _ h,fun i hi=>by
  obtain rfl:i=0:=by simpa using hi
  simpa [nth] using h⟩
theorem kbG {B K:Nat} {st:Int} {b:Bk} {q:Bp} {W u u':World} (k:KS B K st b q W) (g:u.grownBy u' (Value.slice q.g b.log.length q.gc).ownBlock) (h:Below W.heap.size W u):u'.cell? ⟨K,7,none⟩=some (.slice q.g b.log.length q.gc)∧u'.frozen? ⟨K,7,none⟩=false:=by
 have ku:=k.below h
 have zz:=ku.z.grown g (own_neR ku.log ku.kt (by decide))
 exact ⟨zz.c7,zz.z7⟩
theorem words_hd (l:List UInt8):∃ r0 rs,wordsW l=r0::rs:=by
 cases h:wordsW l with
 | nil=>have:=(wordsW_len l).1;rw [h] at this;simp at this
 | cons r rs=>exact ⟨r,rs,rfl⟩
theorem words_log {F:Fns} {b:Bk} {ws:Recs} {r:Bk×Int} (h:WordsI F b ws r):r.1.log=b.log:=by
 unfold WordsI at h
 split at h
 ·rw [h];unfold dayR dayB;split
  ·split <;> rfl
  ·rfl
 split at h
 ·rw [h];unfold authR authB;split
  ·split <;> rfl
  ·rfl
 split at h
 ·unfold PayRl at h
  split at h
  ·obtain ⟨x,-,rfl⟩:=h
   unfold payB
   repeat' split
   all_goals rfl
  ·rw [h]
 split at h
 ·rw [h];unfold actR actB;split
  ·repeat' split
   all_goals rfl
  ·rfl
 ·rw [h]
theorem iDo_any {F:Fns} {E:World→Prop} {G B K:Nat} (KI:KnI F E G) (hGB:G≤B) (HA:ActKn F E B K) (b:Bk) (q:Bp) (line:List UInt8) (w:World) (hk:KS B K 0 b q w) (hE:E w) (hP:PreI b) (hl:line.length<1048576) :
  Calls Tryz.prog 83 #[.pointer (some ⟨K,0,none⟩),.string ⟨line.toArray⟩] w (DoR B K F b line w):=by
 have HKI:Hid (KnI F E G):=KI
 have HGB:Hid (G≤B):=hGB
 have HAC:Hid (ActKn F E B K):=HA
 have HK0:Hid (KS B K 0 b q w):=hk
 have HE0:Hid (E w):=hE
 have HPR:Hid (PreI b):=hP
 have c0:=hk.z.c0
 have z0:=hk.z.z0
 clear KI hGB HA hk hE hP
 go_enter_defers Tryz.func83,Tryz.ntmps83
 go_wp2_with fail
 refine (lock_free muH ⟨K,0,none⟩ w c0 z0).mono ?_
 rintro e w1 ⟨rfl,hw1⟩
 have HK1:Hid (KS B K 1 b q w1):=by rw [Hid,hw1];exact HK0.out.setSt 1
 have HB1:Hid (Below B w w1):=by rw [Hid,hw1];exact (Below.refl _ _).setCell HK0.out.hK _
 have HE1:Hid (E w1):=HKI.out.keep _ _ HE0.out (HB1.out.mono HGB.out)
 clear hw1 c0 z0
 have c7:=HK1.out.z.c7
 have hlm:b.log.length≤1048576:=HPR.out.sm.2.2.2.2
 by_cases hfull:600≤b.log.length
 ·have hfi:(600:Int)≤(b.log.length:Int):=by omega
  obtain ⟨et,ea,hee⟩:=HKI.out.eFull w1 HE1.out
  have HQ:Hid (DoRl F b line (b,2)):=by rw [Hid,DoRl,if_pos hfull]
  clear hfull
  go_wp2_with fail
  refine leaves_cons (f:=114) (args:=#[.pointer (some ⟨K,0,none⟩)]) (by simp) (by simp [go_sem]) ?_
  refine (unlock_deferred muH ⟨K,0,none⟩ .returning _ HK1.out.z.c0 HK1.out.z.z0).mono ?_
  rintro e u' w2 ⟨rfl,rfl,rfl⟩
  exact ⟨_,results_tmp rfl _ _ _,(b,2),q,_,HQ.out,rfl,.inr ⟨(by show (2:Int)≠0;decide),_,rfl⟩,HK1.out.setSt 0,HB1.out.setCell HK1.out.hK _⟩
 have hfi:¬ (600:Int)≤(b.log.length:Int):=by omega
 have HRL:Hid (∀ r0,WordsI F b (wordsW line) r0→DoRl F b line (if r0.2=0 then (withLog r0.1 line,0) else r0)):=fun r0 h=>by
  rw [DoRl,if_neg hfull];exact ⟨r0,h,rfl⟩
 have HSP:Hid (Calls Tryz.prog 66 #[.string ⟨line.toArray⟩,.string ⟨#[32]⟩] w1 fun e w'=>∃ a,e=.returned (.slice a (wordsW line).length (wordsW line).length)∧TxtsAt w' a (wordsW line)∧Below w1.heap.size w1 w'):=HKI.out.split line w1 (by omega) HE1.out
 have hwl:=wordsW_len line
 have HSH:Hid (∀ r ∈ wordsW line,r.length≤1048576):=fun r hr=>by have:=wordsW_short line r hr;omega
 obtain ⟨r0,rs,hrs⟩:=words_hd line
 rw [hrs] at HRL HSP hwl HSH
 simp only [List.length_cons] at HSP hwl
 clear hrs hfull
 go_wp2_with fail
 refine Calls.mono HSP.out ?_
 rintro e w2 ⟨a,rfl,ht,p2⟩
 have HBW1:Hid (B≤w1.heap.size):=HK1.out.lt
 have HK2:Hid (KS B K 1 b q w2):=HK1.out.below p2
 have HB2:Hid (Below B w w2):=HB1.out.trans (p2.mono HBW1.out)
 have HE2:Hid (E w2):=HKI.out.grow HE1.out p2
 have HOB:Hid (Calls Tryz.prog 137 #[.pointer (some ⟨K,0,none⟩),.slice a (rs.length+1) (rs.length+1)] w2 (ObR B K F b (r0::rs) w2)):=iObey_any HKI.out HGB.out HAC.out b q a rs.length r0 rs w2 HK2.out HE2.out HPR.out ht (by omega) (Nat.le_refl _) (by omega) (fun r hr=>HSH.out r (by simp [hr]))
 clear p2 ht HSP c7
 go_wp2_with fail
 refine Calls.mono HOB.out ?_
 rintro e w3 ⟨⟨b3,c3⟩,hr,q3,v,rfl,hv,k3,p3⟩
 have HK3:Hid (KS B K 1 b3 q3 w3):=k3
 have HB3:Hid (Below B w w3):=HB2.out.trans p3
 have HQ:Hid (DoRl F b line (if c3=0 then (withLog b3 line,0) else (b3,c3))):=HRL.out (b3,c3) hr
 have hlog:b3.log=b.log:=words_log hr
 have hl3:b3.log.length≤1048576:=by rw [hlog];exact hlm
 have HBW3:Hid (B≤w3.heap.size):=HK3.out.lt
 clear hr k3 p3 HOB HRL hlog
 simp only at hv
 rcases hv with ⟨hc,rfl⟩ | ⟨hc,y,rfl⟩
 ·subst hc
  have HQ2:Hid (DoRl F b line (withLog b3 line,0)):=HQ.out
  have c7:=HK3.out.z.c7
  have a7:=fun o=>(HK3.out.al o).z.c7
  have HCL:Hid (∀ u,Calls Tryz.prog 138 #[.string ⟨line.toArray⟩] u fun e w'=>e=.returned (.string ⟨line.toArray⟩)∧Below u.heap.size u w'):=fun u=>HKI.out.clone line u (by omega)
  have HEND:Hid (∀ (u u':World) (a:Option Addr) (c:Nat),Below w3.heap.size w3 u→u.grownBy u' (Value.slice q3.g b3.log.length q3.gc).ownBlock→u'.ownsRow B 9 1 (.slice a (b3.log.length+1) c) (b3.log.length+1) (scells b3.log++scells [line])→∃ q',KS B K 1 (withLog b3 line) q' (u'.setCell ⟨K,7,none⟩ (.slice a (b3.log.length+1) c))∧Below B w (u'.setCell ⟨K,7,none⟩ (.slice a (b3.log.length+1) c))):=fun u u' a c h g o=>by
   have o':u'.ownsRow B 9 1 (.slice a (b3.log++[line]).length c) (b3.log++[line]).length (scells (b3.log++[line])):=by
    rw [scells_append,List.length_append,List.length_singleton];exact o
   have h2:=(HK3.out.below h).setG g o'
   rw [List.length_append,List.length_singleton] at h2
   have hu:Below B w u':=(HB3.out.trans (h.mono HBW3.out)).grown g (Nat.le_trans HBW3.out h.size) (fun k hk=>((HK3.out.below h).log.lt k hk).1)
   exact ⟨_,h2,hu.setCell HK3.out.hK _⟩
  clear HQ
  go_upto_region 8 with fail
  refine wp_region_noPanic ?_
  go_region_law (first
   | (go_simp;go_at_call 138;(first | refine Calls.mono (HCL.out _) ?_);rintro e u2 ⟨rfl,p2⟩;have k2:Below w3.heap.size w3 u2:=next (by go_grown) p2;have cc7:=(HK3.out.below k2).z.c7;have aa7:=fun o=>((HK3.out.below k2).al o).z.c7;have HS2:Hid (w3.heap.size≤u2.heap.size):=k2.size;clear p2)
   | (refine step_append_txts rfl (.tmp 33) (.tmp 36) rfl B (.slice q3.g b3.log.length q3.gc) b3.log.length (scells b3.log) (by simp [Act.eval]) (keepL HK3.out.log (by have:=HS2.out;go_grown)) (some ⟨u2.heap.size,0,none⟩) 1 [line] (by simp [Act.eval];try rfl) (one_text (by simp)) (by simp;omega) (by have:=HBW3.out;have:=k2.size;simp;omega) ?_
      intro v6 w6 o6 g6
      (try simp only [List.length_singleton] at o6)
      obtain ⟨va,vc,hva⟩:=own_form o6
      subst hva
      have HO6:Hid (w6.ownsRow B 9 1 (.slice va (b3.log.length+1) vc) (b3.log.length+1) (scells b3.log++scells [line])):=o6
      obtain ⟨y6,x6⟩:=kbG HK3.out g6 (by have:=HS2.out;go_grown)
      have HG6:Hid _:=HEND.out _ _ va vc (by have:=HS2.out;go_grown) g6 o6
      clear o6 g6)
   | fail)
  all_goals
   refine NoPanic.normal ?_
   go_wp2_with fail
   obtain ⟨q',hk6,hb6⟩:=HG6.out
   refine leaves_cons (f:=114) (args:=#[.pointer (some ⟨K,0,none⟩)]) (by simp) (by simp [go_sem]) ?_
   refine (unlock_deferred muH ⟨K,0,none⟩ .returning _ hk6.z.c0 hk6.z.z0).mono ?_
   rintro e u' w7 ⟨rfl,rfl,rfl⟩
   exact ⟨_,results_tmp rfl _ _ _,(withLog b3 line,0),q',_,HQ2.out,rfl,.inl ⟨rfl,rfl⟩,hk6.setSt 0,hb6.setCell hk6.hK _⟩
 ·have HQ2:Hid (DoRl F b line (b3,c3)):=by have h:=HQ.out;rw [if_neg hc] at h;exact h
  clear HQ
  go_wp2_with fail
  refine leaves_cons (f:=114) (args:=#[.pointer (some ⟨K,0,none⟩)]) (by simp) (by simp [go_sem]) ?_
  refine (unlock_deferred muH ⟨K,0,none⟩ .returning _ HK3.out.z.c0 HK3.out.z.z0).mono ?_
  rintro e u' w4 ⟨rfl,rfl,rfl⟩
  exact ⟨_,results_tmp rfl _ _ _,(b3,c3),q3,_,HQ2.out,rfl,.inr ⟨hc,_,rfl⟩,HK3.out.setSt 0,HB3.out.setCell HK3.out.hK _⟩
end Go.Proofs.YtomiclakhjncbaaGreatDoor.Kb
