import Derived.Test.YtomiclakhjncbaaGreatDoorJA4a
import Derived.Test.YtomiclakhjncbaaGreatDoorJA2a
import Derived.Test.YtomiclakhjncbaaGreatDoorKACStart
import Derived.Test.YtomiclakhjncbaaGreatDoorKASDo6
import Derived.Test.YtomiclakhjncbaaGreatDoorKABkActS
import Derived.Test.YtomiclakhjncbaaGreatDoorKABkPayS
import Derived.Test.YtomiclakhjncbaaGreatDoorJA7a
import Derived.Test.YtomiclakhjncbaaGreatDoorKAFDis7
import Derived.Test.YtomiclakhjncbaaGreatDoorJA5a
namespace Go.Proofs.YtomiclakhjncbaaGreatDoor
open Go.RowKit
set_option maxRecDepth 100000
set_option maxHeartbeats 12800000
def F0:Fns where
 prune:=pruneL
 use:=useL
 useOk:=useOk
 add:=addA
 addOk:=addOk
 best:=BestAt
 stC:=startV
 stE:=startE
 stOk:=fun iss acq cur am day=>caseOk (startC iss acq cur am day)
 doC:=doC
 doE:=doE
 doV:=doV
 all:=allL
 allOk:=allOk
theorem startE_len (iss acq cur am day:Int):(startE iss acq cur am day).length≤1:=by unfold startE;split <;> simp
theorem known0:Known F0 where
 prune:=fun ao cap az t w h hn=>sPrune_any ao cap az t w h (by omega)
 use:=fun ao cap az i w h hn=>sUse_any ao cap az i w h (by omega)
 add:=fun ao cap az a w h hn hl=>sAdd10_any ao cap az a w h hn (by omega)
 best:=fun ao cap az iss cur am day w h hn hd w3 w4=>sBest_any ao cap az iss cur am day w h hn (fun a ha=>by have:=hd a ha;omega) w3 w4
 start:=fun iss acq cur am day w=>sStart_any iss acq cur am day w
 small:=fun iss acq cur am day=>by have:=startE_len iss acq cur am day;show (startE iss acq cur am day).length≤1048576;omega
 act:=fun c a t ao cp zs w h hn=>sDo_any c a t ao cp zs w h (by omega)
 few:=fun c a t zs=>by have:=doE_len c a t zs;show (doE c a t zs).length≤1048576;omega
 code:=fun c a t zs=>by have:=doV_bd c a t zs;show 0≤doV c a t zs∧doV c a t zs≤1000;omega
 post:=fun ao cap ls eo ec es w h hn hy hm=>sPostAll_any ao cap ls eo ec es w h hn hy hm
def Pay0 (b:Bk) (n0 n1 n2 n3:Int) (r:Bk×Int):Prop:=∃ x,BestAt b.az n0 n2 n3 b.today x∧r=payB F0 b n0 n1 n2 n3 x
def Rel0:Bk→List UInt8→Bk×Int→Prop:=LineRel F0 Pay0 (actB F0)
end Go.Proofs.YtomiclakhjncbaaGreatDoor
namespace Go.Proofs.YtomiclakhjncbaaGreatDoor.Kb
open Go.RowKit
set_option maxRecDepth 100000
set_option maxHeartbeats 12800000
theorem drop1_one {ws:Recs} (h:(ws.drop 1).length=1):∃ a c,ws=[a,c]:=by
 match ws,h with
 | [a,c],_=>exact ⟨a,c,rfl⟩
theorem drop1_four {ws:Recs} (h:(ws.drop 1).length=4):∃ a c d e f,ws=[a,c,d,e,f]:=by
 match ws,h with
 | [a,c,d,e,f],_=>exact ⟨a,c,d,e,f,rfl⟩
theorem len_five {ws:Recs} (h:ws.length=5):∃ a c d e f,ws=[a,c,d,e,f]:=by
 match ws,h with
 | [a,c,d,e,f],_=>exact ⟨a,c,d,e,f,rfl⟩
theorem len_two {ws:Recs} (h:ws.length=2):∃ a c,ws=[a,c]:=by
 match ws,h with
 | [a,c],_=>exact ⟨a,c,rfl⟩
def EmptyRef (ws:Recs):Prop:=isAuth ws=true∧nth ws 1=[]
theorem no_ref {az:List Au} {n0 n1 n2 t:Int} : addOk az ⟨[],n0,n1,n2,t,false⟩=false:=by
 simp [addOk,auOk,refOk]
theorem is_no {ws:Recs} {t:List UInt8} (h:nth ws 0=t):(t≠dayT→isDay ws=false)∧(t≠authW→isAuth ws=false)∧(t≠payT→isPay ws=false)∧(t≠actT→isAct ws=false):=by
 refine ⟨fun e=>?_,fun e=>?_,fun e=>?_,fun e=>?_⟩
 ·rw [isDay,h,decide_eq_false e];rfl
 ·rw [isAuth,h,decide_eq_false e];rfl
 ·rw [isPay,h,decide_eq_false e];rfl
 ·rw [isAct,h,decide_eq_false e];rfl
def Agr (ws:Recs) (r r':Bk×Int):Prop:=r.1=r'.1∧(r.2=r'.2∨(r.2=1∧r'.2=3∧EmptyRef ws))
theorem agr_eq {ws:Recs} {r r':Bk×Int} (h:r=r'):Agr ws r r':=by rw [h];exact ⟨rfl,.inl rfl⟩
theorem nums1 {c:List UInt8} : numsOk [c]=decide (0≤numW c):=by simp [numsOk]
theorem words_agree {b:Bk} {line:List UInt8} {r r':Bk×Int} (h:WordsI F0 b (wordsW line) r) (h':Rel0 b line r'):Agr (wordsW line) r r':=by
 unfold Rel0 LineRel at h'
 unfold WordsI at h
 generalize wordsW line=ws at h h' ⊢
 by_cases h1:nth ws 0=dayT
 ·rw [if_pos h1] at h
  obtain ⟨-,na,np,nc⟩:=is_no h1
  have na:=na (by decide)
  have np:=np (by decide)
  have nc:=nc (by decide)
  by_cases hd:isDay ws=true
  ·rw [if_pos hd] at h'
   have hd2:=hd
   simp only [isDay,Bool.and_eq_true,decide_eq_true_eq] at hd2
   obtain ⟨-,h2,h3⟩:=hd2
   obtain ⟨a,c,rfl⟩:=len_two h2
   have e:dayR F0 b ([a,c].drop 1)=dayB F0 b (numW c):=if_pos ⟨by show numsOk [c]=true;rw [nums1];exact decide_eq_true h3,rfl⟩
   rw [e] at h
   exact agr_eq (h.trans h'.symm)
  ·rw [if_neg hd,if_neg (by rw [na];decide),if_neg (by rw [np];decide),if_neg (by rw [nc];decide)] at h'
   have e:dayR F0 b (ws.drop 1)=(b,1):=if_neg (fun ⟨e1,e2⟩=>hd (by
    obtain ⟨a,c,rfl⟩:=drop1_one e2
    have e3:numsOk [c]=true:=e1
    rw [nums1] at e3
    have h0:a=dayT:=h1
    subst h0
    simp only [isDay,Bool.and_eq_true,decide_eq_true_eq]
    exact ⟨rfl,rfl,by show 0≤numW c;simpa using e3⟩))
   rw [e] at h
   exact agr_eq (h.trans h'.symm)
 rw [if_neg h1] at h
 have nd:isDay ws=false:=by rw [isDay,decide_eq_false h1];rfl
 rw [if_neg (by rw [nd];decide)] at h'
 by_cases h2:nth ws 0=authW
 ·rw [if_pos h2] at h
  obtain ⟨-,-,np,nc⟩:=is_no h2
  have np:=np (by decide)
  have nc:=nc (by decide)
  by_cases ha:isAuth ws=true
  ·rw [if_pos ha] at h'
   have ha2:=ha
   simp only [isAuth,Bool.and_eq_true,decide_eq_true_eq] at ha2
   obtain ⟨a,c,d,e,f,rfl⟩:=len_five ha2.2
   by_cases hn:numsOk [d,e,f]=true
   ·rw [if_pos (show numsOk ([a,c,d,e,f].drop 2)=true from hn)] at h'
    by_cases hc:c=[]
    ·subst hc
     have e1:authR F0 b ([a,[],d,e,f].drop 1)=(b,1):=if_neg (fun e=>e.2.1 rfl)
     have e2:authB F0 b (nth [a,[],d,e,f] 1) (numW (nth [a,[],d,e,f] 2)) (numW (nth [a,[],d,e,f] 3)) (numW (nth [a,[],d,e,f] 4))=(b,3):=auth_no F0 (show addOk b.az ⟨[],numW d,numW e,numW f,b.today,false⟩=false from no_ref)
     rw [e1] at h
     rw [e2] at h'
     subst h h'
     exact ⟨rfl,.inr ⟨rfl,rfl,ha,rfl⟩⟩
    ·have e1:authR F0 b ([a,c,d,e,f].drop 1)=authB F0 b c (numW d) (numW e) (numW f):=if_pos ⟨rfl,hc,hn⟩
     rw [e1] at h
     exact agr_eq (h.trans h'.symm)
   ·rw [if_neg (show ¬ numsOk ([a,c,d,e,f].drop 2)=true from hn)] at h'
    have e1:authR F0 b ([a,c,d,e,f].drop 1)=(b,1):=if_neg (fun e=>hn e.2.2)
    rw [e1] at h
    exact agr_eq (h.trans h'.symm)
  ·rw [if_neg ha,if_neg (by rw [np];decide),if_neg (by rw [nc];decide)] at h'
   have e:authR F0 b (ws.drop 1)=(b,1):=if_neg (fun ⟨e1,_⟩=>ha (by
    obtain ⟨a,c,d,e,f,rfl⟩:=drop1_four e1
    simp only [isAuth,Bool.and_eq_true,decide_eq_true_eq]
    exact ⟨h2,rfl⟩))
   rw [e] at h
   exact agr_eq (h.trans h'.symm)
 rw [if_neg h2] at h
 have na:isAuth ws=false:=by rw [isAuth,decide_eq_false h2];rfl
 rw [if_neg (by rw [na];decide)] at h'
 by_cases h3:nth ws 0=payT
 ·rw [if_pos h3] at h
  obtain ⟨-,-,-,nc⟩:=is_no h3
  have nc:=nc (by decide)
  by_cases ha:isPay ws=true
  ·rw [if_pos ha] at h'
   have ha2:=ha
   simp only [isPay,Bool.and_eq_true,decide_eq_true_eq] at ha2
   obtain ⟨a,c,d,e,f,rfl⟩:=len_five ha2.2
   unfold PayRl at h
   by_cases hn:numsOk [c,d,e,f]=true
   ·rw [if_pos (show numsOk ([a,c,d,e,f].drop 1)=true from hn)] at h'
    rw [if_pos ⟨hn,rfl⟩] at h
    obtain ⟨x,hx,rfl⟩:=h
    obtain ⟨y,hy,rfl⟩:=h'
    have hxy:x=y:=bestAt_one hx hy
    subst hxy
    exact agr_eq rfl
   ·rw [if_neg (show ¬ numsOk ([a,c,d,e,f].drop 1)=true from hn)] at h'
    rw [if_neg (fun e=>hn e.1)] at h
    exact agr_eq (h.trans h'.symm)
  ·rw [if_neg ha,if_neg (by rw [nc];decide)] at h'
   unfold PayRl at h
   rw [if_neg (fun ⟨_,e2⟩=>ha (by
    obtain ⟨a,c,d,e,f,rfl⟩:=drop1_four e2
    simp only [isPay,Bool.and_eq_true,decide_eq_true_eq]
    exact ⟨h3,rfl⟩))] at h
   exact agr_eq (h.trans h'.symm)
 rw [if_neg h3] at h
 have np:isPay ws=false:=by rw [isPay,decide_eq_false h3];rfl
 rw [if_neg (by rw [np];decide)] at h'
 by_cases h4:nth ws 0=actT
 ·rw [if_pos h4] at h
  by_cases ha:isAct ws=true
  ·rw [if_pos ha] at h'
   have ha2:=ha
   simp only [isAct,Bool.and_eq_true,decide_eq_true_eq] at ha2
   obtain ⟨-,h5,h6⟩:=ha2
   obtain ⟨a,c,d,e,f,rfl⟩:=len_five h5
   by_cases hn:numsOk [c,e,f]=true
   ·rw [if_pos (show numsOk [nth [a,c,d,e,f] 1,nth [a,c,d,e,f] 3,nth [a,c,d,e,f] 4]=true from hn)] at h'
    have e1:actR F0 b ([a,c,d,e,f].drop 1)=actB F0 b (numW c) ⟨kindW d,numW e,numW f⟩:=if_pos ⟨rfl,h6,hn⟩
    rw [e1] at h
    exact agr_eq (h.trans h'.symm)
   ·rw [if_neg (show ¬ numsOk [nth [a,c,d,e,f] 1,nth [a,c,d,e,f] 3,nth [a,c,d,e,f] 4]=true from hn)] at h'
    have e1:actR F0 b ([a,c,d,e,f].drop 1)=(b,1):=if_neg (fun e=>hn e.2.2)
    rw [e1] at h
    exact agr_eq (h.trans h'.symm)
  ·rw [if_neg ha] at h'
   have e:actR F0 b (ws.drop 1)=(b,1):=if_neg (fun ⟨e1,e2,_⟩=>ha (by
    obtain ⟨a,c,d,e,f,rfl⟩:=drop1_four e1
    simp only [isAct,Bool.and_eq_true,decide_eq_true_eq]
    exact ⟨h4,rfl,e2⟩))
   rw [e] at h
   exact agr_eq (h.trans h'.symm)
 rw [if_neg h4] at h
 have nc:isAct ws=false:=by rw [isAct,decide_eq_false h4];rfl
 rw [if_neg (by rw [nc];decide)] at h'
 exact agr_eq (h.trans h'.symm)
theorem do_agree {b:Bk} {line:List UInt8} {r r':Bk×Int} (h:DoRl F0 b line r) (h':BkRel Rel0 b line r'):Agr (wordsW line) r r':=by
 unfold DoRl at h
 rcases h' with ⟨hf,rfl⟩ | ⟨hf,s,hs,hr⟩
 ·rw [if_pos hf] at h
  exact agr_eq h
 ·rw [if_neg (by omega)] at h
  obtain ⟨r0,h0,rfl⟩:=h
  obtain ⟨e1,e2⟩:=words_agree h0 hs
  have hlog:=words_log h0
  rcases hr with ⟨hc,rfl⟩ | ⟨hc,rfl⟩
  ·have hc0:r0.2≠0:=by
     rcases e2 with e2 | ⟨e2,_⟩
     ·rw [e2];exact hc
     ·rw [e2];decide
   rw [if_neg hc0]
   exact ⟨words_no h0 hc0,e2⟩
  ·have hc0:r0.2=0:=by
     rcases e2 with e2 | ⟨_,e3,_⟩
     ·rw [e2];exact hc
     ·rw [e3] at hc;exact absurd hc (by decide)
   rw [if_pos hc0]
   refine agr_eq ?_
   simp only [withLog]
   rw [hlog,e1]
theorem do_done {c:Cs} {a:Ac} {t:Int} {zs:List Int} (h:doV c a t zs=0):dayOkAt c t zs=true∧ofSt c.st a.kind=true∧codeV c a t zs=0∧caseOk (nextC c a t zs)=true:=by
 unfold doV at h
 split at h
 ·cases h
 ·rename_i h1
  split at h
  ·cases h
  ·rename_i h2
   split at h
   ·rename_i h3;exact absurd h h3
   ·rename_i h3
    split at h
    ·rename_i h4
     exact ⟨by simpa using h1,by simpa using h2,by simpa using h3,h4⟩
    ·cases h
structure JC (n:Nat) (b:Bk):Prop where
 off:b.off.length≤1000
 az:b.az.length≤n
 cs:b.cs.length≤n
 ref:∀ a ∈ b.az,a.ref.length≤1048576∧0≤digs a.cur
 cc:∀ c ∈ b.cs,caseOk c=true
 led:ledgerOk b.ls=true
 day:dOk b.today=true
theorem JC.mono {n m:Nat} {b:Bk} (h:JC n b) (hm:n≤m):JC m b:=⟨h.off,by have:=h.az;omega,by have:=h.cs;omega,h.ref,h.cc,h.led,h.day⟩
structure JW (b:Bk):Prop where
 jc:JC b.log.length b
 log:b.log.length≤600
 gl:∀ l ∈ b.log,l.length≤1048576
theorem cur_wf {c:Int} (h:0≤digs c):wf64 c:=by
 refine wf_small ?_
 have:=cur_mem h
 simp [curL] at this
 omega
theorem case_bd {c:Cs} (h:caseOk c=true):csBd c:=by
 obtain ⟨h1,h2,-,h3,h4,h5,h6,h7,h8,h9,h10,h11⟩:=caseOk_parts h
 simp [party,acctOk] at h1 h2
 have hd:=dOk_bd h10
 refine ⟨wf_small (by omega),wf_small (by omega),cur_wf h3,wf_small (by omega),wf_small (by omega),wf_small ?_,wf_small (by omega),wf_small (by omega),wf_small (by omega),wf_small (by omega),wf_small ?_⟩
 ·simp only [reasonOkAt,Bool.or_eq_true,Bool.and_eq_true,decide_eq_true_eq] at h6
  rcases h6 with h6 | h6
  ·simp [rOk] at h6;omega
  ·omega
 ·rcases h11 with h11 | h11
  ·have:=dOk_bd h11;omega
  ·omega
theorem jw_pre {b:Bk} (h:JW b):PreI b:=by
 have hd:=dOk_bd h.jc.day
 have hl:b.ls.length≤400:=(ledgerOk_parts h.jc.led).2.1
 have h1:=h.jc.off
 have h2:=h.jc.az
 have h3:=h.jc.cs
 have h4:=h.log
 exact ⟨⟨by omega,by omega,by omega,by omega,by omega⟩,fun a ha=>(h.jc.ref a ha).1,fun a ha=>cur_wf (h.jc.ref a ha).2,fun c hc=>case_bd (h.jc.cc c hc),bd_of_ok h.jc.led,wf_small (by omega)⟩
theorem posts_led {es:List En} : ∀ {ls gs:List Ln},postsL ls es=some gs→ledgerOk ls=true→ledgerOk gs=true:=by
 induction es with
 | nil=>intro ls gs h hl;rw [postsL] at h;injection h with h;rw [← h];exact hl
 | cons e r ih =>
  intro ls gs h hl
  rw [postsL] at h
  split at h
  ·rename_i hp;exact ih h (posted_ok hp).2
  ·cases h
theorem all_led {ls:List Ln} {es:List En} (hl:ledgerOk ls=true):ledgerOk (allL ls es)=true:=by
 unfold allL
 cases h:postsL ls es with
 | none=>exact hl
 | some gs=>exact posts_led h hl
theorem jc_day {n:Nat} {b:Bk} (h:JC n b) (d:Int):JC n (dayB F0 b d).1:=by
 unfold dayB
 split
 ·rename_i hd
  refine ⟨h.off,Nat.le_trans (pruneL_len b.az d) h.az,h.cs,fun a ha=>?_,h.cc,h.led,hd.1⟩
  have ha':a ∈ pruneL b.az d:=ha
  unfold pruneL at ha'
  split at ha'
  ·exact h.ref a (List.mem_filter.1 ha').1
  ·cases ha'
 ·exact h
theorem jc_auth {n:Nat} {b:Bk} (h:JC n b) {ref:List UInt8} (hr:ref.length≤1048576) (n0 n1 n2:Int):JC (n+1) (authB F0 b ref n0 n1 n2).1:=by
 unfold authB
 split
 ·rename_i hok
  have hok':addOk b.az ⟨ref,n0,n1,n2,b.today,false⟩=true:=hok
  have hau:auOk ⟨ref,n0,n1,n2,b.today,false⟩=true:=by
   simp only [addOk,Bool.and_eq_true] at hok';exact hok'.1
  have hl:=addA_len b.az ⟨ref,n0,n1,n2,b.today,false⟩
  refine ⟨h.off,Nat.le_trans hl (by have:=h.az;omega),by have:=h.cs;show b.cs.length≤_;omega,fun a ha=>?_,h.cc,h.led,h.day⟩
  have ha':a ∈ addA b.az ⟨ref,n0,n1,n2,b.today,false⟩:=ha
  rw [addA_yes hok'] at ha'
  rcases List.mem_append.1 ha' with ha2 | ha2
  ·exact h.ref a ha2
  ·simp at ha2;subst ha2;exact ⟨hr,(auOk_parts hau).2.2.1⟩
 ·exact h.mono (by omega)
theorem useL_mem2 {az:List Au} {x:Int} {a:Au} (h:a ∈ useL az x):∃ b ∈ az,b.ref=a.ref∧b.cur=a.cur:=by
 unfold useL at h
 split at h
 ·rename_i hu
  have hi:x.toNat<az.length:=by
   simp [useOk] at hu;omega
  rcases List.mem_or_eq_of_mem_set h with h | h
  ·exact ⟨a,h,rfl,rfl⟩
  ·subst h
   exact ⟨auAt az x.toNat,by rw [auAt_is hi];exact List.getElem_mem hi,rfl,rfl⟩
 ·exact ⟨a,h,rfl,rfl⟩
theorem jc_pay {n:Nat} {b:Bk} (h:JC n b) {n0 n1 n2 n3:Int} {r:Bk×Int} (hp:Pay0 b n0 n1 n2 n3 r):JC (n+1) r.1:=by
 obtain ⟨x,-,rfl⟩:=hp
 unfold payB
 split
 ·exact h.mono (by omega)
 split
 ·exact h.mono (by omega)
 split
 ·exact h.mono (by omega)
 rename_i hok
 split
 ·exact h.mono (by omega)
 have hok':caseOk (startC n0 n1 n2 n3 b.today)=true:=by
  have h1:F0.stOk n0 n1 n2 n3 b.today=true:=by simpa using hok
  exact h1
 have e1:startV n0 n1 n2 n3 b.today=startC n0 n1 n2 n3 b.today:=if_pos hok'
 refine ⟨h.off,?_,?_,fun a ha=>?_,fun c hc=>?_,all_led h.led,h.day⟩
 ·show (useL b.az x).length≤n+1
  rw [useL_len];have:=h.az;omega
 ·show (b.cs++[_]).length≤n+1
  have:=h.cs;simp;omega
 ·obtain ⟨y,hy,e,e'⟩:=useL_mem2 (x:=x) (az:=b.az) ha
  rw [← e,← e'];exact h.ref y hy
 ·have hc':c ∈ b.cs++[startV n0 n1 n2 n3 b.today]:=hc
  rcases List.mem_append.1 hc' with hc' | hc'
  ·exact h.cc c hc'
  ·simp at hc';rw [hc',e1];exact hok'
theorem jc_act {n:Nat} {b:Bk} (h:JC n b) (i:Int) (x:Ac):JC (n+1) (actB F0 b i x).1:=by
 unfold actB
 split
 ·exact h.mono (by omega)
 rename_i hi
 split
 ·exact h.mono (by omega)
 rename_i hv
 split
 ·exact h.mono (by omega)
 have hv':doV (csAt b.cs i.toNat) x b.today b.off=0:=Classical.not_not.1 hv
 refine ⟨h.off,by have:=h.az;show b.az.length≤_;omega,?_,h.ref,fun c hc=>?_,all_led h.led,h.day⟩
 ·show (b.cs.set _ _).length≤n+1
  have:=h.cs;simp;omega
 ·have hc':c ∈ b.cs.set i.toNat (doC (csAt b.cs i.toNat) x b.today b.off):=hc
  rcases List.mem_or_eq_of_mem_set hc' with hc' | hc'
  ·exact h.cc c hc'
  ·rw [hc',doC,if_pos hv'];exact (do_done hv').2.2.2
theorem jc_line {n:Nat} {b:Bk} (h:JC n b) {line:List UInt8} (hl:line.length≤1048576) {r:Bk×Int} (hr:Rel0 b line r):JC (n+1) r.1:=by
 unfold Rel0 LineRel at hr
 have hb:r=(b,1)→JC (n+1) r.1:=fun e=>by rw [e];exact h.mono (by omega)
 split at hr
 ·rw [hr];exact (jc_day h _).mono (by omega)
 split at hr
 ·rename_i ha
  split at hr
  ·rw [hr]
   refine jc_auth h ?_ _ _ _
   have h5:(wordsW line).length=5:=by simp [isAuth] at ha;exact ha.2
   have:=wordsW_short line _ (nth_mem (rs:=wordsW line) (k:=1) (by omega))
   omega
  ·exact hb hr
 split at hr
 ·split at hr
  ·exact jc_pay h hr
  ·exact hb hr
 split at hr
 ·split at hr
  ·rw [hr];exact jc_act h _ _
  ·exact hb hr
 ·exact hb hr
theorem jw_do {b:Bk} (h:JW b) {line:List UInt8} (hl:line.length≤1048576) {r:Bk×Int} (hr:BkRel Rel0 b line r):JW r.1:=by
 rcases hr with ⟨-,rfl⟩ | ⟨hf,s,hs,⟨-,rfl⟩ | ⟨-,rfl⟩⟩
 ·exact h
 ·exact h
 ·have j:=jc_line h.jc hl hs
  refine ⟨?_,?_,fun l hm=>?_⟩
  ·show JC (b.log++[line]).length _
   rw [List.length_append,List.length_singleton]
   exact ⟨j.off,j.az,j.cs,j.ref,j.cc,j.led,j.day⟩
  ·show (b.log++[line]).length≤600
   simp;omega
  ·have hm':l ∈ b.log++[line]:=hm
   rcases List.mem_append.1 hm' with hm' | hm'
   ·exact h.gl l hm'
   ·simp at hm';rw [hm'];exact hl
end Go.Proofs.YtomiclakhjncbaaGreatDoor.Kb
namespace Go.Proofs.YtomiclakhjncbaaGreatDoor
open Go.RowKit
set_option maxRecDepth 100000
set_option maxHeartbeats 12800000
def StepR (b:Nat) (ao:Option Addr) (cp:Nat) (zs:List Int) (a:Ac) (t:Int) (c:Cs) (w:World) (e:Ending) (w':World):Prop :=
 DR b ao cp zs a t w (.int .i64 (codeV c a t zs)) (if codeV c a t zs=0 then nextC c a t zs else c) (if codeV c a t zs=0 then nextE c a else []) e w'
section
variable {b:Nat} {ao:Option Addr} {cp:Nat} {zs:List Int} {a:Ac} {t:Int} {c:Cs} {v:Value} {w:World}
theorem stepR_of {f:FuncId} {r:Int} {n:Cs} {es:List En} {c':Cs} {es':List En} (g:Calls Tryz.prog f #[.pointer (some ⟨b,0,none⟩)] w (DR b ao cp zs a t w (.int .i64 r) c' es')) (h1:codeV c a t zs=r) (h2:nextC c a t zs=n) (h3:nextE c a=es)
  (h4:c'=if r=0 then n else c) (h5:es'=if r=0 then es else []):Calls Tryz.prog f #[.pointer (some ⟨b,0,none⟩)] w (StepR b ao cp zs a t c w):=by
 subst h1 h2 h3 h4 h5
 exact g
theorem step0 (h:DS b ao cp zs a t c [] v w) (hn:zs.length≤1099511627776) (hk:a.kind=0):Calls Tryz.prog 288 #[.pointer (some ⟨b,0,none⟩)] w (StepR b ao cp zs a t c w) :=
 stepR_of (ask_any h hn) (by simp [codeV,hk]) (by simp [nextC,hk];rfl) (by simp [nextE,hk];rfl) (by rfl) (by rfl)
theorem step1 (h:DS b ao cp zs a t c [] v w) (hk:a.kind=1):Calls Tryz.prog 289 #[.pointer (some ⟨b,0,none⟩)] w (StepR b ao cp zs a t c w):=by
 refine stepR_of (give_any h) (show codeV c a t zs=if lateV t c.due=true then 4 else 0 by simp [codeV,hk]) (show nextC c a t zs=givenC c by simp [nextC,hk]) (show nextE c a=[] by simp [nextE,hk]) ?_ ?_
 ·cases lateV t c.due <;> simp
 ·simp
theorem step2 (h:DS b ao cp zs a t c [] v w) (hn:zs.length≤1099511627776) (hk:a.kind=2):Calls Tryz.prog 290 #[.pointer (some ⟨b,0,none⟩)] w (StepR b ao cp zs a t c w) :=
 stepR_of (charge_any h hn) (by simp [codeV,hk]) (by simp [nextC,hk]) (by simp [nextE,hk]) rfl rfl
theorem step3 (h:DS b ao cp zs a t c [] v w) (hn:zs.length≤1099511627776) (hb:0≤c.bk∧c.bk≤1000000000000) (hc:0≤c.cl∧c.cl≤1000000000000) (hk:a.kind=3):Calls Tryz.prog 291 #[.pointer (some ⟨b,0,none⟩)] w (StepR b ao cp zs a t c w) :=
 stepR_of (answer_any h hn hb hc) (by simp [codeV,hk,replyV]) (by simp [nextC,hk]) (by simp [nextE,hk]) rfl rfl
theorem step4 (h:DS b ao cp zs a t c [] v w) (hn:zs.length≤1099511627776) (hk:a.kind=4):Calls Tryz.prog 292 #[.pointer (some ⟨b,0,none⟩)] w (StepR b ao cp zs a t c w) :=
 stepR_of (second_any h hn) (by simp [codeV,hk,replyV]) (by simp [nextC,hk]) (show nextE c a=[] by simp [nextE,hk]) rfl (by simp)
theorem step5 (h:DS b ao cp zs a t c [] v w) (hb:0≤c.bk∧c.bk≤1000000000000) (hc:0≤c.cl∧c.cl≤1000000000000) (hk:a.kind=5):Calls Tryz.prog 293 #[.pointer (some ⟨b,0,none⟩)] w (StepR b ao cp zs a t c w) :=
 stepR_of (accept_any h hb hc) (by simp [codeV,hk]) (by simp [nextC,hk];rfl) (by simp [nextE,hk];rfl) (by rfl) (by rfl)
theorem step6 (h:DS b ao cp zs a t c [] v w) (hn:zs.length≤1099511627776) (hk:a.kind=6):Calls Tryz.prog 294 #[.pointer (some ⟨b,0,none⟩)] w (StepR b ao cp zs a t c w):=by
 refine stepR_of (refuse_any h hn) (show codeV c a t zs=if lateV t c.due=true then 4 else 0 by simp [codeV,hk]) (show nextC c a t zs=⟨c.iss,c.acq,c.cur,c.am,6,c.rsn,c.cl,c.bk,c.fee,c.cop,c.sta,dueV t 60 zs⟩ by simp [nextC,hk]) (show nextE c a=[] by simp [nextE,hk]) ?_ ?_
 ·cases lateV t c.due <;> simp
 ·simp
theorem step7 (h:DS b ao cp zs a t c [] v w) (hb:0≤c.bk∧c.bk≤1000000000000) (hc:0≤c.cl∧c.cl≤1000000000000) (hf:0≤c.fee∧c.fee≤1000000) (hk:a.kind=7):Calls Tryz.prog 295 #[.pointer (some ⟨b,0,none⟩)] w (StepR b ao cp zs a t c w):=by
 refine stepR_of (rule_any h hb hc hf) (show codeV c a t zs=if 0≤a.am∧a.am≤c.cl then 0 else 2 by simp [codeV,hk]) (show nextC c a t zs=ruleC c a.am by simp [nextC,hk]) (show nextE c a=ruleE c a.am by simp [nextE,hk]) ?_ ?_
 ·by_cases hx:0≤a.am∧a.am≤c.cl
  ·rw [if_pos hx,if_pos hx,if_pos rfl]
  ·rw [if_neg hx,if_neg hx,if_neg (by decide)]
 ·by_cases hx:0≤a.am∧a.am≤c.cl
  ·rw [if_pos hx,if_pos hx,if_pos rfl]
  ·rw [if_neg hx,if_neg hx,if_neg (by decide)]
theorem step8 (h:DS b ao cp zs a t c [] v w) (hb:0≤c.bk∧c.bk≤1000000000000) (hc:0≤c.cl∧c.cl≤1000000000000) (hf:0≤c.fee∧c.fee≤1000000) (hk:a.kind=8):Calls Tryz.prog 296 #[.pointer (some ⟨b,0,none⟩)] w (StepR b ao cp zs a t c w):=by
 refine stepR_of (expire_any h hb hc hf) (show codeV c a t zs=if lateV t c.due=true then 0 else 4 by simp [codeV,hk]) (show nextC c a t zs=expireC c by simp [nextC,hk]) (show nextE c a=expireE c by simp [nextE,hk]) ?_ ?_
 ·cases lateV t c.due <;> simp
 ·cases lateV t c.due <;> simp
theorem step9 (h:DS b ao cp zs a t c [] v w) (hk:a.kind=9):Calls Tryz.prog 297 #[.pointer (some ⟨b,0,none⟩)] w (StepR b ao cp zs a t c w) :=
 stepR_of (shut_any h) (by simp [codeV,hk]) (by simp [nextC,hk];rfl) (show nextE c a=[] by simp [nextE,hk]) (by rfl) (by rfl)
end
def Pre0 (b:Bk):Prop:=bkSm b∧(∀ a ∈ b.az,a.ref.length≤1048576)∧(Lit.int .i64 b.today).wf=true
theorem wf_sm18 {x:Int} (h1:-1≤x) (h2:x≤1000000000000000000):(Lit.int .i64 x).wf=true:=by
 simp [Lit.wf,IntKind.min,IntKind.max,IntKind.signed,IntKind.bits];omega
theorem steps0:Steps Pre0 Pay0 (actB F0) where
 pay:=fun b p g k n0 n1 n2 n3 w hx _ hp c0 c1 c2 c3 h1 h2=>(sPay_any F0 known0 b p g k n0 n1 n2 n3 w hx hp.1 hp.2.1 hp.2.2 (wf_sm18 h2 (by omega)) c0 c1 c2 c3).mono (by
  rintro e w' ⟨x,hx,h⟩
  exact ⟨_,⟨x,hx,rfl⟩,h⟩)
 act:=fun b p i x w hx _ hp=>sAct_any F0 known0 b p i x w hx hp.1
theorem rel_log (b:Bk) (l:List UInt8) (r:Bk×Int) (h:Rel0 b l r):r.1.log=b.log:=by
 unfold Rel0 LineRel at h
 split at h
 ·rw [h];unfold dayB;split <;> rfl
 split at h
 ·split at h
  ·rw [h];unfold authB;split <;> rfl
  ·rw [h]
 split at h
 ·split at h
  ·obtain ⟨x,-,rfl⟩:=h
   unfold payB
   split
   ·rfl
   split
   ·rfl
   split
   ·rfl
   split <;> rfl
  ·rw [h]
 split at h
 ·split at h
  ·rw [h];unfold actB
   split
   ·rfl
   split
   ·rfl
   split <;> rfl
  ·rw [h]
 ·rw [h]
theorem doKnown0:DoKnown Pre0 Rel0 where
 log:=rel_log
 small:=fun _ h=>h.1
 calls:=fun b p line w hx hah hp hl=>sLine_any F0 known0 (fun _ h=>h.1) steps0 b p line w hx hah hp hl
end Go.Proofs.YtomiclakhjncbaaGreatDoor
