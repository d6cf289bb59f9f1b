import Derived.Test.YtomiclakhjncbaaGreatDoorJX0a
import Derived.Test.YtomiclakhjncbaaGreatDoorJX4a
import Derived.Test.YtomiclakhjncbaaGreatDoorJX1a
namespace Go.Proofs.YtomiclakhjncbaaGreatDoor.Kb
open Go.RowKit Go.MuLone Go.Proofs.Tryz
set_option maxRecDepth 100000
set_option maxHeartbeats 12800000
def Jd (b:Bk) (line:List UInt8):Bk:=⟨b.today,b.off,b.az,b.cs,b.ls,b.log++[line]⟩
def D9 (F:Ff) (b:Bk) (line:List UInt8) (r:Bk×Int):Prop :=
 if 600≤b.log.length then r=(b,2) else ∃ r0,D6 F b (Ab line) r0∧r=if r0.2=0 then (Jd r0.1 line,0) else r0
def FV (E:World→Prop) (y:Value):Prop:=∃ w,E w∧w.cell? ⟨1,0,none⟩=some y
def rY (E:World→Prop) (b:Bk) (code:Int) (v:Value):Prop:=(code=0∧v=.nilIface)∨(code≠0∧∃ y,(if 600≤b.log.length then FV E y else NF E y)∧v=.iface 170 (.agg #[y,.int .i64 code]))
def pM (E:World→Prop) (B K:Nat) (F:Ff) (b:Bk) (line:List UInt8) (w:World) (e:Ending) (w':World):Prop:=∃ r q v,D9 F b line r∧e=.returned v∧rY E b r.2 v∧KS B K 0 r.1 q w'∧Ce B w w'
theorem N7 {ops:Array Oper} {o:Oper} {a:Act} {w:World} {K:Act→World→Prop} {Q:Exit→Act→World→Prop} {E:Prop} (hgd:o.guard=none) (s x:Operand)
  (ho:o.op=.call { callee:=.builtin .append,args:=#[s,x],argTypes:=#[23,23] }) (base:Nat) (v:Value) (n:Nat) (xs:List Value) (hs:a.eval s=v) (hown:w.ownsRow base 9 1 v n xs)
  (ao:Option Addr) (c:Nat) (rs:Be) (hx:a.eval x=.slice ao rs.length c) (hz:Bh w ao rs) (hn:n+rs.length≤4000000) (hbase:base≤w.heap.size)
  (h:∀ v' w',w'.ownsRow base 9 1 v' (n+rs.length) (xs++Am rs)→w.grownBy w' v.ownBlock→K (a.put o.dst v') w') :
  if Region.wanted o (yielded ops a.tmps)=true then Oper.wp prog o a w K Q else E:=by
 have hw:Region.wanted o (yielded ops a.tmps)=true:=by simp [Region.wanted,hgd]
 rw [if_pos hw];obtain ⟨v',w',hr,h1,h2⟩:=Ie w base o.type v n xs hown ao c rs hz hn hbase;unfold Oper.wp execOp
 simp only [ho,resolve,invoke,builtin,Sem.run_bind,Sem.run_pure,Result.andThen_ok,List.map_toArray,List.map_cons,List.map_nil,hs,hx,hr]
 exact h v' w' h1 h2
theorem jD {u:World} {g:Nat} {r:List UInt8} (h:u.cell? ⟨g,0,none⟩=some (.string ⟨r.toArray⟩)):Bh u (some ⟨g,0,none⟩) [r] :=
 .inr ⟨g,0,rfl,World.block_lt_of_cell? u _ h,fun i hi=>by
  obtain rfl:i=0:=by simpa using hi
  simpa [Al] using h⟩
theorem kbG {B K:Nat} {st:Int} {b:Bk} {q:Bp} {W u u':World} (k:KS B K st b q W) (g:u.grownBy u' (Value.slice q.g b.log.length q.gc).ownBlock) (h:BW W u):u'.cell? ⟨K,7,none⟩=some (.slice q.g b.log.length q.gc)∧u'.frozen? ⟨K,7,none⟩=false:=by
 have ku:=k.below h
 have zz:=ku.z.grown g (D8 ku.log ku.kt (by decide))
 exact ⟨zz.c7,zz.z7⟩
theorem jK (l:List UInt8):∃ r0 rs,Ab l=r0::rs:=by
 cases h:Ab l with
 | nil=>have:=(Fy l).1;rw [h] at this;simp at this
 | cons r rs=>exact ⟨r,rs,rfl⟩
theorem Sw {F:Ff} {b:Bk} {ws:Be} {r:Bk×Int} (h:D6 F b ws r):r.1.log=b.log:=by
 unfold D6 at h
 split at h
 ·rw [h];unfold N8 Fr;split
  ·split <;> rfl
  ·rfl
 split at h
 ·rw [h];unfold Gt Fq;split
  ·split <;> rfl
  ·rfl
 split at h
 ·unfold Fh at h
  split at h
  ·obtain ⟨x,-,rfl⟩:=h
   unfold Jk
   repeat' split
   all_goals rfl
  ·rw [h]
 split at h
 ·rw [h];unfold Hx Ja;split
  ·repeat' split
   all_goals rfl
  ·rfl
 ·rw [h]
theorem iDo_any {F:Ff} {E:World→Prop} {G B K:Nat} (KI:Rq F E G) (hGB:G≤B) (HA:kM F E B K) (b:Bk) (q:Bp) (line:List UInt8) (w:World) (hk:KS B K 0 b q w) (hE:E w) (hP:Ej b) (hl:line.length<1048576) :
  Calls prog 83 #[.pointer (some ⟨K,0,none⟩),.string ⟨line.toArray⟩] w (pM E B K F b line w):=by
 have HKI:Hid (Rq F E G):=KI;have HGB:Hid (G≤B):=hGB;have HAC:Hid (kM F E B K):=HA;have HK0:Hid (KS B K 0 b q w):=hk;have HE0:Hid (E w):=hE;have HPR:Hid (Ej b):=hP;have c0:=hk.z.c0;have z0:=hk.z.z0;clear KI hGB HA hk hE hP
 go_enter_defers func83,ntmps83
 go_wp2_with fail
 refine (lock_free muH ⟨K,0,none⟩ w c0 z0).mono ?_;rintro e w1 ⟨rfl,hw1⟩
 have HK1:Hid (KS B K 1 b q w1):=by rw [Hid,hw1];exact HK0.o.setSt 1
 have HB1:Hid (Ce B w w1):=by rw [Hid,hw1];exact (Ce.refl _ _).setK HK0.o.kt HK0.o.hK
 have HE1:Hid (E w1):=HKI.o.keep _ _ HE0.o (HB1.o.b.mono HGB.o);clear hw1 c0 z0;have c7:=HK1.o.z.c7;have hlm:b.log.length≤1048576:=HPR.o.sm.2.2.2.2
 by_cases hfull:600≤b.log.length
 ·have hfi:(600:Int)≤(b.log.length:Int):=by omega
  obtain ⟨et,ea,hee⟩:=HKI.o.eFull w1 HE1.o
  have HYY:Hid (if 600≤b.log.length then FV E (.iface et (.pointer (some ea))) else NF E (.iface et (.pointer (some ea)))):=by rw [Hid,if_pos hfull];exact ⟨w1,HE1.o,hee⟩
  have HQ:Hid (D9 F b line (b,2)):=by rw [Hid,D9,if_pos hfull]
  clear hfull;go_wp2_with fail
  refine leaves_cons (f:=114) (args:=#[.pointer (some ⟨K,0,none⟩)]) (by simp) (by simp [go_sem]) ?_
  refine (unlock_deferred muH ⟨K,0,none⟩ .returning _ HK1.o.z.c0 HK1.o.z.z0).mono ?_;rintro e u' w2 ⟨rfl,rfl,rfl⟩
  exact ⟨_,results_tmp rfl _ _ _,(b,2),q,_,HQ.o,rfl,.inr ⟨(by show (2:Int)≠0;decide),_,HYY.o,rfl⟩,HK1.o.setSt 0,HB1.o.setK HK1.o.kt HK1.o.hK⟩
 have hfi:¬ (600:Int)≤(b.log.length:Int):=by omega
 have HRL:Hid (∀ r0,D6 F b (Ab line) r0→D9 F b line (if r0.2=0 then (Jd r0.1 line,0) else r0)):=fun r0 h=>by
  rw [D9,if_neg hfull];exact ⟨r0,h,rfl⟩
 have HSP:Hid (Calls prog 66 #[.string ⟨line.toArray⟩,.string ⟨#[32]⟩] w1 fun e w'=>∃ a,e=.returned (.slice a (Ab line).length (Ab line).length)∧Bh w' a (Ab line)∧BW w1 w'):=HKI.o.split line w1 (by omega) HE1.o
 have hwl:=Fy line
 have HSH:Hid (∀ r ∈ Ab line,r.length≤1048576):=fun r hr=>by have:=Ee line r hr;omega
 obtain ⟨r0,rs,hrs⟩:=jK line;rw [hrs] at HRL HSP hwl HSH
 simp only [List.length_cons] at HSP hwl
 clear hrs hfull;go_wp2_with fail
 refine Calls.mono HSP.o ?_;rintro e w2 ⟨a,rfl,ht,p2⟩;have HBW1:Hid (B≤w1.heap.size):=HK1.o.lt;have HK2:Hid (KS B K 1 b q w2):=HK1.o.below p2;have HB2:Hid (Ce B w w2):=HB1.o.trans (.of p2 HBW1.o);have HE2:Hid (E w2):=HKI.o.grow HE1.o p2
 have HOB:Hid (Calls prog 137 #[.pointer (some ⟨K,0,none⟩),.slice a (rs.length+1) (rs.length+1)] w2 (ObR E B K F b (r0::rs) w2)):=gG HKI.o HGB.o HAC.o b q a rs.length r0 rs w2 HK2.o HE2.o HPR.o ht (by omega) nL (by omega) (fun r hr=>HSH.o r (by simp [hr]))
 clear p2 ht HSP c7;go_wp2_with fail
 refine Calls.mono HOB.o ?_;rintro e w3 ⟨⟨b3,c3⟩,hr,q3,v,rfl,hv,k3,p3⟩;have HK3:Hid (KS B K 1 b3 q3 w3):=k3;have HB3:Hid (Ce B w w3):=HB2.o.trans p3
 have HQ:Hid (D9 F b line (if c3=0 then (Jd b3 line,0) else (b3,c3))):=HRL.o (b3,c3) hr
 have hlog:b3.log=b.log:=Sw hr
 have hl3:b3.log.length≤1048576:=by rw [hlog];exact hlm
 have HBW3:Hid (B≤w3.heap.size):=HK3.o.lt;clear hr k3 p3 HOB HRL hlog
 simp only at hv
 rcases hv with ⟨hc,rfl⟩ | ⟨hc,y,hy,rfl⟩
 ·subst hc
  have HQ2:Hid (D9 F b line (Jd b3 line,0)):=HQ.o;have c7:=HK3.o.z.c7
  have a7:=fun o=>(HK3.o.al o).z.c7
  have HCL:Hid (∀ u,Calls prog 138 #[.string ⟨line.toArray⟩] u fun e w'=>e=.returned (.string ⟨line.toArray⟩)∧BW u w'):=fun u=>HKI.o.clone line u (by omega)
  have HEND:Hid (∀ (u u':World) (a:Option Addr) (c:Nat),BW w3 u→u.grownBy u' (Value.slice q3.g b3.log.length q3.gc).ownBlock→u'.ownsRow B 9 1 (.slice a (b3.log.length+1) c) (b3.log.length+1) (Am b3.log++Am [line])→∃ q',KS B K 1 (Jd b3 line) q' (u'.setCell ⟨K,7,none⟩ (.slice a (b3.log.length+1) c))∧Ce B w (u'.setCell ⟨K,7,none⟩ (.slice a (b3.log.length+1) c))):=fun u u' a c h g o=>by
   have o':u'.ownsRow B 9 1 (.slice a (b3.log++[line]).length c) (b3.log++[line]).length (Am (b3.log++[line])):=by
    rw [F6,List.length_append,List.length_singleton];exact o
   have h2:=(HK3.o.below h).setG g o';rw [List.length_append,List.length_singleton] at h2;have kh:=HK3.o.below h;have hu:Ce B w u':=(HB3.o.trans (.of h HBW3.o)).grownO g kh.log (Nat.le_trans HBW3.o h.size) (.inr rfl)
   exact ⟨_,h2,hu.setK (kh.kt.grown g (D8 kh.log kh.kt (by decide))) HK3.o.hK⟩
  clear HQ;go_upto_region 8 with fail
  refine wp_region_noPanic ?_
  go_region_law (first
   | (go_simp;go_at_call 138;(first | refine Calls.mono (HCL.o _) ?_);rintro e u2 ⟨rfl,p2⟩;have k2:BW w3 u2:=next (by go_grown) p2;have cc7:=(HK3.o.below k2).z.c7;have aa7:=fun o=>((HK3.o.below k2).al o).z.c7;have HS2:Hid (w3.heap.size≤u2.heap.size):=k2.size;clear p2)
   | (refine N7 rfl (.tmp 33) (.tmp 36) rfl B (.slice q3.g b3.log.length q3.gc) b3.log.length (Am b3.log) (by simp [Act.eval]) (Av HK3.o.log (by have:=HS2.o;go_grown)) (some ⟨u2.heap.size,0,none⟩) 1 [line] (by simp [Act.eval];try rfl) (jD (by simp)) (by simp;omega) (by have:=HBW3.o;have:=k2.size;simp;omega) ?_
      intro v6 w6 o6 g6
      (try simp only [List.length_singleton] at o6)
      obtain ⟨va,vc,hva⟩:=Xf o6;subst hva;have HO6:Hid (w6.ownsRow B 9 1 (.slice va (b3.log.length+1) vc) (b3.log.length+1) (Am b3.log++Am [line])):=o6
      obtain ⟨y6,x6⟩:=kbG HK3.o g6 (by have:=HS2.o;go_grown)
      have HG6:Hid _:=HEND.o _ _ va vc (by have:=HS2.o;go_grown) g6 o6
      clear o6 g6)
   | fail)
  all_goals
   refine NoPanic.normal ?_;go_wp2_with fail
   obtain ⟨q',hk6,hb6⟩:=HG6.o
   refine leaves_cons (f:=114) (args:=#[.pointer (some ⟨K,0,none⟩)]) (by simp) (by simp [go_sem]) ?_
   refine (unlock_deferred muH ⟨K,0,none⟩ .returning _ hk6.z.c0 hk6.z.z0).mono ?_;rintro e u' w7 ⟨rfl,rfl,rfl⟩;exact ⟨_,results_tmp rfl _ _ _,(Jd b3 line,0),q',_,HQ2.o,rfl,.inl ⟨rfl,rfl⟩,hk6.setSt 0,hb6.setK hk6.kt hk6.hK⟩
 ·have HYY:Hid (if 600≤b.log.length then FV E y else NF E y):=by rw [Hid,if_neg (by have:=hfi;omega)];exact hy
  clear hy
  have HQ2:Hid (D9 F b line (b3,c3)):=by have h:=HQ.o;rw [if_neg hc] at h;exact h
  clear HQ;go_wp2_with fail
  refine leaves_cons (f:=114) (args:=#[.pointer (some ⟨K,0,none⟩)]) (by simp) (by simp [go_sem]) ?_
  refine (unlock_deferred muH ⟨K,0,none⟩ .returning _ HK3.o.z.c0 HK3.o.z.z0).mono ?_;rintro e u' w4 ⟨rfl,rfl,rfl⟩;exact ⟨_,results_tmp rfl _ _ _,(b3,c3),q3,_,HQ2.o,rfl,.inr ⟨hc,_,HYY.o,rfl⟩,HK3.o.setSt 0,HB3.o.setK HK3.o.kt HK3.o.hK⟩
end Go.Proofs.YtomiclakhjncbaaGreatDoor.Kb
