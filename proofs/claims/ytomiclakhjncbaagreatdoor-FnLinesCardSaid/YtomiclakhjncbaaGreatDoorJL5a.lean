import Derived.Test.YtomiclakhjncbaaGreatDoorJL0a
import Derived.Test.YtomiclakhjncbaaGreatDoorKLKbPay
import Derived.Test.YtomiclakhjncbaaGreatDoorJL4a
import Derived.Test.YtomiclakhjncbaaGreatDoorJL1a
import Derived.Test.YtomiclakhjncbaaGreatDoorKLSDo1
import Derived.Test.YtomiclakhjncbaaGreatDoorJL2a
import Derived.Test.YtomiclakhjncbaaGreatDoorKLFDis1
import Derived.Test.YtomiclakhjncbaaGreatDoorKLBkLiD
import Derived.Test.YtomiclakhjncbaaGreatDoorKLBkLiA
import Derived.Test.YtomiclakhjncbaaGreatDoorKLBkLiP
import Derived.Test.YtomiclakhjncbaaGreatDoorKLBkLiX
import Derived.Deep.RegionWith
import Derived.Deep.DeepCutAuto
namespace Go.Proofs.YtomiclakhjncbaaGreatDoor.Kb
open Go.RowKit Go.Proofs.Tryz
set_option maxRecDepth 100000
set_option maxHeartbeats 12800000
theorem Om (u:World) (g k:Nat) (D:Cs):u.grownBy (Gs u g k D) (some g):=by
 unfold Gs;exact ((((((((((((An _ g (k*12) _).trans (An _ g (k*12+1) _)).trans (An _ g (k*12+2) _)).trans (An _ g (k*12+3) _)).trans (An _ g (k*12+4) _)).trans (An _ g (k*12+5) _)).trans (An _ g (k*12+6) _)).trans (An _ g (k*12+7) _)).trans (An _ g (k*12+8) _)).trans (An _ g (k*12+9) _)).trans (An _ g (k*12+10) _)).trans (An _ g (k*12+11) _))
theorem KS.putC {B K:Nat} {st:Int} {b:Bk} {q:Bp} {u:World} (h:KS B K st b q u) {g:Nat} (hg:q.c=some ⟨g,0,none⟩) {k:Nat} (hk:k<b.cs.length) (D:Cs) :
  KS B K st ⟨b.today,b.off,b.az,b.cs.set k D,b.ls,b.log⟩ q (Gs u g k D):=by
 have gr:u.grownBy (Gs u g k D) (Value.slice q.c b.cs.length q.cc).ownBlock:=by
  rw [hg];exact Om u g k D
 have nK:=D8 h.cs h.kt (by decide)
 have hc:=h.cs;rw [hg] at hc;have r:=Od D hk hc;have z:=h.z.grown gr nK
 refine ⟨?_,h.kt.grown gr nK,h.off.kept gr (Bj h.off h.cs (by decide)),h.az.kept gr (Bj h.az h.cs (by decide)),?_,h.ls.kept gr (Bj h.ls h.cs (by decide)),h.log.kept gr (Bj h.log h.cs (by decide)),h.hK⟩
 ·simp only [List.length_set];exact z
 ·simp only [List.length_set];rw [hg];exact r
def Hx (F:Ff) (b:Bk) (rs:Be):Bk×Int :=
 if rs.length=4∧0≤Bz (Al rs 1)∧Ap [Al rs 0,Al rs 2,Al rs 3]=true then Ja F b (Ae (Al rs 0)) ⟨Bz (Al rs 1),Ae (Al rs 2),Ae (Al rs 3)⟩ else (b,1)
def kM (F:Ff) (E:World→Prop) (B K:Nat):Prop:=∀ (b:Bk) (q:Bp) (ao:Option Addr) (cap:Nat) (rs:Be) (w:World),KS B K 1 b q w→E w→Ej b→Bh w ao rs→(∀ r ∈ rs,r.length≤1048576) →
  Calls prog 175 #[.pointer (some ⟨K,0,none⟩),.slice ao rs.length cap] w (Wz E B K w (Hx F b rs))
def D6 (F:Ff) (b:Bk) (ws:Be) (r:Bk×Int):Prop :=
 if Al ws 0=Eo then r=N8 F b (ws.drop 1) else if Al ws 0=Dy then r=Gt F b (ws.drop 1) else if Al ws 0=I7 then Fh F b (ws.drop 1) r else if Al ws 0=Nz then r=Hx F b (ws.drop 1) else r=(b,1)
def ObR (E:World→Prop) (B K:Nat) (F:Ff) (b:Bk) (ws:Be) (w:World) (e:Ending) (w':World):Prop:=∃ r,D6 F b ws r∧Wz E B K w r e w'
theorem eU {w:World} {ao:Option Addr} {r:List UInt8} {rs:Be} (h:Bh w ao (r::rs)):∃ g off,ao=some ⟨g,off,none⟩∧w.cell? ⟨g,off,none⟩=some (.string ⟨r.toArray⟩)∧Bh w (some ⟨g,off+1,none⟩) rs:=by
 rcases h with h | ⟨g,off,h1,h2,h3⟩
 ·cases h
 ·refine ⟨g,off,h1,h3 0 (by simp),.inr ⟨g,off+1,rfl,h2,fun i hi=>?_⟩⟩
  have:=h3 (i+1) (by simp;omega)
  rw [show off+1+i=off+(i+1) from by omega]
  exact this
theorem aG:prog.elem 23=9:=by simp [Program.elem,underlying23]
theorem cU:prog.underlying 23=some (.slice (prog.elem 23)):=by rw [aG];exact underlying23
theorem kX (w:World):(sizeOf 9).run prog w=.ok 1 w:=by
 obtain ⟨i0,hi,hz0,hz1,hz2⟩:=info_parts S1
 simp [sizeOf,typeInfo,hi,hz1]
theorem Zt {g off n c:Nat} (hn:n≤c):∃ aS:Option Addr,(n=0∨aS=some ⟨g,off+1,none⟩) ∧
  ∀ W:World,(Instr.slice 23 (.slice (some ⟨g,off,none⟩) (n+1) (c+1)) (some (.int .i64 1)) none none).run prog W=.ok (.slice aS n c) W:=by
 by_cases h0:c=0
 ·refine ⟨some ⟨g,off,none⟩,.inl (by omega),fun W=>?_⟩
  rw [run_slice_l W _ _ _ _ cU .i64 _ (by omega) (by omega),aG,kX]
  simp [Result.andThen,sliced,h0]
  try omega
 ·refine ⟨some ⟨g,off+1,none⟩,.inr rfl,fun W=>?_⟩
  rw [run_slice_l W _ _ _ _ cU .i64 _ (by omega) (by omega),aG,kX]
  simp [Result.andThen,sliced,h0,Addr.add]
  try omega
theorem Xe {E:World→Prop} {B K:Nat} {F:Ff} {b:Bk} {ws:Be} {w w':World} {e:Ending} {r:Bk×Int} (h:D6 F b ws r) (hs:Wz E B K w r e w'):ObR E B K F b ws w e w':=⟨r,h,hs⟩
theorem gG {F:Ff} {E:World→Prop} {G B K:Nat} (KI:Rq F E G) (hGB:G≤B) (HA:kM F E B K) (b:Bk) (q:Bp) (ao:Option Addr) (c:Nat) (r0:List UInt8) (rs:Be) (w:World) (hk:KS B K 1 b q w) (hE:E w) (hP:Ej b) (hz:Bh w ao (r0::rs)) (hn:rs.length≤1048576) (hcap:rs.length≤c) (hcm:c≤1048576) (hd:∀ r ∈ rs,r.length≤1048576) :
  Calls prog 137 #[.pointer (some ⟨K,0,none⟩),.slice ao (rs.length+1) (c+1)] w (ObR E B K F b (r0::rs) w):=by
 obtain ⟨g,off,rfl,t0,ht0⟩:=eU hz;obtain ⟨aS,haS,hsl⟩:=Zt (g:=g) (off:=off) hcap
 have ht:Bh w aS rs:=by
  rcases haS with h | h
  ·exact .inl (List.eq_nil_of_length_eq_zero h)
  ·rw [h];exact ht0
 obtain ⟨et,ea,hee⟩:=KI.eLine w hE
 have HYY:Hid (NF E (.iface et (.pointer (some ea)))):=⟨w,3,hE,by decide,hee⟩
 have HDY:Hid (Calls prog 172 #[.pointer (some ⟨K,0,none⟩),.slice aS rs.length c] w (Wz E B K w (N8 F b rs))):=lF KI b q _ c rs w hk hE hP ht hn hd
 have HAU:Hid (Calls prog 173 #[.pointer (some ⟨K,0,none⟩),.slice aS rs.length c] w (Wz E B K w (Gt F b rs))):=eM KI b q _ c rs w hk hE hP ht hcap (by omega) hd
 have HPA:Hid (Calls prog 174 #[.pointer (some ⟨K,0,none⟩),.slice aS rs.length c] w (PaR E B K F b rs w)):=lE KI hGB b q _ c rs w hk hE hP ht hn hd;have HAC:Hid (Calls prog 175 #[.pointer (some ⟨K,0,none⟩),.slice aS rs.length c] w (Wz E B K w (Hx F b rs))):=HA b q _ c rs w hk hE hP ht hd;have HK0:Hid (KS B K 1 b q w):=hk;have HBR:Hid (Ce B w w):=.refl _ _
 have HW:Hid (∀ r,(if r0=Eo then r=N8 F b rs else if r0=Dy then r=Gt F b rs else if r0=I7 then Fh F b rs r else if r0=Nz then r=Hx F b rs else r=(b,1))→D6 F b (r0::rs) r):=fun r h=>h
 obtain ⟨n,hnn⟩:∃ n,rs.length=n:=⟨_,rfl⟩;rw [hnn] at HDY HAU HPA HAC hcap hn hsl ⊢;clear hz ht ht0 haS hk hE hP hd KI HA hGB hnn
 by_cases h1:r0=Eo
 ·have HQ:Hid (D6 F b (r0::rs) (N8 F b rs)):=HW.o _ (by rw [if_pos h1])
  have hb1:(r0 == [100,97,121])=true:=by rw [h1];decide
  clear HW h1 hee
  go_enter func137,ntmps137
  go_wp2_with fail
  refine Calls.mono HDY.o ?_;rintro e w' hs;obtain ⟨q',v,rfl,hv⟩:=hs;have HS:Hid (Wz E B K w (N8 F b rs) (.returned v) w'):=⟨q',v,rfl,hv⟩;clear hv;go_wp2;go_ret;exact Xe HQ.o HS.o
 have b1:(r0 == [100,97,121])=false:=by simpa [Eo] using h1
 by_cases h2:r0=Dy
 ·have HQ:Hid (D6 F b (r0::rs) (Gt F b rs)):=HW.o _ (by rw [if_neg h1,if_pos h2])
  have hb1:(r0 == [97,117,116,104])=true:=by rw [h2];decide
  clear HW h1 h2 hee
  go_enter func137,ntmps137
  go_wp2_with fail
  refine Calls.mono HAU.o ?_;rintro e w' hs;obtain ⟨q',v,rfl,hv⟩:=hs;have HS:Hid (Wz E B K w (Gt F b rs) (.returned v) w'):=⟨q',v,rfl,hv⟩;clear hv;go_wp2;go_ret;exact Xe HQ.o HS.o
 have b2:(r0 == [97,117,116,104])=false:=by simpa [Dy] using h2
 by_cases h3:r0=I7
 ·have HQ:Hid (∀ r,Fh F b rs r→D6 F b (r0::rs) r):=fun r hr=>HW.o _ (by rw [if_neg h1,if_neg h2,if_pos h3];exact hr)
  have hb1:(r0 == [112,97,121])=true:=by rw [h3];decide
  clear HW h1 h2 h3 hee
  go_enter func137,ntmps137
  go_wp2_with fail
  refine Calls.mono HPA.o ?_;rintro e w' ⟨r,hr,q',v,rfl,hv⟩;have HS:Hid (Wz E B K w r (.returned v) w'):=⟨q',v,rfl,hv⟩;have HR:Hid (D6 F b (r0::rs) r):=HQ.o r hr;clear hv hr HQ;go_wp2;go_ret;exact Xe HR.o HS.o
 have b3:(r0 == [112,97,121])=false:=by simpa [I7] using h3
 by_cases h4:r0=Nz
 ·have HQ:Hid (D6 F b (r0::rs) (Hx F b rs)):=HW.o _ (by rw [if_neg h1,if_neg h2,if_neg h3,if_pos h4])
  have hb1:(r0 == [97,99,116])=true:=by rw [h4];decide
  clear HW h1 h2 h3 h4 hee
  go_enter func137,ntmps137
  go_wp2_with fail
  refine Calls.mono HAC.o ?_;rintro e w' hs;obtain ⟨q',v,rfl,hv⟩:=hs;have HS:Hid (Wz E B K w (Hx F b rs) (.returned v) w'):=⟨q',v,rfl,hv⟩;clear hv;go_wp2;go_ret;exact Xe HQ.o HS.o
 have b4:(r0 == [97,99,116])=false:=by simpa [Nz] using h4
 have HQ:Hid (D6 F b (r0::rs) (b,1)):=HW.o _ (by rw [if_neg h1,if_neg h2,if_neg h3,if_neg h4])
 clear HW h1 h2 h3 h4
 go_enter func137,ntmps137
 go_wp2;go_ret
 exact Xe HQ.o (Et HYY.o (by decide) HK0.o HBR.o)
end Go.Proofs.YtomiclakhjncbaaGreatDoor.Kb
namespace Go.Proofs.YtomiclakhjncbaaGreatDoor.Kb
open Go.RowKit Go.MuLone Go.Proofs.Tryz
set_option maxRecDepth 100000
set_option maxHeartbeats 12800000
def Jd (b:Bk) (line:List UInt8):Bk:=⟨b.today,b.off,b.az,b.cs,b.ls,b.log++[line]⟩
def D9 (F:Ff) (b:Bk) (line:List UInt8) (r:Bk×Int):Prop :=
 if 600≤b.log.length then r=(b,2) else ∃ r0,D6 F b (Ab line) r0∧r=if r0.2=0 then (Jd r0.1 line,0) else r0
def FV (E:World→Prop) (y:Value):Prop:=∃ w,E w∧w.cell? ⟨1,0,none⟩=some y
def rY (E:World→Prop) (b:Bk) (code:Int) (v:Value):Prop:=(code=0∧v=.nilIface)∨(code≠0∧∃ y,(if 600≤b.log.length then FV E y else NF E y)∧v=.iface 170 (.agg #[y,.int .i64 code]))
def pM (E:World→Prop) (B K:Nat) (F:Ff) (b:Bk) (line:List UInt8) (w:World) (e:Ending) (w':World):Prop:=∃ r q v,D9 F b line r∧e=.returned v∧rY E b r.2 v∧KS B K 0 r.1 q w'∧Ce B w w'
theorem N7 {ops:Array Oper} {o:Oper} {a:Act} {w:World} {K:Act→World→Prop} {Q:Exit→Act→World→Prop} {E:Prop} (hgd:o.guard=none) (s x:Operand)
  (ho:o.op=.call { callee:=.builtin .append,args:=#[s,x],argTypes:=#[23,23] }) (base:Nat) (v:Value) (n:Nat) (xs:List Value) (hs:a.eval s=v) (hown:w.ownsRow base 9 1 v n xs)
  (ao:Option Addr) (c:Nat) (rs:Be) (hx:a.eval x=.slice ao rs.length c) (hz:Bh w ao rs) (hn:n+rs.length≤4000000) (hbase:base≤w.heap.size)
  (h:∀ v' w',w'.ownsRow base 9 1 v' (n+rs.length) (xs++Am rs)→w.grownBy w' v.ownBlock→K (a.put o.dst v') w') :
  if Region.wanted o (yielded ops a.tmps)=true then Oper.wp prog o a w K Q else E:=by
 have hw:Region.wanted o (yielded ops a.tmps)=true:=by simp [Region.wanted,hgd]
 rw [if_pos hw];obtain ⟨v',w',hr,h1,h2⟩:=Ie w base o.type v n xs hown ao c rs hz hn hbase;unfold Oper.wp execOp
 simp only [ho,resolve,invoke,builtin,Sem.run_bind,Sem.run_pure,Result.andThen_ok,List.map_toArray,List.map_cons,List.map_nil,hs,hx,hr]
 exact h v' w' h1 h2
theorem jD {u:World} {g:Nat} {r:List UInt8} (h:u.cell? ⟨g,0,none⟩=some (.string ⟨r.toArray⟩)):Bh u (some ⟨g,0,none⟩) [r] :=
 .inr ⟨g,0,rfl,World.block_lt_of_cell? u _ h,fun i hi=>by
  obtain rfl:i=0:=by simpa using hi
  simpa [Al] using h⟩
theorem kbG {B K:Nat} {st:Int} {b:Bk} {q:Bp} {W u u':World} (k:KS B K st b q W) (g:u.grownBy u' (Value.slice q.g b.log.length q.gc).ownBlock) (h:BW W u):u'.cell? ⟨K,7,none⟩=some (.slice q.g b.log.length q.gc)∧u'.frozen? ⟨K,7,none⟩=false:=by
 have ku:=k.below h
 have zz:=ku.z.grown g (D8 ku.log ku.kt (by decide))
 exact ⟨zz.c7,zz.z7⟩
theorem jK (l:List UInt8):∃ r0 rs,Ab l=r0::rs:=by
 cases h:Ab l with
 | nil=>have:=(Fy l).1;rw [h] at this;simp at this
 | cons r rs=>exact ⟨r,rs,rfl⟩
theorem Sw {F:Ff} {b:Bk} {ws:Be} {r:Bk×Int} (h:D6 F b ws r):r.1.log=b.log:=by
 unfold D6 at h
 split at h
 ·rw [h];unfold N8 Fr;split
  ·split <;> rfl
  ·rfl
 split at h
 ·rw [h];unfold Gt Fq;split
  ·split <;> rfl
  ·rfl
 split at h
 ·unfold Fh at h
  split at h
  ·obtain ⟨x,-,rfl⟩:=h
   unfold Jk
   repeat' split
   all_goals rfl
  ·rw [h]
 split at h
 ·rw [h];unfold Hx Ja;split
  ·repeat' split
   all_goals rfl
  ·rfl
 ·rw [h]
theorem iDo_any {F:Ff} {E:World→Prop} {G B K:Nat} (KI:Rq F E G) (hGB:G≤B) (HA:kM F E B K) (b:Bk) (q:Bp) (line:List UInt8) (w:World) (hk:KS B K 0 b q w) (hE:E w) (hP:Ej b) (hl:line.length<1048576) :
  Calls prog 83 #[.pointer (some ⟨K,0,none⟩),.string ⟨line.toArray⟩] w (pM E B K F b line w):=by
 have HKI:Hid (Rq F E G):=KI;have HGB:Hid (G≤B):=hGB;have HAC:Hid (kM F E B K):=HA;have HK0:Hid (KS B K 0 b q w):=hk;have HE0:Hid (E w):=hE;have HPR:Hid (Ej b):=hP;have c0:=hk.z.c0;have z0:=hk.z.z0;clear KI hGB HA hk hE hP
 go_enter_defers func83,ntmps83
 go_wp2_with fail
 refine (lock_free muH ⟨K,0,none⟩ w c0 z0).mono ?_;rintro e w1 ⟨rfl,hw1⟩
 have HK1:Hid (KS B K 1 b q w1):=by rw [Hid,hw1];exact HK0.o.setSt 1
 have HB1:Hid (Ce B w w1):=by rw [Hid,hw1];exact (Ce.refl _ _).setK HK0.o.kt HK0.o.hK
 have HE1:Hid (E w1):=HKI.o.keep _ _ HE0.o (HB1.o.b.mono HGB.o);clear hw1 c0 z0;have c7:=HK1.o.z.c7;have hlm:b.log.length≤1048576:=HPR.o.sm.2.2.2.2
 by_cases hfull:600≤b.log.length
 ·have hfi:(600:Int)≤(b.log.length:Int):=by omega
  obtain ⟨et,ea,hee⟩:=HKI.o.eFull w1 HE1.o
  have HYY:Hid (if 600≤b.log.length then FV E (.iface et (.pointer (some ea))) else NF E (.iface et (.pointer (some ea)))):=by rw [Hid,if_pos hfull];exact ⟨w1,HE1.o,hee⟩
  have HQ:Hid (D9 F b line (b,2)):=by rw [Hid,D9,if_pos hfull]
  clear hfull;go_wp2_with fail
  refine leaves_cons (f:=114) (args:=#[.pointer (some ⟨K,0,none⟩)]) (by simp) (by simp [go_sem]) ?_
  refine (unlock_deferred muH ⟨K,0,none⟩ .returning _ HK1.o.z.c0 HK1.o.z.z0).mono ?_;rintro e u' w2 ⟨rfl,rfl,rfl⟩
  exact ⟨_,results_tmp rfl _ _ _,(b,2),q,_,HQ.o,rfl,.inr ⟨(by show (2:Int)≠0;decide),_,HYY.o,rfl⟩,HK1.o.setSt 0,HB1.o.setK HK1.o.kt HK1.o.hK⟩
 have hfi:¬ (600:Int)≤(b.log.length:Int):=by omega
 have HRL:Hid (∀ r0,D6 F b (Ab line) r0→D9 F b line (if r0.2=0 then (Jd r0.1 line,0) else r0)):=fun r0 h=>by
  rw [D9,if_neg hfull];exact ⟨r0,h,rfl⟩
 have HSP:Hid (Calls prog 66 #[.string ⟨line.toArray⟩,.string ⟨#[32]⟩] w1 fun e w'=>∃ a,e=.returned (.slice a (Ab line).length (Ab line).length)∧Bh w' a (Ab line)∧BW w1 w'):=HKI.o.split line w1 (by omega) HE1.o
 have hwl:=Fy line
 have HSH:Hid (∀ r ∈ Ab line,r.length≤1048576):=fun r hr=>by have:=Ee line r hr;omega
 obtain ⟨r0,rs,hrs⟩:=jK line;rw [hrs] at HRL HSP hwl HSH
 simp only [List.length_cons] at HSP hwl
 clear hrs hfull;go_wp2_with fail
 refine Calls.mono HSP.o ?_;rintro e w2 ⟨a,rfl,ht,p2⟩;have HBW1:Hid (B≤w1.heap.size):=HK1.o.lt;have HK2:Hid (KS B K 1 b q w2):=HK1.o.below p2;have HB2:Hid (Ce B w w2):=HB1.o.trans (.of p2 HBW1.o);have HE2:Hid (E w2):=HKI.o.grow HE1.o p2
 have HOB:Hid (Calls prog 137 #[.pointer (some ⟨K,0,none⟩),.slice a (rs.length+1) (rs.length+1)] w2 (ObR E B K F b (r0::rs) w2)):=gG HKI.o HGB.o HAC.o b q a rs.length r0 rs w2 HK2.o HE2.o HPR.o ht (by omega) nL (by omega) (fun r hr=>HSH.o r (by simp [hr]))
 clear p2 ht HSP c7;go_wp2_with fail
 refine Calls.mono HOB.o ?_;rintro e w3 ⟨⟨b3,c3⟩,hr,q3,v,rfl,hv,k3,p3⟩;have HK3:Hid (KS B K 1 b3 q3 w3):=k3;have HB3:Hid (Ce B w w3):=HB2.o.trans p3
 have HQ:Hid (D9 F b line (if c3=0 then (Jd b3 line,0) else (b3,c3))):=HRL.o (b3,c3) hr
 have hlog:b3.log=b.log:=Sw hr
 have hl3:b3.log.length≤1048576:=by rw [hlog];exact hlm
 have HBW3:Hid (B≤w3.heap.size):=HK3.o.lt;clear hr k3 p3 HOB HRL hlog
 simp only at hv
 rcases hv with ⟨hc,rfl⟩ | ⟨hc,y,hy,rfl⟩
 ·subst hc
  have HQ2:Hid (D9 F b line (Jd b3 line,0)):=HQ.o;have c7:=HK3.o.z.c7
  have a7:=fun o=>(HK3.o.al o).z.c7
  have HCL:Hid (∀ u,Calls prog 138 #[.string ⟨line.toArray⟩] u fun e w'=>e=.returned (.string ⟨line.toArray⟩)∧BW u w'):=fun u=>HKI.o.clone line u (by omega)
  have HEND:Hid (∀ (u u':World) (a:Option Addr) (c:Nat),BW w3 u→u.grownBy u' (Value.slice q3.g b3.log.length q3.gc).ownBlock→u'.ownsRow B 9 1 (.slice a (b3.log.length+1) c) (b3.log.length+1) (Am b3.log++Am [line])→∃ q',KS B K 1 (Jd b3 line) q' (u'.setCell ⟨K,7,none⟩ (.slice a (b3.log.length+1) c))∧Ce B w (u'.setCell ⟨K,7,none⟩ (.slice a (b3.log.length+1) c))):=fun u u' a c h g o=>by
   have o':u'.ownsRow B 9 1 (.slice a (b3.log++[line]).length c) (b3.log++[line]).length (Am (b3.log++[line])):=by
    rw [F6,List.length_append,List.length_singleton];exact o
   have h2:=(HK3.o.below h).setG g o';rw [List.length_append,List.length_singleton] at h2;have kh:=HK3.o.below h;have hu:Ce B w u':=(HB3.o.trans (.of h HBW3.o)).grownO g kh.log (Nat.le_trans HBW3.o h.size) (.inr rfl)
   exact ⟨_,h2,hu.setK (kh.kt.grown g (D8 kh.log kh.kt (by decide))) HK3.o.hK⟩
  clear HQ;go_upto_region 8 with fail
  refine wp_region_noPanic ?_
  go_region_law (first
   | (go_simp;go_at_call 138;(first | refine Calls.mono (HCL.o _) ?_);rintro e u2 ⟨rfl,p2⟩;have k2:BW w3 u2:=next (by go_grown) p2;have cc7:=(HK3.o.below k2).z.c7;have aa7:=fun o=>((HK3.o.below k2).al o).z.c7;have HS2:Hid (w3.heap.size≤u2.heap.size):=k2.size;clear p2)
   | (refine N7 rfl (.tmp 33) (.tmp 36) rfl B (.slice q3.g b3.log.length q3.gc) b3.log.length (Am b3.log) (by simp [Act.eval]) (Av HK3.o.log (by have:=HS2.o;go_grown)) (some ⟨u2.heap.size,0,none⟩) 1 [line] (by simp [Act.eval];try rfl) (jD (by simp)) (by simp;omega) (by have:=HBW3.o;have:=k2.size;simp;omega) ?_
      intro v6 w6 o6 g6
      (try simp only [List.length_singleton] at o6)
      obtain ⟨va,vc,hva⟩:=Xf o6;subst hva;have HO6:Hid (w6.ownsRow B 9 1 (.slice va (b3.log.length+1) vc) (b3.log.length+1) (Am b3.log++Am [line])):=o6
      obtain ⟨y6,x6⟩:=kbG HK3.o g6 (by have:=HS2.o;go_grown)
      have HG6:Hid _:=HEND.o _ _ va vc (by have:=HS2.o;go_grown) g6 o6
      clear o6 g6)
   | fail)
  all_goals
   refine NoPanic.normal ?_;go_wp2_with fail
   obtain ⟨q',hk6,hb6⟩:=HG6.o
   refine leaves_cons (f:=114) (args:=#[.pointer (some ⟨K,0,none⟩)]) (by simp) (by simp [go_sem]) ?_
   refine (unlock_deferred muH ⟨K,0,none⟩ .returning _ hk6.z.c0 hk6.z.z0).mono ?_;rintro e u' w7 ⟨rfl,rfl,rfl⟩;exact ⟨_,results_tmp rfl _ _ _,(Jd b3 line,0),q',_,HQ2.o,rfl,.inl ⟨rfl,rfl⟩,hk6.setSt 0,hb6.setK hk6.kt hk6.hK⟩
 ·have HYY:Hid (if 600≤b.log.length then FV E y else NF E y):=by rw [Hid,if_neg (by have:=hfi;omega)];exact hy
  clear hy
  have HQ2:Hid (D9 F b line (b3,c3)):=by have h:=HQ.o;rw [if_neg hc] at h;exact h
  clear HQ;go_wp2_with fail
  refine leaves_cons (f:=114) (args:=#[.pointer (some ⟨K,0,none⟩)]) (by simp) (by simp [go_sem]) ?_
  refine (unlock_deferred muH ⟨K,0,none⟩ .returning _ HK3.o.z.c0 HK3.o.z.z0).mono ?_;rintro e u' w4 ⟨rfl,rfl,rfl⟩;exact ⟨_,results_tmp rfl _ _ _,(b3,c3),q3,_,HQ2.o,rfl,.inr ⟨hc,_,HYY.o,rfl⟩,HK3.o.setSt 0,HB3.o.setK HK3.o.kt HK3.o.hK⟩
end Go.Proofs.YtomiclakhjncbaaGreatDoor.Kb
namespace Go.Proofs.YtomiclakhjncbaaGreatDoor
open Go.RowKit Go.Proofs.Tryz
set_option maxRecDepth 100000
set_option maxHeartbeats 12800000
theorem oU (st k:Int) (w:World):Calls prog 167 #[.int .i64 st,.int .i64 k] w fun e w'=>e=.returned (.bool (Dx st k))∧w'=w:=by
 by_cases hk:k<0∨9<k
 ·have HE:Hid (Dx st k=false):=by
    cases e:Dx st k
    ·rfl
    ·have:=Jt e;omega
  have g0:(k == 0)=false:=Ay (by omega)
  have g1:(k == 1)=false:=Ay (by omega)
  have g2:(k == 2)=false:=Ay (by omega)
  have g3:(k == 3)=false:=Ay (by omega)
  have g4:(k == 4)=false:=Ay (by omega)
  have g5:(k == 5)=false:=Ay (by omega)
  have g6:(k == 6)=false:=Ay (by omega)
  have g7:(k == 7)=false:=Ay (by omega)
  have g8:(k == 8)=false:=Ay (by omega)
  have g9:(k == 9)=false:=Ay (by omega)
  clear hk
  go_enter func167,ntmps167
  go_wp2;go_ret;exact ⟨Aa HE.o.symm,rfl⟩
 ·rcases (show k=0∨k=1∨k=2∨k=3∨k=4∨k=5∨k=6∨k=7∨k=8∨k=9 by omega) with rfl | rfl | rfl | rfl | rfl | rfl | rfl | rfl | rfl | rfl
  ·have HE:Hid (Dx st 0=(st == 0)):=by
     by_cases h:st=0 <;> simp [Hid,Dx,h]
   clear hk
   go_enter func167,ntmps167
   go_wp2;go_ret;exact ⟨Aa HE.o.symm,rfl⟩
  ·have HE:Hid (Dx st 1=(st == 1)):=by
     by_cases h:st=1 <;> simp [Hid,Dx,h]
   clear hk
   go_enter func167,ntmps167
   go_wp2;go_ret;exact ⟨Aa HE.o.symm,rfl⟩
  ·clear hk
   go_enter func167,ntmps167
   go_wp2_with (go_at_call 134;refine (Dl _ _ _ _).mono ?_;rintro e w' ⟨rfl,rfl⟩)
   go_ret;exact ⟨rfl,rfl⟩
  ·have HE:Hid (Dx st 3=(st == 3)):=by
     by_cases h:st=3 <;> simp [Hid,Dx,h]
   clear hk
   go_enter func167,ntmps167
   go_wp2;go_ret;exact ⟨Aa HE.o.symm,rfl⟩
  ·have HE:Hid (Dx st 4=(st == 4)):=by
     by_cases h:st=4 <;> simp [Hid,Dx,h]
   clear hk
   go_enter func167,ntmps167
   go_wp2;go_ret;exact ⟨Aa HE.o.symm,rfl⟩
  ·have HE:Hid (Dx st 5=(st == 5)):=by
     by_cases h:st=5 <;> simp [Hid,Dx,h]
   clear hk
   go_enter func167,ntmps167
   go_wp2;go_ret;exact ⟨Aa HE.o.symm,rfl⟩
  ·have HE:Hid (Dx st 6=(st == 5)):=by
     by_cases h:st=5 <;> simp [Hid,Dx,h]
   clear hk
   go_enter func167,ntmps167
   go_wp2;go_ret;exact ⟨Aa HE.o.symm,rfl⟩
  ·have HE:Hid (Dx st 7=(st == 6)):=by
     by_cases h:st=6 <;> simp [Hid,Dx,h]
   clear hk
   go_enter func167,ntmps167
   go_wp2;go_ret;exact ⟨Aa HE.o.symm,rfl⟩
  ·by_cases h1:st=1
   ·have HE:Hid (Dx st 8=true):=by simp [Hid,Dx,h1]
    have h1':(st == 1)=true:=by simpa using h1
    clear hk h1
    go_enter func167,ntmps167
    go_wp2;go_ret;exact ⟨Aa HE.o.symm,rfl⟩
   ·have HE:Hid (Dx st 8=Gk st 3 6):=by simp [Hid,Dx,h1,Gk]
    have h1':=Ay h1;clear hk h1
    go_enter func167,ntmps167
    go_wp2_with (go_at_call 134;refine (Dl _ _ _ _).mono ?_;rintro e w' ⟨rfl,rfl⟩)
    go_ret;exact ⟨Aa HE.o.symm,rfl⟩
  ·by_cases h1:st=0
   ·have HE:Hid (Dx st 9=true):=by simp [Hid,Dx,h1]
    have h1':(st == 0)=true:=by simpa using h1
    clear hk h1
    go_enter func167,ntmps167
    go_wp2;go_ret;exact ⟨Aa HE.o.symm,rfl⟩
   ·have HE:Hid (Dx st 9=(st == 2)):=by
      by_cases h:st=2 <;> simp [Hid,Dx,h1,h]
    have h1':=Ay h1;clear hk h1
    go_enter func167,ntmps167
    go_wp2;go_ret;exact ⟨Aa HE.o.symm,rfl⟩
structure B2 (s:Nat) (c:Cs) (a:Ac) (u:World):Prop where
 cb:CB s 0 c u
 a0:u.cell? ⟨s+1,0,none⟩=some (.int .i64 a.kind)
 a1:u.cell? ⟨s+1,1,none⟩=some (.int .i64 a.am)
 a2:u.cell? ⟨s+1,2,none⟩=some (.int .i64 a.rsn)
theorem B2.below {s:Nat} {c:Cs} {a:Ac} {u u':World} (h:B2 s c a u) (b:BW u u'):B2 s c a u':=by
 have l:s+1<u.heap.size:=World.block_lt_of_cell? u _ h.a0;exact ⟨h.cb.below b,(b.cell (p:=⟨s+1,0,none⟩) l).trans h.a0,(b.cell (p:=⟨s+1,1,none⟩) l).trans h.a1,(b.cell (p:=⟨s+1,2,none⟩) l).trans h.a2⟩
theorem B2.new (w:World) (c:Cs) (a:Ac) (t1 t2:TypeId):B2 w.heap.size c a ((w.alloc (.cells #[.int .i64 c.iss,.int .i64 c.acq,.int .i64 c.cur,.int .i64 c.am,.int .i64 c.st,.int .i64 c.rsn,.int .i64 c.cl,.int .i64 c.bk,.int .i64 c.fee,.bool c.cop,.int .i64 c.sta,.int .i64 c.due] t1)).alloc (.cells #[.int .i64 a.kind,.int .i64 a.am,.int .i64 a.rsn] t2)) :=
 ⟨(CB.new w c t1).below (bR.alloc nL _),by simp [go_sem],by simp [go_sem],by simp [go_sem]⟩
theorem Xk (c:Cs) (a:Ac) (t:Int) (ao:Option Addr) (cp:Nat) (zs:List Int) (w:World) (hx:Aw w ao zs) (hn:zs.length≤1099511627776) :
  Calls prog 263 #[cv c,av a,.int .i64 t,.slice ao zs.length cp] w fun e w'=>e=.returned (.int .i64 (Bs c a t zs))∧BW w w':=by
 obtain ⟨W,hW⟩:∃ W,W=(w.alloc (.cells #[.int .i64 c.iss,.int .i64 c.acq,.int .i64 c.cur,.int .i64 c.am,.int .i64 c.st,.int .i64 c.rsn,.int .i64 c.cl,.int .i64 c.bk,.int .i64 c.fee,.bool c.cop,.int .i64 c.sta,.int .i64 c.due] 61)).alloc (.cells #[.int .i64 a.kind,.int .i64 a.am,.int .i64 a.rsn] 165):=⟨_,rfl⟩
 have HX:Hid (B2 w.heap.size c a W):=by rw [Hid,hW];exact B2.new w c a _ _
 have HBW:Hid (BW w W):=by rw [Hid,hW];go_grown
 have HW:Hid _:=hW;have HI:Hid (Aw W ao zs):=hx.below HBW.o
 obtain ⟨p,hp⟩:∃ p,(!Oy a.rsn || (E8 a.rsn && !E4 c t))=p:=⟨_,rfl⟩
 obtain ⟨q,hq⟩:∃ q,(decide (a.am<1) || (decide (c.am<a.am) || (decide (a.am<c.am) && !Gb a.rsn)))=q:=⟨_,rfl⟩
 obtain ⟨l,hl⟩:∃ l,Bv t (C6 c.sta (Fs a.rsn) zs)=l:=⟨_,rfl⟩;have HV:Hid _:=Qy hp hq hl;have HPP:Hid _:=hp;have HQQ:Hid _:=hq;have HLL:Hid _:=hl
 have hcop:E4 c t=(c.cop || (decide (c.st=1) && Bv t c.due)):=rfl
 obtain ⟨cc,hcc⟩:∃ cc,E4 c t=cc:=⟨_,rfl⟩
 have HCC:Hid (cc=(c.cop || (decide (c.st=1) && Bv t c.due))):=by rw [Hid,← hcc,hcop]
 rw [hcc] at HPP;clear hp hq hl hx hW hcop hcc;obtain ⟨k,m,r⟩:=a;obtain ⟨iss,acq,cur,am,st,rsn,cl,bk,fee,cop,sta,due⟩:=c;unfold cv av
 simp only at HW HPP HQQ HLL HCC ⊢
 have HDU:Hid (∀ u,BW W u→Calls prog 222 #[.int .i64 sta,.int .i64 (Fs r),.slice ao zs.length cp] u fun e w'=>e=.returned (.int .i64 (C6 sta (Fs r) zs))∧BW u w'):=fun u hu=>Ir sta (Fs r) ao cp zs u (HI.o.below hu) hn
 go_enter func263,ntmps263
 go_upto_region 1 with fail
 rw [← HW.o];clear HW;obtain ⟨⟨f0,f1,f2,f3,f4,f5,f6,f7,f8,f9,f10,f11⟩,k0,k1,k2⟩:=HX.o
 simp only [Nat.zero_add] at f0 f1 f2 f3 f4 f5 f6 f7 f8 f9 f10 f11 k0 k1 k2
 clear f0 f1 f2 f5 f6 f7 f8
 go_cut [9] (fun v wc=>v=.bool cc∧wc=W)
 case first =>
  cases cop
  ·by_cases h1:st=1
   ·have HE:Hid (cc=Bv t due):=by rw [Hid,HCC.o,decide_eq_true h1,Bool.false_or,Bool.true_and]
    have h1':(st == 1)=true:=by simpa using h1
    clear h1
    go_wp2_with (go_at_call 92;refine (Kp _ _ _).mono ?_;rintro e w' ⟨rfl,rfl⟩)
    go_meet
    exact ⟨by rw [HE.o],rfl⟩
   ·have HE:Hid (cc=false):=by rw [Hid,HCC.o,decide_eq_false h1,Bool.false_or,Bool.false_and]
    have h1':=Ay h1;clear h1;go_wp2;go_meet
    exact ⟨by rw [HE.o],rfl⟩
  ·have HE:Hid (cc=true):=by rw [Hid,HCC.o,Bool.true_or]
   go_wp2;go_meet
   exact ⟨by rw [HE.o],rfl⟩
 case rest =>
  obtain ⟨rfl,hwc⟩:=hcut;rw [hwc];clear hwc;go_upto_region 2 with fail
  go_cut [23] (fun v wc=>v=.bool p∧BW W wc)
  case first =>
   go_wp2_with fail
   refine (V7 r _).mono ?_;rintro e u1 ⟨rfl,b1⟩;have HB1:Hid (BW W u1):=b1;have j2:=(HX.o.below b1).a2
   simp only at j2
   clear b1
   cases h1:Oy r
   ·have HE:Hid (p=true):=by rw [Hid,← HPP.o,h1];rfl
    clear h1;go_wp2;go_meet
    exact ⟨by rw [HE.o],HB1.o⟩
   go_wp2_with fail
   refine (Wt r _).mono ?_;rintro e u2 ⟨rfl,hw2⟩;rw [hw2];clear hw2
   cases h2:E8 r
   ·have HE:Hid (p=false):=by rw [Hid,← HPP.o,h1,h2];rfl
    clear h1 h2;go_wp2;go_meet
    exact ⟨by rw [HE.o],HB1.o⟩
   have HE:Hid (p = !cc):=by rw [Hid,← HPP.o,h1,h2];rfl
   clear h1 h2;go_wp2;go_meet
   exact ⟨by rw [HE.o],HB1.o⟩
  case rest =>
   obtain ⟨rfl,b4⟩:=hcut;obtain ⟨u4,hu4⟩:∃ x,x=wc:=⟨_,rfl⟩;subst hu4;have HB4:Hid (BW W u4):=b4;have HX4:Hid (B2 w.heap.size ⟨iss,acq,cur,am,st,rsn,cl,bk,fee,cop,sta,due⟩ ⟨k,m,r⟩ u4):=HX.o.below b4;clear b4 f3 f4 f9 f10 f11 k0 k1 k2
   cases p
   rotate_left
   ·have HE:Hid (Bs ⟨iss,acq,cur,am,st,rsn,cl,bk,fee,cop,sta,due⟩ ⟨k,m,r⟩ t zs=3):=by rw [Hid,HV.o,if_pos rfl]
    go_wp2;go_ret;exact ⟨Af HE.o.symm,next HBW.o HB4.o⟩
   have HV1:Hid (Bs ⟨iss,acq,cur,am,st,rsn,cl,bk,fee,cop,sta,due⟩ ⟨k,m,r⟩ t zs=if q=true then 2 else if l=true then 4 else 0):=by rw [Hid,HV.o,if_neg (by decide)]
   obtain ⟨⟨f0,f1,f2,f3,f4,f5,f6,f7,f8,f9,f10,f11⟩,k0,k1,k2⟩:=HX4.o
   simp only [Nat.zero_add] at f0 f1 f2 f3 f4 f5 f6 f7 f8 f9 f10 f11 k0 k1 k2
   clear HV f0 f1 f2 f4 f5 f6 f7 f8 f9 f10 f11;go_upto_region 4 with fail
   go_cut [37] (fun v wc=>v=.bool q∧wc=u4)
   case first =>
    go_wp2_with fail
    cases h1:Gk m 1 am
    ·have HE:Hid (q=true):=by
       have:=E7 h1
       have g:m<1∨am<m:=by simp at this;omega
       rw [Hid,← HQQ.o]
       rcases g with g | g <;> simp [g]
     refine (Fa h1 _).mono ?_;rintro e v1 ⟨rfl,hv⟩;rw [hv];clear hv h1;go_wp2;go_meet
     exact ⟨by rw [HE.o],rfl⟩
    have g1:¬ m<1∧¬ am<m:=by have:=E7 h1;simp at this;omega
    refine (Fa h1 _).mono ?_;rintro e v1 ⟨rfl,hv⟩;rw [hv];clear hv h1
    by_cases h3:m<am
    ·have HE:Hid (q = !Gb r):=by rw [Hid,← HQQ.o,decide_eq_false g1.1,decide_eq_false g1.2,decide_eq_true h3];rfl
     clear g1;go_wp2_with fail
     refine (aT r _).mono ?_;rintro e v2 ⟨rfl,hv⟩;rw [hv];clear hv;go_wp2;go_meet
     exact ⟨by rw [HE.o],rfl⟩
    ·have HE:Hid (q=false):=by rw [Hid,← HQQ.o,decide_eq_false g1.1,decide_eq_false g1.2,decide_eq_false h3];rfl
     clear g1;go_wp2;go_meet
     exact ⟨by rw [HE.o],rfl⟩
   case rest =>
    obtain ⟨rfl,hwc⟩:=hcut;rw [hwc];clear hwc f3 k0 k1 k2
    cases q
    rotate_left
    ·have HE:Hid (Bs ⟨iss,acq,cur,am,st,rsn,cl,bk,fee,cop,sta,due⟩ ⟨k,m,r⟩ t zs=2):=by rw [Hid,HV1.o,if_pos rfl]
     go_wp2;go_ret;exact ⟨Af HE.o.symm,next HBW.o HB4.o⟩
    have HV2:Hid (Bs ⟨iss,acq,cur,am,st,rsn,cl,bk,fee,cop,sta,due⟩ ⟨k,m,r⟩ t zs=if l=true then 4 else 0):=by rw [Hid,HV1.o,if_neg (by decide)]
    clear HV1
    have HAT:Hid (∀ u,BW W u→u.cell? ⟨w.heap.size,10,none⟩=some (.int .i64 sta)∧u.cell? ⟨w.heap.size+1,2,none⟩=some (.int .i64 r)):=fun u hu=>by
     have g:=HX.o.below hu;have g10:=g.cb.f10
     simp only [Nat.zero_add] at g10
     exact ⟨g10,g.a2⟩
    obtain ⟨k10,k2⟩:=HAT.o u4 HB4.o;obtain ⟨n,hn'⟩:∃ n,Fs r=n:=⟨_,rfl⟩
    have HRD:Hid (∀ u,Calls prog 302 #[.int .i64 r] u fun e w'=>e=.returned (.int .i64 n)∧BW u w'):=fun u=>by rw [← hn'];exact Xy r u
    rw [hn'] at HDU HLL;obtain ⟨dd,hdd⟩:∃ dd,C6 sta n zs=dd:=⟨_,rfl⟩;rw [hdd] at HDU HLL
    have HLT:Hid (∀ u,Calls prog 92 #[.int .i64 t,.int .i64 dd] u fun e w'=>e=.returned (.bool l)∧w'=u):=fun u=>by rw [← HLL.o];exact Kp t dd u
    clear hn' hdd;have d5:BW W u4.drew:=HB4.o.drew;go_upto_region 6 with fail
    go_cut [57] (fun v wc=>v=.bool l∧BW W wc)
    case first =>
     go_region_held3 (fun u=>u.cell? ⟨w.heap.size,10,none⟩=some (.int .i64 sta)∧u.cell? ⟨w.heap.size+1,2,none⟩=some (.int .i64 r)) (first | exact ⟨k10,k2⟩ | exact HAT.o _ HB4.o | exact HAT.o _ d5 | exact HAT.o _ HB6.o | exact HAT.o _ HB7.o) ((first
      | (go_at_call 302;refine (HRD.o _).mono ?_;rintro e u6 ⟨rfl,b6⟩;(first | (have HB6:Hid (BW W u6):=next d5 b6) | (have HB6:Hid (BW W u6):=next HB4.o b6));clear b6)
      | (go_at_call 222;refine (HDU.o _ HB6.o).mono ?_;rintro e u7 ⟨rfl,b7⟩;(have HB7:Hid (BW W u7):=next HB6.o b7);clear b7)
      | (go_at_call 92;refine (HLT.o _).mono ?_;rintro e u8 ⟨rfl,hu8⟩;rw [hu8];clear hu8)))
     all_goals
      go_wp2_with fail
      go_meet;exact ⟨rfl,HB7.o⟩
    case rest =>
     obtain ⟨rfl,b8⟩:=hcut;clear k10 k2
     cases l
     ·have HE:Hid (Bs ⟨iss,acq,cur,am,st,rsn,cl,bk,fee,cop,sta,due⟩ ⟨k,m,r⟩ t zs=0):=by rw [Hid,HV2.o,if_neg (by decide)]
      go_wp2;go_ret;exact ⟨Af HE.o.symm,next HBW.o b8⟩
     ·have HE:Hid (Bs ⟨iss,acq,cur,am,st,rsn,cl,bk,fee,cop,sta,due⟩ ⟨k,m,r⟩ t zs=4):=by rw [Hid,HV2.o,if_pos rfl]
      go_wp2;go_ret;exact ⟨Af HE.o.symm,next HBW.o b8⟩
theorem fX (c:Cs) (a:Ac) (t:Int) (ao:Option Addr) (cp:Nat) (zs:List Int) (w:World) (hx:Aw w ao zs) (hn:zs.length≤1099511627776) (hk:0≤a.kind∧a.kind≤9) :
  Calls prog 221 #[cv c,av a,.int .i64 t,.slice ao zs.length cp] w fun e w'=>e=.returned (.int .i64 (B4 c a t zs))∧BW w w':=by
 obtain ⟨W,hW⟩:∃ W,W=(w.alloc (.cells #[.int .i64 c.iss,.int .i64 c.acq,.int .i64 c.cur,.int .i64 c.am,.int .i64 c.st,.int .i64 c.rsn,.int .i64 c.cl,.int .i64 c.bk,.int .i64 c.fee,.bool c.cop,.int .i64 c.sta,.int .i64 c.due] 61)).alloc (.cells #[.int .i64 a.kind,.int .i64 a.am,.int .i64 a.rsn] 165):=⟨_,rfl⟩
 have HX:Hid (B2 w.heap.size c a W):=by rw [Hid,hW];exact B2.new w c a _ _
 have HBW:Hid (BW w W):=by rw [Hid,hW];go_grown
 have HW:Hid _:=hW
 have HCH:Hid (∀ u,BW W u→Calls prog 263 #[cv c,av a,.int .i64 t,.slice ao zs.length cp] u fun e w'=>e=.returned (.int .i64 (Bs c a t zs))∧BW u w'):=fun u hu=>Xk c a t ao cp zs u ((hx.below HBW.o).below hu) hn
 obtain ⟨r,hr⟩:∃ r,B4 c a t zs=r:=⟨_,rfl⟩;have HR:Hid _:=hr;rw [hr];clear hx hW hr;obtain ⟨k,m,q⟩:=a;obtain ⟨iss,acq,cur,am,st,rsn,cl,bk,fee,cop,sta,due⟩:=c;unfold cv av at HCH ⊢
 simp only at HW HCH hk ⊢
 go_enter func221,ntmps221
 go_upto_region 1 with fail
 rw [← HW.o];clear HW;obtain ⟨⟨f0,f1,f2,f3,f4,f5,f6,f7,f8,f9,f10,f11⟩,k0,k1,k2⟩:=HX.o
 simp only [Nat.zero_add] at f0 f1 f2 f3 f4 f5 f6 f7 f8 f9 f10 f11 k0 k1 k2
 go_wp2_with fail
 refine (Kp t due _).mono ?_;rintro e u1 ⟨rfl,hu⟩;rw [hu];clear hu;obtain ⟨l,hl⟩:∃ l,Bv t due=l:=⟨_,rfl⟩;have HL:Hid _:=hl;rw [hl];clear hl
 rcases (show k=0∨k=1∨k=2∨k=3∨k=4∨k=5∨k=6∨k=7∨k=8∨k=9 by omega) with rfl | rfl | rfl | rfl | rfl | rfl | rfl | rfl | rfl | rfl
 ·have HE:Hid (r=0):=by rw [Hid,← HR.o];simp [B4]
  clear HCH;go_wp2;go_ret;exact ⟨Af HE.o.symm,HBW.o⟩
 ·have HE:Hid (r=if l=true then 4 else 0):=by rw [Hid,← HR.o,← HL.o];simp [B4]
  clear HCH
  cases l
  ·go_wp2
   go_ret
   exact ⟨Af (by rw [HE.o];rfl),HBW.o⟩
  ·go_wp2
   go_ret
   exact ⟨Af (by rw [HE.o];rfl),HBW.o⟩
 ·have HE:Hid (Bs ⟨iss,acq,cur,am,st,rsn,cl,bk,fee,cop,sta,due⟩ ⟨2,m,q⟩ t zs=r):=by rw [Hid,← HR.o];simp [B4]
  go_wp2_with fail
  refine (HCH.o _ bR).mono ?_;rintro e u2 ⟨rfl,b2⟩;have HB2:Hid (BW w u2):=next HBW.o b2;clear b2;rw [HE.o];go_wp2;go_ret;exact ⟨rfl,HB2.o⟩
 ·have HE:Hid (r=if l=true then 4 else if 1≤m∧m≤cl then 0 else 2):=by rw [Hid,← HR.o,← HL.o];simp [B4]
  clear HCH
  cases l
  ·rw [if_neg (by decide)] at HE
   go_wp2_with fail
   cases h1:Gk m 1 cl
   ·have g:=E7 h1
    have HE2:Hid (r=2):=by rw [Hid,HE.o,if_neg (of_decide_eq_false g)]
    refine (Fa h1 _).mono ?_;rintro e v1 ⟨rfl,hv⟩;rw [hv];clear hv h1 g;go_wp2;go_ret;exact ⟨Af HE2.o.symm,HBW.o⟩
   ·have g:=E7 h1
    have HE2:Hid (r=0):=by rw [Hid,HE.o,if_pos (of_decide_eq_true g)]
    refine (Fa h1 _).mono ?_;rintro e v1 ⟨rfl,hv⟩;rw [hv];clear hv h1 g;go_wp2;go_ret;exact ⟨Af HE2.o.symm,HBW.o⟩
  ·go_wp2
   go_ret
   exact ⟨Af (by rw [HE.o];rfl),HBW.o⟩
 ·have HE:Hid (r=if l=true then 4 else if 1≤m∧m≤cl then 0 else 2):=by rw [Hid,← HR.o,← HL.o];simp [B4]
  clear HCH
  cases l
  ·rw [if_neg (by decide)] at HE
   go_wp2_with fail
   cases h1:Gk m 1 cl
   ·have g:=E7 h1
    have HE2:Hid (r=2):=by rw [Hid,HE.o,if_neg (of_decide_eq_false g)]
    refine (Fa h1 _).mono ?_;rintro e v1 ⟨rfl,hv⟩;rw [hv];clear hv h1 g;go_wp2;go_ret;exact ⟨Af HE2.o.symm,HBW.o⟩
   ·have g:=E7 h1
    have HE2:Hid (r=0):=by rw [Hid,HE.o,if_pos (of_decide_eq_true g)]
    refine (Fa h1 _).mono ?_;rintro e v1 ⟨rfl,hv⟩;rw [hv];clear hv h1 g;go_wp2;go_ret;exact ⟨Af HE2.o.symm,HBW.o⟩
  ·go_wp2
   go_ret
   exact ⟨Af (by rw [HE.o];rfl),HBW.o⟩
 ·have HE:Hid (r=0):=by rw [Hid,← HR.o];simp [B4]
  clear HCH;go_wp2;go_ret;exact ⟨Af HE.o.symm,HBW.o⟩
 ·have HE:Hid (r=if l=true then 4 else 0):=by rw [Hid,← HR.o,← HL.o];simp [B4]
  clear HCH
  cases l
  ·go_wp2
   go_ret
   exact ⟨Af (by rw [HE.o];rfl),HBW.o⟩
  ·go_wp2
   go_ret
   exact ⟨Af (by rw [HE.o];rfl),HBW.o⟩
 ·have HE:Hid (r=if 0≤m∧m≤cl then 0 else 2):=by rw [Hid,← HR.o];simp [B4]
  clear HCH;go_wp2_with fail
  cases h1:Gk m 0 cl
  ·have g:=E7 h1
   have HE2:Hid (r=2):=by rw [Hid,HE.o,if_neg (of_decide_eq_false g)]
   refine (Fa h1 _).mono ?_;rintro e v1 ⟨rfl,hv⟩;rw [hv];clear hv h1 g;go_wp2;go_ret;exact ⟨Af HE2.o.symm,HBW.o⟩
  ·have g:=E7 h1
   have HE2:Hid (r=0):=by rw [Hid,HE.o,if_pos (of_decide_eq_true g)]
   refine (Fa h1 _).mono ?_;rintro e v1 ⟨rfl,hv⟩;rw [hv];clear hv h1 g;go_wp2;go_ret;exact ⟨Af HE2.o.symm,HBW.o⟩
 ·have HE:Hid (r=if l=true then 0 else 4):=by rw [Hid,← HR.o,← HL.o];simp [B4]
  clear HCH
  cases l
  ·go_wp2
   go_ret
   exact ⟨Af (by rw [HE.o];rfl),HBW.o⟩
  ·go_wp2
   go_ret
   exact ⟨Af (by rw [HE.o];rfl),HBW.o⟩
 ·have HE:Hid (r=0):=by rw [Hid,← HR.o];simp [B4]
  clear HCH;go_wp2;go_ret;exact ⟨Af HE.o.symm,HBW.o⟩
theorem Lj {b:Nat} {ao:Option Addr} {cp:Nat} {zs:List Int} {a:Ac} {t:Int} {c:Cs} {es:List En} {v:Value} {w:World} (h:DS b ao cp zs a t c es v w) :
  Calls prog 319 #[.pointer (some ⟨b,0,none⟩)] w (DR b ao cp zs a t w (.int .i64 0) (J9 c) es):=by
 have c4:=h.db.cb.f4;have c11:=h.db.cb.f11;have c9:=h.db.cb.f9;have z4:=h.db.fz.z4;have z11:=h.db.fz.z11;have z9:=h.db.fz.z9
 simp only [Nat.zero_add] at c4 c11 c9 z4 z11 z9
 have HH:Hid (DS b ao cp zs a t c es v w):=h;clear h
 go_enter func319,ntmps319
 go_wp2;go_ret;exact ⟨rfl,⟨v,((HH.o.set4 2).set11 (-1)).set9 true⟩,((Bn _ _ 4 _).trans (Bn _ _ 11 _)).trans (Bn _ _ 9 _)⟩
theorem Pn {b:Nat} {ao:Option Addr} {cp:Nat} {zs:List Int} {a:Ac} {t:Int} {c:Cs} {es:List En} {v:Value} {w:World} (h:DS b ao cp zs a t c es v w) (k:Int) (hk:k=5∨k=7∨k=8) :
  Calls prog 324 #[.pointer (some ⟨b,0,none⟩),.int .i64 k] w (DR b ao cp zs a t w (.int .i64 0) ⟨c.iss,c.acq,c.cur,c.am,7,c.rsn,0,c.bk,c.fee,c.cop,c.sta,-1⟩ es):=by
 have c4:=h.db.cb.f4;have c6:=h.db.cb.f6;have c11:=h.db.cb.f11;have z4:=h.db.fz.z4;have z6:=h.db.fz.z6;have z11:=h.db.fz.z11
 simp only [Nat.zero_add] at c4 c6 c11 z4 z6 z11
 have HH:Hid (DS b ao cp zs a t c es v w):=h;clear h
 rcases hk with rfl | rfl | rfl
 iterate 3
  ·go_enter func324,ntmps324
   go_wp2;go_ret;exact ⟨rfl,⟨v,((HH.o.set6 0).set4 7).set11 (-1)⟩,((Bn _ _ 6 _).trans (Bn _ _ 4 _)).trans (Bn _ _ 11 _)⟩
theorem iT {b:Nat} {ao:Option Addr} {cp:Nat} {zs:List Int} {a:Ac} {t:Int} {c:Cs} {es:List En} {v:Value} {w:World} (h:DS b ao cp zs a t c es v w) :
  Calls prog 324 #[.pointer (some ⟨b,0,none⟩),.int .i64 9] w (DR b ao cp zs a t w (.int .i64 0) ⟨c.iss,c.acq,c.cur,c.am,7,c.rsn,c.cl,c.bk,c.fee,c.cop,c.sta,-1⟩ es):=by
 have c4:=h.db.cb.f4;have c11:=h.db.cb.f11;have z4:=h.db.fz.z4;have z11:=h.db.fz.z11
 simp only [Nat.zero_add] at c4 c11 z4 z11
 have HH:Hid (DS b ao cp zs a t c es v w):=h;clear h
 go_enter func324,ntmps324
 go_wp2;go_ret;exact ⟨rfl,⟨v,(HH.o.set4 7).set11 (-1)⟩,(Bn _ _ 4 _).trans (Bn _ _ 11 _)⟩
theorem iR {b:Nat} {ao:Option Addr} {cp:Nat} {zs:List Int} {a:Ac} {t:Int} {c:Cs} {es:List En} {v:Value} {w:World} (h:DS b ao cp zs a t c es v w) :
  Calls prog 297 #[.pointer (some ⟨b,0,none⟩)] w (DR b ao cp zs a t w (.int .i64 0) ⟨c.iss,c.acq,c.cur,c.am,7,c.rsn,c.cl,c.bk,c.fee,c.cop,c.sta,-1⟩ es):=by
 have HH:Hid (DS b ao cp zs a t c es v w):=h;clear h
 go_enter func297,ntmps297
 go_wp2_with fail
 refine (iT HH.o).mono ?_;rintro e w1 ⟨rfl,D1,b1⟩;go_wp2;go_ret;exact ⟨rfl,D1,b1⟩
theorem oI {b:Nat} {ao:Option Addr} {cp:Nat} {zs:List Int} {a:Ac} {t:Int} {c:Cs} {es:List En} {v:Value} {w:World} (h:DS b ao cp zs a t c es v w) (hn:zs.length≤1099511627776) :
  Calls prog 288 #[.pointer (some ⟨b,0,none⟩)] w (DR b ao cp zs a t w (.int .i64 0) ⟨c.iss,c.acq,c.cur,c.am,1,c.rsn,c.cl,c.bk,c.fee,c.cop,c.sta,C6 t 20 zs⟩ es):=by
 have c4:=h.db.cb.f4;have z4:=h.db.fz.z4
 simp only [Nat.zero_add] at c4 z4
 have HH:Hid (DS b ao cp zs a t c es v w):=h;clear h
 go_enter func288,ntmps288
 go_wp2_with fail
 refine (Is (HH.o.set4 1) hn 4 20 rfl).mono ?_;rintro e w1 ⟨rfl,D1,b1⟩;have HD:Hid _:=D1;have HB:Hid (Below b w w1):=(Bn _ _ 4 _).trans b1;clear D1 b1;go_wp2;go_ret;exact ⟨rfl,HD.o,HB.o⟩
theorem mH {b:Nat} {ao:Option Addr} {cp:Nat} {zs:List Int} {a:Ac} {t:Int} {c:Cs} {es:List En} {v:Value} {w:World} (h:DS b ao cp zs a t c es v w) :
  Calls prog 289 #[.pointer (some ⟨b,0,none⟩)] w (DR b ao cp zs a t w (.int .i64 (if Bv t c.due=true then 4 else 0)) (if Bv t c.due=true then c else J9 c) es):=by
 have HH:Hid (DS b ao cp zs a t c es v w):=h;have HL:Hid (b<w.heap.size):=h.lt
 have HQ:Hid (Calls prog 318 #[.pointer (some ⟨b,0,none⟩)] w fun e w'=>e=.returned (.bool (Bv t c.due))∧BW w w'):=Hn h
 clear h
 cases hl:Bv t c.due
 ·rw [hl] at HQ
  clear hl
  rw [if_neg (by decide),if_neg (by decide)]
  go_enter func289,ntmps289
  go_wp2_with fail
  refine Calls.mono HQ.o ?_;rintro e w1 ⟨rfl,b1⟩;have HB:Hid (BW w w1):=b1;clear b1;go_wp2_with fail
  refine (Lj (HH.o.below HB.o)).mono ?_;rintro e w2 ⟨rfl,D2,b2⟩;have HD:Hid _:=D2;have HB2:Hid (Below b w w2):=(HB.o.mono (Nat.le_of_lt HL.o)).trans b2;clear D2 b2;go_wp2;go_ret;exact ⟨rfl,HD.o,HB2.o⟩
 ·rw [hl] at HQ
  clear hl;rw [if_pos rfl,if_pos rfl]
  go_enter func289,ntmps289
  go_wp2_with fail
  refine Calls.mono HQ.o ?_;rintro e w1 ⟨rfl,b1⟩;have HB:Hid (BW w w1):=b1;clear b1;go_wp2;go_ret;exact ⟨rfl,⟨v,HH.o.below HB.o⟩,HB.o.mono (Nat.le_of_lt HL.o)⟩
theorem Yn {b:Nat} {ao:Option Addr} {cp:Nat} {zs:List Int} {a:Ac} {t:Int} {c:Cs} {es:List En} {v:Value} {w:World} (h:DS b ao cp zs a t c es v w) (hn:zs.length≤1099511627776) :
  Calls prog 294 #[.pointer (some ⟨b,0,none⟩)] w (DR b ao cp zs a t w (.int .i64 (if Bv t c.due=true then 4 else 0)) (if Bv t c.due=true then c else ⟨c.iss,c.acq,c.cur,c.am,6,c.rsn,c.cl,c.bk,c.fee,c.cop,c.sta,C6 t 60 zs⟩) es):=by
 have HH:Hid (DS b ao cp zs a t c es v w):=h;have HL:Hid (b<w.heap.size):=h.lt
 have HQ:Hid (Calls prog 318 #[.pointer (some ⟨b,0,none⟩)] w fun e w'=>e=.returned (.bool (Bv t c.due))∧BW w w'):=Hn h
 clear h
 cases hl:Bv t c.due
 ·rw [hl] at HQ
  clear hl
  rw [if_neg (by decide),if_neg (by decide)]
  go_enter func294,ntmps294
  go_wp2_with fail
  refine Calls.mono HQ.o ?_;rintro e w1 ⟨rfl,b1⟩;have HB:Hid (BW w w1):=b1;have h:=HH.o.below b1;have c4:=h.db.cb.f4;have z4:=h.db.fz.z4
  simp only [Nat.zero_add] at c4 z4
  have HH1:Hid (DS b ao cp zs a t c es v w1):=h;clear b1 h;go_wp2_with fail
  refine (Is (HH1.o.set4 6) hn 3 60 rfl).mono ?_;rintro e w2 ⟨rfl,D2,b2⟩;have HD:Hid _:=D2;have HB2:Hid (Below b w w2):=((HB.o.mono (Nat.le_of_lt HL.o)).trans (Bn _ _ 4 _)).trans b2;clear D2 b2;go_wp2;go_ret;exact ⟨rfl,HD.o,HB2.o⟩
 ·rw [hl] at HQ
  clear hl;rw [if_pos rfl,if_pos rfl]
  go_enter func294,ntmps294
  go_wp2_with fail
  refine Calls.mono HQ.o ?_;rintro e w1 ⟨rfl,b1⟩;have HB:Hid (BW w w1):=b1;clear b1;go_wp2;go_ret;exact ⟨rfl,⟨v,HH.o.below HB.o⟩,HB.o.mono (Nat.le_of_lt HL.o)⟩
theorem Le {c:Cs} {x:Int} (h:0≤x):H0 c [] c.acq c.iss x=Bg c x:=by
 unfold H0 Bg
 by_cases h0:x=0
 ·rw [if_pos h0,if_neg (by omega)]
 ·rw [if_neg h0,if_pos (by omega)];rfl
theorem aO {c:Cs} {x:Int} (h:0≤x):H0 c [] c.iss c.acq x=Dw c x:=by
 unfold H0 Dw
 by_cases h0:x=0
 ·rw [if_pos h0,if_neg (by omega)]
 ·rw [if_neg h0,if_pos (by omega)];rfl
theorem eT (c:Cs) (es:List En) (f g s:Int):(H0 c es f g s).length≤es.length+1:=by unfold H0;split <;> simp
theorem S2 {b:Nat} {ao:Option Addr} {cp:Nat} {zs:List Int} {a:Ac} {t:Int} {c:Cs} {es:List En} {v:Value} {w:World} (h:DS b ao cp zs a t c es v w) :
  Calls prog 322 #[.pointer (some ⟨b,0,none⟩)] w fun e w'=>e=.returned (.int .i64 (Dd c a t))∧BW w w':=by
 have HH:Hid (DS b ao cp zs a t c es v w):=h
 have HQ:Hid (Calls prog 318 #[.pointer (some ⟨b,0,none⟩)] w fun e w'=>e=.returned (.bool (Bv t c.due))∧BW w w'):=Hn h
 clear h
 cases hl:Bv t c.due
 ·rw [hl] at HQ
  have HV:Hid (Dd c a t=if 1≤a.am∧a.am≤c.cl then 0 else 2):=if_neg (by rw [hl];decide)
  clear hl
  go_enter func322,ntmps322
  go_wp2_with fail
  refine Calls.mono HQ.o ?_;rintro e w1 ⟨rfl,b1⟩;have HB:Hid (BW w w1):=b1;have h:=HH.o.below b1;have c13:=h.db.a1;have c6:=h.db.cb.f6
  simp only [Nat.zero_add] at c6
  clear b1 h;obtain ⟨x,hx⟩:∃ x,a.am=x:=⟨_,rfl⟩;obtain ⟨y,hy⟩:∃ y,c.cl=y:=⟨_,rfl⟩;rw [hx] at c13 HV;rw [hy] at c6 HV;clear hx hy
  by_cases h1:x<1
  ·have HE:Hid (Dd c a t=2):=by rw [Hid,HV.o,if_neg (by omega)]
   go_wp2
   go_quiet (fail)
   all_goals
    go_wp2;go_ret;exact ⟨Af HE.o.symm,below_drewN HB.o _⟩
  ·by_cases h2:y<x
   ·have HE:Hid (Dd c a t=2):=by rw [Hid,HV.o,if_neg (by omega)]
    go_wp2
    go_quiet (fail)
    all_goals
     go_wp2;go_ret;exact ⟨Af HE.o.symm,below_drewN HB.o _⟩
   ·have HE:Hid (Dd c a t=0):=by rw [Hid,HV.o,if_pos (by omega)]
    go_wp2
    go_quiet (fail)
    all_goals
     go_wp2;go_ret;exact ⟨Af HE.o.symm,below_drewN HB.o _⟩
 ·rw [hl] at HQ
  have HV:Hid (Dd c a t=4):=if_pos hl;clear hl
  go_enter func322,ntmps322
  go_wp2_with fail
  refine Calls.mono HQ.o ?_;rintro e w1 ⟨rfl,b1⟩;have HB:Hid (BW w w1):=b1;clear b1;go_wp2;go_ret;exact ⟨Af HV.o.symm,HB.o⟩
theorem Na {b:Nat} {ao:Option Addr} {cp:Nat} {zs:List Int} {a:Ac} {t:Int} {c:Cs} {es:List En} {v:Value} {w:World} (h:DS b ao cp zs a t c es v w) (hl:es.length≤100) (s:Int) (h0:0≤s∧s≤1000000000000) (hb:0≤c.bk∧c.bk≤1000000000000) :
  Calls prog 323 #[.pointer (some ⟨b,0,none⟩),.int .i64 s] w (DR b ao cp zs a t w (.tuple #[]) ⟨c.iss,c.acq,c.cur,c.am,c.st,c.rsn,c.cl,c.bk+s,c.fee,c.cop,c.sta,c.due⟩ (H0 c es c.acq c.iss s)):=by
 have HH:Hid (DS b ao cp zs a t c es v w):=h;have HL:Hid (b<w.heap.size):=h.lt
 have HM:Hid (∀ u,BW w u→Calls prog 321 #[.pointer (some ⟨b,0,none⟩),.int .i64 c.acq,.int .i64 c.iss,.int .i64 s] u (DR b ao cp zs a t u (.tuple #[]) c (H0 c es c.acq c.iss s))):=fun u hu=>J1 (h.below hu) hl c.acq c.iss s
 have c0:=h.db.cb.f0;have c1:=h.db.cb.f1
 simp only [Nat.zero_add] at c0 c1
 obtain ⟨x,hx⟩:∃ x,c.acq=x:=⟨_,rfl⟩;obtain ⟨y,hy⟩:∃ y,c.iss=y:=⟨_,rfl⟩;obtain ⟨M,hM⟩:∃ M,H0 c es c.acq c.iss s=M:=⟨_,rfl⟩;rw [hM] at HM ⊢;rw [hx] at c1;rw [hy] at c0;rw [hx,hy] at HM;clear h hx hy hM;have b0:BW w w:=bR
 go_enter func323,ntmps323
 go_wp2_with fail
 go_region_with (go_at_call 321;(first | with_reducible refine (HM.o _ b0).mono ?_ | with_reducible refine (HM.o _ b0.drew).mono ?_);rintro e w1 ⟨rfl,D1,b1⟩;(first | (have HB:Hid (Below b w w1):=(Below.refl b w).trans b1) | (have HB:Hid (Below b w w1):=((Below.refl b w).drew).trans b1));obtain ⟨v1,d1⟩:=D1;have HD:Hid _:=d1;have q7:=d1.db.cb.f7;have y7:=d1.db.fz.z7;simp only [Nat.zero_add] at q7 y7;clear d1 b1)
 all_goals
  obtain ⟨z,hz⟩:∃ z,c.bk=z:=⟨_,rfl⟩;rw [hz] at q7 hb
  have HZ:Hid (z+s=c.bk+s):=by rw [Hid,hz]
  clear hz;go_wp2;go_end0
  exact ⟨rfl,⟨v1,by rw [← HZ.o];exact HD.o.set7 (z+s)⟩,HB.o.trans (Bn _ _ 7 _)⟩
theorem Z2 {b:Nat} {ao:Option Addr} {cp:Nat} {zs:List Int} {a:Ac} {t:Int} {c:Cs} {v:Value} {w:World} (h:DS b ao cp zs a t c [] v w) (hn:zs.length≤1099511627776) :
  Calls prog 292 #[.pointer (some ⟨b,0,none⟩)] w (DR b ao cp zs a t w (.int .i64 (Dd c a t)) (if Dd c a t=0 then ⟨c.iss,c.acq,c.cur,c.am,5,c.rsn,a.am,c.bk,c.fee,c.cop,c.sta,C6 t 15 zs⟩ else c) []):=by
 have HH:Hid (DS b ao cp zs a t c [] v w):=h;have HL:Hid (b<w.heap.size):=h.lt
 have HQ:Hid (Calls prog 322 #[.pointer (some ⟨b,0,none⟩)] w fun e w'=>e=.returned (.int .i64 (Dd c a t))∧BW w w'):=S2 h
 clear h;obtain ⟨r,hr⟩:∃ r,Dd c a t=r:=⟨_,rfl⟩;rw [hr] at HQ ⊢;clear hr
 by_cases h0:r=0
 ·subst h0
  rw [if_pos rfl]
  go_enter func292,ntmps292
  go_wp2_with fail
  refine Calls.mono HQ.o ?_;rintro e w1 ⟨rfl,b1⟩;have HB:Hid (BW w w1):=b1;have h:=HH.o.below b1;have c13:=h.db.a1;have c4:=h.db.cb.f4;have c6:=h.db.cb.f6;have z4:=h.db.fz.z4;have z6:=h.db.fz.z6
  simp only [Nat.zero_add] at c4 c6 z4 z6
  have HH1:Hid (DS b ao cp zs a t c [] v w1):=h;clear b1 h;go_wp2_with fail
  refine (Is ((HH1.o.set4 5).set6 a.am) hn 2 15 rfl).mono ?_;rintro e w2 ⟨rfl,D2,b2⟩;have HD:Hid _:=D2;have HB2:Hid (Below b w w2):=(((HB.o.mono (Nat.le_of_lt HL.o)).trans (Bn _ _ 4 _)).trans (Bn _ _ 6 _)).trans b2;clear D2 b2;go_wp2;go_ret;exact ⟨rfl,HD.o,HB2.o⟩
 ·rw [if_neg h0]
  have h0':(r != 0)=true:=by simpa using h0
  clear h0
  go_enter func292,ntmps292
  go_wp2_with fail
  refine Calls.mono HQ.o ?_;rintro e w1 ⟨rfl,b1⟩;have HB:Hid (BW w w1):=b1;clear b1;go_wp2;go_ret;exact ⟨rfl,⟨v,HH.o.below HB.o⟩,HB.o.mono (Nat.le_of_lt HL.o)⟩
theorem Rl {b:Nat} {ao:Option Addr} {cp:Nat} {zs:List Int} {a:Ac} {t:Int} {c:Cs} {v:Value} {w:World} (h:DS b ao cp zs a t c [] v w) (hb:0≤c.bk∧c.bk≤1000000000000) (hc:0≤c.cl∧c.cl≤1000000000000) :
  Calls prog 293 #[.pointer (some ⟨b,0,none⟩)] w (DR b ao cp zs a t w (.int .i64 0) (I5 c c.cl) (Bg c c.cl)):=by
 have HH:Hid (DS b ao cp zs a t c [] v w):=h
 have HG:Hid (Calls prog 323 #[.pointer (some ⟨b,0,none⟩),.int .i64 c.cl] w (DR b ao cp zs a t w (.tuple #[]) ⟨c.iss,c.acq,c.cur,c.am,c.st,c.rsn,c.cl,c.bk+c.cl,c.fee,c.cop,c.sta,c.due⟩ (Bg c c.cl))):=by
  have g:=Na h (Nat.zero_le _) c.cl hc hb;rw [Le hc.1] at g;exact g
 have c6:=h.db.cb.f6
 simp only [Nat.zero_add] at c6
 clear h
 go_enter func293,ntmps293
 go_wp2_with fail
 refine Calls.mono HG.o ?_;rintro e w1 ⟨rfl,⟨v1,D1⟩,b1⟩;have HD:Hid (DS b ao cp zs a t ⟨c.iss,c.acq,c.cur,c.am,c.st,c.rsn,c.cl,c.bk+c.cl,c.fee,c.cop,c.sta,c.due⟩ (Bg c c.cl) v1 w1):=D1;have HB:Hid (Below b w w1):=b1;clear D1 b1;go_wp2_with fail
 refine (Pn HD.o 5 (.inl rfl)).mono ?_;rintro e w2 ⟨rfl,D2,b2⟩;have HD2:Hid _:=D2;have HB2:Hid (Below b w w2):=HB.o.trans b2;clear D2 b2;go_wp2;go_ret;exact ⟨rfl,HD2.o,HB2.o⟩
theorem O6 {b:Nat} {ao:Option Addr} {cp:Nat} {zs:List Int} {a:Ac} {t:Int} {c:Cs} {v:Value} {w:World} (h:DS b ao cp zs a t c [] v w) (s:Int) (hs:0≤s∧s≤1000000000000) (hb:0≤c.bk∧c.bk≤1000000000000) (hf:0≤c.fee∧c.fee≤1000000) :
  Calls prog 325 #[.pointer (some ⟨b,0,none⟩),.int .i64 s] w (DR b ao cp zs a t w (.int .i64 0) (Es c s) (Dg c s)):=by
 have HH:Hid (DS b ao cp zs a t c [] v w):=h;have HL:Hid (b<w.heap.size):=h.lt
 have HG:Hid (Calls prog 323 #[.pointer (some ⟨b,0,none⟩),.int .i64 s] w (DR b ao cp zs a t w (.tuple #[]) ⟨c.iss,c.acq,c.cur,c.am,c.st,c.rsn,c.cl,c.bk+s,c.fee,c.cop,c.sta,c.due⟩ (Bg c s))):=by
  have g:=Na h (Nat.zero_le _) s hs hb;rw [Le hs.1] at g;exact g
 have HT:Hid ((Bg c s).length≤100):=by rw [Hid,← Le hs.1];have:=eT c [] c.acq c.iss s;simp only [List.length_nil] at this;omega
 have c0:=h.db.cb.f0;have c1:=h.db.cb.f1;have c6:=h.db.cb.f6
 simp only [Nat.zero_add] at c0 c1 c6
 obtain ⟨y,hy⟩:∃ y,c.cl=y:=⟨_,rfl⟩;have HY:Hid _:=hy;rw [hy] at c6;obtain ⟨lo,hlo⟩:∃ lo,Oo c s=lo:=⟨_,rfl⟩;have HLO:Hid _:=hlo
 have HE:Hid (Dg c s=Bg c s++[(lo,9999,c.cur,50000)]):=by rw [Hid,Dg,hlo]
 obtain ⟨fe,hfe⟩:∃ fe,c.fee=fe:=⟨_,rfl⟩;have HFE:Hid _:=hfe;rw [hfe] at hf;clear h hy hlo hfe hb
 by_cases hc:y≤2*s
 ·have HA:Hid (lo=c.acq):=by rw [Hid,← HLO.o,Oo,HY.o,if_pos hc]
  go_enter func325,ntmps325
  go_wp2_with fail
  refine Calls.mono HG.o ?_;rintro e w1 ⟨rfl,⟨v1,D1⟩,b1⟩;have HD:Hid (DS b ao cp zs a t ⟨c.iss,c.acq,c.cur,c.am,c.st,c.rsn,c.cl,c.bk+s,c.fee,c.cop,c.sta,c.due⟩ (Bg c s) v1 w1):=D1;have HB:Hid (Below b w w1):=b1;clear D1 b1;go_wp2_with fail
  refine (J1 HD.o HT.o _ 9999 50000).mono ?_;rintro e w2 ⟨rfl,⟨v2,D2⟩,b2⟩;have HB2:Hid (Below b w w2):=HB.o.trans b2;have c8:=D2.db.cb.f8;have z8:=D2.db.fz.z8
  simp only [Nat.zero_add] at c8 z8
  rw [HFE.o] at c8;have HD2:Hid _:=D2;clear D2 b2;go_wp2_with fail
  refine (Pn (HD2.o.set8 (fe+50000)) 7 (.inr (.inl rfl))).mono ?_;rintro e w3 ⟨rfl,⟨v3,D3⟩,b3⟩;have HD3:Hid _:=D3;have HB3:Hid (Below b w w3):=(HB2.o.trans (Bn _ _ 8 _)).trans b3;clear D3 b3;go_wp2;go_ret;refine ⟨rfl,⟨v3,?_⟩,HB3.o⟩;rw [HE.o,HA.o,Es,HFE.o];exact HD3.o
 ·have HA:Hid (lo=c.iss):=by rw [Hid,← HLO.o,Oo,HY.o,if_neg hc]
  go_enter func325,ntmps325
  go_wp2_with fail
  refine Calls.mono HG.o ?_;rintro e w1 ⟨rfl,⟨v1,D1⟩,b1⟩;have HD:Hid (DS b ao cp zs a t ⟨c.iss,c.acq,c.cur,c.am,c.st,c.rsn,c.cl,c.bk+s,c.fee,c.cop,c.sta,c.due⟩ (Bg c s) v1 w1):=D1;have HB:Hid (Below b w w1):=b1;clear D1 b1;go_wp2_with fail
  refine (J1 HD.o HT.o _ 9999 50000).mono ?_;rintro e w2 ⟨rfl,⟨v2,D2⟩,b2⟩;have HB2:Hid (Below b w w2):=HB.o.trans b2;have c8:=D2.db.cb.f8;have z8:=D2.db.fz.z8
  simp only [Nat.zero_add] at c8 z8
  rw [HFE.o] at c8;have HD2:Hid _:=D2;clear D2 b2;go_wp2_with fail
  refine (Pn (HD2.o.set8 (fe+50000)) 7 (.inr (.inl rfl))).mono ?_;rintro e w3 ⟨rfl,⟨v3,D3⟩,b3⟩;have HD3:Hid _:=D3;have HB3:Hid (Below b w w3):=(HB2.o.trans (Bn _ _ 8 _)).trans b3;clear D3 b3;go_wp2;go_ret;refine ⟨rfl,⟨v3,?_⟩,HB3.o⟩;rw [HE.o,HA.o,Es,HFE.o];exact HD3.o
theorem mB {b:Nat} {ao:Option Addr} {cp:Nat} {zs:List Int} {a:Ac} {t:Int} {c:Cs} {v:Value} {w:World} (h:DS b ao cp zs a t c [] v w) (hb:0≤c.bk∧c.bk≤1000000000000) (hc:0≤c.cl∧c.cl≤1000000000000) (hf:0≤c.fee∧c.fee≤1000000) :
  Calls prog 295 #[.pointer (some ⟨b,0,none⟩)] w (DR b ao cp zs a t w (.int .i64 (if 0≤a.am∧a.am≤c.cl then 0 else 2)) (if 0≤a.am∧a.am≤c.cl then Es c a.am else c) (if 0≤a.am∧a.am≤c.cl then Dg c a.am else [])):=by
 have HH:Hid (DS b ao cp zs a t c [] v w):=h;have HL:Hid (b<w.heap.size):=h.lt;have c13:=h.db.a1;have c6:=h.db.cb.f6
 simp only [Nat.zero_add] at c6
 have HG:Hid (0≤a.am∧a.am≤c.cl→∀ u,BW w u→Calls prog 325 #[.pointer (some ⟨b,0,none⟩),.int .i64 a.am] u (DR b ao cp zs a t u (.int .i64 0) (Es c a.am) (Dg c a.am))):=fun hx u hu=>O6 (h.below hu) a.am ⟨hx.1,by omega⟩ hb hf
 clear h hb hf
 by_cases hx:0≤a.am∧a.am≤c.cl
 ·rw [if_pos hx,if_pos hx,if_pos hx]
  have HG':Hid (∀ u,BW w u→Calls prog 325 #[.pointer (some ⟨b,0,none⟩),.int .i64 a.am] u (DR b ao cp zs a t u (.int .i64 0) (Es c a.am) (Dg c a.am))):=HG.o hx;obtain ⟨x,hxx⟩:∃ x,a.am=x:=⟨_,rfl⟩;obtain ⟨y,hyy⟩:∃ y,c.cl=y:=⟨_,rfl⟩;obtain ⟨C,hC⟩:∃ C,Es c a.am=C:=⟨_,rfl⟩;obtain ⟨E,hE⟩:∃ E,Dg c a.am=E:=⟨_,rfl⟩;rw [hC,hE] at HG' ⊢;rw [hxx] at c13 hx HG';rw [hyy] at c6 hx;obtain ⟨h1,h2⟩:=hx;clear hxx hyy hC hE HG hc;have b0:BW w w:=bR
  go_enter func295,ntmps295
  go_wp2
  go_quiet (fail)
  all_goals
   go_wp2_with fail
   refine (HG'.o _ (below_drewN b0 _)).mono ?_;rintro e w1 ⟨rfl,D1,b1⟩;have HD1:Hid _:=D1;have HB1:Hid (Below b w w1):=(below_drewN (Below.refl b w) _).trans b1;clear D1 b1;go_wp2;go_ret;exact ⟨rfl,HD1.o,HB1.o⟩
 ·rw [if_neg hx,if_neg hx,if_neg hx]
  obtain ⟨x,hxx⟩:∃ x,a.am=x:=⟨_,rfl⟩;obtain ⟨y,hyy⟩:∃ y,c.cl=y:=⟨_,rfl⟩;rw [hxx] at c13 hx;rw [hyy] at c6 hx;clear hxx hyy HG hc
  by_cases h1:x<0
  ·clear hx
   go_enter func295,ntmps295
   go_wp2
   go_quiet (fail)
   all_goals
    go_wp2;go_ret;exact ⟨rfl,⟨v,HH.o.below (below_drewN bR _)⟩,below_drewN bR _⟩
  ·have h2:y<x:=by omega
   clear hx
   go_enter func295,ntmps295
   go_wp2
   go_quiet (fail)
   all_goals
    go_wp2;go_ret;exact ⟨rfl,⟨v,HH.o.below (below_drewN bR _)⟩,below_drewN bR _⟩
theorem fV (F:Ff) (K:Nc F) {Pre:Bk→Prop} (hsm:∀ b,Pre b→D0 b) {Pay:Bk→Int→Int→Int→Int→Bk×Int→Prop} {Act:Bk→Int→Ac→Bk×Int} (ST:Tp Pre Pay Act) (b:Bk) (p:Bp) (line:List UInt8) (w:World) (hx:Aq w b p) (hah:Vb p w.heap.size) (hp:Pre b) (hl:line.length≤1048575) :
  Calls prog 84 #[C5 b p,.string ⟨line.toArray⟩] w fun e w'=>∃ r,Db F Pay Act b line r∧U8 w p r.1 r.2 e w':=by
 cases h1:Ca (Ab line)
 case true=>exact Xw F K hsm ST b p line w hx hah hp hl h1
 case false =>
  cases h2:Bq (Ab line)
  case true=>exact Zd F K hsm ST b p line w hx hah hp hl ⟨h1,h2⟩
  case false =>
   cases h3:Da (Ab line)
   case true=>exact Zy F K hsm ST b p line w hx hah hp hl ⟨h1,h2,h3⟩
   case false=>exact Zh F K hsm ST b p line w hx hah hp hl ⟨h1,h2,h3⟩
structure AB (h:Nat) (a:Ac) (u:World):Prop where
 c0:u.cell? ⟨h,0,none⟩=some (.int .i64 a.kind)
 c1:u.cell? ⟨h,1,none⟩=some (.int .i64 a.am)
 c2:u.cell? ⟨h,2,none⟩=some (.int .i64 a.rsn)
 z0:u.frozen? ⟨h,0,none⟩=false
 z1:u.frozen? ⟨h,1,none⟩=false
 z2:u.frozen? ⟨h,2,none⟩=false
theorem AB.lt {h:Nat} {a:Ac} {u:World} (x:AB h a u):h<u.heap.size:=World.block_lt_of_cell? u _ x.c0
theorem AB.grown {h:Nat} {a:Ac} {u u':World} {row:Option Nat} (x:AB h a u) (g:u.grownBy u' row) (hr:some h≠row):AB h a u':=by
 have l:=x.lt;exact ⟨(g.cell_far ⟨h,0,none⟩ l hr).trans x.c0,(g.cell_far ⟨h,1,none⟩ l hr).trans x.c1,(g.cell_far ⟨h,2,none⟩ l hr).trans x.c2,(g.frozen_far ⟨h,0,none⟩ l hr).trans x.z0,(g.frozen_far ⟨h,1,none⟩ l hr).trans x.z1,(g.frozen_far ⟨h,2,none⟩ l hr).trans x.z2⟩
theorem AB.new (w:World) (a:Ac) (t:TypeId):AB w.heap.size a (w.alloc (.cells #[.int .i64 a.kind,.int .i64 a.am,.int .i64 a.rsn] t)) :=
 ⟨by simp,by simp,by simp,by simp [go_sem],by simp [go_sem],by simp [go_sem]⟩
theorem AB.set0 {h:Nat} {a:Ac} {u:World} (q:AB h a u) (x:Int):AB h ⟨x,a.am,a.rsn⟩ (u.setCell ⟨h,0,none⟩ (.int .i64 x)):=by
 obtain ⟨c0,c1,c2,z0,z1,z2⟩:=q
 constructor<;>simp [go_sem, *]
theorem AB.set1 {h:Nat} {a:Ac} {u:World} (q:AB h a u) (x:Int):AB h ⟨a.kind,x,a.rsn⟩ (u.setCell ⟨h,1,none⟩ (.int .i64 x)):=by
 obtain ⟨c0,c1,c2,z0,z1,z2⟩:=q
 constructor<;>simp [go_sem, *]
theorem AB.set2 {h:Nat} {a:Ac} {u:World} (q:AB h a u) (x:Int):AB h ⟨a.kind,a.am,x⟩ (u.setCell ⟨h,2,none⟩ (.int .i64 x)):=by
 obtain ⟨c0,c1,c2,z0,z1,z2⟩:=q
 constructor<;>simp [go_sem, *]
structure AS (B g:Nat) (w:World) (k:Cs) (h:Nat) (a:Ac) (u:World):Prop where
 cb:CB w.heap.size 0 k u
 rb:AB (w.heap.size+1) ⟨0,0,0⟩ u
 ab:AB h a u
 cur:A2 B u g
 gr:w.grownBy u (some g)
 gl:g<w.heap.size
 hl:w.heap.size+1<h
 bl:B≤w.heap.size
theorem AS.call {B g:Nat} {w:World} {k:Cs} {h:Nat} {a:Ac} {u u':World} (q:AS B g w k h a u) (c:A2 B u' g) (r:u.grownBy u' (some g)):AS B g w k h a u' :=
 ⟨q.cb.grown r (by have:=q.gl;simp;omega),q.rb.grown r (by have:=q.gl;simp;omega),q.ab.grown r (by have:=q.gl;have:=q.hl;simp;omega),c,q.gr.trans r,q.gl,q.hl,q.bl⟩
theorem AS.alloc {B g:Nat} {w:World} {k:Cs} {h:Nat} {a:Ac} {u:World} (q:AS B g w k h a u) (o:Obj):AS B g w k h a (u.alloc o) :=
 q.call (A3 q.cur o) (World.grownBy_alloc u o _)
theorem AS.at {B g:Nat} {w:World} {k:Cs} {h:Nat} {a a':Ac} {u:World} (q:AS B g w k h a u) (i:Nat) (x:Value) (e:AB h a' (u.setCell ⟨h,i,none⟩ x)):AS B g w k h a' (u.setCell ⟨h,i,none⟩ x):=by
 have l:=q.hl;have gl:=q.gl;have b:Below h u (u.setCell ⟨h,i,none⟩ x):=Bn u h i x
 refine ⟨q.cb.under b (by omega),?_,e,B9 q.cur (b.mono (by have:=q.bl;omega)),⟨b.os.trans q.gr.os,b.tape.trans q.gr.tape,b.output.trans q.gr.output,Nat.le_trans q.gr.size b.size,fun j hj hne=>(b.block j (by omega)).trans (q.gr.block j hj hne)⟩,gl,l,q.bl⟩
 ·obtain ⟨c0,c1,c2,z0,z1,z2⟩:=q.rb
  exact ⟨(b.cell (p:=⟨w.heap.size+1,0,none⟩) l).trans c0,(b.cell (p:=⟨w.heap.size+1,1,none⟩) l).trans c1,(b.cell (p:=⟨w.heap.size+1,2,none⟩) l).trans c2,(b.frozen (p:=⟨w.heap.size+1,0,none⟩) l).trans z0,(b.frozen (p:=⟨w.heap.size+1,1,none⟩) l).trans z1,(b.frozen (p:=⟨w.heap.size+1,2,none⟩) l).trans z2⟩
structure AZ (B g:Nat) (w:World) (k:Cs) (u:World) (ob ol:Option Nat):Prop where
 cb:CB w.heap.size 0 k u
 rb:AB (w.heap.size+1) ⟨0,0,0⟩ u
 cur:A2 B u g
 gr:w.grownBy u (some g)
 gl:g<w.heap.size
 bl:B≤w.heap.size
 box:∀ h,ob=some h→w.heap.size+1<h∧AB h ⟨0,0,0⟩ u
 ls:∀ b,ol=some b→w.heap.size+1<b∧∀ i,i<6→u.cell? ⟨b,i,none⟩=some (.int .i64 (rL.getD i 0))
theorem AZ.call {B g:Nat} {w:World} {k:Cs} {u u':World} {ob ol:Option Nat} (q:AZ B g w k u ob ol) (c:A2 B u' g) (r:u.grownBy u' (some g)):AZ B g w k u' ob ol:=by
 have gl:=q.gl
 refine ⟨q.cb.grown r (by simp;omega),q.rb.grown r (by simp;omega),c,q.gr.trans r,gl,q.bl,fun h hh=>?_,fun b hb=>?_⟩
 ·obtain ⟨h1,h2⟩:=q.box h hh
  exact ⟨h1,h2.grown r (by simp;omega)⟩
 ·obtain ⟨h1,h2⟩:=q.ls b hb
  exact ⟨h1,fun i hi=>(r.cell_far ⟨b,i,none⟩ (World.block_lt_of_cell? u _ (h2 i hi)) (by simp;omega)).trans (h2 i hi)⟩
theorem AZ.drew {B g:Nat} {w:World} {k:Cs} {u:World} {ob ol:Option Nat} (q:AZ B g w k u ob ol):AZ B g w k u.drew ob ol:=q.call (A4 q.cur (bR.drew)) ⟨rfl,rfl,rfl,nL,fun _ _ _=>rfl⟩
theorem AZ.al {B g:Nat} {w:World} {k:Cs} {u:World} {ol:Option Nat} (q:AZ B g w k u none ol) (t:TypeId):AZ B g w k (u.alloc (.cells #[.int .i64 0,.int .i64 0,.int .i64 0] t)) (some u.heap.size) ol:=by
 have p:=q.call (A3 q.cur (.cells #[.int .i64 0,.int .i64 0,.int .i64 0] t)) (World.grownBy_alloc u _ _)
 refine ⟨p.cb,p.rb,p.cur,p.gr,p.gl,p.bl,fun h hh=>?_,p.ls⟩
 injection hh with hh
 subst hh;exact ⟨q.rb.lt,AB.new u ⟨0,0,0⟩ t⟩
theorem AZ.lit {B g:Nat} {w:World} {k:Cs} {u:World} {ob:Option Nat} (q:AZ B g w k u ob none) (t:TypeId):AZ B g w k (u.alloc (.cells #[.int .i64 4837,.int .i64 4855,.int .i64 4834,.int .i64 4831,.int .i64 4853,.int .i64 4841] t)) ob (some u.heap.size):=by
 have p:=q.call (A3 q.cur (.cells #[.int .i64 4837,.int .i64 4855,.int .i64 4834,.int .i64 4831,.int .i64 4853,.int .i64 4841] t)) (World.grownBy_alloc u _ _)
 refine ⟨p.cb,p.rb,p.cur,p.gr,p.gl,p.bl,p.box,fun b hb=>?_⟩
 injection hb with hb
 subst hb
 refine ⟨q.rb.lt,fun i hi=>?_⟩
 rcases (show i=0∨i=1∨i=2∨i=3∨i=4∨i=5 by omega) with rfl | rfl | rfl | rfl | rfl | rfl <;> simp [rL]
theorem L1 {B g:Nat} {w:World} {k:Cs} {u:World} {ob ol:Option Nat} (z:AZ B g w k u ob ol) (n:Int) (hn:n≤1099511627776) :
  Calls prog 79 #[.pointer (some ⟨g,0,none⟩),.int .i64 n] u fun e u'=>∃ x:Int,e=.returned (.int .i64 x)∧0≤x∧(1≤n→x<n)∧AZ B g w k u' ob ol :=
 (G4 g n u z.cur hn).mono fun _ _ ⟨x,he,h0,h1,hc,hg⟩=>⟨x,he,h0,h1,z.call hc hg⟩
theorem Aan {B g:Nat} {w:World} {k:Cs} {u:World} {ob:Option Nat} {b:Nat} (z:AZ B g w k u ob (some b)) :
  Calls prog 131 #[.pointer (some ⟨g,0,none⟩),.slice (some ⟨b,0,none⟩) 6 6] u fun e u'=>∃ x:Int,e=.returned (.int .i64 x)∧x ∈ rL∧AZ B g w k u' ob (some b):=by
 obtain ⟨h1,h2⟩:=z.ls b rfl
 exact (R2 g b 6 rL u z.cur (by have:=z.gl;omega) (fun i hi=>h2 i (by simpa [rL] using hi)) (by decide) (by decide)).mono fun _ _ ⟨x,he,hx,hc,hg⟩=>⟨x,he,hx,z.call hc hg⟩
theorem AZ.now3 {B g:Nat} {w:World} {k:Cs} {u:World} {ob ol:Option Nat} (z:AZ B g w k u ob ol):u.cell? ⟨w.heap.size,3,none⟩=some (.int .i64 k.am):=by have:=z.cb.f3;simpa using this
theorem AS.new {B g:Nat} {w:World} {k:Cs} {u:World} {ol:Option Nat} (z:AZ B g w k u none ol) (a:Ac) (t:TypeId):AS B g w k u.heap.size a (u.alloc (.cells #[.int .i64 a.kind,.int .i64 a.am,.int .i64 a.rsn] t)):=by
 have p:=z.call (A3 z.cur (.cells #[.int .i64 a.kind,.int .i64 a.am,.int .i64 a.rsn] t)) (World.grownBy_alloc u _ _);exact ⟨p.cb,p.rb,AB.new u a t,p.cur,p.gr,p.gl,z.rb.lt,p.bl⟩
theorem AS.of {B g:Nat} {w:World} {k:Cs} {u:World} {h:Nat} {ol:Option Nat} (z:AZ B g w k u (some h) ol) (a:Ac):AS B g w k h a (((u.setCell ⟨h,0,none⟩ (.int .i64 a.kind)).setCell ⟨h,1,none⟩ (.int .i64 a.am)).setCell ⟨h,2,none⟩ (.int .i64 a.rsn)):=by
 obtain ⟨h1,h2⟩:=z.box h rfl;have q:AS B g w k h ⟨0,0,0⟩ u:=⟨z.cb,z.rb,h2,z.cur,z.gr,z.gl,h1,z.bl⟩;have q0:=q.at 0 _ (q.ab.set0 a.kind);have q1:=q0.at 1 _ (q0.ab.set1 a.am);exact q1.at 2 _ (q1.ab.set2 a.rsn)
end Go.Proofs.YtomiclakhjncbaaGreatDoor
