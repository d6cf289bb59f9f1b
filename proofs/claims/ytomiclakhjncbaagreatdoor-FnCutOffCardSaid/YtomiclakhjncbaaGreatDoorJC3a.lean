import Derived.Test.YtomiclakhjncbaaGreatDoorKCKbPay
import Derived.Test.YtomiclakhjncbaaGreatDoorKCCStart
import Derived.Test.YtomiclakhjncbaaGreatDoorKCHpDown
import Derived.Laws.EntriesVeiled
import Derived.Test.YtomiclakhjncbaaGreatDoorKCBkLiD
import Derived.Test.YtomiclakhjncbaaGreatDoorKCBkLiA
import Derived.Test.YtomiclakhjncbaaGreatDoorKCBkLiP
import Derived.Test.YtomiclakhjncbaaGreatDoorKCBkLiX
set_option maxRecDepth 100000
set_option maxHeartbeats 12800000
namespace Go.Proofs.YtomiclakhjncbaaGreatDoor.Kb
open Go.RowKit Go.Proofs.Tryz
theorem Om (u:World) (g k:Nat) (D:Cs):u.grownBy (Gs u g k D) (some g):=by
 unfold Gs;exact ((((((((((((An _ g (k*12) _).trans (An _ g (k*12+1) _)).trans (An _ g (k*12+2) _)).trans (An _ g (k*12+3) _)).trans (An _ g (k*12+4) _)).trans (An _ g (k*12+5) _)).trans (An _ g (k*12+6) _)).trans (An _ g (k*12+7) _)).trans (An _ g (k*12+8) _)).trans (An _ g (k*12+9) _)).trans (An _ g (k*12+10) _)).trans (An _ g (k*12+11) _))
theorem KS.putC {B K:Nat} {st:Int} {b:Bk} {q:Bp} {u:World} (h:KS B K st b q u) {g:Nat} (hg:q.c=some ⟨g,0,none⟩) {k:Nat} (hk:k<b.cs.length) (D:Cs) :
  KS B K st ⟨b.today,b.off,b.az,b.cs.set k D,b.ls,b.log⟩ q (Gs u g k D):=by
 have gr:u.grownBy (Gs u g k D) (Value.slice q.c b.cs.length q.cc).ownBlock:=by
  rw [hg];exact Om u g k D
 have nK:=D8 h.cs h.kt (by decide)
 have hc:=h.cs;rw [hg] at hc;have r:=Od D hk hc;have z:=h.z.grown gr nK
 refine ⟨?_,h.kt.grown gr nK,h.off.kept gr (Bj h.off h.cs (by decide)),h.az.kept gr (Bj h.az h.cs (by decide)),?_,h.ls.kept gr (Bj h.ls h.cs (by decide)),h.log.kept gr (Bj h.log h.cs (by decide)),h.hK⟩
 ·simp only [List.length_set];exact z
 ·simp only [List.length_set];rw [hg];exact r
def Hx (F:Ff) (b:Bk) (rs:Be):Bk×Int :=
 if rs.length=4∧0≤Bz (Al rs 1)∧Ap [Al rs 0,Al rs 2,Al rs 3]=true then Ja F b (Ae (Al rs 0)) ⟨Bz (Al rs 1),Ae (Al rs 2),Ae (Al rs 3)⟩ else (b,1)
def kM (F:Ff) (E:World→Prop) (B K:Nat):Prop:=∀ (b:Bk) (q:Bp) (ao:Option Addr) (cap:Nat) (rs:Be) (w:World),KS B K 1 b q w→E w→Ej b→Bh w ao rs→(∀ r ∈ rs,r.length≤1048576) →
  Calls prog 175 #[.pointer (some ⟨K,0,none⟩),.slice ao rs.length cap] w (Wz E B K w (Hx F b rs))
def D6 (F:Ff) (b:Bk) (ws:Be) (r:Bk×Int):Prop :=
 if Al ws 0=Eo then r=N8 F b (ws.drop 1) else if Al ws 0=Dy then r=Gt F b (ws.drop 1) else if Al ws 0=I7 then Fh F b (ws.drop 1) r else if Al ws 0=Nz then r=Hx F b (ws.drop 1) else r=(b,1)
def ObR (E:World→Prop) (B K:Nat) (F:Ff) (b:Bk) (ws:Be) (w:World) (e:Ending) (w':World):Prop:=∃ r,D6 F b ws r∧Wz E B K w r e w'
theorem eU {w:World} {ao:Option Addr} {r:List UInt8} {rs:Be} (h:Bh w ao (r::rs)):∃ g off,ao=some ⟨g,off,none⟩∧w.cell? ⟨g,off,none⟩=some (.string ⟨r.toArray⟩)∧Bh w (some ⟨g,off+1,none⟩) rs:=by
 rcases h with h | ⟨g,off,h1,h2,h3⟩
 ·cases h
 ·refine ⟨g,off,h1,h3 0 (by simp),.inr ⟨g,off+1,rfl,h2,fun i hi=>?_⟩⟩
  have:=h3 (i+1) (by simp;omega)
  rw [show off+1+i=off+(i+1) from by omega]
  exact this
theorem aG:prog.elem 23=9:=by simp [Program.elem,underlying23]
theorem cU:prog.underlying 23=some (.slice (prog.elem 23)):=by rw [aG];exact underlying23
theorem kX (w:World):(sizeOf 9).run prog w=.ok 1 w:=by
 obtain ⟨i0,hi,hz0,hz1,hz2⟩:=info_parts S1
 simp [sizeOf,typeInfo,hi,hz1]
theorem Zt {g off n c:Nat} (hn:n≤c):∃ aS:Option Addr,(n=0∨aS=some ⟨g,off+1,none⟩) ∧
  ∀ W:World,(Instr.slice 23 (.slice (some ⟨g,off,none⟩) (n+1) (c+1)) (some (.int .i64 1)) none none).run prog W=.ok (.slice aS n c) W:=by
 by_cases h0:c=0
 ·refine ⟨some ⟨g,off,none⟩,.inl (by omega),fun W=>?_⟩
  rw [run_slice_l W _ _ _ _ cU .i64 _ (by omega) (by omega),aG,kX]
  simp [Result.andThen,sliced,h0]
  try omega
 ·refine ⟨some ⟨g,off+1,none⟩,.inr rfl,fun W=>?_⟩
  rw [run_slice_l W _ _ _ _ cU .i64 _ (by omega) (by omega),aG,kX]
  simp [Result.andThen,sliced,h0,Addr.add]
  try omega
theorem Xe {E:World→Prop} {B K:Nat} {F:Ff} {b:Bk} {ws:Be} {w w':World} {e:Ending} {r:Bk×Int} (h:D6 F b ws r) (hs:Wz E B K w r e w'):ObR E B K F b ws w e w':=⟨r,h,hs⟩
theorem gG {F:Ff} {E:World→Prop} {G B K:Nat} (KI:Rq F E G) (hGB:G≤B) (HA:kM F E B K) (b:Bk) (q:Bp) (ao:Option Addr) (c:Nat) (r0:List UInt8) (rs:Be) (w:World) (hk:KS B K 1 b q w) (hE:E w) (hP:Ej b) (hz:Bh w ao (r0::rs)) (hn:rs.length≤1048576) (hcap:rs.length≤c) (hcm:c≤1048576) (hd:∀ r ∈ rs,r.length≤1048576) :
  Calls prog 137 #[.pointer (some ⟨K,0,none⟩),.slice ao (rs.length+1) (c+1)] w (ObR E B K F b (r0::rs) w):=by
 obtain ⟨g,off,rfl,t0,ht0⟩:=eU hz;obtain ⟨aS,haS,hsl⟩:=Zt (g:=g) (off:=off) hcap
 have ht:Bh w aS rs:=by
  rcases haS with h | h
  ·exact .inl (List.eq_nil_of_length_eq_zero h)
  ·rw [h];exact ht0
 obtain ⟨et,ea,hee⟩:=KI.eLine w hE
 have HYY:Hid (NF E (.iface et (.pointer (some ea)))):=⟨w,3,hE,by decide,hee⟩
 have HDY:Hid (Calls prog 172 #[.pointer (some ⟨K,0,none⟩),.slice aS rs.length c] w (Wz E B K w (N8 F b rs))):=lF KI b q _ c rs w hk hE hP ht hn hd
 have HAU:Hid (Calls prog 173 #[.pointer (some ⟨K,0,none⟩),.slice aS rs.length c] w (Wz E B K w (Gt F b rs))):=eM KI b q _ c rs w hk hE hP ht hcap (by omega) hd
 have HPA:Hid (Calls prog 174 #[.pointer (some ⟨K,0,none⟩),.slice aS rs.length c] w (PaR E B K F b rs w)):=lE KI hGB b q _ c rs w hk hE hP ht hn hd;have HAC:Hid (Calls prog 175 #[.pointer (some ⟨K,0,none⟩),.slice aS rs.length c] w (Wz E B K w (Hx F b rs))):=HA b q _ c rs w hk hE hP ht hd;have HK0:Hid (KS B K 1 b q w):=hk;have HBR:Hid (Ce B w w):=.refl _ _
 have HW:Hid (∀ r,(if r0=Eo then r=N8 F b rs else if r0=Dy then r=Gt F b rs else if r0=I7 then Fh F b rs r else if r0=Nz then r=Hx F b rs else r=(b,1))→D6 F b (r0::rs) r):=fun r h=>h
 obtain ⟨n,hnn⟩:∃ n,rs.length=n:=⟨_,rfl⟩;rw [hnn] at HDY HAU HPA HAC hcap hn hsl ⊢;clear hz ht ht0 haS hk hE hP hd KI HA hGB hnn
 by_cases h1:r0=Eo
 ·have HQ:Hid (D6 F b (r0::rs) (N8 F b rs)):=HW.o _ (by rw [if_pos h1])
  have hb1:(r0 == [100,97,121])=true:=by rw [h1];decide
  clear HW h1 hee
  go_enter func137,ntmps137
  go_wp2_with fail
  refine Calls.mono HDY.o ?_;rintro e w' hs;obtain ⟨q',v,rfl,hv⟩:=hs;have HS:Hid (Wz E B K w (N8 F b rs) (.returned v) w'):=⟨q',v,rfl,hv⟩;clear hv;go_wp2;go_ret;exact Xe HQ.o HS.o
 have b1:(r0 == [100,97,121])=false:=by simpa [Eo] using h1
 by_cases h2:r0=Dy
 ·have HQ:Hid (D6 F b (r0::rs) (Gt F b rs)):=HW.o _ (by rw [if_neg h1,if_pos h2])
  have hb1:(r0 == [97,117,116,104])=true:=by rw [h2];decide
  clear HW h1 h2 hee
  go_enter func137,ntmps137
  go_wp2_with fail
  refine Calls.mono HAU.o ?_;rintro e w' hs;obtain ⟨q',v,rfl,hv⟩:=hs;have HS:Hid (Wz E B K w (Gt F b rs) (.returned v) w'):=⟨q',v,rfl,hv⟩;clear hv;go_wp2;go_ret;exact Xe HQ.o HS.o
 have b2:(r0 == [97,117,116,104])=false:=by simpa [Dy] using h2
 by_cases h3:r0=I7
 ·have HQ:Hid (∀ r,Fh F b rs r→D6 F b (r0::rs) r):=fun r hr=>HW.o _ (by rw [if_neg h1,if_neg h2,if_pos h3];exact hr)
  have hb1:(r0 == [112,97,121])=true:=by rw [h3];decide
  clear HW h1 h2 h3 hee
  go_enter func137,ntmps137
  go_wp2_with fail
  refine Calls.mono HPA.o ?_;rintro e w' ⟨r,hr,q',v,rfl,hv⟩;have HS:Hid (Wz E B K w r (.returned v) w'):=⟨q',v,rfl,hv⟩;have HR:Hid (D6 F b (r0::rs) r):=HQ.o r hr;clear hv hr HQ;go_wp2;go_ret;exact Xe HR.o HS.o
 have b3:(r0 == [112,97,121])=false:=by simpa [I7] using h3
 by_cases h4:r0=Nz
 ·have HQ:Hid (D6 F b (r0::rs) (Hx F b rs)):=HW.o _ (by rw [if_neg h1,if_neg h2,if_neg h3,if_pos h4])
  have hb1:(r0 == [97,99,116])=true:=by rw [h4];decide
  clear HW h1 h2 h3 h4 hee
  go_enter func137,ntmps137
  go_wp2_with fail
  refine Calls.mono HAC.o ?_;rintro e w' hs;obtain ⟨q',v,rfl,hv⟩:=hs;have HS:Hid (Wz E B K w (Hx F b rs) (.returned v) w'):=⟨q',v,rfl,hv⟩;clear hv;go_wp2;go_ret;exact Xe HQ.o HS.o
 have b4:(r0 == [97,99,116])=false:=by simpa [Nz] using h4
 have HQ:Hid (D6 F b (r0::rs) (b,1)):=HW.o _ (by rw [if_neg h1,if_neg h2,if_neg h3,if_neg h4])
 clear HW h1 h2 h3 h4
 go_enter func137,ntmps137
 go_wp2;go_ret
 exact Xe HQ.o (Et HYY.o (by decide) HK0.o HBR.o)
end Go.Proofs.YtomiclakhjncbaaGreatDoor.Kb
namespace Go.Proofs.YtomiclakhjncbaaGreatDoor.Kb
open Go.RowKit Go.MuLone Go.Proofs.Tryz
def Jd (b:Bk) (line:List UInt8):Bk:=⟨b.today,b.off,b.az,b.cs,b.ls,b.log++[line]⟩
def D9 (F:Ff) (b:Bk) (line:List UInt8) (r:Bk×Int):Prop :=
 if 600≤b.log.length then r=(b,2) else ∃ r0,D6 F b (Ab line) r0∧r=if r0.2=0 then (Jd r0.1 line,0) else r0
def FV (E:World→Prop) (y:Value):Prop:=∃ w,E w∧w.cell? ⟨1,0,none⟩=some y
def rY (E:World→Prop) (b:Bk) (code:Int) (v:Value):Prop:=(code=0∧v=.nilIface)∨(code≠0∧∃ y,(if 600≤b.log.length then FV E y else NF E y)∧v=.iface 170 (.agg #[y,.int .i64 code]))
def pM (E:World→Prop) (B K:Nat) (F:Ff) (b:Bk) (line:List UInt8) (w:World) (e:Ending) (w':World):Prop:=∃ r q v,D9 F b line r∧e=.returned v∧rY E b r.2 v∧KS B K 0 r.1 q w'∧Ce B w w'
theorem N7 {ops:Array Oper} {o:Oper} {a:Act} {w:World} {K:Act→World→Prop} {Q:Exit→Act→World→Prop} {E:Prop} (hgd:o.guard=none) (s x:Operand)
  (ho:o.op=.call { callee:=.builtin .append,args:=#[s,x],argTypes:=#[23,23] }) (base:Nat) (v:Value) (n:Nat) (xs:List Value) (hs:a.eval s=v) (hown:w.ownsRow base 9 1 v n xs)
  (ao:Option Addr) (c:Nat) (rs:Be) (hx:a.eval x=.slice ao rs.length c) (hz:Bh w ao rs) (hn:n+rs.length≤4000000) (hbase:base≤w.heap.size)
  (h:∀ v' w',w'.ownsRow base 9 1 v' (n+rs.length) (xs++Am rs)→w.grownBy w' v.ownBlock→K (a.put o.dst v') w') :
  if Region.wanted o (yielded ops a.tmps)=true then Oper.wp prog o a w K Q else E:=by
 have hw:Region.wanted o (yielded ops a.tmps)=true:=by simp [Region.wanted,hgd]
 rw [if_pos hw];obtain ⟨v',w',hr,h1,h2⟩:=Ie w base o.type v n xs hown ao c rs hz hn hbase;unfold Oper.wp execOp
 simp only [ho,resolve,invoke,builtin,Sem.run_bind,Sem.run_pure,Result.andThen_ok,List.map_toArray,List.map_cons,List.map_nil,hs,hx,hr]
 exact h v' w' h1 h2
theorem jD {u:World} {g:Nat} {r:List UInt8} (h:u.cell? ⟨g,0,none⟩=some (.string ⟨r.toArray⟩)):Bh u (some ⟨g,0,none⟩) [r] :=
 .inr ⟨g,0,rfl,World.block_lt_of_cell? u _ h,fun i hi=>by
  obtain rfl:i=0:=by simpa using hi
  simpa [Al] using h⟩
theorem kbG {B K:Nat} {st:Int} {b:Bk} {q:Bp} {W u u':World} (k:KS B K st b q W) (g:u.grownBy u' (Value.slice q.g b.log.length q.gc).ownBlock) (h:BW W u):u'.cell? ⟨K,7,none⟩=some (.slice q.g b.log.length q.gc)∧u'.frozen? ⟨K,7,none⟩=false:=by
 have ku:=k.below h
 have zz:=ku.z.grown g (D8 ku.log ku.kt (by decide))
 exact ⟨zz.c7,zz.z7⟩
theorem jK (l:List UInt8):∃ r0 rs,Ab l=r0::rs:=by
 cases h:Ab l with
 | nil=>have:=(Fy l).1;rw [h] at this;simp at this
 | cons r rs=>exact ⟨r,rs,rfl⟩
theorem Sw {F:Ff} {b:Bk} {ws:Be} {r:Bk×Int} (h:D6 F b ws r):r.1.log=b.log:=by
 unfold D6 at h
 split at h
 ·rw [h];unfold N8 Fr;split
  ·split <;> rfl
  ·rfl
 split at h
 ·rw [h];unfold Gt Fq;split
  ·split <;> rfl
  ·rfl
 split at h
 ·unfold Fh at h
  split at h
  ·obtain ⟨x,-,rfl⟩:=h
   unfold Jk
   repeat' split
   all_goals rfl
  ·rw [h]
 split at h
 ·rw [h];unfold Hx Ja;split
  ·repeat' split
   all_goals rfl
  ·rfl
 ·rw [h]
theorem iDo_any {F:Ff} {E:World→Prop} {G B K:Nat} (KI:Rq F E G) (hGB:G≤B) (HA:kM F E B K) (b:Bk) (q:Bp) (line:List UInt8) (w:World) (hk:KS B K 0 b q w) (hE:E w) (hP:Ej b) (hl:line.length<1048576) :
  Calls prog 83 #[.pointer (some ⟨K,0,none⟩),.string ⟨line.toArray⟩] w (pM E B K F b line w):=by
 have HKI:Hid (Rq F E G):=KI;have HGB:Hid (G≤B):=hGB;have HAC:Hid (kM F E B K):=HA;have HK0:Hid (KS B K 0 b q w):=hk;have HE0:Hid (E w):=hE;have HPR:Hid (Ej b):=hP;have c0:=hk.z.c0;have z0:=hk.z.z0;clear KI hGB HA hk hE hP
 go_enter_defers func83,ntmps83
 go_wp2_with fail
 refine (lock_free muH ⟨K,0,none⟩ w c0 z0).mono ?_;rintro e w1 ⟨rfl,hw1⟩
 have HK1:Hid (KS B K 1 b q w1):=by rw [Hid,hw1];exact HK0.o.setSt 1
 have HB1:Hid (Ce B w w1):=by rw [Hid,hw1];exact (Ce.refl _ _).setK HK0.o.kt HK0.o.hK
 have HE1:Hid (E w1):=HKI.o.keep _ _ HE0.o (HB1.o.b.mono HGB.o);clear hw1 c0 z0;have c7:=HK1.o.z.c7;have hlm:b.log.length≤1048576:=HPR.o.sm.2.2.2.2
 by_cases hfull:600≤b.log.length
 ·have hfi:(600:Int)≤(b.log.length:Int):=by omega
  obtain ⟨et,ea,hee⟩:=HKI.o.eFull w1 HE1.o
  have HYY:Hid (if 600≤b.log.length then FV E (.iface et (.pointer (some ea))) else NF E (.iface et (.pointer (some ea)))):=by rw [Hid,if_pos hfull];exact ⟨w1,HE1.o,hee⟩
  have HQ:Hid (D9 F b line (b,2)):=by rw [Hid,D9,if_pos hfull]
  clear hfull;go_wp2_with fail
  refine leaves_cons (f:=114) (args:=#[.pointer (some ⟨K,0,none⟩)]) (by simp) (by simp [go_sem]) ?_
  refine (unlock_deferred muH ⟨K,0,none⟩ .returning _ HK1.o.z.c0 HK1.o.z.z0).mono ?_;rintro e u' w2 ⟨rfl,rfl,rfl⟩
  exact ⟨_,results_tmp rfl _ _ _,(b,2),q,_,HQ.o,rfl,.inr ⟨(by show (2:Int)≠0;decide),_,HYY.o,rfl⟩,HK1.o.setSt 0,HB1.o.setK HK1.o.kt HK1.o.hK⟩
 have hfi:¬ (600:Int)≤(b.log.length:Int):=by omega
 have HRL:Hid (∀ r0,D6 F b (Ab line) r0→D9 F b line (if r0.2=0 then (Jd r0.1 line,0) else r0)):=fun r0 h=>by
  rw [D9,if_neg hfull];exact ⟨r0,h,rfl⟩
 have HSP:Hid (Calls prog 66 #[.string ⟨line.toArray⟩,.string ⟨#[32]⟩] w1 fun e w'=>∃ a,e=.returned (.slice a (Ab line).length (Ab line).length)∧Bh w' a (Ab line)∧BW w1 w'):=HKI.o.split line w1 (by omega) HE1.o
 have hwl:=Fy line
 have HSH:Hid (∀ r ∈ Ab line,r.length≤1048576):=fun r hr=>by have:=Ee line r hr;omega
 obtain ⟨r0,rs,hrs⟩:=jK line;rw [hrs] at HRL HSP hwl HSH
 simp only [List.length_cons] at HSP hwl
 clear hrs hfull;go_wp2_with fail
 refine Calls.mono HSP.o ?_;rintro e w2 ⟨a,rfl,ht,p2⟩;have HBW1:Hid (B≤w1.heap.size):=HK1.o.lt;have HK2:Hid (KS B K 1 b q w2):=HK1.o.below p2;have HB2:Hid (Ce B w w2):=HB1.o.trans (.of p2 HBW1.o);have HE2:Hid (E w2):=HKI.o.grow HE1.o p2
 have HOB:Hid (Calls prog 137 #[.pointer (some ⟨K,0,none⟩),.slice a (rs.length+1) (rs.length+1)] w2 (ObR E B K F b (r0::rs) w2)):=gG HKI.o HGB.o HAC.o b q a rs.length r0 rs w2 HK2.o HE2.o HPR.o ht (by omega) nL (by omega) (fun r hr=>HSH.o r (by simp [hr]))
 clear p2 ht HSP c7;go_wp2_with fail
 refine Calls.mono HOB.o ?_;rintro e w3 ⟨⟨b3,c3⟩,hr,q3,v,rfl,hv,k3,p3⟩;have HK3:Hid (KS B K 1 b3 q3 w3):=k3;have HB3:Hid (Ce B w w3):=HB2.o.trans p3
 have HQ:Hid (D9 F b line (if c3=0 then (Jd b3 line,0) else (b3,c3))):=HRL.o (b3,c3) hr
 have hlog:b3.log=b.log:=Sw hr
 have hl3:b3.log.length≤1048576:=by rw [hlog];exact hlm
 have HBW3:Hid (B≤w3.heap.size):=HK3.o.lt;clear hr k3 p3 HOB HRL hlog
 simp only at hv
 rcases hv with ⟨hc,rfl⟩ | ⟨hc,y,hy,rfl⟩
 ·subst hc
  have HQ2:Hid (D9 F b line (Jd b3 line,0)):=HQ.o;have c7:=HK3.o.z.c7
  have a7:=fun o=>(HK3.o.al o).z.c7
  have HCL:Hid (∀ u,Calls prog 138 #[.string ⟨line.toArray⟩] u fun e w'=>e=.returned (.string ⟨line.toArray⟩)∧BW u w'):=fun u=>HKI.o.clone line u (by omega)
  have HEND:Hid (∀ (u u':World) (a:Option Addr) (c:Nat),BW w3 u→u.grownBy u' (Value.slice q3.g b3.log.length q3.gc).ownBlock→u'.ownsRow B 9 1 (.slice a (b3.log.length+1) c) (b3.log.length+1) (Am b3.log++Am [line])→∃ q',KS B K 1 (Jd b3 line) q' (u'.setCell ⟨K,7,none⟩ (.slice a (b3.log.length+1) c))∧Ce B w (u'.setCell ⟨K,7,none⟩ (.slice a (b3.log.length+1) c))):=fun u u' a c h g o=>by
   have o':u'.ownsRow B 9 1 (.slice a (b3.log++[line]).length c) (b3.log++[line]).length (Am (b3.log++[line])):=by
    rw [F6,List.length_append,List.length_singleton];exact o
   have h2:=(HK3.o.below h).setG g o';rw [List.length_append,List.length_singleton] at h2;have kh:=HK3.o.below h;have hu:Ce B w u':=(HB3.o.trans (.of h HBW3.o)).grownO g kh.log (Nat.le_trans HBW3.o h.size) (.inr rfl)
   exact ⟨_,h2,hu.setK (kh.kt.grown g (D8 kh.log kh.kt (by decide))) HK3.o.hK⟩
  clear HQ;go_upto_region 8 with fail
  refine wp_region_noPanic ?_
  go_region_law (first
   | (go_simp;go_at_call 138;(first | refine Calls.mono (HCL.o _) ?_);rintro e u2 ⟨rfl,p2⟩;have k2:BW w3 u2:=next (by go_grown) p2;have cc7:=(HK3.o.below k2).z.c7;have aa7:=fun o=>((HK3.o.below k2).al o).z.c7;have HS2:Hid (w3.heap.size≤u2.heap.size):=k2.size;clear p2)
   | (refine N7 rfl (.tmp 33) (.tmp 36) rfl B (.slice q3.g b3.log.length q3.gc) b3.log.length (Am b3.log) (by simp [Act.eval]) (Av HK3.o.log (by have:=HS2.o;go_grown)) (some ⟨u2.heap.size,0,none⟩) 1 [line] (by simp [Act.eval];try rfl) (jD (by simp)) (by simp;omega) (by have:=HBW3.o;have:=k2.size;simp;omega) ?_
      intro v6 w6 o6 g6
      (try simp only [List.length_singleton] at o6)
      obtain ⟨va,vc,hva⟩:=Xf o6;subst hva;have HO6:Hid (w6.ownsRow B 9 1 (.slice va (b3.log.length+1) vc) (b3.log.length+1) (Am b3.log++Am [line])):=o6
      obtain ⟨y6,x6⟩:=kbG HK3.o g6 (by have:=HS2.o;go_grown)
      have HG6:Hid _:=HEND.o _ _ va vc (by have:=HS2.o;go_grown) g6 o6
      clear o6 g6)
   | fail)
  all_goals
   refine NoPanic.normal ?_;go_wp2_with fail
   obtain ⟨q',hk6,hb6⟩:=HG6.o
   refine leaves_cons (f:=114) (args:=#[.pointer (some ⟨K,0,none⟩)]) (by simp) (by simp [go_sem]) ?_
   refine (unlock_deferred muH ⟨K,0,none⟩ .returning _ hk6.z.c0 hk6.z.z0).mono ?_;rintro e u' w7 ⟨rfl,rfl,rfl⟩;exact ⟨_,results_tmp rfl _ _ _,(Jd b3 line,0),q',_,HQ2.o,rfl,.inl ⟨rfl,rfl⟩,hk6.setSt 0,hb6.setK hk6.kt hk6.hK⟩
 ·have HYY:Hid (if 600≤b.log.length then FV E y else NF E y):=by rw [Hid,if_neg (by have:=hfi;omega)];exact hy
  clear hy
  have HQ2:Hid (D9 F b line (b3,c3)):=by have h:=HQ.o;rw [if_neg hc] at h;exact h
  clear HQ;go_wp2_with fail
  refine leaves_cons (f:=114) (args:=#[.pointer (some ⟨K,0,none⟩)]) (by simp) (by simp [go_sem]) ?_
  refine (unlock_deferred muH ⟨K,0,none⟩ .returning _ HK3.o.z.c0 HK3.o.z.z0).mono ?_;rintro e u' w4 ⟨rfl,rfl,rfl⟩;exact ⟨_,results_tmp rfl _ _ _,(b3,c3),q3,_,HQ2.o,rfl,.inr ⟨hc,_,HYY.o,rfl⟩,HK3.o.setSt 0,HB3.o.setK HK3.o.kt HK3.o.hK⟩
end Go.Proofs.YtomiclakhjncbaaGreatDoor.Kb
namespace Go.Proofs.YtomiclakhjncbaaGreatDoor
open Go.RowKit Go.Proofs.Tryz
theorem Kd:∃ i,prog.info? 269=some i∧i.zero=some (.agg #[.int .i64 0,.int .i64 0,.int .i64 0,.int .i64 0])∧i.size=4∧i.bytes=32:=by
 obtain ⟨i,h1,h2⟩:=Option.map_eq_some_iff.1 sI
 simp only [Prod.mk.injEq] at h2
 exact ⟨i,h1,h2.1,h2.2.1,h2.2.2⟩
theorem Q1 (x y z t:Int):∀ u ∈ [Value.int .i64 x,.int .i64 y,.int .i64 z,.int .i64 t],u.oneCell'=true:=by
 intro u hu
 simp at hu
 rcases hu with rfl | rfl | rfl | rfl <;> rfl
theorem Jg {P:Program} {ops:Array Oper} {o:Oper} {a:Act} {w:World} {K:Act→World→Prop} {Q:Exit→Act→World→Prop} {E:Prop}
  (hg:o.guard=none) (s x:Operand) (t:TypeId) (ho:o.op=Op.call { callee:=Callee.builtin Builtin.append,args:=#[s,x],argTypes:=#[t,t] })
  (base:Nat) (e:TypeId) (i:TypeInfo) (z:Value) (size bytes:Nat) (ht:P.underlying t=some (.slice e)) (hi:P.info? e=some i) (hz:i.zero=some z)
  (hsize:i.size=size) (hby:i.bytes=bytes) (hzs:z.cells.size=size) (hsz:0<size)
  (v:Value) (n:Nat) (xs:List Value) (hs:a.eval s=v) (hown:w.ownsRow base e size v n xs)
  (ad:Addr) (m c:Nat) (news:List Value) (hx:a.eval x=.slice (some ad) m c) (hl:news.length=m*size) (hnews:∀ j u,news[j]?=some u→w.cell? (ad.add j)=some u) (h1:∀ u ∈ news,u.oneCell'=true)
  (h63:n+m≤maxLen) (hbytes:(n+m) * bytes≤140737488355328) (hbase:base≤w.heap.size)
  (h:∀ v' w',w'.ownsRow base e size v' (n+m) (xs++news)→w.grownBy w' v.ownBlock→(v'=.slice none 0 0 ↔ v=.slice none 0 0∧m=0)→K (a.put o.dst v') w') :
  if Region.wanted o (yielded ops a.tmps)=true then Oper.wp P o a w K Q else E:=by
 rw [if_pos (by simp [Region.wanted,hg])]
 exact wp_append_own w s x t ho base e i z size bytes ht hi hz hsize hby hzs hsz v n xs hs hown ad m c news hx hl hnews h1 h63 hbytes hbase h
theorem Lt (a b:List En):Ba (a++b)=Ba a++Ba b:=by simp [Ba]
def H0 (c:Cs) (es:List En) (f g s:Int):List En:=if 0<s then es++[(f,g,c.cur,s)] else es
theorem Qy {c:Cs} {a:Ac} {t:Int} {zs:List Int} {p q l:Bool} (h1:(!Oy a.rsn || (E8 a.rsn && !E4 c t))=p) (h2:(decide (a.am<1) || (decide (c.am<a.am) || (decide (a.am<c.am) && !Gb a.rsn)))=q) (h3:Bv t (C6 c.sta (Fs a.rsn) zs)=l) :
  Bs c a t zs=if p=true then 3 else if q=true then 2 else if l=true then 4 else 0:=by
 unfold Bs;rw [h3]
 have e1:(Oy a.rsn=false∨(E8 a.rsn=true∧E4 c t=false)) ↔ p=true:=by rw [← h1];simp
 have e2:(¬ (1≤a.am∧a.am≤c.am)∨(a.am<c.am∧Gb a.rsn=false)) ↔ q=true:=by
  rw [← h2]
  cases Gb a.rsn
  ·simp;omega
  ·simp;omega
 simp only [e1,e2]
theorem Bn (u:World) (b i:Nat) (x:Value):Below b u (u.setCell ⟨b,i,none⟩ x):=Below.setCell (Below.refl b u) (show b≤b from Nat.le_refl b) x
def Dd (c:Cs) (a:Ac) (t:Int):Int:=if Bv t c.due=true then 4 else if 1≤a.am∧a.am≤c.cl then 0 else 2
theorem Sj {c:Cs} {a:Ac} {t:Int} (h:Dd c a t=0):1≤a.am∧a.am≤c.cl:=by
 unfold Dd at h
 split at h
 ·cases h
 ·split at h
  ·assumption
  ·cases h
theorem CB.under {s o B:Nat} {c:Cs} {u u':World} (h:CB s o c u) (b:Below B u u') (l:s<B):CB s o c u' :=
 ⟨(b.cell (p:=⟨s,o,none⟩) l).trans h.f0,(b.cell (p:=⟨s,o+1,none⟩) l).trans h.f1,(b.cell (p:=⟨s,o+2,none⟩) l).trans h.f2,(b.cell (p:=⟨s,o+3,none⟩) l).trans h.f3,(b.cell (p:=⟨s,o+4,none⟩) l).trans h.f4,(b.cell (p:=⟨s,o+5,none⟩) l).trans h.f5,(b.cell (p:=⟨s,o+6,none⟩) l).trans h.f6,(b.cell (p:=⟨s,o+7,none⟩) l).trans h.f7,(b.cell (p:=⟨s,o+8,none⟩) l).trans h.f8,(b.cell (p:=⟨s,o+9,none⟩) l).trans h.f9,(b.cell (p:=⟨s,o+10,none⟩) l).trans h.f10,(b.cell (p:=⟨s,o+11,none⟩) l).trans h.f11⟩
theorem FZ.under {s o B:Nat} {u u':World} (h:FZ s o u) (b:Below B u u') (l:s<B):FZ s o u' :=
 ⟨(b.frozen (p:=⟨s,o,none⟩) l).trans h.z0,(b.frozen (p:=⟨s,o+1,none⟩) l).trans h.z1,(b.frozen (p:=⟨s,o+2,none⟩) l).trans h.z2,(b.frozen (p:=⟨s,o+3,none⟩) l).trans h.z3,(b.frozen (p:=⟨s,o+4,none⟩) l).trans h.z4,(b.frozen (p:=⟨s,o+5,none⟩) l).trans h.z5,(b.frozen (p:=⟨s,o+6,none⟩) l).trans h.z6,(b.frozen (p:=⟨s,o+7,none⟩) l).trans h.z7,(b.frozen (p:=⟨s,o+8,none⟩) l).trans h.z8,(b.frozen (p:=⟨s,o+9,none⟩) l).trans h.z9,(b.frozen (p:=⟨s,o+10,none⟩) l).trans h.z10,(b.frozen (p:=⟨s,o+11,none⟩) l).trans h.z11⟩
structure BX (s:Nat) (c:Cs) (a:Ac) (u:World):Prop where
 cb:CB s 0 c u
 a0:u.cell? ⟨s+1,0,none⟩=some (.int .i64 a.kind)
 a1:u.cell? ⟨s+1,1,none⟩=some (.int .i64 a.am)
 a2:u.cell? ⟨s+1,2,none⟩=some (.int .i64 a.rsn)
 rb:CB (s+1+1) 0 Br u
 rz:FZ (s+1+1) 0 u
theorem BX.under {s B:Nat} {c:Cs} {a:Ac} {u u':World} (h:BX s c a u) (b:Below B u u') (l:s+1+1<B):BX s c a u' :=
 ⟨h.cb.under b (by omega),(b.cell (p:=⟨s+1,0,none⟩) (by show s+1<B;omega)).trans h.a0,(b.cell (p:=⟨s+1,1,none⟩) (by show s+1<B;omega)).trans h.a1,(b.cell (p:=⟨s+1,2,none⟩) (by show s+1<B;omega)).trans h.a2,h.rb.under b l,h.rz.under b l⟩
theorem BX.below {s:Nat} {c:Cs} {a:Ac} {u u':World} (h:BX s c a u) (b:BW u u'):BX s c a u':=h.under b h.rb.lt
theorem BX.new (w:World) (c:Cs) (a:Ac) (t1 t2 t3:TypeId):BX w.heap.size c a (((w.alloc (.cells #[.int .i64 c.iss,.int .i64 c.acq,.int .i64 c.cur,.int .i64 c.am,.int .i64 c.st,.int .i64 c.rsn,.int .i64 c.cl,.int .i64 c.bk,.int .i64 c.fee,.bool c.cop,.int .i64 c.sta,.int .i64 c.due] t1)).alloc (.cells #[.int .i64 a.kind,.int .i64 a.am,.int .i64 a.rsn] t2)).alloc (.cells #[.int .i64 0,.int .i64 0,.int .i64 0,.int .i64 0,.int .i64 0,.int .i64 0,.int .i64 0,.int .i64 0,.int .i64 0,.bool false,.int .i64 0,.int .i64 0] t3)):=by
 have h1:=CB.new w c t1
 have b1:∀ (u:World) (o:Obj),Below u.heap.size u (u.alloc o):=fun u o=>bR.alloc nL _
 have e2:((w.alloc (.cells #[.int .i64 c.iss,.int .i64 c.acq,.int .i64 c.cur,.int .i64 c.am,.int .i64 c.st,.int .i64 c.rsn,.int .i64 c.cl,.int .i64 c.bk,.int .i64 c.fee,.bool c.cop,.int .i64 c.sta,.int .i64 c.due] t1)).alloc (.cells #[.int .i64 a.kind,.int .i64 a.am,.int .i64 a.rsn] t2)).heap.size=w.heap.size+1+1:=by simp
 refine ⟨(h1.below (b1 _ _)).below (b1 _ _),by simp [go_sem],by simp [go_sem],by simp [go_sem],?_,?_⟩
 ·have h3:=CB.new ((w.alloc (.cells #[.int .i64 c.iss,.int .i64 c.acq,.int .i64 c.cur,.int .i64 c.am,.int .i64 c.st,.int .i64 c.rsn,.int .i64 c.cl,.int .i64 c.bk,.int .i64 c.fee,.bool c.cop,.int .i64 c.sta,.int .i64 c.due] t1)).alloc (.cells #[.int .i64 a.kind,.int .i64 a.am,.int .i64 a.rsn] t2)) Br t3
  rw [e2] at h3;exact h3
 ·have h3:=FZ.new ((w.alloc (.cells #[.int .i64 c.iss,.int .i64 c.acq,.int .i64 c.cur,.int .i64 c.am,.int .i64 c.st,.int .i64 c.rsn,.int .i64 c.cl,.int .i64 c.bk,.int .i64 c.fee,.bool c.cop,.int .i64 c.sta,.int .i64 c.due] t1)).alloc (.cells #[.int .i64 a.kind,.int .i64 a.am,.int .i64 a.rsn] t2)) #[.int .i64 0,.int .i64 0,.int .i64 0,.int .i64 0,.int .i64 0,.int .i64 0,.int .i64 0,.int .i64 0,.int .i64 0,.bool false,.int .i64 0,.int .i64 0] t3
  rw [e2] at h3;exact h3
theorem dU (c:Cs) (a:Ac) (t:Int) (zs:List Int):(Bx c a t zs).cur=c.cur:=by
 unfold Bx
 repeat' split
 all_goals first | rfl | (unfold Cx;repeat' split) 
 all_goals rfl
def pM (w:World) (c:Cs) (es:List En) (r:Int) (e:Ending) (w':World):Prop :=
 ∃ ao cap,e=.returned (.tuple #[cv c,.slice ao es.length cap,.int .i64 r])∧w'.ownsRow w.heap.size 269 4 (.slice ao es.length cap) es.length (Ba es)∧BW w w'
theorem Ek {w u:World} {c:Cs} {es:List En} {r:Int} {ao:Option Addr} {cap base:Nat} (hb:w.heap.size+1+1<base) (ho:u.ownsRow base 269 4 (.slice ao es.length cap) es.length (Ba es)) (bel:BW w u) :
  pM w c es r (.returned (.tuple #[cv c,.slice ao es.length cap,.int .i64 r])) (Cz u (w.heap.size+1+1) c) :=
 ⟨ao,cap,rfl,Bi (F3 c ho (fun g hg=>by have:=(ho.lt g hg).1;omega)) (by omega),Cp c bel (by omega)⟩
theorem tQ {w u:World} {c:Cs} {es:List En} {r:Int} {e:Ending} (h:pM w c es r e u):pM w c es r e u.drew:=by
 obtain ⟨ao,cap,he,ho,hb⟩:=h;exact ⟨ao,cap,he,Av ho (bR.drew),hb.drew⟩
theorem hZ {q:Option (Nat×Obj)} {w u:World} {H:List Cd} {g cap:Nat} (h:HP q w H (some ⟨g,0,none⟩) cap u) (hk:0<H.length) :
  Calls prog 401 #[.slice (some ⟨g,0,none⟩) H.length cap,.int .i64 0,.int .i64 0] u fun e u'=>e=.returned (.tuple #[])∧HP q w (Cu H 0 0) (some ⟨g,0,none⟩) cap u':=by
 obtain ⟨k0,k1⟩:=h.at hk;have f0:u.frozen? ⟨g,0,none⟩=false:=h.own.frozenAt _;have f1:u.frozen? ⟨g,1,none⟩=false:=h.own.frozenAt _
 have HR:Hid (HP q w (Cu H 0 0) (some ⟨g,0,none⟩) cap ((((u.setCell ⟨g,0,none⟩ (.int .i64 (Bc H 0).1)).setCell ⟨g,1,none⟩ (.int .i64 (Bc H 0).2)).setCell ⟨g,0,none⟩ (.int .i64 (Bc H 0).1)).setCell ⟨g,1,none⟩ (.int .i64 (Bc H 0).2))) :=
  (h.setAt hk (Bc H 0)).setAt (by rw [List.length_set];exact hk) (Bc H 0)
 obtain ⟨⟨a,b⟩,hab⟩:∃ x,Bc H 0=x:=⟨_,rfl⟩;rw [hab] at HR k0 k1
 simp only [Nat.zero_mul,Nat.zero_add] at k0 k1 HR
 have hk':(0:Int)<(H.length:Int):=by omega
 clear h hab
 go_enter func401,ntmps401
 go_region_with (fail)
 all_goals
  go_wp2;go_end0;exact ⟨rfl,HR.o.below (bR.drew)⟩
theorem gZ {w u:World} {H:List Cd} {ao:Option Addr} {cap:Nat} (h:HP none w H ao cap u) (hh:F1 H) (s p:Int) (hn:H.length≤900) :
  Calls prog 281 #[iC w,.iface 294 (.agg #[.int .i64 s,.int .i64 p])] u fun e u'=>e=.returned (.tuple #[])∧∃ g c G,HP none w G (some ⟨g,0,none⟩) c u'∧F1 G∧Fv (H++[(s,p)]) G:=by
 obtain ⟨L,hL⟩:∃ L,H++[(s,p)]=L:=⟨_,rfl⟩
 have HPM:Hid (Calls prog 403 #[.pointer (some ⟨w.heap.size,0,none⟩),.iface 294 (.agg #[.int .i64 s,.int .i64 p])] u fun e u'=>e=.returned (.tuple #[])∧∃ g c,HP none w L (some ⟨g,0,none⟩) c u'):=by rw [← hL];exact eV h s p (by omega)
 have HN:Hid (Qr (H++[(s,p)]) H.length):=eK hh (s,p);have hmp:=mQ (.pointer (some ⟨w.heap.size,0,none⟩)) u
 have hl:(L.length:Int) - 1=(H.length:Int):=by rw [← hL];simp
 have HLT:Hid (H.length<L.length∧L.length≤1000):=by rw [Hid,← hL];simp;omega
 have hLn:L.length≤1000:=HLT.o.2;rw [hL] at HN ⊢;clear h hh hL;unfold iC
 go_enter func281,ntmps281
 go_wp2_with fail
 refine Calls.mono HPM.o ?_;rintro e u2 ⟨rfl,g,c,hp2⟩;have HP2:Hid (HP none w L (some ⟨g,0,none⟩) c u2):=hp2;have hml:=bC hp2.box;clear hp2 hmp;go_wp2_with fail
 refine (Mv _ _ _ _).mono ?_;rintro e u3 ⟨rfl,hu3⟩;subst hu3;go_wp2_with fail
 refine (qI HP2.o H.length HLT.o.1 HLT.o.2 HN.o).mono ?_;rintro e u4 ⟨rfl,G,hp4,hG,hS⟩;have HP4:Hid (HP none w G (some ⟨g,0,none⟩) c u4):=hp4;have HG:Hid _:=hG;have HS:Hid _:=hS;clear hp4 hG hS hml;go_wp2;go_end0;exact ⟨rfl,g,c,G,HP4.o,HG.o,HS.o⟩
theorem iF {q:Option (Nat×Obj)} {w u:World} {H:List Cd} {g cap:Nat} (h:HP q w H (some ⟨g,0,none⟩) cap u) (m:Nat) (hm:H.length=m+1) (hn:H.length≤900) :
  Calls prog 283 #[iC w] u fun e u'=>e=.returned (.iface 294 (.agg #[.int .i64 (Bc H 0).1,.int .i64 (Bc H 0).2]))∧BW w u'∧∀ x o,q=some (x,o)→u'.heap[x]?=some o:=by
 have HH:Hid (HP q w H (some ⟨g,0,none⟩) cap u):=h;have hml:=bC h.box;have hms:=Iv h.box
 have HSW:Hid (Calls prog 401 #[.slice (some ⟨g,0,none⟩) H.length cap,.int .i64 0,.int .i64 m] u fun e u'=>e=.returned (.tuple #[])∧HP q w (Cu H 0 m) (some ⟨g,0,none⟩) cap u'):=by
  by_cases h0:m=0
  ·subst h0
   exact hZ h (by omega)
  ·exact Ke h 0 m (by omega) (by omega)
 have HSL:Hid ((Cu H 0 m).length=m+1∧Bc (Cu H 0 m) m=Bc H 0):=⟨by rw [Hc];exact hm,by rw [Fi (by omega) (by omega),La]⟩
 have hl:(H.length:Int) - 1=(m:Int):=by omega
 have HMB:Hid (m+1≤900):=by rw [Hid];omega
 obtain ⟨⟨a,b⟩,hab⟩:∃ x,Bc H 0=x:=⟨_,rfl⟩;rw [hab] at HSL ⊢
 simp only
 clear h hm hab;unfold iC
 go_enter func283,ntmps283
 go_wp2_with fail
 refine (Mv _ _ _ _).mono ?_;rintro e u3 ⟨rfl,hu3⟩;subst hu3;go_wp2_with fail
 refine Calls.mono HSW.o ?_;rintro e u4 ⟨rfl,hp4⟩;have HP4:Hid (HP q w (Cu H 0 m) (some ⟨g,0,none⟩) cap u4):=hp4;clear hp4 hml hms HSW;go_wp2_with fail
 refine (mJ HP4.o m HSL.o.1 (by have:=HSL.o.1;have:=HMB.o;omega)).mono ?_
 rintro e u5 ⟨⟨z,rfl⟩,G,hp5,hg5,hc5⟩;have HP5:Hid (HP q w G (some ⟨g,0,none⟩) cap u5):=hp5;have HG5:Hid (G.length=m+1∧Bc G m=(a,b)):=⟨hg5.trans HSL.o.1,hc5.trans HSL.o.2⟩;have hmp:=nV (.pointer (some ⟨w.heap.size,0,none⟩)) u5
 have HPO:Hid (Calls prog 402 #[.pointer (some ⟨w.heap.size,0,none⟩)] u5 fun e u'=>e=.returned (.iface 294 (.agg #[.int .i64 a,.int .i64 b]))∧BW w u'∧∀ x o,q=some (x,o)→u'.heap[x]?=some o):=by
  have:=kA HP5.o m HG5.o.1 (by have:=HG5.o.1;have:=HMB.o;omega)
  rw [HG5.o.2] at this;exact this
 clear hp5 hg5 hc5;go_wp2_with fail
 refine Calls.mono HPO.o ?_;rintro e u6 ⟨rfl,b6⟩;have HB6:Hid _:=b6;clear b6 hmp;go_wp2;go_ret;exact ⟨rfl,HB6.o⟩
theorem dN {w u:World} {H:List Cd} {ao:Option Addr} {cap:Nat} (h:HP none w H ao cap u) (hh:F1 H) (s p:Int) (hn:H.length≤900) :
  Calls prog 252 #[.pointer (some ⟨w.heap.size,0,none⟩),.int .i64 s,.int .i64 p] u fun e u'=>e=.returned (.tuple #[])∧∃ g c G,HP none w G (some ⟨g,0,none⟩) c u'∧F1 G∧Fv (H++[(s,p)]) G:=by
 have HPU:Hid (Calls prog 281 #[iC w,.iface 294 (.agg #[.int .i64 s,.int .i64 p])] u fun e u'=>e=.returned (.tuple #[])∧∃ g c G,HP none w G (some ⟨g,0,none⟩) c u'∧F1 G∧Fv (H++[(s,p)]) G):=gZ h hh s p hn
 unfold iC at HPU;clear h hh
 go_enter func252,ntmps252
 go_wp2_with fail
 refine Calls.mono HPU.o ?_;rintro e u4 ⟨rfl,hx⟩;have HX:Hid _:=hx;clear hx;go_wp2;go_end0;exact ⟨rfl,HX.o⟩
theorem HP.name {w u:World} {H:List Cd} {ao:Option Addr} {cap:Nat} (h:HP none w H ao cap u) (o:Obj):HP (some (u.heap.size,o)) w H ao cap (u.alloc o):=by
 have b:Below u.heap.size u (u.alloc o):=bR.alloc nL _;obtain ⟨h1,h2,h3,h4,_⟩:=h.below b
 refine ⟨h1,h2,h3,h4,fun x p e=>?_⟩
 injection e with e
 injection e with e1 e2
 subst e1 e2
 exact ⟨Array.getElem?_push_size,h.lt,fun y hy=>by have:=(h.own.lt y hy).2;omega⟩
theorem Vj {w u:World} {H:List Cd} {ao:Option Addr} {cap:Nat} (h:HP none w H ao cap u) (hn:H.length≤900) (h0:0<H.length) :
  Calls prog 253 #[.pointer (some ⟨w.heap.size,0,none⟩)] u fun e u'=>e=.returned (.tuple #[.agg #[.int .i64 (Bc H 0).1,.int .i64 (Bc H 0).2],.bool true])∧BW w u':=by
 obtain ⟨g,rfl,-,-⟩:=h.row h0
 obtain ⟨m,hm⟩:∃ m,H.length=m+1:=⟨H.length - 1,by omega⟩
 have hp:=h.name (.cells #[.int .i64 0,.int .i64 0] 294);have HU:Hid (w.heap.size<u.heap.size):=h.lt;obtain ⟨W,hW⟩:∃ W,u.alloc (.cells #[.int .i64 0,.int .i64 0] 294)=W:=⟨_,rfl⟩;rw [hW] at hp;have hbox:=hp.box
 have HPO:Hid (Calls prog 283 #[iC w] W fun e u'=>e=.returned (.iface 294 (.agg #[.int .i64 (Bc H 0).1,.int .i64 (Bc H 0).2]))∧BW w u'∧∀ x o,some (u.heap.size,Obj.cells #[.int .i64 0,.int .i64 0] 294)=some (x,o)→u'.heap[x]?=some o):=iF hp m hm hn
 unfold iC at HPO;have HW:Hid _:=hW
 have hne:((H.length:Int) == 0)=false:=beq_eq_false_iff_ne.2 (by omega)
 obtain ⟨⟨a,b⟩,hab⟩:∃ x,Bc H 0=x:=⟨_,rfl⟩;rw [hab] at HPO ⊢
 simp only at HPO ⊢
 have ta:=tH a b;clear hp h hW hab hm
 go_enter func253,ntmps253
 go_upto_region 1 with fail
 rw [HW.o];go_wp2_with fail
 refine (Mv _ _ _ _).mono ?_;rintro e u3 ⟨rfl,hu3⟩;subst hu3;go_wp2_with fail
 refine Calls.mono HPO.o ?_;rintro e u4 ⟨rfl,b4,hk4⟩;have hk:=hk4 _ _ rfl;have lk:u.heap.size<u4.heap.size:=(Array.getElem?_eq_some_iff.1 hk).1
 have c0:u4.cell? ⟨u.heap.size,0,none⟩=some (.int .i64 0):=by simp [World.cell?,hk]
 have c1:u4.cell? ⟨u.heap.size,1,none⟩=some (.int .i64 0):=by simp [World.cell?,hk]
 have z0:u4.frozen? ⟨u.heap.size,0,none⟩=false:=by simp [World.frozen?,hk]
 have z1:u4.frozen? ⟨u.heap.size,1,none⟩=false:=by simp [World.frozen?,hk]
 have HB4:Hid (BW w u4):=b4;clear b4 hk4 hk hbox;go_upto_region 4 with fail
 obtain ⟨V,hV⟩:∃ V,u4.alloc (.cells #[.int .i64 a,.int .i64 b] 294)=V:=⟨_,rfl⟩;have bV:BW u4 V:=hV ▸ bR.alloc nL _
 have d0:V.cell? ⟨u4.heap.size,0,none⟩=some (.int .i64 a):=by rw [← hV];simp
 have d1:V.cell? ⟨u4.heap.size,1,none⟩=some (.int .i64 b):=by rw [← hV];simp
 have e0:=(bV.cell (p:=⟨u.heap.size,0,none⟩) lk).trans c0;have e1:=(bV.cell (p:=⟨u.heap.size,1,none⟩) lk).trans c1;have e2:=(bV.frozen (p:=⟨u.heap.size,0,none⟩) lk).trans z0;have e3:=(bV.frozen (p:=⟨u.heap.size,1,none⟩) lk).trans z1;have HBV:Hid (BW w V):=HB4.o.trans (bV.mono HB4.o.size)
 have hnn:¬ u4.heap.size=u.heap.size:=by omega
 have hnn2:¬ u.heap.size=u4.heap.size:=by omega
 rw [hV];clear hV bV c0 c1 z0 z1;go_wp2
 refine bodyPost_ret (by simp [results,results253,go_sem,e0,e1];try rfl) rfl ?_
 exact ⟨rfl,(HBV.o.setCell (Nat.le_of_lt HU.o) _).setCell (Nat.le_of_lt HU.o) _⟩
theorem Zg {w u:World} {H:List Cd} {ao:Option Addr} {cap:Nat} (h:HP none w H ao cap u) (h0:H.length=0) :
  Calls prog 253 #[.pointer (some ⟨w.heap.size,0,none⟩)] u fun e u'=>e=.returned (.tuple #[.agg #[.int .i64 0,.int .i64 0],.bool false])∧BW w u':=by
 have hp:=h.name (.cells #[.int .i64 0,.int .i64 0] 294);have HU:Hid (w.heap.size<u.heap.size):=h.lt;obtain ⟨W,hW⟩:∃ W,u.alloc (.cells #[.int .i64 0,.int .i64 0] 294)=W:=⟨_,rfl⟩
 have c0:W.cell? ⟨u.heap.size,0,none⟩=some (.int .i64 0):=by rw [← hW];simp
 have c1:W.cell? ⟨u.heap.size,1,none⟩=some (.int .i64 0):=by rw [← hW];simp
 have z0:W.frozen? ⟨u.heap.size,0,none⟩=false:=by rw [← hW];simp [go_sem]
 have z1:W.frozen? ⟨u.heap.size,1,none⟩=false:=by rw [← hW];simp [go_sem]
 rw [hW] at hp;have hbox:=hp.box;rw [h0] at hbox;have HB:Hid (BW w W):=hp.bel;have HW:Hid _:=hW;clear hp h hW h0
 go_enter func253,ntmps253
 go_upto_region 1 with fail
 rw [HW.o];go_wp2_with fail
 refine (Mv _ _ _ _).mono ?_;rintro e u3 ⟨rfl,hu3⟩;subst hu3;go_wp2
 refine bodyPost_ret (by simp [results,results253,go_sem,c0,c1];try rfl) rfl ?_
 exact ⟨rfl,(HB.o.setCell (Nat.le_of_lt HU.o) _).setCell (Nat.le_of_lt HU.o) _⟩
theorem dP (ao:Option Addr) (cap:Nat) (az:List Au) (iY cQ am day:Int) (w:World) (hz:Ar w ao az) (hn:az.length≤1048576) (hd:∀ a ∈ az,a.ref.length≤1099511627776) (hc:∀ a ∈ az,Bf a.cur) (w3:(Lit.int .i64 am).wf=true) (w4:(Lit.int .i64 day).wf=true) :
  Calls prog 209 #[.slice ao az.length cap,.int .i64 iY,.int .i64 cQ,.int .i64 am,.int .i64 day] w fun e w'=>∃ x,e=.returned (.int .i64 x)∧Gm az iY cQ am day x∧BW w w':=by
 by_cases hb:100<az.length
 ·have hb':(100:Int)<(az.length:Int):=by omega
  go_enter func209,ntmps209
  go_wp2;go_ret;exact ⟨_,rfl,.inr ⟨hb,rfl⟩,bR⟩
 have hb':(az.length:Int)≤100:=by omega
 have HSC:Hid (∀ k,k<az.length→∀ u,Calls prog 251 #[Fe (Ak az k),.int .i64 iY,.int .i64 cQ,.int .i64 am,.int .i64 day] u fun e w'=>e=.returned (.int .i64 (scA az iY cQ am day k))∧BW u w'):=fun k hk u=>aV _ iY cQ am day u (hd _ (J8 hk)) (hc _ (J8 hk)) w3 w4
 have HP0:Hid (HP none w [] none 0 (w.alloc (.cells #[.slice none 0 0] 291))) :=
  ⟨bR.alloc nL _,by simp,by simp [go_sem],World.ownsRow_nil _ _ _ _,fun _ _ e=>by cases e⟩
 obtain ⟨sc,hsc⟩:∃ f,scA az iY cQ am day=f:=⟨_,rfl⟩
 have HBA:Hid (∀ x,Io sc az.length x→Gm az iY cQ am day x):=fun x hx=>.inl ⟨by omega,by rw [hsc];exact hx⟩
 rw [hsc] at HSC;clear hsc hd hc w3 w4
 go_enter func209,ntmps209
 go_wp2
 go_loopw [12,13,14,22] (fun _ _ _ i wr=>∃ (k:Nat) (H:List Cd) (a:Option Addr) (c:Nat),k≤az.length∧i=.int .i64 k∧Gu sc k H∧HP none w H a c wr) (fun _ _ _ i _=>az.length - (intOf i).toNat)
 case atStart=>exact ⟨0,[],none,0,Nat.zero_le _,rfl,Gu.start sc,HP0.o⟩
 case round =>
  obtain ⟨k,H,ao2,cc,hk,rfl,hcd,hp⟩:=hrel;have HCD:Hid (Gu sc k H):=hcd;have HPR:Hid (HP none w H ao2 cc wr):=hp
  have HLE:Hid (H.length≤900):=by have:=hcd.le;rw [Hid];omega
  clear hcd hp HP0
  by_cases hlt:k<az.length
  ·rcases hz with h0 | ⟨b,off,rfl,hbz,hcell⟩
   ·rw [h0] at hlt;simp at hlt
   have hbr:BW w wr:=HPR.o.bel;have HCL:Hid (∀ i,i<az.length→w.cell? ⟨b,off+i*6,none⟩=some (.string ⟨(Ak az i).ref.toArray⟩)∧w.cell? ⟨b,off+i*6+1,none⟩=some (.int .i64 (Ak az i).iss)∧w.cell? ⟨b,off+i*6+2,none⟩=some (.int .i64 (Ak az i).cur)∧w.cell? ⟨b,off+i*6+3,none⟩=some (.int .i64 (Ak az i).am)∧w.cell? ⟨b,off+i*6+4,none⟩=some (.int .i64 (Ak az i).day)∧w.cell? ⟨b,off+i*6+5,none⟩=some (.bool (Ak az i).used)):=hcell;have x0:wr.cell? ⟨b,off+k*6,none⟩=some (.string ⟨(Ak az k).ref.toArray⟩):=(hbr.cell (p:=⟨b,off+k*6,none⟩) hbz).trans (HCL.o k hlt).1;have x1:wr.cell? ⟨b,off+k*6+1,none⟩=some (.int .i64 (Ak az k).iss):=(hbr.cell (p:=⟨b,off+k*6+1,none⟩) hbz).trans (HCL.o k hlt).2.1;have x2:wr.cell? ⟨b,off+k*6+2,none⟩=some (.int .i64 (Ak az k).cur):=(hbr.cell (p:=⟨b,off+k*6+2,none⟩) hbz).trans (HCL.o k hlt).2.2.1;have x3:wr.cell? ⟨b,off+k*6+3,none⟩=some (.int .i64 (Ak az k).am):=(hbr.cell (p:=⟨b,off+k*6+3,none⟩) hbz).trans (HCL.o k hlt).2.2.2.1;have x4:wr.cell? ⟨b,off+k*6+4,none⟩=some (.int .i64 (Ak az k).day):=(hbr.cell (p:=⟨b,off+k*6+4,none⟩) hbz).trans (HCL.o k hlt).2.2.2.2.1;have x5:wr.cell? ⟨b,off+k*6+5,none⟩=some (.bool (Ak az k).used):=(hbr.cell (p:=⟨b,off+k*6+5,none⟩) hbz).trans (HCL.o k hlt).2.2.2.2.2
   have hki:(k:Int)<(az.length:Int):=by omega
   have HSK:Hid (∀ u,Calls prog 251 #[Fe (Ak az k),.int .i64 iY,.int .i64 cQ,.int .i64 am,.int .i64 day] u fun e w'=>e=.returned (.int .i64 (sc k))∧BW u w'):=HSC.o k hlt
   obtain ⟨⟨r,i,c,m,d,u⟩,hf⟩:∃ a,Ak az k=a:=⟨_,rfl⟩;rw [hf] at x0 x1 x2 x3 x4 x5 HSK;unfold Fe at HSK
   simp only at x0 x1 x2 x3 x4 x5 HSK
   clear hf hcell hbr;go_upto_region 7 with fail
   clear x0 x1 x2 x3 x4 x5;obtain ⟨W,hW⟩:∃ W,wr.alloc (.cells #[.string ⟨r.toArray⟩,.int .i64 i,.int .i64 c,.int .i64 m,.int .i64 d,.bool u] 107)=W:=⟨_,rfl⟩;have bW:BW wr W:=hW ▸ bR.alloc nL _;have BX:Jo wr.heap.size ⟨r,i,c,m,d,u⟩ W:=hW ▸ Jo.new wr ⟨r,i,c,m,d,u⟩ _;rw [hW];clear hW;have HPW:Hid (HP none w H ao2 cc W):=HPR.o.below bW;obtain ⟨q0,q1,q2,q3,q4,q5⟩:=BX
   simp only at q0 q1 q2 q3 q4 q5
   clear bW HPR;go_wp2_with fail
   refine (HSK.o _).mono ?_;rintro e u2 ⟨rfl,b2⟩;have HP2:Hid (HP none w H ao2 cc u2):=HPW.o.below b2;clear b2 q0 q1 q2 q3 q4 q5 HPW HSK
   by_cases hs:0≤sc k
   ·have HAD:Hid (Calls prog 252 #[.pointer (some ⟨w.heap.size,0,none⟩),.int .i64 (sc k),.int .i64 k] u2 fun e u'=>e=.returned (.tuple #[])∧∃ g c G,HP none w G (some ⟨g,0,none⟩) c u'∧F1 G∧Fv (H++[(sc k,(k:Int))]) G):=dN HP2.o HCD.o.heap (sc k) k HLE.o
    have HPU:Hid (∀ G,F1 G→Fv (H++[(sc k,(k:Int))]) G→Gu sc (k+1) G):=fun G h1 h2=>HCD.o.push hs h1 h2
    generalize sc k=s at hs HAD HPU
    go_wp2_with fail
    refine Calls.mono HAD.o ?_;rintro e u3 ⟨rfl,g3,c3,G,hp3,hG,hS⟩;have HP3:Hid (HP none w G (some ⟨g3,0,none⟩) c3 u3):=hp3;have HC3:Hid (Gu sc (k+1) G):=HPU.o G hG hS;clear hp3 hG hS;go_wp2
    go_roundw
    case rel=>exact ⟨k+1,G,_,_,by omega,by go_num,HC3.o,HP3.o⟩
    case measure=>simp [intOf];omega
   ·have HC3:Hid (Gu sc (k+1) H):=HCD.o.skip (by omega)
    generalize sc k=s at hs
    go_wp2
    go_roundw
    case rel=>exact ⟨k+1,H,_,_,by omega,by go_num,HC3.o,HP2.o⟩
    case measure=>simp [intOf];omega
  ·have hke:k=az.length:=by omega
   subst hke
   by_cases h0:0<H.length
   ·have HNY:Hid (Calls prog 253 #[.pointer (some ⟨w.heap.size,0,none⟩)] wr fun e u'=>e=.returned (.tuple #[.agg #[.int .i64 (Bc H 0).1,.int .i64 (Bc H 0).2],.bool true])∧BW w u'):=Vj HPR.o HLE.o h0
    have HBR:Hid (Gm az iY cQ am day (Bc H 0).2):=HBA.o _ (eB HCD.o h0);obtain ⟨⟨s,p⟩,hsp⟩:∃ x,Bc H 0=x:=⟨_,rfl⟩;rw [hsp] at HNY HBR
    simp only at HNY HBR
    clear hsp h0 hz;go_wp2_with fail
    refine Calls.mono HNY.o ?_;rintro e u3 ⟨rfl,b3⟩;have HB3:Hid _:=b3;clear b3;go_wp2;go_ret;exact ⟨_,rfl,HBR.o,HB3.o.alloc HB3.o.size _⟩
   ·have HNN:Hid (Calls prog 253 #[.pointer (some ⟨w.heap.size,0,none⟩)] wr fun e u'=>e=.returned (.tuple #[.agg #[.int .i64 0,.int .i64 0],.bool false])∧BW w u'):=Zg HPR.o (by omega)
    have HBR:Hid (Gm az iY cQ am day (-1)):=HBA.o _ (fB HCD.o (by omega))
    clear h0 hz;go_wp2_with fail
    refine Calls.mono HNN.o ?_;rintro e u3 ⟨rfl,b3⟩;have HB3:Hid _:=b3;clear b3;go_wp2;go_ret;exact ⟨_,rfl,HBR.o,HB3.o.alloc HB3.o.size _⟩
structure DB (b:Nat) (c:Cs) (a:Ac) (t:Int) (o e:Value) (u:World):Prop where
 cb:CB b 0 c u
 a0:u.cell? ⟨b,12,none⟩=some (.int .i64 a.kind)
 a1:u.cell? ⟨b,13,none⟩=some (.int .i64 a.am)
 a2:u.cell? ⟨b,14,none⟩=some (.int .i64 a.rsn)
 td:u.cell? ⟨b,15,none⟩=some (.int .i64 t)
 ho:u.cell? ⟨b,16,none⟩=some o
 he:u.cell? ⟨b,17,none⟩=some e
 fz:FZ b 0 u
 fe:u.frozen? ⟨b,17,none⟩=false
theorem DB.below {b:Nat} {c:Cs} {a:Ac} {t:Int} {o e:Value} {u u':World} (h:DB b c a t o e u) (k:BW u u'):DB b c a t o e u':=by
 have l:=h.cb.lt;exact ⟨h.cb.below k,(k.cell (p:=⟨b,12,none⟩) l).trans h.a0,(k.cell (p:=⟨b,13,none⟩) l).trans h.a1,(k.cell (p:=⟨b,14,none⟩) l).trans h.a2,(k.cell (p:=⟨b,15,none⟩) l).trans h.td,(k.cell (p:=⟨b,16,none⟩) l).trans h.ho,(k.cell (p:=⟨b,17,none⟩) l).trans h.he,h.fz.below l k,(k.frozen (p:=⟨b,17,none⟩) l).trans h.fe⟩
theorem DB.grown {b:Nat} {c:Cs} {a:Ac} {t:Int} {o e:Value} {u u':World} {row:Option Nat} (h:DB b c a t o e u) (g:u.grownBy u' row) (hr:some b≠row):DB b c a t o e u':=by
 have l:=h.cb.lt;exact ⟨h.cb.grown g hr,(g.cell_far ⟨b,12,none⟩ l hr).trans h.a0,(g.cell_far ⟨b,13,none⟩ l hr).trans h.a1,(g.cell_far ⟨b,14,none⟩ l hr).trans h.a2,(g.cell_far ⟨b,15,none⟩ l hr).trans h.td,(g.cell_far ⟨b,16,none⟩ l hr).trans h.ho,(g.cell_far ⟨b,17,none⟩ l hr).trans h.he,h.fz.grown l g hr,(g.frozen_far ⟨b,17,none⟩ l hr).trans h.fe⟩
theorem DB.set4 {b:Nat} {c:Cs} {a:Ac} {t:Int} {o e:Value} {u:World} (h:DB b c a t o e u) (x:Int):DB b ⟨c.iss,c.acq,c.cur,c.am,x,c.rsn,c.cl,c.bk,c.fee,c.cop,c.sta,c.due⟩ a t o e (u.setCell ⟨b,4,none⟩ (.int .i64 x)):=by
 obtain ⟨⟨f0,f1,f2,f3,f4,f5,f6,f7,f8,f9,f10,f11⟩,a0,a1,a2,td,ho,he,⟨z0,z1,z2,z3,z4,z5,z6,z7,z8,z9,z10,z11⟩,fe⟩:=h
 simp only [Nat.zero_add] at f0 f1 f2 f3 f4 f5 f6 f7 f8 f9 f10 f11 z0 z1 z2 z3 z4 z5 z6 z7 z8 z9 z10 z11
 exact ⟨(by constructor<;>simp [go_sem, *]),by simp [go_sem,a0],by simp [go_sem,a1],by simp [go_sem,a2],by simp [go_sem,td],by simp [go_sem,ho],by simp [go_sem,he],(by constructor<;>simp [go_sem, *]),by simp [go_sem,fe]⟩
theorem DB.set5 {b:Nat} {c:Cs} {a:Ac} {t:Int} {o e:Value} {u:World} (h:DB b c a t o e u) (x:Int):DB b ⟨c.iss,c.acq,c.cur,c.am,c.st,x,c.cl,c.bk,c.fee,c.cop,c.sta,c.due⟩ a t o e (u.setCell ⟨b,5,none⟩ (.int .i64 x)):=by
 obtain ⟨⟨f0,f1,f2,f3,f4,f5,f6,f7,f8,f9,f10,f11⟩,a0,a1,a2,td,ho,he,⟨z0,z1,z2,z3,z4,z5,z6,z7,z8,z9,z10,z11⟩,fe⟩:=h
 simp only [Nat.zero_add] at f0 f1 f2 f3 f4 f5 f6 f7 f8 f9 f10 f11 z0 z1 z2 z3 z4 z5 z6 z7 z8 z9 z10 z11
 exact ⟨(by constructor<;>simp [go_sem, *]),by simp [go_sem,a0],by simp [go_sem,a1],by simp [go_sem,a2],by simp [go_sem,td],by simp [go_sem,ho],by simp [go_sem,he],(by constructor<;>simp [go_sem, *]),by simp [go_sem,fe]⟩
theorem DB.set6 {b:Nat} {c:Cs} {a:Ac} {t:Int} {o e:Value} {u:World} (h:DB b c a t o e u) (x:Int):DB b ⟨c.iss,c.acq,c.cur,c.am,c.st,c.rsn,x,c.bk,c.fee,c.cop,c.sta,c.due⟩ a t o e (u.setCell ⟨b,6,none⟩ (.int .i64 x)):=by
 obtain ⟨⟨f0,f1,f2,f3,f4,f5,f6,f7,f8,f9,f10,f11⟩,a0,a1,a2,td,ho,he,⟨z0,z1,z2,z3,z4,z5,z6,z7,z8,z9,z10,z11⟩,fe⟩:=h
 simp only [Nat.zero_add] at f0 f1 f2 f3 f4 f5 f6 f7 f8 f9 f10 f11 z0 z1 z2 z3 z4 z5 z6 z7 z8 z9 z10 z11
 exact ⟨(by constructor<;>simp [go_sem, *]),by simp [go_sem,a0],by simp [go_sem,a1],by simp [go_sem,a2],by simp [go_sem,td],by simp [go_sem,ho],by simp [go_sem,he],(by constructor<;>simp [go_sem, *]),by simp [go_sem,fe]⟩
theorem DB.set7 {b:Nat} {c:Cs} {a:Ac} {t:Int} {o e:Value} {u:World} (h:DB b c a t o e u) (x:Int):DB b ⟨c.iss,c.acq,c.cur,c.am,c.st,c.rsn,c.cl,x,c.fee,c.cop,c.sta,c.due⟩ a t o e (u.setCell ⟨b,7,none⟩ (.int .i64 x)):=by
 obtain ⟨⟨f0,f1,f2,f3,f4,f5,f6,f7,f8,f9,f10,f11⟩,a0,a1,a2,td,ho,he,⟨z0,z1,z2,z3,z4,z5,z6,z7,z8,z9,z10,z11⟩,fe⟩:=h
 simp only [Nat.zero_add] at f0 f1 f2 f3 f4 f5 f6 f7 f8 f9 f10 f11 z0 z1 z2 z3 z4 z5 z6 z7 z8 z9 z10 z11
 exact ⟨(by constructor<;>simp [go_sem, *]),by simp [go_sem,a0],by simp [go_sem,a1],by simp [go_sem,a2],by simp [go_sem,td],by simp [go_sem,ho],by simp [go_sem,he],(by constructor<;>simp [go_sem, *]),by simp [go_sem,fe]⟩
theorem DB.set8 {b:Nat} {c:Cs} {a:Ac} {t:Int} {o e:Value} {u:World} (h:DB b c a t o e u) (x:Int):DB b ⟨c.iss,c.acq,c.cur,c.am,c.st,c.rsn,c.cl,c.bk,x,c.cop,c.sta,c.due⟩ a t o e (u.setCell ⟨b,8,none⟩ (.int .i64 x)):=by
 obtain ⟨⟨f0,f1,f2,f3,f4,f5,f6,f7,f8,f9,f10,f11⟩,a0,a1,a2,td,ho,he,⟨z0,z1,z2,z3,z4,z5,z6,z7,z8,z9,z10,z11⟩,fe⟩:=h
 simp only [Nat.zero_add] at f0 f1 f2 f3 f4 f5 f6 f7 f8 f9 f10 f11 z0 z1 z2 z3 z4 z5 z6 z7 z8 z9 z10 z11
 exact ⟨(by constructor<;>simp [go_sem, *]),by simp [go_sem,a0],by simp [go_sem,a1],by simp [go_sem,a2],by simp [go_sem,td],by simp [go_sem,ho],by simp [go_sem,he],(by constructor<;>simp [go_sem, *]),by simp [go_sem,fe]⟩
theorem DB.set11 {b:Nat} {c:Cs} {a:Ac} {t:Int} {o e:Value} {u:World} (h:DB b c a t o e u) (x:Int):DB b ⟨c.iss,c.acq,c.cur,c.am,c.st,c.rsn,c.cl,c.bk,c.fee,c.cop,c.sta,x⟩ a t o e (u.setCell ⟨b,11,none⟩ (.int .i64 x)):=by
 obtain ⟨⟨f0,f1,f2,f3,f4,f5,f6,f7,f8,f9,f10,f11⟩,a0,a1,a2,td,ho,he,⟨z0,z1,z2,z3,z4,z5,z6,z7,z8,z9,z10,z11⟩,fe⟩:=h
 simp only [Nat.zero_add] at f0 f1 f2 f3 f4 f5 f6 f7 f8 f9 f10 f11 z0 z1 z2 z3 z4 z5 z6 z7 z8 z9 z10 z11
 exact ⟨(by constructor<;>simp [go_sem, *]),by simp [go_sem,a0],by simp [go_sem,a1],by simp [go_sem,a2],by simp [go_sem,td],by simp [go_sem,ho],by simp [go_sem,he],(by constructor<;>simp [go_sem, *]),by simp [go_sem,fe]⟩
theorem DB.set9 {b:Nat} {c:Cs} {a:Ac} {t:Int} {o e:Value} {u:World} (h:DB b c a t o e u) (x:Bool):DB b ⟨c.iss,c.acq,c.cur,c.am,c.st,c.rsn,c.cl,c.bk,c.fee,x,c.sta,c.due⟩ a t o e (u.setCell ⟨b,9,none⟩ (.bool x)):=by
 obtain ⟨⟨f0,f1,f2,f3,f4,f5,f6,f7,f8,f9,f10,f11⟩,a0,a1,a2,td,ho,he,⟨z0,z1,z2,z3,z4,z5,z6,z7,z8,z9,z10,z11⟩,fe⟩:=h
 simp only [Nat.zero_add] at f0 f1 f2 f3 f4 f5 f6 f7 f8 f9 f10 f11 z0 z1 z2 z3 z4 z5 z6 z7 z8 z9 z10 z11
 exact ⟨(by constructor<;>simp [go_sem, *]),by simp [go_sem,a0],by simp [go_sem,a1],by simp [go_sem,a2],by simp [go_sem,td],by simp [go_sem,ho],by simp [go_sem,he],(by constructor<;>simp [go_sem, *]),by simp [go_sem,fe]⟩
theorem DB.set17 {b:Nat} {c:Cs} {a:Ac} {t:Int} {o e:Value} {u:World} (h:DB b c a t o e u) (x:Value):DB b c a t o x (u.setCell ⟨b,17,none⟩ x):=by
 obtain ⟨⟨f0,f1,f2,f3,f4,f5,f6,f7,f8,f9,f10,f11⟩,a0,a1,a2,td,ho,he,⟨z0,z1,z2,z3,z4,z5,z6,z7,z8,z9,z10,z11⟩,fe⟩:=h
 simp only [Nat.zero_add] at f0 f1 f2 f3 f4 f5 f6 f7 f8 f9 f10 f11 z0 z1 z2 z3 z4 z5 z6 z7 z8 z9 z10 z11
 exact ⟨(by constructor<;>simp [go_sem, *]),by simp [go_sem,a0],by simp [go_sem,a1],by simp [go_sem,a2],by simp [go_sem,td],by simp [go_sem,ho],by simp [go_sem,he],(by constructor<;>simp [go_sem, *]),by simp [go_sem,fe]⟩
structure Env (b:Nat) (ao:Option Addr) (zs:List Int) (u:World):Prop where
 offs:Il b u ao zs
 tab:Di u
 gb:16<b
theorem Di.under {b:Nat} {w w':World} (h:Di w) (hb:Below b w w') (hg:16<b):Di w':=by
 have e : prog.globalNamed "loop.example/g00126/impl.stepDays" = some 16 := by kernel_rfl
 unfold Di Lib.TabIs World.var? at *;rw [e] at h ⊢
 simp only [Option.bind_some] at h ⊢
 rw [hb.block _ hg];exact h
theorem Env.keep {b:Nat} {ao:Option Addr} {zs:List Int} {u u':World} (h:Env b ao zs u) (k:Below b u u'):Env b ao zs u':=⟨h.offs.keep k,h.tab.under k h.gb,h.gb⟩
structure DS (b:Nat) (ao:Option Addr) (cp:Nat) (zs:List Int) (a:Ac) (t:Int) (c:Cs) (es:List En) (v:Value) (u:World):Prop where
 db:DB b c a t (.slice ao zs.length cp) v u
 own:u.ownsRow (b+1) 269 4 v es.length (Ba es)
 env:Env b ao zs u
theorem DS.lt {b:Nat} {ao:Option Addr} {cp:Nat} {zs:List Int} {a:Ac} {t:Int} {c:Cs} {es:List En} {v:Value} {u:World} (h:DS b ao cp zs a t c es v u):b<u.heap.size:=h.db.cb.lt
theorem DS.below {b:Nat} {ao:Option Addr} {cp:Nat} {zs:List Int} {a:Ac} {t:Int} {c:Cs} {es:List En} {v:Value} {u u':World} (h:DS b ao cp zs a t c es v u) (k:BW u u'):DS b ao cp zs a t c es v u' :=
 ⟨h.db.below k,Av h.own k,h.env.keep (k.mono (Nat.le_of_lt h.lt))⟩
theorem DS.offs {b:Nat} {ao:Option Addr} {cp:Nat} {zs:List Int} {a:Ac} {t:Int} {c:Cs} {es:List En} {v:Value} {u:World} (h:DS b ao cp zs a t c es v u):Aw u ao zs:=h.env.offs.at (Nat.le_of_lt h.lt)
theorem Bj {b n:Nat} {t:TypeId} {v:Value} {xs:List Value} {u:World} (h:u.ownsRow (b+1) t 4 v n xs):∀ g,v.ownBlock=some g→g≠b:=fun g hg=>by have:=(h.lt g hg).1;omega
theorem DS.set4 {b:Nat} {ao:Option Addr} {cp:Nat} {zs:List Int} {a:Ac} {t:Int} {c:Cs} {es:List En} {v:Value} {u:World} (h:DS b ao cp zs a t c es v u) (x:Int):DS b ao cp zs a t ⟨c.iss,c.acq,c.cur,c.am,x,c.rsn,c.cl,c.bk,c.fee,c.cop,c.sta,c.due⟩ es v (u.setCell ⟨b,4,none⟩ (.int .i64 x)) :=
 ⟨h.db.set4 x,A5 h.own _ _ (Bj h.own),h.env.keep (Bn _ _ _ _)⟩
theorem DS.set5 {b:Nat} {ao:Option Addr} {cp:Nat} {zs:List Int} {a:Ac} {t:Int} {c:Cs} {es:List En} {v:Value} {u:World} (h:DS b ao cp zs a t c es v u) (x:Int):DS b ao cp zs a t ⟨c.iss,c.acq,c.cur,c.am,c.st,x,c.cl,c.bk,c.fee,c.cop,c.sta,c.due⟩ es v (u.setCell ⟨b,5,none⟩ (.int .i64 x)) :=
 ⟨h.db.set5 x,A5 h.own _ _ (Bj h.own),h.env.keep (Bn _ _ _ _)⟩
theorem DS.set6 {b:Nat} {ao:Option Addr} {cp:Nat} {zs:List Int} {a:Ac} {t:Int} {c:Cs} {es:List En} {v:Value} {u:World} (h:DS b ao cp zs a t c es v u) (x:Int):DS b ao cp zs a t ⟨c.iss,c.acq,c.cur,c.am,c.st,c.rsn,x,c.bk,c.fee,c.cop,c.sta,c.due⟩ es v (u.setCell ⟨b,6,none⟩ (.int .i64 x)) :=
 ⟨h.db.set6 x,A5 h.own _ _ (Bj h.own),h.env.keep (Bn _ _ _ _)⟩
theorem DS.set7 {b:Nat} {ao:Option Addr} {cp:Nat} {zs:List Int} {a:Ac} {t:Int} {c:Cs} {es:List En} {v:Value} {u:World} (h:DS b ao cp zs a t c es v u) (x:Int):DS b ao cp zs a t ⟨c.iss,c.acq,c.cur,c.am,c.st,c.rsn,c.cl,x,c.fee,c.cop,c.sta,c.due⟩ es v (u.setCell ⟨b,7,none⟩ (.int .i64 x)) :=
 ⟨h.db.set7 x,A5 h.own _ _ (Bj h.own),h.env.keep (Bn _ _ _ _)⟩
theorem DS.set8 {b:Nat} {ao:Option Addr} {cp:Nat} {zs:List Int} {a:Ac} {t:Int} {c:Cs} {es:List En} {v:Value} {u:World} (h:DS b ao cp zs a t c es v u) (x:Int):DS b ao cp zs a t ⟨c.iss,c.acq,c.cur,c.am,c.st,c.rsn,c.cl,c.bk,x,c.cop,c.sta,c.due⟩ es v (u.setCell ⟨b,8,none⟩ (.int .i64 x)) :=
 ⟨h.db.set8 x,A5 h.own _ _ (Bj h.own),h.env.keep (Bn _ _ _ _)⟩
theorem DS.set11 {b:Nat} {ao:Option Addr} {cp:Nat} {zs:List Int} {a:Ac} {t:Int} {c:Cs} {es:List En} {v:Value} {u:World} (h:DS b ao cp zs a t c es v u) (x:Int):DS b ao cp zs a t ⟨c.iss,c.acq,c.cur,c.am,c.st,c.rsn,c.cl,c.bk,c.fee,c.cop,c.sta,x⟩ es v (u.setCell ⟨b,11,none⟩ (.int .i64 x)) :=
 ⟨h.db.set11 x,A5 h.own _ _ (Bj h.own),h.env.keep (Bn _ _ _ _)⟩
theorem DS.set9 {b:Nat} {ao:Option Addr} {cp:Nat} {zs:List Int} {a:Ac} {t:Int} {c:Cs} {es:List En} {v:Value} {u:World} (h:DS b ao cp zs a t c es v u) (x:Bool):DS b ao cp zs a t ⟨c.iss,c.acq,c.cur,c.am,c.st,c.rsn,c.cl,c.bk,c.fee,x,c.sta,c.due⟩ es v (u.setCell ⟨b,9,none⟩ (.bool x)) :=
 ⟨h.db.set9 x,A5 h.own _ _ (Bj h.own),h.env.keep (Bn _ _ _ _)⟩
def DR (b:Nat) (ao:Option Addr) (cp:Nat) (zs:List Int) (a:Ac) (t:Int) (w:World) (r:Value) (c:Cs) (es:List En) (e:Ending) (w':World):Prop :=
 e=.returned r∧(∃ v,DS b ao cp zs a t c es v w')∧Below b w w'
theorem oN (w:World):Calls prog 257 #[.int .i64 0] w fun e w'=>e=.returned ((.func (.func 288) #[] #[]))∧BW w w':=by
 go_enter func257,ntmps257
 go_wp2;go_ret
 exact ⟨rfl,by go_grown⟩
theorem pL (w:World):Calls prog 257 #[.int .i64 1] w fun e w'=>e=.returned ((.func (.func 289) #[] #[]))∧BW w w':=by
 go_enter func257,ntmps257
 go_wp2;go_ret
 exact ⟨rfl,by go_grown⟩
theorem nN (w:World):Calls prog 257 #[.int .i64 2] w fun e w'=>e=.returned ((.func (.func 290) #[] #[]))∧BW w w':=by
 go_enter func257,ntmps257
 go_wp2;go_ret
 exact ⟨rfl,by go_grown⟩
theorem nF (w:World):Calls prog 257 #[.int .i64 3] w fun e w'=>e=.returned ((.func (.func 291) #[] #[]))∧BW w w':=by
 go_enter func257,ntmps257
 go_wp2;go_ret
 exact ⟨rfl,by go_grown⟩
theorem pE (w:World):Calls prog 257 #[.int .i64 4] w fun e w'=>e=.returned ((.func (.func 292) #[] #[]))∧BW w w':=by
 go_enter func257,ntmps257
 go_wp2;go_ret
 exact ⟨rfl,by go_grown⟩
theorem nH (w:World):Calls prog 257 #[.int .i64 5] w fun e w'=>e=.returned ((.func (.func 293) #[] #[]))∧BW w w':=by
 go_enter func257,ntmps257
 go_wp2;go_ret
 exact ⟨rfl,by go_grown⟩
theorem nM (w:World):Calls prog 257 #[.int .i64 6] w fun e w'=>e=.returned ((.func (.func 294) #[] #[]))∧BW w w':=by
 go_enter func257,ntmps257
 go_wp2;go_ret
 exact ⟨rfl,by go_grown⟩
theorem oS (w:World):Calls prog 257 #[.int .i64 7] w fun e w'=>e=.returned ((.func (.func 295) #[] #[]))∧BW w w':=by
 go_enter func257,ntmps257
 go_wp2;go_ret
 exact ⟨rfl,by go_grown⟩
theorem pN (w:World):Calls prog 257 #[.int .i64 8] w fun e w'=>e=.returned ((.func (.func 296) #[] #[]))∧BW w w':=by
 go_enter func257,ntmps257
 go_wp2;go_ret
 exact ⟨rfl,by go_grown⟩
theorem oY (w:World):Calls prog 257 #[.int .i64 9] w fun e w'=>e=.returned ((.func (.func 297) #[] #[]))∧BW w w':=by
 go_enter func257,ntmps257
 go_wp2;go_ret
 exact ⟨rfl,by go_grown⟩
theorem fV (F:Ff) (K:Nc F) {Pre:Bk→Prop} (hsm:∀ b,Pre b→D0 b) {Pay:Bk→Int→Int→Int→Int→Bk×Int→Prop} {Act:Bk→Int→Ac→Bk×Int} (ST:Tp Pre Pay Act) (b:Bk) (p:Bp) (line:List UInt8) (w:World) (hx:Aq w b p) (hah:Vb p w.heap.size) (hp:Pre b) (hl:line.length≤1048575) :
  Calls prog 84 #[C5 b p,.string ⟨line.toArray⟩] w fun e w'=>∃ r,Db F Pay Act b line r∧U8 w p r.1 r.2 e w':=by
 cases h1:Ca (Ab line)
 case true=>exact Xw F K hsm ST b p line w hx hah hp hl h1
 case false =>
  cases h2:Bq (Ab line)
  case true=>exact Zd F K hsm ST b p line w hx hah hp hl ⟨h1,h2⟩
  case false =>
   cases h3:Da (Ab line)
   case true=>exact Zy F K hsm ST b p line w hx hah hp hl ⟨h1,h2,h3⟩
   case false=>exact Zh F K hsm ST b p line w hx hah hp hl ⟨h1,h2,h3⟩
end Go.Proofs.YtomiclakhjncbaaGreatDoor
