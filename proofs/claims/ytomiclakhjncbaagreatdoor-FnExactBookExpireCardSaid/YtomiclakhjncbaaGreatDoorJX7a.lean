import Derived.Test.YtomiclakhjncbaaGreatDoorJX0a
import Derived.Test.YtomiclakhjncbaaGreatDoorJX3a
import Derived.Test.YtomiclakhjncbaaGreatDoorJX2a
import Derived.Test.YtomiclakhjncbaaGreatDoorJX1a
import Derived.Test.YtomiclakhjncbaaGreatDoorKXCStart
import Derived.Test.YtomiclakhjncbaaGreatDoorKXSDo6
import Derived.Test.YtomiclakhjncbaaGreatDoorKXBkActS
import Derived.Test.YtomiclakhjncbaaGreatDoorKXBkPayS
import Derived.Test.YtomiclakhjncbaaGreatDoorJX5a
import Derived.Test.YtomiclakhjncbaaGreatDoorKXICaseDo
import Derived.Test.YtomiclakhjncbaaGreatDoorKXKbIs
import Derived.Test.YtomiclakhjncbaaGreatDoorKXKbOpen
import Derived.Test.YtomiclakhjncbaaGreatDoorKXKbHand
import Derived.Test.YtomiclakhjncbaaGreatDoorKXCaMk
import Derived.Test.YtomiclakhjncbaaGreatDoorJX4a
namespace Go.Proofs.YtomiclakhjncbaaGreatDoor
open Go.RowKit Go.Proofs.Tryz
set_option maxRecDepth 100000
set_option maxHeartbeats 12800000
def F0:Ff where
 prune:=E5
 use:=M7
 useOk:=useOk
 add:=Hp
 addOk:=addOk
 best:=Gm
 stC:=Jh
 stE:=Ft
 stOk:=fun iss acq cur am day=>Ao (Ci iss acq cur am day)
 doC:=doC
 doE:=doE
 doV:=doV
 all:=Hv
 allOk:=allOk
theorem Ra (iss acq cur am day:Int):(Ft iss acq cur am day).length≤1:=by unfold Ft;split <;> simp
theorem Yz:Nc F0 where
 prune:=fun ao cap az t w h hn=>Zi ao cap az t w h (by omega)
 use:=fun ao cap az i w h hn=>kZ ao cap az i w h (by omega)
 add:=fun ao cap az a w h hn hl=>Yb ao cap az a w h hn (by omega)
 best:=fun ao cap az iss cur am day w h hn hd w3 w4=>eR ao cap az iss cur am day w h hn (fun a ha=>by have:=hd a ha;omega) w3 w4
 start:=fun iss acq cur am day w=>X3 iss acq cur am day w
 small:=fun iss acq cur am day=>by have:=Ra iss acq cur am day;show (Ft iss acq cur am day).length≤1048576;omega
 act:=fun c a t ao cp zs w h hn=>oC c a t ao cp zs w h (by omega)
 few:=fun c a t zs=>by have:=bM c a t zs;show (doE c a t zs).length≤1048576;omega
 code:=fun c a t zs=>by have:=kB c a t zs;show 0≤doV c a t zs∧doV c a t zs≤1000;omega
 post:=fun ao cap ls eo ec es w h hn hy hm=>U3 ao cap ls eo ec es w h hn hy hm
def sG (b:Bk) (n0 n1 n2 n3:Int) (r:Bk×Int):Prop:=∃ x,Gm b.az n0 n2 n3 b.today x∧r=Jk F0 b n0 n1 n2 n3 x
def Fu:Bk→List UInt8→Bk×Int→Prop:=Db F0 sG (Ja F0)
end Go.Proofs.YtomiclakhjncbaaGreatDoor
namespace Go.Proofs.YtomiclakhjncbaaGreatDoor.Kb
open Go.RowKit Go.Proofs.Tryz
set_option maxRecDepth 100000
set_option maxHeartbeats 12800000
theorem fG {ws:Be} (h:(ws.drop 1).length=1):∃ a c,ws=[a,c]:=by
 match ws,h with
 | [a,c],_=>exact ⟨a,c,rfl⟩
theorem L5 {ws:Be} (h:(ws.drop 1).length=4):∃ a c d e f,ws=[a,c,d,e,f]:=by
 match ws,h with
 | [a,c,d,e,f],_=>exact ⟨a,c,d,e,f,rfl⟩
theorem M9 {ws:Be} (h:ws.length=5):∃ a c d e f,ws=[a,c,d,e,f]:=by
 match ws,h with
 | [a,c,d,e,f],_=>exact ⟨a,c,d,e,f,rfl⟩
theorem nR {ws:Be} (h:ws.length=2):∃ a c,ws=[a,c]:=by
 match ws,h with
 | [a,c],_=>exact ⟨a,c,rfl⟩
def jE (ws:Be):Prop:=Bq ws=true∧Al ws 1=[]
theorem qZ {az:List Au} {n0 n1 n2 t:Int} : addOk az ⟨[],n0,n1,n2,t,false⟩=false:=by
 simp [addOk,Gy,Kk]
theorem iK {ws:Be} {t:List UInt8} (h:Al ws 0=t):(t≠Eo→Ca ws=false)∧(t≠Dy→Bq ws=false)∧(t≠I7→Da ws=false)∧(t≠Nz→Fl ws=false):=by
 refine ⟨fun e=>?_,fun e=>?_,fun e=>?_,fun e=>?_⟩
 ·rw [Ca,h,decide_eq_false e];rfl
 ·rw [Bq,h,decide_eq_false e];rfl
 ·rw [Da,h,decide_eq_false e];rfl
 ·rw [Fl,h,decide_eq_false e];rfl
def Agr (ws:Be) (r r':Bk×Int):Prop:=r.1=r'.1∧(r.2=r'.2∨(r.2=1∧r'.2=3∧jE ws))
theorem Fm {ws:Be} {r r':Bk×Int} (h:r=r'):Agr ws r r':=by rw [h];exact ⟨rfl,.inl rfl⟩
theorem pS {c:List UInt8} : Ap [c]=decide (0≤Ae c):=by simp [Ap]
theorem Vo {b:Bk} {line:List UInt8} {r r':Bk×Int} (h:D6 F0 b (Ab line) r) (h':Fu b line r'):Agr (Ab line) r r':=by
 unfold Fu Db at h';unfold D6 at h
 generalize Ab line=ws at h h' ⊢
 by_cases h1:Al ws 0=Eo
 ·rw [if_pos h1] at h
  obtain ⟨-,na,np,nc⟩:=iK h1
  have na:=na (by decide)
  have np:=np (by decide)
  have nc:=nc (by decide)
  by_cases hd:Ca ws=true
  ·rw [if_pos hd] at h'
   have hd2:=hd
   simp only [Ca,Bool.and_eq_true,decide_eq_true_eq] at hd2
   obtain ⟨-,h2,h3⟩:=hd2;obtain ⟨a,c,rfl⟩:=nR h2
   have e:N8 F0 b ([a,c].drop 1)=Fr F0 b (Ae c):=if_pos ⟨by show Ap [c]=true;rw [pS];exact decide_eq_true h3,rfl⟩
   rw [e] at h;exact Fm (h.trans h'.symm)
  ·rw [if_neg hd,if_neg (by rw [na];decide),if_neg (by rw [np];decide),if_neg (by rw [nc];decide)] at h'
   have e:N8 F0 b (ws.drop 1)=(b,1):=if_neg (fun ⟨e1,e2⟩=>hd (by
    obtain ⟨a,c,rfl⟩:=fG e2;have e3:Ap [c]=true:=e1;rw [pS] at e3;have h0:a=Eo:=h1;subst h0
    simp only [Ca,Bool.and_eq_true,decide_eq_true_eq]
    exact ⟨rfl,rfl,by show 0≤Ae c;simpa using e3⟩))
   rw [e] at h;exact Fm (h.trans h'.symm)
 rw [if_neg h1] at h
 have nd:Ca ws=false:=by rw [Ca,decide_eq_false h1];rfl
 rw [if_neg (by rw [nd];decide)] at h'
 by_cases h2:Al ws 0=Dy
 ·rw [if_pos h2] at h
  obtain ⟨-,-,np,nc⟩:=iK h2
  have np:=np (by decide)
  have nc:=nc (by decide)
  by_cases ha:Bq ws=true
  ·rw [if_pos ha] at h'
   have ha2:=ha
   simp only [Bq,Bool.and_eq_true,decide_eq_true_eq] at ha2
   obtain ⟨a,c,d,e,f,rfl⟩:=M9 ha2.2
   by_cases hn:Ap [d,e,f]=true
   ·rw [if_pos (show Ap ([a,c,d,e,f].drop 2)=true from hn)] at h'
    by_cases hc:c=[]
    ·subst hc
     have e1:Gt F0 b ([a,[],d,e,f].drop 1)=(b,1):=if_neg (fun e=>e.2.1 rfl)
     have e2:Fq F0 b (Al [a,[],d,e,f] 1) (Ae (Al [a,[],d,e,f] 2)) (Ae (Al [a,[],d,e,f] 3)) (Ae (Al [a,[],d,e,f] 4))=(b,3):=bZ F0 (show addOk b.az ⟨[],Ae d,Ae e,Ae f,b.today,false⟩=false from qZ)
     rw [e1] at h;rw [e2] at h';subst h h';exact ⟨rfl,.inr ⟨rfl,rfl,ha,rfl⟩⟩
    ·have e1:Gt F0 b ([a,c,d,e,f].drop 1)=Fq F0 b c (Ae d) (Ae e) (Ae f):=if_pos ⟨rfl,hc,hn⟩
     rw [e1] at h;exact Fm (h.trans h'.symm)
   ·rw [if_neg (show ¬ Ap ([a,c,d,e,f].drop 2)=true from hn)] at h'
    have e1:Gt F0 b ([a,c,d,e,f].drop 1)=(b,1):=if_neg (fun e=>hn e.2.2)
    rw [e1] at h;exact Fm (h.trans h'.symm)
  ·rw [if_neg ha,if_neg (by rw [np];decide),if_neg (by rw [nc];decide)] at h'
   have e:Gt F0 b (ws.drop 1)=(b,1):=if_neg (fun ⟨e1,_⟩=>ha (by
    obtain ⟨a,c,d,e,f,rfl⟩:=L5 e1
    simp only [Bq,Bool.and_eq_true,decide_eq_true_eq]
    exact ⟨h2,rfl⟩))
   rw [e] at h;exact Fm (h.trans h'.symm)
 rw [if_neg h2] at h
 have na:Bq ws=false:=by rw [Bq,decide_eq_false h2];rfl
 rw [if_neg (by rw [na];decide)] at h'
 by_cases h3:Al ws 0=I7
 ·rw [if_pos h3] at h
  obtain ⟨-,-,-,nc⟩:=iK h3
  have nc:=nc (by decide)
  by_cases ha:Da ws=true
  ·rw [if_pos ha] at h'
   have ha2:=ha
   simp only [Da,Bool.and_eq_true,decide_eq_true_eq] at ha2
   obtain ⟨a,c,d,e,f,rfl⟩:=M9 ha2.2;unfold Fh at h
   by_cases hn:Ap [c,d,e,f]=true
   ·rw [if_pos (show Ap ([a,c,d,e,f].drop 1)=true from hn)] at h'
    rw [if_pos ⟨hn,rfl⟩] at h;obtain ⟨x,hx,rfl⟩:=h;obtain ⟨y,hy,rfl⟩:=h';have hxy:x=y:=Zr hx hy;subst hxy;exact Fm rfl
   ·rw [if_neg (show ¬ Ap ([a,c,d,e,f].drop 1)=true from hn)] at h'
    rw [if_neg (fun e=>hn e.1)] at h
    exact Fm (h.trans h'.symm)
  ·rw [if_neg ha,if_neg (by rw [nc];decide)] at h'
   unfold Fh at h
   rw [if_neg (fun ⟨_,e2⟩=>ha (by
    obtain ⟨a,c,d,e,f,rfl⟩:=L5 e2
    simp only [Da,Bool.and_eq_true,decide_eq_true_eq]
    exact ⟨h3,rfl⟩))] at h
   exact Fm (h.trans h'.symm)
 rw [if_neg h3] at h
 have np:Da ws=false:=by rw [Da,decide_eq_false h3];rfl
 rw [if_neg (by rw [np];decide)] at h'
 by_cases h4:Al ws 0=Nz
 ·rw [if_pos h4] at h
  by_cases ha:Fl ws=true
  ·rw [if_pos ha] at h'
   have ha2:=ha
   simp only [Fl,Bool.and_eq_true,decide_eq_true_eq] at ha2
   obtain ⟨-,h5,h6⟩:=ha2;obtain ⟨a,c,d,e,f,rfl⟩:=M9 h5
   by_cases hn:Ap [c,e,f]=true
   ·rw [if_pos (show Ap [Al [a,c,d,e,f] 1,Al [a,c,d,e,f] 3,Al [a,c,d,e,f] 4]=true from hn)] at h'
    have e1:Hx F0 b ([a,c,d,e,f].drop 1)=Ja F0 b (Ae c) ⟨Bz d,Ae e,Ae f⟩:=if_pos ⟨rfl,h6,hn⟩;rw [e1] at h;exact Fm (h.trans h'.symm)
   ·rw [if_neg (show ¬ Ap [Al [a,c,d,e,f] 1,Al [a,c,d,e,f] 3,Al [a,c,d,e,f] 4]=true from hn)] at h'
    have e1:Hx F0 b ([a,c,d,e,f].drop 1)=(b,1):=if_neg (fun e=>hn e.2.2)
    rw [e1] at h;exact Fm (h.trans h'.symm)
  ·rw [if_neg ha] at h'
   have e:Hx F0 b (ws.drop 1)=(b,1):=if_neg (fun ⟨e1,e2,_⟩=>ha (by
    obtain ⟨a,c,d,e,f,rfl⟩:=L5 e1
    simp only [Fl,Bool.and_eq_true,decide_eq_true_eq]
    exact ⟨h4,rfl,e2⟩))
   rw [e] at h;exact Fm (h.trans h'.symm)
 rw [if_neg h4] at h
 have nc:Fl ws=false:=by rw [Fl,decide_eq_false h4];rfl
 rw [if_neg (by rw [nc];decide)] at h'
 exact Fm (h.trans h'.symm)
theorem W4 {b:Bk} {line:List UInt8} {r r':Bk×Int} (h:D9 F0 b line r) (h':Fg Fu b line r'):Agr (Ab line) r r':=by
 unfold D9 at h
 rcases h' with ⟨hf,rfl⟩ | ⟨hf,s,hs,hr⟩
 ·rw [if_pos hf] at h
  exact Fm h
 ·rw [if_neg (by omega)] at h
  obtain ⟨r0,h0,rfl⟩:=h;obtain ⟨e1,e2⟩:=Vo h0 hs;have hlog:=Sw h0
  rcases hr with ⟨hc,rfl⟩ | ⟨hc,rfl⟩
  ·have hc0:r0.2≠0:=by
     rcases e2 with e2 | ⟨e2,_⟩
     ·rw [e2];exact hc
     ·rw [e2];decide
   rw [if_neg hc0];exact ⟨Wc h0 hc0,e2⟩
  ·have hc0:r0.2=0:=by
     rcases e2 with e2 | ⟨_,e3,_⟩
     ·rw [e2];exact hc
     ·rw [e3] at hc;exact absurd hc (by decide)
   rw [if_pos hc0];refine Fm ?_
   simp only [Jd]
   rw [hlog,e1]
theorem nG {c:Cs} {a:Ac} {t:Int} {zs:List Int} (h:doV c a t zs=0):D7 c t zs=true∧Dx c.st a.kind=true∧B4 c a t zs=0∧Ao (Bx c a t zs)=true:=by
 unfold doV at h
 split at h
 ·cases h
 ·rename_i h1
  split at h
  ·cases h
  ·rename_i h2
   split at h
   ·rename_i h3;exact absurd h h3
   ·rename_i h3
    split at h
    ·rename_i h4
     exact ⟨by simpa using h1,by simpa using h2,by simpa using h3,h4⟩
    ·cases h
theorem lB {c:Int} (h:0≤Dc c):Bf c:=by
 refine Cq ?_
 have:=U2 h
 simp [Gi] at this
 omega
theorem cC {c:Cs} (h:Ao c=true):Qk c:=by
 obtain ⟨h1,h2,-,h3,h4,h5,h6,h7,h8,h9,h10,h11⟩:=Jb h
 simp [Fb,Cb] at h1 h2
 have hd:=Ei h10
 refine ⟨Cq (by omega),Cq (by omega),lB h3,Cq (by omega),Cq (by omega),Cq ?_,Cq (by omega),Cq (by omega),Cq (by omega),Cq (by omega),Cq ?_⟩
 ·simp only [Cy,Bool.or_eq_true,Bool.and_eq_true,decide_eq_true_eq] at h6
  rcases h6 with h6 | h6
  ·simp [Oy] at h6;omega
  ·omega
 ·rcases h11 with h11 | h11
  ·have:=Ei h11;omega
  ·omega
theorem Sk {az:List Au} {x:Int} {a:Au} (h:a ∈ M7 az x):∃ b ∈ az,b.ref=a.ref∧b.cur=a.cur:=by
 unfold M7 at h
 split at h
 ·rename_i hu
  have hi:x.toNat<az.length:=by
   simp [useOk] at hu;omega
  rcases List.mem_or_eq_of_mem_set h with h | h
  ·exact ⟨a,h,rfl,rfl⟩
  ·subst h
   exact ⟨Ak az x.toNat,by rw [Gw hi];exact List.getElem_mem hi,rfl,rfl⟩
 ·exact ⟨a,h,rfl,rfl⟩
theorem Tc {w w':World} {n:String} {g G:Nat} {cs:Array Value} (h:w.var? prog n=some cs) (hg:prog.globalNamed n=some g) (hG:g<G) (hb:Below G w w'):w'.var? prog n=some cs:=by
 unfold World.var? at *
 simp only [hg,Option.bind_some] at h ⊢
 rw [hb.block g hG];exact h
structure E0 (w:World):Prop where
 size:17≤w.heap.size
 step:Di w
 pow : Lib.TabIs prog w "internal/strconv.uint64pow10" .u64 Lib.pow10Tab
 max:∃ m,w.cell? ⟨10,0,none⟩=some (.int .i64 m)
 eFull:∃ t a,w.cell? ⟨1,0,none⟩=some (.iface t (.pointer (some a)))
 eLine:∃ t a,w.cell? ⟨3,0,none⟩=some (.iface t (.pointer (some a)))
 eDay:∃ t a,w.cell? ⟨4,0,none⟩=some (.iface t (.pointer (some a)))
 eAuth:∃ t a,w.cell? ⟨5,0,none⟩=some (.iface t (.pointer (some a)))
 eCases:∃ t a,w.cell? ⟨6,0,none⟩=some (.iface t (.pointer (some a)))
 eCase:∃ t a,w.cell? ⟨7,0,none⟩=some (.iface t (.pointer (some a)))
 eMoney:∃ t a,w.cell? ⟨8,0,none⟩=some (.iface t (.pointer (some a)))
 eAct:∃ t a,w.cell? ⟨9,0,none⟩=some (.iface t (.pointer (some a)))
 words:∀ k,k<10→w.cell? ⟨0,k,none⟩=some (.string ⟨(Al Dm k).toArray⟩)
theorem Vi (w:World) (q:Nat) (os:Array Obj):Below w.heap.size w (Go.Sort.grow (w.drewN q) os) :=
 ⟨rfl,rfl,rfl,by simp [Go.Sort.grow,World.drewN],fun k hk=>by simp [Go.Sort.grow,World.drewN,Array.getElem?_append,hk]⟩
theorem dK (w w':World) (h:E0 w) (hb:Below 17 w w'):E0 w':=by
 have k:∀ (g i:Nat) (v:Value),g<17→w.cell? ⟨g,i,none⟩=some v→w'.cell? ⟨g,i,none⟩=some v:=fun g i v hg hc=>(hb.cell (p:=⟨g,i,none⟩) hg).trans hc
 obtain ⟨m,hm⟩:=h.max;obtain ⟨teFull,aeFull,heFull⟩:=h.eFull;obtain ⟨teLine,aeLine,heLine⟩:=h.eLine;obtain ⟨teDay,aeDay,heDay⟩:=h.eDay;obtain ⟨teAuth,aeAuth,heAuth⟩:=h.eAuth;obtain ⟨teCases,aeCases,heCases⟩:=h.eCases;obtain ⟨teCase,aeCase,heCase⟩:=h.eCase;obtain ⟨teMoney,aeMoney,heMoney⟩:=h.eMoney;obtain ⟨teAct,aeAct,heAct⟩:=h.eAct
 exact ⟨Nat.le_trans h.size hb.size,Tc h.step (g:=16) (by kernel_rfl) (by decide) hb,Tc h.pow (g:=13) (by kernel_rfl) (by decide) hb,⟨m,k _ _ _ (by decide) hm⟩,⟨_,_,k _ _ _ (by decide) heFull⟩,⟨_,_,k _ _ _ (by decide) heLine⟩,⟨_,_,k _ _ _ (by decide) heDay⟩,⟨_,_,k _ _ _ (by decide) heAuth⟩,⟨_,_,k _ _ _ (by decide) heCases⟩,⟨_,_,k _ _ _ (by decide) heCase⟩,⟨_,_,k _ _ _ (by decide) heMoney⟩,⟨_,_,k _ _ _ (by decide) heAct⟩,fun i hi=>k _ _ _ (by decide) (h.words i hi)⟩
theorem I3 {x:Int} (h:Rp x):Bf x:=WalkArith.wf_i64 (by obtain ⟨h1,h2⟩:=h;omega)
theorem cL {x:Int} (h:Bf x):-9223372036854775808≤x∧x≤9223372036854775807:=by
 simp [Bf,Lit.wf,IntKind.min,IntKind.max,IntKind.signed,IntKind.bits] at h;omega
theorem mI {iss acq cur am day:Int} (h1:Rp iss) (h2:Rp acq) (h3:Rp cur) (h4:Rp am):∀ x ∈ Ft iss acq cur am day,Ma x:=by
 intro x hx;unfold Ft at hx
 split at hx
 ·simp at hx;subst hx;exact ⟨I3 h1,I3 h2,I3 h3,I3 h4⟩
 ·cases hx
theorem Xn {c:Cs} {n:Int} (hc:Qk c) (hn:Bf n):(∀ x ∈ Bg c n,Ma x)∧(∀ x ∈ Dw c n,Ma x):=by
 obtain ⟨h1,h2,h3,-⟩:=hc
 refine ⟨fun x hx=>?_,fun x hx=>?_⟩
 ·unfold Bg at hx
  split at hx
  ·cases hx
  ·simp at hx;subst hx;exact ⟨h2,h1,h3,hn⟩
 ·unfold Dw at hx
  split at hx
  ·cases hx
  ·simp at hx;subst hx;exact ⟨h1,h2,h3,hn⟩
theorem bJ {c:Cs} {n:Int} (hc:Qk c) (hn:Bf n):∀ x ∈ Dg c n,Ma x:=by
 intro x hx;unfold Dg at hx
 rcases List.mem_append.1 hx with hx | hx
 ·exact (Xn hc hn).1 x hx
 ·simp at hx;subst hx
  obtain ⟨h1,h2,h3,-⟩:=hc
  refine ⟨?_,(show Bf 9999 from Cq (by omega)),h3,(show Bf 50000 from Cq (by omega))⟩
  show Bf (Oo c n)
  unfold Oo
  split
  ·exact h2
  ·exact h1
theorem sN {c:Cs} {a:Ac} {t:Int} {zs:List Int} (hc:Qk c) (ha:Rp a.am):∀ x ∈ doE c a t zs,Ma x:=by
 intro x hx;have hcl:Bf c.cl:=hc.2.2.2.2.2.2.1
 have hhf:Bf (c.cl / 2):=WalkArith.wf_i64 (by have:=cL hcl;omega)
 unfold doE at hx
 split at hx
 ·unfold Bw at hx
  split at hx
  ·exact (Xn hc (I3 ha)).1 x hx
  split at hx
  ·exact (Xn hc (I3 ha)).2 x hx
  split at hx
  ·exact (Xn hc hcl).1 x hx
  split at hx
  ·exact bJ hc (I3 ha) x hx
  split at hx
  ·unfold Ck at hx
   split at hx
   ·cases hx
   split at hx
   ·exact (Xn hc hcl).1 x hx
   split at hx
   ·exact bJ hc hhf x hx
   ·cases hx
  ·cases hx
 ·cases hx
theorem kU {az:List Au} {i c a d x:Int} (h:Gm az i c a d x):-1≤x:=by
 rcases h with ⟨-,h⟩ | ⟨-,rfl⟩
 ·rcases h with ⟨rfl,-⟩ | ⟨k,-,rfl,-⟩ <;> omega
 ·omega
theorem Yd:Rq F0 E0 17 where
 keep:=dK
 size:=fun w h=>h.size
 num:=fun l w h=>(Tg.iNumOf_any l w (by omega)).mono (fun e w' ⟨h1,h2⟩=>⟨h1,by rw [h2];exact bR⟩)
 dec:=fun m w h hE=>(strconv_Itoa m (by omega) (by omega) w hE.pow).mono (fun e w' hw=>by
  obtain ⟨rfl,k,os,rfl⟩:=hw
  exact ⟨by rw [Lib.itoa,if_neg (by omega)];rfl,Vi w k os⟩)
 clone:=fun l w h=>Sm l w (by omega)
 split:=fun l w h hE=>by obtain ⟨m,hm⟩:=hE.max;exact qS l m w h hm
 eFull:=fun w h=>h.eFull
 eLine:=fun w h=>h.eLine
 eDay:=fun w h=>h.eDay
 eAuth:=fun w h=>h.eAuth
 eCases:=fun w h=>h.eCases
 eCase:=fun w h=>h.eCase
 eMoney:=fun w h=>h.eMoney
 eAct:=fun w h=>h.eAct
 words:=fun w h=>h.words
 prune:=fun ao cap az t w h hn hd=>Z4 ao cap az t w h (by omega) (fun a ha=>by have:=hd a ha;omega)
 use:=fun ao cap az i w h hn hd=>jU ao cap az i w h (by omega) (fun a ha=>by have:=hd a ha;omega)
 add:=fun ao cap az a w h hn hd hl hc=>aI ao cap az a w h hn (fun x hx=>by have:=hd x hx;omega) (by omega) (I3 hc)
 best:=fun ao cap az iss cur am day w h hn hd hc w3 w4=>dP ao cap az iss cur am day w h hn (fun a ha=>by have:=hd a ha;omega) hc w3 w4
 start:=fun iss acq cur am day w h=>X2 iss acq cur am day w (I3 h)
 small:=fun iss acq cur am day=>⟨by have:=Ra iss acq cur am day;show (Ft iss acq cur am day).length≤1048576;omega,fun h1 h2 h3 h4=>mI h1 h2 h3 h4⟩
 act:=fun c a t ao cp zs w h hn hE hc=>Go.Proofs.YtomiclakhjncbaaGreatDoor.iDo_any c a t ao cp zs w h (by omega) hE.step (by have:=hE.size;omega) hc.2.2.1
 few:=fun c a t zs=>⟨by have:=bM c a t zs;show (doE c a t zs).length≤1048576;omega,fun h1 h2=>sN h1 h2⟩
 low:=fun az i c a d x h=>kU h
 stay:=fun ls es h=>by
  show Hv ls es=ls
  have h':(Ch ls es).isSome=false:=h;unfold Hv
  cases hp:Ch ls es with
  | none=>rfl
  | some g=>rw [hp] at h';cases h'
 code:=fun c a t zs=>by have:=kB c a t zs;show 0≤doV c a t zs∧doV c a t zs≤1000;omega
 post:=fun ao cap ls eo ec es w h hn hb hy hm he=>Um ao cap ls eo ec es w h hn hb hy hm he
def Gj (n:Nat):List UInt8:=[97,99,116,32]++Lib.decDigits n++[32]++Al Dm 8++[32,48,32,48]
def Ka (R:Bk→List UInt8→Bk×Int→Prop):Bk→List Nat→Bk→Nat→Prop
 | b,[],b',n=>b'=b∧n=0
 | b,d::ds,b',n=>∃ r,R b (Gj d) r∧((r.2=0∧∃ m,n=m+1∧Ka R r.1 ds b' m)∨(r.2≠0∧Ka R b ds b' n))
theorem Pw {R:Bk→List UInt8→Bk×Int→Prop} {d:Nat} {b1 b2:Bk} : ∀ {b:Bk} {ds:List Nat} {m:Nat},Ka R b ds b1 m→R b1 (Gj d) (b2,0)→Ka R b (ds++[d]) b2 (m+1)
 | b,[],m,h,hd=>by
  simp only [Ka] at h
  obtain ⟨rfl,rfl⟩:=h;exact ⟨(b2,0),hd,.inl ⟨rfl,0,rfl,rfl,rfl⟩⟩
 | b,x::xs,m,h,hd=>by
  obtain ⟨r,hr,h⟩:=h
  rcases h with ⟨hc,k,rfl,h⟩ | ⟨hc,h⟩
  ·exact ⟨r,hr,.inl ⟨hc,k+1,rfl,Pw h hd⟩⟩
  ·exact ⟨r,hr,.inr ⟨hc,Pw h hd⟩⟩
theorem Qi {R:Bk→List UInt8→Bk×Int→Prop} {d:Nat} {b1:Bk} {r:Bk×Int} : ∀ {b:Bk} {ds:List Nat} {m:Nat},Ka R b ds b1 m→R b1 (Gj d) r→r.2≠0→Ka R b (ds++[d]) b1 m
 | b,[],m,h,hd,hn=>by
  simp only [Ka] at h
  obtain ⟨rfl,rfl⟩:=h;exact ⟨r,hd,.inr ⟨hn,rfl,rfl⟩⟩
 | b,x::xs,m,h,hd,hn=>by
  obtain ⟨r0,hr,h⟩:=h
  rcases h with ⟨hc,k,rfl,h⟩ | ⟨hc,h⟩
  ·exact ⟨r0,hr,.inl ⟨hc,k,rfl,Qi h hd hn⟩⟩
  ·exact ⟨r0,hr,.inr ⟨hc,Qi h hd hn⟩⟩
theorem nT {F:Ff} {b:Bk} {l:List UInt8} (h:600≤b.log.length):D9 F b l (b,2):=by rw [D9,if_pos h]
theorem Xl {F:Ff} {b1:Bk} {m:Nat} (hf:600≤b1.log.length):∀ (es:List Nat) {b:Bk} {ds:List Nat},Ka (D9 F) b ds b1 m→Ka (D9 F) b (ds++es) b1 m
 | [],b,ds,h=>by rw [List.append_nil];exact h
 | e::es,b,ds,h=>by
  rw [List.append_cons]
  exact Xl hf es (Qi h (nT hf) (by show (2:Int)≠0;decide))
def It:Nat:=1
theorem oP:∀ g ∈ It::aL,g<17:=by decide
structure E1 (G:Nat) (A:Nat→Addr) (w:World):Prop where
 e0:E0 w
 gs:17≤G
 big:G≤w.heap.size
 pt:∀ g ∈ It::aL,w.cell? ⟨g,0,none⟩=some (.iface 372 (.pointer (some (A g))))∧(A g).block<G∧∃ c t,w.heap[(A g).block]?=some (.cells c t (0,0))
 ne:∀ g ∈ aL,A g≠A It
theorem Gx {G:Nat} {A:Nat→Addr} (w w':World) (h:E1 G A w) (hb:Below G w w'):E1 G A w' :=
 ⟨dK w w' h.e0 (hb.mono h.gs),h.gs,Nat.le_trans h.big hb.size,fun g hg=>by
  obtain ⟨h1,h2,c,t,h3⟩:=h.pt g hg;exact ⟨(hb.cell (p:=⟨g,0,none⟩) (Nat.lt_of_lt_of_le (oP g hg) h.gs)).trans h1,h2,c,t,(hb.block _ h2).trans h3⟩,h.ne⟩
theorem kn1 (G:Nat) (A:Nat→Addr):Rq F0 (E1 G A) G :=
 { Yd with
  keep:=Gx
  size:=fun _ h=>h.big
  dec:=fun m w h e=>Yd.dec m w h e.e0
  split:=fun l w h e=>Yd.split l w h e.e0
  eFull:=fun w e=>Yd.eFull w e.e0
  eLine:=fun w e=>Yd.eLine w e.e0
  eDay:=fun w e=>Yd.eDay w e.e0
  eAuth:=fun w e=>Yd.eAuth w e.e0
  eCases:=fun w e=>Yd.eCases w e.e0
  eCase:=fun w e=>Yd.eCase w e.e0
  eMoney:=fun w e=>Yd.eMoney w e.e0
  eAct:=fun w e=>Yd.eAct w e.e0
  words:=fun w e=>Yd.words w e.e0
  act:=fun c a t ao cp zs w h1 h2 e h3=>Yd.act c a t ao cp zs w h1 h2 e.e0 h3 }
theorem rW {G:Nat} {A:Nat→Addr} {y:Value} (h:NF (E1 G A) y):∃ g ∈ aL,y=.iface 372 (.pointer (some (A g))):=by
 obtain ⟨w,g,he,hg,hc⟩:=h;exact ⟨g,hg,Option.some.inj (hc.symm.trans (he.pt g (List.mem_cons_of_mem _ hg)).1)⟩
theorem sF {G:Nat} {A:Nat→Addr} {y:Value} (h:FV (E1 G A) y):y=.iface 372 (.pointer (some (A It))):=by
 obtain ⟨w,he,hc⟩:=h;exact Option.some.inj (hc.symm.trans (he.pt It (List.mem_cons_self ..)).1)
theorem pG {G:Nat} {A:Nat→Addr} {b:Bk} {c:Int} {y:Value} {w:World} (hf:600≤b.log.length) (hy:if 600≤b.log.length then FV (E1 G A) y else NF (E1 G A) y) :
  Calls prog 128 #[.iface 170 (.agg #[y,.int .i64 c]),.iface 372 (.pointer (some (A It)))] w fun e w'=>e=.returned (.bool true)∧BW w w':=by
 rw [if_pos hf] at hy;rw [sF hy];exact qD c _ w
theorem qA {G:Nat} {A:Nat→Addr} {b:Bk} {c:Int} {y:Value} {w:World} (he:E1 G A w) (hf:¬ 600≤b.log.length) (hy:if 600≤b.log.length then FV (E1 G A) y else NF (E1 G A) y) :
  Calls prog 128 #[.iface 170 (.agg #[y,.int .i64 c]),.iface 372 (.pointer (some (A It)))] w fun e w'=>e=.returned (.bool false)∧BW w w':=by
 rw [if_neg hf] at hy;obtain ⟨g,hg,rfl⟩:=rW hy;obtain ⟨-,-,ca,ta,ha⟩:=he.pt g (List.mem_cons_of_mem _ hg);obtain ⟨-,-,cb,tb,hb⟩:=he.pt It (List.mem_cons_self ..);exact nA c _ _ ca cb ta tb w (he.ne g hg) ha hb
theorem Kr (a b:List UInt8) (h:a.length+b.length≤1000) (w:World):(Op.stringOp .add ⟨a.toArray⟩ ⟨b.toArray⟩).run prog w=.ok (.string ⟨(a++b).toArray⟩) w:=by
 rw [run_string_add_sum w _ _ (by rw [Fo,Fo];omega),Lb]
theorem N0 {d:Nat} (h:d<1000000000000000000):(Lib.decDigits d).length≤21:=Tg.dec_len d (by omega)
theorem Mk {d:Nat} (h:d<1000000000000000000):(Gj d).length≤50:=by
 have:=N0 h
 have:(Al Dm 8).length=6:=by decide
 unfold Gj
 simp only [List.length_append,List.length_cons,List.length_nil]
 omega
theorem nQ {d:Nat} (h:d<1000000000000000000):∃ C1 C2 C3:ByteArray,(∀ w,(Op.stringOp .add ⟨#[97,99,116,32]⟩ ⟨(Lib.decDigits d).toArray⟩).run prog w=.ok (.string C1) w)∧(∀ w,(Op.stringOp .add C1 ⟨#[32]⟩).run prog w=.ok (.string C2) w)∧(∀ w,(Op.stringOp .add C2 ⟨(Al Dm 8).toArray⟩).run prog w=.ok (.string C3) w)∧(∀ w,(Op.stringOp .add C3 ⟨#[32,48,32,48]⟩).run prog w=.ok (.string ⟨(Gj d).toArray⟩) w):=by
 have h1:=N0 h
 have h2:(Al Dm 8).length=6:=by decide
 exact ⟨_,_,_,fun w=>Kr [97,99,116,32] _ (by simp;omega) w,fun w=>Kr _ [32] (by simp;omega) w,fun w=>Kr _ (Al Dm 8) (by simp [h2];omega) w,fun w=>Kr _ [32,48,32,48] (by simp [h2];omega) w⟩
def ExR (B K:Nat) (J:Bk→Prop) (b:Bk) (ds:List Nat) (w:World) (e:Ending) (w':World):Prop :=
 ∃ (n:Nat) (b':Bk) (q:Bp),e=.returned (.int .i64 (n:Int))∧n≤ds.length∧Ka (D9 F0) b ds b' n∧J b'∧KS B K 0 b' q w'∧Ce B w w'
theorem lQ {G B K:Nat} {A:Nat→Addr} (hGB:G≤B) {J:Bk→Prop} (hJP:∀ b,J b→Ej b) (hJS:∀ b (d:Nat) b2,d<1000000000000000000→J b→D9 F0 b (Gj d) (b2,0)→J b2) (b:Bk) (q:Bp) (m:Nat) (a:Option Addr) (cap:Nat) (ds:List Nat) (zs:List Int) (hzs:zs=ds.map fun d:Nat=>(d:Int)) (w:World) (hk:KS B K 0 b q w) (hE:E1 G A w) (hJ:J b)
  (ho:w.ownsRow m 3 1 (.slice a zs.length cap) zs.length (zs.map (Value.int .i64))) (hd:∀ d ∈ ds,d<1000000000000000000) (hn:zs.length≤1048576) :
  Calls prog 76 #[.pointer (some ⟨K,0,none⟩),.slice a zs.length cap] w (ExR B K J b ds w):=by
 have HDO:Hid (∀ (b':Bk) (q':Bp) (u:World) (d:Nat),d<1000000000000000000→J b'→KS B K 0 b' q' u→E1 G A u→Calls prog 83 #[.pointer (some ⟨K,0,none⟩),.string ⟨(Gj d).toArray⟩] u (pM (E1 G A) B K F0 b' (Gj d) u)):=fun b' q' u d h1 hj ks he=>iDo_any (kn1 G A) hGB (fun b q ao cap rs w h1 h2 h3 h4 h5=>lZ (kn1 G A) hGB b q ao cap rs w h1 h2 h3 h4 h5) b' q' _ u ks he (hJP _ hj) (by have:=Mk h1;omega)
 have HJS:Hid (∀ b (d:Nat) b2,d<1000000000000000000→J b→D9 F0 b (Gj d) (b2,0)→J b2):=hJS;have HO:Hid (w.ownsRow m 3 1 (.slice a zs.length cap) zs.length (zs.map (Value.int .i64))):=ho
 have HE:Hid (∀ u,Ce B w u→E1 G A u):=fun u h=>Gx _ _ hE (h.b.mono hGB)
 have HDM:Hid (∀ d ∈ ds,d<1000000000000000000):=hd;have HK0:Hid (KS B K 0 b q w):=hk;have HJ0:Hid (J b):=hJ;have HD0:Hid (Ka (D9 F0) b (ds.take 0) b 0):=⟨rfl,rfl⟩
 have hl:zs.length=ds.length:=by rw [hzs,List.length_map]
 have HZS:Hid (zs=ds.map fun d:Nat=>(d:Int)):=hzs
 have HLL:Hid (zs.length=ds.length):=hl;clear hGB hJP hJS hk hE hJ ho hd hl hzs
 go_enter func76,ntmps76
 go_wp2
 go_loopw [5,11] (fun s i wr=>∃ (k n:Nat) (b':Bk) (q':Bp),s=.int .i64 (n:Int)∧i=.int .i64 (k:Int)∧k≤zs.length∧n≤k∧Ka (D9 F0) b (ds.take k) b' n∧J b'∧KS B K 0 b' q' wr∧Ce B w wr) (fun _ i _=>zs.length - (intOf i).toNat)
 case atStart=>exact ⟨0,0,b,q,rfl,rfl,Nat.zero_le _,nL,HD0.o,HJ0.o,HK0.o,Ce.refl _ _⟩
 case round =>
  obtain ⟨k,n,b',q',rfl,rfl,hk,hnk,hdid,hj,hks,hbr⟩:=hrel;have HDD:Hid (Ka (D9 F0) b (ds.take k) b' n):=hdid;have HJJ:Hid (J b'):=hj;have HKK:Hid (KS B K 0 b' q' wr):=hks;have HBR:Hid (Ce B w wr):=hbr;have HEW:Hid (E1 G A wr):=HE.o wr hbr;clear hdid hj hks hbr
  by_cases hlt:k<zs.length
  ·have hki:(k:Int)<(zs.length:Int):=by omega
   have hkd:k<ds.length:=by rw [← HLL.o];exact hlt
   obtain ⟨d,hdk⟩:∃ d,ds[k]=d:=⟨_,rfl⟩
   have hd18:d<1000000000000000000:=HDM.o d (by rw [← hdk];exact List.getElem_mem hkd)
   obtain ⟨gb,off,rfl,hcell⟩:∃ gb off,a=some ⟨gb,off,none⟩∧wr.cell? ⟨gb,off+k,none⟩=some (.int .i64 (d:Int)):=by
    rcases Hq (iS HO.o HBR.o (by decide)) with h | ⟨gb,off,h1,h2,h3⟩
    ·rw [h] at hlt;simp at hlt
    ·refine ⟨gb,off,h1,(h3 k hlt).trans ?_⟩
     have:zs.getD k 0=(d:Int):=by rw [HZS.o,← hdk];simp [hkd]
     rw [this]
   have HTK:Hid (ds.take (k+1)=ds.take k++[d]):=by rw [Hid,← hdk];exact List.take_succ_eq_append_getElem hkd
   have HNX:Hid (∀ b2,D9 F0 b' (Gj d) (b2,0)→J b2∧Ka (D9 F0) b (ds.take (k+1)) b2 (n+1)):=fun b2 h=>⟨HJS.o b' d b2 hd18 HJJ.o h,by rw [HTK.o];exact Pw HDD.o h⟩
   have HNO:Hid (∀ r,D9 F0 b' (Gj d) r→r.2≠0→r.1=b'∧Ka (D9 F0) b (ds.take (k+1)) b' n):=fun r h hc=>⟨sP h hc,by rw [HTK.o];exact Qi HDD.o h hc⟩
   have HFU:Hid (600≤b'.log.length→Ka (D9 F0) b ds b' n):=fun hf=>by
    have h:=Xl hf (ds.drop k) HDD.o
    rwa [List.take_append_drop] at h
   have hnd:n≤ds.length:=by have:=HLL.o;omega
   have HCD:Hid (∀ u,BW wr u→Calls prog 83 #[.pointer (some ⟨K,0,none⟩),.string ⟨(Gj d).toArray⟩] u (pM (E1 G A) B K F0 b' (Gj d) u)):=fun u h=>HDO.o b' q' u d hd18 HJJ.o (HKK.o.below h) (Gx _ _ HEW.o (h.mono HEW.o.big))
   have HIT:Hid (∀ u,BW wr u→Calls prog 127 #[.int .i64 (d:Int)] u fun e w'=>e=.returned (.string ⟨(Lib.decDigits d).toArray⟩)∧BW u w'):=fun u h=>Yd.dec d u hd18 (Gx _ _ HEW.o (h.mono HEW.o.big)).e0
   have HWD:Hid (∀ u,BW wr u→u.cell? ⟨0,8,none⟩=some (.string ⟨(Al Dm 8).toArray⟩)):=fun u h=>(Gx _ _ HEW.o (h.mono HEW.o.big)).e0.words 8 (by omega)
   obtain ⟨C1,C2,C3,r1,r2,r3,r4⟩:=nQ hd18;have HBW:Hid (B≤wr.heap.size):=HKK.o.lt;obtain ⟨L,hL⟩:∃ L:ByteArray,⟨(Gj d).toArray⟩=L:=⟨_,rfl⟩;obtain ⟨D,hD⟩:∃ L:ByteArray,⟨(Lib.decDigits d).toArray⟩=L:=⟨_,rfl⟩;obtain ⟨WB,hW⟩:∃ L:ByteArray,⟨(Al Dm 8).toArray⟩=L:=⟨_,rfl⟩;rw [hL] at r4 HCD;rw [hD] at r1 HIT;rw [hW] at r3 HWD;have q8:=HWD.o wr bR;clear hL hD hW hdk hkd;go_upto_region 5 with fail
   go_region_law (first
    | (go_simp;go_at_call 127;(refine Calls.mono (HIT.o _ (by go_grown)) ?_);rintro e u1 ⟨rfl,p1⟩;have k1:BW wr u1:=next (by go_grown) p1;have q8':=HWD.o u1 k1;clear p1)
    | (go_simp;go_at_call 83;(refine Calls.mono (HCD.o _ (by go_grown)) ?_);rintro e u2 ⟨⟨b2,c2⟩,q2,v,hr,rfl,hv,ks2,p2⟩;have HK2:Hid (KS B K 0 b2 q2 u2):=ks2;have HB2:Hid (Ce B w u2):=HBR.o.trans ((Ce.of (by go_grown) HBW.o).trans p2);have HR2:Hid (D9 F0 b' (Gj d) (b2,c2)):=hr;have HV2:Hid (rY (E1 G A) b' c2 v):=hv;clear ks2 p2 hr hv)
    | fail)
   all_goals
    have HE2:Hid (E1 G A u2):=HE.o _ HB2.o;have f2:=(HE2.o.pt It (List.mem_cons_self ..)).1;have hv:=HV2.o;clear HV2;unfold It at f2
    rcases hv with ⟨hc,rfl⟩ | ⟨hc,y,hy,rfl⟩
    ·subst hc
     obtain ⟨j2,d2⟩:=HNX.o b2 HR2.o;have HJ2:Hid (J b2):=j2;have HD2:Hid (Ka (D9 F0) b (ds.take (k+1)) b2 (n+1)):=d2;have HIS:Hid _:=qM (A 1) u2;clear j2 d2;go_wp2_with fail
     refine Calls.mono HIS.o ?_;rintro e u3 ⟨rfl,hu3⟩;subst hu3;go_wp2
     go_roundw
     case rel=>exact ⟨k+1,n+1,b2,q2,by go_num,by go_num,by omega,by omega,HD2.o,HJ2.o,HK2.o,HB2.o⟩
     case measure=>simp [intOf];omega
    ·obtain ⟨e2,d2⟩:=HNO.o _ HR2.o hc
     simp only at e2
     subst e2;have HD2:Hid (Ka (D9 F0) b (ds.take (k+1)) b2 n):=d2;clear d2
     by_cases hf:600≤b2.log.length
     ·have HIS:Hid _:=pG (c:=c2) (w:=u2) hf hy
      have HFF:Hid (600≤b2.log.length):=hf;clear hy hf hc;unfold It at HIS;go_wp2_with fail
      refine Calls.mono HIS.o ?_;rintro e u3 ⟨rfl,p3⟩;have HK3:Hid (KS B K 0 b2 q2 u3):=HK2.o.below p3;have HB3:Hid (Ce B w u3):=HB2.o.trans (.of p3 HK2.o.lt);have HEN:Hid (ExR B K J b ds w (.returned (.int .i64 (n:Int))) u3):=⟨n,b2,q2,rfl,hnd,HFU.o HFF.o,HJJ.o,HK3.o,HB3.o⟩;clear p3;go_wp2;go_ret;exact HEN.o
     ·have HIS:Hid _:=qA (c:=c2) HE2.o hf hy
      clear hy hf hc;unfold It at HIS;go_wp2_with fail
      refine Calls.mono HIS.o ?_;rintro e u3 ⟨rfl,p3⟩;have HK3:Hid (KS B K 0 b2 q2 u3):=HK2.o.below p3;have HB3:Hid (Ce B w u3):=HB2.o.trans (.of p3 HK2.o.lt);clear p3;go_wp2
      go_roundw
      case rel=>exact ⟨k+1,n,b2,q2,by go_num,by go_num,by omega,by omega,HD2.o,HJJ.o,HK3.o,HB3.o⟩
      case measure=>simp [intOf];omega
  ·have hke:k=zs.length:=by omega
   subst hke
   have hki:¬ (zs.length:Int)<(zs.length:Int):=by omega
   have hnd:n≤ds.length:=by have:=HLL.o;omega
   have HF:Hid (ExR B K J b ds w (.returned (.int .i64 (n:Int))) wr):=⟨n,b',q',rfl,hnd,by have h:=HDD.o;rwa [HLL.o,List.take_length] at h,HJJ.o,HKK.o,HBR.o⟩
   go_wp2;go_ret;exact HF.o
structure Gc (B:Nat) (b:Bk) (q:Bp) (u:World):Prop where
 off:u.ownsRow B 3 1 (.slice q.o b.off.length q.oc) b.off.length (b.off.map (Value.int .i64))
 az:u.ownsRow B 107 6 (.slice q.a b.az.length q.ac) b.az.length (Ah b.az)
 cs:u.ownsRow B 61 12 (.slice q.c b.cs.length q.cc) b.cs.length (Aj b.cs)
 ls:u.ownsRow B 113 3 (.slice q.l b.ls.length q.lc) b.ls.length (Ag b.ls)
 log:u.ownsRow B 9 1 (.slice q.g b.log.length q.gc) b.log.length (Am b.log)
theorem Gc.at {B:Nat} {b:Bk} {q:Bp} {u:World} (h:Gc B b q u):Aq u b q:=⟨Hq h.off,Fd h.az,F2 h.cs,Df h.ls,Ep h.log⟩
theorem Gc.below {B:Nat} {b:Bk} {q:Bp} {u u':World} (h:Gc B b q u) (hb:BW u u'):Gc B b q u':=⟨Av h.off hb,Av h.az hb,Av h.cs hb,Av h.ls hb,Av h.log hb⟩
theorem Gc.low {B B':Nat} {b:Bk} {q:Bp} {u:World} (h:Gc B b q u) (hb:B'≤B):Gc B' b q u:=⟨Ez h.off hb,Ez h.az hb,Ez h.cs hb,Ez h.ls hb,Ez h.log hb⟩
theorem KS.own5 {B K:Nat} {st:Int} {b:Bk} {q:Bp} {u:World} (h:KS B K st b q u):Gc B b q u:=⟨h.off,h.az,h.cs,h.ls,h.log⟩
theorem iM (b:Bk) (l:List UInt8) {r:Bk×Int} (h:D9 F0 b l r):∃ r',Fg Fu b l r':=by
 unfold D9 at h
 split at h
 ·exact ⟨(b,2),.inl ⟨‹_›,rfl⟩⟩
 ·rename_i hf
  obtain ⟨r0,h0,-⟩:=h
  have hs:∃ s,Fu b l s:=by
   unfold Fu Db
   split
   ·exact ⟨_,rfl⟩
   split
   ·split
    ·exact ⟨_,rfl⟩
    ·exact ⟨_,rfl⟩
   split
   ·rename_i hp
    split
    ·rename_i hn
     unfold D6 at h0
     simp only [Da,Bool.and_eq_true,decide_eq_true_eq] at hp
     have e0:=hp.1
     rw [if_neg (by rw [e0];decide),if_neg (by rw [e0];decide),if_pos e0] at h0
     unfold Fh at h0
     rw [if_pos ⟨hn,by rw [List.length_drop];omega⟩] at h0
     obtain ⟨x,hx,-⟩:=h0;obtain ⟨a,c,d,e,f,hws⟩:=M9 hp.2;rw [hws] at hx ⊢;exact ⟨_,x,hx,rfl⟩
    ·exact ⟨_,rfl⟩
   split
   ·split
    ·exact ⟨_,rfl⟩
    ·exact ⟨_,rfl⟩
   ·exact ⟨_,rfl⟩
  obtain ⟨s,hs⟩:=hs
  by_cases hc:s.2=0
  ·exact ⟨_,.inr ⟨by omega,s,hs,.inr ⟨hc,rfl⟩⟩⟩
  ·exact ⟨_,.inr ⟨by omega,s,hs,.inl ⟨hc,rfl⟩⟩⟩
theorem Yx {es:List En} : ∀ {ls gs:List Ln},Ch ls es=some gs→(gs=ls)∨At gs=true:=by
 induction es with
 | nil=>intro ls gs h;rw [Ch] at h;injection h with h;exact .inl h.symm
 | cons e r ih =>
  intro ls gs h;rw [Ch] at h
  split at h
  ·rename_i hp
   rcases ih h with rfl | h'
   ·exact .inr (N1 hp).2
   ·exact .inr h'
  ·cases h
theorem lN (ls:List Ln) (es:List En):Hv ls es=ls∨At (Hv ls es)=true:=by
 unfold Hv
 cases h:Ch ls es with
 | none=>exact .inl rfl
 | some gs=>exact Yx h
theorem Ww {ls:List Ln} (es:List En) (hb:∀ x ∈ ls,Hw x) (hl:ls.length≤1048576):(∀ x ∈ Hv ls es,Hw x)∧(Hv ls es).length≤1048576:=by
 rcases lN ls es with e | h
 ·rw [e];exact ⟨hb,hl⟩
 ·exact ⟨Vm h,by have:=(Dq h).2.1;omega⟩
theorem oD {b:Bk} {l:List UInt8} {r:Bk×Int} (hl:l.length≤1048576) (h:Ej b) (hr:Fu b l r) (hc:r.2=0):Ej r.1:=by
 obtain ⟨h1,h2,h3,h4,h5⟩:=h.sm;unfold Fu Db at hr
 split at hr
 ·rw [hr] at hc ⊢
  unfold Fr at hc ⊢
  split at hc
  ·rename_i hd
   rw [if_pos hd];have hw:=Ei hd.1
   have hp:∀ a ∈ E5 b.az (Ae (Al (Ab l) 1)),a ∈ b.az:=fun a ha=>by
    unfold E5 at ha
    split at ha
    ·exact (List.mem_filter.1 ha).1
    ·cases ha
   exact ⟨⟨h1,Nat.le_trans (Yp b.az _) h2,h3,h4,h5⟩,fun a ha=>h.ref a (hp a ha),fun a ha=>h.cur a (hp a ha),h.cc,h.lb,(by show (Lit.int .i64 (Ae (Al (Ab l) 1))).wf=true;exact Cq (by omega))⟩
  ·simp at hc
 split at hr
 ·rename_i ha
  split at hr
  ·rw [hr] at hc ⊢
   unfold Fq at hc ⊢
   split at hc
   ·rename_i hok
    rw [if_pos hok];have hok':addOk b.az ⟨Al (Ab l) 1,Ae (Al (Ab l) 2),Ae (Al (Ab l) 3),Ae (Al (Ab l) 4),b.today,false⟩=true:=hok;have hq:=hok'
    simp only [addOk,Bool.and_eq_true,decide_eq_true_eq] at hq
    have h5':(Ab l).length=5:=by simp [Bq] at ha;exact ha.2
    have hsh:=Ee l _ (F7 (rs:=Ab l) (k:=1) (by omega))
    refine ⟨⟨h1,?_,h3,h4,h5⟩,fun a hm=>?_,fun a hm=>?_,h.cc,h.lb,h.day⟩
    ·exact Nat.le_trans (jO b.az _) (by omega)
    ·have hm':a ∈ Hp b.az _:=hm
     rw [Nk hok'] at hm'
     rcases List.mem_append.1 hm' with hm2 | hm2
     ·exact h.ref a hm2
     ·simp at hm2;subst hm2;show (Al (Ab l) 1).length≤1048576;omega
    ·have hm':a ∈ Hp b.az _:=hm
     rw [Nk hok'] at hm'
     rcases List.mem_append.1 hm' with hm2 | hm2
     ·exact h.cur a hm2
     ·simp at hm2;subst hm2;exact lB (L0 hq.1).2.2.1
   ·simp at hc
  ·rw [hr] at hc;simp at hc
 split at hr
 ·split at hr
  ·obtain ⟨x,-,hr⟩:=hr
   rw [hr] at hc ⊢;unfold Jk at hc ⊢
   split at hc
   ·simp at hc
   rename_i g1
   rw [if_neg g1]
   split at hc
   ·simp at hc
   rename_i g2
   rw [if_neg g2]
   split at hc
   ·simp at hc
   rename_i g3
   rw [if_neg g3]
   split at hc
   ·simp at hc
   rename_i g4
   rw [if_neg g4]
   have hok':Ao (Ci (Ae (Al (Ab l) 1)) (Ae (Al (Ab l) 2)) (Ae (Al (Ab l) 3)) (Ae (Al (Ab l) 4)) b.today)=true:=by
    have h1:F0.stOk (Ae (Al (Ab l) 1)) (Ae (Al (Ab l) 2)) (Ae (Al (Ab l) 3)) (Ae (Al (Ab l) 4)) b.today=true:=by simpa using g3
    exact h1
   have e1:Jh (Ae (Al (Ab l) 1)) (Ae (Al (Ab l) 2)) (Ae (Al (Ab l) 3)) (Ae (Al (Ab l) 4)) b.today=Ci (Ae (Al (Ab l) 1)) (Ae (Al (Ab l) 2)) (Ae (Al (Ab l) 3)) (Ae (Al (Ab l) 4)) b.today:=if_pos hok';have hlb:=Ww (Ft (Ae (Al (Ab l) 1)) (Ae (Al (Ab l) 2)) (Ae (Al (Ab l) 3)) (Ae (Al (Ab l) 4)) b.today) h.lb h4
   refine ⟨⟨h1,?_,?_,hlb.2,h5⟩,fun a hm=>?_,fun a hm=>?_,fun c hm=>?_,hlb.1,h.day⟩
   ·show (M7 b.az x).length≤_
    rw [jC];exact h2
   ·show (b.cs++[_]).length≤_
    simp;omega
   ·obtain ⟨y,hy,e,e'⟩:=Sk (x:=x) (az:=b.az) hm
    rw [← e];exact h.ref y hy
   ·obtain ⟨y,hy,e,e'⟩:=Sk (x:=x) (az:=b.az) hm
    rw [← e'];exact h.cur y hy
   ·have hm':c ∈ b.cs++[Jh (Ae (Al (Ab l) 1)) (Ae (Al (Ab l) 2)) (Ae (Al (Ab l) 3)) (Ae (Al (Ab l) 4)) b.today]:=hm
    rcases List.mem_append.1 hm' with hm' | hm'
    ·exact h.cc c hm'
    ·simp at hm';rw [hm',e1];exact cC hok'
  ·rw [hr] at hc;simp at hc
 split at hr
 ·split at hr
  ·rw [hr] at hc ⊢
   unfold Ja at hc ⊢
   split at hc
   ·simp at hc
   rename_i g1
   rw [if_neg g1]
   split at hc
   ·rename_i g2
    have:=(Yd.code (A8 b.cs (Ae (Al (Ab l) 1)).toNat) ⟨Bz (Al (Ab l) 2),Ae (Al (Ab l) 3),Ae (Al (Ab l) 4)⟩ b.today b.off).1
    simp only at hc
    omega
   rename_i g2
   rw [if_neg g2]
   split at hc
   ·simp at hc
   rename_i g3
   rw [if_neg g3];have hv':doV (A8 b.cs (Ae (Al (Ab l) 1)).toNat) ⟨Bz (Al (Ab l) 2),Ae (Al (Ab l) 3),Ae (Al (Ab l) 4)⟩ b.today b.off=0:=Classical.not_not.1 g2;have hlb:=Ww (doE (A8 b.cs (Ae (Al (Ab l) 1)).toNat) ⟨Bz (Al (Ab l) 2),Ae (Al (Ab l) 3),Ae (Al (Ab l) 4)⟩ b.today b.off) h.lb h4
   refine ⟨⟨h1,h2,?_,hlb.2,h5⟩,h.ref,h.cur,fun c hm=>?_,hlb.1,h.day⟩
   ·show (b.cs.set _ _).length≤_
    simp;exact h3
   ·have hm':c ∈ b.cs.set (Ae (Al (Ab l) 1)).toNat (doC (A8 b.cs (Ae (Al (Ab l) 1)).toNat) ⟨Bz (Al (Ab l) 2),Ae (Al (Ab l) 3),Ae (Al (Ab l) 4)⟩ b.today b.off):=hm
    rcases List.mem_or_eq_of_mem_set hm' with hm' | hm'
    ·exact h.cc c hm'
    ·rw [hm',doC,if_pos hv'];exact cC (nG hv').2.2.2
  ·rw [hr] at hc;simp at hc
 ·rw [hr] at hc;simp at hc
theorem Wv {b:Bk} {l:List UInt8} {r:Bk×Int} (hl:l.length≤1048576) (h:Ej b) (hr:Fg Fu b l r):Ej r.1:=by
 rcases hr with ⟨-,rfl⟩ | ⟨hf,s,hs,⟨-,rfl⟩ | ⟨hc,rfl⟩⟩
 ·exact h
 ·exact h
 ·have j:=oD hl h hs hc
  obtain ⟨h1,h2,h3,h4,h5⟩:=j.sm
  exact ⟨⟨h1,h2,h3,h4,by show (b.log++[l]).length≤_;simp;omega⟩,j.ref,j.cur,j.cc,j.lb,j.day⟩
theorem rB {b:Bk} {l:List UInt8} {b2:Bk} (hl:l.length≤1048576) (h:Ej b) (hd:D9 F0 b l (b2,0)):Ej b2:=by
 obtain ⟨r,hr⟩:=iM b l hd;have h2:=Wv hl h hr;rw [← (W4 hd hr).1] at h2;exact h2
def k2B (b:Bk):Nat:=1+b.off.length
def k3B (b:Bk):Nat:=k2B b+6*b.az.length
def k4B (b:Bk):Nat:=k3B b+12*b.cs.length
def k5B (b:Bk):Nat:=k4B b+3*b.ls.length
def mT (b:Bk):Nat:=k5B b+b.log.length
structure iB (B:Nat) (b:Bk) (q:Bp) (u:World):Prop where
 off:u.ownsRow B 3 1 (.slice q.o b.off.length q.oc) b.off.length ((Mw 1 b.off.length).map (Value.int .i64))
 az:u.ownsRow B 107 6 (.slice q.a b.az.length q.ac) b.az.length (Ah (aR (k2B b) b.az.length))
 cs:u.ownsRow B 61 12 (.slice q.c b.cs.length q.cc) b.cs.length (Aj (Xu (k3B b) b.cs.length))
 ls:u.ownsRow B 113 3 (.slice q.l b.ls.length q.lc) b.ls.length (Ag (V9 (k4B b) b.ls.length))
 log:u.ownsRow B 9 1 (.slice q.g b.log.length q.gc) b.log.length (Am (eI (k5B b) b.log.length))
theorem iB.below {B:Nat} {b:Bk} {q:Bp} {u u':World} (h:iB B b q u) (hb:BW u u'):iB B b q u':=⟨Av h.off hb,Av h.az hb,Av h.cs hb,Av h.ls hb,Av h.log hb⟩
def Vf (b:Bk) (q:Bp) (r:Option Nat):Prop :=
 r=(Value.slice q.o b.off.length q.oc).ownBlock∨r=(Value.slice q.a b.az.length q.ac).ownBlock∨r=(Value.slice q.c b.cs.length q.cc).ownBlock∨r=(Value.slice q.l b.ls.length q.lc).ownBlock∨r=(Value.slice q.g b.log.length q.gc).ownBlock
theorem fJ (b:Bk) (q:Bp) (B:Nat) (w:World) (ho:Gc B b q w) (hn:D0 b) (Q:World→Prop) (hQ:∀ r,Vf b q r→∀ u u':World,u.grownBy u' r→Q u→Q u') (hq:Q w) :
  Calls prog 20 #[C5 b q,.int .i64 1] w fun e w'=>e=.returned (.int .i64 (mT b:Int))∧iB B b q w'∧Q w':=by
 obtain ⟨n1,n2,n3,n4,n5⟩:=hn;obtain ⟨X,hX⟩:∃ X,w.heap.size=X:=⟨_,rfl⟩;obtain ⟨W,hW⟩:∃ W,W=w.alloc (.cells #[.int .i64 b.today,.slice q.o b.off.length q.oc,.slice q.a b.az.length q.ac,.slice q.c b.cs.length q.cc,.slice q.l b.ls.length q.lc,.slice q.g b.log.length q.gc] 31):=⟨_,rfl⟩
 have bW:BW w W:=by rw [hW];exact bR.alloc nL _
 have HZ:Hid (ZQ X b q W):=by rw [Hid,hW,← hX];exact Z6.new w _ _ _ _ _ _ _
 have HT:Hid (El W X 31):=by rw [Hid,hW,← hX];exact Sy w _ _
 have HO:Hid (Gc B b q W):=ho.below bW
 have HQ0:Hid (Q W):=hQ _ (.inl rfl) w W (by rw [hW];exact World.grownBy_alloc w _ _) hq
 have HQQ:Hid (∀ r,Vf b q r→∀ u u':World,u.grownBy u' r→Q u→Q u'):=hQ;obtain ⟨K2,hK2⟩:∃ k,k2B b=k:=⟨_,rfl⟩;obtain ⟨K3,hK3⟩:∃ k,k3B b=k:=⟨_,rfl⟩;obtain ⟨K4,hK4⟩:∃ k,k4B b=k:=⟨_,rfl⟩;obtain ⟨K5,hK5⟩:∃ k,k5B b=k:=⟨_,rfl⟩;obtain ⟨K6,hK6⟩:∃ k,mT b=k:=⟨_,rfl⟩;have e2:K2=1+b.off.length:=hK2.symm
 have e3:K3=K2+6*b.az.length:=by rw [← hK2,← hK3];rfl
 have e4:K4=K3+12*b.cs.length:=by rw [← hK3,← hK4];rfl
 have e5:K5=K4+3*b.ls.length:=by rw [← hK4,← hK5];rfl
 have e6:K6=K5+b.log.length:=by rw [← hK5,← hK6];rfl
 have H1:Hid (∀ (u:World) (xs:List Value),u.ownsRow B 3 1 (.slice q.o b.off.length q.oc) b.off.length xs→Calls prog 18 #[.slice q.o b.off.length q.oc,.int .i64 1] u fun e w'=>e=.returned (.int .i64 (K2:Int))∧w'.ownsRow B 3 1 (.slice q.o b.off.length q.oc) b.off.length ((Mw 1 b.off.length).map (Value.int .i64))∧u.grownBy w' (Value.slice q.o b.off.length q.oc).ownBlock):=fun u xs h=>by
  have:=Mx q.o q.oc b.off.length B 1 xs u h (by omega) (by omega) (by omega)
  rw [show (1:Int)+(b.off.length:Int)=(K2:Int) from by omega] at this
  exact this
 have H2:Hid (∀ u:World,u.ownsRow B 107 6 (.slice q.a b.az.length q.ac) b.az.length (Ah b.az)→Calls prog 57 #[.slice q.a b.az.length q.ac,.int .i64 (K2:Int)] u fun e w'=>e=.returned (.int .i64 (K3:Int))∧w'.ownsRow B 107 6 (.slice q.a b.az.length q.ac) b.az.length (Ah (aR K2 b.az.length))∧u.grownBy w' (Value.slice q.a b.az.length q.ac).ownBlock):=fun u h=>by
  rw [e3];exact Lr q.a q.ac B K2 b.az u h (by omega) (by omega) (by omega)
 have H3:Hid (∀ u:World,u.ownsRow B 61 12 (.slice q.c b.cs.length q.cc) b.cs.length (Aj b.cs)→Calls prog 58 #[.slice q.c b.cs.length q.cc,.int .i64 (K3:Int)] u fun e w'=>e=.returned (.int .i64 (K4:Int))∧w'.ownsRow B 61 12 (.slice q.c b.cs.length q.cc) b.cs.length (Aj (Xu K3 b.cs.length))∧u.grownBy w' (Value.slice q.c b.cs.length q.cc).ownBlock):=fun u h=>by
  rw [e4];exact Uy q.c q.cc B K3 b.cs u h n3 (by omega)
 have H4:Hid (∀ u:World,u.ownsRow B 113 3 (.slice q.l b.ls.length q.lc) b.ls.length (Ag b.ls)→Calls prog 59 #[.agg #[.slice q.l b.ls.length q.lc],.int .i64 (K4:Int)] u fun e w'=>e=.returned (.int .i64 (K5:Int))∧w'.ownsRow B 113 3 (.slice q.l b.ls.length q.lc) b.ls.length (Ag (V9 K4 b.ls.length))∧u.grownBy w' (Value.slice q.l b.ls.length q.lc).ownBlock):=fun u h=>by
  rw [e5];exact Kc q.l q.lc B K4 b.ls u h (by omega) (by omega)
 have H5:Hid (∀ u:World,u.ownsRow B 9 1 (.slice q.g b.log.length q.gc) b.log.length (Am b.log)→Calls prog 19 #[.slice q.g b.log.length q.gc,.int .i64 (K5:Int)] u fun e w'=>e=.returned (.int .i64 (K6:Int))∧w'.ownsRow B 9 1 (.slice q.g b.log.length q.gc) b.log.length (Am (eI K5 b.log.length))∧u.grownBy w' (Value.slice q.g b.log.length q.gc).ownBlock):=fun u h=>by
  rw [e6];exact Jm q.g q.gc B K5 b.log u h (by omega) (by omega) (by omega)
 have HE:Hid (k2B b=K2∧k3B b=K3∧k4B b=K4∧k5B b=K5∧mT b=K6):=⟨hK2,hK3,hK4,hK5,hK6⟩;have HW:Hid _:=hW;have HX:Hid _:=hX;unfold C5;clear ho n1 n2 n3 n4 n5 hQ hq bW e2 e3 e4 e5 e6 hK2 hK3 hK4 hK5 hK6 hW hX;obtain ⟨c0,c1,c2,c3,c4,c5,-,-,-,-,-,-⟩:=HZ.o
 go_enter func20,ntmps20
 go_wp2_with fail
 rw [← HW.o];refine Calls.mono (H1.o W _ HO.o.off) ?_;rintro e u1 ⟨rfl,o1,g1⟩;rw [HX.o];clear HW HX;have HQ1:Hid (Q u1):=HQQ.o _ (.inl rfl) _ _ g1 HQ0.o
 have HZ1:Hid _:=HZ.o.grown g1 (D8 HO.o.off HT.o (by decide))
 have HT1:Hid (El u1 X 31):=HT.o.grown g1 (D8 HO.o.off HT.o (by decide))
 have A1:Hid (u1.ownsRow B 107 6 (.slice q.a b.az.length q.ac) b.az.length (Ah b.az)):=HO.o.az.kept g1 (Bj HO.o.az HO.o.off (by decide))
 have C1:Hid (u1.ownsRow B 61 12 (.slice q.c b.cs.length q.cc) b.cs.length (Aj b.cs)):=HO.o.cs.kept g1 (Bj HO.o.cs HO.o.off (by decide))
 have L1:Hid (u1.ownsRow B 113 3 (.slice q.l b.ls.length q.lc) b.ls.length (Ag b.ls)):=HO.o.ls.kept g1 (Bj HO.o.ls HO.o.off (by decide))
 have G1:Hid (u1.ownsRow B 9 1 (.slice q.g b.log.length q.gc) b.log.length (Am b.log)):=HO.o.log.kept g1 (Bj HO.o.log HO.o.off (by decide))
 have O1:Hid (u1.ownsRow B 3 1 (.slice q.o b.off.length q.oc) b.off.length ((Mw 1 b.off.length).map (Value.int .i64))):=o1;clear o1 g1 c0 c1 c2 c3 c4 c5 HO HT HZ HQ0 H1;obtain ⟨c0,c1,c2,c3,c4,c5,-,-,-,-,-,-⟩:=HZ1.o;go_wp2_with fail
 refine Calls.mono (H2.o u1 A1.o) ?_;rintro e u2 ⟨rfl,o2,g2⟩;have HQ2:Hid (Q u2):=HQQ.o _ (.inr (.inl rfl)) _ _ g2 HQ1.o
 have HZ2:Hid _:=HZ1.o.grown g2 (D8 A1.o HT1.o (by decide))
 have HT2:Hid (El u2 X 31):=HT1.o.grown g2 (D8 A1.o HT1.o (by decide))
 have O2:Hid (u2.ownsRow B 3 1 (.slice q.o b.off.length q.oc) b.off.length ((Mw 1 b.off.length).map (Value.int .i64))):=O1.o.kept g2 (Bj O1.o A1.o (by decide))
 have C2:Hid (u2.ownsRow B 61 12 (.slice q.c b.cs.length q.cc) b.cs.length (Aj b.cs)):=C1.o.kept g2 (Bj C1.o A1.o (by decide))
 have L2:Hid (u2.ownsRow B 113 3 (.slice q.l b.ls.length q.lc) b.ls.length (Ag b.ls)):=L1.o.kept g2 (Bj L1.o A1.o (by decide))
 have G2:Hid (u2.ownsRow B 9 1 (.slice q.g b.log.length q.gc) b.log.length (Am b.log)):=G1.o.kept g2 (Bj G1.o A1.o (by decide))
 have A2:Hid (u2.ownsRow B 107 6 (.slice q.a b.az.length q.ac) b.az.length (Ah (aR K2 b.az.length))):=o2;clear o2 g2 c0 c1 c2 c3 c4 c5 HT1 HZ1 HQ1 H2 O1 A1 C1 L1 G1;obtain ⟨c0,c1,c2,c3,c4,c5,-,-,-,-,-,-⟩:=HZ2.o;go_wp2_with fail
 refine Calls.mono (H3.o u2 C2.o) ?_;rintro e u3 ⟨rfl,o3,g3⟩;have HQ3:Hid (Q u3):=HQQ.o _ (.inr (.inr (.inl rfl))) _ _ g3 HQ2.o
 have HZ3:Hid _:=HZ2.o.grown g3 (D8 C2.o HT2.o (by decide))
 have HT3:Hid (El u3 X 31):=HT2.o.grown g3 (D8 C2.o HT2.o (by decide))
 have O3:Hid (u3.ownsRow B 3 1 (.slice q.o b.off.length q.oc) b.off.length ((Mw 1 b.off.length).map (Value.int .i64))):=O2.o.kept g3 (Bj O2.o C2.o (by decide))
 have A3:Hid (u3.ownsRow B 107 6 (.slice q.a b.az.length q.ac) b.az.length (Ah (aR K2 b.az.length))):=A2.o.kept g3 (Bj A2.o C2.o (by decide))
 have L3:Hid (u3.ownsRow B 113 3 (.slice q.l b.ls.length q.lc) b.ls.length (Ag b.ls)):=L2.o.kept g3 (Bj L2.o C2.o (by decide))
 have G3:Hid (u3.ownsRow B 9 1 (.slice q.g b.log.length q.gc) b.log.length (Am b.log)):=G2.o.kept g3 (Bj G2.o C2.o (by decide))
 have C3:Hid (u3.ownsRow B 61 12 (.slice q.c b.cs.length q.cc) b.cs.length (Aj (Xu K3 b.cs.length))):=o3;clear o3 g3 c0 c1 c2 c3 c4 c5 HT2 HZ2 HQ2 H3 O2 A2 C2 L2 G2;obtain ⟨c0,c1,c2,c3,c4,c5,-,-,-,-,-,-⟩:=HZ3.o;go_wp2_with fail
 refine Calls.mono (H4.o u3 L3.o) ?_;rintro e u4 ⟨rfl,o4,g4⟩;have HQ4:Hid (Q u4):=HQQ.o _ (.inr (.inr (.inr (.inl rfl)))) _ _ g4 HQ3.o
 have HZ4:Hid _:=HZ3.o.grown g4 (D8 L3.o HT3.o (by decide))
 have O4:Hid (u4.ownsRow B 3 1 (.slice q.o b.off.length q.oc) b.off.length ((Mw 1 b.off.length).map (Value.int .i64))):=O3.o.kept g4 (Bj O3.o L3.o (by decide))
 have A4:Hid (u4.ownsRow B 107 6 (.slice q.a b.az.length q.ac) b.az.length (Ah (aR K2 b.az.length))):=A3.o.kept g4 (Bj A3.o L3.o (by decide))
 have C4:Hid (u4.ownsRow B 61 12 (.slice q.c b.cs.length q.cc) b.cs.length (Aj (Xu K3 b.cs.length))):=C3.o.kept g4 (Bj C3.o L3.o (by decide))
 have G4:Hid (u4.ownsRow B 9 1 (.slice q.g b.log.length q.gc) b.log.length (Am b.log)):=G3.o.kept g4 (Bj G3.o L3.o (by decide))
 have L4:Hid (u4.ownsRow B 113 3 (.slice q.l b.ls.length q.lc) b.ls.length (Ag (V9 K4 b.ls.length))):=o4;clear o4 g4 c0 c1 c2 c3 c4 c5 HT3 HZ3 HQ3 H4 O3 A3 C3 L3 G3;obtain ⟨c0,c1,c2,c3,c4,c5,-,-,-,-,-,-⟩:=HZ4.o;go_wp2_with fail
 refine Calls.mono (H5.o u4 G4.o) ?_;rintro e u5 ⟨rfl,o5,g5⟩;have HQ5:Hid (Q u5):=HQQ.o _ (.inr (.inr (.inr (.inr rfl)))) _ _ g5 HQ4.o;obtain ⟨x2,x3,x4,x5,x6⟩:=HE.o
 have HM:Hid (iB B b q u5):=by
  refine ⟨O4.o.kept g5 (Bj O4.o G4.o (by decide)),?_,?_,?_,?_⟩
  ·rw [x2];exact A4.o.kept g5 (Bj A4.o G4.o (by decide))
  ·rw [x3];exact C4.o.kept g5 (Bj C4.o G4.o (by decide))
  ·rw [x4];exact L4.o.kept g5 (Bj L4.o G4.o (by decide))
  ·rw [x5];exact o5
 have HK:Hid (mT b=K6):=x6;clear o5 g5 c0 c1 c2 c3 c4 c5 x2 x3 x4 x5 x6 HE HZ4 HQ4 H5 O4 A4 C4 L4 G4;go_wp2;go_ret;rw [HK.o];exact ⟨rfl,HM.o,HQ5.o⟩
theorem fW (b:Bk) (q:Bp) (B:Nat) (w:World) (hm:iB B b q w) (hn:D0 b) :
  Calls prog 21 #[C5 b q,.int .i64 1] w fun e w'=>e=.returned (.int .i64 (mT b:Int))∧BW w w':=by
 obtain ⟨n1,n2,n3,n4,n5⟩:=hn;obtain ⟨X,hX⟩:∃ X,w.heap.size=X:=⟨_,rfl⟩;obtain ⟨W,hW⟩:∃ W,W=w.alloc (.cells #[.int .i64 b.today,.slice q.o b.off.length q.oc,.slice q.a b.az.length q.ac,.slice q.c b.cs.length q.cc,.slice q.l b.ls.length q.lc,.slice q.g b.log.length q.gc] 31):=⟨_,rfl⟩
 have bW:BW w W:=by rw [hW];exact bR.alloc nL _
 have HZ:Hid (∀ u,BW W u→ZQ X b q u):=fun u h=>Z6.below (by rw [hW,← hX];exact Z6.new w _ _ _ _ _ _ _) h
 have HM:Hid (∀ u,BW W u→iB B b q u):=fun u h=>(hm.below bW).below h
 have HBW:Hid (BW w W):=bW;obtain ⟨K2,hK2⟩:∃ k,k2B b=k:=⟨_,rfl⟩;obtain ⟨K3,hK3⟩:∃ k,k3B b=k:=⟨_,rfl⟩;obtain ⟨K4,hK4⟩:∃ k,k4B b=k:=⟨_,rfl⟩;obtain ⟨K5,hK5⟩:∃ k,k5B b=k:=⟨_,rfl⟩;obtain ⟨K6,hK6⟩:∃ k,mT b=k:=⟨_,rfl⟩;have e2:K2=1+b.off.length:=hK2.symm
 have e3:K3=K2+6*b.az.length:=by rw [← hK2,← hK3];rfl
 have e4:K4=K3+12*b.cs.length:=by rw [← hK3,← hK4];rfl
 have e5:K5=K4+3*b.ls.length:=by rw [← hK4,← hK5];rfl
 have e6:K6=K5+b.log.length:=by rw [← hK5,← hK6];rfl
 have H1:Hid (∀ u,BW W u→Calls prog 60 #[.slice q.o b.off.length q.oc,.int .i64 1] u fun e w'=>e=.returned (.int .i64 (K2:Int))∧BW u w'):=fun u h=>by
  have:=U4 q.o q.oc b.off.length 1 u (Hq (HM.o u h).off) (by omega) (by omega) (by omega)
  rw [show (1:Int)+(b.off.length:Int)=(K2:Int) from by omega] at this
  exact this.mono (fun e w' ⟨h1,h2⟩=>⟨h1,by rw [h2];exact bR⟩)
 have H2:Hid (∀ u,BW W u→Calls prog 61 #[.slice q.a b.az.length q.ac,.int .i64 (K2:Int)] u fun e w'=>e=.returned (.int .i64 (K3:Int))∧BW u w'):=fun u h=>by
  have hh:=(HM.o u h).az;rw [hK2] at hh
  rw [e3];exact Ru q.a q.ac b.az.length K2 u (Fd hh) (by omega) (by omega) (by omega)
 have H3:Hid (∀ u,BW W u→Calls prog 62 #[.slice q.c b.cs.length q.cc,.int .i64 (K3:Int)] u fun e w'=>e=.returned (.int .i64 (K4:Int))∧BW u w'):=fun u h=>by
  have hh:=(HM.o u h).cs;rw [hK3] at hh
  rw [e4];exact (R9 q.c q.cc b.cs.length K3 u (F2 hh) n3 (by omega)).mono (fun e w' ⟨h1,h2⟩=>⟨h1,by rw [h2];exact bR⟩)
 have H4:Hid (∀ u,BW W u→Calls prog 63 #[.agg #[.slice q.l b.ls.length q.lc],.int .i64 (K4:Int)] u fun e w'=>e=.returned (.int .i64 (K5:Int))∧BW u w'):=fun u h=>by
  have hh:=(HM.o u h).ls;rw [hK4] at hh;have hl:(V9 K4 b.ls.length).length=b.ls.length:=Mn _ _
  rw [e5];exact Qg q.l q.lc b.ls.length K4 u (Df (by rw [hl];exact hh)) (by omega) (by omega)
 have H5:Hid (∀ u,BW W u→Calls prog 64 #[.slice q.g b.log.length q.gc,.int .i64 (K5:Int)] u fun e w'=>e=.returned (.int .i64 (K6:Int))∧BW u w'):=fun u h=>by
  have hh:=(HM.o u h).log;rw [hK5] at hh;have hl:(eI K5 b.log.length).length=b.log.length:=Kn _ _
  rw [e6];exact Ph q.g q.gc b.log.length K5 u (Ep (by rw [hl];exact hh)) (by omega) (by omega) (by omega)
 have HK:Hid (mT b=K6):=hK6;have HW:Hid _:=hW;have HX:Hid _:=hX
 have z2:¬ (K2:Int)<0:=by omega
 have z3:¬ (K3:Int)<0:=by omega
 have z4:¬ (K4:Int)<0:=by omega
 have z5:¬ (K5:Int)<0:=by omega
 have z6:¬ (K6:Int)<0:=by omega
 unfold C5;clear hm n1 n2 n3 n4 n5 bW e2 e3 e4 e5 e6 hK2 hK3 hK4 hK5 hK6 hW hX;have k0:BW W W:=bR;obtain ⟨c0,c1,c2,c3,c4,c5,-,-,-,-,-,-⟩:=HZ.o W k0
 go_enter func21,ntmps21
 go_wp2_with fail
 rw [← HW.o];refine Calls.mono (H1.o W k0) ?_;rintro e u1 ⟨rfl,p1⟩;rw [HX.o];have K1:Hid (BW W u1):=p1;clear p1 c0 c1 c2 c3 c4 c5 HW HX k0;obtain ⟨c0,c1,c2,c3,c4,c5,-,-,-,-,-,-⟩:=HZ.o u1 K1.o;go_wp2_with fail
 refine Calls.mono (H2.o u1 K1.o) ?_;rintro e u2 ⟨rfl,p2⟩;have K2':Hid (BW W u2):=next K1.o p2;clear p2 c0 c1 c2 c3 c4 c5;obtain ⟨c0,c1,c2,c3,c4,c5,-,-,-,-,-,-⟩:=HZ.o u2 K2'.o;go_wp2_with fail
 refine Calls.mono (H3.o u2 K2'.o) ?_;rintro e u3 ⟨rfl,p3⟩;have K3':Hid (BW W u3):=next K2'.o p3;clear p3 c0 c1 c2 c3 c4 c5;obtain ⟨c0,c1,c2,c3,c4,c5,-,-,-,-,-,-⟩:=HZ.o u3 K3'.o;go_wp2_with fail
 refine Calls.mono (H4.o u3 K3'.o) ?_;rintro e u4 ⟨rfl,p4⟩;have K4':Hid (BW W u4):=next K3'.o p4;clear p4 c0 c1 c2 c3 c4 c5;obtain ⟨c0,c1,c2,c3,c4,c5,-,-,-,-,-,-⟩:=HZ.o u4 K4'.o;go_wp2_with fail
 refine Calls.mono (H5.o u4 K4'.o) ?_;rintro e u5 ⟨rfl,p5⟩;have K5':Hid (BW w u5):=next HBW.o (next K4'.o p5);clear p5 c0 c1 c2 c3 c4 c5;go_wp2;go_ret;rw [HK.o];exact ⟨rfl,K5'.o⟩
theorem Gc.far {B r:Nat} {b:Bk} {q:Bp} {u u':World} (h:Gc B b q u) (g:u.grownBy u' (some r)) (hr:r<B):Gc B b q u':=by
 have ne:∀ {t:TypeId} {s n:Nat} {v:Value} {xs:List Value},u.ownsRow B t s v n xs→v.ownBlock=none∨v.ownBlock≠some r:=fun o=>.inr fun e=>by
  have:=(o.lt _ e).1;omega
 exact ⟨h.off.kept g (ne h.off),h.az.kept g (ne h.az),h.cs.kept g (ne h.cs),h.ls.kept g (ne h.ls),h.log.kept g (ne h.log)⟩
theorem Gc.rows {B:Nat} {b:Bk} {q:Bp} {u:World} (h:Gc B b q u) {r:Option Nat} (hr:Vf b q r):∀ j,r=some j→B≤j∧j<u.heap.size:=by
 intro j hj
 rcases hr with rfl | rfl | rfl | rfl | rfl
 ·exact h.off.lt j hj
 ·exact h.az.lt j hj
 ·exact h.cs.lt j hj
 ·exact h.ls.lt j hj
 ·exact h.log.lt j hj
def LQ (V:World) (X:Nat) (b:Bk) (q:Bp) (u:World):Prop:=BW V u∧ZQ X b q u
theorem oG {V:World} {X B:Nat} {b:Bk} {q:Bp} {u0:World} (ho:Gc B b q u0) (hV:V.heap.size≤B) (hX:u0.heap.size≤X):∀ r,Vf b q r→∀ u u':World,u.grownBy u' r→LQ V X b q u→LQ V X b q u':=by
 intro r hr u u' g h;have hrow:=ho.rows hr
 refine ⟨h.1.grown g h.1.size (fun j hj=>by have:=(hrow j hj).1;omega),h.2.grown g (fun e=>?_)⟩
 have:=(hrow X e.symm).2
 omega
def Lg (b:Bk):List Nat:=(List.range b.cs.length).filter fun i=>Ds b.today (A8 b.cs i)
theorem bK (b:Bk):Bl (Ds b.today) b.cs b.cs.length=(Lg b).map fun i:Nat=>(i:Int):=rfl
theorem cH {b:Bk} {d:Nat} (h:d ∈ Lg b):d<b.cs.length:=List.mem_range.1 (List.mem_filter.1 h).1
def IxR (b:Bk) (w:World) (e:Ending) (w':World):Prop :=
 ∃ (n:Nat) (b':Bk) (q:Bp),e=.returned (.tuple #[C5 b' q,.int .i64 (n:Int)])∧Ka (D9 F0) b (Lg b) b' n∧Ej b'∧Gc w.heap.size b' q w'∧BW w w'
theorem Oj {G:Nat} {A:Nat→Addr} (b:Bk) (p:Bp) (w:World) (hx:Aq w b p) (hP:Ej b) (hg:∀ l ∈ b.log,l.length≤1048576) (hE:E1 G A w) :
  Calls prog 27 #[C5 b p] w (IxR b w):=by
 obtain ⟨X,hX⟩:∃ X,w.heap.size=X:=⟨_,rfl⟩;obtain ⟨R,hR⟩:∃ R,X+1=R:=⟨_,rfl⟩;obtain ⟨U,hU⟩:∃ U,U=(w.alloc (.cells #[.int .i64 b.today,.slice p.o b.off.length p.oc,.slice p.a b.az.length p.ac,.slice p.c b.cs.length p.cc,.slice p.l b.ls.length p.lc,.slice p.g b.log.length p.gc] 31)).alloc (.cells #[.int .i64 0,.slice none 0 0,.slice none 0 0,.slice none 0 0,.slice none 0 0,.slice none 0 0] 31):=⟨_,rfl⟩
 have HBU:Hid (BW w U):=by rw [Hid,hU];go_grown
 have HZU:Hid (ZQ X b p U):=by rw [Hid,hU,← hX];exact (Z6.new w _ _ _ _ _ _ _).below (bR.alloc nL _)
 have HRU:Hid (Z0 R U):=by
  have h:=Z6.new (w.alloc (.cells #[.int .i64 b.today,.slice p.o b.off.length p.oc,.slice p.a b.az.length p.ac,.slice p.c b.cs.length p.cc,.slice p.l b.ls.length p.lc,.slice p.g b.log.length p.gc] 31)) (.int .i64 0) (.slice none 0 0) (.slice none 0 0) (.slice none 0 0) (.slice none 0 0) (.slice none 0 0) 31
  rw [Hid,hU,← hR,← hX];simpa using h
 have HRL:Hid (R<U.heap.size):=HRU.o.lt;have HXL:Hid (X<U.heap.size):=HZU.o.lt;have HEU:Hid (E1 G A U):=Gx _ _ hE (HBU.o.mono hE.big);have HBK:Hid (Aq U b p):=hx.below HBU.o;have HOP:Hid (Calls prog 50 #[C5 b p] U (OpR b U)):=fF (kn1 G A) b p U HBK.o hP.sm hP.ref hg;have HPR:Hid (Ej b):=hP;have HXX:Hid _:=hX;have HRR:Hid _:=hR;have HUU:Hid _:=hU;unfold C5 at HOP ⊢;clear hx hP hg hE hX hR hU
 go_enter func27,ntmps27
 go_upto_region 1 with fail
 rw [← HUU.o,HXX.o,HRR.o];clear HUU;obtain ⟨x0,x1,x2,x3,x4,x5,-,-,-,-,-,-⟩:=HZU.o;go_wp2_with fail
 refine Calls.mono HOP.o ?_;rintro e w3 ⟨K,q,rfl,ks3,p3⟩;have HK3:Hid (KS U.heap.size K 0 b q w3):=ks3;have HB3:Hid (BW w w3):=next HBU.o p3;have HZ3:Hid (ZQ X b p w3):=HZU.o.below p3;have HR3:Hid (Z0 R w3):=HRU.o.below p3;have HE3:Hid (E1 G A w3):=Gx _ _ HEU.o (p3.mono HEU.o.big)
 have HDU:Hid (Calls prog 37 #[C5 b p] w3 (qN w3 ((Lg b).map fun i:Nat=>(i:Int)))):=Uw b p w3 (HBK.o.below p3) HPR.o.sm
 have HUW:Hid (U.heap.size≤w3.heap.size):=p3.size;unfold C5 at HDU;clear ks3 p3 HOP x0 x1 x2 x3 x4 x5 HBK HZU HRU;obtain ⟨x0,x1,x2,x3,x4,x5,-,-,-,-,-,-⟩:=HZ3.o;go_wp2_with fail
 refine Calls.mono HDU.o ?_;rintro e w4 ⟨a,k,rfl,o4,p4⟩;have HK4:Hid (KS U.heap.size K 0 b q w4):=HK3.o.below p4;have HB4:Hid (BW w w4):=next HB3.o p4;have HR4:Hid (Z0 R w4):=HR3.o.below p4;have HE4:Hid (E1 G A w4):=Gx _ _ HE3.o (p4.mono HE3.o.big)
 obtain ⟨zs,hzs⟩:∃ zs:List Int,(Lg b).map (fun i:Nat=>(i:Int))=zs:=⟨_,rfl⟩
 rw [hzs] at o4 ⊢
 have hzl:zs.length≤b.cs.length:=by rw [← hzs,← bK];exact Iz _ _ _
 have HEX:Hid (Calls prog 76 #[.pointer (some ⟨K,0,none⟩),.slice a zs.length k] w4 (ExR U.heap.size K Ej b (Lg b) w4)) :=
  lQ HEU.o.big (fun b h=>h) (fun b d b2 hd h hdo=>rB (by have:=Mk hd;omega) h hdo) b q w3.heap.size a k (Lg b) zs hzs.symm w4 HK4.o HE4.o HPR.o o4 (fun d hd=>by have:=cH hd;have:=HPR.o.sm.2.2.1;omega) (by have:=HPR.o.sm.2.2.1;omega)
 clear o4 p4 HDU x0 x1 x2 x3 x4 x5 HZ3 HR3 HK3 hzs hzl;go_wp2_with fail
 refine Calls.mono HEX.o ?_;rintro e w5 ⟨n,b',q',rfl,hn,hex,hj,ks5,p5⟩;have HK5:Hid (KS U.heap.size K 0 b' q' w5):=ks5;have HB5:Hid (BW w w5):=HB4.o.trans (p5.b.mono HBU.o.size);have HR5:Hid (Z0 R w5):=HR4.o.under p5.b HRL.o;have HX5:Hid (Ka (D9 F0) b (Lg b) b' n):=hex;have HJ5:Hid (Ej b'):=hj
 have HHO:Hid (Calls prog 52 #[.pointer (some ⟨K,0,none⟩)] w5 fun e w'=>e=.returned (C5 b' q')∧KS U.heap.size K 0 b' q' w'∧Below U.heap.size w5 w'):=eG b' q' w5 HK5.o
 unfold C5 at HHO;clear ks5 p5 hex hj hn HEX HR4 HK4;go_wp2_with fail
 refine Calls.mono HHO.o ?_;rintro e w6 ⟨rfl,ks6,p6⟩;have HK6:Hid (KS U.heap.size K 0 b' q' w6):=ks6;have HR6:Hid (Z0 R w6):=HR5.o.under p6 HRL.o;have HB6:Hid (BW w w6):=HB5.o.trans (p6.mono HBU.o.size);clear ks6 p6 HHO;obtain ⟨t0,t1,t2,t3,t4,t5,s0,s1,s2,s3,s4,s5⟩:=HR6.o;go_wp2
 refine bodyPost_ret (by simp [results,results27,go_sem,t0,t1,t2,t3,t4,t5];try rfl) rfl ?_
 have bel:=Ax (R:=R) (by have:=HXX.o;have:=HRR.o;omega) HB6.o
 have o6:=HK6.o.own5;exact ⟨n,b',q',rfl,HX5.o,HJ5.o,(Gc.mk (Ea o6.off HRL.o _ _ _ _ _ _) (Ea o6.az HRL.o _ _ _ _ _ _) (Ea o6.cs HRL.o _ _ _ _ _ _) (Ea o6.ls HRL.o _ _ _ _ _ _) (Ea o6.log HRL.o _ _ _ _ _ _)).low HBU.o.size,bel _ _ _ _ _ _⟩
end Go.Proofs.YtomiclakhjncbaaGreatDoor.Kb
namespace Go.Proofs.YtomiclakhjncbaaGreatDoor
open Go.RowKit Go.Proofs.Tryz
set_option maxRecDepth 100000
set_option maxHeartbeats 12800000
def sR (b:Bk):Prop:=D0 b∧(∀ a ∈ b.az,a.ref.length≤1048576)∧(Lit.int .i64 b.today).wf=true
theorem oF {x:Int} (h1:-1≤x) (h2:x≤1000000000000000000):(Lit.int .i64 x).wf=true:=by
 simp [Lit.wf,IntKind.min,IntKind.max,IntKind.signed,IntKind.bits];omega
theorem rQ:Tp sR sG (Ja F0) where
 pay:=fun b p g k n0 n1 n2 n3 w hx _ hp c0 c1 c2 c3 h1 h2=>(lR F0 Yz b p g k n0 n1 n2 n3 w hx hp.1 hp.2.1 hp.2.2 (oF h2 (by omega)) c0 c1 c2 c3).mono (by
  rintro e w' ⟨x,hx,h⟩;exact ⟨_,⟨x,hx,rfl⟩,h⟩)
 act:=fun b p i x w hx _ hp=>kC F0 Yz b p i x w hx hp.1
theorem nD (b:Bk) (l:List UInt8) (r:Bk×Int) (h:Fu b l r):r.1.log=b.log:=by
 unfold Fu Db at h
 split at h
 ·rw [h];unfold Fr;split <;> rfl
 split at h
 ·split at h
  ·rw [h];unfold Fq;split <;> rfl
  ·rw [h]
 split at h
 ·split at h
  ·obtain ⟨x,-,rfl⟩:=h
   unfold Jk
   split
   ·rfl
   split
   ·rfl
   split
   ·rfl
   split <;> rfl
  ·rw [h]
 split at h
 ·split at h
  ·rw [h];unfold Ja
   split
   ·rfl
   split
   ·rfl
   split <;> rfl
  ·rw [h]
 ·rw [h]
theorem lO:cB sR Fu where
 log:=nD
 small:=fun _ h=>h.1
 calls:=fun b p line w hx hah hp hl=>fV F0 Yz (fun _ h=>h.1) rQ b p line w hx hah hp hl
end Go.Proofs.YtomiclakhjncbaaGreatDoor
namespace Go.Proofs.YtomiclakhjncbaaGreatDoor.Kb
open Go.RowKit Go.Proofs.Tryz
set_option maxRecDepth 100000
set_option maxHeartbeats 12800000
theorem mS {ws:Be} {r r':Bk×Int} (h:Agr ws r r'):r.2=0 ↔ r'.2=0:=by
 rcases h.2 with e | ⟨e1,e2,_⟩
 ·rw [e]
 ·rw [e1,e2];decide
theorem Q4 {q:Bp} {n B:Nat} (h:FrB q n) (hB:B<n):Wq q B:=⟨Bb h.o hB,Bb h.a hB,Bb h.c hB,Bb h.l hB,Bb h.g hB⟩
theorem nZ {V u2:World} {t:TypeId} (bb:Below (V.alloc (.cells #[.int .i64 0,.slice none 0 0,.slice none 0 0,.slice none 0 0,.slice none 0 0,.slice none 0 0] t)).drew.heap.size (V.alloc (.cells #[.int .i64 0,.slice none 0 0,.slice none 0 0,.slice none 0 0,.slice none 0 0,.slice none 0 0] t)).drew u2) :
  Z6 V.heap.size (.int .i64 0) (.slice none 0 0) (.slice none 0 0) (.slice none 0 0) (.slice none 0 0) (.slice none 0 0) u2∧BW V u2 :=
 ⟨((Z6.new V _ _ _ _ _ _ t).below (bR.drew)).below bb,Below.trans (((Below.refl V.heap.size V).alloc nL _).drew) (bb.mono (by simp))⟩
end Go.Proofs.YtomiclakhjncbaaGreatDoor.Kb
