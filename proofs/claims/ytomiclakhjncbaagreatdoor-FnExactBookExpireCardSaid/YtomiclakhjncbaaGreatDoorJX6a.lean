import Derived.Test.YtomiclakhjncbaaGreatDoorJX0a
import Derived.Test.YtomiclakhjncbaaGreatDoorKXFDis7
import Derived.Test.YtomiclakhjncbaaGreatDoorKXFDis8
namespace Go.Proofs.YtomiclakhjncbaaGreatDoor
open Go.RowKit Go.Proofs.Tryz
set_option maxRecDepth 100000
set_option maxHeartbeats 12800000
def Eu (b:Nat) (ao:Option Addr) (cp:Nat) (zs:List Int) (a:Ac) (t:Int) (c:Cs) (w:World) (e:Ending) (w':World):Prop :=
 DR b ao cp zs a t w (.int .i64 (B4 c a t zs)) (if B4 c a t zs=0 then Bx c a t zs else c) (if B4 c a t zs=0 then Bw c a else []) e w'
section
variable {b:Nat} {ao:Option Addr} {cp:Nat} {zs:List Int} {a:Ac} {t:Int} {c:Cs} {v:Value} {w:World}
theorem Ew {f:FuncId} {r:Int} {n:Cs} {es:List En} {c':Cs} {es':List En} (g:Calls prog f #[.pointer (some ⟨b,0,none⟩)] w (DR b ao cp zs a t w (.int .i64 r) c' es')) (h1:B4 c a t zs=r) (h2:Bx c a t zs=n) (h3:Bw c a=es)
  (h4:c'=if r=0 then n else c) (h5:es'=if r=0 then es else []):Calls prog f #[.pointer (some ⟨b,0,none⟩)] w (Eu b ao cp zs a t c w):=by
 subst h1 h2 h3 h4 h5;exact g
theorem tC (h:DS b ao cp zs a t c [] v w) (hn:zs.length≤1099511627776) (hk:a.kind=0):Calls prog 288 #[.pointer (some ⟨b,0,none⟩)] w (Eu b ao cp zs a t c w) :=
 Ew (oI h hn) (by simp [B4,hk]) (by simp [Bx,hk];rfl) (by simp [Bw,hk];rfl) (by rfl) (by rfl)
theorem sT (h:DS b ao cp zs a t c [] v w) (hk:a.kind=1):Calls prog 289 #[.pointer (some ⟨b,0,none⟩)] w (Eu b ao cp zs a t c w):=by
 refine Ew (mH h) (show B4 c a t zs=if Bv t c.due=true then 4 else 0 by simp [B4,hk]) (show Bx c a t zs=J9 c by simp [Bx,hk]) (show Bw c a=[] by simp [Bw,hk]) ?_ ?_
 ·cases Bv t c.due <;> simp
 ·simp
theorem tD (h:DS b ao cp zs a t c [] v w) (hn:zs.length≤1099511627776) (hk:a.kind=2):Calls prog 290 #[.pointer (some ⟨b,0,none⟩)] w (Eu b ao cp zs a t c w) :=
 Ew (Yw h hn) (by simp [B4,hk]) (by simp [Bx,hk]) (by simp [Bw,hk]) rfl rfl
theorem sD (h:DS b ao cp zs a t c [] v w) (hn:zs.length≤1099511627776) (hb:0≤c.bk∧c.bk≤1000000000000) (hc:0≤c.cl∧c.cl≤1000000000000) (hk:a.kind=3):Calls prog 291 #[.pointer (some ⟨b,0,none⟩)] w (Eu b ao cp zs a t c w) :=
 Ew (aE h hn hb hc) (by simp [B4,hk,Dd]) (by simp [Bx,hk]) (by simp [Bw,hk]) rfl rfl
theorem tB (h:DS b ao cp zs a t c [] v w) (hn:zs.length≤1099511627776) (hk:a.kind=4):Calls prog 292 #[.pointer (some ⟨b,0,none⟩)] w (Eu b ao cp zs a t c w) :=
 Ew (Z2 h hn) (by simp [B4,hk,Dd]) (by simp [Bx,hk]) (show Bw c a=[] by simp [Bw,hk]) rfl (by simp)
theorem sE (h:DS b ao cp zs a t c [] v w) (hb:0≤c.bk∧c.bk≤1000000000000) (hc:0≤c.cl∧c.cl≤1000000000000) (hk:a.kind=5):Calls prog 293 #[.pointer (some ⟨b,0,none⟩)] w (Eu b ao cp zs a t c w) :=
 Ew (Rl h hb hc) (by simp [B4,hk]) (by simp [Bx,hk];rfl) (by simp [Bw,hk];rfl) (by rfl) (by rfl)
theorem sX (h:DS b ao cp zs a t c [] v w) (hn:zs.length≤1099511627776) (hk:a.kind=6):Calls prog 294 #[.pointer (some ⟨b,0,none⟩)] w (Eu b ao cp zs a t c w):=by
 refine Ew (Yn h hn) (show B4 c a t zs=if Bv t c.due=true then 4 else 0 by simp [B4,hk]) (show Bx c a t zs=⟨c.iss,c.acq,c.cur,c.am,6,c.rsn,c.cl,c.bk,c.fee,c.cop,c.sta,C6 t 60 zs⟩ by simp [Bx,hk]) (show Bw c a=[] by simp [Bw,hk]) ?_ ?_
 ·cases Bv t c.due <;> simp
 ·simp
theorem sM (h:DS b ao cp zs a t c [] v w) (hb:0≤c.bk∧c.bk≤1000000000000) (hc:0≤c.cl∧c.cl≤1000000000000) (hf:0≤c.fee∧c.fee≤1000000) (hk:a.kind=7):Calls prog 295 #[.pointer (some ⟨b,0,none⟩)] w (Eu b ao cp zs a t c w):=by
 refine Ew (mB h hb hc hf) (show B4 c a t zs=if 0≤a.am∧a.am≤c.cl then 0 else 2 by simp [B4,hk]) (show Bx c a t zs=Es c a.am by simp [Bx,hk]) (show Bw c a=Dg c a.am by simp [Bw,hk]) ?_ ?_
 ·by_cases hx:0≤a.am∧a.am≤c.cl
  ·rw [if_pos hx,if_pos hx,if_pos rfl]
  ·rw [if_neg hx,if_neg hx,if_neg (by decide)]
 ·by_cases hx:0≤a.am∧a.am≤c.cl
  ·rw [if_pos hx,if_pos hx,if_pos rfl]
  ·rw [if_neg hx,if_neg hx,if_neg (by decide)]
theorem tA (h:DS b ao cp zs a t c [] v w) (hb:0≤c.bk∧c.bk≤1000000000000) (hc:0≤c.cl∧c.cl≤1000000000000) (hf:0≤c.fee∧c.fee≤1000000) (hk:a.kind=8):Calls prog 296 #[.pointer (some ⟨b,0,none⟩)] w (Eu b ao cp zs a t c w):=by
 refine Ew (Y0 h hb hc hf) (show B4 c a t zs=if Bv t c.due=true then 0 else 4 by simp [B4,hk]) (show Bx c a t zs=Cx c by simp [Bx,hk]) (show Bw c a=Ck c by simp [Bw,hk]) ?_ ?_
 ·cases Bv t c.due <;> simp
 ·cases Bv t c.due <;> simp
theorem sA (h:DS b ao cp zs a t c [] v w) (hk:a.kind=9):Calls prog 297 #[.pointer (some ⟨b,0,none⟩)] w (Eu b ao cp zs a t c w) :=
 Ew (iR h) (by simp [B4,hk]) (by simp [Bx,hk];rfl) (show Bw c a=[] by simp [Bw,hk]) (by rfl) (by rfl)
end
end Go.Proofs.YtomiclakhjncbaaGreatDoor
