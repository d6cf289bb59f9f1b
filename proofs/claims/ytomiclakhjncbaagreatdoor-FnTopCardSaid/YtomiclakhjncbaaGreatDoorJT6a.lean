import Derived.Test.YtomiclakhjncbaaGreatDoorKTFDis7
set_option maxRecDepth 100000
set_option maxHeartbeats 12800000
namespace Go.Proofs.YtomiclakhjncbaaGreatDoor
open Go.RowKit Go.Proofs.Tryz
def Eu (b:Nat) (i:Option Addr) (j:Nat) (zs:List Int) (a:Ac) (t:Int) (c:Cs) (w:World) (e:Ending) (w':World):Prop :=
 DR b i j zs a t w (qzI (B4 c a t zs)) (if B4 c a t zs=0 then Bx c a t zs else c) (if B4 c a t zs=0 then Bw c a else []) e w'
section
variable {b:Nat} {i:Option Addr} {j:Nat} {zs:List Int} {a:Ac} {t:Int} {c:Cs} {v:Value} {w:World}
theorem Ew {f:FuncId} {r:Int} {n:Cs} {es:List En} {p:Cs} {m:List En} (g:Calls prog f #[.pointer (some (qzA b 0))] w (DR b i j zs a t w (qzI r) p m)) (q:B4 c a t zs=r) (s:Bx c a t zs=n) (u:Bw c a=es)
  (h4:p=if r=0 then n else c) (h5:m=if r=0 then es else []):Calls prog f #[.pointer (some (qzA b 0))] w (Eu b i j zs a t c w):=by
 subst q s u h4 h5;exact g
theorem tC (h:DS b i j zs a t c [] v w) (k:zs.length<=1099511627776) (d:a.kind=0):Calls prog 288 #[.pointer (some (qzA b 0))] w (Eu b i j zs a t c w) :=
 Ew (oI h k) (by simp [B4,d]) (by simp [Bx,d];rfl) (by simp [Bw,d];rfl) (by rfl) (by rfl)
theorem sT (h:DS b i j zs a t c [] v w) (d:a.kind=1):Calls prog 289 #[.pointer (some (qzA b 0))] w (Eu b i j zs a t c w):=by
 refine Ew (mH h) (show B4 c a t zs=if Bv t c.due=true then 4 else 0 by simp [B4,d]) (show Bx c a t zs=J9 c by simp [Bx,d]) (show Bw c a=[] by simp [Bw,d]) ?_ ?_
 ·cases Bv t c.due <;> simp
 ·simp
theorem tD (h:DS b i j zs a t c [] v w) (k:zs.length<=1099511627776) (d:a.kind=2):Calls prog 290 #[.pointer (some (qzA b 0))] w (Eu b i j zs a t c w) :=
 Ew (Yw h k) (by simp [B4,d]) (by simp [Bx,d]) (by simp [Bw,d]) rfl rfl
theorem sD (h:DS b i j zs a t c [] v w) (k:zs.length<=1099511627776) (hb:0<=c.bk/\c.bk<=1000000000000) (l:0<=c.cl/\c.cl<=1000000000000) (d:a.kind=3):Calls prog 291 #[.pointer (some (qzA b 0))] w (Eu b i j zs a t c w) :=
 Ew (aE h k hb l) (by simp [B4,d,Dd]) (by simp [Bx,d]) (by simp [Bw,d]) rfl rfl
theorem tB (h:DS b i j zs a t c [] v w) (k:zs.length<=1099511627776) (d:a.kind=4):Calls prog 292 #[.pointer (some (qzA b 0))] w (Eu b i j zs a t c w) :=
 Ew (Z2 h k) (by simp [B4,d,Dd]) (by simp [Bx,d]) (show Bw c a=[] by simp [Bw,d]) rfl (by simp)
theorem sE (h:DS b i j zs a t c [] v w) (hb:0<=c.bk/\c.bk<=1000000000000) (l:0<=c.cl/\c.cl<=1000000000000) (d:a.kind=5):Calls prog 293 #[.pointer (some (qzA b 0))] w (Eu b i j zs a t c w) :=
 Ew (Rl h hb l) (by simp [B4,d]) (by simp [Bx,d];rfl) (by simp [Bw,d];rfl) (by rfl) (by rfl)
theorem sX (h:DS b i j zs a t c [] v w) (k:zs.length<=1099511627776) (d:a.kind=6):Calls prog 294 #[.pointer (some (qzA b 0))] w (Eu b i j zs a t c w):=by
 refine Ew (Yn h k) (show B4 c a t zs=if Bv t c.due=true then 4 else 0 by simp [B4,d]) (show Bx c a t zs=⟨c.iss,c.acq,c.cur,c.am,6,c.rsn,c.cl,c.bk,c.fee,c.cop,c.sta,C6 t 60 zs⟩ by simp [Bx,d]) (show Bw c a=[] by simp [Bw,d]) ?_ ?_
 ·cases Bv t c.due <;> simp
 ·simp
theorem sM (h:DS b i j zs a t c [] v w) (hb:0<=c.bk/\c.bk<=1000000000000) (l:0<=c.cl/\c.cl<=1000000000000) (o:0<=c.fee/\c.fee<=1000000) (d:a.kind=7):Calls prog 295 #[.pointer (some (qzA b 0))] w (Eu b i j zs a t c w):=by
 refine Ew (mB h hb l o) (show B4 c a t zs=if 0<=a.am/\a.am<=c.cl then 0 else 2 by simp [B4,d]) (show Bx c a t zs=Es c a.am by simp [Bx,d]) (show Bw c a=Dg c a.am by simp [Bw,d]) ?_ ?_
 ·by_cases hx:0<=a.am/\a.am<=c.cl
  ·rw [if_pos hx,if_pos hx,if_pos rfl]
  ·rw [if_neg hx,if_neg hx,if_neg (by decide)]
 ·by_cases hx:0<=a.am/\a.am<=c.cl
  ·rw [if_pos hx,if_pos hx,if_pos rfl]
  ·rw [if_neg hx,if_neg hx,if_neg (by decide)]
theorem tA (h:DS b i j zs a t c [] v w) (hb:0<=c.bk/\c.bk<=1000000000000) (l:0<=c.cl/\c.cl<=1000000000000) (o:0<=c.fee/\c.fee<=1000000) (d:a.kind=8):Calls prog 296 #[.pointer (some (qzA b 0))] w (Eu b i j zs a t c w):=by
 refine Ew (Y0 h hb l o) (show B4 c a t zs=if Bv t c.due=true then 0 else 4 by simp [B4,d]) (show Bx c a t zs=Cx c by simp [Bx,d]) (show Bw c a=Ck c by simp [Bw,d]) ?_ ?_
 ·cases Bv t c.due <;> simp
 ·cases Bv t c.due <;> simp
theorem sA (h:DS b i j zs a t c [] v w) (d:a.kind=9):Calls prog 297 #[.pointer (some (qzA b 0))] w (Eu b i j zs a t c w) :=
 Ew (iR h) (by simp [B4,d]) (by simp [Bx,d];rfl) (show Bw c a=[] by simp [Bw,d]) (by rfl) (by rfl)
end
end Go.Proofs.YtomiclakhjncbaaGreatDoor
