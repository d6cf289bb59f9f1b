import Derived.Test.YtomiclakhjncbaaGreatDoorJT1a
import Derived.Test.YtomiclakhjncbaaGreatDoorCards
import Derived.Test.YtomiclakhjncbaaGreatDoorTie
import Derived.LaidMore
import Derived.Deep.DeepHandedRow
import Derived.Lay
import Derived.Stop.LaidErr
set_option maxRecDepth 100000
set_option maxHeartbeats 12800000
namespace Go.Proofs.YtomiclakhjncbaaGreatDoor
namespace Top
open Go.Proofs.Tryz
def Inv (c:Cs) (n:Int):Prop :=
 Ao c=true/\(c.st=0\/c.st=1\/c.st=2->c.cl=0/\c.bk=0)/\(c.st=3->1<=c.cl/\c.bk=c.cl) /\
 (c.st=4\/c.st=5\/c.st=6->1<=c.cl/\c.bk+c.cl<=c.am)/\(c.st=7->c.cl=0/\c.due = -1) /\
 c.fee=50000*n/\0<=n/\n<=1/\(c.st≠7->n=0)
theorem Aan {G A B am day:Int} (h:Ao (Ci G A B am day)=true):Inv (Ci G A B am day) 0:=by
 refine ⟨h,fun _=>⟨rfl,rfl⟩,?_,?_,?_,rfl,by omega,by omega,fun _=>rfl⟩
 all_goals intro g;simp [Ci] at g
theorem nG {c:Cs} {a:Ac} {t:Int} {zs:List Int} (h:doV c a t zs=0):D7 c t zs=true/\Dx c.st a.kind=true/\B4 c a t zs=0/\Ao (Bx c a t zs)=true:=by
 unfold doV at h
 split at h
 ·cases h
 ·rename_i C
  split at h
  ·cases h
  ·rename_i D
   split at h
   ·rename_i w;exact absurd h w
   ·rename_i w
    split at h
    ·rename_i F
     exact ⟨by simpa using C,by simpa using D,by simpa using w,F⟩
    ·cases h
theorem Ad0 {c:Cs} {a:Ac} {t:Int} {zs:List Int} (h:B4 c a t zs=0) (b:a.kind=2):1<=a.am/\a.am<=c.am:=by
 have e:B4 c a t zs=Bs c a t zs:=by simp [B4,b]
 rw [e] at h;unfold Bs at h
 split at h
 ·cases h
 ·split at h
  ·cases h
  ·rename_i g
   exact Decidable.byContradiction fun k=>g (.inl k)
theorem yK {c:Cs} {a:Ac} {t:Int} {zs:List Int} (h:B4 c a t zs=0) (b:a.kind=3\/a.kind=4):1<=a.am/\a.am<=c.cl:=by
 have e:B4 c a t zs=if Bv t c.due=true then 4 else if 1<=a.am/\a.am<=c.cl then 0 else 2:=by rcases b with b | b <;> simp [B4,b]
 rw [e] at h
 split at h
 ·cases h
 ·split at h
  ·assumption
  ·cases h
theorem Abi {c:Cs} {a:Ac} {t:Int} {zs:List Int} (h:B4 c a t zs=0) (b:a.kind=7):0<=a.am/\a.am<=c.cl:=by
 have e:B4 c a t zs=if 0<=a.am/\a.am<=c.cl then 0 else 2:=by simp [B4,b]
 rw [e] at h
 split at h
 ·assumption
 ·cases h
def B7 (c:Cs) (a:Ac):Int:=if a.kind=7\/(a.kind=8/\c.st=6) then 1 else 0
theorem Abc {c:Cs} {a:Ac} {t n:Int} {zs:List Int} (h:Inv c n) (y:doV c a t zs=0):Inv (Bx c a t zs) (n+B7 c a):=by
 obtain ⟨_,ho,o,d⟩:=nG y;obtain ⟨m,C,D,w,F,h5,L,h7,M⟩:=h;obtain ⟨_,_,_,_,r,_,_,p2,p3,p4,_,_⟩:=Jb m
 rcases Jt ho with ⟨b,hs⟩ | ⟨b,hs⟩ | ⟨b,hs⟩ | ⟨b,hs⟩ | ⟨b,hs⟩ | ⟨b,hs⟩ | ⟨b,hs⟩ | ⟨b,hs⟩ | ⟨b,hs⟩ | ⟨b,hs⟩
 ·have e:Bx c a t zs=⟨c.iss,c.acq,c.cur,c.am,1,c.rsn,c.cl,c.bk,c.fee,c.cop,c.sta,C6 t 20 zs⟩:=by simp [Bx,b]
  have f:B7 c a=0:=by simp [B7,b]
  rw [e] at d ⊢
  refine ⟨d,?_,?_,?_,?_,?_,?_,?_,?_⟩ <;> simp [f] <;> omega
 ·have e:Bx c a t zs=J9 c:=by simp [Bx,b]
  have f:B7 c a=0:=by simp [B7,b]
  rw [e] at d ⊢
  refine ⟨d,?_,?_,?_,?_,?_,?_,?_,?_⟩ <;> simp [f,J9] <;> omega
 ·have e:Bx c a t zs=⟨c.iss,c.acq,c.cur,c.am,3,a.rsn,a.am,a.am,c.fee,c.cop,c.sta,C6 t 30 zs⟩:=by simp [Bx,b]
  have f:B7 c a=0:=by simp [B7,b]
  have q:=Ad0 o b;rw [e] at d ⊢
  refine ⟨d,?_,?_,?_,?_,?_,?_,?_,?_⟩ <;> simp [f] <;> omega
 ·have e:Bx c a t zs=⟨c.iss,c.acq,c.cur,c.am,4,c.rsn,a.am,c.bk - a.am,c.fee,c.cop,c.sta,C6 t 30 zs⟩:=by simp [Bx,b]
  have f:B7 c a=0:=by simp [B7,b]
  have q:=yK o (.inl b);rw [e] at d ⊢
  refine ⟨d,?_,?_,?_,?_,?_,?_,?_,?_⟩ <;> simp [f] <;> omega
 ·have e:Bx c a t zs=⟨c.iss,c.acq,c.cur,c.am,5,c.rsn,a.am,c.bk,c.fee,c.cop,c.sta,C6 t 15 zs⟩:=by simp [Bx,b]
  have f:B7 c a=0:=by simp [B7,b]
  have q:=yK o (.inr b);rw [e] at d ⊢
  refine ⟨d,?_,?_,?_,?_,?_,?_,?_,?_⟩ <;> simp [f] <;> omega
 ·have e:Bx c a t zs=I5 c c.cl:=by simp [Bx,b]
  have f:B7 c a=0:=by simp [B7,b]
  rw [e] at d ⊢
  refine ⟨d,?_,?_,?_,?_,?_,?_,?_,?_⟩ <;> simp [f,I5] <;> omega
 ·have e:Bx c a t zs=⟨c.iss,c.acq,c.cur,c.am,6,c.rsn,c.cl,c.bk,c.fee,c.cop,c.sta,C6 t 60 zs⟩:=by simp [Bx,b]
  have f:B7 c a=0:=by simp [B7,b]
  rw [e] at d ⊢
  refine ⟨d,?_,?_,?_,?_,?_,?_,?_,?_⟩ <;> simp [f] <;> omega
 ·have e:Bx c a t zs=Es c a.am:=by simp [Bx,b]
  have f:B7 c a=1:=by simp [B7,b]
  rw [e] at d ⊢
  refine ⟨d,?_,?_,?_,?_,?_,?_,?_,?_⟩ <;> simp [f,Es] <;> omega
 ·have e:Bx c a t zs=Cx c:=by simp [Bx,b]
  rw [e] at d ⊢
  rcases hs with hs | hs | hs | hs | hs
  ·have e2:Cx c=J9 c:=by simp [Cx,hs]
   have f:B7 c a=0:=by simp [B7,b,hs]
   rw [e2] at d ⊢
   refine ⟨d,?_,?_,?_,?_,?_,?_,?_,?_⟩ <;> simp [f,J9] <;> omega
  ·have e2:Cx c=I5 c 0:=by simp [Cx,hs]
   have f:B7 c a=0:=by simp [B7,b,hs]
   rw [e2] at d ⊢
   refine ⟨d,?_,?_,?_,?_,?_,?_,?_,?_⟩ <;> simp [f,I5] <;> omega
  ·have e2:Cx c=I5 c 0:=by simp [Cx,hs]
   have f:B7 c a=0:=by simp [B7,b,hs]
   rw [e2] at d ⊢
   refine ⟨d,?_,?_,?_,?_,?_,?_,?_,?_⟩ <;> simp [f,I5] <;> omega
  ·have e2:Cx c=I5 c c.cl:=by simp [Cx,hs]
   have f:B7 c a=0:=by simp [B7,b,hs]
   rw [e2] at d ⊢
   refine ⟨d,?_,?_,?_,?_,?_,?_,?_,?_⟩ <;> simp [f,I5] <;> omega
  ·have e2:Cx c=Es c (c.cl / 2):=by simp [Cx,hs]
   have f:B7 c a=1:=by simp [B7,b,hs]
   rw [e2] at d ⊢
   refine ⟨d,?_,?_,?_,?_,?_,?_,?_,?_⟩ <;> simp [f,Es] <;> omega
 ·have e:Bx c a t zs=⟨c.iss,c.acq,c.cur,c.am,7,c.rsn,c.cl,c.bk,c.fee,c.cop,c.sta,-1⟩:=by simp [Bx,b]
  have f:B7 c a=0:=by simp [B7,b]
  rw [e] at d ⊢
  refine ⟨d,?_,?_,?_,?_,?_,?_,?_,?_⟩ <;> simp [f] <;> omega
def uH (c:Cs) (e:En):Prop:=Bt e=true/\e.2.2.1=c.cur/\(e.2.1=9999\/(e.2.1=c.iss/\e.1=c.acq)\/(e.1=c.iss/\e.2.1=c.acq))
def xY (c:Cs) (e:En):Int:=if e.2.1=9999 then 0 else if e.2.1=c.iss/\e.1=c.acq then e.2.2.2 else -e.2.2.2
def tV (e:En):Int:=if e.2.1=9999 then e.2.2.2 else 0
def Lp (c:Cs) (es:List En):Int:=(es.map (xY c)).sum
def A4 (es:List En):Int:=(es.map tV).sum
theorem K4 {a:Int} (h:Fb a=true):Cb a=true/\a≠9999:=by simpa [Fb] using h
theorem uO {c:Cs} {x:Int} (h:Ao c=true) (z:0<=x/\x<=100000000000):(∀ e ∈ Bg c x,uH c e)/\Lp c (Bg c x)=x/\A4 (Bg c x)=0:=by
 obtain ⟨v,r,p2,p3,_⟩:=Jb h;obtain ⟨s,u⟩:=K4 v;obtain ⟨a1,a2⟩:=K4 r;unfold Bg
 by_cases m:x=0
 ·rw [if_pos m];exact ⟨fun e he=>(by cases he),by simp [Lp,m],rfl⟩
 ·rw [if_neg m]
  refine ⟨fun e he=>?_,by simp [Lp,xY,u],by simp [A4,tV,u]⟩
  simp only [List.mem_singleton] at he
  subst he
  exact ⟨by simp [Bt,s,a1,p3,Ne.symm p2];omega,rfl,.inr (.inl ⟨rfl,rfl⟩)⟩
theorem yE {c:Cs} {x:Int} (h:Ao c=true) (z:0<=x/\x<=100000000000):(∀ e ∈ Dw c x,uH c e)/\Lp c (Dw c x) = -x/\A4 (Dw c x)=0:=by
 obtain ⟨v,r,p2,p3,_⟩:=Jb h;obtain ⟨s,u⟩:=K4 v;obtain ⟨a1,a2⟩:=K4 r;unfold Dw
 by_cases m:x=0
 ·rw [if_pos m];exact ⟨fun e he=>(by cases he),by simp [Lp,m],rfl⟩
 ·rw [if_neg m]
  refine ⟨fun e he=>?_,by simp [Lp,xY,a2,p2],by simp [A4,tV,a2]⟩
  simp only [List.mem_singleton] at he
  subst he
  exact ⟨by simp [Bt,s,a1,p3,p2];omega,rfl,.inr (.inr ⟨rfl,rfl⟩)⟩
theorem xK {c:Cs} {x:Int} (h:Ao c=true) (z:0<=x/\x<=100000000000):(∀ e ∈ Dg c x,uH c e)/\Lp c (Dg c x)=x/\A4 (Dg c x)=50000:=by
 obtain ⟨l,i,j⟩:=uO h z;obtain ⟨v,r,p2,p3,_⟩:=Jb h;obtain ⟨s,u⟩:=K4 v;obtain ⟨a1,a2⟩:=K4 r;unfold Dg
 have hl:Cb (Oo c x)=true/\Oo c x≠9999:=by unfold Oo;split;exact ⟨a1,a2⟩;exact ⟨s,u⟩
 refine ⟨fun e he=>?_,?_,?_⟩
 ·rcases List.mem_append.1 he with he | he
  ·exact l e he
  ·simp only [List.mem_singleton] at he
   subst he
   exact ⟨by simp [Bt,hl.1,hl.2,p3];rfl,rfl,.inl rfl⟩
 ·unfold Lp at i ⊢
  rw [List.map_append,List.sum_append,i]
  simp [xY]
 ·unfold A4 at j ⊢
  rw [List.map_append,List.sum_append,j]
  simp [tV]
theorem Ac1 {c:Cs} {a:Ac} {t:Int} {zs:List Int} (y:doV c a t zs=0):(∀ e ∈ Bw c a,uH c e)/\((a.kind=2/\0<c.bk)\/Lp c (Bw c a)=(Bx c a t zs).bk - c.bk)/\A4 (Bw c a)=(Bx c a t zs).fee - c.fee:=by
 obtain ⟨hd,ho,o,_⟩:=nG y
 have p:Ao c=true:=by simp [D7] at hd;exact hd.1
 obtain ⟨_,_,_,_,p4,N,_,O,R,_⟩:=Jb p
 rcases Jt ho with ⟨b,hs⟩ | ⟨b,hs⟩ | ⟨b,hs⟩ | ⟨b,hs⟩ | ⟨b,hs⟩ | ⟨b,hs⟩ | ⟨b,hs⟩ | ⟨b,hs⟩ | ⟨b,hs⟩ | ⟨b,hs⟩
 ·simp [Bw,Bx,b,Lp,A4]
 ·simp [Bw,Bx,b,Lp,A4,J9]
 ·have q:=Ad0 o b
  obtain ⟨l,i,j⟩:=uO p (x:=a.am) (by omega)
  simp only [Bw,Bx,b]
  simp [i,j]
  exact ⟨fun _ _ _ _ he=>l _ he,by omega⟩
 ·have q:=yK o (.inl b)
  obtain ⟨l,i,j⟩:=yE p (x:=a.am) (by omega)
  simp only [Bw,Bx,b]
  simp [i,j]
  exact ⟨fun _ _ _ _ he=>l _ he,by omega⟩
 ·simp [Bw,Bx,b,Lp,A4]
 ·obtain ⟨l,i,j⟩:=uO p (x:=c.cl) (by omega)
  simp only [Bw,Bx,b]
  simp [i,j,I5]
  exact ⟨fun _ _ _ _ he=>l _ he,by omega⟩
 ·simp [Bw,Bx,b,Lp,A4]
 ·have q:=Abi o b
  obtain ⟨l,i,j⟩:=xK p (x:=a.am) (by omega)
  simp only [Bw,Bx,b]
  simp [i,j,Es]
  exact ⟨fun _ _ _ _ he=>l _ he,by omega,by omega⟩
 ·have e:Bx c a t zs=Cx c:=by simp [Bx,b]
  have e2:Bw c a=Ck c:=by simp [Bw,b]
  rw [e,e2]
  obtain ⟨l,i,j⟩:=uO p (x:=c.cl) (by omega)
  obtain ⟨H,I,J⟩:=xK p (x:=c.cl / 2) (by omega)
  rcases hs with hs | hs | hs | hs | hs
  ·simp [Cx,Ck,hs,Lp,A4,J9]
  ·simp [Cx,Ck,hs,Lp,A4,I5]
  ·simp [Cx,Ck,hs,Lp,A4,I5]
  ·simp only [Cx,Ck,hs]
   simp [i,j,I5]
   exact ⟨fun _ _ _ _ he=>l _ he,by omega⟩
  ·simp only [Cx,Ck,hs]
   simp [I,J,Es]
   exact ⟨fun _ _ _ _ he=>H _ he,by omega,by omega⟩
 ·simp [Bw,Bx,b,Lp,A4]
end Top
end Go.Proofs.YtomiclakhjncbaaGreatDoor
namespace Go.Proofs.YtomiclakhjncbaaGreatDoor
open Go.RowKit Go.Proofs.Tryz
end Go.Proofs.YtomiclakhjncbaaGreatDoor
namespace Go.Proofs.YtomiclakhjncbaaGreatDoor
open Go.ChangeShapes Go.WideShapes Go.ChangeAt Go.RowKit Go.Proofs.Tryz
theorem rI:(Rows.laid_loop_example_g00126_impl_stepDays:DataW Unit)=Lib.tabData .i64 Mt:=by kernel_rfl
theorem rU : prog.globalNamed "loop.example/g00126/impl.stepDays" = some 16 := by kernel_rfl
theorem qY:(prog.globals[16]?).map (·.type)=some 352:=by kernel_rfl
theorem gF {rest : List (String × DataW Unit)} {w : World} (h : laidMet prog (("loop.example/g00126/impl.stepDays", Rows.laid_loop_example_g00126_impl_stepDays) :: rest) w) : Di w := by
 rw [rI] at h
 exact Lib.tabIs_of_head rU qY underlying352 underlying3 (by kernel_rfl) (by kernel_rfl) h
theorem iJ {w w':World} {n:String} {cs:Array Value} (h:w.var? prog n=some cs) (hb:BW w w'):w'.var? prog n=some cs:=by
 unfold World.var? at *
 cases hg:prog.globalNamed n with
 | none=>simp [hg] at h
 | some g =>
  simp only [hg,Option.bind_some] at h ⊢
  have b:g<w.heap.size:=by
   rcases Nat.lt_or_ge g w.heap.size with a | a
   ·exact a
   ·rw [Array.getElem?_eq_none a] at h;simp at h
  rw [hb.block g b];exact h
end Go.Proofs.YtomiclakhjncbaaGreatDoor
