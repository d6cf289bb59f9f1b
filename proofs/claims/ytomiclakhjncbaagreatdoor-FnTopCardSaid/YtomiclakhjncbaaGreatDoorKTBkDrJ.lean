import Derived.Test.YtomiclakhjncbaaGreatDoorJT6ar
import Derived.Test.YtomiclakhjncbaaGreatDoorKTLnG
namespace Go.Proofs.YtomiclakhjncbaaGreatDoor.Kb
open Go.RowKit Go.Proofs.Tryz
set_option maxRecDepth 100000
set_option maxHeartbeats 12800000
theorem uS {w:World} {base c:Nat} {t:Option Addr} {n:List Int} (h:w.ownsRow base 3 1 (.slice t n.length c) n.length (n.map (Value.int .i64))):Aw w t n:=by
 rcases h.2 with ⟨u,o⟩ | ⟨g,cap,B,u,_⟩
 ·exact .inl (List.eq_nil_of_length_eq_zero o)
 ·obtain ⟨rfl,_⟩:t=some (qzA g 0)/\c=cap:=by simpa using u
  by_cases m:n=[]
  ·exact .inl m
  ·have A:0<n.length:=List.length_pos_iff.2 m
   refine .inr ⟨g,0,rfl,?_,fun i hi=>?_⟩
   ·have o:=h.cellAt 0 (by omega)
    simp [A] at o
    exact World.block_lt_of_cell? w _ o
   ·have:=h.cellAt i (by omega)
    simpa [hi] using this
theorem zD (zs:List Int) (v:zs.length<=6):Inv 0 ⟨bsT 9000 zs,bsL 9000 zs,[],[],[],[]⟩:=by
 refine ⟨?_,nL,nL,nL,nL,(fun a ha=>by cases ha),?_,(fun l hl=>by cases hl)⟩
 ·show (bsL 9000 zs).length<=10
  unfold bsL;split
  ·omega
  ·simp
 ·show Dn (bsT 9000 zs)=true
  unfold bsT;split <;> decide
structure vT (k:Nat) (b:Bk):Prop where
 inv:Inv k b
 par:Par b
 jw:JW b
 offs:R2 9000 b.off=true
 lg:∀ l ∈ b.log,l.length<=1000
theorem Ac9 (b:Bk) (l:List UInt8) (r:Bk×Int) (h:Fu b l r):r.1.off=b.off:=by
 unfold Fu Db at h
 split at h
 ·rw [h];unfold Fr;split <;> rfl
 split at h
 ·split at h
  ·rw [h];unfold Fq;split <;> rfl
  ·rw [h]
 split at h
 ·split at h
  ·obtain ⟨x,-,rfl⟩:=h
   unfold Jk
   split
   ·rfl
   split
   ·rfl
   split
   ·rfl
   split <;> rfl
  ·rw [h]
 split at h
 ·split at h
  ·rw [h];unfold Ja
   split
   ·rfl
   split
   ·rfl
   split <;> rfl
  ·rw [h]
 ·rw [h]
theorem Aeb {b:Bk} {l:List UInt8} {r:Bk×Int} (h:Fg Fu b l r):r.1.off=b.off:=by
 rcases h with ⟨-,rfl⟩ | ⟨-,s,hs,⟨-,rfl⟩ | ⟨-,rfl⟩⟩
 ·rfl
 ·rfl
 ·exact Ac9 b l s hs
theorem Ael {b:Bk} {l:List UInt8} {r:Bk×Int} (hb:∀ x ∈ b.log,x.length<=1000) (hl:l.length<=1000) (h:Fg Fu b l r):∀ x ∈ r.1.log,x.length<=1000:=by
 rcases h with ⟨-,rfl⟩ | ⟨-,s,hs,⟨-,rfl⟩ | ⟨-,rfl⟩⟩
 ·exact hb
 ·exact hb
 ·intro x m
  have f:x ∈ b.log++[l]:=m
  rcases List.mem_append.1 f with f | f
  ·exact hb x f
  ·rw [List.mem_singleton.1 f];exact hl
theorem vK (zs:List Int) (v:zs.length<=6):vT 0 ⟨bsT 9000 zs,bsL 9000 zs,[],[],[],[]⟩:=by
 have h:=zD zs v
 refine ⟨h,⟨(fun a ha=>by cases ha),(fun c hc=>by cases hc)⟩,⟨⟨?_,nL,nL,(fun a ha=>by cases ha),(fun c hc=>by cases hc),(show At []=true by decide),h.day⟩,Nat.zero_le _,(fun l hl=>by cases hl)⟩,?_,(fun l hl=>by cases hl)⟩
 rotate_left
 ·show R2 9000 (bsL 9000 zs)=true
  unfold bsL
  split
  ·assumption
  ·decide
 have:=h.off
 show (bsL 9000 zs).length<=1000
 have e:(bsL 9000 zs).length<=10:=this
 omega
theorem zV {k:Nat} {b:Bk} (h:vT k b) {d:List UInt8} (hl:d.length<=1000) (hg:K3 d) {r:Bk×Int} (j:Fg Fu b d r):vT (k+1) r.1 :=
 ⟨Aea h.inv hl j,Ad5 h.par hg j,Adz h.jw (by omega) j,by rw [Aeb j];exact h.offs,Ael h.lg hl j⟩
theorem Aew {k:Nat} {b:Bk} (h:vT k b) (z:k<=1000) (p:Bp) (d:List UInt8) (w:World) (m:Aq w b p) (hl:d.length<=1000) (hg:K3 d) :
  Calls prog 31 #[C5 b p,.string ⟨d.toArray⟩] w fun e w'=>∃ b' q code,e=.returned (.tuple #[C5 b' q,qzI code])/\vT (k+1) b'/\Aq w' b' q/\BW w w'/\FrB q w.heap.size :=
 (T5 lO b p d w m (wH h.inv z) (by omega)).mono (by
  rintro e w' ⟨r,q,j,he,hb,hw,y⟩;exact ⟨r.1,q,r.2,he,zV h hl hg j,hb,hw,y⟩)
end Go.Proofs.YtomiclakhjncbaaGreatDoor.Kb
