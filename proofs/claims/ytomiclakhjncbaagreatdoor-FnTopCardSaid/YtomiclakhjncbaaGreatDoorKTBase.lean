import Derived.Test.YtomiclakhjncbaaGreatDoorJT0a
import Derived.ShutString
namespace Go.Proofs.YtomiclakhjncbaaGreatDoor
open Go.ChangeShapes Go.WideShapes Go.ChangeAt Go.RowKit Go.Proofs.Tryz
set_option maxRecDepth 100000
set_option maxHeartbeats 12800000
theorem own:ownKnob prog.godebug=none:=by kernel_rfl
theorem Uc:laidOutB prog=true:=by kernel_rfl
def pZ (k:IntKind) (w:World) (a:Option Addr) (len cap:Nat) (zs:List Int):Prop :=
 (a=none/\len=0/\cap=0/\zs=[]) \/
 ∃ x,a=some x/\len<=cap/\cap<=maxLen/\zs.length=cap/\(∀ i,i<zs.length->w.cell? (x.add i)=some (.int k (zs.getD i 0)))/\∀ n ∈ zs,(Lit.int k n).wf=true
theorem Aei {H:Type} {enc:TypeId×Value->H} {W:World} {t e:TypeId} {k:IntKind} {a:Option Addr} {len cap:Nat} {d:DataW H} {p:List MemPlace}
  (ht:prog.underlying t=some (.slice e)) (he:prog.underlying e=some (.int k)) (hc:prog.cellsOf e=1)
  (h:DataW.Trod enc prog W 0 (fun _=>true) true t (Value.slice a len cap) d p):∃ zs,pZ k W a len cap zs:=by
 obtain ⟨fuel,j⟩:=h
 rcases open_ints ht he hc j with ⟨b,_⟩ | ⟨x,l,c,zs,b,_,hl,m,o,_,f,g⟩
 ·simp [Value.cells] at b
  obtain ⟨rfl,rfl,rfl⟩:=b;exact ⟨[],.inl ⟨rfl,rfl,rfl,rfl⟩⟩
 ·simp [Value.cells] at b
  obtain ⟨rfl,rfl,rfl⟩:=b
  exact ⟨zs,.inr ⟨_,rfl,hl,m,by simpa using o,f,g⟩⟩
end Go.Proofs.YtomiclakhjncbaaGreatDoor
