import Derived.Test.YtfpafnefpmmofaaGreatDoorJW0a
namespace Go.Proofs.YtfpafnefpmmofaaGreatDoor
open Go.RowKit Go.Proofs.Tryz
set_option maxRecDepth 100000
set_option maxHeartbeats 12800000
def knB (n:Int):Bool:=Fr.contains n
theorem Ad1 {n:Int} (h:n ∈ Fr):knB n=true:=by simpa [knB] using h
theorem Acy {n:Int} (h:n ∉ Fr):knB n=false:=by simpa [knB] using h
def L9 (n:Int):Value :=
 if fK n=1 then .iface 298 (.agg #[qzI (fS n)])
 else if fK n=2 then .iface 296 (.agg #[qzI (fS n)])
 else if fK n=3 then .iface 301 (.agg #[qzI (fS n)])
 else if fK n=4 then .iface 300 (.agg #[qzI (fS n),qzI 2])
 else if fK n=5 then .iface 300 (.agg #[qzI (fS n),qzI 3])
 else .nilIface
theorem Acb {a b:Value} {x y:Bool} (h:a=b) (g:x=y):Ending.returned (.tuple #[a,.bool x])=.returned (.tuple #[b,.bool y]):=by rw [h,g]
theorem Db (n:Int) (w:ql) :
  qi 112 #[qzI n] w λe w'=>e=.returned (.tuple #[qzI (fK n),qzI (fS n)])/\w'=w:=by
 by_cases h:n ∈ Fr
 ·rcases Yg h with rfl|rfl|rfl|rfl|rfl|rfl|rfl|rfl|rfl|rfl|rfl|rfl|rfl|rfl|rfl <;>
  ·clear h
   go_enter func112,ntmps112
   go_wp2;go_ret2;exact ⟨rfl,rfl⟩
 ·have c:qj _:=gV h
  have d:qj _:=Ah9 h;obtain ⟨p,q,r,t,u,v,z,A,B,f,i,j,k,l,m⟩:=O7 h;clear h
  go_enter func112,ntmps112
  go_wp2;go_ret2;exact ⟨yM c.o.s d.o.s,rfl⟩
theorem Hx (n:Int) (w:ql) :
  qi 209 #[qzI n] w λe w'=>e=.returned (.tuple #[L9 n,.bool (knB n)])/\w'=w:=by
 by_cases h:n ∈ Fr
 ·rcases Yg h with rfl|rfl|rfl|rfl|rfl|rfl|rfl|rfl|rfl|rfl|rfl|rfl|rfl|rfl|rfl <;>
  ·clear h
   go_enter func209,ntmps209
   go_wp2;go_ret2;exact ⟨rfl,rfl⟩
 ·have c:qj (L9 n=.nilIface):=by rw [qj,L9,gV h];rfl
  have d:qj _:=Acy h;obtain ⟨p,q,r,t,u,v,z,A,B,f,i,j,k,l,m⟩:=O7 h;clear h
  go_enter func209,ntmps209
  go_wp2;go_ret2;exact ⟨Acb c.o.s d.o.s,rfl⟩
end Go.Proofs.YtfpafnefpmmofaaGreatDoor
