import Derived.Test.YtfpafnefpmmofaaGreatDoorKWBkLiA
import Derived.Test.YtfpafnefpmmofaaGreatDoorKWBkLiP
import Derived.Test.YtfpafnefpmmofaaGreatDoorKWBkLiX
set_option maxRecDepth 100000
set_option maxHeartbeats 12800000
namespace Go.Proofs.YtfpafnefpmmofaaGreatDoor
open Go.RowKit Go.Proofs.Tryz
theorem lN (F:Ii) (K:Vw F) {c:Bk->Prop} (f:∀ b,c b->Ld b) {g:Bk->Int->Int->Int->Int->Bk×Int->Prop} {Act:Bk->Int->Ac->Bk×Int} (ST:eQ c g Act) (b:Bk) (p:Bp) (a:qn) (w:ql) (j:Az w b p) (d:rO p w.heap.size) (hp:c b) (i:a.length<=1048575) (h:C7 (Ad a)=false) :
  qi 67 #[Fx b p,qd a] w λe w'=>∃ r,Em F g Act b a r/\BdR w p r.1 r.2 e w':=by
 cases h2:B6 (Ad a)
 case true=>exact mM F K f ST b p a w j d hp i ⟨h,h2⟩
 case false =>
  cases h3:Ed (Ad a)
  case true=>exact lI F K f ST b p a w j d hp i ⟨h,h2,h3⟩
  case false=>exact mF F K f ST b p a w j d hp i ⟨h,h2,h3⟩
end Go.Proofs.YtfpafnefpmmofaaGreatDoor
