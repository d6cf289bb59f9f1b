import Derived.Test.YtfpafnefpmmofaaGreatDoorJW6a
import Derived.Test.YtfpafnefpmmofaaGreatDoorJW4ar
set_option maxRecDepth 100000
set_option maxHeartbeats 12800000
namespace Go.Proofs.YtfpafnefpmmofaaGreatDoor
open Go.RowKit Go.Proofs.Tryz
theorem Aao:qC Aip Hw (λl=>C7 (Ad l)=false) where
 log:=Adg
 small:=λ_ h=>h.1
 calls:=λb p line w hx hah hp hl h1=>lN F0 pO (λ_ h=>h.1) Agz b p line w hx hah hp hl h1
end Go.Proofs.YtfpafnefpmmofaaGreatDoor
