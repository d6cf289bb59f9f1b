import Derived.Test.YtomiclakhjncbaaGreatDoorJT3a
import Derived.Stop.Asserts
namespace Go.Proofs.YtomiclakhjncbaaGreatDoor.Kb
open Go.RowKit Go.Extern.Stop Go.Stop Go.Extern Go.Proofs.Tryz
set_option maxRecDepth 100000
set_option maxHeartbeats 12800000
end Go.Proofs.YtomiclakhjncbaaGreatDoor.Kb
