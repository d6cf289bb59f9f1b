import Derived.Test.YtomiclakhjncbaaGreatDoorJT1a
namespace Go.Proofs.YtomiclakhjncbaaGreatDoor
open Go.RowKit Go.Proofs.Tryz
set_option maxRecDepth 100000
set_option maxHeartbeats 12800000
end Go.Proofs.YtomiclakhjncbaaGreatDoor
