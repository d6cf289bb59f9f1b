import Derived.Test.YtomiclakhjncbaaGreatDoorJL0a
import Init
namespace Go.Proofs.YtomiclakhjncbaaGreatDoor
open Go.Proofs.Tryz
set_option maxRecDepth 100000
set_option maxHeartbeats 12800000
def ahead (y:Int):Int:=365 * (y - 1)+(y - 1) / 4 - (y - 1) / 100+(y - 1) / 400
def Dn (d:Int):Bool:=decide (0≤d∧d≤80000)
theorem Ei {d:Int} (h:Dn d=true):0≤d∧d≤80000:=by simpa [Dn] using h
theorem Nq {d:Int} (h1:0≤d) (h2:d≤80000):Dn d=true:=by simp [Dn,h1,h2]
theorem pI {d:Int} (h:d<0∨80000<d):Dn d=false:=by simp [Dn];omega
end Go.Proofs.YtomiclakhjncbaaGreatDoor
