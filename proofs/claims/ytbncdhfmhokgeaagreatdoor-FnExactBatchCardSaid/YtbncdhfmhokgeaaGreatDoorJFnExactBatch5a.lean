/- Joined: FWithG. -/
import Derived.Test.YtbncdhfmhokgeaaGreatDoorKFnExactBatchFWithY
import Derived.Test.YtbncdhfmhokgeaaGreatDoorKFnExactBatchSWith
import Derived.Test.YtbncdhfmhokgeaaGreatDoorJFnExactBatch3a
/- The contracts of With, the program's and the specification's, at a message as it lies. -/
namespace Go.Proofs.YtbncdhfmhokgeaaGreatDoor
open Go.RowKit

/-- a message whose fields lie somewhere, with no room behind them -/
def GoodMV (x : MV) : Prop := ∃ b off, x.ao = some ⟨b, off, none⟩ ∧ x.cap = x.fs.length
theorem iWithG {kd : Int} {ao : Option Addr} {cap : Nat} {fs : List Fld} {num : Int} {d : List UInt8} {w : World} (hg : GoodMV ⟨kd, ao, cap, fs⟩) (hz : FldsAt w ao fs) (hn : fs.length ≤ 1048576) (hd : sumF fs ≤ 1048576) (hl : d.length ≤ 1099511627776) :
    Calls Tryz.prog 22 #[.agg #[.int .i64 kd, .slice ao fs.length cap], .int .i64 num, .string ⟨d.toArray⟩] w (Withs w kd (withL kd fs num d) (withOk kd fs num d)) := by
  obtain ⟨b, off, h1, h2⟩ := hg
  simp only at h1 h2
  subst h1; subst h2
  exact iWith_any kd b off fs num d w hz hn hd hl
theorem sWithG {kd : Int} {ao : Option Addr} {cap : Nat} {fs : List Fld} {num : Int} {d : List UInt8} {w : World} (hg : GoodMV ⟨kd, ao, cap, fs⟩) (hz : FldsAt w ao fs) (hn : fs.length ≤ 1048576) (hd : sumF fs ≤ 1048576) (hl : d.length ≤ 1099511627776) :
    Calls Tryz.prog 62 #[.agg #[.int .i64 kd, .slice ao fs.length cap], .int .i64 num, .string ⟨d.toArray⟩] w (Withs w kd (withL kd fs num d) (withOk kd fs num d)) := by
  obtain ⟨b, off, h1, h2⟩ := hg
  simp only at h1 h2
  subst h1; subst h2
  exact sWith_any kd b off fs.length fs num d w hz hn hd hl

end Go.Proofs.YtbncdhfmhokgeaaGreatDoor
