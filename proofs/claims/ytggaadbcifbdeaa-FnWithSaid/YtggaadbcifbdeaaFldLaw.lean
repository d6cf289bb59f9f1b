/- The laws' own small functions over fields: how much one takes, its copy, whether two are the same. -/
import Derived.Test.YtggaadbcifbdeaaAid
import Derived.Test.YtggaadbcifbdeaaMsgP
import Derived.Handy
namespace Go.Proofs.Ytggaadbcifbdeaa
open Go.RowKit

def leftF (l : List UInt8) (left : Int) : Int := if left - (l.length : Int) < 0 then -1 else left - (l.length : Int)

end Go.Proofs.Ytggaadbcifbdeaa
