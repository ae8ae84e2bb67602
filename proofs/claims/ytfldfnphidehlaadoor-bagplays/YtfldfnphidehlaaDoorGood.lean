/- What Good and its twin of the document answer: the three numbers are from -MaxTime to MaxTime. -/
import Derived.Test.YtfldfnphidehlaaDoorLoops
import Derived.Lib.SmallJoins
namespace Go.Proofs.YtfldfnphidehlaaDoor
open Go.RowKit
set_option maxRecDepth 100000

/-- A row's value. -/
def rowV (k t v : Int) : Value := .agg #[.int .i64 k, .int .i64 t, .int .i64 v]
def goodI (k t v : Int) : Bool := inI (-1099511627776) 1099511627776 k && (inI (-1099511627776) 1099511627776 t && inI (-1099511627776) 1099511627776 v)

end Go.Proofs.YtfldfnphidehlaaDoor
