/- An observer and a span by value. -/
import Derived.Test.YtldbkompebefmaaDoorObNum
import Derived.Test.YtldbkompebefmaaDoorSp
import Derived.Deep.RegionWith
import Derived.Deep.CutBlock
import Derived.Deep.CutRange
namespace Go.Proofs.YtldbkompebefmaaDoor
open Go.RowKit Obs

def ol (o : Ob) : List Value := [.int .i64 o.vL, .int .i64 o.vH, .int .i64 o.bL, .int .i64 o.bH, .bool o.ref]
abbrev ov (o : Ob) : Value := .agg #[.int .i64 o.vL, .int .i64 o.vH, .int .i64 o.bL, .int .i64 o.bH, .bool o.ref]
abbrev sv (l h : Int) : Value := .agg #[.int .i64 l, .int .i64 h]
end Go.Proofs.YtldbkompebefmaaDoor
