import Derived.Test.YtldgbkjceildfaaGreatTw52
namespace Go.Proofs.YtldgbkjceildfaaGreat
open Go.RowKit

theorem Sv.wfs {a:Int} (h:(Lit.int .i64 a).wf=true):-9223372036854775808≤a∧a≤9223372036854775807:=by
 simp only [Lit.wf,Bool.and_eq_true,decide_eq_true_eq,show IntKind.i64.min=-9223372036854775808 from by decide,show IntKind.i64.max=9223372036854775807 from by decide] at h
 exact h

end Go.Proofs.YtldgbkjceildfaaGreat
