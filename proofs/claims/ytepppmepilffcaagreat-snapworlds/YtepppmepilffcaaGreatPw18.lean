import Derived.Test.YtepppmepilffcaaGreatPw16
import Derived.Test.YtepppmepilffcaaGreatPw17
import Derived.Deep.CutRange
import Derived.Deep.CutBlock
namespace Go.Proofs.YtepppmepilffcaaGreat
open Go.RowKit

def cin:Code→Code
 | .block _ b=>b
 | .loop b=>b
 | c=>c

end Go.Proofs.YtepppmepilffcaaGreat
