import Derived.Test.YtapgkgbpekkdjabGreatPart25
import Derived.Test.YtapgkgbpekkdjabGreatPart20
import Derived.Deep.CutRange
import Derived.Deep.CutBlock
namespace Go.Proofs.YtapgkgbpekkdjabGreat
open Go.RowKit

def cin:Code→Code
 | .block _ b=>b
 | .loop b=>b
 | c=>c

end Go.Proofs.YtapgkgbpekkdjabGreat
