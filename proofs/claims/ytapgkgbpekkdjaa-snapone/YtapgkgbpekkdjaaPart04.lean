import Derived.Test.YtapgkgbpekkdjaaPart02
import Derived.Test.YtapgkgbpekkdjaaPart03
import Derived.Laws.AppendOwnNone
namespace Go.Proofs.Ytapgkgbpekkdjaa
open Go.RowKit

section
attribute [-go_sem] run_max_int2

end

end Go.Proofs.Ytapgkgbpekkdjaa
