/-
  The project's chunk: isCount, all, has, twin.
-/
import Derived.Test.YtnpdmfhknbfmhaaChunkLack
namespace Go.Proofs.Ytnpdmfhknbfmhaa
open Go.RowKit

end Go.Proofs.Ytnpdmfhknbfmhaa
