import Derived.Test.YtldgbkjceildfaaGreatBy21
import Derived.Test.YtldgbkjceildfaaGreatBy25
namespace Go.Proofs.YtldgbkjceildfaaGreat
open Go.RowKit

theorem Cr.rem16 (a:Int):(a.tmod 16=0)↔(a % 16=0):=⟨fun h=>Int.emod_eq_zero_of_dvd (Int.dvd_of_tmod_eq_zero h),fun h=>Int.tmod_eq_zero_of_dvd (Int.dvd_of_emod_eq_zero h)⟩

end Go.Proofs.YtldgbkjceildfaaGreat
