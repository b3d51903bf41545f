import Derived.Test.YtapgkgbpekkdjaaGreatPart27
import Derived.Test.YtapgkgbpekkdjaaGreatPart30
namespace Go.Proofs.YtapgkgbpekkdjaaGreat
open Go.RowKit

theorem Cr.rem16 (a:Int):(a.tmod 16=0)↔(a % 16=0):=⟨fun h=>Int.emod_eq_zero_of_dvd (Int.dvd_of_tmod_eq_zero h),fun h=>Int.tmod_eq_zero_of_dvd (Int.dvd_of_emod_eq_zero h)⟩

end Go.Proofs.YtapgkgbpekkdjaaGreat
