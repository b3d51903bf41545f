import Derived.Test.YtepppmepilffcaaGreatPw47
import Derived.Test.YtepppmepilffcaaGreatPw48
import Derived.Test.YtepppmepilffcaaGreatPw49
namespace Go.Proofs.YtepppmepilffcaaGreat
open Go.RowKit

theorem spoilt_any (s g c:Nat→Int) (E I:Nat→Nat→Int) (vC vE vI:Value) (nC nE nI k0 i k n5 n4:Nat) (kind n v:Int) (w:World) (hL:Sn.Lis w vC vE vI nC nE nI c E I) (hc:∀i,0≤c i∧c i≤255) (hM:Sn.May k0 i n5 nC nE nI) (mI:nI≤900) (hk:kind % 20=(k0:Int)) (_:k0<20) (hi:n % 32=(i:Int)) (hi1:i<32) (hj:n % 40=(k:Int)) (hj1:k<40) (h5:n % 384=(n5:Int)) (h51:n5<384) (h4:n % 4=(n4:Int)) (h41:n4<4) :
  Calls Tryz.prog 18 #[.agg (Sn.wide s g vC vE vI),.int .i64 kind,.int .i64 n,.int .i64 v] w (Sn.Spoils w (s 0) k0 i n5 nI):=by
 by_cases hA:k0=0∨k0=1∨k0=2∨k0=3
 ·exact spoilt_A s g c E I vC vE vI nC nE nI k0 i k n5 n4 kind n v w hL hc hM mI hk hA hi hi1 hj hj1 h5 h51 h4 h41
 by_cases hB:k0=4∨k0=5∨k0=6∨k0=7
 ·exact spoilt_B s g c E I vC vE vI nC nE nI k0 i k n5 n4 kind n v w hL hc hM mI hk hB hi hi1 hj hj1 h5 h51 h4 h41
 by_cases hC:k0=8∨k0=9∨k0=10∨k0=11
 ·exact spoilt_C s g c E I vC vE vI nC nE nI k0 i k n5 n4 kind n v w hL hc hM mI hk hC hi hi1 hj hj1 h5 h51 h4 h41
 by_cases hD:k0=12∨k0=13∨k0=14∨k0=19
 ·exact spoilt_D s g c E I vC vE vI nC nE nI k0 i k n5 n4 kind n v w hL hc hM mI hk hD hi hi1 hj hj1 h5 h51 h4 h41
 exact spoilt_E s g c E I vC vE vI nC nE nI k0 i k n5 n4 kind n v w hL hc hM mI hk (by omega) hi hi1 hj hj1 h5 h51 h4 h41

end Go.Proofs.YtepppmepilffcaaGreat
