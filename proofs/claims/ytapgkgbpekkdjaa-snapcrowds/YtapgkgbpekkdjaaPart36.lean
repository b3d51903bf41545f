import Derived.Test.YtapgkgbpekkdjaaPart34
namespace Go.Proofs.Ytapgkgbpekkdjaa
open Go.RowKit

namespace Ft

def Row (e:Nat→Int):Prop:=0≤e 1∧e 1≤255 ∧
 ((∀j,j<11→j≠1→e j=0)∨(1≤e 0∧e 0≤4∧1≤e 5∧e 5≤e 6∧e 6≤20∧0≤e 7∧e 7≤5∧0≤e 8∧e 8≤1∧0≤e 9∧e 9≤9∧0≤e 10∧e 10≤9))

structure Fit (c:Nat→Int) (E I:Nat→Nat→Int):Prop where
 cells:∀i,0≤c i∧c i≤255
 ok:Gd.Ok c 40 I
 rows:∀k,k<32→Row (E k)

theorem Row.taken {e:Nat→Int} (h:Row e) (h0:e 0≠0):1≤e 0∧e 0≤4∧1≤e 5∧e 5≤e 6∧e 6≤20∧0≤e 7∧e 7≤5∧0≤e 8∧e 8≤1∧0≤e 9∧e 9≤9∧0≤e 10∧e 10≤9:=by
 rcases h.2.2 with hz | ht
 ·exact absurd (hz 0 (by omega) (by omega)) h0
 ·exact ht

theorem Fit.put {c:Nat→Int} {E I:Nat→Nat→Int} (h:Fit c E I) {k:Nat} {e:Nat→Int} (he:Row e):Fit c (En.put E k e) I :=
 ⟨h.cells,h.ok,fun i hi=>by
  by_cases x:i=k
  ·rw [x,En.put_same];exact he
  ·rw [En.put_other x];exact h.rows i hi⟩

end Ft

end Go.Proofs.Ytapgkgbpekkdjaa
