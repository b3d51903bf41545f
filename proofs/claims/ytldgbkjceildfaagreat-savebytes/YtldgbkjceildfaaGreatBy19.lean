import Derived.Test.YtldgbkjceildfaaGreatBy14
namespace Go.Proofs.YtldgbkjceildfaaGreat
open Go.RowKit

theorem Gd.Boxed.put {w x:World} {B gC gE gI cC cE cI:Nat} {s g c:Nat→Int} {E I:Nat→Nat→Int} (h:Gd.Boxed w x B gC gE gI cC cE cI s g c E I) (m:Nat) (a b d e:Int):Gd.Boxed w ((((x.setCell ⟨gI,m*4,none⟩ (.int .i64 a)).setCell ⟨gI,m*4+1,none⟩ (.int .i64 b)).setCell ⟨gI,m*4+2,none⟩ (.int .i64 d)).setCell ⟨gI,m*4+3,none⟩ (.int .i64 e)) B gC gE gI cC cE cI s g c E (En.put I m (Gd.row a b d e)):=by
 have h1:=h.lI;have h2:=h.at_;have r:=grown_put4 (World.grownBy.refl x (some gI)) m (.int .i64 a) (.int .i64 b) (.int .i64 d) (.int .i64 e);exact { h with hold:=h.hold.put m a b d e,res:=h.res.grown r (by simp;omega),grown:=gow h.grown r (fun n e=>by cases e;omega) }

theorem Gd.Boxed.same {w x:World} {B gC gE gI cC cE cI:Nat} {s g c:Nat→Int} {E I J:Nat→Nat→Int} (h:Gd.Boxed w x B gC gE gI cC cE cI s g c E I) (he:∀i,i<40→J i=I i):Gd.Boxed w x B gC gE gI cC cE cI s g c E J :=
 { h with hold:={ h.hold with lists:={ h.hold.lists with items:=h.hold.lists.items.congr fun q hq=>by unfold Gd.flat;rw [he (q / 4) (by omega)] } } }

def Gd.sweepTo (I:Nat→Nat→Int) (seat:Int) (k:Nat):Nat→Nat→Int:=fun i=>if i<k then Gd.sweep I seat i else I i

theorem Gd.sweep_yes {I:Nat→Nat→Int} {seat:Int} {k:Nat} (h:(I k 1=2∨I k 1=3)∧I k 2=seat):Gd.sweepTo I seat (k+1)=En.put (Gd.sweepTo I seat k) k (Gd.row 0 0 0 0):=by
 funext i;unfold Gd.sweepTo En.put;by_cases e:i=k
 ·rw [if_pos (by omega),if_pos e,e,Gd.row_gone];unfold Gd.sweep;rw [if_pos h]
 ·rw [if_neg e];show _=if i<k then _ else _
  by_cases e2:i<k
  ·rw [if_pos (by omega),if_pos e2]
  ·rw [if_neg (by omega),if_neg e2]

theorem Gd.sweep_no {I:Nat→Nat→Int} {seat:Int} {k:Nat} (h:¬((I k 1=2∨I k 1=3)∧I k 2=seat)):Gd.sweepTo I seat (k+1)=Gd.sweepTo I seat k:=by
 funext i;unfold Gd.sweepTo;by_cases e:i=k
 ·rw [if_pos (by omega),if_neg (by omega),e];unfold Gd.sweep;rw [if_neg h]
 ·by_cases e2:i<k
  ·rw [if_pos (by omega),if_pos e2]
  ·rw [if_neg (by omega),if_neg e2]

end Go.Proofs.YtldgbkjceildfaaGreat
