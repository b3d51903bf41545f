import Derived.Test.YtldgbkjceildfaaGreatBy10
import Derived.Deep.RegionWith
import Derived.Deep.Cut
namespace Go.Proofs.YtldgbkjceildfaaGreat
open Go.RowKit

def Gd.Worlds (w:World) (s g c:Nat→Int) (E I:Nat→Nat→Int) (e:Ending) (w':World):Prop :=
 ∃gC gE gI cC cE cI,e=.returned (.agg (Gd.world s gC gE gI cC cE cI g))∧32≤cE∧w.heap.size≤gC∧w.heap.size≤gE∧w.heap.size≤gI∧gC≠gE∧gC≠gI∧gE≠gI∧Gd.Lists w' gC gE gI c E I∧w.grownBy w' none

theorem Gd.Lists.read {x:World} {gC gE gI:Nat} {c:Nat→Int} {E I:Nat→Nat→Int} (h:Gd.Lists x gC gE gI c E I):(∀j,j<384→x.cell? ⟨gC,j,none⟩=some (Byts c j))∧(∀j,j<352→x.cell? ⟨gE,j,none⟩=some (En.flat E j))∧(∀j,j<160→x.cell? ⟨gI,j,none⟩=some (Gd.flat I j)) :=
 ⟨fun _ hj=>h.cells.cell hj,fun _ hj=>h.ents.cell hj,fun _ hj=>h.items.cell hj⟩

theorem Lie.eleven {x:World} {B:Nat} {T:TypeId} {s g:Nat→Int} {gC gE gI cC cE cI:Nat} (h:Lie x B T 11 (Gd.box s gC gE gI cC cE cI g)) :
  x.cell? ⟨B,0,none⟩=some (.int .i64 (s 0))∧x.cell? ⟨B,1,none⟩=some (.int .i64 (s 1))∧x.cell? ⟨B,2,none⟩=some (.int .i64 (s 2))∧x.cell? ⟨B,3,none⟩=some (.int .i64 (s 3))∧x.cell? ⟨B,4,none⟩=some (.slice (some ⟨gC,0,none⟩) 384 cC)∧x.cell? ⟨B,5,none⟩=some (.slice (some ⟨gE,0,none⟩) 32 cE)∧x.cell? ⟨B,6,none⟩=some (.slice (some ⟨gI,0,none⟩) 40 cI)∧x.cell? ⟨B,7,none⟩=some (.int .i64 (g 0))∧x.cell? ⟨B,8,none⟩=some (.int .i64 (g 1))∧x.cell? ⟨B,9,none⟩=some (.int .i64 (g 2))∧x.cell? ⟨B,10,none⟩=some (.int .i64 (g 3)) :=
 ⟨h.cell (by omega),h.cell (by omega),h.cell (by omega),h.cell (by omega),h.cell (by omega),h.cell (by omega),h.cell (by omega),h.cell (by omega),h.cell (by omega),h.cell (by omega),h.cell (by omega)⟩

end Go.Proofs.YtldgbkjceildfaaGreat
