import Derived.Test.YtapgkgbpekkdjaaPart25
import Derived.Test.YtapgkgbpekkdjaaPart22
namespace Go.Proofs.Ytapgkgbpekkdjaa
open Go.RowKit

structure Gd.Boxed (w x:World) (B gC gE gI cC cE cI:Nat) (s g c:Nat→Int) (E I:Nat→Nat→Int):Prop where
 hold:Gd.Hold x B gC gE gI cC cE cI s g c E I
 at_:w.heap.size=B
 lC:B+2≤gC
 lE:B+2≤gE
 lI:B+2≤gI
 cap:32≤cE
 res:Lie x (B+1) 29 11 (fun j=>#[.int .i64 0,.int .i64 0,.int .i64 0,.int .i64 0,.slice none 0 0,.slice none 0 0,.slice none 0 0,.int .i64 0,.int .i64 0,.int .i64 0,Value.int .i64 0][j]?.getD undef)
 grown:w.grownBy x none

theorem Gd.Boxed.worlds {w x:World} {B gC gE gI cC cE cI:Nat} {s g c:Nat→Int} {E I:Nat→Nat→Int} (h:Gd.Boxed w x B gC gE gI cC cE cI s g c E I) (vs:List Value):Gd.Worlds w s g c E I (.returned (.agg (Gd.world s gC gE gI cC cE cI g))) (x.setCells (B+1) 0 vs):=by
 have hB:=h.at_
 have lC:=h.lC
 have lE:=h.lE
 have lI:=h.lI
 have r:=gss (g:=B+1) vs 0 x (World.grownBy.refl _ _)
 exact ⟨gC,gE,gI,cC,cE,cI,rfl,h.cap,by omega,by omega,by omega,h.hold.cE,h.hold.cI,h.hold.eI,⟨h.hold.lists.cells.grown r (by simp;omega),h.hold.lists.ents.grown r (by simp;omega),h.hold.lists.items.grown r (by simp;omega)⟩,own_sets (by omega) vs 0 x h.grown⟩

theorem Gd.boxes (w:World) (gC gE gI cC cE cI:Nat) (s g:Nat→Int):∃x,x=(w.alloc (.cells (Gd.world s gC gE gI cC cE cI g) 29)).alloc (.cells #[.int .i64 0,.int .i64 0,.int .i64 0,.int .i64 0,.slice none 0 0,.slice none 0 0,.slice none 0 0,.int .i64 0,.int .i64 0,.int .i64 0,.int .i64 0] 29)∧Lie x w.heap.size 29 11 (Gd.box s gC gE gI cC cE cI g)∧Lie x (w.heap.size+1) 29 11 (fun j=>#[.int .i64 0,.int .i64 0,.int .i64 0,.int .i64 0,.slice none 0 0,.slice none 0 0,.slice none 0 0,.int .i64 0,.int .i64 0,.int .i64 0,Value.int .i64 0][j]?.getD undef)∧w.grownBy x none∧x.heap.size=w.heap.size+2:=by
 refine ⟨_,rfl,((Arr.world (heap_alloc_new w (.cells (Gd.world s gC gE gI cC cE cI g) 29))).alloc _).lie,?_,gal (World.grownBy_alloc _ _ _) _,by simp⟩
 have h:=Arr.lit (heap_alloc_new (w.alloc (.cells (Gd.world s gC gE gI cC cE cI g) 29)) (.cells #[.int .i64 0,.int .i64 0,.int .i64 0,.int .i64 0,.slice none 0 0,.slice none 0 0,.slice none 0 0,.int .i64 0,.int .i64 0,.int .i64 0,.int .i64 0] 29))
 rw [show (w.alloc (.cells (Gd.world s gC gE gI cC cE cI g) 29)).heap.size=w.heap.size+1 by simp] at h
 exact h.lie

theorem Gd.res_cells {x:World} {R:Nat} (h:Lie x R 29 11 (fun j=>#[.int .i64 0,.int .i64 0,.int .i64 0,.int .i64 0,.slice none 0 0,.slice none 0 0,.slice none 0 0,.int .i64 0,.int .i64 0,.int .i64 0,Value.int .i64 0][j]?.getD undef)) :
  x.cell? ⟨R,0,none⟩=some (.int .i64 0)∧x.cell? ⟨R,1,none⟩=some (.int .i64 0)∧x.cell? ⟨R,2,none⟩=some (.int .i64 0)∧x.cell? ⟨R,3,none⟩=some (.int .i64 0)∧x.cell? ⟨R,4,none⟩=some (.slice none 0 0)∧x.cell? ⟨R,5,none⟩=some (.slice none 0 0)∧x.cell? ⟨R,6,none⟩=some (.slice none 0 0)∧x.cell? ⟨R,7,none⟩=some (.int .i64 0)∧x.cell? ⟨R,8,none⟩=some (.int .i64 0)∧x.cell? ⟨R,9,none⟩=some (.int .i64 0)∧x.cell? ⟨R,10,none⟩=some (.int .i64 0) :=
 ⟨h.cell (by omega),h.cell (by omega),h.cell (by omega),h.cell (by omega),h.cell (by omega),h.cell (by omega),h.cell (by omega),h.cell (by omega),h.cell (by omega),h.cell (by omega),h.cell (by omega)⟩

def Gd.hero (E:Nat→Nat→Int) (seat:Int):Int:=En.first (En.heroQ E seat) 32

end Go.Proofs.Ytapgkgbpekkdjaa
