import Derived.Test.YtepppmepilffcaaGreatPw10
import Derived.Deep.RegionWith
import Derived.Deep.Cut
namespace Go.Proofs.YtepppmepilffcaaGreat
open Go.RowKit

def Gd.Worlds (w:World) (s g c:Nat→Int) (E I:Nat→Nat→Int) (e:Ending) (w':World):Prop :=
 ∃gC gE gI cC cE cI,e=.returned (.agg (Gd.world s gC gE gI cC cE cI g))∧32≤cE∧w.heap.size≤gC∧w.heap.size≤gE∧w.heap.size≤gI∧gC≠gE∧gC≠gI∧gE≠gI∧Gd.Lists w' gC gE gI c E I∧w.grownBy w' none

def Gd.WorldsW (w:World) (s g c:Nat→Int) (E I:Nat→Nat→Int) (e:Ending) (w':World):Prop :=
 ∃gC gE gI cC cE cI,e=.returned (.agg (Gd.world s gC gE gI cC cE cI g))∧(32≤cE∧384≤cC)∧w.heap.size≤gC∧w.heap.size≤gE∧w.heap.size≤gI∧gC≠gE∧gC≠gI∧gE≠gI∧Gd.Lists w' gC gE gI c E I∧w.grownBy w' none

theorem Gd.WorldsW.weak {w:World} {s g c:Nat→Int} {E I:Nat→Nat→Int} {e:Ending} {w':World} (h:Gd.WorldsW w s g c E I e w'):Gd.Worlds w s g c E I e w':=by
 obtain ⟨gC,gE,gI,cC,cE,cI,h1,h2,h3⟩:=h
 exact ⟨gC,gE,gI,cC,cE,cI,h1,h2.1,h3⟩

theorem Gd.Lists.read {x:World} {gC gE gI:Nat} {c:Nat→Int} {E I:Nat→Nat→Int} (h:Gd.Lists x gC gE gI c E I):(∀j,j<384→x.cell? ⟨gC,j,none⟩=some (Byts c j))∧(∀j,j<352→x.cell? ⟨gE,j,none⟩=some (En.flat E j))∧(∀j,j<160→x.cell? ⟨gI,j,none⟩=some (Gd.flat I j)) :=
 ⟨fun _ hj=>h.cells.cell hj,fun _ hj=>h.ents.cell hj,fun _ hj=>h.items.cell hj⟩

theorem Arr.lists {x:World} {B:Nat} {T:TypeId} {s g:Nat→Int} {gC gE gI cC cE cI g1 g2 g3 c1 c2 c3:Nat} (h:Arr x B T 11 (Gd.box s gC gE gI cC cE cI g)):Arr (((x.setCell ⟨B,4,none⟩ (.slice (some ⟨g1,0,none⟩) 384 c1)).setCell ⟨B,5,none⟩ (.slice (some ⟨g2,0,none⟩) 32 c2)).setCell ⟨B,6,none⟩ (.slice (some ⟨g3,0,none⟩) 40 c3)) B T 11 (Gd.box s g1 g2 g3 c1 c2 c3 g):=by
 refine (((h.store 4 (.slice (some ⟨g1,0,none⟩) 384 c1)).store 5 (.slice (some ⟨g2,0,none⟩) 32 c2)).store 6 (.slice (some ⟨g3,0,none⟩) 40 c3)).congr fun j hj=>?_
 rcases (show j=0∨j=1∨j=2∨j=3∨j=4∨j=5∨j=6∨j=7∨j=8∨j=9∨j=10 by omega) with rfl | rfl | rfl | rfl | rfl | rfl | rfl | rfl | rfl | rfl | rfl <;> rfl

theorem set3_root (x:World) (B:Nat) (v1 v2 v3:Value):x.grownBy (((x.setCell ⟨B,4,none⟩ v1).setCell ⟨B,5,none⟩ v2).setCell ⟨B,6,none⟩ v3) (some B):=gst (gst (gst (World.grownBy.refl _ _) _ _) _ _) _ _

theorem set3_grown {w x:World} (h:w.grownBy x none) {B:Nat} (hB:w.heap.size≤B) (v1 v2 v3:Value):w.grownBy (((x.setCell ⟨B,4,none⟩ v1).setCell ⟨B,5,none⟩ v2).setCell ⟨B,6,none⟩ v3) none :=
 gsr (gsr (gsr h ⟨B,4,none⟩ hB v1) ⟨B,5,none⟩ hB v2) ⟨B,6,none⟩ hB v3

theorem Lie.eleven {x:World} {B:Nat} {T:TypeId} {s g:Nat→Int} {gC gE gI cC cE cI:Nat} (h:Lie x B T 11 (Gd.box s gC gE gI cC cE cI g)) :
  x.cell? ⟨B,0,none⟩=some (.int .i64 (s 0))∧x.cell? ⟨B,1,none⟩=some (.int .i64 (s 1))∧x.cell? ⟨B,2,none⟩=some (.int .i64 (s 2))∧x.cell? ⟨B,3,none⟩=some (.int .i64 (s 3))∧x.cell? ⟨B,4,none⟩=some (.slice (some ⟨gC,0,none⟩) 384 cC)∧x.cell? ⟨B,5,none⟩=some (.slice (some ⟨gE,0,none⟩) 32 cE)∧x.cell? ⟨B,6,none⟩=some (.slice (some ⟨gI,0,none⟩) 40 cI)∧x.cell? ⟨B,7,none⟩=some (.int .i64 (g 0))∧x.cell? ⟨B,8,none⟩=some (.int .i64 (g 1))∧x.cell? ⟨B,9,none⟩=some (.int .i64 (g 2))∧x.cell? ⟨B,10,none⟩=some (.int .i64 (g 3)) :=
 ⟨h.cell (by omega),h.cell (by omega),h.cell (by omega),h.cell (by omega),h.cell (by omega),h.cell (by omega),h.cell (by omega),h.cell (by omega),h.cell (by omega),h.cell (by omega),h.cell (by omega)⟩

theorem Gd.apart_hold {w w0 y0 w1 w2 w3:World} {B g1 g2 g3 gC gE gI cC cE cI:Nat} {s g c:Nat→Int} {E I:Nat→Nat→Int} {Z:Nat→Value} (hbox:Arr w0 B 31 11 (Gd.box s gC gE gI cC cE cI g)) (hres:Arr w0 (B+1) 31 11 Z) (hg0:w.grownBy w0 none) (hB:w.heap.size=B) (hd:w0.grownBy y0 none)
  (l1:y0.heap.size≤g1) (a1:Lie w1 g1 5 384 (Byts c)) (n1:y0.grownBy w1 none) (l2:w1.heap.size≤g2) (a2:Lie w2 g2 61 352 (En.flat E)) (n2:w1.grownBy w2 none) (l3:w2.heap.size≤g3) (a3:Lie w3 g3 63 160 (Gd.flat I)) (n3:w2.grownBy w3 none) :
  Gd.Hold (((w3.setCell ⟨B,4,none⟩ (.slice (some ⟨g1,0,none⟩) 384 384)).setCell ⟨B,5,none⟩ (.slice (some ⟨g2,0,none⟩) 32 32)).setCell ⟨B,6,none⟩ (.slice (some ⟨g3,0,none⟩) 40 40)) B g1 g2 g3 384 32 40 s g c E I∧B+2≤g1∧B+2≤g2∧B+2≤g3∧Arr (((w3.setCell ⟨B,4,none⟩ (.slice (some ⟨g1,0,none⟩) 384 384)).setCell ⟨B,5,none⟩ (.slice (some ⟨g2,0,none⟩) 32 32)).setCell ⟨B,6,none⟩ (.slice (some ⟨g3,0,none⟩) 40 40)) (B+1) 31 11 Z∧w.grownBy (((w3.setCell ⟨B,4,none⟩ (.slice (some ⟨g1,0,none⟩) 384 384)).setCell ⟨B,5,none⟩ (.slice (some ⟨g2,0,none⟩) 32 32)).setCell ⟨B,6,none⟩ (.slice (some ⟨g3,0,none⟩) 40 40)) none:=by
 have n03:=gtr hd (gtr n1 (gtr n2 n3))
 have i0:=hg0.size
 have i1:=hd.size
 have i2:=hres.lt
 have i3:=n1.size
 have i4:=n2.size
 have j1:=a1.lt
 have j2:=a2.lt
 have j3:=a3.lt
 have r:=set3_root w3 B (.slice (some ⟨g1,0,none⟩) 384 384) (.slice (some ⟨g2,0,none⟩) 32 32) (.slice (some ⟨g3,0,none⟩) 40 40)
 refine ⟨⟨(Arr.lists (hbox.grown n03 (by simp))).lie,⟨((a1.on n2).on n3).grown r (by simp;omega),(a2.on n3).grown r (by simp;omega),a3.grown r (by simp;omega)⟩,by omega,by omega,by omega,by omega,by omega,by omega⟩,by omega,by omega,by omega,(hres.grown n03 (by simp)).grown r (by simp),set3_grown (gtr hg0 n03) (by omega) _ _ _⟩

end Go.Proofs.YtepppmepilffcaaGreat
