import Derived.Test.YtbanjoflgoiegaaGreatPs23
import Derived.Test.YtbanjoflgoiegaaGreatPs21
import Derived.Deep.CutRange
import Derived.Deep.CutBlock
import Derived.Test.YtbanjoflgoiegaaGreatPs17
namespace Go.Proofs.YtbanjoflgoiegaaGreat
open Go.RowKit

structure Gd.Law (w x:World) (T gC gE gI cC cE cI:Nat) (s g c:Nat→Int) (E I:Nat→Nat→Int):Prop where
 hold:Gd.Hold x T gC gE gI cC cE cI s g c E I
 lT:w.heap.size≤T
 lE:w.heap.size≤gE
 lI:w.heap.size≤gI
 cap:32≤cE
 grown:w.grownBy x none

theorem Gd.Law.on {w x y:World} {T gC gE gI cC cE cI:Nat} {s g c:Nat→Int} {E I:Nat→Nat→Int} (h:Gd.Law w x T gC gE gI cC cE cI s g c E I) (hg:x.grownBy y none):Gd.Law w y T gC gE gI cC cE cI s g c E I :=
 { h with hold:=h.hold.on hg,grown:=gtr h.grown hg }

theorem Gd.law_new {w x x':World} {gC gE gI cC cE cI:Nat} {s g c:Nat→Int} {E I:Nat→Nat→Int} (hgx:w.grownBy x none) (hcap:32≤cE) (l1:x.heap.size≤gC) (l2:x.heap.size≤gE) (l3:x.heap.size≤gI) (n1:gC≠gE) (n2:gC≠gI) (n3:gE≠gI) (hL:Gd.Lists x' gC gE gI c E I) (hg:x.grownBy x' none) :
  Gd.Law w (x'.alloc (.cells (Gd.world s gC gE gI cC cE cI g) 30)) x'.heap.size gC gE gI cC cE cI s g c E I:=by
 have h1:=hL.cells.lt
 have h2:=hL.ents.lt
 have h3:=hL.items.lt
 have h4:=hgx.size
 have h5:=hg.size
 have _:=l1
 exact ⟨⟨(Arr.world (heap_alloc_new x' _)).lie,hL.on (World.grownBy_alloc _ _ _),by omega,by omega,by omega,n1,n2,n3⟩,by omega,by omega,by omega,hcap,gtr hgx (gal hg _)⟩

theorem Gd.Law.eleven {w x:World} {T gC gE gI cC cE cI:Nat} {s g c:Nat→Int} {E I:Nat→Nat→Int} (h:Gd.Law w x T gC gE gI cC cE cI s g c E I):x.cell? ⟨T,0,none⟩=some (.int .i64 (s 0))∧x.cell? ⟨T,1,none⟩=some (.int .i64 (s 1))∧x.cell? ⟨T,2,none⟩=some (.int .i64 (s 2))∧x.cell? ⟨T,3,none⟩=some (.int .i64 (s 3))∧x.cell? ⟨T,4,none⟩=some (.slice (some ⟨gC,0,none⟩) 384 cC)∧x.cell? ⟨T,5,none⟩=some (.slice (some ⟨gE,0,none⟩) 32 cE)∧x.cell? ⟨T,6,none⟩=some (.slice (some ⟨gI,0,none⟩) 40 cI)∧x.cell? ⟨T,7,none⟩=some (.int .i64 (g 0))∧x.cell? ⟨T,8,none⟩=some (.int .i64 (g 1))∧x.cell? ⟨T,9,none⟩=some (.int .i64 (g 2))∧x.cell? ⟨T,10,none⟩=some (.int .i64 (g 3)) :=
 h.hold.box.eleven


open Go.RowKit

theorem Gd.Law.over {w x x':World} {T gC gE gI cC cE cI jC jE jI dC dE dI:Nat} {s g c s' g' c':Nat→Int} {E I F J:Nat→Nat→Int} (h:Gd.Law w x T gC gE gI cC cE cI s g c E I) (hcap:32≤dE) (l1:x.heap.size≤jC) (l2:x.heap.size≤jE) (l3:x.heap.size≤jI) (n1:jC≠jE) (n2:jC≠jI) (n3:jE≠jI) (hL:Gd.Lists x' jC jE jI c' F J) (hg:x.grownBy x' none) :
  Gd.Law w (x'.setCells T 0 (Gd.world s' jC jE jI dC dE dI g').toList) T jC jE jI dC dE dI s' g' c' F J:=by
 have h1:=h.hold.box.lt
 have h2:=h.grown.size
 have r:=gss (g:=T) (Gd.world s' jC jE jI dC dE dI g').toList 0 x' (World.grownBy.refl _ _)
 exact ⟨⟨(h.hold.box.on hg).whole s' g' jC jE jI dC dE dI,⟨hL.cells.grown r (by simp;omega),hL.ents.grown r (by simp;omega),hL.items.grown r (by simp;omega)⟩,by omega,by omega,by omega,n1,n2,n3⟩,h.lT,by omega,by omega,hcap,own_sets h.lT _ 0 x' (gtr h.grown hg)⟩


open Go.RowKit

theorem Gd.set_same (E:Nat→Nat→Int) (k j:Nat) (v:Int):Gd.set E k j v k j=v:=if_pos ⟨rfl,rfl⟩

theorem Gd.set_other {E:Nat→Nat→Int} {k j i l:Nat} {v:Int} (h:¬(i=k∧l=j)):Gd.set E k j v i l=E i l:=if_neg h

end Go.Proofs.YtbanjoflgoiegaaGreat
