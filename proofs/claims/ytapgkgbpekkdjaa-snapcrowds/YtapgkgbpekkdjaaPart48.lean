import Derived.Test.YtapgkgbpekkdjaaPart44
import Derived.Test.YtapgkgbpekkdjaaPart47
namespace Go.Proofs.Ytapgkgbpekkdjaa
open Go.RowKit

structure Cr.Hand (w x:World) (B gC gE gI cC cE cI:Nat) (s g c:Nat→Int) (E I:Nat→Nat→Int):Prop where
 hold:Gd.Hold x B gC gE gI cC cE cI s g c E I
 lB:w.heap.size≤B
 cap:32≤cE
 grown:w.grownBy x none

theorem Cr.Hand.on {w x y:World} {B gC gE gI cC cE cI:Nat} {s g c:Nat→Int} {E I:Nat→Nat→Int} (h:Cr.Hand w x B gC gE gI cC cE cI s g c E I) (hg:x.grownBy y none):Cr.Hand w y B gC gE gI cC cE cI s g c E I :=
 ⟨h.hold.on hg,h.lB,h.cap,gtr h.grown hg⟩

theorem Cr.Hand.folk {w x x':World} {B gC gE gI cC cE cI jE dE:Nat} {s g c:Nat→Int} {E I F:Nat→Nat→Int} (h:Cr.Hand w x B gC gE gI cC cE cI s g c E I) (hcap:32≤dE) (hj:jE=gE∨x.heap.size≤jE) (hO:Own x' jE 32 F) (hg:x.grownBy x' none) :
  Cr.Hand w (x'.setCell ⟨B,5,none⟩ (.slice (some ⟨jE,0,none⟩) 32 dE)) B gC jE gI cC dE cI s g c F I:=by
 have h1:=h.hold.box.lt
 have h2:=h.hold.lists.cells.lt
 have h3:=h.hold.lists.items.lt
 have h5:=h.hold.bE
 have h6:=h.hold.cE
 have h7:=h.hold.eI
 have nB:B≠jE:=by omega
 have nC:gC≠jE:=by omega
 have nI:jE≠gI:=by omega
 have r:=gs0 x' B 5 (.slice (some ⟨jE,0,none⟩) 32 dE)
 have hb:=((h.hold.box.on hg).store 5 (.slice (some ⟨jE,0,none⟩) 32 dE)).congr (Gd.box_5 s g gC gE gI cC cE cI jE dE)
 exact ⟨⟨hb,⟨(h.hold.lists.cells.on hg).grown r (by simpa using h.hold.bC),(hO.lie (m:=352) (by omega)).grown r (by simpa using nB),(h.hold.lists.items.on hg).grown r (by simpa using h.hold.bI)⟩,h.hold.bC,nB,h.hold.bI,nC,h.hold.cI,nI⟩,h.lB,hcap,gsr (gtr h.grown hg) ⟨B,5,none⟩ h.lB _⟩

theorem Cr.box_6 (s g:Nat→Int) (gC gE gI cC cE cI jI dI:Nat):∀c,c<11→(if c=6 then Value.slice (some ⟨jI,0,none⟩) 40 dI else Gd.box s gC gE gI cC cE cI g c)=Gd.box s gC gE jI cC cE dI g c:=fun c hc=>by
 rcases (show c=0∨c=1∨c=2∨c=3∨c=4∨c=5∨c=6∨c=7∨c=8∨c=9∨c=10 by omega) with rfl | rfl | rfl | rfl | rfl | rfl | rfl | rfl | rfl | rfl | rfl <;> rfl

theorem Cr.Hand.goods {w x x':World} {B gC gE gI cC cE cI jI dI:Nat} {s g c:Nat→Int} {E I J:Nat→Nat→Int} (h:Cr.Hand w x B gC gE gI cC cE cI s g c E I) (hj:x.heap.size≤jI) (hJ:Lie x' jI 47 160 (Gd.flat J)) (hg:x.grownBy x' none) :
  Cr.Hand w (x'.setCell ⟨B,6,none⟩ (.slice (some ⟨jI,0,none⟩) 40 dI)) B gC gE jI cC cE dI s g c E J:=by
 have h1:=h.hold.box.lt
 have h2:=h.hold.lists.cells.lt
 have h3:=h.hold.lists.ents.lt
 have nB:B≠jI:=by omega
 have r:=gs0 x' B 6 (.slice (some ⟨jI,0,none⟩) 40 dI)
 have hb:=((h.hold.box.on hg).store 6 (.slice (some ⟨jI,0,none⟩) 40 dI)).congr (Cr.box_6 s g gC gE gI cC cE cI jI dI)
 exact ⟨⟨hb,⟨(h.hold.lists.cells.on hg).grown r (by simpa using h.hold.bC),(h.hold.lists.ents.on hg).grown r (by simpa using h.hold.bE),hJ.grown r (by simpa using nB)⟩,h.hold.bC,h.hold.bE,nB,h.hold.cE,by omega,by omega⟩,h.lB,h.cap,gsr (gtr h.grown hg) ⟨B,6,none⟩ h.lB _⟩

end Go.Proofs.Ytapgkgbpekkdjaa
