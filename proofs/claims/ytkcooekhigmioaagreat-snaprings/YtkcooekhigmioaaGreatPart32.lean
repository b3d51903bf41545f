import Derived.Test.YtkcooekhigmioaaGreatPart26
namespace Go.Proofs.YtkcooekhigmioaaGreat
open Go.RowKit

structure Cr.Hand (w x:World) (B gC gE gI cC cE cI:Nat) (s g c:Nat→Int) (E I:Nat→Nat→Int):Prop where
 hold:Gd.Hold x B gC gE gI cC cE cI s g c E I
 lB:w.heap.size≤B
 cap:32≤cE
 grown:w.grownBy x none

theorem Cr.Hand.on {w x y:World} {B gC gE gI cC cE cI:Nat} {s g c:Nat→Int} {E I:Nat→Nat→Int} (h:Cr.Hand w x B gC gE gI cC cE cI s g c E I) (hg:x.grownBy y none):Cr.Hand w y B gC gE gI cC cE cI s g c E I :=
 ⟨h.hold.on hg,h.lB,h.cap,gtr h.grown hg⟩

theorem Cr.Hand.folk {w x x':World} {B gC gE gI cC cE cI jE dE:Nat} {s g c:Nat→Int} {E I F:Nat→Nat→Int} (h:Cr.Hand w x B gC gE gI cC cE cI s g c E I) (hcap:32≤dE) (hj:jE=gE∨x.heap.size≤jE) (hO:Own x' jE 32 F) (hg:x.grownBy x' none) :
  Cr.Hand w (x'.setCell ⟨B,5,none⟩ (.slice (some ⟨jE,0,none⟩) 32 dE)) B gC jE gI cC dE cI s g c F I:=by
 have h1:=h.hold.box.lt
 have h2:=h.hold.lists.cells.lt
 have h3:=h.hold.lists.items.lt
 have h5:=h.hold.bE
 have h6:=h.hold.cE
 have h7:=h.hold.eI
 have nB:B≠jE:=by omega
 have nC:gC≠jE:=by omega
 have nI:jE≠gI:=by omega
 have r:=gs0 x' B 5 (.slice (some ⟨jE,0,none⟩) 32 dE)
 have hb:=((h.hold.box.on hg).store 5 (.slice (some ⟨jE,0,none⟩) 32 dE)).congr (Gd.box_5 s g gC gE gI cC cE cI jE dE)
 exact ⟨⟨hb,⟨(h.hold.lists.cells.on hg).grown r (by simpa using h.hold.bC),(hO.lie (m:=352) (by omega)).grown r (by simpa using nB),(h.hold.lists.items.on hg).grown r (by simpa using h.hold.bI)⟩,h.hold.bC,nB,h.hold.bI,nC,h.hold.cI,nI⟩,h.lB,hcap,gsr (gtr h.grown hg) ⟨B,5,none⟩ h.lB _⟩

theorem Cr.box_6 (s g:Nat→Int) (gC gE gI cC cE cI jI dI:Nat):∀c,c<11→(if c=6 then Value.slice (some ⟨jI,0,none⟩) 40 dI else Gd.box s gC gE gI cC cE cI g c)=Gd.box s gC gE jI cC cE dI g c:=fun c hc=>by
 rcases (show c=0∨c=1∨c=2∨c=3∨c=4∨c=5∨c=6∨c=7∨c=8∨c=9∨c=10 by omega) with rfl | rfl | rfl | rfl | rfl | rfl | rfl | rfl | rfl | rfl | rfl <;> rfl

theorem Cr.Hand.goods {w x x':World} {B gC gE gI cC cE cI jI dI:Nat} {s g c:Nat→Int} {E I J:Nat→Nat→Int} (h:Cr.Hand w x B gC gE gI cC cE cI s g c E I) (hj:x.heap.size≤jI) (hJ:Lie x' jI 72 160 (Gd.flat J)) (hg:x.grownBy x' none) :
  Cr.Hand w (x'.setCell ⟨B,6,none⟩ (.slice (some ⟨jI,0,none⟩) 40 dI)) B gC gE jI cC cE dI s g c E J:=by
 have h1:=h.hold.box.lt
 have h2:=h.hold.lists.cells.lt
 have h3:=h.hold.lists.ents.lt
 have nB:B≠jI:=by omega
 have r:=gs0 x' B 6 (.slice (some ⟨jI,0,none⟩) 40 dI)
 have hb:=((h.hold.box.on hg).store 6 (.slice (some ⟨jI,0,none⟩) 40 dI)).congr (Cr.box_6 s g gC gE gI cC cE cI jI dI)
 exact ⟨⟨hb,⟨(h.hold.lists.cells.on hg).grown r (by simpa using h.hold.bC),(h.hold.lists.ents.on hg).grown r (by simpa using h.hold.bE),hJ.grown r (by simpa using nB)⟩,h.hold.bC,h.hold.bE,nB,h.hold.cE,by omega,by omega⟩,h.lB,h.cap,gsr (gtr h.grown hg) ⟨B,6,none⟩ h.lB _⟩

theorem Cr.Hand.num {v x:World} {B gC gE gI cC cE cI:Nat} {s g c:Nat→Int} {E I:Nat→Nat→Int} (h:Cr.Hand v x B gC gE gI cC cE cI s g c E I) (k:Nat) (hk:k<4) (u:Int):Cr.Hand v (x.setCell ⟨B,k,none⟩ (.int .i64 u)) B gC gE gI cC cE cI (Cr.num s k u) g c E I:=by
 have hh:=h.hold
 refine ⟨⟨(hh.box.store k (.int .i64 u)).congr fun j hj=>?_,⟨hh.lists.cells.other hh.bC _ _,hh.lists.ents.other hh.bE _ _,hh.lists.items.other hh.bI _ _⟩,hh.bC,hh.bE,hh.bI,hh.cE,hh.cI,hh.eI⟩,h.lB,h.cap,gsr h.grown ⟨B,k,none⟩ h.lB _⟩
 rcases (show k=0∨k=1∨k=2∨k=3 by omega) with rfl | rfl | rfl | rfl <;> rcases (show j=0∨j=1∨j=2∨j=3∨j=4∨j=5∨j=6∨j=7∨j=8∨j=9∨j=10 by omega) with rfl | rfl | rfl | rfl | rfl | rfl | rfl | rfl | rfl | rfl | rfl <;> rfl

theorem Cr.Hand.ground {v x x':World} {B gC gE gI cC cE cI G dC:Nat} {s g c c':Nat→Int} {E I:Nat→Nat→Int} (h:Cr.Hand v x B gC gE gI cC cE cI s g c E I) (hG:x.heap.size≤G) (hA:Lie x' G 5 384 (Byts c')) (hg:x.grownBy x' none) :
  Cr.Hand v (x'.setCell ⟨B,4,none⟩ (.slice (some ⟨G,0,none⟩) 384 dC)) B G gE gI dC cE cI s g c' E I:=by
 have hh:=(h.on hg).hold
 have q1:=h.hold.box.lt
 have q2:=h.hold.lists.ents.lt
 have q3:=h.hold.lists.items.lt
 refine ⟨⟨(hh.box.store 4 _).congr fun j hj=>?_,⟨hA.other (by omega) _ _,hh.lists.ents.other hh.bE _ _,hh.lists.items.other hh.bI _ _⟩,by omega,hh.bE,hh.bI,by omega,by omega,hh.eI⟩,h.lB,h.cap,gsr (gtr h.grown hg) ⟨B,4,none⟩ h.lB _⟩
 rcases (show j=0∨j=1∨j=2∨j=3∨j=4∨j=5∨j=6∨j=7∨j=8∨j=9∨j=10 by omega) with rfl | rfl | rfl | rfl | rfl | rfl | rfl | rfl | rfl | rfl | rfl <;> rfl


open Go.RowKit

def Cr.acts (h i:Nat→Int) (b:Nat→Bool):Array Value:=#[.int .i64 (h 0),.int .i64 (i 0),.bool (b 0),.int .i64 (h 1),.int .i64 (i 1),.bool (b 1),.int .i64 (h 2),.int .i64 (i 2),.bool (b 2),.int .i64 (h 3),.int .i64 (i 3),.bool (b 3)]

def Cr.actF (h i:Nat→Int) (b:Nat→Bool) (j:Nat):Value:=if j % 3=0 then .int .i64 (h (j / 3)) else if j % 3=1 then .int .i64 (i (j / 3)) else .bool (b (j / 3))

theorem Cr.acts_lie {x:World} {A:Nat} {T:TypeId} {h i:Nat→Int} {b:Nat→Bool} (hA:x.heap[A]?=some (.cells (Cr.acts h i b) T (0,0))):Lie x A T 12 (Cr.actF h i b) :=
 Lie.congr (m:=12) (Arr.lit hA).lie fun j hj=>by
  rcases (show j=0∨j=1∨j=2∨j=3∨j=4∨j=5∨j=6∨j=7∨j=8∨j=9∨j=10∨j=11 by omega) with rfl | rfl | rfl | rfl | rfl | rfl | rfl | rfl | rfl | rfl | rfl | rfl <;> rfl

theorem Cr.acts_put {x:World} {A t:Nat} {T:TypeId} {h i:Nat→Int} {b:Nat→Bool} (hA:Lie x A T 12 (Cr.actF h i b)) (u v:Int) (c:Bool) :
  Lie (((x.setCell ⟨A,t*3,none⟩ (.int .i64 u)).setCell ⟨A,t*3+1,none⟩ (.int .i64 v)).setCell ⟨A,t*3+2,none⟩ (.bool c)) A T 12 (Cr.actF (fun k=>if k=t then u else h k) (fun k=>if k=t then v else i k) (fun k=>if k=t then c else b k)):=by
 refine (((hA.store _ _).store _ _).store _ _).congr fun j _=>?_
 unfold Cr.actF
 by_cases e:j / 3=t
 ·rcases (show j=t*3∨j=t*3+1∨j=t*3+2 by omega) with hj | hj | hj
  ·have h0:j % 3=0:=by omega
   rw [if_neg (by omega),if_neg (by omega),if_pos hj,if_pos h0]
   simp only [e,if_true]
  ·have h0:j % 3=1:=by omega
   rw [if_neg (by omega),if_pos hj,if_neg (by omega),if_pos h0]
   simp only [e,if_true]
  ·have h0:j % 3=2:=by omega
   rw [if_pos hj,if_neg (by omega),if_neg (by omega)]
   simp only [e,if_true]
 ·rw [if_neg (by omega),if_neg (by omega),if_neg (by omega)]
  simp only [e,if_false]

def Cr.Nums (w:World) (a:Option Addr) (n:Nat) (z:Nat→Int):Prop:=∀i,i<n→∃b o,a=some ⟨b,o,none⟩∧b<w.heap.size∧w.cell? ⟨b,o+i,none⟩=some (.int .i64 (z i))∧-9223372036854775808≤z i∧z i≤9223372036854775807

theorem Cr.Nums.on {w w':World} {a:Option Addr} {n:Nat} {z:Nat→Int} (h:Cr.Nums w a n z) (hg:w.grownBy w' none):Cr.Nums w' a n z:=fun i hi=>by
 obtain ⟨b,o,ha,hb,hc,h1,h2⟩:=h i hi
 exact ⟨b,o,ha,Nat.lt_of_lt_of_le hb hg.size,(gce hg b _ hb (by simp)).trans hc,h1,h2⟩

theorem Cr.quo_wrap {u n:Int} (h1:-9223372036854775808≤u) (h2:u≤9223372036854775807) (hn:2≤n):IntKind.i64.wrap (u.tdiv n)=u.tdiv n:=by
 have key:∀v:Int,0≤v→0≤v.tdiv n∧v.tdiv n*2≤v:=fun v hv=>by
  rw [Int.tdiv_eq_ediv_of_nonneg hv]
  have a1:=Int.ediv_nonneg hv (show 0≤n by omega)
  have a2:=Int.ediv_mul_le v (show n≠0 by omega)
  refine ⟨a1,Int.le_trans ?_ a2⟩
  exact Int.mul_le_mul_of_nonneg_left hn a1
 rw [IntKind.wrap_i64]
 by_cases h0:0≤u
 ·have:=key u h0
  omega
 ·have h3:=key (-u) (by omega)
  rw [Int.neg_tdiv] at h3
  omega

theorem Cr.acts_cells {x:World} {A:Nat} {T:TypeId} {h i:Nat→Int} {b:Nat→Bool} (hA:Lie x A T 12 (Cr.actF h i b)) :
  x.cell? ⟨A,0,none⟩=some (.int .i64 (h 0))∧x.cell? ⟨A,1,none⟩=some (.int .i64 (i 0))∧x.cell? ⟨A,2,none⟩=some (.bool (b 0))∧x.cell? ⟨A,3,none⟩=some (.int .i64 (h 1))∧x.cell? ⟨A,4,none⟩=some (.int .i64 (i 1))∧x.cell? ⟨A,5,none⟩=some (.bool (b 1))∧x.cell? ⟨A,6,none⟩=some (.int .i64 (h 2))∧x.cell? ⟨A,7,none⟩=some (.int .i64 (i 2))∧x.cell? ⟨A,8,none⟩=some (.bool (b 2))∧x.cell? ⟨A,9,none⟩=some (.int .i64 (h 3))∧x.cell? ⟨A,10,none⟩=some (.int .i64 (i 3))∧x.cell? ⟨A,11,none⟩=some (.bool (b 3)) :=
 ⟨hA.cell (c:=0) (by omega),hA.cell (c:=1) (by omega),hA.cell (c:=2) (by omega),hA.cell (c:=3) (by omega),hA.cell (c:=4) (by omega),hA.cell (c:=5) (by omega),hA.cell (c:=6) (by omega),hA.cell (c:=7) (by omega),hA.cell (c:=8) (by omega),hA.cell (c:=9) (by omega),hA.cell (c:=10) (by omega),hA.cell (c:=11) (by omega)⟩

end Go.Proofs.YtkcooekhigmioaaGreat
