import Derived.Test.YtldgbkjceildfaaGreatBy12
import Derived.Test.YtldgbkjceildfaaGreatBy13
namespace Go.Proofs.YtldgbkjceildfaaGreat
open Go.RowKit

structure Gd.Boxed (w x:World) (B gC gE gI cC cE cI:Nat) (s g c:Nat→Int) (E I:Nat→Nat→Int):Prop where
 hold:Gd.Hold x B gC gE gI cC cE cI s g c E I
 at_:w.heap.size=B
 lC:B+2≤gC
 lE:B+2≤gE
 lI:B+2≤gI
 cap:32≤cE
 res:Lie x (B+1) 30 11 (fun j=>#[.int .i64 0,.int .i64 0,.int .i64 0,.int .i64 0,.slice none 0 0,.slice none 0 0,.slice none 0 0,.int .i64 0,.int .i64 0,.int .i64 0,Value.int .i64 0][j]?.getD undef)
 grown:w.grownBy x none

theorem Gd.Boxed.on {w x y:World} {B gC gE gI cC cE cI:Nat} {s g c:Nat→Int} {E I:Nat→Nat→Int} (h:Gd.Boxed w x B gC gE gI cC cE cI s g c E I) (hg:x.grownBy y none):Gd.Boxed w y B gC gE gI cC cE cI s g c E I :=
 { h with hold:=h.hold.on hg,res:=h.res.on hg,grown:=gtr h.grown hg }

theorem Gd.Boxed.worlds {w x:World} {B gC gE gI cC cE cI:Nat} {s g c:Nat→Int} {E I:Nat→Nat→Int} (h:Gd.Boxed w x B gC gE gI cC cE cI s g c E I) (vs:List Value):Gd.Worlds w s g c E I (.returned (.agg (Gd.world s gC gE gI cC cE cI g))) (x.setCells (B+1) 0 vs):=by
 have hB:=h.at_;have lC:=h.lC;have lE:=h.lE;have lI:=h.lI;have r:=gss (g:=B+1) vs 0 x (World.grownBy.refl _ _);exact ⟨gC,gE,gI,cC,cE,cI,rfl,h.cap,by omega,by omega,by omega,h.hold.cE,h.hold.cI,h.hold.eI,⟨h.hold.lists.cells.grown r (by simp;omega),h.hold.lists.ents.grown r (by simp;omega),h.hold.lists.items.grown r (by simp;omega)⟩,own_sets (by omega) vs 0 x h.grown⟩

theorem Gd.boxes (w:World) (gC gE gI cC cE cI:Nat) (s g:Nat→Int):∃x,x=(w.alloc (.cells (Gd.world s gC gE gI cC cE cI g) 30)).alloc (.cells #[.int .i64 0,.int .i64 0,.int .i64 0,.int .i64 0,.slice none 0 0,.slice none 0 0,.slice none 0 0,.int .i64 0,.int .i64 0,.int .i64 0,.int .i64 0] 30)∧Lie x w.heap.size 30 11 (Gd.box s gC gE gI cC cE cI g)∧Lie x (w.heap.size+1) 30 11 (fun j=>#[.int .i64 0,.int .i64 0,.int .i64 0,.int .i64 0,.slice none 0 0,.slice none 0 0,.slice none 0 0,.int .i64 0,.int .i64 0,.int .i64 0,Value.int .i64 0][j]?.getD undef)∧w.grownBy x none∧x.heap.size=w.heap.size+2:=by
 refine ⟨_,rfl,((Arr.world (heap_alloc_new w (.cells (Gd.world s gC gE gI cC cE cI g) 30))).alloc _).lie,?_,gal (World.grownBy_alloc _ _ _) _,by simp⟩;have h:=Arr.lit (heap_alloc_new (w.alloc (.cells (Gd.world s gC gE gI cC cE cI g) 30)) (.cells #[.int .i64 0,.int .i64 0,.int .i64 0,.int .i64 0,.slice none 0 0,.slice none 0 0,.slice none 0 0,.int .i64 0,.int .i64 0,.int .i64 0,.int .i64 0] 30));rw [show (w.alloc (.cells (Gd.world s gC gE gI cC cE cI g) 30)).heap.size=w.heap.size+1 by simp] at h;exact h.lie

theorem Lie.whole {x:World} {B:Nat} {T:TypeId} {F:Nat→Value} (h:Lie x B T 11 F) (s g:Nat→Int) (gC gE gI cC cE cI:Nat):Lie (x.setCells B 0 (Gd.world s gC gE gI cC cE cI g).toList) B T 11 (Gd.box s gC gE gI cC cE cI g):=by
 refine (h.stores 0 _).congr fun j hj=>?_;show (if 0≤j∧j<0+11 then (Gd.world s gC gE gI cC cE cI g).toList[j - 0]?.getD undef else F j)=_;rw [if_pos (by omega),Nat.sub_zero,Array.getElem?_toList,Gd.world_at s gC gE gI cC cE cI g j hj];rfl

theorem Gd.res_cells {x:World} {R:Nat} (h:Lie x R 30 11 (fun j=>#[.int .i64 0,.int .i64 0,.int .i64 0,.int .i64 0,.slice none 0 0,.slice none 0 0,.slice none 0 0,.int .i64 0,.int .i64 0,.int .i64 0,Value.int .i64 0][j]?.getD undef)) :
  x.cell? ⟨R,0,none⟩=some (.int .i64 0)∧x.cell? ⟨R,1,none⟩=some (.int .i64 0)∧x.cell? ⟨R,2,none⟩=some (.int .i64 0)∧x.cell? ⟨R,3,none⟩=some (.int .i64 0)∧x.cell? ⟨R,4,none⟩=some (.slice none 0 0)∧x.cell? ⟨R,5,none⟩=some (.slice none 0 0)∧x.cell? ⟨R,6,none⟩=some (.slice none 0 0)∧x.cell? ⟨R,7,none⟩=some (.int .i64 0)∧x.cell? ⟨R,8,none⟩=some (.int .i64 0)∧x.cell? ⟨R,9,none⟩=some (.int .i64 0)∧x.cell? ⟨R,10,none⟩=some (.int .i64 0) :=
 ⟨h.cell (by omega),h.cell (by omega),h.cell (by omega),h.cell (by omega),h.cell (by omega),h.cell (by omega),h.cell (by omega),h.cell (by omega),h.cell (by omega),h.cell (by omega),h.cell (by omega)⟩

def Gd.hero (E:Nat→Nat→Int) (seat:Int):Int:=En.first (En.heroQ E seat) 32

def Gd.nextI (c g:Nat→Int) (E I:Nat→Nat→Int) (seat input:Int):Nat→Nat→Int :=
 if 0≤seat∧seat<4∧0≤Gd.hero E seat then Gd.act I 40 seat (E (Gd.hero E seat).toNat 3) (E (Gd.hero E seat).toNat 4) (decide (Gr.at 384 c (E (Gd.hero E seat).toNat 3) (E (Gd.hero E seat).toNat 4)=5)) (g seat.toNat) input else I

def Gd.nextE (E I:Nat→Nat→Int) (seat input:Int):Nat→Nat→Int :=
 if 0≤seat∧seat<4∧0≤Gd.hero E seat then Gd.entsOf E I (Gd.hero E seat).toNat seat input else E

def Gd.nextG (c g:Nat→Int) (E I:Nat→Nat→Int) (seat input:Int):Nat→Int :=
 if 0≤seat∧seat<4∧0≤Gd.hero E seat then Gd.give g seat.toNat (Gd.goldOf I seat (E (Gd.hero E seat).toNat 3) (E (Gd.hero E seat).toNat 4) (decide (Gr.at 384 c (E (Gd.hero E seat).toNat 3) (E (Gd.hero E seat).toNat 4)=5)) (g seat.toNat) input) else g

theorem Gd.hero_pos {E:Nat→Nat→Int} {seat:Int} (h:0≤Gd.hero E seat):∃k:Nat,k<32∧Gd.hero E seat=(k:Int)∧E k 2=seat∧E k 0=1:=by
 unfold Gd.hero at *
 rcases En.first_cases (En.heroQ E seat) 32 with ⟨h',_⟩|⟨k,hk,h',hq,_⟩
 ·omega
 ·simp only [En.heroQ,Bool.and_eq_true,decide_eq_true_eq] at hq;exact ⟨k,hk,h',hq.2,hq.1⟩

end Go.Proofs.YtldgbkjceildfaaGreat
