import Derived.Laws.BitsAllLaws
import Derived.Test.YtapgkgbpekkdjaaPart34
namespace Go.Proofs.Ytapgkgbpekkdjaa
open Go.RowKit

def Nv.Words (n:Nat) (E:Nat→Nat→Int):Prop:=∀i,i<n→(-9223372036854775808≤E i 3∧E i 3≤9223372036854775807)∧(-9223372036854775808≤E i 4∧E i 4≤9223372036854775807)


open Go.RowKit

def Md.Fine (E:Nat→Nat→Int):Prop:=∀k,k<32→E k 0≠0→0≤E k 3∧E k 3<24∧0≤E k 4∧E k 4<16∧0≤E k 6∧E k 6≤20


open Go.RowKit

theorem Lie.copied (x:World) (e:Nat→Int) (T:TypeId):Lie (x.alloc (.cells (En.cells e) T)) x.heap.size T 11 (Ints e) :=
 Lie.congr (m:=11) (Arr.lit (heap_alloc_new x (.cells (En.cells e) T))).lie fun j hj=>by
  rcases (show j=0∨j=1∨j=2∨j=3∨j=4∨j=5∨j=6∨j=7∨j=8∨j=9∨j=10 by omega) with rfl | rfl | rfl | rfl | rfl | rfl | rfl | rfl | rfl | rfl | rfl <;> rfl

structure Gd.Shown (w x:World) (B gC gE gI cC cE cI:Nat) (s g c:Nat→Int) (E I:Nat→Nat→Int):Prop where
 box:Lie x B 29 11 (Gd.box s gC gE gI cC cE cI g)
 lists:Gd.Lists x gC gE gI c E I
 grown:w.grownBy x none

theorem Gd.Shown.on {w x y:World} {B gC gE gI cC cE cI:Nat} {s g c:Nat→Int} {E I:Nat→Nat→Int} (h:Gd.Shown w x B gC gE gI cC cE cI s g c E I) (hg:x.grownBy y none):Gd.Shown w y B gC gE gI cC cE cI s g c E I :=
 ⟨h.box.on hg,h.lists.on hg,gtr h.grown hg⟩


open Go.RowKit

def Md.Wide (e:Ending):Prop:=∃(s:Nat→Int) (gC gE gI cC cE cI:Nat) (g:Nat→Int),384≤cC∧e=.returned (.agg (Gd.world s gC gE gI cC cE cI g))

theorem Md.snug_cap {s:Nat→Int} {gC gE gI cC cE cI:Nat} {g:Nat→Int} (h:Gd.Snug (.returned (.agg (Gd.world s gC gE gI cC cE cI g)))):384≤cC:=by
 obtain ⟨s',gC',gE',gI',g',he⟩:=h
 simp [Gd.world] at he
 omega


open Go.RowKit

structure Md.Good (c:Nat→Int) (E I:Nat→Nat→Int):Prop where
 fine:Md.Fine E
 gens:En.Gens 32 E
 words:Nv.Words 32 E
 ok:Gd.Ok c 40 I

theorem Md.good_of {c:Nat→Int} {E I:Nat→Nat→Int} (hE:Md.Fine E) (hz:∀k,k<32→(0≤E k 1∧E k 1≤255)∧(E k 0=0→E k 3=0∧E k 4=0)) (hok:Gd.Ok c 40 I):Md.Good c E I :=
 ⟨hE,fun k hk=>(hz k hk).1,fun k hk=>by
  by_cases k0:E k 0=0
  ·have:=(hz k hk).2 k0
   omega
  ·have:=hE k hk k0
   omega,hok⟩

end Go.Proofs.Ytapgkgbpekkdjaa
