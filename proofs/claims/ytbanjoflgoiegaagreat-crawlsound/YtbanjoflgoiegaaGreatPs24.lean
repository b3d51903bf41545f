import Derived.Test.YtbanjoflgoiegaaGreatPs17
import Derived.Test.YtbanjoflgoiegaaGreatPs22
import Derived.Test.YtbanjoflgoiegaaGreatPs23
import Derived.Deep.CutRange
import Derived.Deep.CutBlock
namespace Go.Proofs.YtbanjoflgoiegaaGreat
open Go.RowKit

def Md.Fine (E:Nat→Nat→Int):Prop:=∀k,k<32→E k 0≠0→0≤E k 3∧E k 3<24∧0≤E k 4∧E k 4<16∧0≤E k 6∧E k 6≤20

def Md.who (E:Nat→Nat→Int) (x y:Int) (d:Nat):Int:=En.first (En.atQ E (x+(Fx.way (d:Int)).1) (y+(Fx.way (d:Int)).2)) 32

def Md.foe (E:Nat→Nat→Int) (x y:Int) (d:Nat):Bool:=decide (0≤Md.who E x y d) && !(decide (E (Md.who E x y d).toNat 0=1))

def Md.robotAt (c:Nat→Int) (E I:Nat→Nat→Int) (seat:Int) (k:Nat) (v:Int):Prop :=
 if E k 5≤E k 6 / 3∧0≤Gd.has I 40 seat 1 1 then v=6
 else if Nv.wayFrom (Md.foe E (E k 3) (E k 4)) 4 1≠0 then v=Nv.wayFrom (Md.foe E (E k 3) (E k 4)) 4 1
 else if 0≤Gd.find I 40 1 (E k 3) (E k 4)∧(I (Gd.find I 40 1 (E k 3) (E k 4)).toNat 0=4∨0≤Gd.slot I 40 seat) then v=5
 else if Gr.at 384 c (E k 3) (E k 4)=4 then v=9
 else Nv.IsToward c (fun _=>Gr.find 384 c 4) 1 E 32 (E k 3) (E k 4) v

def Md.IsRobot (c:Nat→Int) (E I:Nat→Nat→Int) (seat v:Int):Prop :=
 if Gd.hero E seat<0 then v=0 else Md.robotAt c E I seat (Gd.hero E seat).toNat v

theorem Md.hero_row {E:Nat→Nat→Int} {seat:Int} (h:¬Gd.hero E seat<0):∃k:Nat,k<32∧Gd.hero E seat=(k:Int)∧E k 0=1∧E k 2=seat:=by
 unfold Gd.hero at h ⊢
 rcases En.first_cases (En.heroQ E seat) 32 with ⟨he,_⟩ | ⟨k,hk,he,hq,_⟩
 ·omega
 ·simp only [En.heroQ,Bool.and_eq_true,decide_eq_true_eq] at hq
  exact ⟨k,hk,he,hq.1,hq.2⟩

theorem Md.who_row {E:Nat→Nat→Int} {x y:Int} {d:Nat}:Md.who E x y d=-1∨∃j:Nat,j<32∧Md.who E x y d=(j:Int):=by
 unfold Md.who
 rcases En.first_cases (En.atQ E (x+(Fx.way (d:Int)).1) (y+(Fx.way (d:Int)).2)) 32 with ⟨he,_⟩ | ⟨j,hj,he,_⟩
 ·exact .inl he
 ·exact .inr ⟨j,hj,he⟩

theorem Md.way_small (d:Nat):-1≤(Fx.way (d:Int)).1∧(Fx.way (d:Int)).1≤1∧-1≤(Fx.way (d:Int)).2∧(Fx.way (d:Int)).2≤1:=by
 unfold Fx.way
 split
 ·simp
 ·split
  ·simp
  ·split
   ·simp
   ·split <;> simp


open Go.RowKit

theorem Lie.copied (x:World) (e:Nat→Int) (T:TypeId):Lie (x.alloc (.cells (En.cells e) T)) x.heap.size T 11 (Ints e) :=
 Lie.congr (m:=11) (Arr.lit (heap_alloc_new x (.cells (En.cells e) T))).lie fun j hj=>by
  rcases (show j=0∨j=1∨j=2∨j=3∨j=4∨j=5∨j=6∨j=7∨j=8∨j=9∨j=10 by omega) with rfl | rfl | rfl | rfl | rfl | rfl | rfl | rfl | rfl | rfl | rfl <;> rfl

structure Gd.Shown (w x:World) (B gC gE gI cC cE cI:Nat) (s g c:Nat→Int) (E I:Nat→Nat→Int):Prop where
 box:Lie x B 30 11 (Gd.box s gC gE gI cC cE cI g)
 lists:Gd.Lists x gC gE gI c E I
 grown:w.grownBy x none

theorem Gd.Shown.on {w x y:World} {B gC gE gI cC cE cI:Nat} {s g c:Nat→Int} {E I:Nat→Nat→Int} (h:Gd.Shown w x B gC gE gI cC cE cI s g c E I) (hg:x.grownBy y none):Gd.Shown w y B gC gE gI cC cE cI s g c E I :=
 ⟨h.box.on hg,h.lists.on hg,gtr h.grown hg⟩

def Md.Says (w:World) (p:Int→Prop) (e:Ending) (w':World):Prop:=∃v,p v∧e=.returned (.int .i64 v)∧w.grownBy w' none

theorem Md.find_bd (f:Nat→Int) (kind:Int):∀(n k:Nat),-1≤Gr.findFrom f kind n k∧Gr.findFrom f kind n k≤(k:Int)+n
 | 0,k=>by unfold Gr.findFrom;omega
 | n+1,k=>by
  unfold Gr.findFrom
  have:=Md.find_bd f kind n (k+1)
  split <;> omega


open Go.RowKit

structure Md.Good (c:Nat→Int) (E I:Nat→Nat→Int):Prop where
 fine:Md.Fine E
 gens:En.Gens 32 E
 words:Nv.Words 32 E
 ok:Gd.Ok c 40 I

theorem Md.good_of {c:Nat→Int} {E I:Nat→Nat→Int} (hE:Md.Fine E) (hz:∀k,k<32→(0≤E k 1∧E k 1≤255)∧(E k 0=0→E k 3=0∧E k 4=0)) (hok:Gd.Ok c 40 I):Md.Good c E I :=
 ⟨hE,fun k hk=>(hz k hk).1,fun k hk=>by
  by_cases k0:E k 0=0
  ·have:=(hz k hk).2 k0
   omega
  ·have:=hE k hk k0
   omega,hok⟩

end Go.Proofs.YtbanjoflgoiegaaGreat
