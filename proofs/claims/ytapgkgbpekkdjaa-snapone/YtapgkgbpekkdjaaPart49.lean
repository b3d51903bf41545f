import Derived.Test.YtapgkgbpekkdjaaPart39
import Derived.BigRegion
namespace Go.Proofs.Ytapgkgbpekkdjaa
open Go.RowKit

def Cr.ListOf (w:World) (gE:Nat) (E:Nat→Nat→Int) (e:Ending) (w':World):Prop :=
 ∃j cap,e=.returned (.slice (some ⟨j,0,none⟩) 32 cap)∧32≤cap∧(j=gE∨w.heap.size≤j)∧Own w' j 32 E∧w.grownBy w' none

theorem Own.onto {x y:World} {g:Nat} {E:Nat→Nat→Int} (h:Own x g 32 E) (hg:x.grownBy y none):Own y g 32 E:=by
 obtain ⟨hn,m,F,hA,hm,hF⟩:=h
 exact ⟨hn,m,F,hA.grown hg (by simp),hm,hF⟩

set_option maxHeartbeats 1600000 in
theorem refSpawned_any (gE cE:Nat) (E:Nat→Nat→Int) (e:Nat→Int) (w:World) (hE:Own w gE 32 E) (hcE:32≤cE) (hG:En.Gens 32 E) (hk:1≤e 0∧e 0≤4) :
  Calls Try.prog 63 #[.slice (some ⟨gE,0,none⟩) 32 cE,.agg (En.cells e)] w (Cr.ListOf w gE (Cr.join E e)):=by
 obtain ⟨w0,hw0⟩:∃w0,w0=w.alloc (.cells (En.cells e) 45):=⟨_,rfl⟩
 have hg0:Hid (w.grownBy w0 none):=by rw [hw0];exact World.grownBy_alloc _ _ _
 have hQ:Hid (Lie w0 w.heap.size 45 11 (Ints e)):=by rw [hw0];exact Lie.copied _ _ _
 have hE0:=hide (hE.onto (uh hg0))
 have hcE':=hide hcE
 have key:Hid ((En.first (En.freeQ E) 32=-1∧Cr.join E e=E∧Calls Try.prog 24 #[.slice (some ⟨gE,0,none⟩) 32 cE,.agg (En.cells e)] w0 (Says w0 (.tuple #[.slice none 0 0,.int .i64 0,.int .i64 5])))∨∃f:Nat,Calls Try.prog 24 #[.slice (some ⟨gE,0,none⟩) 32 cE,.agg (En.cells e)] w0 (Spawns w0 32 (Cr.join E e) f)):=by
  rcases En.first_cases (En.freeQ E) 32 with ⟨he,hno⟩ | ⟨f,hf,he,hq,hno⟩
  ·refine .inl ⟨he,?_,refSpawn_full gE 32 cE E e w0 (uh hE0).ents hk hno⟩
   unfold Cr.join
   rw [he,if_neg (by omega)]
  ·refine .inr ⟨f,?_⟩
   have hj:Cr.join E e=En.put E f (En.gen e ((E f 1+1) % 256)):=by
    unfold Cr.join
    rw [he,if_pos (by omega),Int.toNat_natCast]
   rw [hj]
   exact refSpawn_some gE 32 cE f E e w0 (uh hE0).ents hk hf (by simpa [En.freeQ] using hq) hno hG
 clear hE hcE hG hk
 unfold En.cells at hw0 key ⊢
 go_enter Try.func63,Try.ntmps63
 go_upto_region 1 with fail
 rw [←hw0]
 clear hw0
 obtain ⟨B,hB⟩:∃B,w.heap.size=B:=⟨_,rfl⟩
 rw [hB] at hQ ⊢
 have hB':=hide hB
 clear hB
 obtain ⟨z0,z1,z2,z3,z4,z5,z6,z7,z8,z9,z10⟩:=(uh hQ).ent
 rcases uh key with ⟨hn,hj,cs⟩ | ⟨f,cs⟩
 ·have cs':=hide cs
  have hj':=hide hj
  clear cs key hj hn
  go_wp2_with fail
  refine (uh cs').mono ?_
  rintro x w1 ⟨rfl,hg⟩
  have hfin:Hid (Cr.ListOf w gE (Cr.join E e) (.returned (.slice (some ⟨gE,0,none⟩) 32 cE)) w1):=⟨gE,cE,rfl,uh hcE',.inl rfl,by rw [uh hj'];exact (uh hE0).onto hg,gtr (uh hg0) hg⟩
  clear hg cs' z0 z1 z2 z3 z4 z5 z6 z7 z8 z9 z10
  go_wp2
  go_ret
  exact uh hfin
 ·have cs':=hide cs
  clear cs key
  go_wp2_with fail
  refine (uh cs').mono ?_
  rintro x w1 ⟨j,cap,rfl,hlo,hnc,hcm,hown,hg⟩
  have hfin:Hid (Cr.ListOf w gE (Cr.join E e) (.returned (.slice (some ⟨j,0,none⟩) 32 cap)) w1):=⟨j,cap,rfl,hnc,.inr (Nat.le_trans (uh hg0).size hlo),hown,gtr (uh hg0) hg⟩
  clear hg cs' hlo hnc hcm hown z0 z1 z2 z3 z4 z5 z6 z7 z8 z9 z10
  go_wp2
  go_ret
  exact uh hfin


open Go.RowKit

def Cr.Back (w:World) (gC gE gI:Nat) (s g c:Nat→Int) (E I:Nat→Nat→Int) (e:Ending) (w':World):Prop :=
 ∃jC jE jI dC dE dI,e=.returned (.agg (Gd.world s jC jE jI dC dE dI g))∧32≤dE∧(jC=gC∨w.heap.size≤jC)∧(jE=gE∨w.heap.size≤jE)∧(jI=gI∨w.heap.size≤jI)∧jC≠jE∧jC≠jI∧jE≠jI∧Gd.Lists w' jC jE jI c E I∧w.grownBy w' none

end Go.Proofs.Ytapgkgbpekkdjaa
