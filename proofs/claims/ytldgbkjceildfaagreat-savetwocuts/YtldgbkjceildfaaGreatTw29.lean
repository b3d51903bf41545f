import Derived.Test.YtldgbkjceildfaaGreatTw22
import Derived.Test.YtldgbkjceildfaaGreatTw28
import Derived.BigRegion
namespace Go.Proofs.YtldgbkjceildfaaGreat
open Go.RowKit

def Cr.ListOf (w:World) (gE:Nat) (E:Nat→Nat→Int) (e:Ending) (w':World):Prop :=
 ∃j cap,e=.returned (.slice (some ⟨j,0,none⟩) 32 cap)∧32≤cap∧(j=gE∨w.heap.size≤j)∧Own w' j 32 E∧w.grownBy w' none

theorem Own.onto {x y:World} {g:Nat} {E:Nat→Nat→Int} (h:Own x g 32 E) (hg:x.grownBy y none):Own y g 32 E:=by
 obtain ⟨hn,m,F,hA,hm,hF⟩:=h
 exact ⟨hn,m,F,hA.grown hg (by simp),hm,hF⟩

set_option maxHeartbeats 1600000 in
theorem refSpawned_any (gE cE:Nat) (E:Nat→Nat→Int) (e:Nat→Int) (w:World) (hE:Own w gE 32 E) (hcE:32≤cE) (hG:En.Gens 32 E) (hk:1≤e 0∧e 0≤4) :
  Calls Tryz.prog 42 #[.slice (some ⟨gE,0,none⟩) 32 cE,.agg (En.cells e)] w (Cr.ListOf w gE (Cr.join E e)):=by
 obtain ⟨w0,hw0⟩:∃w0,w0=w.alloc (.cells (En.cells e) 70):=⟨_,rfl⟩
 have hg0:Hid (w.grownBy w0 none):=by rw [hw0];exact World.grownBy_alloc _ _ _
 have hQ:Hid (Lie w0 w.heap.size 70 11 (Ints e)):=by rw [hw0];exact Lie.copied _ _ _
 have hE0:=hide (hE.onto (uh hg0))
 have hcE':=hide hcE
 have key:Hid ((En.first (En.freeQ E) 32=-1∧Cr.join E e=E∧Calls Tryz.prog 68 #[.slice (some ⟨gE,0,none⟩) 32 cE,.agg (En.cells e)] w0 (Says w0 (.tuple #[.slice none 0 0,.int .i64 0,.int .i64 5])))∨∃f:Nat,Calls Tryz.prog 68 #[.slice (some ⟨gE,0,none⟩) 32 cE,.agg (En.cells e)] w0 (Spawns w0 32 (Cr.join E e) f)):=by
  rcases En.first_cases (En.freeQ E) 32 with ⟨he,hno⟩ | ⟨f,hf,he,hq,hno⟩
  ·refine .inl ⟨he,?_,refSpawn_full gE 32 cE E e w0 (uh hE0).ents hk hno⟩
   unfold Cr.join
   rw [he,if_neg (by omega)]
  ·refine .inr ⟨f,?_⟩
   have hj:Cr.join E e=En.put E f (En.gen e ((E f 1+1) % 256)):=by
    unfold Cr.join
    rw [he,if_pos (by omega),Int.toNat_natCast]
   rw [hj]
   exact refSpawn_some gE 32 cE f E e w0 (uh hE0).ents hk hf (by simpa [En.freeQ] using hq) hno hG
 clear hE hcE hG hk
 unfold En.cells at hw0 key ⊢
 go_enter Tryz.func42,Tryz.ntmps42
 go_upto_region 1 with fail
 rw [←hw0]
 clear hw0
 obtain ⟨B,hB⟩:∃B,w.heap.size=B:=⟨_,rfl⟩
 rw [hB] at hQ ⊢
 have hB':=hide hB
 clear hB
 obtain ⟨z0,z1,z2,z3,z4,z5,z6,z7,z8,z9,z10⟩:=(uh hQ).ent
 rcases uh key with ⟨hn,hj,cs⟩ | ⟨f,cs⟩
 ·have cs':=hide cs
  have hj':=hide hj
  clear cs key hj hn
  go_wp2_with fail
  refine (uh cs').mono ?_
  rintro x w1 ⟨rfl,hg⟩
  have hfin:Hid (Cr.ListOf w gE (Cr.join E e) (.returned (.slice (some ⟨gE,0,none⟩) 32 cE)) w1):=⟨gE,cE,rfl,uh hcE',.inl rfl,by rw [uh hj'];exact (uh hE0).onto hg,gtr (uh hg0) hg⟩
  clear hg cs' z0 z1 z2 z3 z4 z5 z6 z7 z8 z9 z10
  go_wp2
  go_ret
  exact uh hfin
 ·have cs':=hide cs
  clear cs key
  go_wp2_with fail
  refine (uh cs').mono ?_
  rintro x w1 ⟨j,cap,rfl,hlo,hnc,hcm,hown,hg⟩
  have hfin:Hid (Cr.ListOf w gE (Cr.join E e) (.returned (.slice (some ⟨j,0,none⟩) 32 cap)) w1):=⟨j,cap,rfl,hnc,.inr (Nat.le_trans (uh hg0).size hlo),hown,gtr (uh hg0) hg⟩
  clear hg cs' hlo hnc hcm hown z0 z1 z2 z3 z4 z5 z6 z7 z8 z9 z10
  go_wp2
  go_ret
  exact uh hfin

set_option maxHeartbeats 1600000 in
theorem refSome_any (s g c:Nat→Int) (E I:Nat→Nat→Int) (gC gE gI cC cE cI:Nat) (w:World) (hL:Gd.Lists w gC gE gI c E I) :
  Calls Tryz.prog 38 #[.agg (Gd.world s gC gE gI cC cE cI g)] w (Says w (.bool (Cr.manned E))):=by
 obtain ⟨w0,hw0⟩:∃w0,w0=w.alloc (.cells (Gd.world s gC gE gI cC cE cI g) 30):=⟨_,rfl⟩
 have hg0:w.grownBy w0 none:=by rw [hw0];exact World.grownBy_alloc _ _ _
 have hO:Hid (Gd.Shown w w0 w.heap.size gC gE gI cC cE cI s g c E I):=by
  refine ⟨?_,hL.on hg0,hg0⟩
  rw [hw0]
  exact (Arr.world (heap_alloc_new w _)).lie
 have hyes:Hid (∀t:Nat,t<4→0≤Gd.hero E (t:Int)→Cr.manned E=true):=fun t ht h=>decide_eq_true ⟨t,ht,h⟩
 have hno:Hid ((∀t:Nat,t<4→Gd.hero E (t:Int)<0)→Cr.manned E=false):=fun h=>decide_eq_false (fun ⟨t,ht,h0⟩=>by have:=h t ht;omega)
 obtain ⟨b,hb⟩:∃b,Cr.manned E=b:=⟨_,rfl⟩
 rw [hb] at hyes hno ⊢
 clear hL hg0 hb
 unfold Gd.world at hw0 ⊢
 go_enter Tryz.func38,Tryz.ntmps38
 go_upto_region 1 with fail
 rw [←hw0]
 clear hw0
 obtain ⟨B,hB⟩:∃B,w.heap.size=B:=⟨_,rfl⟩
 rw [hB] at hO ⊢
 clear hB
 go_wp2_with fail
 go_loopw [3] (fun v3 wr=>∃t:Nat,t≤4∧v3=.int .i64 (t:Int)∧Hid (∀j:Nat,j<t→Gd.hero E (j:Int)<0)∧Hid (Gd.Shown w wr B gC gE gI cC cE cI s g c E I)) (fun v3 _=>10 - (intOf v3).toNat)
 case atStart=>exact ⟨0,by omega,rfl,fun j h=>by omega,hO⟩
 case round =>
  clear hO
  obtain ⟨t,ht,rfl,hn,hO⟩:=hrel
  by_cases hlt:t<4
  ·have hlt':(t:Int)<4:=by omega
   have HL:=hide hlt
   have q5:=(uh hO).box.eleven.2.2.2.2.2.1
   have ch:=hide (refHero7_any gE cE E (t:Int) wr (uh hO).lists.own)
   have hy:=hide (uh hyes t hlt)
   obtain ⟨h,hh⟩:∃h,Gd.hero E (t:Int)=h:=⟨_,rfl⟩
   rw [hh] at ch hy
   have hh':=hide hh
   clear hh hlt ht
   go_wp2_with fail
   refine (uh ch).mono ?_
   rintro x w1 ⟨rfl,hg⟩
   have hO1:=hide ((uh hO).on hg)
   clear hg ch q5 hO
   by_cases h0:h<0
   ·have h0':¬h≥0:=by omega
    have hn2:Hid (∀j:Nat,j<t+1→Gd.hero E (j:Int)<0):=fun j hj=>by
     by_cases e:j=t
     ·rw [e,uh hh'];exact h0
     ·exact uh hn j (by omega)
    clear hy h0
    go_wp2
    go_roundw
    case rel=>exact ⟨t+1,by have:=uh HL;omega,by go_num,hn2,hO1⟩
    case measure=>simp [intOf];have:=uh HL;omega
   ·have h0':h≥0:=by omega
    obtain rfl:=uh hy (by omega)
    clear hy h0
    go_wp2
    go_ret
    exact ⟨rfl,(uh hO1).grown⟩
  ·obtain rfl:t=4:=by omega
   have hge:¬((4:Nat):Int)<4:=by omega
   obtain rfl:=uh hno (uh hn)
   clear hlt ht
   go_wp2
   go_ret
   exact ⟨rfl,(uh hO).grown⟩

def Cr.HeroSays (w:World) (c:Nat→Int) (E:Nat→Nat→Int) (e:Nat→Int) (x:Ending) (w':World):Prop :=
 (∃v,Nv.IsSpot c E 32 (Gr.find 384 c 3 % 24) (Gr.find 384 c 3 / 24) v∧((v<0∧x=.returned (.tuple #[.agg (En.cells e),.bool false]))∨∃q:Nat,v=(q:Int)∧x=.returned (.tuple #[.agg (En.cells (En.upd (En.upd e 3 ((q:Int) % 24)) 4 ((q:Int) / 24))),.bool true])))∧w.grownBy w' none

set_option maxRecDepth 8000 in
set_option maxHeartbeats 3200000 in
theorem refHero10_any (s g c:Nat→Int) (E I:Nat→Nat→Int) (e:Nat→Int) (gC gE gI cC cE cI:Nat) (w:World) (hL:Gd.Lists w gC gE gI c E I) (hF:Nv.Floor c) :
  Calls Tryz.prog 41 #[.agg (Gd.world s gC gE gI cC cE cI g),.agg (En.cells e)] w (Cr.HeroSays w c E e):=by
 obtain ⟨wz,hwz⟩:∃wz,wz=w.alloc (.cells (Gd.world s gC gE gI cC cE cI g) 30):=⟨_,rfl⟩
 obtain ⟨wy,hwy⟩:∃wy,wy=wz.alloc (.cells (En.cells e) 70):=⟨_,rfl⟩
 obtain ⟨w0,hw0⟩:∃w0,w0=wy.alloc (.cells #[.int .i64 0,.int .i64 0,.int .i64 0,.int .i64 0,.int .i64 0,.int .i64 0,.int .i64 0,.int .i64 0,.int .i64 0,.int .i64 0,.int .i64 0] 70):=⟨_,rfl⟩
 have hgz:w.grownBy wz none:=by rw [hwz];exact World.grownBy_alloc _ _ _
 have hgy:wz.grownBy wy none:=by rw [hwy];exact World.grownBy_alloc _ _ _
 have hg0:wy.grownBy w0 none:=by rw [hw0];exact World.grownBy_alloc _ _ _
 have hO:Hid (Gd.Shown w w0 w.heap.size gC gE gI cC cE cI s g c E I):=by
  refine ⟨?_,hL.on (gtr hgz (gtr hgy hg0)),gtr hgz (gtr hgy hg0)⟩
  refine Lie.on ?_ (gtr hgy hg0)
  rw [hwz]
  exact (Arr.world (heap_alloc_new w _)).lie
 have hQ:Hid (Lie w0 wz.heap.size 70 11 (Ints e)):=by
  refine Lie.on ?_ hg0
  rw [hwy]
  exact Lie.copied _ _ _
 have hR:Hid (Lie w0 wy.heap.size 70 11 (Ints (fun _=>0))):=by
  rw [hw0]
  exact Lie.copied wy (fun _=>0) _
 have sz:wz.heap.size=w.heap.size+1:=by rw [hwz];simp
 have sy:wy.heap.size=w.heap.size+1+1:=by rw [hwy,hwz];simp
 rw [sz] at hQ
 rw [sy] at hR
 obtain ⟨u,hu,hfu,-,-⟩:=Cr.up_stair hF
 have hc8:Hid (∀i,0≤c i∧c i≤255):=fun i=>⟨(hF.five i).1,by have:=(hF.five i).2;omega⟩
 have hu':=hide hu
 have hdef:Hid (∀(v:Int) (x:Ending) (w':World),Nv.IsSpot c E 32 ((u:Int) % 24) ((u:Int) / 24) v→((v<0∧x=.returned (.tuple #[.agg (En.cells e),.bool false]))∨∃q:Nat,v=(q:Int)∧x=.returned (.tuple #[.agg (En.cells (En.upd (En.upd e 3 ((q:Int) % 24)) 4 ((q:Int) / 24))),.bool true]))→w.grownBy w' none→Cr.HeroSays w c E e x w'):=fun v x w' h1 h2 h3=>⟨⟨v,by rw [hfu];exact h1,h2⟩,h3⟩
 have cf:=hide (fun z (hz:Gd.Lists z gC gE gI c E I)=>refFind_any z.heap.size (some ⟨gC,0,none⟩) 384 cC c 3 z hz.vec (uh hc8))
 rw [hfu] at cf
 have cs:=hide (fun z (hz:Gd.Lists z gC gE gI c E I)=>refSpot_any (some ⟨gC,0,none⟩) cC gE 32 cE c E ((u:Int) % 24) ((u:Int) / 24) z hz.vec (uh hc8) hz.own.ents)
 have t1:IntKind.i64.wrap ((u:Int) / 24)=(u:Int) / 24:=by rw [IntKind.wrap_i64];omega
 clear hL hF hgz hgy hg0 hfu sz sy
 unfold Gd.world at hwz ⊢
 unfold En.cells at hwy hdef ⊢
 rw [hwz] at hwy
 rw [hwy] at hw0
 clear hwz hwy
 go_enter Tryz.func41,Tryz.ntmps41
 go_upto_region 1 with fail
 rw [←hw0]
 clear hw0
 obtain ⟨B,hB⟩:∃B,w.heap.size=B:=⟨_,rfl⟩
 rw [hB] at hO hQ hR ⊢
 have hB':=hide hB
 clear hB
 have b4:=(uh hO).box.eleven.2.2.2.2.1
 have cf':=hide (uh cf w0 (uh hO).lists)
 go_wp2_with fail
 refine (uh cf').mono ?_
 rintro x wq ⟨rfl,hy⟩
 subst wq
 have b5:=(uh hO).box.eleven.2.2.2.2.2.1
 have hun:¬(u:Int)<0:=by omega
 have cs':=hide (uh cs w0 (uh hO).lists)
 clear cf cf' cs
 go_wp2_with fail
 refine (uh cs').mono ?_
 rintro x w1 ⟨v,hv,rfl,hg⟩
 have hv':=hide hv
 have hO1:=hide ((uh hO).on hg)
 have hQ1:=hide ((uh hQ).on hg)
 have hR1:=hide ((uh hR).on hg)
 clear hv hg b4 b5 cs' hO hQ hR
 obtain ⟨e0,e1,e2,e3,e4,e5,e6,e7,e8,e9,e10⟩:=(uh hQ1).ent
 obtain ⟨z0,z1,z2,z3,z4,z5,z6,z7,z8,z9,z10⟩:=(uh hR1).ent
 have fQ:=(uh hQ1).free
 have fR:=(uh hR1).free
 by_cases hneg:v<0
 ·have hfin:Hid (∀vs,Cr.HeroSays w c E e (.returned (.tuple #[.agg #[.int .i64 (e 0),.int .i64 (e 1),.int .i64 (e 2),.int .i64 (e 3),.int .i64 (e 4),.int .i64 (e 5),.int .i64 (e 6),.int .i64 (e 7),.int .i64 (e 8),.int .i64 (e 9),.int .i64 (e 10)],.bool false])) (w1.setCells (B+1+1) 0 vs)):=fun vs=>uh hdef v _ _ (uh hv') (.inl ⟨hneg,rfl⟩) (own_sets (by rw [uh hB'];omega) _ 0 w1 (uh hO1).grown)
  clear hdef
  go_wp2
  refine bodyPost_ret (v:=.tuple #[.agg #[.int .i64 (e 0),.int .i64 (e 1),.int .i64 (e 2),.int .i64 (e 3),.int .i64 (e 4),.int .i64 (e 5),.int .i64 (e 6),.int .i64 (e 7),.int .i64 (e 8),.int .i64 (e 9),.int .i64 (e 10)],.bool false]) (by simp [results,Tryz.results41,go_sem,z0,z1,z2,z3,z4,z5,z6,z7,z8,z9,z10]) rfl ?_
  exact uh hfin [_,_,_,_,_,_,_,_,_,_,_]
 ·obtain ⟨q,rfl⟩:∃q:Nat,v=(q:Int):=⟨v.toNat,by omega⟩
  have hq384:=(Cr.spot_room (uh hv')).1
  have t2:IntKind.i64.wrap ((q:Int) / 24)=(q:Int) / 24:=by rw [IntKind.wrap_i64];omega
  have hcl:Hid (En.cells (En.upd (En.upd e 3 ((q:Int) % 24)) 4 ((q:Int) / 24))=#[.int .i64 (e 0),.int .i64 (e 1),.int .i64 (e 2),.int .i64 ((q:Int) % 24),.int .i64 ((q:Int) / 24),.int .i64 (e 5),.int .i64 (e 6),.int .i64 (e 7),.int .i64 (e 8),.int .i64 (e 9),.int .i64 (e 10)]):=rfl
  have nQR:B+1≠B+1+1:=by omega
  have nRQ:B+1+1≠B+1:=by omega
  have hgq:Hid (∀a b vs,w.grownBy (((w1.setCell ⟨B+1,3,none⟩ a).setCell ⟨B+1,4,none⟩ b).setCells (B+1+1) 0 vs) none):=fun a b vs=>own_sets (by rw [uh hB'];omega) _ 0 _ (gsr (gsr (uh hO1).grown ⟨B+1,3,none⟩ (by rw [uh hB'];show B≤B+1;omega) a) ⟨B+1,4,none⟩ (by rw [uh hB'];show B≤B+1;omega) b)
  have hfin:Hid (∀w',w.grownBy w' none→Cr.HeroSays w c E e (.returned (.tuple #[.agg #[.int .i64 (e 0),.int .i64 (e 1),.int .i64 (e 2),.int .i64 ((q:Int) % 24),.int .i64 ((q:Int) / 24),.int .i64 (e 5),.int .i64 (e 6),.int .i64 (e 7),.int .i64 (e 8),.int .i64 (e 9),.int .i64 (e 10)],.bool true])) w'):=fun w' hg=>uh hdef (q:Int) _ _ (uh hv') (.inr ⟨q,rfl,by first | rfl | rw [uh hcl]⟩) hg
  have hqn:¬(q:Int)<0:=by omega
  clear hdef hneg hq384 hcl
  go_wp2
  refine bodyPost_ret (v:=.tuple #[.agg #[.int .i64 (e 0),.int .i64 (e 1),.int .i64 (e 2),.int .i64 ((q:Int) % 24),.int .i64 ((q:Int) / 24),.int .i64 (e 5),.int .i64 (e 6),.int .i64 (e 7),.int .i64 (e 8),.int .i64 (e 9),.int .i64 (e 10)],.bool true]) (by simp [results,Tryz.results41,go_sem,z0,z1,z2,z3,z4,z5,z6,z7,z8,z9,z10]) rfl ?_
  exact uh hfin _ (uh hgq _ _ [_,_,_,_,_,_,_,_,_,_,_])


open Go.RowKit

def Cr.Back (w:World) (gC gE gI:Nat) (s g c:Nat→Int) (E I:Nat→Nat→Int) (e:Ending) (w':World):Prop :=
 ∃jC jE jI dC dE dI,e=.returned (.agg (Gd.world s jC jE jI dC dE dI g))∧32≤dE∧(jC=gC∨w.heap.size≤jC)∧(jE=gE∨w.heap.size≤jE)∧(jI=gI∨w.heap.size≤jI)∧jC≠jE∧jC≠jI∧jE≠jI∧Gd.Lists w' jC jE jI c E I∧w.grownBy w' none

theorem Cr.back_of {w w':World} {gC gE gI:Nat} {s g c:Nat→Int} {E I:Nat→Nat→Int} {e:Ending} (h:Gd.Worlds w s g c E I e w'):Cr.Back w gC gE gI s g c E I e w':=by
 obtain ⟨jC,jE,jI,dC,dE,dI,he,hcap,l1,l2,l3,n1,n2,n3,hL,hg⟩:=h
 exact ⟨jC,jE,jI,dC,dE,dI,he,hcap,.inr l1,.inr l2,.inr l3,n1,n2,n3,hL,hg⟩

theorem Gd.Lent.back {w x:World} {B gC gE gI cC cE cI:Nat} {s g c:Nat→Int} {E I:Nat→Nat→Int} (h:Gd.Lent w x B gC gE gI cC cE cI s g c E I) (hcap:32≤cE) (n1:gC≠gE) (n2:gC≠gI) (n3:gE≠gI) (l1:gC<B) (l2:gE<B) (l3:gI<B) (vs:List Value) :
  Cr.Back w gC gE gI s g c E I (.returned (.agg (Gd.world s gC gE gI cC cE cI g))) (x.setCells (B+1) 0 vs):=by
 have r:=gss (g:=B+1) vs 0 x (World.grownBy.refl _ _)
 have h3:=h.at_
 exact ⟨gC,gE,gI,cC,cE,cI,rfl,hcap,.inl rfl,.inl rfl,.inl rfl,n1,n2,n3,⟨h.lists.cells.grown r (by simp;omega),h.lists.ents.grown r (by simp;omega),h.lists.items.grown r (by simp;omega)⟩,own_sets (by omega) _ 0 x h.grown⟩

theorem Gd.Lent.eleven {w x:World} {B gC gE gI cC cE cI:Nat} {s g c:Nat→Int} {E I:Nat→Nat→Int} (h:Gd.Lent w x B gC gE gI cC cE cI s g c E I) :
  x.cell? ⟨B,0,none⟩=some (.int .i64 (s 0))∧x.cell? ⟨B,1,none⟩=some (.int .i64 (s 1))∧x.cell? ⟨B,2,none⟩=some (.int .i64 (s 2))∧x.cell? ⟨B,3,none⟩=some (.int .i64 (s 3))∧x.cell? ⟨B,4,none⟩=some (.slice (some ⟨gC,0,none⟩) 384 cC)∧x.cell? ⟨B,5,none⟩=some (.slice (some ⟨gE,0,none⟩) 32 cE)∧x.cell? ⟨B,6,none⟩=some (.slice (some ⟨gI,0,none⟩) 40 cI)∧x.cell? ⟨B,7,none⟩=some (.int .i64 (g 0))∧x.cell? ⟨B,8,none⟩=some (.int .i64 (g 1))∧x.cell? ⟨B,9,none⟩=some (.int .i64 (g 2))∧x.cell? ⟨B,10,none⟩=some (.int .i64 (g 3)):=h.box.eleven

set_option maxRecDepth 8000 in
set_option maxHeartbeats 12800000 in
theorem refAct_any (s g c:Nat→Int) (E I:Nat→Nat→Int) (gC gE gI cC cE cI k:Nat) (d:Int) (foe:Bool) (w:World) (hL:Gd.Lists w gC gE gI c E I) (hcE:32≤cE) (n1:gC≠gE) (n2:gC≠gI) (n3:gE≠gI) (hS:Cr.Sane c E I) (hk:k<32) (k0:E k 0≠0) :
  Calls Tryz.prog 44 #[.agg (Gd.world s gC gE gI cC cE cI g),.int .i64 (k:Int),.int .i64 d,.bool foe] w (Cr.Back w gC gE gI s g c (Cr.act s c E I k d foe).1 (Cr.act s c E I k d foe).2):=by
 obtain ⟨w0,hw0,hbox,hres,hg0,hsz⟩:=Gd.boxes w gC gE gI cC cE cI s g
 obtain ⟨B,hB⟩:∃B,w.heap.size=B:=⟨_,rfl⟩
 rw [hB] at hbox hres hsz
 have hO:Hid (Gd.Lent w w0 B gC gE gI cC cE cI s g c E I):=⟨hbox,hL.on hg0,hB,hres,hg0⟩
 have lC:gC<B:=by rw [←hB];exact hL.cells.lt
 have lE:gE<B:=by rw [←hB];exact hL.ents.lt
 have lI:gI<B:=by rw [←hB];exact hL.items.lt
 have hret:Hid (∀(x:World),Gd.Lent w x B gC gE gI cC cE cI s g c E I→∀vs,Cr.Back w gC gE gI s g c E I (.returned (.agg (Gd.world s gC gE gI cC cE cI g))) (x.setCells (B+1) 0 vs)):=fun x h vs=>h.back hcE n1 n2 n3 lC lE lI vs
 obtain ⟨a1,a2,a3,a4,a5⟩:=hS.set.stands.on k hk k0
 have hxy:=hide (show (0≤E k 3∧E k 3<24)∧0≤E k 4∧E k 4<16 from ⟨⟨a1,a2⟩,a3,a4⟩)
 have HK:=hide hk
 have hk':(k:Int)<32:=by omega
 have hS':=hide hS
 have hB':=hide hB
 clear hL hbox hres hg0 hsz hcE n1 n2 n3 lC lE lI hS hk k0 a1 a2 a3 a4 a5 hB
 have hdef:Hid (Cr.act s c E I k d foe=if d<1∨4<d then (E,I) else if 0≤Cr.who E k d then (if decide (E (Cr.who E k d).toNat 0=1)=foe then (Ft.hitE s E I (k:Int) (Cr.who E k d),Ft.hitI s E I (k:Int) (Cr.who E k d)) else (E,I)) else if Gr.walkB (Gr.at 384 c (E k 3+(Fx.way d).1) (E k 4+(Fx.way d).2))=true then (Cr.go E k (E k 3+(Fx.way d).1) (E k 4+(Fx.way d).2),I) else (E,I)):=rfl
 have hwho:Hid (Cr.who E k d=En.first (En.atQ E (E k 3+(Fx.way d).1) (E k 4+(Fx.way d).2)) 32):=rfl
 have cw:=hide (fun wq=>refWay_any d wq)
 unfold Gd.world at hw0 hret ⊢
 by_cases hd:d<1∨4<d
 ·rw [uh hdef,if_pos hd]
  rw [Fx.way_none d hd] at cw
  clear hdef hwho
  go_enter Tryz.func44,Tryz.ntmps44
  go_upto_region 1 with fail
  rw [←hw0,uh hB']
  clear hw0
  go_wp2_with fail
  refine (uh cw _).mono ?_
  rintro e wy ⟨rfl,hy⟩
  subst wy
  obtain ⟨b0,b1,b2,b3,b4,b5,b6,b7,b8,b9,b10⟩:=(uh hO).eleven
  have fz:=(uh hO).res.free
  obtain ⟨z0,z1,z2,z3,z4,z5,z6,z7,z8,z9,z10⟩:=Gd.res_cells (uh hO).res
  have hfin:=hide (fun vs=>uh hret _ (uh hO) vs)
  clear cw hd
  go_wp2
  refine bodyPost_ret (v:=.agg (Gd.world s gC gE gI cC cE cI g)) (by simp [results,Tryz.results44,go_sem,Gd.world,z0,z1,z2,z3,z4,z5,z6,z7,z8,z9,z10]) rfl ?_
  exact uh hfin [_,_,_,_,_,_,_,_,_,_,_]
 rw [uh hdef,if_neg hd]
 have cz:=hide (fun z (hz:Gd.Lists z gC gE gI c E I)=>entRefAt_same gE 32 cE E (E k 3+(Fx.way d).1) (E k 4+(Fx.way d).2) z hz.own.ents)
 have ca:=hide (fun z (hz:Gd.Lists z gC gE gI c E I)=>refAt_any z.heap.size (some ⟨gC,0,none⟩) 384 cC c (E k 3+(Fx.way d).1) (E k 4+(Fx.way d).2) z hz.vec (uh hS').fit.cells)
 have ck:=hide (fun wq=>refWalk_any (Gr.at 384 c (E k 3+(Fx.way d).1) (E k 4+(Fx.way d).2)) wq)
 have wb:=Fx.way_bd d
 have hne:¬((Fx.way d).1=0∧(Fx.way d).2=0):=by
  obtain ⟨n,rfl⟩:∃n:Nat,d=(n:Int):=⟨d.toNat,by omega⟩
  have:=Md.way_some (d:=n) (by omega) (by omega) 0 0
  omega
 have k1:=uh hxy
 have x1:IntKind.i64.wrap (E k 3+(Fx.way d).1)=E k 3+(Fx.way d).1:=by rw [IntKind.wrap_i64];omega
 have y1:IntKind.i64.wrap (E k 4+(Fx.way d).2)=E k 4+(Fx.way d).2:=by rw [IntKind.wrap_i64];omega
 rw [uh hwho]
 obtain ⟨z,hz⟩:∃z,En.first (En.atQ E (E k 3+(Fx.way d).1) (E k 4+(Fx.way d).2)) 32=z:=⟨_,rfl⟩
 have hzr:z=-1∨∃j:Nat,j<32∧z=(j:Int):=by
  rw [←hz]
  rcases En.first_cases (En.atQ E (E k 3+(Fx.way d).1) (E k 4+(Fx.way d).2)) 32 with ⟨he,_⟩ | ⟨j,hj,he,_⟩
  ·exact .inl he
  ·exact .inr ⟨j,hj,he⟩
 obtain ⟨A,hA⟩:∃A,Gr.at 384 c (E k 3+(Fx.way d).1) (E k 4+(Fx.way d).2)=A:=⟨_,rfl⟩
 obtain ⟨wk,hwk⟩:∃wk,Gr.walkB A=wk:=⟨_,rfl⟩
 rw [hz] at cz ⊢
 rw [hA] at ca ck ⊢
 rw [hwk] at ck ⊢
 obtain ⟨dx,hdx⟩:∃dx,(Fx.way d).1=dx:=⟨_,rfl⟩
 obtain ⟨dy,hdy⟩:∃dy,(Fx.way d).2=dy:=⟨_,rfl⟩
 rw [hdx] at cw cz ca x1 hne ⊢
 rw [hdy] at cw cz ca y1 hne ⊢
 have hzr':=hide hzr
 have hne':=hide hne
 obtain ⟨P,hPe⟩:∃P,Cr.Back w gC gE gI s g c (if 0≤z then (if decide (E z.toNat 0=1)=foe then (Ft.hitE s E I (k:Int) z,Ft.hitI s E I (k:Int) z) else (E,I)) else if wk=true then (Cr.go E k (E k 3+dx) (E k 4+dy),I) else (E,I)).1 (if 0≤z then (if decide (E z.toNat 0=1)=foe then (Ft.hitE s E I (k:Int) z,Ft.hitI s E I (k:Int) z) else (E,I)) else if wk=true then (Cr.go E k (E k 3+dx) (E k 4+dy),I) else (E,I)).2=P:=⟨_,rfl⟩
 have hfin:Hid (∀F J e w',(if 0≤z then (if decide (E z.toNat 0=1)=foe then (Ft.hitE s E I (k:Int) z,Ft.hitI s E I (k:Int) z) else (E,I)) else if wk=true then (Cr.go E k (E k 3+dx) (E k 4+dy),I) else (E,I))=(F,J)→Cr.Back w gC gE gI s g c F J e w'→P e w'):=fun F J e w' h1 h2=>by
  rw [←hPe,h1]
  exact h2
 rw [hPe]
 clear hz hA hwk hdx hdy wb k1 hdef hwho hzr hne hd hPe
 go_enter Tryz.func44,Tryz.ntmps44
 go_upto_region 1 with fail
 rw [←hw0,uh hB']
 clear hw0
 go_wp2_with fail
 refine (uh cw _).mono ?_
 rintro e wy ⟨rfl,hy⟩
 subst wy
 clear cw
 go_upto_region 2 with fail
 go_cut [24] from 19 to 24 (fun va wx=>va=.bool false∧wx=w0)
 case first =>
  by_cases h0:dx=0
  ·have h1:(dy == 0)=false:=by have:=uh hne';simp;omega
   subst h0
   go_wp2_with fail
   go_meet
   exact ⟨rfl,rfl⟩
  ·have h1:(dx == 0)=false:=by simpa using h0
   clear h0
   go_wp2_with fail
   go_meet
   exact ⟨rfl,rfl⟩
 case rest =>
  obtain ⟨rfl,hwe⟩:=hcut
  subst hwe
  clear hne'
  have q5:=(uh hO).eleven.2.2.2.2.2.1
  have r3:=((uh hO).lists.own.ents.row (uh HK)).2.2.2.1
  have r4:=((uh hO).lists.own.ents.row (uh HK)).2.2.2.2.1
  go_upto_region 4 with fail
  go_cut [11,12] from 26 to 41 (fun va vb wx=>va=.int .i64 (E k 3+dx)∧vb=.int .i64 (E k 4+dy)∧Hid (Gd.Lent w wx B gC gE gI cC cE cI s g c E I))
  case first =>
   go_quiet (fail)
   go_wp2_with fail
   go_meet
   exact ⟨rfl,rfl,(uh hO).on (gdw (World.grownBy.refl _ none) _)⟩
  case rest =>
   clear hO q5 r3 r4 x1 y1
   obtain ⟨rfl,rfl,hO⟩:=hcut
   have q5:=(uh hO).eleven.2.2.2.2.2.1
   have cz':=hide (uh cz _ (uh hO).lists)
   go_wp2_with fail
   refine (uh cz').mono ?_
   rintro e wy ⟨rfl,hy⟩
   subst wy
   clear cz cz'
   rcases uh hzr' with rfl | ⟨j,hj,rfl⟩
   ·have q4:=(uh hO).eleven.2.2.2.2.1
    have ca':=hide (uh ca _ (uh hO).lists)
    clear hzr' q5
    go_wp2_with fail
    refine (uh ca').mono ?_
    rintro e wy ⟨rfl,hy⟩
    subst wy
    go_wp2_with fail
    refine (uh ck _).mono ?_
    rintro e wy ⟨rfl,hy⟩
    subst wy
    clear ca ca' ck q4
    obtain ⟨b0,b1,b2,b3,b4,b5,b6,b7,b8,b9,b10⟩:=(uh hO).eleven
    cases wk
    ·have hf:=hide (fun e w'=>uh hfin E I e w' (by rw [if_neg (by omega),if_neg (by simp)]))
     clear hfin
     have fz:=(uh hO).res.free
     obtain ⟨z0,z1,z2,z3,z4,z5,z6,z7,z8,z9,z10⟩:=Gd.res_cells (uh hO).res
     have hfo:=hide (fun vs=>uh hret _ (uh hO) vs)
     go_wp2
     refine bodyPost_ret (v:=.agg (Gd.world s gC gE gI cC cE cI g)) (by simp [results,Tryz.results44,go_sem,Gd.world,z0,z1,z2,z3,z4,z5,z6,z7,z8,z9,z10]) rfl ?_
     exact uh hf _ _ (uh hfo [_,_,_,_,_,_,_,_,_,_,_])
    ·have hf:=hide (fun e w'=>uh hfin (Cr.go E k (E k 3+dx) (E k 4+dy)) I e w' (by rw [if_neg (by omega),if_pos rfl]))
     clear hfin
     have ct:=hide (refTwin_any s g c E I gC gE gI cC cE cI _ (uh hO).lists)
     unfold Gd.world at ct
     go_wp2_with fail
     refine (uh ct).mono ?_
     rintro e w1 ⟨jC,jE,jI,dC,dE,dI,rfl,hcap,l1,l2,l3,n1,n2,n3,hL,hg⟩
     have hX:Hid (Gd.Boxed w (((((((((((w1.setCell ⟨B,0,none⟩ (.int .i64 (s 0))).setCell ⟨B,1,none⟩ (.int .i64 (s 1))).setCell ⟨B,2,none⟩ (.int .i64 (s 2))).setCell ⟨B,3,none⟩ (.int .i64 (s 3))).setCell ⟨B,4,none⟩ (.slice (some ⟨jC,0,none⟩) 384 dC)).setCell ⟨B,5,none⟩ (.slice (some ⟨jE,0,none⟩) 32 dE)).setCell ⟨B,6,none⟩ (.slice (some ⟨jI,0,none⟩) 40 dI)).setCell ⟨B,7,none⟩ (.int .i64 (g 0))).setCell ⟨B,8,none⟩ (.int .i64 (g 1))).setCell ⟨B,9,none⟩ (.int .i64 (g 2))).setCell ⟨B,10,none⟩ (.int .i64 (g 3))) B jC jE jI dC dE dI s g c E I):=(uh hO).over (s':=s) (g':=g) (dC:=dC) (dI:=dI) hcap l1 l2 l3 n1 n2 n3 hL hg
     obtain ⟨y0,y1,y2,y3,y4,y5,y6,y7,y8,y9,y10⟩:=((uh hO).on hg).eleven
     have fB:=((uh hO).on hg).box.free
     clear hcap l1 l2 l3 n1 n2 n3 hL hg ct b0 b1 b2 b3 b4 b5 b6 b7 b8 b9 b10 hO hret
     unfold Gd.world
     go_upto_region 12 with fail
     generalize (((((((((((w1.setCell ⟨B,0,none⟩ (.int .i64 (s 0))).setCell ⟨B,1,none⟩ (.int .i64 (s 1))).setCell ⟨B,2,none⟩ (.int .i64 (s 2))).setCell ⟨B,3,none⟩ (.int .i64 (s 3))).setCell ⟨B,4,none⟩ (.slice (some ⟨jC,0,none⟩) 384 dC)).setCell ⟨B,5,none⟩ (.slice (some ⟨jE,0,none⟩) 32 dE)).setCell ⟨B,6,none⟩ (.slice (some ⟨jI,0,none⟩) 40 dI)).setCell ⟨B,7,none⟩ (.int .i64 (g 0))).setCell ⟨B,8,none⟩ (.int .i64 (g 1))).setCell ⟨B,9,none⟩ (.int .i64 (g 2))).setCell ⟨B,10,none⟩ (.int .i64 (g 3)))=w2 at hX ⊢
     clear y0 y1 y2 y3 y4 y5 y6 y7 y8 y9 y10 fB
     have hgo:Hid (Cr.go E k (E k 3+dx) (E k 4+dy)=Gd.set (Gd.set E k 3 (E k 3+dx)) k 4 (E k 4+dy)):=rfl
     rw [uh hgo] at hf
     obtain ⟨X,hXe⟩:∃X,E k 3+dx=X:=⟨_,rfl⟩
     obtain ⟨Y,hYe⟩:∃Y,E k 4+dy=Y:=⟨_,rfl⟩
     rw [hXe,hYe] at hf ⊢
     clear hXe hYe hgo
     go_cut [] from 71 to 82 (fun wx=>Hid (Gd.Boxed w wx B jC jE jI dC dE dI s g c (Gd.set (Gd.set E k 3 X) k 4 Y) I))
     case first =>
      have b5:=(uh hX).hold.box.eleven.2.2.2.2.2.1
      have fE:=(uh hX).hold.lists.ents.free
      have r3:=((uh hX).hold.lists.own.ents.row (uh HK)).2.2.2.1
      have r4:=((uh hX).hold.lists.own.ents.row (uh HK)).2.2.2.2.1
      have hTE:B≠jE:=(uh hX).hold.bE
      have hET:jE≠B:=hTE.symm
      go_region
      all_goals (go_wp2_with fail;go_meet)
      exact (((uh hX).stat k 3 (by omega) X).stat k 4 (by omega) Y).on (gd1 (World.grownBy.refl _ none))
     case rest =>
      clear hX
      have hX:=hcut
      clear hcut
      obtain ⟨b0,b1,b2,b3,b4,b5,b6,b7,b8,b9,b10⟩:=(uh hX).hold.box.eleven
      have fz:=(uh hX).res.free
      obtain ⟨z0,z1,z2,z3,z4,z5,z6,z7,z8,z9,z10⟩:=Gd.res_cells (uh hX).res
      have hfo:=hide (fun vs=>Cr.back_of (gC:=gC) (gE:=gE) (gI:=gI) ((uh hX).worlds vs))
      go_wp2
      refine bodyPost_ret (v:=.agg (Gd.world s jC jE jI dC dE dI g)) (by simp [results,Tryz.results44,go_sem,Gd.world,z0,z1,z2,z3,z4,z5,z6,z7,z8,z9,z10]) rfl ?_
      exact uh hf _ _ (uh hfo [_,_,_,_,_,_,_,_,_,_,_])
   ·have hj':(j:Int)<32:=by omega
    have hjp:(j:Int)≥0:=by omega
    have u0:=((uh hO).lists.own.ents.row hj).1
    have ct:=hide (refHit8_any s g c E I gC gE gI cC cE cI (k:Int) (j:Int) _ (uh hO).lists (uh hS').fit)
    obtain ⟨eq,heq⟩:∃eq,decide (E j 0=1)=eq:=⟨_,rfl⟩
    have hbeq:(E j 0 == 1)=eq:=by rw [←heq];rfl
    have hfj:Hid (∀F J e w',(if eq=foe then (Ft.hitE s E I (k:Int) (j:Int),Ft.hitI s E I (k:Int) (j:Int)) else (E,I))=(F,J)→Cr.Back w gC gE gI s g c F J e w'→P e w'):=fun F J e w' h1 h2=>uh hfin F J e w' (by rw [if_pos (by omega),Int.toNat_natCast,heq];exact h1) h2
    clear hzr' heq hj ca ck hfin
    obtain ⟨b0,b1,b2,b3,b4,b5,b6,b7,b8,b9,b10⟩:=(uh hO).eleven
    cases foe <;> cases eq
    ·have hf:=hide (fun e w'=>uh hfj _ _ e w' (if_pos rfl))
     clear hfj
     unfold Gd.world at ct
     go_wp2_with fail
     refine (uh ct).mono ?_
     rintro e w1 ⟨jC,jE,jI,dC,dE,dI,rfl,hcap,l1,l2,l3,n1,n2,n3,hL,hg⟩
     have hX:Hid (Gd.Boxed w (((((((((((w1.setCell ⟨B,0,none⟩ (.int .i64 (s 0))).setCell ⟨B,1,none⟩ (.int .i64 (s 1))).setCell ⟨B,2,none⟩ (.int .i64 (s 2))).setCell ⟨B,3,none⟩ (.int .i64 (s 3))).setCell ⟨B,4,none⟩ (.slice (some ⟨jC,0,none⟩) 384 dC)).setCell ⟨B,5,none⟩ (.slice (some ⟨jE,0,none⟩) 32 dE)).setCell ⟨B,6,none⟩ (.slice (some ⟨jI,0,none⟩) 40 dI)).setCell ⟨B,7,none⟩ (.int .i64 (g 0))).setCell ⟨B,8,none⟩ (.int .i64 (g 1))).setCell ⟨B,9,none⟩ (.int .i64 (g 2))).setCell ⟨B,10,none⟩ (.int .i64 (g 3))) B jC jE jI dC dE dI s g c (Ft.hitE s E I (k:Int) (j:Int)) (Ft.hitI s E I (k:Int) (j:Int))):=(uh hO).over (s':=s) (g':=g) (dC:=dC) (dI:=dI) hcap l1 l2 l3 n1 n2 n3 hL hg
     obtain ⟨y0,y1,y2,y3,y4,y5,y6,y7,y8,y9,y10⟩:=((uh hO).on hg).eleven
     have fB:=((uh hO).on hg).box.free
     clear hcap l1 l2 l3 n1 n2 n3 hL hg ct b0 b1 b2 b3 b4 b5 b6 b7 b8 b9 b10 hO hret
     unfold Gd.world
     go_upto_region 9 with fail
     generalize (((((((((((w1.setCell ⟨B,0,none⟩ (.int .i64 (s 0))).setCell ⟨B,1,none⟩ (.int .i64 (s 1))).setCell ⟨B,2,none⟩ (.int .i64 (s 2))).setCell ⟨B,3,none⟩ (.int .i64 (s 3))).setCell ⟨B,4,none⟩ (.slice (some ⟨jC,0,none⟩) 384 dC)).setCell ⟨B,5,none⟩ (.slice (some ⟨jE,0,none⟩) 32 dE)).setCell ⟨B,6,none⟩ (.slice (some ⟨jI,0,none⟩) 40 dI)).setCell ⟨B,7,none⟩ (.int .i64 (g 0))).setCell ⟨B,8,none⟩ (.int .i64 (g 1))).setCell ⟨B,9,none⟩ (.int .i64 (g 2))).setCell ⟨B,10,none⟩ (.int .i64 (g 3)))=w2 at hX ⊢
     clear y0 y1 y2 y3 y4 y5 y6 y7 y8 y9 y10 fB
     obtain ⟨b0,b1,b2,b3,b4,b5,b6,b7,b8,b9,b10⟩:=(uh hX).hold.box.eleven
     have fz:=(uh hX).res.free
     obtain ⟨z0,z1,z2,z3,z4,z5,z6,z7,z8,z9,z10⟩:=Gd.res_cells (uh hX).res
     have hfo:=hide (fun vs=>Cr.back_of (gC:=gC) (gE:=gE) (gI:=gI) ((uh hX).worlds vs))
     go_wp2
     refine bodyPost_ret (v:=.agg (Gd.world s jC jE jI dC dE dI g)) (by simp [results,Tryz.results44,go_sem,Gd.world,z0,z1,z2,z3,z4,z5,z6,z7,z8,z9,z10]) rfl ?_
     exact uh hf _ _ (uh hfo [_,_,_,_,_,_,_,_,_,_,_])
    ·have hf:=hide (fun e w'=>uh hfj E I e w' (if_neg (by simp)))
     clear hfj ct
     have fz:=(uh hO).res.free
     obtain ⟨z0,z1,z2,z3,z4,z5,z6,z7,z8,z9,z10⟩:=Gd.res_cells (uh hO).res
     have hfo:=hide (fun vs=>uh hret _ (uh hO) vs)
     go_wp2
     refine bodyPost_ret (v:=.agg (Gd.world s gC gE gI cC cE cI g)) (by simp [results,Tryz.results44,go_sem,Gd.world,z0,z1,z2,z3,z4,z5,z6,z7,z8,z9,z10]) rfl ?_
     exact uh hf _ _ (uh hfo [_,_,_,_,_,_,_,_,_,_,_])
    ·have hf:=hide (fun e w'=>uh hfj E I e w' (if_neg (by simp)))
     clear hfj ct
     have fz:=(uh hO).res.free
     obtain ⟨z0,z1,z2,z3,z4,z5,z6,z7,z8,z9,z10⟩:=Gd.res_cells (uh hO).res
     have hfo:=hide (fun vs=>uh hret _ (uh hO) vs)
     go_wp2
     refine bodyPost_ret (v:=.agg (Gd.world s gC gE gI cC cE cI g)) (by simp [results,Tryz.results44,go_sem,Gd.world,z0,z1,z2,z3,z4,z5,z6,z7,z8,z9,z10]) rfl ?_
     exact uh hf _ _ (uh hfo [_,_,_,_,_,_,_,_,_,_,_])
    ·have hf:=hide (fun e w'=>uh hfj _ _ e w' (if_pos rfl))
     clear hfj
     unfold Gd.world at ct
     go_wp2_with fail
     refine (uh ct).mono ?_
     rintro e w1 ⟨jC,jE,jI,dC,dE,dI,rfl,hcap,l1,l2,l3,n1,n2,n3,hL,hg⟩
     have hX:Hid (Gd.Boxed w (((((((((((w1.setCell ⟨B,0,none⟩ (.int .i64 (s 0))).setCell ⟨B,1,none⟩ (.int .i64 (s 1))).setCell ⟨B,2,none⟩ (.int .i64 (s 2))).setCell ⟨B,3,none⟩ (.int .i64 (s 3))).setCell ⟨B,4,none⟩ (.slice (some ⟨jC,0,none⟩) 384 dC)).setCell ⟨B,5,none⟩ (.slice (some ⟨jE,0,none⟩) 32 dE)).setCell ⟨B,6,none⟩ (.slice (some ⟨jI,0,none⟩) 40 dI)).setCell ⟨B,7,none⟩ (.int .i64 (g 0))).setCell ⟨B,8,none⟩ (.int .i64 (g 1))).setCell ⟨B,9,none⟩ (.int .i64 (g 2))).setCell ⟨B,10,none⟩ (.int .i64 (g 3))) B jC jE jI dC dE dI s g c (Ft.hitE s E I (k:Int) (j:Int)) (Ft.hitI s E I (k:Int) (j:Int))):=(uh hO).over (s':=s) (g':=g) (dC:=dC) (dI:=dI) hcap l1 l2 l3 n1 n2 n3 hL hg
     obtain ⟨y0,y1,y2,y3,y4,y5,y6,y7,y8,y9,y10⟩:=((uh hO).on hg).eleven
     have fB:=((uh hO).on hg).box.free
     clear hcap l1 l2 l3 n1 n2 n3 hL hg ct b0 b1 b2 b3 b4 b5 b6 b7 b8 b9 b10 hO hret
     unfold Gd.world
     go_upto_region 9 with fail
     generalize (((((((((((w1.setCell ⟨B,0,none⟩ (.int .i64 (s 0))).setCell ⟨B,1,none⟩ (.int .i64 (s 1))).setCell ⟨B,2,none⟩ (.int .i64 (s 2))).setCell ⟨B,3,none⟩ (.int .i64 (s 3))).setCell ⟨B,4,none⟩ (.slice (some ⟨jC,0,none⟩) 384 dC)).setCell ⟨B,5,none⟩ (.slice (some ⟨jE,0,none⟩) 32 dE)).setCell ⟨B,6,none⟩ (.slice (some ⟨jI,0,none⟩) 40 dI)).setCell ⟨B,7,none⟩ (.int .i64 (g 0))).setCell ⟨B,8,none⟩ (.int .i64 (g 1))).setCell ⟨B,9,none⟩ (.int .i64 (g 2))).setCell ⟨B,10,none⟩ (.int .i64 (g 3)))=w2 at hX ⊢
     clear y0 y1 y2 y3 y4 y5 y6 y7 y8 y9 y10 fB
     obtain ⟨b0,b1,b2,b3,b4,b5,b6,b7,b8,b9,b10⟩:=(uh hX).hold.box.eleven
     have fz:=(uh hX).res.free
     obtain ⟨z0,z1,z2,z3,z4,z5,z6,z7,z8,z9,z10⟩:=Gd.res_cells (uh hX).res
     have hfo:=hide (fun vs=>Cr.back_of (gC:=gC) (gE:=gE) (gI:=gI) ((uh hX).worlds vs))
     go_wp2
     refine bodyPost_ret (v:=.agg (Gd.world s jC jE jI dC dE dI g)) (by simp [results,Tryz.results44,go_sem,Gd.world,z0,z1,z2,z3,z4,z5,z6,z7,z8,z9,z10]) rfl ?_
     exact uh hf _ _ (uh hfo [_,_,_,_,_,_,_,_,_,_,_])

end Go.Proofs.YtldgbkjceildfaaGreat
