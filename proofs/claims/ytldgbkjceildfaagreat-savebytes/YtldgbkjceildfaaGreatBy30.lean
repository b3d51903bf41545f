import Derived.Test.YtldgbkjceildfaaGreatBy27
import Derived.Test.YtldgbkjceildfaaGreatBy24
import Derived.Test.YtldgbkjceildfaaGreatBy29
import Derived.BigRegion
namespace Go.Proofs.YtldgbkjceildfaaGreat
open Go.RowKit

def Cr.ListOf (w:World) (gE:Nat) (E:Nat→Nat→Int) (e:Ending) (w':World):Prop :=
 ∃j cap,e=.returned (.slice (some ⟨j,0,none⟩) 32 cap)∧32≤cap∧(j=gE∨w.heap.size≤j)∧Own w' j 32 E∧w.grownBy w' none

theorem Own.onto {x y:World} {g:Nat} {E:Nat→Nat→Int} (h:Own x g 32 E) (hg:x.grownBy y none):Own y g 32 E:=by
 obtain ⟨hn,m,F,hA,hm,hF⟩:=h;exact ⟨hn,m,F,hA.grown hg (by simp),hm,hF⟩

set_option maxHeartbeats 1600000 in
theorem refSpawned_any (gE cE:Nat) (E:Nat→Nat→Int) (e:Nat→Int) (w:World) (hE:Own w gE 32 E) (hcE:32≤cE) (hG:En.Gens 32 E) (hk:1≤e 0∧e 0≤4) :
  Calls Tryz.prog 42 #[.slice (some ⟨gE,0,none⟩) 32 cE,.agg (En.cells e)] w (Cr.ListOf w gE (Cr.join E e)):=by
 obtain ⟨w0,hw0⟩:∃w0,w0=w.alloc (.cells (En.cells e) 70):=⟨_,rfl⟩;have hg0:Hid (w.grownBy w0 none):=by rw [hw0];exact World.grownBy_alloc _ _ _
 have hQ:Hid (Lie w0 w.heap.size 70 11 (Ints e)):=by rw [hw0];exact Lie.copied _ _ _
 have hE0:=hide (hE.onto (uh hg0));have hcE':=hide hcE;have key:Hid ((En.first (En.freeQ E) 32=-1∧Cr.join E e=E∧Calls Tryz.prog 68 #[.slice (some ⟨gE,0,none⟩) 32 cE,.agg (En.cells e)] w0 (Says w0 (.tuple #[.slice none 0 0,.int .i64 0,.int .i64 5])))∨∃f:Nat,Calls Tryz.prog 68 #[.slice (some ⟨gE,0,none⟩) 32 cE,.agg (En.cells e)] w0 (Spawns w0 32 (Cr.join E e) f)):=by
  rcases En.first_cases (En.freeQ E) 32 with ⟨he,hno⟩|⟨f,hf,he,hq,hno⟩
  ·refine .inl ⟨he,?_,refSpawn_full gE 32 cE E e w0 (uh hE0).ents hk hno⟩;unfold Cr.join;rw [he,if_neg (by omega)]
  ·refine .inr ⟨f,?_⟩;have hj:Cr.join E e=En.put E f (En.gen e ((E f 1+1) % 256)):=by
    unfold Cr.join;rw [he,if_pos (by omega),Int.toNat_natCast]
   rw [hj];exact refSpawn_some gE 32 cE f E e w0 (uh hE0).ents hk hf (by simpa [En.freeQ] using hq) hno hG
 clear hE hcE hG hk;unfold En.cells at hw0 key ⊢;go_enter Tryz.func42,Tryz.ntmps42;go_upto_region 1 with fail;rw [←hw0];clear hw0;obtain ⟨B,hB⟩:∃B,w.heap.size=B:=⟨_,rfl⟩;rw [hB] at hQ ⊢;have hB':=hide hB;clear hB;obtain ⟨z0,z1,z2,z3,z4,z5,z6,z7,z8,z9,z10⟩:=(uh hQ).ent;rcases uh key with ⟨hn,hj,cs⟩|⟨f,cs⟩
 ·have cs':=hide cs;have hj':=hide hj;clear cs key hj hn;go_wp2_with fail;refine (uh cs').mono ?_;rintro x w1 ⟨rfl,hg⟩;have hfin:Hid (Cr.ListOf w gE (Cr.join E e) (.returned (.slice (some ⟨gE,0,none⟩) 32 cE)) w1):=⟨gE,cE,rfl,uh hcE',.inl rfl,by rw [uh hj'];exact (uh hE0).onto hg,gtr (uh hg0) hg⟩;clear hg cs' z0 z1 z2 z3 z4 z5 z6 z7 z8 z9 z10;go_wp2;go_ret;exact uh hfin
 ·have cs':=hide cs;clear cs key;go_wp2_with fail;refine (uh cs').mono ?_;rintro x w1 ⟨j,cap,rfl,hlo,hnc,hcm,hown,hg⟩;have hfin:Hid (Cr.ListOf w gE (Cr.join E e) (.returned (.slice (some ⟨j,0,none⟩) 32 cap)) w1):=⟨j,cap,rfl,hnc,.inr (Nat.le_trans (uh hg0).size hlo),hown,gtr (uh hg0) hg⟩;clear hg cs' hlo hnc hcm hown z0 z1 z2 z3 z4 z5 z6 z7 z8 z9 z10;go_wp2;go_ret;exact uh hfin

set_option maxHeartbeats 1600000 in
theorem refSome_any (s g c:Nat→Int) (E I:Nat→Nat→Int) (gC gE gI cC cE cI:Nat) (w:World) (hL:Gd.Lists w gC gE gI c E I) :
  Calls Tryz.prog 38 #[.agg (Gd.world s gC gE gI cC cE cI g)] w (Says w (.bool (Cr.manned E))):=by
 obtain ⟨w0,hw0⟩:∃w0,w0=w.alloc (.cells (Gd.world s gC gE gI cC cE cI g) 30):=⟨_,rfl⟩;have hg0:w.grownBy w0 none:=by rw [hw0];exact World.grownBy_alloc _ _ _
 have hO:Hid (Gd.Shown w w0 w.heap.size gC gE gI cC cE cI s g c E I):=by
  refine ⟨?_,hL.on hg0,hg0⟩;rw [hw0];exact (Arr.world (heap_alloc_new w _)).lie
 have hyes:Hid (∀t:Nat,t<4→0≤Gd.hero E (t:Int)→Cr.manned E=true):=fun t ht h=>decide_eq_true ⟨t,ht,h⟩;have hno:Hid ((∀t:Nat,t<4→Gd.hero E (t:Int)<0)→Cr.manned E=false):=fun h=>decide_eq_false (fun ⟨t,ht,h0⟩=>by have:=h t ht;omega);obtain ⟨b,hb⟩:∃b,Cr.manned E=b:=⟨_,rfl⟩;rw [hb] at hyes hno ⊢;clear hL hg0 hb;unfold Gd.world at hw0 ⊢;go_enter Tryz.func38,Tryz.ntmps38;go_upto_region 1 with fail;rw [←hw0];clear hw0;obtain ⟨B,hB⟩:∃B,w.heap.size=B:=⟨_,rfl⟩;rw [hB] at hO ⊢;clear hB;go_wp2_with fail
 go_loopw [3] (fun v3 wr=>∃t:Nat,t≤4∧v3=.int .i64 (t:Int)∧Hid (∀j:Nat,j<t→Gd.hero E (j:Int)<0)∧Hid (Gd.Shown w wr B gC gE gI cC cE cI s g c E I)) (fun v3 _=>10 - (intOf v3).toNat)
 case atStart=>exact ⟨0,by omega,rfl,fun j h=>by omega,hO⟩
 case round =>
  clear hO;obtain ⟨t,ht,rfl,hn,hO⟩:=hrel;by_cases hlt:t<4
  ·have hlt':(t:Int)<4:=by omega
   have HL:=hide hlt;have q5:=(uh hO).box.eleven.2.2.2.2.2.1;have ch:=hide (refHero7_any gE cE E (t:Int) wr (uh hO).lists.own);have hy:=hide (uh hyes t hlt);obtain ⟨h,hh⟩:∃h,Gd.hero E (t:Int)=h:=⟨_,rfl⟩;rw [hh] at ch hy;have hh':=hide hh;clear hh hlt ht;go_wp2_with fail;refine (uh ch).mono ?_;rintro x w1 ⟨rfl,hg⟩;have hO1:=hide ((uh hO).on hg);clear hg ch q5 hO;by_cases h0:h<0
   ·have h0':¬h≥0:=by omega
    have hn2:Hid (∀j:Nat,j<t+1→Gd.hero E (j:Int)<0):=fun j hj=>by
     by_cases e:j=t
     ·rw [e,uh hh'];exact h0
     ·exact uh hn j (by omega)
    clear hy h0;go_wp2;go_roundw;case rel=>exact ⟨t+1,by have:=uh HL;omega,by go_num,hn2,hO1⟩
    case measure=>simp [intOf];have:=uh HL;omega
   ·have h0':h≥0:=by omega
    obtain rfl:=uh hy (by omega);clear hy h0;go_wp2;go_ret;exact ⟨rfl,(uh hO1).grown⟩
  ·obtain rfl:t=4:=by omega
   have hge:¬((4:Nat):Int)<4:=by omega
   obtain rfl:=uh hno (uh hn);clear hlt ht;go_wp2;go_ret;exact ⟨rfl,(uh hO).grown⟩

def Cr.HeroSays (w:World) (c:Nat→Int) (E:Nat→Nat→Int) (e:Nat→Int) (x:Ending) (w':World):Prop :=
 (∃v,Nv.IsSpot c E 32 (Gr.find 384 c 3 % 24) (Gr.find 384 c 3 / 24) v∧((v<0∧x=.returned (.tuple #[.agg (En.cells e),.bool false]))∨∃q:Nat,v=(q:Int)∧x=.returned (.tuple #[.agg (En.cells (En.upd (En.upd e 3 ((q:Int) % 24)) 4 ((q:Int) / 24))),.bool true])))∧w.grownBy w' none

set_option maxRecDepth 8000 in
set_option maxHeartbeats 3200000 in
theorem refHero10_any (s g c:Nat→Int) (E I:Nat→Nat→Int) (e:Nat→Int) (gC gE gI cC cE cI:Nat) (w:World) (hL:Gd.Lists w gC gE gI c E I) (hF:Nv.Floor c) :
  Calls Tryz.prog 41 #[.agg (Gd.world s gC gE gI cC cE cI g),.agg (En.cells e)] w (Cr.HeroSays w c E e):=by
 obtain ⟨wz,hwz⟩:∃wz,wz=w.alloc (.cells (Gd.world s gC gE gI cC cE cI g) 30):=⟨_,rfl⟩;obtain ⟨wy,hwy⟩:∃wy,wy=wz.alloc (.cells (En.cells e) 70):=⟨_,rfl⟩;obtain ⟨w0,hw0⟩:∃w0,w0=wy.alloc (.cells #[.int .i64 0,.int .i64 0,.int .i64 0,.int .i64 0,.int .i64 0,.int .i64 0,.int .i64 0,.int .i64 0,.int .i64 0,.int .i64 0,.int .i64 0] 70):=⟨_,rfl⟩;have hgz:w.grownBy wz none:=by rw [hwz];exact World.grownBy_alloc _ _ _
 have hgy:wz.grownBy wy none:=by rw [hwy];exact World.grownBy_alloc _ _ _
 have hg0:wy.grownBy w0 none:=by rw [hw0];exact World.grownBy_alloc _ _ _
 have hO:Hid (Gd.Shown w w0 w.heap.size gC gE gI cC cE cI s g c E I):=by
  refine ⟨?_,hL.on (gtr hgz (gtr hgy hg0)),gtr hgz (gtr hgy hg0)⟩;refine Lie.on ?_ (gtr hgy hg0);rw [hwz];exact (Arr.world (heap_alloc_new w _)).lie
 have hQ:Hid (Lie w0 wz.heap.size 70 11 (Ints e)):=by
  refine Lie.on ?_ hg0;rw [hwy];exact Lie.copied _ _ _
 have hR:Hid (Lie w0 wy.heap.size 70 11 (Ints (fun _=>0))):=by
  rw [hw0];exact Lie.copied wy (fun _=>0) _
 have sz:wz.heap.size=w.heap.size+1:=by rw [hwz];simp
 have sy:wy.heap.size=w.heap.size+1+1:=by rw [hwy,hwz];simp
 rw [sz] at hQ;rw [sy] at hR;obtain ⟨u,hu,hfu,-,-⟩:=Cr.up_stair hF;have hc8:Hid (∀i,0≤c i∧c i≤255):=fun i=>⟨(hF.five i).1,by have:=(hF.five i).2;omega⟩;have hu':=hide hu;have hdef:Hid (∀(v:Int) (x:Ending) (w':World),Nv.IsSpot c E 32 ((u:Int) % 24) ((u:Int) / 24) v→((v<0∧x=.returned (.tuple #[.agg (En.cells e),.bool false]))∨∃q:Nat,v=(q:Int)∧x=.returned (.tuple #[.agg (En.cells (En.upd (En.upd e 3 ((q:Int) % 24)) 4 ((q:Int) / 24))),.bool true]))→w.grownBy w' none→Cr.HeroSays w c E e x w'):=fun v x w' h1 h2 h3=>⟨⟨v,by rw [hfu];exact h1,h2⟩,h3⟩;have cf:=hide (fun z (hz:Gd.Lists z gC gE gI c E I)=>refFind_any z.heap.size (some ⟨gC,0,none⟩) 384 cC c 3 z hz.vec (uh hc8));rw [hfu] at cf;have cs:=hide (fun z (hz:Gd.Lists z gC gE gI c E I)=>refSpot_any (some ⟨gC,0,none⟩) cC gE 32 cE c E ((u:Int) % 24) ((u:Int) / 24) z hz.vec (uh hc8) hz.own.ents);have t1:IntKind.i64.wrap ((u:Int) / 24)=(u:Int) / 24:=by rw [IntKind.wrap_i64];omega
 clear hL hF hgz hgy hg0 hfu sz sy;unfold Gd.world at hwz ⊢;unfold En.cells at hwy hdef ⊢;rw [hwz] at hwy;rw [hwy] at hw0;clear hwz hwy;go_enter Tryz.func41,Tryz.ntmps41;go_upto_region 1 with fail;rw [←hw0];clear hw0;obtain ⟨B,hB⟩:∃B,w.heap.size=B:=⟨_,rfl⟩;rw [hB] at hO hQ hR ⊢;have hB':=hide hB;clear hB;have b4:=(uh hO).box.eleven.2.2.2.2.1;have cf':=hide (uh cf w0 (uh hO).lists);go_wp2_with fail;refine (uh cf').mono ?_;rintro x wq ⟨rfl,hy⟩;subst wq;have b5:=(uh hO).box.eleven.2.2.2.2.2.1;have hun:¬(u:Int)<0:=by omega
 have cs':=hide (uh cs w0 (uh hO).lists);clear cf cf' cs;go_wp2_with fail;refine (uh cs').mono ?_;rintro x w1 ⟨v,hv,rfl,hg⟩;have hv':=hide hv;have hO1:=hide ((uh hO).on hg);have hQ1:=hide ((uh hQ).on hg);have hR1:=hide ((uh hR).on hg);clear hv hg b4 b5 cs' hO hQ hR;obtain ⟨e0,e1,e2,e3,e4,e5,e6,e7,e8,e9,e10⟩:=(uh hQ1).ent;obtain ⟨z0,z1,z2,z3,z4,z5,z6,z7,z8,z9,z10⟩:=(uh hR1).ent;have fQ:=(uh hQ1).free;have fR:=(uh hR1).free;by_cases hneg:v<0
 ·have hfin:Hid (∀vs,Cr.HeroSays w c E e (.returned (.tuple #[.agg #[.int .i64 (e 0),.int .i64 (e 1),.int .i64 (e 2),.int .i64 (e 3),.int .i64 (e 4),.int .i64 (e 5),.int .i64 (e 6),.int .i64 (e 7),.int .i64 (e 8),.int .i64 (e 9),.int .i64 (e 10)],.bool false])) (w1.setCells (B+1+1) 0 vs)):=fun vs=>uh hdef v _ _ (uh hv') (.inl ⟨hneg,rfl⟩) (own_sets (by rw [uh hB'];omega) _ 0 w1 (uh hO1).grown);clear hdef;go_wp2;refine bodyPost_ret (v:=.tuple #[.agg #[.int .i64 (e 0),.int .i64 (e 1),.int .i64 (e 2),.int .i64 (e 3),.int .i64 (e 4),.int .i64 (e 5),.int .i64 (e 6),.int .i64 (e 7),.int .i64 (e 8),.int .i64 (e 9),.int .i64 (e 10)],.bool false]) (by simp [results,Tryz.results41,go_sem,z0,z1,z2,z3,z4,z5,z6,z7,z8,z9,z10]) rfl ?_;exact uh hfin [_,_,_,_,_,_,_,_,_,_,_]
 ·obtain ⟨q,rfl⟩:∃q:Nat,v=(q:Int):=⟨v.toNat,by omega⟩;have hq384:=(Cr.spot_room (uh hv')).1;have t2:IntKind.i64.wrap ((q:Int) / 24)=(q:Int) / 24:=by rw [IntKind.wrap_i64];omega
  have hcl:Hid (En.cells (En.upd (En.upd e 3 ((q:Int) % 24)) 4 ((q:Int) / 24))=#[.int .i64 (e 0),.int .i64 (e 1),.int .i64 (e 2),.int .i64 ((q:Int) % 24),.int .i64 ((q:Int) / 24),.int .i64 (e 5),.int .i64 (e 6),.int .i64 (e 7),.int .i64 (e 8),.int .i64 (e 9),.int .i64 (e 10)]):=rfl;have nQR:B+1≠B+1+1:=by omega
  have nRQ:B+1+1≠B+1:=by omega
  have hgq:Hid (∀a b vs,w.grownBy (((w1.setCell ⟨B+1,3,none⟩ a).setCell ⟨B+1,4,none⟩ b).setCells (B+1+1) 0 vs) none):=fun a b vs=>own_sets (by rw [uh hB'];omega) _ 0 _ (gsr (gsr (uh hO1).grown ⟨B+1,3,none⟩ (by rw [uh hB'];show B≤B+1;omega) a) ⟨B+1,4,none⟩ (by rw [uh hB'];show B≤B+1;omega) b);have hfin:Hid (∀w',w.grownBy w' none→Cr.HeroSays w c E e (.returned (.tuple #[.agg #[.int .i64 (e 0),.int .i64 (e 1),.int .i64 (e 2),.int .i64 ((q:Int) % 24),.int .i64 ((q:Int) / 24),.int .i64 (e 5),.int .i64 (e 6),.int .i64 (e 7),.int .i64 (e 8),.int .i64 (e 9),.int .i64 (e 10)],.bool true])) w'):=fun w' hg=>uh hdef (q:Int) _ _ (uh hv') (.inr ⟨q,rfl,by first | rfl | rw [uh hcl]⟩) hg;have hqn:¬(q:Int)<0:=by omega
  clear hdef hneg hq384 hcl;go_wp2;refine bodyPost_ret (v:=.tuple #[.agg #[.int .i64 (e 0),.int .i64 (e 1),.int .i64 (e 2),.int .i64 ((q:Int) % 24),.int .i64 ((q:Int) / 24),.int .i64 (e 5),.int .i64 (e 6),.int .i64 (e 7),.int .i64 (e 8),.int .i64 (e 9),.int .i64 (e 10)],.bool true]) (by simp [results,Tryz.results41,go_sem,z0,z1,z2,z3,z4,z5,z6,z7,z8,z9,z10]) rfl ?_;exact uh hfin _ (uh hgq _ _ [_,_,_,_,_,_,_,_,_,_,_])


open Go.RowKit

def Cr.Back (w:World) (gC gE gI:Nat) (s g c:Nat→Int) (E I:Nat→Nat→Int) (e:Ending) (w':World):Prop :=
 ∃jC jE jI dC dE dI,e=.returned (.agg (Gd.world s jC jE jI dC dE dI g))∧32≤dE∧(jC=gC∨w.heap.size≤jC)∧(jE=gE∨w.heap.size≤jE)∧(jI=gI∨w.heap.size≤jI)∧jC≠jE∧jC≠jI∧jE≠jI∧Gd.Lists w' jC jE jI c E I∧w.grownBy w' none

theorem Cr.back_of {w w':World} {gC gE gI:Nat} {s g c:Nat→Int} {E I:Nat→Nat→Int} {e:Ending} (h:Gd.Worlds w s g c E I e w'):Cr.Back w gC gE gI s g c E I e w':=by
 obtain ⟨jC,jE,jI,dC,dE,dI,he,hcap,l1,l2,l3,n1,n2,n3,hL,hg⟩:=h;exact ⟨jC,jE,jI,dC,dE,dI,he,hcap,.inr l1,.inr l2,.inr l3,n1,n2,n3,hL,hg⟩

theorem Gd.Lent.back {w x:World} {B gC gE gI cC cE cI:Nat} {s g c:Nat→Int} {E I:Nat→Nat→Int} (h:Gd.Lent w x B gC gE gI cC cE cI s g c E I) (hcap:32≤cE) (n1:gC≠gE) (n2:gC≠gI) (n3:gE≠gI) (l1:gC<B) (l2:gE<B) (l3:gI<B) (vs:List Value) :
  Cr.Back w gC gE gI s g c E I (.returned (.agg (Gd.world s gC gE gI cC cE cI g))) (x.setCells (B+1) 0 vs):=by
 have r:=gss (g:=B+1) vs 0 x (World.grownBy.refl _ _);have h3:=h.at_;exact ⟨gC,gE,gI,cC,cE,cI,rfl,hcap,.inl rfl,.inl rfl,.inl rfl,n1,n2,n3,⟨h.lists.cells.grown r (by simp;omega),h.lists.ents.grown r (by simp;omega),h.lists.items.grown r (by simp;omega)⟩,own_sets (by omega) _ 0 x h.grown⟩

theorem Gd.Lent.eleven {w x:World} {B gC gE gI cC cE cI:Nat} {s g c:Nat→Int} {E I:Nat→Nat→Int} (h:Gd.Lent w x B gC gE gI cC cE cI s g c E I) :
  x.cell? ⟨B,0,none⟩=some (.int .i64 (s 0))∧x.cell? ⟨B,1,none⟩=some (.int .i64 (s 1))∧x.cell? ⟨B,2,none⟩=some (.int .i64 (s 2))∧x.cell? ⟨B,3,none⟩=some (.int .i64 (s 3))∧x.cell? ⟨B,4,none⟩=some (.slice (some ⟨gC,0,none⟩) 384 cC)∧x.cell? ⟨B,5,none⟩=some (.slice (some ⟨gE,0,none⟩) 32 cE)∧x.cell? ⟨B,6,none⟩=some (.slice (some ⟨gI,0,none⟩) 40 cI)∧x.cell? ⟨B,7,none⟩=some (.int .i64 (g 0))∧x.cell? ⟨B,8,none⟩=some (.int .i64 (g 1))∧x.cell? ⟨B,9,none⟩=some (.int .i64 (g 2))∧x.cell? ⟨B,10,none⟩=some (.int .i64 (g 3)):=h.box.eleven

set_option maxRecDepth 8000 in
set_option maxHeartbeats 12800000 in
theorem refAct_any (s g c:Nat→Int) (E I:Nat→Nat→Int) (gC gE gI cC cE cI k:Nat) (d:Int) (foe:Bool) (w:World) (hL:Gd.Lists w gC gE gI c E I) (hcE:32≤cE) (n1:gC≠gE) (n2:gC≠gI) (n3:gE≠gI) (hS:Cr.Sane c E I) (hk:k<32) (k0:E k 0≠0) :
  Calls Tryz.prog 44 #[.agg (Gd.world s gC gE gI cC cE cI g),.int .i64 (k:Int),.int .i64 d,.bool foe] w (Cr.Back w gC gE gI s g c (Cr.act s c E I k d foe).1 (Cr.act s c E I k d foe).2):=by
 obtain ⟨w0,hw0,hbox,hres,hg0,hsz⟩:=Gd.boxes w gC gE gI cC cE cI s g;obtain ⟨B,hB⟩:∃B,w.heap.size=B:=⟨_,rfl⟩;rw [hB] at hbox hres hsz;have hO:Hid (Gd.Lent w w0 B gC gE gI cC cE cI s g c E I):=⟨hbox,hL.on hg0,hB,hres,hg0⟩;have lC:gC<B:=by rw [←hB];exact hL.cells.lt
 have lE:gE<B:=by rw [←hB];exact hL.ents.lt
 have lI:gI<B:=by rw [←hB];exact hL.items.lt
 have hret:Hid (∀(x:World),Gd.Lent w x B gC gE gI cC cE cI s g c E I→∀vs,Cr.Back w gC gE gI s g c E I (.returned (.agg (Gd.world s gC gE gI cC cE cI g))) (x.setCells (B+1) 0 vs)):=fun x h vs=>h.back hcE n1 n2 n3 lC lE lI vs;obtain ⟨a1,a2,a3,a4,a5⟩:=hS.set.stands.on k hk k0;have hxy:=hide (show (0≤E k 3∧E k 3<24)∧0≤E k 4∧E k 4<16 from ⟨⟨a1,a2⟩,a3,a4⟩);have HK:=hide hk;have hk':(k:Int)<32:=by omega
 have hS':=hide hS;have hB':=hide hB;clear hL hbox hres hg0 hsz hcE n1 n2 n3 lC lE lI hS hk k0 a1 a2 a3 a4 a5 hB;have hdef:Hid (Cr.act s c E I k d foe=if d<1∨4<d then (E,I) else if 0≤Cr.who E k d then (if decide (E (Cr.who E k d).toNat 0=1)=foe then (Ft.hitE s E I (k:Int) (Cr.who E k d),Ft.hitI s E I (k:Int) (Cr.who E k d)) else (E,I)) else if Gr.walkB (Gr.at 384 c (E k 3+(Fx.way d).1) (E k 4+(Fx.way d).2))=true then (Cr.go E k (E k 3+(Fx.way d).1) (E k 4+(Fx.way d).2),I) else (E,I)):=rfl;have hwho:Hid (Cr.who E k d=En.first (En.atQ E (E k 3+(Fx.way d).1) (E k 4+(Fx.way d).2)) 32):=rfl;have cw:=hide (fun wq=>refWay_any d wq);unfold Gd.world at hw0 hret ⊢;by_cases hd:d<1∨4<d
 ·rw [uh hdef,if_pos hd];rw [Fx.way_none d hd] at cw;clear hdef hwho;go_enter Tryz.func44,Tryz.ntmps44;go_upto_region 1 with fail;rw [←hw0,uh hB'];clear hw0;go_wp2_with fail;refine (uh cw _).mono ?_;rintro e wy ⟨rfl,hy⟩;subst wy;obtain ⟨b0,b1,b2,b3,b4,b5,b6,b7,b8,b9,b10⟩:=(uh hO).eleven;have fz:=(uh hO).res.free;obtain ⟨z0,z1,z2,z3,z4,z5,z6,z7,z8,z9,z10⟩:=Gd.res_cells (uh hO).res;have hfin:=hide (fun vs=>uh hret _ (uh hO) vs);clear cw hd;go_wp2;refine bodyPost_ret (v:=.agg (Gd.world s gC gE gI cC cE cI g)) (by simp [results,Tryz.results44,go_sem,Gd.world,z0,z1,z2,z3,z4,z5,z6,z7,z8,z9,z10]) rfl ?_;exact uh hfin [_,_,_,_,_,_,_,_,_,_,_]
 rw [uh hdef,if_neg hd];have cz:=hide (fun z (hz:Gd.Lists z gC gE gI c E I)=>entRefAt_same gE 32 cE E (E k 3+(Fx.way d).1) (E k 4+(Fx.way d).2) z hz.own.ents);have ca:=hide (fun z (hz:Gd.Lists z gC gE gI c E I)=>refAt_any z.heap.size (some ⟨gC,0,none⟩) 384 cC c (E k 3+(Fx.way d).1) (E k 4+(Fx.way d).2) z hz.vec (uh hS').fit.cells);have ck:=hide (fun wq=>refWalk_any (Gr.at 384 c (E k 3+(Fx.way d).1) (E k 4+(Fx.way d).2)) wq);have wb:=Fx.way_bd d;have hne:¬((Fx.way d).1=0∧(Fx.way d).2=0):=by
  obtain ⟨n,rfl⟩:∃n:Nat,d=(n:Int):=⟨d.toNat,by omega⟩;have:=Md.way_some (d:=n) (by omega) (by omega) 0 0;omega
 have k1:=uh hxy;have x1:IntKind.i64.wrap (E k 3+(Fx.way d).1)=E k 3+(Fx.way d).1:=by rw [IntKind.wrap_i64];omega
 have y1:IntKind.i64.wrap (E k 4+(Fx.way d).2)=E k 4+(Fx.way d).2:=by rw [IntKind.wrap_i64];omega
 rw [uh hwho];obtain ⟨z,hz⟩:∃z,En.first (En.atQ E (E k 3+(Fx.way d).1) (E k 4+(Fx.way d).2)) 32=z:=⟨_,rfl⟩;have hzr:z=-1∨∃j:Nat,j<32∧z=(j:Int):=by
  rw [←hz];rcases En.first_cases (En.atQ E (E k 3+(Fx.way d).1) (E k 4+(Fx.way d).2)) 32 with ⟨he,_⟩|⟨j,hj,he,_⟩
  ·exact .inl he
  ·exact .inr ⟨j,hj,he⟩
 obtain ⟨A,hA⟩:∃A,Gr.at 384 c (E k 3+(Fx.way d).1) (E k 4+(Fx.way d).2)=A:=⟨_,rfl⟩;obtain ⟨wk,hwk⟩:∃wk,Gr.walkB A=wk:=⟨_,rfl⟩;rw [hz] at cz ⊢;rw [hA] at ca ck ⊢;rw [hwk] at ck ⊢;obtain ⟨dx,hdx⟩:∃dx,(Fx.way d).1=dx:=⟨_,rfl⟩;obtain ⟨dy,hdy⟩:∃dy,(Fx.way d).2=dy:=⟨_,rfl⟩;rw [hdx] at cw cz ca x1 hne ⊢;rw [hdy] at cw cz ca y1 hne ⊢;have hzr':=hide hzr;have hne':=hide hne;obtain ⟨P,hPe⟩:∃P,Cr.Back w gC gE gI s g c (if 0≤z then (if decide (E z.toNat 0=1)=foe then (Ft.hitE s E I (k:Int) z,Ft.hitI s E I (k:Int) z) else (E,I)) else if wk=true then (Cr.go E k (E k 3+dx) (E k 4+dy),I) else (E,I)).1 (if 0≤z then (if decide (E z.toNat 0=1)=foe then (Ft.hitE s E I (k:Int) z,Ft.hitI s E I (k:Int) z) else (E,I)) else if wk=true then (Cr.go E k (E k 3+dx) (E k 4+dy),I) else (E,I)).2=P:=⟨_,rfl⟩;have hfin:Hid (∀F J e w',(if 0≤z then (if decide (E z.toNat 0=1)=foe then (Ft.hitE s E I (k:Int) z,Ft.hitI s E I (k:Int) z) else (E,I)) else if wk=true then (Cr.go E k (E k 3+dx) (E k 4+dy),I) else (E,I))=(F,J)→Cr.Back w gC gE gI s g c F J e w'→P e w'):=fun F J e w' h1 h2=>by
  rw [←hPe,h1];exact h2
 rw [hPe];clear hz hA hwk hdx hdy wb k1 hdef hwho hzr hne hd hPe;go_enter Tryz.func44,Tryz.ntmps44;go_upto_region 1 with fail;rw [←hw0,uh hB'];clear hw0;go_wp2_with fail;refine (uh cw _).mono ?_;rintro e wy ⟨rfl,hy⟩;subst wy;clear cw;go_upto_region 2 with fail
 go_cut [24] from 19 to 24 (fun va wx=>va=.bool false∧wx=w0)
 case first =>
  by_cases h0:dx=0
  ·have h1:(dy == 0)=false:=by have:=uh hne';simp;omega
   subst h0;go_wp2_with fail;go_meet;exact ⟨rfl,rfl⟩
  ·have h1:(dx == 0)=false:=by simpa using h0
   clear h0;go_wp2_with fail;go_meet;exact ⟨rfl,rfl⟩
 case rest =>
  obtain ⟨rfl,hwe⟩:=hcut;subst hwe;clear hne';have q5:=(uh hO).eleven.2.2.2.2.2.1;have r3:=((uh hO).lists.own.ents.row (uh HK)).2.2.2.1;have r4:=((uh hO).lists.own.ents.row (uh HK)).2.2.2.2.1;go_upto_region 4 with fail
  go_cut [11,12] from 26 to 41 (fun va vb wx=>va=.int .i64 (E k 3+dx)∧vb=.int .i64 (E k 4+dy)∧Hid (Gd.Lent w wx B gC gE gI cC cE cI s g c E I))
  case first =>
   go_quiet (fail);go_wp2_with fail;go_meet;exact ⟨rfl,rfl,(uh hO).on (gdw (World.grownBy.refl _ none) _)⟩
  case rest =>
   clear hO q5 r3 r4 x1 y1;obtain ⟨rfl,rfl,hO⟩:=hcut;have q5:=(uh hO).eleven.2.2.2.2.2.1;have cz':=hide (uh cz _ (uh hO).lists);go_wp2_with fail;refine (uh cz').mono ?_;rintro e wy ⟨rfl,hy⟩;subst wy;clear cz cz';rcases uh hzr' with rfl|⟨j,hj,rfl⟩
   ·have q4:=(uh hO).eleven.2.2.2.2.1;have ca':=hide (uh ca _ (uh hO).lists);clear hzr' q5;go_wp2_with fail;refine (uh ca').mono ?_;rintro e wy ⟨rfl,hy⟩;subst wy;go_wp2_with fail;refine (uh ck _).mono ?_;rintro e wy ⟨rfl,hy⟩;subst wy;clear ca ca' ck q4;obtain ⟨b0,b1,b2,b3,b4,b5,b6,b7,b8,b9,b10⟩:=(uh hO).eleven;cases wk
    ·have hf:=hide (fun e w'=>uh hfin E I e w' (by rw [if_neg (by omega),if_neg (by simp)]));clear hfin;have fz:=(uh hO).res.free;obtain ⟨z0,z1,z2,z3,z4,z5,z6,z7,z8,z9,z10⟩:=Gd.res_cells (uh hO).res;have hfo:=hide (fun vs=>uh hret _ (uh hO) vs);go_wp2;refine bodyPost_ret (v:=.agg (Gd.world s gC gE gI cC cE cI g)) (by simp [results,Tryz.results44,go_sem,Gd.world,z0,z1,z2,z3,z4,z5,z6,z7,z8,z9,z10]) rfl ?_;exact uh hf _ _ (uh hfo [_,_,_,_,_,_,_,_,_,_,_])
    ·have hf:=hide (fun e w'=>uh hfin (Cr.go E k (E k 3+dx) (E k 4+dy)) I e w' (by rw [if_neg (by omega),if_pos rfl]));clear hfin;have ct:=hide (refTwin_any s g c E I gC gE gI cC cE cI _ (uh hO).lists);unfold Gd.world at ct;go_wp2_with fail;refine (uh ct).mono ?_;rintro e w1 ⟨jC,jE,jI,dC,dE,dI,rfl,hcap,l1,l2,l3,n1,n2,n3,hL,hg⟩;have hX:Hid (Gd.Boxed w (((((((((((w1.setCell ⟨B,0,none⟩ (.int .i64 (s 0))).setCell ⟨B,1,none⟩ (.int .i64 (s 1))).setCell ⟨B,2,none⟩ (.int .i64 (s 2))).setCell ⟨B,3,none⟩ (.int .i64 (s 3))).setCell ⟨B,4,none⟩ (.slice (some ⟨jC,0,none⟩) 384 dC)).setCell ⟨B,5,none⟩ (.slice (some ⟨jE,0,none⟩) 32 dE)).setCell ⟨B,6,none⟩ (.slice (some ⟨jI,0,none⟩) 40 dI)).setCell ⟨B,7,none⟩ (.int .i64 (g 0))).setCell ⟨B,8,none⟩ (.int .i64 (g 1))).setCell ⟨B,9,none⟩ (.int .i64 (g 2))).setCell ⟨B,10,none⟩ (.int .i64 (g 3))) B jC jE jI dC dE dI s g c E I):=(uh hO).over (s':=s) (g':=g) (dC:=dC) (dI:=dI) hcap l1 l2 l3 n1 n2 n3 hL hg;obtain ⟨y0,y1,y2,y3,y4,y5,y6,y7,y8,y9,y10⟩:=((uh hO).on hg).eleven;have fB:=((uh hO).on hg).box.free;clear hcap l1 l2 l3 n1 n2 n3 hL hg ct b0 b1 b2 b3 b4 b5 b6 b7 b8 b9 b10 hO hret;unfold Gd.world;go_upto_region 12 with fail;generalize (((((((((((w1.setCell ⟨B,0,none⟩ (.int .i64 (s 0))).setCell ⟨B,1,none⟩ (.int .i64 (s 1))).setCell ⟨B,2,none⟩ (.int .i64 (s 2))).setCell ⟨B,3,none⟩ (.int .i64 (s 3))).setCell ⟨B,4,none⟩ (.slice (some ⟨jC,0,none⟩) 384 dC)).setCell ⟨B,5,none⟩ (.slice (some ⟨jE,0,none⟩) 32 dE)).setCell ⟨B,6,none⟩ (.slice (some ⟨jI,0,none⟩) 40 dI)).setCell ⟨B,7,none⟩ (.int .i64 (g 0))).setCell ⟨B,8,none⟩ (.int .i64 (g 1))).setCell ⟨B,9,none⟩ (.int .i64 (g 2))).setCell ⟨B,10,none⟩ (.int .i64 (g 3)))=w2 at hX ⊢;clear y0 y1 y2 y3 y4 y5 y6 y7 y8 y9 y10 fB;have hgo:Hid (Cr.go E k (E k 3+dx) (E k 4+dy)=Gd.set (Gd.set E k 3 (E k 3+dx)) k 4 (E k 4+dy)):=rfl;rw [uh hgo] at hf;obtain ⟨X,hXe⟩:∃X,E k 3+dx=X:=⟨_,rfl⟩;obtain ⟨Y,hYe⟩:∃Y,E k 4+dy=Y:=⟨_,rfl⟩;rw [hXe,hYe] at hf ⊢;clear hXe hYe hgo
     go_cut [] from 71 to 82 (fun wx=>Hid (Gd.Boxed w wx B jC jE jI dC dE dI s g c (Gd.set (Gd.set E k 3 X) k 4 Y) I))
     case first =>
      have b5:=(uh hX).hold.box.eleven.2.2.2.2.2.1;have fE:=(uh hX).hold.lists.ents.free;have r3:=((uh hX).hold.lists.own.ents.row (uh HK)).2.2.2.1;have r4:=((uh hX).hold.lists.own.ents.row (uh HK)).2.2.2.2.1;have hTE:B≠jE:=(uh hX).hold.bE;have hET:jE≠B:=hTE.symm
      go_region
      all_goals (go_wp2_with fail;go_meet)
      exact (((uh hX).stat k 3 (by omega) X).stat k 4 (by omega) Y).on (gd1 (World.grownBy.refl _ none))
     case rest =>
      clear hX;have hX:=hcut;clear hcut;obtain ⟨b0,b1,b2,b3,b4,b5,b6,b7,b8,b9,b10⟩:=(uh hX).hold.box.eleven;have fz:=(uh hX).res.free;obtain ⟨z0,z1,z2,z3,z4,z5,z6,z7,z8,z9,z10⟩:=Gd.res_cells (uh hX).res;have hfo:=hide (fun vs=>Cr.back_of (gC:=gC) (gE:=gE) (gI:=gI) ((uh hX).worlds vs));go_wp2;refine bodyPost_ret (v:=.agg (Gd.world s jC jE jI dC dE dI g)) (by simp [results,Tryz.results44,go_sem,Gd.world,z0,z1,z2,z3,z4,z5,z6,z7,z8,z9,z10]) rfl ?_;exact uh hf _ _ (uh hfo [_,_,_,_,_,_,_,_,_,_,_])
   ·have hj':(j:Int)<32:=by omega
    have hjp:(j:Int)≥0:=by omega
    have u0:=((uh hO).lists.own.ents.row hj).1;have ct:=hide (refHit8_any s g c E I gC gE gI cC cE cI (k:Int) (j:Int) _ (uh hO).lists (uh hS').fit);obtain ⟨eq,heq⟩:∃eq,decide (E j 0=1)=eq:=⟨_,rfl⟩;have hbeq:(E j 0 == 1)=eq:=by rw [←heq];rfl
    have hfj:Hid (∀F J e w',(if eq=foe then (Ft.hitE s E I (k:Int) (j:Int),Ft.hitI s E I (k:Int) (j:Int)) else (E,I))=(F,J)→Cr.Back w gC gE gI s g c F J e w'→P e w'):=fun F J e w' h1 h2=>uh hfin F J e w' (by rw [if_pos (by omega),Int.toNat_natCast,heq];exact h1) h2;clear hzr' heq hj ca ck hfin;obtain ⟨b0,b1,b2,b3,b4,b5,b6,b7,b8,b9,b10⟩:=(uh hO).eleven;cases foe <;> cases eq
    ·have hf:=hide (fun e w'=>uh hfj _ _ e w' (if_pos rfl));clear hfj;unfold Gd.world at ct;go_wp2_with fail;refine (uh ct).mono ?_;rintro e w1 ⟨jC,jE,jI,dC,dE,dI,rfl,hcap,l1,l2,l3,n1,n2,n3,hL,hg⟩;have hX:Hid (Gd.Boxed w (((((((((((w1.setCell ⟨B,0,none⟩ (.int .i64 (s 0))).setCell ⟨B,1,none⟩ (.int .i64 (s 1))).setCell ⟨B,2,none⟩ (.int .i64 (s 2))).setCell ⟨B,3,none⟩ (.int .i64 (s 3))).setCell ⟨B,4,none⟩ (.slice (some ⟨jC,0,none⟩) 384 dC)).setCell ⟨B,5,none⟩ (.slice (some ⟨jE,0,none⟩) 32 dE)).setCell ⟨B,6,none⟩ (.slice (some ⟨jI,0,none⟩) 40 dI)).setCell ⟨B,7,none⟩ (.int .i64 (g 0))).setCell ⟨B,8,none⟩ (.int .i64 (g 1))).setCell ⟨B,9,none⟩ (.int .i64 (g 2))).setCell ⟨B,10,none⟩ (.int .i64 (g 3))) B jC jE jI dC dE dI s g c (Ft.hitE s E I (k:Int) (j:Int)) (Ft.hitI s E I (k:Int) (j:Int))):=(uh hO).over (s':=s) (g':=g) (dC:=dC) (dI:=dI) hcap l1 l2 l3 n1 n2 n3 hL hg;obtain ⟨y0,y1,y2,y3,y4,y5,y6,y7,y8,y9,y10⟩:=((uh hO).on hg).eleven;have fB:=((uh hO).on hg).box.free;clear hcap l1 l2 l3 n1 n2 n3 hL hg ct b0 b1 b2 b3 b4 b5 b6 b7 b8 b9 b10 hO hret;unfold Gd.world;go_upto_region 9 with fail;generalize (((((((((((w1.setCell ⟨B,0,none⟩ (.int .i64 (s 0))).setCell ⟨B,1,none⟩ (.int .i64 (s 1))).setCell ⟨B,2,none⟩ (.int .i64 (s 2))).setCell ⟨B,3,none⟩ (.int .i64 (s 3))).setCell ⟨B,4,none⟩ (.slice (some ⟨jC,0,none⟩) 384 dC)).setCell ⟨B,5,none⟩ (.slice (some ⟨jE,0,none⟩) 32 dE)).setCell ⟨B,6,none⟩ (.slice (some ⟨jI,0,none⟩) 40 dI)).setCell ⟨B,7,none⟩ (.int .i64 (g 0))).setCell ⟨B,8,none⟩ (.int .i64 (g 1))).setCell ⟨B,9,none⟩ (.int .i64 (g 2))).setCell ⟨B,10,none⟩ (.int .i64 (g 3)))=w2 at hX ⊢;clear y0 y1 y2 y3 y4 y5 y6 y7 y8 y9 y10 fB;obtain ⟨b0,b1,b2,b3,b4,b5,b6,b7,b8,b9,b10⟩:=(uh hX).hold.box.eleven;have fz:=(uh hX).res.free;obtain ⟨z0,z1,z2,z3,z4,z5,z6,z7,z8,z9,z10⟩:=Gd.res_cells (uh hX).res;have hfo:=hide (fun vs=>Cr.back_of (gC:=gC) (gE:=gE) (gI:=gI) ((uh hX).worlds vs));go_wp2;refine bodyPost_ret (v:=.agg (Gd.world s jC jE jI dC dE dI g)) (by simp [results,Tryz.results44,go_sem,Gd.world,z0,z1,z2,z3,z4,z5,z6,z7,z8,z9,z10]) rfl ?_;exact uh hf _ _ (uh hfo [_,_,_,_,_,_,_,_,_,_,_])
    ·have hf:=hide (fun e w'=>uh hfj E I e w' (if_neg (by simp)));clear hfj ct;have fz:=(uh hO).res.free;obtain ⟨z0,z1,z2,z3,z4,z5,z6,z7,z8,z9,z10⟩:=Gd.res_cells (uh hO).res;have hfo:=hide (fun vs=>uh hret _ (uh hO) vs);go_wp2;refine bodyPost_ret (v:=.agg (Gd.world s gC gE gI cC cE cI g)) (by simp [results,Tryz.results44,go_sem,Gd.world,z0,z1,z2,z3,z4,z5,z6,z7,z8,z9,z10]) rfl ?_;exact uh hf _ _ (uh hfo [_,_,_,_,_,_,_,_,_,_,_])
    ·have hf:=hide (fun e w'=>uh hfj E I e w' (if_neg (by simp)));clear hfj ct;have fz:=(uh hO).res.free;obtain ⟨z0,z1,z2,z3,z4,z5,z6,z7,z8,z9,z10⟩:=Gd.res_cells (uh hO).res;have hfo:=hide (fun vs=>uh hret _ (uh hO) vs);go_wp2;refine bodyPost_ret (v:=.agg (Gd.world s gC gE gI cC cE cI g)) (by simp [results,Tryz.results44,go_sem,Gd.world,z0,z1,z2,z3,z4,z5,z6,z7,z8,z9,z10]) rfl ?_;exact uh hf _ _ (uh hfo [_,_,_,_,_,_,_,_,_,_,_])
    ·have hf:=hide (fun e w'=>uh hfj _ _ e w' (if_pos rfl));clear hfj;unfold Gd.world at ct;go_wp2_with fail;refine (uh ct).mono ?_;rintro e w1 ⟨jC,jE,jI,dC,dE,dI,rfl,hcap,l1,l2,l3,n1,n2,n3,hL,hg⟩;have hX:Hid (Gd.Boxed w (((((((((((w1.setCell ⟨B,0,none⟩ (.int .i64 (s 0))).setCell ⟨B,1,none⟩ (.int .i64 (s 1))).setCell ⟨B,2,none⟩ (.int .i64 (s 2))).setCell ⟨B,3,none⟩ (.int .i64 (s 3))).setCell ⟨B,4,none⟩ (.slice (some ⟨jC,0,none⟩) 384 dC)).setCell ⟨B,5,none⟩ (.slice (some ⟨jE,0,none⟩) 32 dE)).setCell ⟨B,6,none⟩ (.slice (some ⟨jI,0,none⟩) 40 dI)).setCell ⟨B,7,none⟩ (.int .i64 (g 0))).setCell ⟨B,8,none⟩ (.int .i64 (g 1))).setCell ⟨B,9,none⟩ (.int .i64 (g 2))).setCell ⟨B,10,none⟩ (.int .i64 (g 3))) B jC jE jI dC dE dI s g c (Ft.hitE s E I (k:Int) (j:Int)) (Ft.hitI s E I (k:Int) (j:Int))):=(uh hO).over (s':=s) (g':=g) (dC:=dC) (dI:=dI) hcap l1 l2 l3 n1 n2 n3 hL hg;obtain ⟨y0,y1,y2,y3,y4,y5,y6,y7,y8,y9,y10⟩:=((uh hO).on hg).eleven;have fB:=((uh hO).on hg).box.free;clear hcap l1 l2 l3 n1 n2 n3 hL hg ct b0 b1 b2 b3 b4 b5 b6 b7 b8 b9 b10 hO hret;unfold Gd.world;go_upto_region 9 with fail;generalize (((((((((((w1.setCell ⟨B,0,none⟩ (.int .i64 (s 0))).setCell ⟨B,1,none⟩ (.int .i64 (s 1))).setCell ⟨B,2,none⟩ (.int .i64 (s 2))).setCell ⟨B,3,none⟩ (.int .i64 (s 3))).setCell ⟨B,4,none⟩ (.slice (some ⟨jC,0,none⟩) 384 dC)).setCell ⟨B,5,none⟩ (.slice (some ⟨jE,0,none⟩) 32 dE)).setCell ⟨B,6,none⟩ (.slice (some ⟨jI,0,none⟩) 40 dI)).setCell ⟨B,7,none⟩ (.int .i64 (g 0))).setCell ⟨B,8,none⟩ (.int .i64 (g 1))).setCell ⟨B,9,none⟩ (.int .i64 (g 2))).setCell ⟨B,10,none⟩ (.int .i64 (g 3)))=w2 at hX ⊢;clear y0 y1 y2 y3 y4 y5 y6 y7 y8 y9 y10 fB;obtain ⟨b0,b1,b2,b3,b4,b5,b6,b7,b8,b9,b10⟩:=(uh hX).hold.box.eleven;have fz:=(uh hX).res.free;obtain ⟨z0,z1,z2,z3,z4,z5,z6,z7,z8,z9,z10⟩:=Gd.res_cells (uh hX).res;have hfo:=hide (fun vs=>Cr.back_of (gC:=gC) (gE:=gE) (gI:=gI) ((uh hX).worlds vs));go_wp2;refine bodyPost_ret (v:=.agg (Gd.world s jC jE jI dC dE dI g)) (by simp [results,Tryz.results44,go_sem,Gd.world,z0,z1,z2,z3,z4,z5,z6,z7,z8,z9,z10]) rfl ?_;exact uh hf _ _ (uh hfo [_,_,_,_,_,_,_,_,_,_,_])


open Go.RowKit

theorem Cr.Hand.back {w x:World} {B R gC gE gI cC cE cI oC oE oI:Nat} {s g c:Nat→Int} {E I:Nat→Nat→Int} (h:Cr.Hand w x B gC gE gI cC cE cI s g c E I) (lR:w.heap.size≤R) (nC:R≠gC) (nE:R≠gE) (nI:R≠gI) (l1:gC=oC∨w.heap.size≤gC) (l2:gE=oE∨w.heap.size≤gE) (l3:gI=oI∨w.heap.size≤gI) (vs:List Value) :
  Cr.Back w oC oE oI s g c E I (.returned (.agg (Gd.world s gC gE gI cC cE cI g))) (x.setCells R 0 vs):=by
 have r:=gss (g:=R) vs 0 x (World.grownBy.refl _ _);exact ⟨gC,gE,gI,cC,cE,cI,rfl,h.cap,l1,l2,l3,h.hold.cE,h.hold.cI,h.hold.eI,⟨h.hold.lists.cells.grown r (by simpa using nC),h.hold.lists.ents.grown r (by simpa using nE),h.hold.lists.items.grown r (by simpa using nI)⟩,own_sets lR _ 0 x h.grown⟩


open Go.RowKit

theorem refMake10_any (seed f:Int) (h1:1≤f) (h3:f≤3) (w:World):Calls Tryz.prog 35 #[.int .i64 seed,.int .i64 f] w (Cr.Made seed f w):=by
 obtain ⟨d,hd,hF⟩:=dice_of seed f;refine (refMake_any seed f d hd hF h1 h3 w).mono ?_;rintro e w' ⟨c,F,G,nE,nI,cE,cI,aE,aI,hlev,rfl,hG,hA,hnE,hnI,hE,hI,hg⟩;have hl:Cr.Lev seed f c (Gn.ents d f c F) (Gn.items d c):=⟨d,F,hd,hF,hlev,rfl,rfl⟩;have hE40:nE≤40:=by
  rw [hnE];have:=Gn.mons_len d f (f+2).toNat 0 ((Gn.those (fun i=>c i == 1) 384).filter (Gn.afar F));unfold Gn.ents;omega
 have hI100:nI≤100:=by
  have:=Gn.items_len d c;rw [hnI,this.1];split <;> omega
 exact ⟨c,_,_,G,nE,nI,cE,cI,aE,aI,hl,rfl,hG,hA.lie,Cr.mons_of hE hnE hE40 (fun p hp=>⟨(hl.mons h1 p hp).1,(hl.mons h1 p hp).2.1,(hl.mons h1 p hp).2.2.1⟩),Cr.goods_of hI hnI hI100,hnI,hg,fun z hz=>⟨Cr.mons_of (hz.owns hE) hnE hE40 (fun p hp=>⟨(hl.mons h1 p hp).1,(hl.mons h1 p hp).2.1,(hl.mons h1 p hp).2.2.1⟩),Cr.goods_of (hz.owns hI) hnI hI100⟩⟩


open Go.RowKit

theorem Cr.stock_more (E:Nat→Nat→Int) {es:List (Int × Nat)} {i:Nat} {p:Int × Nat} (h:es[i]?=some p):Cr.stockE E (es.take (i+1))=if En.first (En.atQ (Cr.stockE E (es.take i)) ((p.2:Int) % 24) ((p.2:Int) / 24)) 32<0 then Cr.join (Cr.stockE E (es.take i)) (Cr.one p.1 0 p.2) else Cr.stockE E (es.take i):=by
 unfold Cr.stockE;rw [List.take_add_one,h,List.foldl_append];rfl

structure Cr.Stock (w x:World) (B gC gE gI cC cE cI:Nat) (lev:Nat→Value) (s g c:Nat→Int) (E I:Nat→Nat→Int):Prop where
 hand:Cr.Hand w x B gC gE gI cC cE cI s g c E I
 lev:Lie x (B+1) 85 3 lev
 res:Lie x (B+1+1) 30 11 (fun j=>#[.int .i64 0,.int .i64 0,.int .i64 0,.int .i64 0,.slice none 0 0,.slice none 0 0,.slice none 0 0,.int .i64 0,.int .i64 0,.int .i64 0,Value.int .i64 0][j]?.getD undef)

theorem Cr.Stock.on {w x y:World} {B gC gE gI cC cE cI:Nat} {lev:Nat→Value} {s g c:Nat→Int} {E I:Nat→Nat→Int} (h:Cr.Stock w x B gC gE gI cC cE cI lev s g c E I) (hg:x.grownBy y none):Cr.Stock w y B gC gE gI cC cE cI lev s g c E I :=
 ⟨h.hand.on hg,h.lev.on hg,h.res.on hg⟩

theorem Cr.Stock.folk {w x x':World} {B gC gE gI cC cE cI jE dE:Nat} {lev:Nat→Value} {s g c:Nat→Int} {E I F:Nat→Nat→Int} (h:Cr.Stock w x B gC gE gI cC cE cI lev s g c E I) (hcap:32≤dE) (hj:jE=gE∨x.heap.size≤jE) (hO:Own x' jE 32 F) (hg:x.grownBy x' none) :
  Cr.Stock w (x'.setCell ⟨B,5,none⟩ (.slice (some ⟨jE,0,none⟩) 32 dE)) B gC jE gI cC dE cI lev s g c F I :=
 ⟨h.hand.folk hcap hj hO hg,(h.lev.on hg).other (by omega) 5 _,(h.res.on hg).other (by omega) 5 _⟩

theorem Cr.Stock.goods {w x x':World} {B gC gE gI cC cE cI jI dI:Nat} {lev:Nat→Value} {s g c:Nat→Int} {E I J:Nat→Nat→Int} (h:Cr.Stock w x B gC gE gI cC cE cI lev s g c E I) (hj:x.heap.size≤jI) (hJ:Lie x' jI 72 160 (Gd.flat J)) (hg:x.grownBy x' none) :
  Cr.Stock w (x'.setCell ⟨B,6,none⟩ (.slice (some ⟨jI,0,none⟩) 40 dI)) B gC gE jI cC cE dI lev s g c E J :=
 ⟨h.hand.goods hj hJ hg,(h.lev.on hg).other (by omega) 6 _,(h.res.on hg).other (by omega) 6 _⟩

set_option maxRecDepth 8000 in
set_option maxHeartbeats 12800000 in
theorem refStock_any (s g c:Nat→Int) (E I I0:Nat→Nat→Int) (gC gE gI cC cE cI G nE nI kE kI:Nat) (aE aI:Option Addr) (es:List (Int × Nat)) (is:List Gn.Itm) (w:World) (hL:Gd.Lists w gC gE gI c E I) (hcE:32≤cE) (n1:gC≠gE) (n2:gC≠gI) (n3:gE≠gI) (hS:Cr.Sane c E I0) (hm:Cr.Mons w aE nE es) (hw:∀p,p∈es→2≤p.1∧p.1≤4∧p.2<384∧Gr.walkB (c p.2)=true) (hI:Gd.Some w aI nI (Cr.itemOf is)) (hnI:nI=is.length) :
  Calls Tryz.prog 36 #[.agg (Gd.world s gC gE gI cC cE cI g),.agg #[.slice (some ⟨G,0,none⟩) 384 384,.slice aE nE kE,.slice aI nI kI]] w (Cr.Back w gC gE gI s g c (Cr.stockE E es) (Cr.stockI I is)):=by
 obtain ⟨wz,hwz⟩:∃wz,wz=w.alloc (.cells (Gd.world s gC gE gI cC cE cI g) 30):=⟨_,rfl⟩;obtain ⟨wy,hwy⟩:∃wy,wy=wz.alloc (.cells #[.slice (some ⟨G,0,none⟩) 384 384,.slice aE nE kE,.slice aI nI kI] 85):=⟨_,rfl⟩;obtain ⟨w0,hw0⟩:∃w0,w0=wy.alloc (.cells #[.int .i64 0,.int .i64 0,.int .i64 0,.int .i64 0,.slice none 0 0,.slice none 0 0,.slice none 0 0,.int .i64 0,.int .i64 0,.int .i64 0,.int .i64 0] 30):=⟨_,rfl⟩;have hgz:w.grownBy wz none:=by rw [hwz];exact World.grownBy_alloc _ _ _
 have hgy:wz.grownBy wy none:=by rw [hwy];exact World.grownBy_alloc _ _ _
 have hg0:wy.grownBy w0 none:=by rw [hw0];exact World.grownBy_alloc _ _ _
 have hg1:=gtr hgz (gtr hgy hg0);have sz:wz.heap.size=w.heap.size+1:=by rw [hwz];simp
 have sy:wy.heap.size=w.heap.size+1+1:=by rw [hwy,hwz];simp
 obtain ⟨B,hB⟩:∃B,w.heap.size=B:=⟨_,rfl⟩;rw [hB] at sz sy;have lC:gC<B:=by rw [←hB];exact hL.cells.lt
 have lE:gE<B:=by rw [←hB];exact hL.ents.lt
 have lI:gI<B:=by rw [←hB];exact hL.items.lt
 have hbox:Lie w0 B 30 11 (Gd.box s gC gE gI cC cE cI g):=by
  refine Lie.on ?_ (gtr hgy hg0);rw [hwz,←hB];exact (Arr.world (heap_alloc_new w _)).lie
 have hlev:Lie w0 (B+1) 85 3 (fun j=>#[.slice (some ⟨G,0,none⟩) 384 384,.slice aE nE kE,.slice aI nI kI][j]?.getD undef):=by
  refine Lie.on ?_ hg0;rw [hwy,←sz];exact (Arr.lit (heap_alloc_new wz _)).lie
 have hres:Lie w0 (B+1+1) 30 11 (fun j=>#[.int .i64 0,.int .i64 0,.int .i64 0,.int .i64 0,.slice none 0 0,.slice none 0 0,.slice none 0 0,.int .i64 0,.int .i64 0,.int .i64 0,Value.int .i64 0][j]?.getD undef):=by
  rw [hw0,←sy];exact (Arr.lit (heap_alloc_new wy _)).lie
 have hH:Hid (Cr.Stock w w0 B gC gE gI cC cE cI (fun j=>#[.slice (some ⟨G,0,none⟩) 384 384,.slice aE nE kE,.slice aI nI kI][j]?.getD undef) s g c (Cr.stockE E (es.take 0)) I):=⟨⟨⟨hbox,hL.on hg1,by omega,by omega,by omega,n1,n2,n3⟩,by omega,hcE,hg1⟩,hlev,hres⟩;have hsn:Hid (∀i,Cr.Sane c (Cr.stockE E (es.take i)) I0):=fun i=>hS.stockE _ (fun p hp=>hw p (List.mem_of_mem_take hp));have hm':=hide hm;have hI':=hide hI;have hn':=hide hm.1;have hn40:=hm.2.1;have hnI':=hide hnI;have hB':=hide hB;have hlt3:=hide (And.intro lC (And.intro lE lI));clear hL hcE n1 n2 n3 hS hm hw hI hnI hgz hgy hg0 hg1 sz sy lC lE lI hbox hlev hres;unfold Gd.world at hwz ⊢;rw [hwz] at hwy;rw [hwy] at hw0;clear hwz hwy;go_enter Tryz.func36,Tryz.ntmps36;go_upto_region 1 with fail;rw [←hw0];clear hw0 hB;go_wp2_with fail
 go_loopw [5] (fun v5 wr=>∃(i jE dE:Nat),i≤nE∧v5=.int .i64 (i:Int)∧Hid (jE=gE∨w.heap.size≤jE)∧Hid (Cr.Stock w wr B gC jE gI cC dE cI (fun j=>#[.slice (some ⟨G,0,none⟩) 384 384,.slice aE nE kE,.slice aI nI kI][j]?.getD undef) s g c (Cr.stockE E (es.take i)) I)) (fun v5 _=>50 - (intOf v5).toNat)
 case atStart=>exact ⟨0,gE,cE,by omega,rfl,.inl rfl,hH⟩
 case round =>
  clear hH;obtain ⟨i,jE,dE,hi,rfl,hjE,hH⟩:=hrel;have l1:wr.cell? ⟨B+1,1,none⟩=some (.slice aE nE kE):=(uh hH).lev.cell (c:=1) (by omega);by_cases hlt:i<nE
  ·have hlt':(i:Int)<(nE:Int):=by omega
   have HL:=hide hlt;obtain ⟨p,hp⟩:∃p,es[i]?=some p:=⟨es[i]'(by have:=uh hn';omega),List.getElem?_eq_getElem _⟩;obtain ⟨hk,b,rfl,hb,hcl⟩:=(uh hm').2.2 i p hp;have hmore:=hide (Cr.stock_more E hp);have hsi:=hide (uh hsn i);have HK:=hide hk;have hrow:Hid (∀z,wr.grownBy z none→∀j,j<11→z.cell? ⟨b,i*11+j,none⟩=some (.int .i64 (Cr.one p.1 0 p.2 j))):=fun z hz j hj=>(gce (gtr (uh hH).hand.grown hz) b _ hb (by simp)).trans (hcl j hj);have hone:=hide (Cr.one_at p.1 0 p.2);have hbw:Hid (b<wr.heap.size):=Nat.lt_of_lt_of_le hb (uh hH).hand.grown.size;obtain ⟨Ei,hEi⟩:∃Ei,Cr.stockE E (es.take i)=Ei:=⟨_,rfl⟩;rw [hEi] at hH hmore hsi;clear hlt hi hk hb hcl hp hEi;have hkeep:Hid (∀z,wr.grownBy z none→(z.cell? ⟨B,5,none⟩=some (.slice (some ⟨jE,0,none⟩) 32 dE)∧z.cell? ⟨B+1,1,none⟩=some (.slice (some ⟨b,0,none⟩) nE kE)∧z.cell? ⟨b,i*11+3,none⟩=some (.int .i64 ((p.2:Int) % 24))∧z.cell? ⟨b,i*11+4,none⟩=some (.int .i64 ((p.2:Int) / 24)))):=fun z hz=>by
    have hH2:=(uh hH).on hz;have h3:=uh hrow z hz 3 (by omega);have h4:=uh hrow z hz 4 (by omega);rw [(uh hone).2.2.1] at h3;rw [(uh hone).2.2.2.1] at h4;exact ⟨hH2.hand.hold.box.eleven.2.2.2.2.2.1,hH2.lev.cell (c:=1) (by omega),h3,h4⟩
   have hS0:=uh hkeep wr (World.grownBy.refl _ none);have hdr:=hide (gd1 (World.grownBy.refl wr none));have ca:=hide (fun z (hz:wr.grownBy z none)=>entRefAt_same jE 32 dE Ei ((p.2:Int) % 24) ((p.2:Int) / 24) z ((uh hH).hand.hold.lists.on hz).own.ents);obtain ⟨z0,hz0⟩:∃z,En.first (En.atQ Ei ((p.2:Int) % 24) ((p.2:Int) / 24)) 32=z:=⟨_,rfl⟩;rw [hz0] at ca hmore;clear hz0 l1;go_upto_region 4 with fail
   go_region_held3 (fun z=>z.cell? ⟨B,5,none⟩=some (.slice (some ⟨jE,0,none⟩) 32 dE)∧z.cell? ⟨B+1,1,none⟩=some (.slice (some ⟨b,0,none⟩) nE kE)∧z.cell? ⟨b,i*11+3,none⟩=some (.int .i64 ((p.2:Int) % 24))∧z.cell? ⟨b,i*11+4,none⟩=some (.int .i64 ((p.2:Int) / 24))) (go_keep) (first
    | (go_at_call 50;refine (uh ca _ (uh hdr)).mono ?_;rintro e wq ⟨rfl,hy⟩;subst wq))
   have hH1:=hide ((uh hH).on (uh hdr));clear hS0 hkeep ca hH;by_cases hneg:z0<0
   ·have hnx:Hid (Cr.stockE E (es.take (i+1))=Cr.join Ei (Cr.one p.1 0 p.2)):=(uh hmore).trans (if_pos hneg);have hrow2:Hid (∀j,j<11→wr.drew.cell? ⟨b,i*11+j,none⟩=some (.int .i64 (Cr.one p.1 0 p.2 j))):=fun j hj=>uh hrow _ (uh hdr) j hj;have hk1:Hid (1≤Cr.one p.1 0 p.2 0∧Cr.one p.1 0 p.2 0≤4):=(show 1≤Cr.one p.1 0 p.2 0∧Cr.one p.1 0 p.2 0≤4 by have h:=uh HK;rw [(uh hone).1 (by omega) (by omega)];omega);obtain ⟨e1,he1⟩:∃e1,Cr.one p.1 0 p.2=e1:=⟨_,rfl⟩;rw [he1] at hnx hrow2 hk1;have hbl:Hid (b<wr.drew.heap.size):=Nat.lt_of_lt_of_le (uh hbw) (uh hdr).size;generalize wr.drew=wd at hH1 hrow2 hbl ⊢;have csp:Hid (∀z,wd.grownBy z none→Calls Tryz.prog 42 #[.slice (some ⟨jE,0,none⟩) 32 dE,.agg #[.int .i64 (e1 0),.int .i64 (e1 1),.int .i64 (e1 2),.int .i64 (e1 3),.int .i64 (e1 4),.int .i64 (e1 5),.int .i64 (e1 6),.int .i64 (e1 7),.int .i64 (e1 8),.int .i64 (e1 9),.int .i64 (e1 10)]] z (Cr.ListOf z jE (Cr.join Ei e1))):=fun z hz=>refSpawned_any jE dE Ei e1 z (((uh hH1).hand.hold.lists.on hz).own) (uh hH1).hand.cap (uh hsi).good.gens (uh hk1);clear hmore hrow hone he1 hdr hk1;go_upto_region 5 with fail;have hrw:Hid (∀x,wd.grownBy x none→∀j,j<11→x.cell? ⟨b,i*11+j,none⟩=some (.int .i64 (e1 j))):=fun x hx j hj=>(gce hx b _ (uh hbl) (by simp)).trans (uh hrow2 j hj);have hkeep:Hid (∀x,wd.grownBy x none→(x.cell? ⟨B,5,none⟩=some (.slice (some ⟨jE,0,none⟩) 32 dE)∧x.cell? ⟨B+1,1,none⟩=some (.slice (some ⟨b,0,none⟩) nE kE)∧x.cell? ⟨b,i*11,none⟩=some (.int .i64 (e1 0))∧x.cell? ⟨b,i*11+1,none⟩=some (.int .i64 (e1 1))∧x.cell? ⟨b,i*11+2,none⟩=some (.int .i64 (e1 2))∧x.cell? ⟨b,i*11+3,none⟩=some (.int .i64 (e1 3))∧x.cell? ⟨b,i*11+4,none⟩=some (.int .i64 (e1 4))∧x.cell? ⟨b,i*11+5,none⟩=some (.int .i64 (e1 5))∧x.cell? ⟨b,i*11+6,none⟩=some (.int .i64 (e1 6))∧x.cell? ⟨b,i*11+7,none⟩=some (.int .i64 (e1 7))∧x.cell? ⟨b,i*11+8,none⟩=some (.int .i64 (e1 8))∧x.cell? ⟨b,i*11+9,none⟩=some (.int .i64 (e1 9))∧x.cell? ⟨b,i*11+10,none⟩=some (.int .i64 (e1 10)))):=fun x hx=>⟨((uh hH1).on hx).hand.hold.box.eleven.2.2.2.2.2.1,((uh hH1).on hx).lev.cell (c:=1) (by omega),uh hrw x hx 0 (by omega),uh hrw x hx 1 (by omega),uh hrw x hx 2 (by omega),uh hrw x hx 3 (by omega),uh hrw x hx 4 (by omega),uh hrw x hx 5 (by omega),uh hrw x hx 6 (by omega),uh hrw x hx 7 (by omega),uh hrw x hx 8 (by omega),uh hrw x hx 9 (by omega),uh hrw x hx 10 (by omega)⟩;have hdr:=hide (gd1 (World.grownBy.refl wd none));refine wp_region_till (h:=9) (S:=fun x=>x.cell? ⟨B,5,none⟩=some (.slice (some ⟨jE,0,none⟩) 32 dE)∧x.cell? ⟨B+1,1,none⟩=some (.slice (some ⟨b,0,none⟩) nE kE)∧x.cell? ⟨b,i*11,none⟩=some (.int .i64 (e1 0))∧x.cell? ⟨b,i*11+1,none⟩=some (.int .i64 (e1 1))∧x.cell? ⟨b,i*11+2,none⟩=some (.int .i64 (e1 2))∧x.cell? ⟨b,i*11+3,none⟩=some (.int .i64 (e1 3))∧x.cell? ⟨b,i*11+4,none⟩=some (.int .i64 (e1 4))∧x.cell? ⟨b,i*11+5,none⟩=some (.int .i64 (e1 5))∧x.cell? ⟨b,i*11+6,none⟩=some (.int .i64 (e1 6))∧x.cell? ⟨b,i*11+7,none⟩=some (.int .i64 (e1 7))∧x.cell? ⟨b,i*11+8,none⟩=some (.int .i64 (e1 8))∧x.cell? ⟨b,i*11+9,none⟩=some (.int .i64 (e1 9))∧x.cell? ⟨b,i*11+10,none⟩=some (.int .i64 (e1 10))) (by kernel_rfl) ?_;have hS0:=uh hkeep _ (uh hdr);refine wtj 0 (v:=?_) [1,7,9] rfl (by kernel_rfl) (fun _ _ _ h=>h) hS0 ⟨by rfl,?_⟩ ?_;rotate_left
    ·intro x hSx;try dsimp only at hSx
     go_simp;try with_reducible rfl
    simp only [Act.put];refine wtj 1 (v:=?_) [7,9] rfl (by kernel_rfl) (fun _ _ _ h=>h) hS0 ⟨by rfl,?_⟩ ?_;rotate_left
    ·intro x hSx;try dsimp only at hSx
     go_simp;try with_reducible rfl
    simp only [Act.put];refine wtj 2 (v:=?_) [3,5,6,7,9] rfl (by kernel_rfl) (fun _ _ _ h=>h) hS0 ⟨by rfl,?_⟩ ?_;rotate_left
    ·intro x hSx;try dsimp only at hSx
     go_simp;try with_reducible rfl
    simp only [Act.put];refine wtj 3 (v:=?_) [5,6,7,9] rfl (by kernel_rfl) (fun _ _ _ h=>h) hS0 ⟨by rfl,?_⟩ ?_;rotate_left
    ·intro x hSx;try dsimp only at hSx
     go_simp;try with_reducible rfl
    simp only [Act.put];refine wtj 4 (v:=?_) [5,6,7,9] rfl (by kernel_rfl) (fun _ _ _ h=>h) hS0 ⟨by rfl,?_⟩ ?_;rotate_left
    ·intro x hSx;try dsimp only at hSx
     go_simp;try with_reducible rfl
    simp only [Act.put];refine wtj 5 (v:=?_) [6,7,9] rfl (by kernel_rfl) (fun _ _ _ h=>h) hS0 ⟨by rfl,?_⟩ ?_;rotate_left
    ·intro x hSx;try dsimp only at hSx
     go_simp;try with_reducible rfl
    simp only [Act.put];refine wtj 6 (v:=?_) [7,9] rfl (by kernel_rfl) (fun _ _ _ h=>h) hS0 ⟨by rfl,?_⟩ ?_;rotate_left
    ·intro x hSx;try dsimp only at hSx
     go_simp;try with_reducible rfl
    simp only [Act.put];refine wto (j:=7) (by kernel_rfl) rfl (fun K hK=>?_);go_simp;refine (uh csp _ (uh hdr)).mono ?_;rintro e w2 ⟨j2,d2,rfl,hc2,hj2,hown2,hg2⟩;have hg3:=hide (gtr (uh hdr) hg2);have hst:=hide ((uh hH1).folk hc2 (hj2.imp id (fun h=>Nat.le_trans (uh hdr).size h)) hown2 (uh hg3));have hj3:Hid (j2=gE∨w.heap.size≤j2):=hj2.elim (fun h=>by rw [h];exact uh hjE) (fun h=>.inr (Nat.le_trans (Nat.le_trans (uh hH1).hand.grown.size (uh hdr).size) h));have x5:=((uh hH1).on (uh hg3)).hand.hold.box.eleven.2.2.2.2.2.1;have f5:=((uh hH1).on (uh hg3)).hand.hold.box.free;have hS1:=uh hkeep _ (uh hg3);clear hg2 hown2 hj2 hc2 hS0;try go_simp
    refine hK.out _ _ (fun _=>uh hkeep _ (uh hg3)) ?_;clear hK K;refine wtj 8 (v:=?_) [9] rfl (by kernel_rfl) (fun _ _ _ h=>h) hS1 ⟨by rfl,?_⟩ ?_;rotate_left
    ·intro x hSx;try dsimp only at hSx
     go_simp;try with_reducible rfl
    simp only [Act.put];refine wto (j:=9) (by kernel_rfl) rfl (fun K hK=>?_);go_simp;refine hK.out _ _ (fun hx=>absurd (hx.symm.trans (by kernel_rfl)) Bool.false_ne_true) ?_;clear hK K;refine wpTill_done (by kernel_rfl) ?_ _;rw [←uh hnx] at hst;clear csp hrow2 hg3 hS1 hkeep hrw x5 f5;go_wp2;go_roundw;case rel=>exact ⟨i+1,j2,d2,by have:=uh HL;omega,by go_num,hj3,hst⟩
    case measure=>simp [intOf];have:=uh HL;omega
   ·have hnx:Hid (Cr.stockE E (es.take (i+1))=Ei):=(uh hmore).trans (if_neg hneg);rw [←uh hnx] at hH1;clear hnx hmore hrow hone;go_wp2;go_roundw;case rel=>exact ⟨i+1,jE,dE,by have:=uh HL;omega,by go_num,hjE,hH1⟩
    case measure=>simp [intOf];have:=uh HL;omega
  ·obtain rfl:i=nE:=by omega
   have hge:¬(i:Int)<(i:Int):=by omega
   have hall:es.take i=es:=by rw [uh hn'];exact List.take_length
   rw [hall] at hH;have b6:=(uh hH).hand.hold.box.eleven.2.2.2.2.2.2.1;have l2:wr.cell? ⟨B+1,2,none⟩=some (.slice aI nI kI):=(uh hH).lev.cell (c:=2) (by omega);have cl:=hide (refLay_any gI cI nI kI aI I (Cr.itemOf is) wr (uh hH).hand.hold.lists.items ((uh hI').on (uh hH).hand.grown));have hsi:Hid (Gd.lay I (Cr.itemOf is) nI=Cr.stockI I is):=(show Gd.lay I (Cr.itemOf is) nI=Cr.stockI I is by rw [uh hnI'];rfl);rw [uh hsi] at cl;clear hlt hi hall hsi;go_wp2_with fail;refine (uh cl).mono ?_;rintro e w2 ⟨jI,dI,rfl,hj,hlie,hg⟩;have hX:=hide ((uh hH).goods (dI:=dI) hj hlie hg);have hjI:Hid (jI=gI∨w.heap.size≤jI):=.inr (Nat.le_trans (uh hH).hand.grown.size hj);have x6:=((uh hH).on hg).hand.hold.box.eleven.2.2.2.2.2.2.1;have f6:=((uh hH).on hg).hand.hold.box.free;clear hj hlie hg b6 l1 l2 cl hH;go_upto_region 7 with fail;generalize w2.setCell ⟨B,6,none⟩ (.slice (some ⟨jI,0,none⟩) 40 dI)=w3 at hX ⊢;clear x6 f6;obtain ⟨b0,b1,b2,b3,b4,b5,b6,b7,b8,b9,b10⟩:=(uh hX).hand.hold.box.eleven;have fz:=(uh hX).res.free;obtain ⟨z0,z1,z2,z3,z4,z5,z6,z7,z8,z9,z10⟩:=Gd.res_cells (uh hX).res;have hR:Hid (w.heap.size≤B+1+1∧B+1+1≠gC∧B+1+1≠jE∧B+1+1≠jI):=by
    have h1:=(uh hX).res.type_ne (uh hX).hand.hold.lists.cells (by decide);have h2:=(uh hX).res.type_ne (uh hX).hand.hold.lists.ents (by decide);have h3:=(uh hX).res.type_ne (uh hX).hand.hold.lists.items (by decide);exact ⟨by rw [uh hB'];omega,h1,h2,h3⟩
   have hfo:=hide (fun vs=>(uh hX).hand.back (oC:=gC) (oE:=gE) (oI:=gI) (uh hR).1 (uh hR).2.1 (uh hR).2.2.1 (uh hR).2.2.2 (.inl rfl) (uh hjE) (uh hjI) vs);go_wp2;refine bodyPost_ret (v:=.agg (Gd.world s gC jE jI cC dE dI g)) (by simp [results,Tryz.results36,go_sem,Gd.world,z0,z1,z2,z3,z4,z5,z6,z7,z8,z9,z10]) rfl ?_;exact uh hfo [_,_,_,_,_,_,_,_,_,_,_]


open Go.RowKit

theorem Cr.at0 {o p q:Obj} {T:TypeId} {m:Nat} {F:Nat→Value} (h:∀w:World,Lie (w.alloc o) w.heap.size T m F) (y:World):Lie (((y.alloc o).alloc p).alloc q) y.heap.size T m F :=
 ((h y).on (World.grownBy_alloc _ _ _)).on (World.grownBy_alloc _ _ _)

theorem Cr.at1 {o p q:Obj} {T:TypeId} {m:Nat} {F:Nat→Value} (h:∀w:World,Lie (w.alloc o) w.heap.size T m F) (y:World):Lie (((y.alloc p).alloc o).alloc q) (y.heap.size+1) T m F:=by
 have:=(h (y.alloc p)).on (World.grownBy_alloc _ q none)
 rwa [show (y.alloc p).heap.size=y.heap.size+1 by simp] at this

theorem Cr.at2 {o p q:Obj} {T:TypeId} {m:Nat} {F:Nat→Value} (h:∀w:World,Lie (w.alloc o) w.heap.size T m F) (y:World):Lie (((y.alloc p).alloc q).alloc o) (y.heap.size+1+1) T m F:=by
 have:=h ((y.alloc p).alloc q)
 rwa [show ((y.alloc p).alloc q).heap.size=y.heap.size+1+1 by simp] at this

theorem Cr.grown3 (y:World) (o p q:Obj):y.grownBy (((y.alloc o).alloc p).alloc q) none :=
 gtr (World.grownBy_alloc _ _ _) (gtr (World.grownBy_alloc _ _ _) (World.grownBy_alloc _ _ _))

structure Cr.Begun (w x:World) (B G gE gI:Nat) (seed:Int) (c:Nat→Int):Prop where
 hold:Gd.Hold x B G gE gI 384 32 40 (Cr.first seed) (fun _=>0) c (fun _ _=>0) (fun _ _=>0)
 lC:w.heap.size≤G
 lE:w.heap.size≤gE
 lI:w.heap.size≤gI

theorem Cr.begun {w y z:World} {B G gE gI:Nat} {seed:Int} {c:Nat→Int} (hy:w.grownBy y none) (hyz:y.grownBy z none) (lG:w.heap.size≤G) (hA:Lie y G 5 384 (Byts c)) (hE:Lie z gE 70 352 (En.flat fun _ _=>0)) (hI:Lie z gI 72 160 (Gd.flat fun _ _=>0)) (hB:Lie z B 30 11 (Gd.box (Cr.first seed) G gE gI 384 32 40 (fun _=>0))) (lE:y.heap.size≤gE) (lI:y.heap.size≤gI) :
  Cr.Begun w z.drew B G gE gI seed c∧y.grownBy z.drew none:=by
 have hA':=hA.on hyz;have n1:=hB.type_ne hA' (by decide);have n2:=hB.type_ne hE (by decide);have n3:=hB.type_ne hI (by decide);have n4:=hA'.type_ne hE (by decide);have n5:=hA'.type_ne hI (by decide);have n6:=hE.type_ne hI (by decide);have hs:=hy.size;have hd:=gd1 (World.grownBy.refl z none);exact ⟨⟨⟨hB.on hd,⟨hA'.on hd,hE.on hd,hI.on hd⟩,n1,n2,n3,n4,n5,n6⟩,lG,by omega,by omega⟩,gtr hyz hd⟩

theorem Cr.sane_none {seed:Int} {c:Nat→Int} {es:List (Int × Nat)} {is:List Gn.Itm} (hl:Cr.Lev seed 1 c es is):Cr.Sane c (fun _ _=>0) (Cr.stockI (fun _ _=>0) is):=by
 have hc8:∀i,0≤c i∧c i≤255:=fun i=>⟨(hl.floor.five i).1,by have:=(hl.floor.five i).2;omega⟩;have hI:=hl.lay (Md.ok_none c) (fun k _=>⟨by show ¬(0:Int)=1;omega,by show ¬(0:Int)=4;omega⟩);refine ⟨⟨hc8,hI,fun k _=>⟨by show (0:Int)≤0;omega,by show (0:Int)≤255;omega,.inl fun _ _ _=>rfl⟩⟩,⟨fun k _ k0=>absurd rfl k0,⟨fun k _ k0=>absurd rfl k0,fun j k _ _ j0=>absurd rfl j0⟩⟩,⟨fun k _ k1=>?_,fun j k _ _ j1=>?_,fun k _ k0=>absurd rfl k0⟩⟩
 ·exact absurd k1 (by show ¬(0:Int)=1;omega)
 ·exact absurd j1 (by show ¬(0:Int)=1;omega)

def Cr.Fresh (w:World) (seed:Int) (e:Ending) (w':World):Prop:=∃T:Cr.W,Cr.IsNew seed T∧Gd.Worlds w T.s T.g T.c T.E T.I e w'

set_option maxRecDepth 8000 in
set_option maxHeartbeats 6400000 in
theorem refNew_any (seed:Int) (w:World):Calls Tryz.prog 22 #[.int .i64 seed] w (Cr.Fresh w seed):=by
 obtain ⟨w0,hw0⟩:∃w0,w0=w.alloc (.cells #[.int .i64 0,.int .i64 0,.int .i64 0,.int .i64 0,.slice none 0 0,.slice none 0 0,.slice none 0 0,.int .i64 0,.int .i64 0,.int .i64 0,.int .i64 0] 30):=⟨_,rfl⟩;have hg0:Hid (w.grownBy w0 none):=by rw [hw0];exact World.grownBy_alloc _ _ _
 obtain ⟨B,hB⟩:∃B,w.heap.size=B:=⟨_,rfl⟩;have hres:Hid (Lie w0 B 30 11 (fun j=>#[.int .i64 0,.int .i64 0,.int .i64 0,.int .i64 0,.slice none 0 0,.slice none 0 0,.slice none 0 0,.int .i64 0,.int .i64 0,.int .i64 0,Value.int .i64 0][j]?.getD undef)):=by
  rw [hw0,←hB];exact (Arr.lit (heap_alloc_new w _)).lie
 have hB':=hide hB;go_enter Tryz.func22,Tryz.ntmps22;go_upto_region 1 with fail;rw [←hw0];clear hw0 hB;have cm:=hide (refMake10_any seed 1 (by omega) (by omega) w0);go_wp2_with fail;refine (uh cm).mono ?_;rintro e w1 ⟨c,es,is,G,nE,nI,kE,kI,aE,aI,hlev,rfl,lG,hA,hM,hI,hnI,hg1,-⟩;obtain ⟨L,hL⟩:∃L,w1.heap.size=L:=⟨_,rfl⟩;have hga:w1.grownBy (w1.alloc (.cells #[.slice (some ⟨G,0,none⟩) 384 384,.slice aE nE kE,.slice aI nI kI] 85)) none:=World.grownBy_alloc _ _ _;have hlv:Hid (Lie (w1.alloc (.cells #[.slice (some ⟨G,0,none⟩) 384 384,.slice aE nE kE,.slice aI nI kI] 85)) L 85 3 (fun j=>#[.slice (some ⟨G,0,none⟩) 384 384,.slice aE nE kE,Value.slice aI nI kI][j]?.getD undef)):=by
  rw [←hL];exact (Arr.lit (heap_alloc_new w1 _)).lie
 have hgw:=hide (gtr (uh hg0) (gtr hg1 hga));have hrs:=hide ((uh hres).on (gtr hg1 hga));have hlev':=hide hlev;have lG':Hid (w.heap.size≤G):=Nat.le_trans (uh hg0).size lG;have hA':=hide (hA.on hga);have hM':=hide (hM.on hga);have hI':=hide (hI.on hga);have hnI':=hide hnI;have hLB:Hid (w.heap.size≤L):=(show w.heap.size≤L by rw [←hL];exact Nat.le_trans (uh hg0).size hg1.size);clear hlev lG hA hM hI hnI hg1 cm hga hres hg0;go_upto_region 2 with fail;generalize (w1.alloc (.cells #[.slice (some ⟨G,0,none⟩) 384 384,.slice aE nE kE,.slice aI nI kI] 85))=w2 at hlv hgw hrs hA' hM' hI' ⊢;clear hL;obtain ⟨ZE,hmE,hZE⟩:=make32;obtain ⟨ZI,hmI,hZI⟩:=make40;have hdr:=hide (gd1 (World.grownBy.refl w2 none));have hkeep:Hid (∀z,w2.grownBy z none→z.cell? ⟨L,0,none⟩=some (.slice (some ⟨G,0,none⟩) 384 384)):=fun z hz=>((uh hlv).on hz).cell (c:=0) (by omega);have hE3:=hide (fun w=>(hZE w).lie (m:=352) (by omega));have hI3:=hide hZI;have hW3:Hid (∀(a b:Nat) (x:World),Lie (x.alloc (.cells #[.int .i64 seed,.int .i64 0,.int .i64 1,.int .i64 0,.slice (some ⟨G,0,none⟩) 384 384,.slice (some ⟨a,0,none⟩) 32 32,.slice (some ⟨b,0,none⟩) 40 40,.int .i64 0,.int .i64 0,.int .i64 0,.int .i64 0] 30)) x.heap.size 30 11 (Gd.box (Cr.first seed) G a b 384 32 40 (fun _=>0))):=fun a b x=>(Arr.world (s:=Cr.first seed) (g:=fun _=>0) (heap_alloc_new x _)).lie;clear hZE hZI
 go_cut [4] from 7 (fun va wx=>∃(P gE gI:Nat),va=.pointer (some ⟨P,0,none⟩)∧Hid (Cr.Begun w wx P G gE gI seed c∧w2.grownBy wx none))
 case first =>
  have hS0:=uh hkeep _ (uh hdr)
  go_region_held3 (fun z=>z.cell? ⟨L,0,none⟩=some (.slice (some ⟨G,0,none⟩) 384 384)) (first | (refine uh hkeep _ ?_;repeat' (first | exact World.grownBy.refl _ _ | refine gd1 ?_ | refine gal ?_ _ | refine gsr ?_ _ (by simp;done) _ | refine gsr ?_ _ (by simp;omega) _))) (fail)
  all_goals (go_wp2_with fail;go_meet)
  ·exact ⟨_,_,_,rfl,Cr.begun (uh hgw) (Cr.grown3 _ _ _ _) (uh lG') (uh hA') (Cr.at0 (uh hE3) w2) (Cr.at1 (uh hI3) w2) (Cr.at2 (uh hW3 _ _) w2) (by omega) (by omega)⟩
  ·exact ⟨_,_,_,rfl,Cr.begun (uh hgw) (Cr.grown3 _ _ _ _) (uh lG') (uh hA') (Cr.at0 (uh hE3) w2) (Cr.at2 (uh hI3) w2) (Cr.at1 (uh hW3 _ _) w2) (by omega) (by omega)⟩
  ·exact ⟨_,_,_,rfl,Cr.begun (uh hgw) (Cr.grown3 _ _ _ _) (uh lG') (uh hA') (Cr.at1 (uh hE3) w2) (Cr.at0 (uh hI3) w2) (Cr.at2 (uh hW3 _ _) w2) (by omega) (by omega)⟩
  ·exact ⟨_,_,_,rfl,Cr.begun (uh hgw) (Cr.grown3 _ _ _ _) (uh lG') (uh hA') (Cr.at2 (uh hE3) w2) (Cr.at0 (uh hI3) w2) (Cr.at1 (uh hW3 _ _) w2) (by omega) (by omega)⟩
  ·exact ⟨_,_,_,rfl,Cr.begun (uh hgw) (Cr.grown3 _ _ _ _) (uh lG') (uh hA') (Cr.at1 (uh hE3) w2) (Cr.at2 (uh hI3) w2) (Cr.at0 (uh hW3 _ _) w2) (by omega) (by omega)⟩
  ·exact ⟨_,_,_,rfl,Cr.begun (uh hgw) (Cr.grown3 _ _ _ _) (uh lG') (uh hA') (Cr.at2 (uh hE3) w2) (Cr.at1 (uh hI3) w2) (Cr.at0 (uh hW3 _ _) w2) (by omega) (by omega)⟩
 case rest =>
  clear hmE hmI hE3 hI3 hW3 hkeep hdr;obtain ⟨P,gE,gI,rfl,hX⟩:=hcut;obtain ⟨b0,b1,b2,b3,b4,b5,b6,b7,b8,b9,b10⟩:=(uh hX).1.hold.box.eleven;have lv:=hide ((uh hlv).on (uh hX).2);have l0:wc.cell? ⟨L,0,none⟩=some (.slice (some ⟨G,0,none⟩) 384 384):=(uh lv).cell (c:=0) (by omega);have l1:wc.cell? ⟨L,1,none⟩=some (.slice aE nE kE):=(uh lv).cell (c:=1) (by omega);have l2:wc.cell? ⟨L,2,none⟩=some (.slice aI nI kI):=(uh lv).cell (c:=2) (by omega);have cs:=hide (refStock_any (Cr.first seed) (fun _=>0) c (fun _ _=>0) (fun _ _=>0) (Cr.stockI (fun _ _=>0) is) G gE gI 384 32 40 G nE nI kE kI aE aI es is wc (uh hX).1.hold.lists (by omega) (uh hX).1.hold.cE (uh hX).1.hold.cI (uh hX).1.hold.eI (Cr.sane_none (uh hlev')) ((uh hM').on (uh hX).2) ((uh hlev').mons (by omega)) ((uh hI').on (uh hX).2) (uh hnI'));have hrs':=hide ((uh hrs).on (uh hX).2);unfold Gd.world at cs;clear hlv hrs hA' hM' hI' lv;go_wp2_with fail;refine (uh cs).mono ?_;rintro e w3 ⟨jC,jE,jI,dC,dE,dI,rfl,hcap,m1,m2,m3,n1,n2,n3,hL,hg⟩;have hr3:=hide ((uh hrs').on hg);have fz:=(uh hr3).free;obtain ⟨z0,z1,z2,z3,z4,z5,z6,z7,z8,z9,z10⟩:=Gd.res_cells (uh hr3);have hfo:Hid (∀vs,Cr.Fresh w seed (.returned (.agg (Gd.world (Cr.first seed) jC jE jI dC dE dI (fun _=>0)))) (w3.setCells B 0 vs)):=fun vs=>by
   have k0:=(uh hgw).size;have k1:=(uh hX).2.size;have k2:=(uh hX).1.lC;have k3:=(uh hX).1.lE;have k4:=(uh hX).1.lI;have q1:=(uh hr3).type_ne hL.cells (by decide);have q2:=(uh hr3).type_ne hL.ents (by decide);have q3:=(uh hr3).type_ne hL.items (by decide);have r:=gss (g:=B) vs 0 w3 (World.grownBy.refl _ _);refine ⟨_,⟨c,es,is,uh hlev',rfl⟩,jC,jE,jI,dC,dE,dI,rfl,hcap,by omega,by omega,by omega,n1,n2,n3,⟨hL.cells.grown r (by simpa using q1),hL.ents.grown r (by simpa using q2),hL.items.grown r (by simpa using q3)⟩,?_⟩;exact own_sets (by rw [uh hB'];omega) _ 0 w3 (gtr (uh hgw) (gtr (uh hX).2 hg))
  clear hcap m1 m2 m3 n1 n2 n3 hL hg cs b0 b1 b2 b3 b4 b5 b6 b7 b8 b9 b10 l0 l1 l2 hX hrs';unfold Gd.world;go_wp2;refine bodyPost_ret (v:=.agg (Gd.world (Cr.first seed) jC jE jI dC dE dI (fun _=>0))) (by simp [results,Tryz.results22,go_sem,Gd.world,z0,z1,z2,z3,z4,z5,z6,z7,z8,z9,z10]) rfl ?_;exact uh hfo [_,_,_,_,_,_,_,_,_,_,_]


open Go.RowKit

structure Cr.Sink (lo:Nat) (u v x:World) (B L gC gE gI gO cC cE cI:Nat) (lev:Nat→Value) (s g c:Nat→Int) (E I old:Nat→Nat→Int):Prop where
 hand:Cr.Hand v x B gC gE gI cC cE cI s g c E I
 lev:Lie x L 85 3 lev
 res:Lie x (B+1) 30 11 (fun j=>#[.int .i64 0,.int .i64 0,.int .i64 0,.int .i64 0,.slice none 0 0,.slice none 0 0,.slice none 0 0,.int .i64 0,.int .i64 0,.int .i64 0,Value.int .i64 0][j]?.getD undef)
 old:Lie x gO 70 352 (En.flat old)
 same:Cr.Same lo u x
 bLo:B<lo
 iLo:gI<lo

theorem Cr.Sink.on {lo:Nat} {u:World} {v x y:World} {B L gC gE gI gO cC cE cI:Nat} {lev:Nat→Value} {s g c:Nat→Int} {E I old:Nat→Nat→Int} (h:Cr.Sink lo u v x B L gC gE gI gO cC cE cI lev s g c E I old) (hg:x.grownBy y none):Cr.Sink lo u v y B L gC gE gI gO cC cE cI lev s g c E I old :=
 ⟨h.hand.on hg,h.lev.on hg,h.res.on hg,h.old.on hg,h.same.on hg,h.bLo,h.iLo⟩

theorem Cr.Sink.folk {lo:Nat} {u:World} {v x x':World} {B L gC gE gI gO cC cE cI jE dE:Nat} {lev:Nat→Value} {s g c:Nat→Int} {E I F old:Nat→Nat→Int} (h:Cr.Sink lo u v x B L gC gE gI gO cC cE cI lev s g c E I old) (hcap:32≤dE) (hj:jE=gE∨x.heap.size≤jE) (hO:Own x' jE 32 F) (hg:x.grownBy x' none) :
  Cr.Sink lo u v (x'.setCell ⟨B,5,none⟩ (.slice (some ⟨jE,0,none⟩) 32 dE)) B L gC jE gI gO cC dE cI lev s g c F I old :=
 ⟨h.hand.folk hcap hj hO hg,(h.lev.on hg).other (h.hand.hold.box.type_ne h.lev (by decide)) 5 _,(h.res.on hg).other (by omega) 5 _,(h.old.on hg).other (h.hand.hold.box.type_ne h.old (by decide)) 5 _,(h.same.on hg).set (.inl h.bLo) 5 _,h.bLo,h.iLo⟩

theorem Cr.Sink.item {lo:Nat} {u:World} {v x:World} {B L gC gE gI gO cC cE cI:Nat} {lev:Nat→Value} {s g c:Nat→Int} {E I old:Nat→Nat→Int} (h:Cr.Sink lo u v x B L gC gE gI gO cC cE cI lev s g c E I old) (hv:v.heap.size≤gI) (k:Nat) (r:Nat→Int) :
  Cr.Sink lo u v (x.setCells gI (k*4) (Gd.cells r).toList) B L gC gE gI gO cC cE cI lev s g c E (En.put I k r) old:=by
 have hh:=h.hand.hold;have hi:=hh.lists.items;exact ⟨⟨⟨hh.box.others hh.bI.symm _ _,⟨hh.lists.cells.others hh.cI.symm _ _,hh.lists.ents.others hh.eI.symm _ _,hi.item k r⟩,hh.bC,hh.bE,hh.bI,hh.cE,hh.cI,hh.eI⟩,h.hand.lB,h.hand.cap,own_sets hv _ _ x h.hand.grown⟩,h.lev.others (hi.type_ne h.lev (by decide)) _ _,h.res.others (hi.type_ne h.res (by decide)) _ _,h.old.others (hi.type_ne h.old (by decide)) _ _,h.same.sets (.inl h.iLo) _ _,h.bLo,h.iLo⟩

theorem Cr.Sink.ent {lo:Nat} {u:World} {v x:World} {B L gC gE gI gO cC cE cI:Nat} {lev:Nat→Value} {s g c:Nat→Int} {E I old:Nat→Nat→Int} (h:Cr.Sink lo u v x B L gC gE gI gO cC cE cI lev s g c E I old) (hv:v.heap.size≤gE) (hO:gE≠gO) (hu:u.heap.size≤gE) (k:Nat) (r:Nat→Int) :
  Cr.Sink lo u v (x.setCells gE (k*11) (En.cells r).toList) B L gC gE gI gO cC cE cI lev s g c (En.put E k r) I old:=by
 have hh:=h.hand.hold;have hi:=hh.lists.ents;exact ⟨⟨⟨hh.box.others hh.bE.symm _ _,⟨hh.lists.cells.others hh.cE.symm _ _,(hh.lists.own.store k r).lie (by omega),hh.lists.items.others hh.eI _ _⟩,hh.bC,hh.bE,hh.bI,hh.cE,hh.cI,hh.eI⟩,h.hand.lB,h.hand.cap,own_sets hv _ _ x h.hand.grown⟩,h.lev.others (hi.type_ne h.lev (by decide)) _ _,h.res.others (hi.type_ne h.res (by decide)) _ _,h.old.others hO _ _,h.same.sets (.inr hu) _ _,h.bLo,h.iLo⟩

theorem Cr.HeroSays.whole {w w':World} {c:Nat→Int} {E:Nat→Nat→Int} {e:Nat→Int} {x:Ending} (h:Cr.HeroSays w c E e x w'):∃(f:Nat→Int) (ok:Bool),x=.returned (.tuple #[.agg (En.cells f),.bool ok])∧(∃v,Nv.IsSpot c E 32 (Gr.find 384 c 3 % 24) (Gr.find 384 c 3 / 24) v∧f=if v<0 then e else En.upd (En.upd e 3 (v % 24)) 4 (v / 24))∧w.grownBy w' none:=by
 obtain ⟨⟨v,hv,⟨h0,rfl⟩|⟨q,rfl,rfl⟩⟩,hg⟩:=h
 ·exact ⟨e,false,rfl,⟨v,hv,by rw [if_pos h0]⟩,hg⟩
 ·exact ⟨_,true,rfl,⟨_,hv,by rw [if_neg (by omega)]⟩,hg⟩

def Cr.bareTo (E:Nat→Nat→Int) (n:Nat):Nat→Nat→Int:=fun k=>if k<n then Cr.bare E k else E k

theorem Cr.bareTo_zero (E:Nat→Nat→Int):Cr.bareTo E 0=E:=by funext k;unfold Cr.bareTo;rw [if_neg (by omega)]

theorem Cr.bareTo_go (E:Nat→Nat→Int) (n:Nat):En.put (Cr.bareTo E n) n (En.hole (Cr.bareTo E n n 1))=Cr.bareTo E (n+1):=by
 have e0:Cr.bareTo E n n=E n:=by unfold Cr.bareTo;rw [if_neg (by omega)]
 rw [e0];funext k;by_cases e:k=n
 ·subst e;rw [En.put_same];unfold Cr.bareTo Cr.bare;rw [if_pos (by omega)]
 ·rw [En.put_other e];unfold Cr.bareTo;by_cases hk:k<n
  ·rw [if_pos hk,if_pos (by omega)]
  ·rw [if_neg hk,if_neg (by omega)]

theorem Cr.laid {x:World} {Q:Nat} {T:TypeId} {F:Nat→Value} (h:Lie x Q T 11 F) (p:Nat→Int):Lie (x.setCells Q 0 (En.cells p).toList) Q T 11 (Ints p) :=
 (h.stores 0 (En.cells p).toList).congr fun j hj=>by
  rcases (show j=0∨j=1∨j=2∨j=3∨j=4∨j=5∨j=6∨j=7∨j=8∨j=9∨j=10 by omega) with rfl|rfl|rfl|rfl|rfl|rfl|rfl|rfl|rfl|rfl|rfl <;> rfl

end Go.Proofs.YtldgbkjceildfaaGreat
