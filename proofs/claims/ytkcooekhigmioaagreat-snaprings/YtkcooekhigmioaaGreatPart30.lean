import Derived.Test.YtkcooekhigmioaaGreatPart26
namespace Go.Proofs.YtkcooekhigmioaaGreat
open Go.RowKit

set_option maxRecDepth 8000 in
set_option maxHeartbeats 3200000 in
theorem refSpot_any (ca:Option Addr) (cc b n c:Nat) (f:Nat→Int) (E:Nat→Nat→Int) (x y:Int) (w:World)
  (hc:Vec w.heap.size w ca 384 (Byts f)) (hf:∀i,0≤f i∧f i≤255) (hE:Ents w b n E) :
  Calls Tryz.prog 89 #[.slice ca 384 cc,.slice (some ⟨b,0,none⟩) n c,.int .i64 x,.int .i64 y] w (Nv.SaysSpot w f E n x y):=by
 have hc':=hide hc
 have hf':=hide hf
 have hE':=hide hE
 clear hc hf hE
 by_cases hin:Gr.inB x y=true
 case neg =>
  rw [Bool.not_eq_true] at hin
  have he:=hide (Nv.spot_out (f:=f) (E:=E) (n:=n) (show Nv.num x y=-1 from if_neg (by rw [hin];simp)))
  have cI:=hide (fun wq=>refIn_any x y wq)
  rw [hin] at cI
  clear hin
  go_enter Tryz.func89,Tryz.ntmps89
  go_wp2_with fail
  refine (uh cI _).mono ?_
  rintro e w1 ⟨rfl,rfl⟩
  go_wp2
  go_ret
  exact ⟨_,uh he,rfl,World.grownBy.refl _ _⟩
 obtain ⟨b1,b2,b3,b4⟩:=(Gr.inB_iff _ _).1 hin
 obtain ⟨X,rfl⟩:∃X:Nat,x=(X:Int):=⟨x.toNat,by omega⟩
 obtain ⟨Y,rfl⟩:∃Y:Nat,y=(Y:Int):=⟨y.toNat,by omega⟩
 have hX:X<24:=by omega
 have hY:Y<16:=by omega
 have hme:Nv.num (X:Int) (Y:Int)=(Y:Int)*24+X:=by unfold Nv.num;rw [if_pos hin]
 have hs0:Hid (∀F,Gr.IsField (fun i=>Gr.openB f 0 (fun _=>false) i=true) (Gr.tgt f (fun _=>(Y:Int)*24+X) 1) F→Nv.IsSpot f E n X Y (Nv.best F (Nv.st E n) 384)):=fun F h=>⟨F,by rw [hme];exact h,rfl⟩
 have cI:=hide (fun wq=>refIn_any (X:Int) (Y:Int) wq)
 rw [hin] at cI
 clear hin b1 b2 b3 b4 hme
 go_enter Tryz.func89,Tryz.ntmps89
 go_wp2_with fail
 refine (uh cI _).mono ?_
 rintro e w1 ⟨rfl,rfl⟩
 go_wp2_with fail
 obtain ⟨w3,hw3⟩:∃w3,w3=w1.alloc (.cells #[.int .i64 ((Y:Int)*24+X)] 3):=⟨_,rfl⟩
 have hB3:Below w1.heap.size w1 w3:=by rw [hw3];exact (Below.refl _ _).alloc (Nat.le_refl _) _
 have hV:Vec w3.heap.size w3 (some ⟨w1.heap.size,0,none⟩) 1 (Ints fun _=>(Y:Int)*24+X):=by rw [hw3];exact Nv.one_row w1 _ _
 rw [←hw3]
 refine (refField_any ca none (some ⟨w1.heap.size,0,none⟩) 0 1 cc 0 1 f (fun _=>(Y:Int)*24+X) (fun _=>false) w3 (((uh hc').kept hB3).mono hB3.size) (uh hf') ⟨by unfold maxLen;omega,.inl rfl⟩ hV (fun _=>⟨by omega,by omega⟩)).mono ?_
 rintro e w4 ⟨F,⟨g2,rfl,hg2,hA4,hB4⟩,hF⟩
 have hspot:=hide (uh hs0 F hF)
 have hgw:=below_grown (hB3.trans (hB4.mono hB3.size))
 have hgw':=hide hgw
 have hEw:=hide ((uh hE').on hgw)
 have hA4':=hide hA4
 clear hA4 hB4 hV hB3 hw3 hF hs0 hg2 hgw cI hE' hc'
 go_wp2_with fail
 go_loopw [10,11] (fun s i wr=>∃k:Nat,k≤384∧s=.int .i64 (Nv.best F (Nv.st E n) k)∧i=.int .i64 (k:Int)∧w4.grownBy wr none) (fun _ i _=>384 - (intOf i).toNat)
 case atStart=>exact ⟨0,by omega,rfl,rfl,World.grownBy.refl _ _⟩
 case round =>
  obtain ⟨k,hk,rfl,rfl,hgr⟩:=hrel
  by_cases hlt:k<384
  ·have hlt':(k:Int)<384:=by omega
   have HL:=hide hlt
   have hck:wr.cell? ⟨g2,k,none⟩=some (.int .i64 (F k)):=((uh hA4').grown hgr (by simp)).cell hlt
   have cA:∀q,Calls Tryz.prog 66 #[.slice (some ⟨b,0,none⟩) n c,.int .i64 ((k % 24:Nat):Int),.int .i64 ((k / 24:Nat):Int)] (wr.drewN q) fun e w'=>e=.returned (.int .i64 (En.first (En.atQ E ((k % 24:Nat):Int) ((k / 24:Nat):Int)) n))∧w'=wr.drewN q:=fun q=>entRefAt_same b n c E _ _ _ ((uh hEw).on (gdw hgr q))
   have hgd:Hid (∀q,w4.grownBy (wr.drewN q) none):=fun q=>gdw hgr q
   have hst:Nv.st E n k=decide (0≤En.first (En.atQ E ((k % 24:Nat):Int) ((k / 24:Nat):Int)) n):=rfl
   generalize En.first (En.atQ E ((k % 24:Nat):Int) ((k / 24:Nat):Int)) n=r at cA hst
   have hcp:Hid (∀p,p<k→wr.cell? ⟨g2,p,none⟩=some (.int .i64 (F p))):=fun p hp=>((uh hA4').grown hgr (by simp)).cell (by omega)
   clear hlt hk hgr
   by_cases h1:F k<0
   ·have hb:=hide (Nv.best_skip (F:=F) (st:=Nv.st E n) (k:=k) (.inl h1))
    generalize Nv.best F (Nv.st E n) k=B at hb
    have h1':decide (F k≥0)=false:=decide_eq_false (by omega)
    clear hst
    go_wp2_with fail
    go_quiet ((go_at_call 66;exact Calls.quiet_of_same (cA _)))
    go_wp2
    go_roundw
    case rel=>exact ⟨k+1,by have:=uh HL;omega,by rw [uh hb],by go_num,uh hgd _⟩
    case measure=>have:=uh HL;simp [intOf];omega
   have h1':decide (F k≥0)=true:=decide_eq_true (by omega)
   by_cases h2:0≤r
   ·have hb:=hide (Nv.best_skip (F:=F) (st:=Nv.st E n) (k:=k) (.inr (by rw [hst];exact decide_eq_true h2)))
    generalize Nv.best F (Nv.st E n) k=B at hb
    have h2':decide (r<0)=false:=decide_eq_false (by omega)
    clear hst
    go_wp2_with fail
    go_quiet ((go_at_call 66;exact Calls.quiet_of_same (cA _)))
    go_wp2
    go_roundw
    case rel=>exact ⟨k+1,by have:=uh HL;omega,by rw [uh hb],by go_num,uh hgd _⟩
    case measure=>have:=uh HL;simp [intOf];omega
   have hsf:Nv.st E n k=false:=by rw [hst];exact decide_eq_false h2
   have h2':decide (r<0)=true:=decide_eq_true (by omega)
   rcases Nv.best_cases F (Nv.st E n) k with e | ⟨p,hp,e⟩
   ·have hb:=hide (Nv.best_first (by omega) hsf e)
    rw [e]
    clear hst hsf e
    go_wp2_with fail
    go_quiet ((go_at_call 66;exact Calls.quiet_of_same (cA _)))
    go_wp2
    go_roundw
    case rel=>exact ⟨k+1,by have:=uh HL;omega,by rw [uh hb],by go_num,uh hgd _⟩
    case measure=>have:=uh HL;simp [intOf];omega
   have hcp':=uh hcp p hp
   have hp':(p:Int)<384:=by have:=uh HL;omega
   have hp0:decide ((p:Int)<0)=false:=decide_eq_false (by omega)
   by_cases h3:F k<F p
   ·have hb:=hide (Nv.best_less (by omega) hsf e h3)
    have h3':decide (F k<F p)=true:=decide_eq_true h3
    rw [e]
    clear hst hsf e hp h3
    go_wp2_with fail
    go_quiet ((go_at_call 66;exact Calls.quiet_of_same (cA _)))
    go_wp2
    go_roundw
    case rel=>exact ⟨k+1,by have:=uh HL;omega,by rw [uh hb],by go_num,uh hgd _⟩
    case measure=>have:=uh HL;simp [intOf];omega
   ·have hb:=hide ((Nv.best_more (st:=Nv.st E n) e h3).trans e)
    have h3':decide (F k<F p)=false:=decide_eq_false h3
    rw [e]
    clear hst hsf e hp h3
    go_wp2_with fail
    go_quiet ((go_at_call 66;exact Calls.quiet_of_same (cA _)))
    go_wp2
    go_roundw
    case rel=>exact ⟨k+1,by have:=uh HL;omega,by rw [uh hb],by go_num,uh hgd _⟩
    case measure=>have:=uh HL;simp [intOf];omega
  ·have hge:¬(k:Int)<384:=by omega
   obtain rfl:k=384:=by omega
   have hgr':=hide hgr
   generalize Nv.best F (Nv.st E n) 384=r at hspot
   clear hgr
   go_wp2
   go_ret
   exact ⟨_,uh hspot,rfl,gtr (uh hgw') (uh hgr')⟩


open Go.RowKit

def Cr.ListOf (w:World) (gE:Nat) (E:Nat→Nat→Int) (e:Ending) (w':World):Prop :=
 ∃j cap,e=.returned (.slice (some ⟨j,0,none⟩) 32 cap)∧32≤cap∧(j=gE∨w.heap.size≤j)∧Own w' j 32 E∧w.grownBy w' none

theorem Own.onto {x y:World} {g:Nat} {E:Nat→Nat→Int} (h:Own x g 32 E) (hg:x.grownBy y none):Own y g 32 E:=by
 obtain ⟨hn,m,F,hA,hm,hF⟩:=h
 exact ⟨hn,m,F,hA.grown hg (by simp),hm,hF⟩

set_option maxHeartbeats 1600000 in
theorem refSpawned_any (gE cE:Nat) (E:Nat→Nat→Int) (e:Nat→Int) (w:World) (hE:Own w gE 32 E) (hcE:32≤cE) (hG:En.Gens 32 E) (hk:1≤e 0∧e 0≤4) :
  Calls Tryz.prog 58 #[.slice (some ⟨gE,0,none⟩) 32 cE,.agg (En.cells e)] w (Cr.ListOf w gE (Cr.join E e)):=by
 obtain ⟨w0,hw0⟩:∃w0,w0=w.alloc (.cells (En.cells e) 70):=⟨_,rfl⟩
 have hg0:Hid (w.grownBy w0 none):=by rw [hw0];exact World.grownBy_alloc _ _ _
 have hQ:Hid (Lie w0 w.heap.size 70 11 (Ints e)):=by rw [hw0];exact Lie.copied _ _ _
 have hE0:=hide (hE.onto (uh hg0))
 have hcE':=hide hcE
 have key:Hid ((En.first (En.freeQ E) 32=-1∧Cr.join E e=E∧Calls Tryz.prog 90 #[.slice (some ⟨gE,0,none⟩) 32 cE,.agg (En.cells e)] w0 (Says w0 (.tuple #[.slice none 0 0,.int .i64 0,.int .i64 5])))∨∃f:Nat,Calls Tryz.prog 90 #[.slice (some ⟨gE,0,none⟩) 32 cE,.agg (En.cells e)] w0 (Spawns w0 32 (Cr.join E e) f)):=by
  rcases En.first_cases (En.freeQ E) 32 with ⟨he,hno⟩ | ⟨f,hf,he,hq,hno⟩
  ·refine .inl ⟨he,?_,refSpawn_full gE 32 cE E e w0 (uh hE0).ents hk hno⟩
   unfold Cr.join
   rw [he,if_neg (by omega)]
  ·refine .inr ⟨f,?_⟩
   have hj:Cr.join E e=En.put E f (En.gen e ((E f 1+1) % 256)):=by
    unfold Cr.join
    rw [he,if_pos (by omega),Int.toNat_natCast]
   rw [hj]
   exact refSpawn_some gE 32 cE f E e w0 (uh hE0).ents hk hf (by simpa [En.freeQ] using hq) hno hG
 clear hE hcE hG hk
 unfold En.cells at hw0 key ⊢
 go_enter Tryz.func58,Tryz.ntmps58
 go_upto_region 1 with fail
 rw [←hw0]
 clear hw0
 obtain ⟨B,hB⟩:∃B,w.heap.size=B:=⟨_,rfl⟩
 rw [hB] at hQ ⊢
 have hB':=hide hB
 clear hB
 obtain ⟨z0,z1,z2,z3,z4,z5,z6,z7,z8,z9,z10⟩:=(uh hQ).ent
 rcases uh key with ⟨hn,hj,cs⟩ | ⟨f,cs⟩
 ·have cs':=hide cs
  have hj':=hide hj
  clear cs key hj hn
  go_wp2_with fail
  refine (uh cs').mono ?_
  rintro x w1 ⟨rfl,hg⟩
  have hfin:Hid (Cr.ListOf w gE (Cr.join E e) (.returned (.slice (some ⟨gE,0,none⟩) 32 cE)) w1):=⟨gE,cE,rfl,uh hcE',.inl rfl,by rw [uh hj'];exact (uh hE0).onto hg,gtr (uh hg0) hg⟩
  clear hg cs' z0 z1 z2 z3 z4 z5 z6 z7 z8 z9 z10
  go_wp2
  go_ret
  exact uh hfin
 ·have cs':=hide cs
  clear cs key
  go_wp2_with fail
  refine (uh cs').mono ?_
  rintro x w1 ⟨j,cap,rfl,hlo,hnc,hcm,hown,hg⟩
  have hfin:Hid (Cr.ListOf w gE (Cr.join E e) (.returned (.slice (some ⟨j,0,none⟩) 32 cap)) w1):=⟨j,cap,rfl,hnc,.inr (Nat.le_trans (uh hg0).size hlo),hown,gtr (uh hg0) hg⟩
  clear hg cs' hlo hnc hcm hown z0 z1 z2 z3 z4 z5 z6 z7 z8 z9 z10
  go_wp2
  go_ret
  exact uh hfin

set_option maxHeartbeats 1600000 in
theorem refSome_any (s g c:Nat→Int) (E I:Nat→Nat→Int) (gC gE gI cC cE cI:Nat) (w:World) (hL:Gd.Lists w gC gE gI c E I) :
  Calls Tryz.prog 54 #[.agg (Gd.world s gC gE gI cC cE cI g)] w (Says w (.bool (Cr.manned E))):=by
 obtain ⟨w0,hw0⟩:∃w0,w0=w.alloc (.cells (Gd.world s gC gE gI cC cE cI g) 31):=⟨_,rfl⟩
 have hg0:w.grownBy w0 none:=by rw [hw0];exact World.grownBy_alloc _ _ _
 have hO:Hid (Gd.Shown w w0 w.heap.size gC gE gI cC cE cI s g c E I):=by
  refine ⟨?_,hL.on hg0,hg0⟩
  rw [hw0]
  exact (Arr.world (heap_alloc_new w _)).lie
 have hyes:Hid (∀t:Nat,t<4→0≤Gd.hero E (t:Int)→Cr.manned E=true):=fun t ht h=>decide_eq_true ⟨t,ht,h⟩
 have hno:Hid ((∀t:Nat,t<4→Gd.hero E (t:Int)<0)→Cr.manned E=false):=fun h=>decide_eq_false (fun ⟨t,ht,h0⟩=>by have:=h t ht;omega)
 obtain ⟨b,hb⟩:∃b,Cr.manned E=b:=⟨_,rfl⟩
 rw [hb] at hyes hno ⊢
 clear hL hg0 hb
 unfold Gd.world at hw0 ⊢
 go_enter Tryz.func54,Tryz.ntmps54
 go_upto_region 1 with fail
 rw [←hw0]
 clear hw0
 obtain ⟨B,hB⟩:∃B,w.heap.size=B:=⟨_,rfl⟩
 rw [hB] at hO ⊢
 clear hB
 go_wp2_with fail
 go_loopw [3] (fun v3 wr=>∃t:Nat,t≤4∧v3=.int .i64 (t:Int)∧Hid (∀j:Nat,j<t→Gd.hero E (j:Int)<0)∧Hid (Gd.Shown w wr B gC gE gI cC cE cI s g c E I)) (fun v3 _=>10 - (intOf v3).toNat)
 case atStart=>exact ⟨0,by omega,rfl,fun j h=>by omega,hO⟩
 case round =>
  clear hO
  obtain ⟨t,ht,rfl,hn,hO⟩:=hrel
  by_cases hlt:t<4
  ·have hlt':(t:Int)<4:=by omega
   have HL:=hide hlt
   have q5:=(uh hO).box.eleven.2.2.2.2.2.1
   have ch:=hide (refHero7_any gE cE E (t:Int) wr (uh hO).lists.own)
   have hy:=hide (uh hyes t hlt)
   obtain ⟨h,hh⟩:∃h,Gd.hero E (t:Int)=h:=⟨_,rfl⟩
   rw [hh] at ch hy
   have hh':=hide hh
   clear hh hlt ht
   go_wp2_with fail
   refine (uh ch).mono ?_
   rintro x w1 ⟨rfl,hg⟩
   have hO1:=hide ((uh hO).on hg)
   clear hg ch q5 hO
   by_cases h0:h<0
   ·have h0':¬h≥0:=by omega
    have hn2:Hid (∀j:Nat,j<t+1→Gd.hero E (j:Int)<0):=fun j hj=>by
     by_cases e:j=t
     ·rw [e,uh hh'];exact h0
     ·exact uh hn j (by omega)
    clear hy h0
    go_wp2
    go_roundw
    case rel=>exact ⟨t+1,by have:=uh HL;omega,by go_num,hn2,hO1⟩
    case measure=>simp [intOf];have:=uh HL;omega
   ·have h0':h≥0:=by omega
    obtain rfl:=uh hy (by omega)
    clear hy h0
    go_wp2
    go_ret
    exact ⟨rfl,(uh hO1).grown⟩
  ·obtain rfl:t=4:=by omega
   have hge:¬((4:Nat):Int)<4:=by omega
   obtain rfl:=uh hno (uh hn)
   clear hlt ht
   go_wp2
   go_ret
   exact ⟨rfl,(uh hO).grown⟩

def Cr.HeroSays (w:World) (c:Nat→Int) (E:Nat→Nat→Int) (e:Nat→Int) (x:Ending) (w':World):Prop :=
 (∃v,Nv.IsSpot c E 32 (Gr.find 384 c 3 % 24) (Gr.find 384 c 3 / 24) v∧((v<0∧x=.returned (.tuple #[.agg (En.cells e),.bool false]))∨∃q:Nat,v=(q:Int)∧x=.returned (.tuple #[.agg (En.cells (En.upd (En.upd e 3 ((q:Int) % 24)) 4 ((q:Int) / 24))),.bool true])))∧w.grownBy w' none

set_option maxRecDepth 8000 in
set_option maxHeartbeats 3200000 in
theorem refHero10_any (s g c:Nat→Int) (E I:Nat→Nat→Int) (e:Nat→Int) (gC gE gI cC cE cI:Nat) (w:World) (hL:Gd.Lists w gC gE gI c E I) (hF:Nv.Floor c) :
  Calls Tryz.prog 57 #[.agg (Gd.world s gC gE gI cC cE cI g),.agg (En.cells e)] w (Cr.HeroSays w c E e):=by
 obtain ⟨wz,hwz⟩:∃wz,wz=w.alloc (.cells (Gd.world s gC gE gI cC cE cI g) 31):=⟨_,rfl⟩
 obtain ⟨wy,hwy⟩:∃wy,wy=wz.alloc (.cells (En.cells e) 70):=⟨_,rfl⟩
 obtain ⟨w0,hw0⟩:∃w0,w0=wy.alloc (.cells #[.int .i64 0,.int .i64 0,.int .i64 0,.int .i64 0,.int .i64 0,.int .i64 0,.int .i64 0,.int .i64 0,.int .i64 0,.int .i64 0,.int .i64 0] 70):=⟨_,rfl⟩
 have hgz:w.grownBy wz none:=by rw [hwz];exact World.grownBy_alloc _ _ _
 have hgy:wz.grownBy wy none:=by rw [hwy];exact World.grownBy_alloc _ _ _
 have hg0:wy.grownBy w0 none:=by rw [hw0];exact World.grownBy_alloc _ _ _
 have hO:Hid (Gd.Shown w w0 w.heap.size gC gE gI cC cE cI s g c E I):=by
  refine ⟨?_,hL.on (gtr hgz (gtr hgy hg0)),gtr hgz (gtr hgy hg0)⟩
  refine Lie.on ?_ (gtr hgy hg0)
  rw [hwz]
  exact (Arr.world (heap_alloc_new w _)).lie
 have hQ:Hid (Lie w0 wz.heap.size 70 11 (Ints e)):=by
  refine Lie.on ?_ hg0
  rw [hwy]
  exact Lie.copied _ _ _
 have hR:Hid (Lie w0 wy.heap.size 70 11 (Ints (fun _=>0))):=by
  rw [hw0]
  exact Lie.copied wy (fun _=>0) _
 have sz:wz.heap.size=w.heap.size+1:=by rw [hwz];simp
 have sy:wy.heap.size=w.heap.size+1+1:=by rw [hwy,hwz];simp
 rw [sz] at hQ
 rw [sy] at hR
 obtain ⟨u,hu,hfu,-,-⟩:=Cr.up_stair hF
 have hc8:Hid (∀i,0≤c i∧c i≤255):=fun i=>⟨(hF.five i).1,by have:=(hF.five i).2;omega⟩
 have hu':=hide hu
 have hdef:Hid (∀(v:Int) (x:Ending) (w':World),Nv.IsSpot c E 32 ((u:Int) % 24) ((u:Int) / 24) v→((v<0∧x=.returned (.tuple #[.agg (En.cells e),.bool false]))∨∃q:Nat,v=(q:Int)∧x=.returned (.tuple #[.agg (En.cells (En.upd (En.upd e 3 ((q:Int) % 24)) 4 ((q:Int) / 24))),.bool true]))→w.grownBy w' none→Cr.HeroSays w c E e x w'):=fun v x w' h1 h2 h3=>⟨⟨v,by rw [hfu];exact h1,h2⟩,h3⟩
 have cf:=hide (fun z (hz:Gd.Lists z gC gE gI c E I)=>refFind_any z.heap.size (some ⟨gC,0,none⟩) 384 cC c 3 z hz.vec (uh hc8))
 rw [hfu] at cf
 have cs:=hide (fun z (hz:Gd.Lists z gC gE gI c E I)=>refSpot_any (some ⟨gC,0,none⟩) cC gE 32 cE c E ((u:Int) % 24) ((u:Int) / 24) z hz.vec (uh hc8) hz.own.ents)
 have t1:IntKind.i64.wrap ((u:Int) / 24)=(u:Int) / 24:=by rw [IntKind.wrap_i64];omega
 clear hL hF hgz hgy hg0 hfu sz sy
 unfold Gd.world at hwz ⊢
 unfold En.cells at hwy hdef ⊢
 rw [hwz] at hwy
 rw [hwy] at hw0
 clear hwz hwy
 go_enter Tryz.func57,Tryz.ntmps57
 go_upto_region 1 with fail
 rw [←hw0]
 clear hw0
 obtain ⟨B,hB⟩:∃B,w.heap.size=B:=⟨_,rfl⟩
 rw [hB] at hO hQ hR ⊢
 have hB':=hide hB
 clear hB
 have b4:=(uh hO).box.eleven.2.2.2.2.1
 have cf':=hide (uh cf w0 (uh hO).lists)
 go_wp2_with fail
 refine (uh cf').mono ?_
 rintro x wq ⟨rfl,hy⟩
 subst wq
 have b5:=(uh hO).box.eleven.2.2.2.2.2.1
 have hun:¬(u:Int)<0:=by omega
 have cs':=hide (uh cs w0 (uh hO).lists)
 clear cf cf' cs
 go_wp2_with fail
 refine (uh cs').mono ?_
 rintro x w1 ⟨v,hv,rfl,hg⟩
 have hv':=hide hv
 have hO1:=hide ((uh hO).on hg)
 have hQ1:=hide ((uh hQ).on hg)
 have hR1:=hide ((uh hR).on hg)
 clear hv hg b4 b5 cs' hO hQ hR
 obtain ⟨e0,e1,e2,e3,e4,e5,e6,e7,e8,e9,e10⟩:=(uh hQ1).ent
 obtain ⟨z0,z1,z2,z3,z4,z5,z6,z7,z8,z9,z10⟩:=(uh hR1).ent
 have fQ:=(uh hQ1).free
 have fR:=(uh hR1).free
 by_cases hneg:v<0
 ·have hfin:Hid (∀vs,Cr.HeroSays w c E e (.returned (.tuple #[.agg #[.int .i64 (e 0),.int .i64 (e 1),.int .i64 (e 2),.int .i64 (e 3),.int .i64 (e 4),.int .i64 (e 5),.int .i64 (e 6),.int .i64 (e 7),.int .i64 (e 8),.int .i64 (e 9),.int .i64 (e 10)],.bool false])) (w1.setCells (B+1+1) 0 vs)):=fun vs=>uh hdef v _ _ (uh hv') (.inl ⟨hneg,rfl⟩) (own_sets (by rw [uh hB'];omega) _ 0 w1 (uh hO1).grown)
  clear hdef
  go_wp2
  refine bodyPost_ret (v:=.tuple #[.agg #[.int .i64 (e 0),.int .i64 (e 1),.int .i64 (e 2),.int .i64 (e 3),.int .i64 (e 4),.int .i64 (e 5),.int .i64 (e 6),.int .i64 (e 7),.int .i64 (e 8),.int .i64 (e 9),.int .i64 (e 10)],.bool false]) (by simp [results,Tryz.results57,go_sem,z0,z1,z2,z3,z4,z5,z6,z7,z8,z9,z10]) rfl ?_
  exact uh hfin [_,_,_,_,_,_,_,_,_,_,_]
 ·obtain ⟨q,rfl⟩:∃q:Nat,v=(q:Int):=⟨v.toNat,by omega⟩
  have hq384:=(Cr.spot_room (uh hv')).1
  have t2:IntKind.i64.wrap ((q:Int) / 24)=(q:Int) / 24:=by rw [IntKind.wrap_i64];omega
  have hcl:Hid (En.cells (En.upd (En.upd e 3 ((q:Int) % 24)) 4 ((q:Int) / 24))=#[.int .i64 (e 0),.int .i64 (e 1),.int .i64 (e 2),.int .i64 ((q:Int) % 24),.int .i64 ((q:Int) / 24),.int .i64 (e 5),.int .i64 (e 6),.int .i64 (e 7),.int .i64 (e 8),.int .i64 (e 9),.int .i64 (e 10)]):=rfl
  have nQR:B+1≠B+1+1:=by omega
  have nRQ:B+1+1≠B+1:=by omega
  have hgq:Hid (∀a b vs,w.grownBy (((w1.setCell ⟨B+1,3,none⟩ a).setCell ⟨B+1,4,none⟩ b).setCells (B+1+1) 0 vs) none):=fun a b vs=>own_sets (by rw [uh hB'];omega) _ 0 _ (gsr (gsr (uh hO1).grown ⟨B+1,3,none⟩ (by rw [uh hB'];show B≤B+1;omega) a) ⟨B+1,4,none⟩ (by rw [uh hB'];show B≤B+1;omega) b)
  have hfin:Hid (∀w',w.grownBy w' none→Cr.HeroSays w c E e (.returned (.tuple #[.agg #[.int .i64 (e 0),.int .i64 (e 1),.int .i64 (e 2),.int .i64 ((q:Int) % 24),.int .i64 ((q:Int) / 24),.int .i64 (e 5),.int .i64 (e 6),.int .i64 (e 7),.int .i64 (e 8),.int .i64 (e 9),.int .i64 (e 10)],.bool true])) w'):=fun w' hg=>uh hdef (q:Int) _ _ (uh hv') (.inr ⟨q,rfl,by first | rfl | rw [uh hcl]⟩) hg
  have hqn:¬(q:Int)<0:=by omega
  clear hdef hneg hq384 hcl
  go_wp2
  refine bodyPost_ret (v:=.tuple #[.agg #[.int .i64 (e 0),.int .i64 (e 1),.int .i64 (e 2),.int .i64 ((q:Int) % 24),.int .i64 ((q:Int) / 24),.int .i64 (e 5),.int .i64 (e 6),.int .i64 (e 7),.int .i64 (e 8),.int .i64 (e 9),.int .i64 (e 10)],.bool true]) (by simp [results,Tryz.results57,go_sem,z0,z1,z2,z3,z4,z5,z6,z7,z8,z9,z10]) rfl ?_
  exact uh hfin _ (uh hgq _ _ [_,_,_,_,_,_,_,_,_,_,_])

end Go.Proofs.YtkcooekhigmioaaGreat
