import Derived.Test.YtkcooekhigmioaaGreatPart31
import Derived.Test.YtkcooekhigmioaaGreatPart30
import Derived.BigRegion
import Derived.Test.YtkcooekhigmioaaGreatPart32
namespace Go.Proofs.YtkcooekhigmioaaGreat
open Go.RowKit

def En.ints (e:Nat→Int):Nat→Value:=fun j=>.int .i64 (e j)

theorem En.ints_at (e:Nat→Int) (j:Nat):En.ints e j=.int .i64 (e j):=rfl

theorem En.ints_cells (e:Nat→Int) (j:Nat) (hj:j<11):(En.cells e)[j]?=some (En.ints e j):=by
 rcases (show j=0∨j=1∨j=2∨j=3∨j=4∨j=5∨j=6∨j=7∨j=8∨j=9∨j=10 by omega) with rfl | rfl | rfl | rfl | rfl | rfl | rfl | rfl | rfl | rfl | rfl <;> rfl

theorem Arr.oneRow {w:World} {Q:Nat} {e:Nat→Int} (h:w.heap[Q]?=some (.cells (En.cells e) 70 (0,0))):Arr w Q 70 11 (En.ints e) :=
 ⟨_,h,rfl,fun i hi=>En.ints_cells e i hi⟩

theorem Gd.two_rows (x:World) (a b:Nat→Int):Lie ((x.alloc (.cells (En.cells a) 70)).alloc (.cells (En.cells b) 70)).drew x.heap.size 70 11 (En.ints a)∧Lie ((x.alloc (.cells (En.cells a) 70)).alloc (.cells (En.cells b) 70)).drew (x.heap.size+1) 70 11 (En.ints b)∧x.grownBy ((x.alloc (.cells (En.cells a) 70)).alloc (.cells (En.cells b) 70)).drew none:=by
 have g1:=World.grownBy_alloc x (.cells (En.cells a) 70) none
 have g2:=World.grownBy_alloc (x.alloc (.cells (En.cells a) 70)) (.cells (En.cells b) 70) none
 have g3:=gd1 g2
 have hb:=(Arr.oneRow (heap_alloc_new (x.alloc (.cells (En.cells a) 70)) (.cells (En.cells b) 70))).lie
 rw [show (x.alloc (.cells (En.cells a) 70)).heap.size=x.heap.size+1 by simp] at hb
 exact ⟨(Arr.oneRow (heap_alloc_new x (.cells (En.cells a) 70))).lie.on g3,hb.on (gd1 (World.grownBy.refl _ none)),gtr g1 g3⟩

structure Gd.Lent (w x:World) (B gC gE gI cC cE cI:Nat) (s g c:Nat→Int) (E I:Nat→Nat→Int):Prop where
 box:Lie x B 31 11 (Gd.box s gC gE gI cC cE cI g)
 lists:Gd.Lists x gC gE gI c E I
 at_:w.heap.size=B
 res:Lie x (B+1) 31 11 (fun j=>#[.int .i64 0,.int .i64 0,.int .i64 0,.int .i64 0,.slice none 0 0,.slice none 0 0,.slice none 0 0,.int .i64 0,.int .i64 0,.int .i64 0,Value.int .i64 0][j]?.getD undef)
 grown:w.grownBy x none

theorem Gd.Lent.on {w x y:World} {B gC gE gI cC cE cI:Nat} {s g c:Nat→Int} {E I:Nat→Nat→Int} (h:Gd.Lent w x B gC gE gI cC cE cI s g c E I) (hg:x.grownBy y none):Gd.Lent w y B gC gE gI cC cE cI s g c E I :=
 { h with box:=h.box.on hg,lists:=h.lists.on hg,res:=h.res.on hg,grown:=gtr h.grown hg }

theorem Gd.Lent.box_ne {w x:World} {B gC gE gI cC cE cI Q m:Nat} {s g c:Nat→Int} {E I:Nat→Nat→Int} {F:Nat→Value} (h:Gd.Lent w x B gC gE gI cC cE cI s g c E I) (hq:Lie x Q 70 m F):B≠Q :=
 Lie.type_ne h.box hq (by decide)

theorem Gd.Lent.over {w x x':World} {B gC gE gI cC cE cI jC jE jI dC dE dI:Nat} {s g c s' g' c':Nat→Int} {E I F J:Nat→Nat→Int} (h:Gd.Lent w x B gC gE gI cC cE cI s g c E I) (hcap:32≤dE) (l1:x.heap.size≤jC) (l2:x.heap.size≤jE) (l3:x.heap.size≤jI) (n1:jC≠jE) (n2:jC≠jI) (n3:jE≠jI) (hL:Gd.Lists x' jC jE jI c' F J) (hg:x.grownBy x' none) :
  Gd.Boxed w (x'.setCells B 0 (Gd.world s' jC jE jI dC dE dI g').toList) B jC jE jI dC dE dI s' g' c' F J:=by
 have h1:=h.box.lt
 have h2:=h.grown.size
 have h3:=h.at_
 have h4:=h.res.lt
 have r:=gss (g:=B) (Gd.world s' jC jE jI dC dE dI g').toList 0 x' (World.grownBy.refl _ _)
 exact ⟨⟨(h.box.on hg).whole s' g' jC jE jI dC dE dI,⟨hL.cells.grown r (by simp;omega),hL.ents.grown r (by simp;omega),hL.items.grown r (by simp;omega)⟩,by omega,by omega,by omega,n1,n2,n3⟩,h.at_,by omega,by omega,by omega,hcap,(h.res.on hg).grown r (by simp),own_sets (by omega) _ 0 x' (gtr h.grown hg)⟩

theorem Ft.hurt_same {E:Nat→Nat→Int} {f t:Nat} {n:Int} (t0:E t 0≠0) (h:Ft.hurtE E t n t 0≠0):Ft.hurtE E t n f 0=E f 0:=by
 by_cases e:f=t
 ·subst e
  have hlt:=(Ft.hurt_left t0).1 h
  unfold Ft.hurtE
  rw [if_pos hlt,Gd.set_other (by omega)]
 ·rw [Ft.hurt_other E n e]

set_option maxRecDepth 8000 in
set_option maxHeartbeats 12800000 in
theorem refHit8_some (s g c:Nat→Int) (E I:Nat→Nat→Int) (gC gE gI cC cE cI:Nat) (f t:Nat) (w:World) (hL:Gd.Lists w gC gE gI c E I) (hF:Ft.Fit c E I) (hf:f<32) (ht:t<32) (f0:E f 0≠0) (t0:E t 0≠0) :
  Calls Tryz.prog 96 #[.agg (Gd.world s gC gE gI cC cE cI g),.int .i64 (f:Int),.int .i64 (t:Int)] w (Gd.Worlds w s g c (Ft.blowE s E I f t) (Ft.blowI s E I f t)):=by
 have rf:=Ft.there_at (E:=E) hf
 rw [decide_eq_true f0] at rf
 have rt:=Ft.there_at (E:=E) ht
 rw [decide_eq_true t0] at rt
 have ct1:=hide (fun x hx=>refThere8_any s g c E I gC gE gI cC cE cI (f:Int) x hx)
 have ct2:=hide (fun x hx=>refThere8_any s g c E I gC gE gI cC cE cI (t:Int) x hx)
 rw [rf] at ct1
 rw [rt] at ct2
 have hTf:=(hF.rows f hf).taken f0
 have hTt:=(hF.rows t ht).taken t0
 have e2:∀seat,decide (0≤Gd.find I 40 3 seat 0)=Gd.wornK I seat 2 40:=fun seat=>(Gd.worn_at hF.ok seat 0).symm
 have e3:∀seat,decide (0≤Gd.find I 40 3 seat 1)=Gd.wornK I seat 3 40:=fun seat=>(Gd.worn_at hF.ok seat 1).symm
 have cb1:=hide (fun x hx=>refBonus_any s g c E I gC gE gI cC cE cI (E f 2) x hx)
 have cb2:=hide (fun x hx=>refBonus_any s g c E I gC gE gI cC cE cI (E t 2) x hx)
 rw [e2,e3] at cb1 cb2
 have hT3:∀b,0≤Gd.three b∧Gd.three b≤3:=fun b=>by unfold Gd.three;split <;> omega
 have hT2:∀b,0≤Gd.two b∧Gd.two b≤2:=fun b=>by unfold Gd.two;split <;> omega
 have ba:0≤Ft.arm E I f∧Ft.arm E I f≤8:=by
  unfold Ft.arm
  have:=hT3 (Gd.wornK I (E f 2) 2 40)
  split <;> omega
 have bg:0≤Ft.guard E I t∧Ft.guard E I t≤3:=by
  unfold Ft.guard
  have:=hT2 (Gd.wornK I (E t 2) 3 40)
  split <;> omega
 have hxa:=hT3 (Gd.wornK I (E f 2) 2 40)
 have hxd:=hT2 (Gd.wornK I (E t 2) 3 40)
 have bd:=Dc.die_bd 3 (s 0) [s 1,(f:Int),(t:Int),77] (by omega)
 have ha:Hid (Ft.arm E I f=E f 7+if E f 0=1 then Gd.three (Gd.wornK I (E f 2) 2 40) else 0):=rfl
 have hd:Hid (Ft.guard E I t=E t 8+if E t 0=1 then Gd.two (Gd.wornK I (E t 2) 3 40) else 0):=rfl
 have hdef:Hid (Ft.force s E I f t=max 1 (Ft.arm E I f - Ft.guard E I t)+Dc.die 3 (s 0) [s 1,(f:Int),(t:Int),77]):=rfl
 have cd1:Hid (∀(x:World) (b:Nat),b=x.heap.size→Calls Tryz.prog 102 #[.int .i64 3,.int .i64 (s 0),.slice (some ⟨b,0,none⟩) 4 4] (x.alloc (.cells #[.int .i64 (s 1),.int .i64 (f:Int),.int .i64 (t:Int),.int .i64 77] 3)).drew fun e w'=>e=.returned (.int .i64 (Dc.die 3 (s 0) [s 1,(f:Int),(t:Int),77]))∧w'=(x.alloc (.cells #[.int .i64 (s 1),.int .i64 (f:Int),.int .i64 (t:Int),.int .i64 77] 3)).drew):=fun x b hb=>by
  subst hb
  exact refDie_row 3 (s 0) _ 4 4 _ _ (show Row (x.alloc (.cells #[.int .i64 (s 1),.int .i64 (f:Int),.int .i64 (t:Int),.int .i64 77] 3)).drew _ _ [s 1,(f:Int),(t:Int),77] from Row.four x (s 1) (f:Int) (t:Int) 77 3) (by omega)
 have cd2:Hid (∀(x:World) (b:Nat),b=x.heap.size→Calls Tryz.prog 102 #[.int .i64 4,.int .i64 (s 0),.slice (some ⟨b,0,none⟩) 4 4] (x.alloc (.cells #[.int .i64 (s 1),.int .i64 (f:Int),.int .i64 (t:Int),.int .i64 78] 3)) fun e w'=>e=.returned (.int .i64 (Dc.die 4 (s 0) [s 1,(f:Int),(t:Int),78]))∧w'=x.alloc (.cells #[.int .i64 (s 1),.int .i64 (f:Int),.int .i64 (t:Int),.int .i64 78] 3)):=fun x b hb=>by
  subst hb
  exact refDie_row 4 (s 0) _ 4 4 _ _ (Row.four x (s 1) (f:Int) (t:Int) 78 3) (by omega)
 have hfp:=Ft.force_pos s E I f t
 have hF2:=hF.hurt ht t0 hfp
 have hsame:=@Ft.hurt_same E f t (Ft.force s E I f t) t0
 have hdE:Hid (Ft.blowE s E I f t=if Ft.hurtE E t (Ft.force s E I f t) t 0≠0 then Ft.leaveE s (Ft.hurtE E t (Ft.force s E I f t)) f t else Ft.hurtE E t (Ft.force s E I f t)):=rfl
 have hlv:Hid (Ft.leaveE s (Ft.hurtE E t (Ft.force s E I f t)) f t=if Ft.hurtE E t (Ft.force s E I f t) f 0=4 then Gd.set (Ft.hurtE E t (Ft.force s E I f t)) t 9 (min (Ft.hurtE E t (Ft.force s E I f t) t 9+3) 9) else if Ft.hurtE E t (Ft.force s E I f t) f 0=3∧Dc.die 4 (s 0) [s 1,(f:Int),(t:Int),78]=0 then Gd.set (Ft.hurtE E t (Ft.force s E I f t)) t 10 (min (Ft.hurtE E t (Ft.force s E I f t) t 10+2) 9) else Ft.hurtE E t (Ft.force s E I f t)):=rfl
 have hdI:Hid (Ft.blowI s E I f t=Ft.hurtI E I t (Ft.force s E I f t)):=rfl
 have ch:=hide (fun x hx=>refHurt8_any s g c E I gC gE gI cC cE cI (t:Int) (Ft.force s E I f t) x hx hF)
 have hhE:Ft.hE E (t:Int) (Ft.force s E I f t)=Ft.hurtE E t (Ft.force s E I f t):=by
  unfold Ft.hE
  rw [if_pos ⟨rt,hfp⟩,Int.toNat_natCast]
 have hhI:Ft.hI E I (t:Int) (Ft.force s E I f t)=Ft.hurtI E I t (Ft.force s E I f t):=by
  unfold Ft.hI
  rw [if_pos ⟨rt,hfp⟩,Int.toNat_natCast]
 rw [hhE,hhI] at ch
 obtain ⟨XA,hXA⟩:∃x,Gd.three (Gd.wornK I (E f 2) 2 40)=x:=⟨_,rfl⟩
 obtain ⟨XB,hXB⟩:∃x,Gd.two (Gd.wornK I (E f 2) 3 40)=x:=⟨_,rfl⟩
 obtain ⟨YA,hYA⟩:∃x,Gd.three (Gd.wornK I (E t 2) 2 40)=x:=⟨_,rfl⟩
 obtain ⟨YB,hYB⟩:∃x,Gd.two (Gd.wornK I (E t 2) 3 40)=x:=⟨_,rfl⟩
 obtain ⟨A,hA⟩:∃x,Ft.arm E I f=x:=⟨_,rfl⟩
 obtain ⟨D,hD⟩:∃x,Ft.guard E I t=x:=⟨_,rfl⟩
 obtain ⟨Z,hZ⟩:∃x,Dc.die 3 (s 0) [s 1,(f:Int),(t:Int),77]=x:=⟨_,rfl⟩
 obtain ⟨Y,hY⟩:∃x,Dc.die 4 (s 0) [s 1,(f:Int),(t:Int),78]=x:=⟨_,rfl⟩
 obtain ⟨n,hn⟩:∃x,Ft.force s E I f t=x:=⟨_,rfl⟩
 rw [hn] at hdef hfp hF2 hsame hdE hlv hdI ch
 obtain ⟨E2,hE2⟩:∃x,Ft.hurtE E t n=x:=⟨_,rfl⟩
 obtain ⟨I2,hI2⟩:∃x,Ft.hurtI E I t n=x:=⟨_,rfl⟩
 obtain ⟨E3,hE3⟩:∃x,Ft.leaveE s E2 f t=x:=⟨_,rfl⟩
 rw [hE2] at hF2 hsame hdE hlv ch
 rw [hI2] at hF2 hdI ch
 rw [hE3] at hdE hlv
 rw [hXA,hXB] at cb1
 rw [hYA,hYB] at cb2
 rw [hXA,hA] at ha
 rw [hYB,hD] at hd
 rw [hXA] at hxa
 rw [hYB] at hxd
 rw [hA] at ba
 rw [hD] at bg
 rw [hZ] at bd cd1
 rw [hY] at cd2 hlv
 rw [hA,hD,hZ] at hdef
 obtain ⟨ba0,ba9⟩:=ba
 obtain ⟨bg0,bg9⟩:=bg
 obtain ⟨bd0,bd9⟩:=bd
 obtain ⟨hxa0,hxa9⟩:=hxa
 obtain ⟨hxd0,hxd9⟩:=hxd
 have e70:0≤E f 7:=hTf.2.2.2.2.2.1
 have e79:E f 7≤5:=hTf.2.2.2.2.2.2.1
 have e80:0≤E t 8:=hTt.2.2.2.2.2.2.2.1
 have e89:E t 8≤1:=hTt.2.2.2.2.2.2.2.2.1
 have hF2':=hide hF2
 have hsame':=hide hsame
 have HF:=hide hf
 have HT:=hide ht
 have hf':(f:Int)<32:=by omega
 have ht':(t:Int)<32:=by omega
 clear hXA hXB hYA hYB hA hD hZ hY hn hE2 hI2 hE3 hhE hhI rf rt hTf hTt e2 e3 hT3 hT2 hF2 hsame hF f0 t0 hf ht hfp
 obtain ⟨w0,hw0,hbox,hres,hg0,hsz⟩:=Gd.boxes w gC gE gI cC cE cI s g
 have hO:Hid (Gd.Lent w w0 w.heap.size gC gE gI cC cE cI s g c E I):=⟨hbox,hL.on hg0,rfl,hres,hg0⟩
 clear hL hbox hres hg0 hsz
 unfold Gd.world at hw0 ct1 ct2 ⊢
 go_enter Tryz.func96,Tryz.ntmps96
 go_upto_region 1 with fail
 rw [←hw0]
 clear hw0
 obtain ⟨B,hB⟩:∃B,w.heap.size=B:=⟨_,rfl⟩
 rw [hB] at hO ⊢
 clear hB
 obtain ⟨b0,b1,b2,b3,b4,b5,b6,b7,b8,b9,b10⟩:=(uh hO).box.eleven
 go_wp2_with fail
 refine (uh ct1 _ (uh hO).lists).mono ?_
 rintro e w1 ⟨rfl,hg⟩
 have hO2:=hide ((uh hO).on hg)
 clear hO hg b0 b1 b2 b3 b4 b5 b6 b7 b8 b9 b10 ct1
 have hO:=hide (uh hO2)
 clear hO2
 obtain ⟨b0,b1,b2,b3,b4,b5,b6,b7,b8,b9,b10⟩:=(uh hO).box.eleven
 go_wp2_with fail
 refine (uh ct2 _ (uh hO).lists).mono ?_
 rintro e w2 ⟨rfl,hg⟩
 have hO2:=hide ((uh hO).on hg)
 clear hO hg b0 b1 b2 b3 b4 b5 b6 b7 b8 b9 b10 ct2
 have hO:=hide (uh hO2)
 clear hO2
 have hS0:w2.cell? ⟨B,5,none⟩=some (.slice (some ⟨gE,0,none⟩) 32 cE)∧(w2.cell? ⟨gE,f*11,none⟩=some (.int .i64 (E f 0))∧w2.cell? ⟨gE,f*11+1,none⟩=some (.int .i64 (E f 1))∧w2.cell? ⟨gE,f*11+2,none⟩=some (.int .i64 (E f 2))∧w2.cell? ⟨gE,f*11+3,none⟩=some (.int .i64 (E f 3))∧w2.cell? ⟨gE,f*11+4,none⟩=some (.int .i64 (E f 4))∧w2.cell? ⟨gE,f*11+5,none⟩=some (.int .i64 (E f 5))∧w2.cell? ⟨gE,f*11+6,none⟩=some (.int .i64 (E f 6))∧w2.cell? ⟨gE,f*11+7,none⟩=some (.int .i64 (E f 7))∧w2.cell? ⟨gE,f*11+8,none⟩=some (.int .i64 (E f 8))∧w2.cell? ⟨gE,f*11+9,none⟩=some (.int .i64 (E f 9))∧w2.cell? ⟨gE,f*11+10,none⟩=some (.int .i64 (E f 10)))∧(w2.cell? ⟨gE,t*11,none⟩=some (.int .i64 (E t 0))∧w2.cell? ⟨gE,t*11+1,none⟩=some (.int .i64 (E t 1))∧w2.cell? ⟨gE,t*11+2,none⟩=some (.int .i64 (E t 2))∧w2.cell? ⟨gE,t*11+3,none⟩=some (.int .i64 (E t 3))∧w2.cell? ⟨gE,t*11+4,none⟩=some (.int .i64 (E t 4))∧w2.cell? ⟨gE,t*11+5,none⟩=some (.int .i64 (E t 5))∧w2.cell? ⟨gE,t*11+6,none⟩=some (.int .i64 (E t 6))∧w2.cell? ⟨gE,t*11+7,none⟩=some (.int .i64 (E t 7))∧w2.cell? ⟨gE,t*11+8,none⟩=some (.int .i64 (E t 8))∧w2.cell? ⟨gE,t*11+9,none⟩=some (.int .i64 (E t 9))∧w2.cell? ⟨gE,t*11+10,none⟩=some (.int .i64 (E t 10))):=⟨(uh hO).box.eleven.2.2.2.2.2.1,(uh hO).lists.own.ents.row (uh HF),(uh hO).lists.own.ents.row (uh HT)⟩
 go_upto_region 3 with fail
 go_cut [7,8] from 15 (fun va vb wx=>∃Qa Qb,va=.pointer (some ⟨Qa,0,none⟩)∧vb=.pointer (some ⟨Qb,0,none⟩)∧Hid (Gd.Lent w wx B gC gE gI cC cE cI s g c E I)∧Hid (Lie wx Qa 70 11 (En.ints (E f)))∧Hid (Lie wx Qb 70 11 (En.ints (E t))))
 case first =>
  have k1:=(uh hO).box.lt
  have k2:=(uh hO).lists.ents.lt
  have q1:w2.heap.size≠B:=by omega
  have q2:B≠w2.heap.size:=by omega
  have q3:w2.heap.size+1≠B:=by omega
  have q4:B≠w2.heap.size+1:=by omega
  have q5:w2.heap.size≠gE:=by omega
  have q6:gE≠w2.heap.size:=by omega
  have q7:w2.heap.size+1≠gE:=by omega
  have q8:gE≠w2.heap.size+1:=by omega
  have hz1:=hide (Gd.two_rows w2 (E f) (E t))
  have hz2:=hide (Gd.two_rows w2 (E t) (E f))
  clear k1 k2
  unfold En.cells at hz1 hz2
  go_region_held3 (fun x=>x.cell? ⟨B,5,none⟩=some (.slice (some ⟨gE,0,none⟩) 32 cE)∧(x.cell? ⟨gE,f*11,none⟩=some (.int .i64 (E f 0))∧x.cell? ⟨gE,f*11+1,none⟩=some (.int .i64 (E f 1))∧x.cell? ⟨gE,f*11+2,none⟩=some (.int .i64 (E f 2))∧x.cell? ⟨gE,f*11+3,none⟩=some (.int .i64 (E f 3))∧x.cell? ⟨gE,f*11+4,none⟩=some (.int .i64 (E f 4))∧x.cell? ⟨gE,f*11+5,none⟩=some (.int .i64 (E f 5))∧x.cell? ⟨gE,f*11+6,none⟩=some (.int .i64 (E f 6))∧x.cell? ⟨gE,f*11+7,none⟩=some (.int .i64 (E f 7))∧x.cell? ⟨gE,f*11+8,none⟩=some (.int .i64 (E f 8))∧x.cell? ⟨gE,f*11+9,none⟩=some (.int .i64 (E f 9))∧x.cell? ⟨gE,f*11+10,none⟩=some (.int .i64 (E f 10)))∧(x.cell? ⟨gE,t*11,none⟩=some (.int .i64 (E t 0))∧x.cell? ⟨gE,t*11+1,none⟩=some (.int .i64 (E t 1))∧x.cell? ⟨gE,t*11+2,none⟩=some (.int .i64 (E t 2))∧x.cell? ⟨gE,t*11+3,none⟩=some (.int .i64 (E t 3))∧x.cell? ⟨gE,t*11+4,none⟩=some (.int .i64 (E t 4))∧x.cell? ⟨gE,t*11+5,none⟩=some (.int .i64 (E t 5))∧x.cell? ⟨gE,t*11+6,none⟩=some (.int .i64 (E t 6))∧x.cell? ⟨gE,t*11+7,none⟩=some (.int .i64 (E t 7))∧x.cell? ⟨gE,t*11+8,none⟩=some (.int .i64 (E t 8))∧x.cell? ⟨gE,t*11+9,none⟩=some (.int .i64 (E t 9))∧x.cell? ⟨gE,t*11+10,none⟩=some (.int .i64 (E t 10)))) (go_keep) (fail)
  ·go_wp2_with fail
   go_meet
   exact ⟨_,_,rfl,rfl,(uh hO).on (uh hz1).2.2,(uh hz1).1,(uh hz1).2.1⟩
  ·go_wp2_with fail
   go_meet
   exact ⟨_,_,rfl,rfl,(uh hO).on (uh hz2).2.2,(uh hz2).2.1,(uh hz2).1⟩
 case rest =>
  clear hS0 hO
  obtain ⟨Qa,Qb,rfl,rfl,hO,hQa,hQb⟩:=hcut
  have z7:wc.cell? ⟨Qa,7,none⟩=some (.int .i64 (E f 7)):=(uh hQa).cell (c:=7) (by omega)
  have z8:wc.cell? ⟨Qb,8,none⟩=some (.int .i64 (E t 8)):=(uh hQb).cell (c:=8) (by omega)
  go_upto_region 4 with fail
  go_cut [9,10] from 37 (fun va vb wx=>va=.int .i64 (E f 7)∧vb=.int .i64 (E t 8)∧Hid (Gd.Lent w wx B gC gE gI cC cE cI s g c E I)∧Hid (Lie wx Qa 70 11 (En.ints (E f)))∧Hid (Lie wx Qb 70 11 (En.ints (E t))))
  case first =>
   go_quiet (fail)
   go_wp2_with fail
   go_meet
   exact ⟨rfl,rfl,(uh hO).on (gdw (World.grownBy.refl _ none) _),(uh hQa).on (gdw (World.grownBy.refl _ none) _),(uh hQb).on (gdw (World.grownBy.refl _ none) _)⟩
  case rest =>
   clear z7 z8 hO hQa hQb
   obtain ⟨rfl,rfl,hO,hQa,hQb⟩:=hcut
   have z0:=(uh hQa).cell (c:=0) (by omega)
   have z2:=(uh hQa).cell (c:=2) (by omega)
   rw [En.ints_at] at z0 z2
   obtain ⟨b0,b1,b2,b3,b4,b5,b6,b7,b8,b9,b10⟩:=(uh hO).box.eleven
   go_upto_if 43 with fail
   go_cut [9,11,12] from 43 (fun va vb vc wx=>va=.int .i64 A∧Hid (Gd.Lent w wx B gC gE gI cC cE cI s g c E I)∧Hid (Lie wx Qa 70 11 (En.ints (E f)))∧Hid (Lie wx Qb 70 11 (En.ints (E t))))
   case first =>
    by_cases h1:E f 0=1
    ·rw [if_pos h1] at ha
     have h1':(E f 0 == 1)=true:=by simpa using h1
     have hw:IntKind.i64.wrap (E f 7+XA)=E f 7+XA:=by rw [IntKind.wrap_i64];omega
     have cb':=hide (uh cb1 _ (uh hO).lists)
     clear h1
     unfold Gd.world at cb'
     go_wp2_with fail
     refine (uh cb').mono ?_
     rintro e wy ⟨rfl,hg⟩
     have hO1:=hide ((uh hO).on hg)
     have hq1:=hide ((uh hQa).on hg)
     have hq2:=hide ((uh hQb).on hg)
     clear hg cb' b0 b1 b2 b3 b4 b5 b6 b7 b8 b9 b10 z0 z2
     go_wp2_with fail
     go_meet
     exact ⟨by rw [uh ha],hO1,hq1,hq2⟩
    ·rw [if_neg h1] at ha
     have h1':(E f 0 == 1)=false:=by simpa using h1
     clear h1
     go_wp2_with fail
     go_meet
     exact ⟨by rw [uh ha,Int.add_zero],hO,hQa,hQb⟩
   case rest =>
    clear z0 z2 b0 b1 b2 b3 b4 b5 b6 b7 b8 b9 b10 hO hQa hQb cb1
    obtain ⟨rfl,hO,hQa,hQb⟩:=hcut
    have z0:=(uh hQb).cell (c:=0) (by omega)
    have z2:=(uh hQb).cell (c:=2) (by omega)
    rw [En.ints_at] at z0 z2
    obtain ⟨b0,b1,b2,b3,b4,b5,b6,b7,b8,b9,b10⟩:=(uh hO).box.eleven
    go_upto_if 56 with fail
    go_cut [10,13,14] from 56 (fun va vb vc wx=>va=.int .i64 D∧Hid (Gd.Lent w wx B gC gE gI cC cE cI s g c E I)∧Hid (Lie wx Qa 70 11 (En.ints (E f)))∧Hid (Lie wx Qb 70 11 (En.ints (E t))))
    case first =>
     by_cases h1:E t 0=1
     ·rw [if_pos h1] at hd
      have h1':(E t 0 == 1)=true:=by simpa using h1
      have hw:IntKind.i64.wrap (E t 8+YB)=E t 8+YB:=by rw [IntKind.wrap_i64];omega
      have cb':=hide (uh cb2 _ (uh hO).lists)
      clear h1
      unfold Gd.world at cb'
      go_wp2_with fail
      refine (uh cb').mono ?_
      rintro e wy ⟨rfl,hg⟩
      have hO1:=hide ((uh hO).on hg)
      have hq1:=hide ((uh hQa).on hg)
      have hq2:=hide ((uh hQb).on hg)
      clear hg cb' b0 b1 b2 b3 b4 b5 b6 b7 b8 b9 b10 z0 z2
      go_wp2_with fail
      go_meet
      exact ⟨by rw [uh hd],hO1,hq1,hq2⟩
     ·rw [if_neg h1] at hd
      have h1':(E t 0 == 1)=false:=by simpa using h1
      clear h1
      go_wp2_with fail
      go_meet
      exact ⟨by rw [uh hd,Int.add_zero],hO,hQa,hQb⟩
    case rest =>
     clear z0 z2 b0 b1 b2 b3 b4 b5 b6 b7 b8 b9 b10 hO hQa hQb cb2
     obtain ⟨rfl,hO,hQa,hQb⟩:=hcut
     obtain ⟨b0,b1,b2,b3,b4,b5,b6,b7,b8,b9,b10⟩:=(uh hO).box.eleven
     have hO1:Hid (∀o:Obj,Gd.Lent w (wc.alloc o).drew B gC gE gI cC cE cI s g c E I):=fun o=>((uh hO).on (World.grownBy_alloc _ _ _)).on (gd1 (World.grownBy.refl _ none))
     have hQ1:Hid (∀o:Obj,Lie (wc.alloc o).drew Qa 70 11 (En.ints (E f))):=fun o=>((uh hQa).on (World.grownBy_alloc _ _ _)).on (gd1 (World.grownBy.refl _ none))
     have hQB:Hid (B≠Qa):=(uh hO).box_ne (uh hQa)
     have hSall:Hid (∀x,wc.grownBy x none→(x.cell? ⟨B,0,none⟩=some (.int .i64 (s 0))∧x.cell? ⟨B,1,none⟩=some (.int .i64 (s 1))∧x.cell? ⟨B,2,none⟩=some (.int .i64 (s 2))∧x.cell? ⟨B,3,none⟩=some (.int .i64 (s 3))∧x.cell? ⟨B,4,none⟩=some (.slice (some ⟨gC,0,none⟩) 384 cC)∧x.cell? ⟨B,5,none⟩=some (.slice (some ⟨gE,0,none⟩) 32 cE)∧x.cell? ⟨B,6,none⟩=some (.slice (some ⟨gI,0,none⟩) 40 cI)∧x.cell? ⟨B,7,none⟩=some (.int .i64 (g 0))∧x.cell? ⟨B,8,none⟩=some (.int .i64 (g 1))∧x.cell? ⟨B,9,none⟩=some (.int .i64 (g 2))∧x.cell? ⟨B,10,none⟩=some (.int .i64 (g 3)))):=fun x hx=>((uh hO).on hx).box.eleven
     have hdr:=hide (gd1 (World.grownBy.refl wc none))
     have hgz:=hide (gd1 (World.grownBy_alloc wc (.cells #[.int .i64 (s 1),.int .i64 (f:Int),.int .i64 (t:Int),.int .i64 77] 3) none))
     unfold Gd.world at ch
     go_upto_region 11 with fail
     go_cut [] from 57 (fun wx=>∃jC jE jI dC dE dI,Hid (Gd.Boxed w wx B jC jE jI dC dE dI s g c E2 I2)∧Hid (Lie wx Qa 70 11 (En.ints (E f)))∧Hid (jE≠Qa))
     case first =>
      have hw1:IntKind.i64.wrap (A - D)=A - D:=by rw [IntKind.wrap_i64];omega
      by_cases hm:1<A - D
      ·have hF1:A - D+Z=n:=by
        rw [uh hdef]
        omega
       have hw2:IntKind.i64.wrap n=n:=by rw [IntKind.wrap_i64];omega
       refine wp_region_till (h:=15) (S:=fun x=>x.cell? ⟨B,0,none⟩=some (.int .i64 (s 0))∧x.cell? ⟨B,1,none⟩=some (.int .i64 (s 1))∧x.cell? ⟨B,2,none⟩=some (.int .i64 (s 2))∧x.cell? ⟨B,3,none⟩=some (.int .i64 (s 3))∧x.cell? ⟨B,4,none⟩=some (.slice (some ⟨gC,0,none⟩) 384 cC)∧x.cell? ⟨B,5,none⟩=some (.slice (some ⟨gE,0,none⟩) 32 cE)∧x.cell? ⟨B,6,none⟩=some (.slice (some ⟨gI,0,none⟩) 40 cI)∧x.cell? ⟨B,7,none⟩=some (.int .i64 (g 0))∧x.cell? ⟨B,8,none⟩=some (.int .i64 (g 1))∧x.cell? ⟨B,9,none⟩=some (.int .i64 (g 2))∧x.cell? ⟨B,10,none⟩=some (.int .i64 (g 3))) (by kernel_rfl) ?_
       have hS0:=uh hSall _ (uh hdr)
       refine wtk (i:=0) (v:=?_) [15] rfl (by kernel_rfl) (by kernel_rfl) (by kernel_rfl) (by kernel_rfl) (fun _ _ _ h=>h) hS0 (Or.inl ⟨by rfl,?_⟩) ?_
       rotate_left
       ·intro x hSx
        try dsimp only at hSx
        go_simp
        try with_reducible rfl
       simp only [Act.put]
       refine wtk (i:=1) (v:=?_) [15] rfl (by kernel_rfl) (by kernel_rfl) (by kernel_rfl) (by kernel_rfl) (fun _ _ _ h=>h) hS0 (Or.inl ⟨by rfl,?_⟩) ?_
       rotate_left
       ·intro x hSx
        try dsimp only at hSx
        go_simp
        try with_reducible rfl
       simp only [Act.put]
       refine wtk (i:=2) (v:=?_) [4,5,14,15] rfl (by kernel_rfl) (by kernel_rfl) (by kernel_rfl) (by kernel_rfl) (fun _ _ _ h=>h) hS0 (Or.inl ⟨by rfl,?_⟩) ?_
       rotate_left
       ·intro x hSx
        try dsimp only at hSx
        go_simp
        try with_reducible rfl
       simp only [Act.put]
       refine wtk (i:=3) (v:=?_) [4,5,14,15] rfl (by kernel_rfl) (by kernel_rfl) (by kernel_rfl) (by kernel_rfl) (fun _ _ _ h=>h) hS0 (Or.inl ⟨by rfl,?_⟩) ?_
       rotate_left
       ·intro x hSx
        try dsimp only at hSx
        go_simp
        try with_reducible rfl
       simp only [Act.put]
       refine wtk (i:=4) (v:=?_) [5,14,15] rfl (by kernel_rfl) (by kernel_rfl) (by kernel_rfl) (by kernel_rfl) (fun _ _ _ h=>h) hS0 (Or.inl ⟨by rfl,?_⟩) ?_
       rotate_left
       ·intro x hSx
        try dsimp only at hSx
        go_simp
        try with_reducible rfl
       simp only [Act.put]
       refine wtk (i:=5) (v:=?_) [14,15] rfl (by kernel_rfl) (by kernel_rfl) (by kernel_rfl) (by kernel_rfl) (fun _ _ _ h=>h) hS0 (Or.inl ⟨by rfl,?_⟩) ?_
       rotate_left
       ·intro x hSx
        try dsimp only at hSx
        go_simp
        try with_reducible rfl
       simp only [Act.put]
       refine wtk (i:=6) (v:=?_) [7,13,14,15] rfl (by kernel_rfl) (by kernel_rfl) (by kernel_rfl) (by kernel_rfl) (fun _ _ _ h=>h) hS0 (Or.inl ⟨by rfl,?_⟩) ?_
       rotate_left
       ·intro x hSx
        try dsimp only at hSx
        go_simp
        try with_reducible rfl
       simp only [Act.put]
       refine wtk (i:=7) (v:=?_) [13,14,15] rfl (by kernel_rfl) (by kernel_rfl) (by kernel_rfl) (by kernel_rfl) (fun _ _ _ h=>h) hS0 (Or.inl ⟨by rfl,?_⟩) ?_
       rotate_left
       ·intro x hSx
        try dsimp only at hSx
        go_simp
        try with_reducible rfl
       simp only [Act.put]
       refine wtk (i:=8) (v:=?_) [9,12,13,14,15] rfl (by kernel_rfl) (by kernel_rfl) (by kernel_rfl) (by kernel_rfl) (fun _ _ _ h=>h) hS0 (Or.inl ⟨by rfl,?_⟩) ?_
       rotate_left
       ·intro x hSx
        try dsimp only at hSx
        go_simp
        try with_reducible rfl
       simp only [Act.put]
       refine wtk (i:=9) (v:=?_) [12,13,14,15] rfl (by kernel_rfl) (by kernel_rfl) (by kernel_rfl) (by kernel_rfl) (fun _ _ _ h=>h) hS0 (Or.inl ⟨by rfl,?_⟩) ?_
       rotate_left
       ·intro x hSx
        try dsimp only at hSx
        go_simp
        try with_reducible rfl
       simp only [Act.put]
       refine wtk (i:=10) (v:=?_) [12,13,14,15] rfl (by kernel_rfl) (by kernel_rfl) (by kernel_rfl) (by kernel_rfl) (fun _ _ _ h=>h) hS0 (Or.inl ⟨by rfl,?_⟩) ?_
       rotate_left
       ·intro x hSx
        try dsimp only at hSx
        go_simp
        try with_reducible rfl
       simp only [Act.put]
       refine wtk (i:=11) (v:=?_) [12,13,14,15] rfl (by kernel_rfl) (by kernel_rfl) (by kernel_rfl) (by kernel_rfl) (fun _ _ _ h=>h) hS0 (Or.inl ⟨by rfl,?_⟩) ?_
       rotate_left
       ·intro x hSx
        try dsimp only at hSx
        go_simp
        try with_reducible rfl
       simp only [Act.put]
       refine wto (j:=12) (by kernel_rfl) rfl (fun K hK=>?_)
       go_simp
       refine hK.out _ _ (fun _=>uh hSall _ (uh hgz)) ?_
       clear hK K hS0
       have hS0:=uh hSall _ (uh hgz)
       refine wto (j:=13) (by kernel_rfl) rfl (fun K hK=>?_)
       go_simp
       refine (uh cd1 _ _ rfl).mono ?_
       rintro e wy ⟨rfl,hy⟩
       subst wy
       try go_simp
       refine hK.out _ _ (fun _=>uh hSall _ (uh hgz)) ?_
       clear hK K
       refine wtk (i:=14) (v:=?_) [15] rfl (by kernel_rfl) (by kernel_rfl) (by kernel_rfl) (by kernel_rfl) (fun _ _ _ h=>h) hS0 (Or.inl ⟨by rfl,?_⟩) ?_
       rotate_left
       ·intro x hSx
        try dsimp only at hSx
        go_simp
        try with_reducible rfl
       simp only [Act.put]
       refine wto (j:=15) (by kernel_rfl) rfl (fun K hK=>?_)
       go_simp
       refine (uh ch _ (uh hO1 _).lists).mono ?_
       rintro e wv ⟨jC,jE,jI,dC,dE,dI,rfl,hcap,l1,l2,l3,n1,n2,n3,hL,hg⟩
       have hst:=hide ((uh hO1 _).over (s':=s) (g':=g) (dC:=dC) (dI:=dI) hcap l1 l2 l3 n1 n2 n3 hL hg)
       have hq:=hide (((uh hQ1 _).on hg).others (uh hQB) 0 (Gd.world s jC jE jI dC dE dI g).toList)
       have hj:Hid (jE≠Qa):=Nat.ne_of_gt (Nat.lt_of_lt_of_le (uh hQ1 _).lt l2)
       obtain ⟨y0,y1,y2,y3,y4,y5,y6,y7,y8,y9,y10⟩:=((uh hO1 _).on hg).box.eleven
       have fB:=((uh hO1 _).on hg).box.free
       clear hcap l1 l2 l3 n1 n2 n3 hL hg b0 b1 b2 b3 b4 b5 b6 b7 b8 b9 b10 hS0
       unfold Gd.world at hst hq ⊢
       try go_simp
       refine hK.out _ _ (fun hx=>absurd (hx.symm.trans (by kernel_rfl)) Bool.false_ne_true) ?_
       clear hK K
       refine wto (j:=16) (by kernel_rfl) rfl (fun K hK=>?_)
       go_simp
       refine hK.out _ _ (fun hx=>absurd (hx.symm.trans (by kernel_rfl)) Bool.false_ne_true) ?_
       clear hK K
       refine wpTill_done (by kernel_rfl) ?_ _
       go_wp2_with fail
       go_meet
       exact ⟨jC,jE,jI,dC,dE,dI,hst,hq,hj⟩
      ·have hF1:1+Z=n:=by
        rw [uh hdef]
        omega
       have hw2:IntKind.i64.wrap n=n:=by rw [IntKind.wrap_i64];omega
       refine wp_region_till (h:=15) (S:=fun x=>x.cell? ⟨B,0,none⟩=some (.int .i64 (s 0))∧x.cell? ⟨B,1,none⟩=some (.int .i64 (s 1))∧x.cell? ⟨B,2,none⟩=some (.int .i64 (s 2))∧x.cell? ⟨B,3,none⟩=some (.int .i64 (s 3))∧x.cell? ⟨B,4,none⟩=some (.slice (some ⟨gC,0,none⟩) 384 cC)∧x.cell? ⟨B,5,none⟩=some (.slice (some ⟨gE,0,none⟩) 32 cE)∧x.cell? ⟨B,6,none⟩=some (.slice (some ⟨gI,0,none⟩) 40 cI)∧x.cell? ⟨B,7,none⟩=some (.int .i64 (g 0))∧x.cell? ⟨B,8,none⟩=some (.int .i64 (g 1))∧x.cell? ⟨B,9,none⟩=some (.int .i64 (g 2))∧x.cell? ⟨B,10,none⟩=some (.int .i64 (g 3))) (by kernel_rfl) ?_
       have hS0:=uh hSall _ (uh hdr)
       refine wtk (i:=0) (v:=?_) [15] rfl (by kernel_rfl) (by kernel_rfl) (by kernel_rfl) (by kernel_rfl) (fun _ _ _ h=>h) hS0 (Or.inl ⟨by rfl,?_⟩) ?_
       rotate_left
       ·intro x hSx
        try dsimp only at hSx
        go_simp
        try with_reducible rfl
       simp only [Act.put]
       refine wtk (i:=1) (v:=?_) [15] rfl (by kernel_rfl) (by kernel_rfl) (by kernel_rfl) (by kernel_rfl) (fun _ _ _ h=>h) hS0 (Or.inl ⟨by rfl,?_⟩) ?_
       rotate_left
       ·intro x hSx
        try dsimp only at hSx
        go_simp
        try with_reducible rfl
       simp only [Act.put]
       refine wtk (i:=2) (v:=?_) [4,5,14,15] rfl (by kernel_rfl) (by kernel_rfl) (by kernel_rfl) (by kernel_rfl) (fun _ _ _ h=>h) hS0 (Or.inl ⟨by rfl,?_⟩) ?_
       rotate_left
       ·intro x hSx
        try dsimp only at hSx
        go_simp
        try with_reducible rfl
       simp only [Act.put]
       refine wtk (i:=3) (v:=?_) [4,5,14,15] rfl (by kernel_rfl) (by kernel_rfl) (by kernel_rfl) (by kernel_rfl) (fun _ _ _ h=>h) hS0 (Or.inl ⟨by rfl,?_⟩) ?_
       rotate_left
       ·intro x hSx
        try dsimp only at hSx
        go_simp
        try with_reducible rfl
       simp only [Act.put]
       refine wtk (i:=4) (v:=?_) [5,14,15] rfl (by kernel_rfl) (by kernel_rfl) (by kernel_rfl) (by kernel_rfl) (fun _ _ _ h=>h) hS0 (Or.inl ⟨by rfl,?_⟩) ?_
       rotate_left
       ·intro x hSx
        try dsimp only at hSx
        go_simp
        try with_reducible rfl
       simp only [Act.put]
       refine wtk (i:=5) (v:=?_) [14,15] rfl (by kernel_rfl) (by kernel_rfl) (by kernel_rfl) (by kernel_rfl) (fun _ _ _ h=>h) hS0 (Or.inl ⟨by rfl,?_⟩) ?_
       rotate_left
       ·intro x hSx
        try dsimp only at hSx
        go_simp
        try with_reducible rfl
       simp only [Act.put]
       refine wtk (i:=6) (v:=?_) [7,13,14,15] rfl (by kernel_rfl) (by kernel_rfl) (by kernel_rfl) (by kernel_rfl) (fun _ _ _ h=>h) hS0 (Or.inl ⟨by rfl,?_⟩) ?_
       rotate_left
       ·intro x hSx
        try dsimp only at hSx
        go_simp
        try with_reducible rfl
       simp only [Act.put]
       refine wtk (i:=7) (v:=?_) [13,14,15] rfl (by kernel_rfl) (by kernel_rfl) (by kernel_rfl) (by kernel_rfl) (fun _ _ _ h=>h) hS0 (Or.inl ⟨by rfl,?_⟩) ?_
       rotate_left
       ·intro x hSx
        try dsimp only at hSx
        go_simp
        try with_reducible rfl
       simp only [Act.put]
       refine wtk (i:=8) (v:=?_) [9,12,13,14,15] rfl (by kernel_rfl) (by kernel_rfl) (by kernel_rfl) (by kernel_rfl) (fun _ _ _ h=>h) hS0 (Or.inl ⟨by rfl,?_⟩) ?_
       rotate_left
       ·intro x hSx
        try dsimp only at hSx
        go_simp
        try with_reducible rfl
       simp only [Act.put]
       refine wtk (i:=9) (v:=?_) [12,13,14,15] rfl (by kernel_rfl) (by kernel_rfl) (by kernel_rfl) (by kernel_rfl) (fun _ _ _ h=>h) hS0 (Or.inl ⟨by rfl,?_⟩) ?_
       rotate_left
       ·intro x hSx
        try dsimp only at hSx
        go_simp
        try with_reducible rfl
       simp only [Act.put]
       refine wtk (i:=10) (v:=?_) [12,13,14,15] rfl (by kernel_rfl) (by kernel_rfl) (by kernel_rfl) (by kernel_rfl) (fun _ _ _ h=>h) hS0 (Or.inl ⟨by rfl,?_⟩) ?_
       rotate_left
       ·intro x hSx
        try dsimp only at hSx
        go_simp
        try with_reducible rfl
       simp only [Act.put]
       refine wtk (i:=11) (v:=?_) [12,13,14,15] rfl (by kernel_rfl) (by kernel_rfl) (by kernel_rfl) (by kernel_rfl) (fun _ _ _ h=>h) hS0 (Or.inl ⟨by rfl,?_⟩) ?_
       rotate_left
       ·intro x hSx
        try dsimp only at hSx
        go_simp
        try with_reducible rfl
       simp only [Act.put]
       refine wto (j:=12) (by kernel_rfl) rfl (fun K hK=>?_)
       go_simp
       refine hK.out _ _ (fun _=>uh hSall _ (uh hgz)) ?_
       clear hK K hS0
       have hS0:=uh hSall _ (uh hgz)
       refine wto (j:=13) (by kernel_rfl) rfl (fun K hK=>?_)
       go_simp
       refine (uh cd1 _ _ rfl).mono ?_
       rintro e wy ⟨rfl,hy⟩
       subst wy
       try go_simp
       refine hK.out _ _ (fun _=>uh hSall _ (uh hgz)) ?_
       clear hK K
       refine wtk (i:=14) (v:=?_) [15] rfl (by kernel_rfl) (by kernel_rfl) (by kernel_rfl) (by kernel_rfl) (fun _ _ _ h=>h) hS0 (Or.inl ⟨by rfl,?_⟩) ?_
       rotate_left
       ·intro x hSx
        try dsimp only at hSx
        go_simp
        try with_reducible rfl
       simp only [Act.put]
       refine wto (j:=15) (by kernel_rfl) rfl (fun K hK=>?_)
       go_simp
       refine (uh ch _ (uh hO1 _).lists).mono ?_
       rintro e wv ⟨jC,jE,jI,dC,dE,dI,rfl,hcap,l1,l2,l3,n1,n2,n3,hL,hg⟩
       have hst:=hide ((uh hO1 _).over (s':=s) (g':=g) (dC:=dC) (dI:=dI) hcap l1 l2 l3 n1 n2 n3 hL hg)
       have hq:=hide (((uh hQ1 _).on hg).others (uh hQB) 0 (Gd.world s jC jE jI dC dE dI g).toList)
       have hj:Hid (jE≠Qa):=Nat.ne_of_gt (Nat.lt_of_lt_of_le (uh hQ1 _).lt l2)
       obtain ⟨y0,y1,y2,y3,y4,y5,y6,y7,y8,y9,y10⟩:=((uh hO1 _).on hg).box.eleven
       have fB:=((uh hO1 _).on hg).box.free
       clear hcap l1 l2 l3 n1 n2 n3 hL hg b0 b1 b2 b3 b4 b5 b6 b7 b8 b9 b10 hS0
       unfold Gd.world at hst hq ⊢
       try go_simp
       refine hK.out _ _ (fun hx=>absurd (hx.symm.trans (by kernel_rfl)) Bool.false_ne_true) ?_
       clear hK K
       refine wto (j:=16) (by kernel_rfl) rfl (fun K hK=>?_)
       go_simp
       refine hK.out _ _ (fun hx=>absurd (hx.symm.trans (by kernel_rfl)) Bool.false_ne_true) ?_
       clear hK K
       refine wpTill_done (by kernel_rfl) ?_ _
       go_wp2_with fail
       go_meet
       exact ⟨jC,jE,jI,dC,dE,dI,hst,hq,hj⟩
     case rest =>
      clear b0 b1 b2 b3 b4 b5 b6 b7 b8 b9 b10 hO hQa hQb hO1 hQ1 ch cd1 hSall hdr hgz
      obtain ⟨jC,jE,jI,dC,dE,dI,hX,hQa,hjE⟩:=hcut
      obtain ⟨b0,b1,b2,b3,b4,b5,b6,b7,b8,b9,b10⟩:=(uh hX).hold.box.eleven
      have ct:=refThere8_any s g c E2 I2 jC jE jI dC dE dI (t:Int) wc (uh hX).hold.lists
      rw [Ft.there_at (uh HT)] at ct
      unfold Gd.world at ct
      by_cases hz:E2 t 0=0
      ·rw [decide_eq_false (by simpa using hz)] at ct
       rw [if_neg (by simpa using hz)] at hdE
       have ct':=hide ct
       clear ct hz
       go_wp2_with fail
       refine (uh ct').mono ?_
       rintro e wy ⟨rfl,hg⟩
       have hX0:Hid (Gd.Boxed w wy B jC jE jI dC dE dI s g c (Ft.blowE s E I f t) (Ft.blowI s E I f t)):=by
        show Gd.Boxed _ _ _ _ _ _ _ _ _ _ _ _ _ _
        rw [uh hdE,uh hdI]
        exact (uh hX).on hg
       clear ct' hg b0 b1 b2 b3 b4 b5 b6 b7 b8 b9 b10 hX hdE hdI
       obtain ⟨b0,b1,b2,b3,b4,b5,b6,b7,b8,b9,b10⟩:=(uh hX0).hold.box.eleven
       have fz:=(uh hX0).res.free
       obtain ⟨z0,z1,z2,z3,z4,z5,z6,z7,z8,z9,z10⟩:=Gd.res_cells (uh hX0).res
       have hfin:=hide (fun vs=>(uh hX0).worlds vs)
       go_upto_region 13 with fail
       generalize hQQ:Exit.then _ _=QQ
       go_wp2_with fail
       subst hQQ
       rename_i K hK
       refine hK _ _ (wp_ret ?_)
       refine bodyPost_ret (v:=.agg (Gd.world s jC jE jI dC dE dI g)) (by simp [results,Tryz.results96,go_sem,Gd.world,z0,z1,z2,z3,z4,z5,z6,z7,z8,z9,z10]) rfl ?_
       exact uh hfin [_,_,_,_,_,_,_,_,_,_,_]
      ·rw [decide_eq_true hz] at ct
       rw [if_pos hz] at hdE
       have hT2:=((uh hF2').rows t (uh HT)).taken hz
       have p0:0≤E2 t 9:=by omega
       have p9:E2 t 9≤9:=by omega
       have s0:0≤E2 t 10:=by omega
       have s9:E2 t 10≤9:=by omega
       have hk:=uh hsame' hz
       rw [hk] at hlv
       have ct':=hide ct
       clear ct hz hT2 hk
       go_wp2_with fail
       refine (uh ct').mono ?_
       rintro e wy ⟨rfl,hg⟩
       have hX1:=hide ((uh hX).on hg)
       have hQ1:=hide ((uh hQa).on hg)
       clear ct' hg b0 b1 b2 b3 b4 b5 b6 b7 b8 b9 b10 hX hQa
       obtain ⟨E4,hE4⟩:∃x,x=if E f 0=4 then Gd.set E2 t 9 (min (E2 t 9+3) 9) else E2:=⟨_,rfl⟩
       have hE4':=hide hE4
       clear hE4
       have z0:wy.cell? ⟨Qa,0,none⟩=some (.int .i64 (E f 0)):=(uh hQ1).cell (c:=0) (by omega)
       have b5:=(uh hX1).hold.box.eleven.2.2.2.2.2.1
       have r9:wy.cell? ⟨jE,t*11+9,none⟩=some (.int .i64 (E2 t 9)):=((uh hX1).hold.lists.own.ents.row (uh HT)).2.2.2.2.2.2.2.2.2.1
       have fE:=(uh hX1).hold.lists.ents.free
       go_upto_if 90 with fail
       go_cut [] from 90 to 103 (fun wx=>Hid (Gd.Boxed w wx B jC jE jI dC dE dI s g c E4 I2)∧Hid (Lie wx Qa 70 11 (En.ints (E f))))
       case first =>
        by_cases h4:E f 0=4
        ·rw [if_pos h4] at hE4'
         have h4':(E f 0 == 4)=true:=by simpa using h4
         have hX2:=hide ((uh hX1).on (gd1 (World.grownBy.refl _ none)))
         have hQ2:=hide ((uh hQ1).on (gd1 (World.grownBy.refl _ none)))
         clear h4
         by_cases hm:E2 t 9+3≤9
         ·have hst:Hid (Gd.Boxed w (wy.drew.setCell ⟨jE,t*11+9,none⟩ (.int .i64 (E2 t 9+3))) B jC jE jI dC dE dI s g c E4 I2):=by
           show Gd.Boxed _ _ _ _ _ _ _ _ _ _ _ _ _ _
           rw [uh hE4',show min (E2 t 9+3) 9=E2 t 9+3 by omega]
           exact (uh hX2).stat t 9 (by omega) _
          have hq:Hid (Lie (wy.drew.setCell ⟨jE,t*11+9,none⟩ (.int .i64 (E2 t 9+3))) Qa 70 11 (En.ints (E f))):=(uh hQ2).other (uh hjE) _ _
          go_wp2_with fail
          go_region
          all_goals
           go_wp2_with fail
           go_meet
           exact ⟨hst,hq⟩
         ·have hst:Hid (Gd.Boxed w (wy.drew.setCell ⟨jE,t*11+9,none⟩ (.int .i64 9)) B jC jE jI dC dE dI s g c E4 I2):=by
           show Gd.Boxed _ _ _ _ _ _ _ _ _ _ _ _ _ _
           rw [uh hE4',show min (E2 t 9+3) 9=9 by omega]
           exact (uh hX2).stat t 9 (by omega) _
          have hq:Hid (Lie (wy.drew.setCell ⟨jE,t*11+9,none⟩ (.int .i64 9)) Qa 70 11 (En.ints (E f))):=(uh hQ2).other (uh hjE) _ _
          go_wp2_with fail
          go_region
          all_goals
           go_wp2_with fail
           go_meet
           exact ⟨hst,hq⟩
        ·rw [if_neg h4] at hE4'
         have h4':(E f 0 == 4)=false:=by simpa using h4
         have hst:Hid (Gd.Boxed w wy B jC jE jI dC dE dI s g c E4 I2):=by
          show Gd.Boxed _ _ _ _ _ _ _ _ _ _ _ _ _ _
          rw [uh hE4']
          exact uh hX1
         clear h4
         go_wp2_with fail
         go_meet
         exact ⟨hst,hQ1⟩
       case rest =>
        clear z0 b5 r9 fE hX1 hQ1
        obtain ⟨hX,hQa⟩:=hcut
        have z0:wc.cell? ⟨Qa,0,none⟩=some (.int .i64 (E f 0)):=(uh hQa).cell (c:=0) (by omega)
        by_cases h4:E f 0=4
        ·rw [if_pos h4] at hE4' hlv
         rw [h4] at z0
         have hX0:Hid (Gd.Boxed w wc B jC jE jI dC dE dI s g c (Ft.blowE s E I f t) (Ft.blowI s E I f t)):=by
          show Gd.Boxed _ _ _ _ _ _ _ _ _ _ _ _ _ _
          rw [uh hdE,uh hdI,uh hlv,←uh hE4']
          exact uh hX
         clear h4 hX hlv hE4' hdE hdI
         obtain ⟨b0,b1,b2,b3,b4,b5,b6,b7,b8,b9,b10⟩:=(uh hX0).hold.box.eleven
         have fz:=(uh hX0).res.free
         obtain ⟨z0,z1,z2,z3,z4,z5,z6,z7,z8,z9,z10⟩:=Gd.res_cells (uh hX0).res
         have hfin:=hide (fun vs=>(uh hX0).worlds vs)
         go_upto_region 18 with fail
         generalize hQQ:Exit.then _ _=QQ
         go_wp2_with fail
         subst hQQ
         rename_i K hK
         refine hK _ _ (wp_ret ?_)
         refine bodyPost_ret (v:=.agg (Gd.world s jC jE jI dC dE dI g)) (by simp [results,Tryz.results96,go_sem,Gd.world,z0,z1,z2,z3,z4,z5,z6,z7,z8,z9,z10]) rfl ?_
         exact uh hfin [_,_,_,_,_,_,_,_,_,_,_]
        ·rw [if_neg h4] at hE4' hlv
         obtain rfl:E4=E2:=uh hE4'
         clear hE4'
         by_cases h3:E f 0=3
         ·rw [h3] at z0
          obtain ⟨b0,b1,b2,b3,b4,b5,b6,b7,b8,b9,b10⟩:=(uh hX).hold.box.eleven
          have hX1:Hid (∀o:Obj,Gd.Boxed w (wc.alloc o) B jC jE jI dC dE dI s g c E4 I2):=fun o=>(uh hX).on (World.grownBy_alloc _ _ _)
          have cdd:=hide (uh cd2 wc _ rfl)
          have hY3:Hid (E f 0=3):=h3
          clear h4 h3
          by_cases hy:Y=0
          ·rw [if_pos ⟨uh hY3,hy⟩] at hlv
           rw [hy] at cdd
           clear hy
           go_wp2_with fail
           refine (uh cdd).mono ?_
           rintro e wy ⟨rfl,hy⟩
           have hX2:Hid (Gd.Boxed w wy B jC jE jI dC dE dI s g c E4 I2):=by
            rw [hy]
            exact uh hX1 _
           clear hy hX hX1 cdd b0 b1 b2 b3 b4 b5 b6 b7 b8 b9 b10 z0
           have hX3:=hide ((uh hX2).on (gd1 (World.grownBy.refl _ none)))
           have b5:=(uh hX2).hold.box.eleven.2.2.2.2.2.1
           have r10:wy.cell? ⟨jE,t*11+10,none⟩=some (.int .i64 (E4 t 10)):=((uh hX2).hold.lists.own.ents.row (uh HT)).2.2.2.2.2.2.2.2.2.2
           have fE:=(uh hX2).hold.lists.ents.free
           go_upto_region 17 with fail
           go_cut [] from 104 (fun wx=>Hid (Gd.Boxed w wx B jC jE jI dC dE dI s g c (Ft.blowE s E I f t) (Ft.blowI s E I f t)))
           case first =>
            by_cases hm:E4 t 10+2≤9
            ·have hst:Hid (Gd.Boxed w (wy.drew.setCell ⟨jE,t*11+10,none⟩ (.int .i64 (E4 t 10+2))) B jC jE jI dC dE dI s g c (Ft.blowE s E I f t) (Ft.blowI s E I f t)):=by
              show Gd.Boxed _ _ _ _ _ _ _ _ _ _ _ _ _ _
              rw [uh hdE,uh hdI,uh hlv,show min (E4 t 10+2) 9=E4 t 10+2 by omega]
              exact (uh hX3).stat t 10 (by omega) _
             go_region
             all_goals
              go_wp2_with fail
              go_meet
              exact hst
            ·have hst:Hid (Gd.Boxed w (wy.drew.setCell ⟨jE,t*11+10,none⟩ (.int .i64 9)) B jC jE jI dC dE dI s g c (Ft.blowE s E I f t) (Ft.blowI s E I f t)):=by
              show Gd.Boxed _ _ _ _ _ _ _ _ _ _ _ _ _ _
              rw [uh hdE,uh hdI,uh hlv,show min (E4 t 10+2) 9=9 by omega]
              exact (uh hX3).stat t 10 (by omega) _
             go_region
             all_goals
              go_wp2_with fail
              go_meet
              exact hst
           case rest =>
            clear b5 r10 fE hX2 hX3 hlv hdE hdI
            have hX0:=hide (uh hcut)
            clear hcut
            obtain ⟨b0,b1,b2,b3,b4,b5,b6,b7,b8,b9,b10⟩:=(uh hX0).hold.box.eleven
            have fz:=(uh hX0).res.free
            obtain ⟨z0,z1,z2,z3,z4,z5,z6,z7,z8,z9,z10⟩:=Gd.res_cells (uh hX0).res
            have hfin:=hide (fun vs=>(uh hX0).worlds vs)
            go_upto_region 18 with fail
            generalize hQQ:Exit.then _ _=QQ
            go_wp2_with fail
            subst hQQ
            rename_i K hK
            refine hK _ _ (wp_ret ?_)
            refine bodyPost_ret (v:=.agg (Gd.world s jC jE jI dC dE dI g)) (by simp [results,Tryz.results96,go_sem,Gd.world,z0,z1,z2,z3,z4,z5,z6,z7,z8,z9,z10]) rfl ?_
            exact uh hfin [_,_,_,_,_,_,_,_,_,_,_]
          ·rw [if_neg (fun h=>hy h.2)] at hlv
           have hy':(Y == 0)=false:=by simpa using hy
           clear hy
           go_wp2_with fail
           refine (uh cdd).mono ?_
           rintro e wy ⟨rfl,hy⟩
           have hX0:Hid (Gd.Boxed w wy B jC jE jI dC dE dI s g c (Ft.blowE s E I f t) (Ft.blowI s E I f t)):=by
            show Gd.Boxed _ _ _ _ _ _ _ _ _ _ _ _ _ _
            rw [uh hdE,uh hdI,uh hlv,hy]
            exact uh hX1 _
           clear hy hX hX1 cdd b0 b1 b2 b3 b4 b5 b6 b7 b8 b9 b10 z0 hlv hdE hdI
           obtain ⟨b0,b1,b2,b3,b4,b5,b6,b7,b8,b9,b10⟩:=(uh hX0).hold.box.eleven
           have fz:=(uh hX0).res.free
           obtain ⟨z0,z1,z2,z3,z4,z5,z6,z7,z8,z9,z10⟩:=Gd.res_cells (uh hX0).res
           have hfin:=hide (fun vs=>(uh hX0).worlds vs)
           go_upto_region 18 with fail
           generalize hQQ:Exit.then _ _=QQ
           go_wp2_with fail
           subst hQQ
           rename_i K hK
           refine hK _ _ (wp_ret ?_)
           refine bodyPost_ret (v:=.agg (Gd.world s jC jE jI dC dE dI g)) (by simp [results,Tryz.results96,go_sem,Gd.world,z0,z1,z2,z3,z4,z5,z6,z7,z8,z9,z10]) rfl ?_
           exact uh hfin [_,_,_,_,_,_,_,_,_,_,_]
         ·rw [if_neg (fun h=>h3 h.1)] at hlv
          have h3':(E f 0 == 3)=false:=by simpa using h3
          have hX0:Hid (Gd.Boxed w wc B jC jE jI dC dE dI s g c (Ft.blowE s E I f t) (Ft.blowI s E I f t)):=by
           show Gd.Boxed _ _ _ _ _ _ _ _ _ _ _ _ _ _
           rw [uh hdE,uh hdI,uh hlv]
           exact uh hX
          clear h3 h4 hX hlv hdE hdI
          obtain ⟨b0,b1,b2,b3,b4,b5,b6,b7,b8,b9,b10⟩:=(uh hX0).hold.box.eleven
          have fz:=(uh hX0).res.free
          obtain ⟨z0,z1,z2,z3,z4,z5,z6,z7,z8,z9,z10⟩:=Gd.res_cells (uh hX0).res
          have hfin:=hide (fun vs=>(uh hX0).worlds vs)
          go_upto_region 18 with fail
          generalize hQQ:Exit.then _ _=QQ
          go_wp2_with fail
          subst hQQ
          rename_i K hK
          refine hK _ _ (wp_ret ?_)
          refine bodyPost_ret (v:=.agg (Gd.world s jC jE jI dC dE dI g)) (by simp [results,Tryz.results96,go_sem,Gd.world,z0,z1,z2,z3,z4,z5,z6,z7,z8,z9,z10]) rfl ?_
          exact uh hfin [_,_,_,_,_,_,_,_,_,_,_]

theorem refHit8_any (s g c:Nat→Int) (E I:Nat→Nat→Int) (gC gE gI cC cE cI:Nat) (f t:Int) (w:World) (hL:Gd.Lists w gC gE gI c E I) (hF:Ft.Fit c E I) :
  Calls Tryz.prog 96 #[.agg (Gd.world s gC gE gI cC cE cI g),.int .i64 f,.int .i64 t] w (Gd.Worlds w s g c (Ft.hitE s E I f t) (Ft.hitI s E I f t)):=by
 unfold Ft.hitE Ft.hitI
 by_cases h:Ft.there E f=true∧Ft.there E t=true
 ·rw [if_pos h,if_pos h]
  obtain ⟨a,ha,rfl,a0⟩:=Ft.there_pos h.1
  obtain ⟨b,hb,rfl,b0⟩:=Ft.there_pos h.2
  rw [Int.toNat_natCast,Int.toNat_natCast]
  exact refHit8_some s g c E I gC gE gI cC cE cI a b w hL hF ha hb a0 b0
 ·rw [if_neg h,if_neg h]
  exact refHit8_none s g c E I gC gE gI cC cE cI f t w hL h


open Go.RowKit

def Cr.Back (w:World) (gC gE gI:Nat) (s g c:Nat→Int) (E I:Nat→Nat→Int) (e:Ending) (w':World):Prop :=
 ∃jC jE jI dC dE dI,e=.returned (.agg (Gd.world s jC jE jI dC dE dI g))∧32≤dE∧(jC=gC∨w.heap.size≤jC)∧(jE=gE∨w.heap.size≤jE)∧(jI=gI∨w.heap.size≤jI)∧jC≠jE∧jC≠jI∧jE≠jI∧Gd.Lists w' jC jE jI c E I∧w.grownBy w' none

theorem Cr.back_of {w w':World} {gC gE gI:Nat} {s g c:Nat→Int} {E I:Nat→Nat→Int} {e:Ending} (h:Gd.Worlds w s g c E I e w'):Cr.Back w gC gE gI s g c E I e w':=by
 obtain ⟨jC,jE,jI,dC,dE,dI,he,hcap,l1,l2,l3,n1,n2,n3,hL,hg⟩:=h
 exact ⟨jC,jE,jI,dC,dE,dI,he,hcap,.inr l1,.inr l2,.inr l3,n1,n2,n3,hL,hg⟩

theorem Gd.Lent.back {w x:World} {B gC gE gI cC cE cI:Nat} {s g c:Nat→Int} {E I:Nat→Nat→Int} (h:Gd.Lent w x B gC gE gI cC cE cI s g c E I) (hcap:32≤cE) (n1:gC≠gE) (n2:gC≠gI) (n3:gE≠gI) (l1:gC<B) (l2:gE<B) (l3:gI<B) (vs:List Value) :
  Cr.Back w gC gE gI s g c E I (.returned (.agg (Gd.world s gC gE gI cC cE cI g))) (x.setCells (B+1) 0 vs):=by
 have r:=gss (g:=B+1) vs 0 x (World.grownBy.refl _ _)
 have h3:=h.at_
 exact ⟨gC,gE,gI,cC,cE,cI,rfl,hcap,.inl rfl,.inl rfl,.inl rfl,n1,n2,n3,⟨h.lists.cells.grown r (by simp;omega),h.lists.ents.grown r (by simp;omega),h.lists.items.grown r (by simp;omega)⟩,own_sets (by omega) _ 0 x h.grown⟩

theorem Gd.Lent.eleven {w x:World} {B gC gE gI cC cE cI:Nat} {s g c:Nat→Int} {E I:Nat→Nat→Int} (h:Gd.Lent w x B gC gE gI cC cE cI s g c E I) :
  x.cell? ⟨B,0,none⟩=some (.int .i64 (s 0))∧x.cell? ⟨B,1,none⟩=some (.int .i64 (s 1))∧x.cell? ⟨B,2,none⟩=some (.int .i64 (s 2))∧x.cell? ⟨B,3,none⟩=some (.int .i64 (s 3))∧x.cell? ⟨B,4,none⟩=some (.slice (some ⟨gC,0,none⟩) 384 cC)∧x.cell? ⟨B,5,none⟩=some (.slice (some ⟨gE,0,none⟩) 32 cE)∧x.cell? ⟨B,6,none⟩=some (.slice (some ⟨gI,0,none⟩) 40 cI)∧x.cell? ⟨B,7,none⟩=some (.int .i64 (g 0))∧x.cell? ⟨B,8,none⟩=some (.int .i64 (g 1))∧x.cell? ⟨B,9,none⟩=some (.int .i64 (g 2))∧x.cell? ⟨B,10,none⟩=some (.int .i64 (g 3)):=h.box.eleven

set_option maxRecDepth 8000 in
set_option maxHeartbeats 12800000 in
theorem refAct_any (s g c:Nat→Int) (E I:Nat→Nat→Int) (gC gE gI cC cE cI k:Nat) (d:Int) (foe:Bool) (w:World) (hL:Gd.Lists w gC gE gI c E I) (hcE:32≤cE) (n1:gC≠gE) (n2:gC≠gI) (n3:gE≠gI) (hS:Cr.Sane c E I) (hk:k<32) (k0:E k 0≠0) :
  Calls Tryz.prog 60 #[.agg (Gd.world s gC gE gI cC cE cI g),.int .i64 (k:Int),.int .i64 d,.bool foe] w (Cr.Back w gC gE gI s g c (Cr.act s c E I k d foe).1 (Cr.act s c E I k d foe).2):=by
 obtain ⟨w0,hw0,hbox,hres,hg0,hsz⟩:=Gd.boxes w gC gE gI cC cE cI s g
 obtain ⟨B,hB⟩:∃B,w.heap.size=B:=⟨_,rfl⟩
 rw [hB] at hbox hres hsz
 have hO:Hid (Gd.Lent w w0 B gC gE gI cC cE cI s g c E I):=⟨hbox,hL.on hg0,hB,hres,hg0⟩
 have lC:gC<B:=by rw [←hB];exact hL.cells.lt
 have lE:gE<B:=by rw [←hB];exact hL.ents.lt
 have lI:gI<B:=by rw [←hB];exact hL.items.lt
 have hret:Hid (∀(x:World),Gd.Lent w x B gC gE gI cC cE cI s g c E I→∀vs,Cr.Back w gC gE gI s g c E I (.returned (.agg (Gd.world s gC gE gI cC cE cI g))) (x.setCells (B+1) 0 vs)):=fun x h vs=>h.back hcE n1 n2 n3 lC lE lI vs
 obtain ⟨a1,a2,a3,a4,a5⟩:=hS.set.stands.on k hk k0
 have hxy:=hide (show (0≤E k 3∧E k 3<24)∧0≤E k 4∧E k 4<16 from ⟨⟨a1,a2⟩,a3,a4⟩)
 have HK:=hide hk
 have hk':(k:Int)<32:=by omega
 have hS':=hide hS
 have hB':=hide hB
 clear hL hbox hres hg0 hsz hcE n1 n2 n3 lC lE lI hS hk k0 a1 a2 a3 a4 a5 hB
 have hdef:Hid (Cr.act s c E I k d foe=if d<1∨4<d then (E,I) else if 0≤Cr.who E k d then (if decide (E (Cr.who E k d).toNat 0=1)=foe then (Ft.hitE s E I (k:Int) (Cr.who E k d),Ft.hitI s E I (k:Int) (Cr.who E k d)) else (E,I)) else if Gr.walkB (Gr.at 384 c (E k 3+(Fx.way d).1) (E k 4+(Fx.way d).2))=true then (Cr.go E k (E k 3+(Fx.way d).1) (E k 4+(Fx.way d).2),I) else (E,I)):=rfl
 have hwho:Hid (Cr.who E k d=En.first (En.atQ E (E k 3+(Fx.way d).1) (E k 4+(Fx.way d).2)) 32):=rfl
 have cw:=hide (fun wq=>refWay_any d wq)
 unfold Gd.world at hw0 hret ⊢
 by_cases hd:d<1∨4<d
 ·rw [uh hdef,if_pos hd]
  rw [Fx.way_none d hd] at cw
  clear hdef hwho
  go_enter Tryz.func60,Tryz.ntmps60
  go_upto_region 1 with fail
  rw [←hw0,uh hB']
  clear hw0
  go_wp2_with fail
  refine (uh cw _).mono ?_
  rintro e wy ⟨rfl,hy⟩
  subst wy
  obtain ⟨b0,b1,b2,b3,b4,b5,b6,b7,b8,b9,b10⟩:=(uh hO).eleven
  have fz:=(uh hO).res.free
  obtain ⟨z0,z1,z2,z3,z4,z5,z6,z7,z8,z9,z10⟩:=Gd.res_cells (uh hO).res
  have hfin:=hide (fun vs=>uh hret _ (uh hO) vs)
  clear cw hd
  go_wp2
  refine bodyPost_ret (v:=.agg (Gd.world s gC gE gI cC cE cI g)) (by simp [results,Tryz.results60,go_sem,Gd.world,z0,z1,z2,z3,z4,z5,z6,z7,z8,z9,z10]) rfl ?_
  exact uh hfin [_,_,_,_,_,_,_,_,_,_,_]
 rw [uh hdef,if_neg hd]
 have cz:=hide (fun z (hz:Gd.Lists z gC gE gI c E I)=>entRefAt_same gE 32 cE E (E k 3+(Fx.way d).1) (E k 4+(Fx.way d).2) z hz.own.ents)
 have ca:=hide (fun z (hz:Gd.Lists z gC gE gI c E I)=>refAt_any z.heap.size (some ⟨gC,0,none⟩) 384 cC c (E k 3+(Fx.way d).1) (E k 4+(Fx.way d).2) z hz.vec (uh hS').fit.cells)
 have ck:=hide (fun wq=>refWalk_any (Gr.at 384 c (E k 3+(Fx.way d).1) (E k 4+(Fx.way d).2)) wq)
 have wb:=Fx.way_bd d
 have hne:¬((Fx.way d).1=0∧(Fx.way d).2=0):=by
  obtain ⟨n,rfl⟩:∃n:Nat,d=(n:Int):=⟨d.toNat,by omega⟩
  have:=Md.way_some (d:=n) (by omega) (by omega) 0 0
  omega
 have k1:=uh hxy
 have x1:IntKind.i64.wrap (E k 3+(Fx.way d).1)=E k 3+(Fx.way d).1:=by rw [IntKind.wrap_i64];omega
 have y1:IntKind.i64.wrap (E k 4+(Fx.way d).2)=E k 4+(Fx.way d).2:=by rw [IntKind.wrap_i64];omega
 rw [uh hwho]
 obtain ⟨z,hz⟩:∃z,En.first (En.atQ E (E k 3+(Fx.way d).1) (E k 4+(Fx.way d).2)) 32=z:=⟨_,rfl⟩
 have hzr:z=-1∨∃j:Nat,j<32∧z=(j:Int):=by
  rw [←hz]
  rcases En.first_cases (En.atQ E (E k 3+(Fx.way d).1) (E k 4+(Fx.way d).2)) 32 with ⟨he,_⟩ | ⟨j,hj,he,_⟩
  ·exact .inl he
  ·exact .inr ⟨j,hj,he⟩
 obtain ⟨A,hA⟩:∃A,Gr.at 384 c (E k 3+(Fx.way d).1) (E k 4+(Fx.way d).2)=A:=⟨_,rfl⟩
 obtain ⟨wk,hwk⟩:∃wk,Gr.walkB A=wk:=⟨_,rfl⟩
 rw [hz] at cz ⊢
 rw [hA] at ca ck ⊢
 rw [hwk] at ck ⊢
 obtain ⟨dx,hdx⟩:∃dx,(Fx.way d).1=dx:=⟨_,rfl⟩
 obtain ⟨dy,hdy⟩:∃dy,(Fx.way d).2=dy:=⟨_,rfl⟩
 rw [hdx] at cw cz ca x1 hne ⊢
 rw [hdy] at cw cz ca y1 hne ⊢
 have hzr':=hide hzr
 have hne':=hide hne
 obtain ⟨P,hPe⟩:∃P,Cr.Back w gC gE gI s g c (if 0≤z then (if decide (E z.toNat 0=1)=foe then (Ft.hitE s E I (k:Int) z,Ft.hitI s E I (k:Int) z) else (E,I)) else if wk=true then (Cr.go E k (E k 3+dx) (E k 4+dy),I) else (E,I)).1 (if 0≤z then (if decide (E z.toNat 0=1)=foe then (Ft.hitE s E I (k:Int) z,Ft.hitI s E I (k:Int) z) else (E,I)) else if wk=true then (Cr.go E k (E k 3+dx) (E k 4+dy),I) else (E,I)).2=P:=⟨_,rfl⟩
 have hfin:Hid (∀F J e w',(if 0≤z then (if decide (E z.toNat 0=1)=foe then (Ft.hitE s E I (k:Int) z,Ft.hitI s E I (k:Int) z) else (E,I)) else if wk=true then (Cr.go E k (E k 3+dx) (E k 4+dy),I) else (E,I))=(F,J)→Cr.Back w gC gE gI s g c F J e w'→P e w'):=fun F J e w' h1 h2=>by
  rw [←hPe,h1]
  exact h2
 rw [hPe]
 clear hz hA hwk hdx hdy wb k1 hdef hwho hzr hne hd hPe
 go_enter Tryz.func60,Tryz.ntmps60
 go_upto_region 1 with fail
 rw [←hw0,uh hB']
 clear hw0
 go_wp2_with fail
 refine (uh cw _).mono ?_
 rintro e wy ⟨rfl,hy⟩
 subst wy
 clear cw
 go_upto_region 2 with fail
 go_cut [24] from 19 to 24 (fun va wx=>va=.bool false∧wx=w0)
 case first =>
  by_cases h0:dx=0
  ·have h1:(dy == 0)=false:=by have:=uh hne';simp;omega
   subst h0
   go_wp2_with fail
   go_meet
   exact ⟨rfl,rfl⟩
  ·have h1:(dx == 0)=false:=by simpa using h0
   clear h0
   go_wp2_with fail
   go_meet
   exact ⟨rfl,rfl⟩
 case rest =>
  obtain ⟨rfl,hwe⟩:=hcut
  subst hwe
  clear hne'
  have q5:=(uh hO).eleven.2.2.2.2.2.1
  have r3:=((uh hO).lists.own.ents.row (uh HK)).2.2.2.1
  have r4:=((uh hO).lists.own.ents.row (uh HK)).2.2.2.2.1
  go_upto_region 4 with fail
  go_cut [11,12] from 26 to 41 (fun va vb wx=>va=.int .i64 (E k 3+dx)∧vb=.int .i64 (E k 4+dy)∧Hid (Gd.Lent w wx B gC gE gI cC cE cI s g c E I))
  case first =>
   go_quiet (fail)
   go_wp2_with fail
   go_meet
   exact ⟨rfl,rfl,(uh hO).on (gdw (World.grownBy.refl _ none) _)⟩
  case rest =>
   clear hO q5 r3 r4 x1 y1
   obtain ⟨rfl,rfl,hO⟩:=hcut
   have q5:=(uh hO).eleven.2.2.2.2.2.1
   have cz':=hide (uh cz _ (uh hO).lists)
   go_wp2_with fail
   refine (uh cz').mono ?_
   rintro e wy ⟨rfl,hy⟩
   subst wy
   clear cz cz'
   rcases uh hzr' with rfl | ⟨j,hj,rfl⟩
   ·have q4:=(uh hO).eleven.2.2.2.2.1
    have ca':=hide (uh ca _ (uh hO).lists)
    clear hzr' q5
    go_wp2_with fail
    refine (uh ca').mono ?_
    rintro e wy ⟨rfl,hy⟩
    subst wy
    go_wp2_with fail
    refine (uh ck _).mono ?_
    rintro e wy ⟨rfl,hy⟩
    subst wy
    clear ca ca' ck q4
    obtain ⟨b0,b1,b2,b3,b4,b5,b6,b7,b8,b9,b10⟩:=(uh hO).eleven
    cases wk
    ·have hf:=hide (fun e w'=>uh hfin E I e w' (by rw [if_neg (by omega),if_neg (by simp)]))
     clear hfin
     have fz:=(uh hO).res.free
     obtain ⟨z0,z1,z2,z3,z4,z5,z6,z7,z8,z9,z10⟩:=Gd.res_cells (uh hO).res
     have hfo:=hide (fun vs=>uh hret _ (uh hO) vs)
     go_wp2
     refine bodyPost_ret (v:=.agg (Gd.world s gC gE gI cC cE cI g)) (by simp [results,Tryz.results60,go_sem,Gd.world,z0,z1,z2,z3,z4,z5,z6,z7,z8,z9,z10]) rfl ?_
     exact uh hf _ _ (uh hfo [_,_,_,_,_,_,_,_,_,_,_])
    ·have hf:=hide (fun e w'=>uh hfin (Cr.go E k (E k 3+dx) (E k 4+dy)) I e w' (by rw [if_neg (by omega),if_pos rfl]))
     clear hfin
     have ct:=hide (refTwin_any s g c E I gC gE gI cC cE cI _ (uh hO).lists)
     unfold Gd.world at ct
     go_wp2_with fail
     refine (uh ct).mono ?_
     rintro e w1 ⟨jC,jE,jI,dC,dE,dI,rfl,hcap,l1,l2,l3,n1,n2,n3,hL,hg⟩
     have hX:Hid (Gd.Boxed w (((((((((((w1.setCell ⟨B,0,none⟩ (.int .i64 (s 0))).setCell ⟨B,1,none⟩ (.int .i64 (s 1))).setCell ⟨B,2,none⟩ (.int .i64 (s 2))).setCell ⟨B,3,none⟩ (.int .i64 (s 3))).setCell ⟨B,4,none⟩ (.slice (some ⟨jC,0,none⟩) 384 dC)).setCell ⟨B,5,none⟩ (.slice (some ⟨jE,0,none⟩) 32 dE)).setCell ⟨B,6,none⟩ (.slice (some ⟨jI,0,none⟩) 40 dI)).setCell ⟨B,7,none⟩ (.int .i64 (g 0))).setCell ⟨B,8,none⟩ (.int .i64 (g 1))).setCell ⟨B,9,none⟩ (.int .i64 (g 2))).setCell ⟨B,10,none⟩ (.int .i64 (g 3))) B jC jE jI dC dE dI s g c E I):=(uh hO).over (s':=s) (g':=g) (dC:=dC) (dI:=dI) hcap l1 l2 l3 n1 n2 n3 hL hg
     obtain ⟨y0,y1,y2,y3,y4,y5,y6,y7,y8,y9,y10⟩:=((uh hO).on hg).eleven
     have fB:=((uh hO).on hg).box.free
     clear hcap l1 l2 l3 n1 n2 n3 hL hg ct b0 b1 b2 b3 b4 b5 b6 b7 b8 b9 b10 hO hret
     unfold Gd.world
     go_upto_region 12 with fail
     generalize (((((((((((w1.setCell ⟨B,0,none⟩ (.int .i64 (s 0))).setCell ⟨B,1,none⟩ (.int .i64 (s 1))).setCell ⟨B,2,none⟩ (.int .i64 (s 2))).setCell ⟨B,3,none⟩ (.int .i64 (s 3))).setCell ⟨B,4,none⟩ (.slice (some ⟨jC,0,none⟩) 384 dC)).setCell ⟨B,5,none⟩ (.slice (some ⟨jE,0,none⟩) 32 dE)).setCell ⟨B,6,none⟩ (.slice (some ⟨jI,0,none⟩) 40 dI)).setCell ⟨B,7,none⟩ (.int .i64 (g 0))).setCell ⟨B,8,none⟩ (.int .i64 (g 1))).setCell ⟨B,9,none⟩ (.int .i64 (g 2))).setCell ⟨B,10,none⟩ (.int .i64 (g 3)))=w2 at hX ⊢
     clear y0 y1 y2 y3 y4 y5 y6 y7 y8 y9 y10 fB
     have hgo:Hid (Cr.go E k (E k 3+dx) (E k 4+dy)=Gd.set (Gd.set E k 3 (E k 3+dx)) k 4 (E k 4+dy)):=rfl
     rw [uh hgo] at hf
     obtain ⟨X,hXe⟩:∃X,E k 3+dx=X:=⟨_,rfl⟩
     obtain ⟨Y,hYe⟩:∃Y,E k 4+dy=Y:=⟨_,rfl⟩
     rw [hXe,hYe] at hf ⊢
     clear hXe hYe hgo
     go_cut [] from 71 to 82 (fun wx=>Hid (Gd.Boxed w wx B jC jE jI dC dE dI s g c (Gd.set (Gd.set E k 3 X) k 4 Y) I))
     case first =>
      have b5:=(uh hX).hold.box.eleven.2.2.2.2.2.1
      have fE:=(uh hX).hold.lists.ents.free
      have r3:=((uh hX).hold.lists.own.ents.row (uh HK)).2.2.2.1
      have r4:=((uh hX).hold.lists.own.ents.row (uh HK)).2.2.2.2.1
      have hTE:B≠jE:=(uh hX).hold.bE
      have hET:jE≠B:=hTE.symm
      go_region
      all_goals (go_wp2_with fail;go_meet)
      exact (((uh hX).stat k 3 (by omega) X).stat k 4 (by omega) Y).on (gd1 (World.grownBy.refl _ none))
     case rest =>
      clear hX
      have hX:=hcut
      clear hcut
      obtain ⟨b0,b1,b2,b3,b4,b5,b6,b7,b8,b9,b10⟩:=(uh hX).hold.box.eleven
      have fz:=(uh hX).res.free
      obtain ⟨z0,z1,z2,z3,z4,z5,z6,z7,z8,z9,z10⟩:=Gd.res_cells (uh hX).res
      have hfo:=hide (fun vs=>Cr.back_of (gC:=gC) (gE:=gE) (gI:=gI) ((uh hX).worlds vs))
      go_wp2
      refine bodyPost_ret (v:=.agg (Gd.world s jC jE jI dC dE dI g)) (by simp [results,Tryz.results60,go_sem,Gd.world,z0,z1,z2,z3,z4,z5,z6,z7,z8,z9,z10]) rfl ?_
      exact uh hf _ _ (uh hfo [_,_,_,_,_,_,_,_,_,_,_])
   ·have hj':(j:Int)<32:=by omega
    have hjp:(j:Int)≥0:=by omega
    have u0:=((uh hO).lists.own.ents.row hj).1
    have ct:=hide (refHit8_any s g c E I gC gE gI cC cE cI (k:Int) (j:Int) _ (uh hO).lists (uh hS').fit)
    obtain ⟨eq,heq⟩:∃eq,decide (E j 0=1)=eq:=⟨_,rfl⟩
    have hbeq:(E j 0 == 1)=eq:=by rw [←heq];rfl
    have hfj:Hid (∀F J e w',(if eq=foe then (Ft.hitE s E I (k:Int) (j:Int),Ft.hitI s E I (k:Int) (j:Int)) else (E,I))=(F,J)→Cr.Back w gC gE gI s g c F J e w'→P e w'):=fun F J e w' h1 h2=>uh hfin F J e w' (by rw [if_pos (by omega),Int.toNat_natCast,heq];exact h1) h2
    clear hzr' heq hj ca ck hfin
    obtain ⟨b0,b1,b2,b3,b4,b5,b6,b7,b8,b9,b10⟩:=(uh hO).eleven
    cases foe <;> cases eq
    ·have hf:=hide (fun e w'=>uh hfj _ _ e w' (if_pos rfl))
     clear hfj
     unfold Gd.world at ct
     go_wp2_with fail
     refine (uh ct).mono ?_
     rintro e w1 ⟨jC,jE,jI,dC,dE,dI,rfl,hcap,l1,l2,l3,n1,n2,n3,hL,hg⟩
     have hX:Hid (Gd.Boxed w (((((((((((w1.setCell ⟨B,0,none⟩ (.int .i64 (s 0))).setCell ⟨B,1,none⟩ (.int .i64 (s 1))).setCell ⟨B,2,none⟩ (.int .i64 (s 2))).setCell ⟨B,3,none⟩ (.int .i64 (s 3))).setCell ⟨B,4,none⟩ (.slice (some ⟨jC,0,none⟩) 384 dC)).setCell ⟨B,5,none⟩ (.slice (some ⟨jE,0,none⟩) 32 dE)).setCell ⟨B,6,none⟩ (.slice (some ⟨jI,0,none⟩) 40 dI)).setCell ⟨B,7,none⟩ (.int .i64 (g 0))).setCell ⟨B,8,none⟩ (.int .i64 (g 1))).setCell ⟨B,9,none⟩ (.int .i64 (g 2))).setCell ⟨B,10,none⟩ (.int .i64 (g 3))) B jC jE jI dC dE dI s g c (Ft.hitE s E I (k:Int) (j:Int)) (Ft.hitI s E I (k:Int) (j:Int))):=(uh hO).over (s':=s) (g':=g) (dC:=dC) (dI:=dI) hcap l1 l2 l3 n1 n2 n3 hL hg
     obtain ⟨y0,y1,y2,y3,y4,y5,y6,y7,y8,y9,y10⟩:=((uh hO).on hg).eleven
     have fB:=((uh hO).on hg).box.free
     clear hcap l1 l2 l3 n1 n2 n3 hL hg ct b0 b1 b2 b3 b4 b5 b6 b7 b8 b9 b10 hO hret
     unfold Gd.world
     go_upto_region 9 with fail
     generalize (((((((((((w1.setCell ⟨B,0,none⟩ (.int .i64 (s 0))).setCell ⟨B,1,none⟩ (.int .i64 (s 1))).setCell ⟨B,2,none⟩ (.int .i64 (s 2))).setCell ⟨B,3,none⟩ (.int .i64 (s 3))).setCell ⟨B,4,none⟩ (.slice (some ⟨jC,0,none⟩) 384 dC)).setCell ⟨B,5,none⟩ (.slice (some ⟨jE,0,none⟩) 32 dE)).setCell ⟨B,6,none⟩ (.slice (some ⟨jI,0,none⟩) 40 dI)).setCell ⟨B,7,none⟩ (.int .i64 (g 0))).setCell ⟨B,8,none⟩ (.int .i64 (g 1))).setCell ⟨B,9,none⟩ (.int .i64 (g 2))).setCell ⟨B,10,none⟩ (.int .i64 (g 3)))=w2 at hX ⊢
     clear y0 y1 y2 y3 y4 y5 y6 y7 y8 y9 y10 fB
     obtain ⟨b0,b1,b2,b3,b4,b5,b6,b7,b8,b9,b10⟩:=(uh hX).hold.box.eleven
     have fz:=(uh hX).res.free
     obtain ⟨z0,z1,z2,z3,z4,z5,z6,z7,z8,z9,z10⟩:=Gd.res_cells (uh hX).res
     have hfo:=hide (fun vs=>Cr.back_of (gC:=gC) (gE:=gE) (gI:=gI) ((uh hX).worlds vs))
     go_wp2
     refine bodyPost_ret (v:=.agg (Gd.world s jC jE jI dC dE dI g)) (by simp [results,Tryz.results60,go_sem,Gd.world,z0,z1,z2,z3,z4,z5,z6,z7,z8,z9,z10]) rfl ?_
     exact uh hf _ _ (uh hfo [_,_,_,_,_,_,_,_,_,_,_])
    ·have hf:=hide (fun e w'=>uh hfj E I e w' (if_neg (by simp)))
     clear hfj ct
     have fz:=(uh hO).res.free
     obtain ⟨z0,z1,z2,z3,z4,z5,z6,z7,z8,z9,z10⟩:=Gd.res_cells (uh hO).res
     have hfo:=hide (fun vs=>uh hret _ (uh hO) vs)
     go_wp2
     refine bodyPost_ret (v:=.agg (Gd.world s gC gE gI cC cE cI g)) (by simp [results,Tryz.results60,go_sem,Gd.world,z0,z1,z2,z3,z4,z5,z6,z7,z8,z9,z10]) rfl ?_
     exact uh hf _ _ (uh hfo [_,_,_,_,_,_,_,_,_,_,_])
    ·have hf:=hide (fun e w'=>uh hfj E I e w' (if_neg (by simp)))
     clear hfj ct
     have fz:=(uh hO).res.free
     obtain ⟨z0,z1,z2,z3,z4,z5,z6,z7,z8,z9,z10⟩:=Gd.res_cells (uh hO).res
     have hfo:=hide (fun vs=>uh hret _ (uh hO) vs)
     go_wp2
     refine bodyPost_ret (v:=.agg (Gd.world s gC gE gI cC cE cI g)) (by simp [results,Tryz.results60,go_sem,Gd.world,z0,z1,z2,z3,z4,z5,z6,z7,z8,z9,z10]) rfl ?_
     exact uh hf _ _ (uh hfo [_,_,_,_,_,_,_,_,_,_,_])
    ·have hf:=hide (fun e w'=>uh hfj _ _ e w' (if_pos rfl))
     clear hfj
     unfold Gd.world at ct
     go_wp2_with fail
     refine (uh ct).mono ?_
     rintro e w1 ⟨jC,jE,jI,dC,dE,dI,rfl,hcap,l1,l2,l3,n1,n2,n3,hL,hg⟩
     have hX:Hid (Gd.Boxed w (((((((((((w1.setCell ⟨B,0,none⟩ (.int .i64 (s 0))).setCell ⟨B,1,none⟩ (.int .i64 (s 1))).setCell ⟨B,2,none⟩ (.int .i64 (s 2))).setCell ⟨B,3,none⟩ (.int .i64 (s 3))).setCell ⟨B,4,none⟩ (.slice (some ⟨jC,0,none⟩) 384 dC)).setCell ⟨B,5,none⟩ (.slice (some ⟨jE,0,none⟩) 32 dE)).setCell ⟨B,6,none⟩ (.slice (some ⟨jI,0,none⟩) 40 dI)).setCell ⟨B,7,none⟩ (.int .i64 (g 0))).setCell ⟨B,8,none⟩ (.int .i64 (g 1))).setCell ⟨B,9,none⟩ (.int .i64 (g 2))).setCell ⟨B,10,none⟩ (.int .i64 (g 3))) B jC jE jI dC dE dI s g c (Ft.hitE s E I (k:Int) (j:Int)) (Ft.hitI s E I (k:Int) (j:Int))):=(uh hO).over (s':=s) (g':=g) (dC:=dC) (dI:=dI) hcap l1 l2 l3 n1 n2 n3 hL hg
     obtain ⟨y0,y1,y2,y3,y4,y5,y6,y7,y8,y9,y10⟩:=((uh hO).on hg).eleven
     have fB:=((uh hO).on hg).box.free
     clear hcap l1 l2 l3 n1 n2 n3 hL hg ct b0 b1 b2 b3 b4 b5 b6 b7 b8 b9 b10 hO hret
     unfold Gd.world
     go_upto_region 9 with fail
     generalize (((((((((((w1.setCell ⟨B,0,none⟩ (.int .i64 (s 0))).setCell ⟨B,1,none⟩ (.int .i64 (s 1))).setCell ⟨B,2,none⟩ (.int .i64 (s 2))).setCell ⟨B,3,none⟩ (.int .i64 (s 3))).setCell ⟨B,4,none⟩ (.slice (some ⟨jC,0,none⟩) 384 dC)).setCell ⟨B,5,none⟩ (.slice (some ⟨jE,0,none⟩) 32 dE)).setCell ⟨B,6,none⟩ (.slice (some ⟨jI,0,none⟩) 40 dI)).setCell ⟨B,7,none⟩ (.int .i64 (g 0))).setCell ⟨B,8,none⟩ (.int .i64 (g 1))).setCell ⟨B,9,none⟩ (.int .i64 (g 2))).setCell ⟨B,10,none⟩ (.int .i64 (g 3)))=w2 at hX ⊢
     clear y0 y1 y2 y3 y4 y5 y6 y7 y8 y9 y10 fB
     obtain ⟨b0,b1,b2,b3,b4,b5,b6,b7,b8,b9,b10⟩:=(uh hX).hold.box.eleven
     have fz:=(uh hX).res.free
     obtain ⟨z0,z1,z2,z3,z4,z5,z6,z7,z8,z9,z10⟩:=Gd.res_cells (uh hX).res
     have hfo:=hide (fun vs=>Cr.back_of (gC:=gC) (gE:=gE) (gI:=gI) ((uh hX).worlds vs))
     go_wp2
     refine bodyPost_ret (v:=.agg (Gd.world s jC jE jI dC dE dI g)) (by simp [results,Tryz.results60,go_sem,Gd.world,z0,z1,z2,z3,z4,z5,z6,z7,z8,z9,z10]) rfl ?_
     exact uh hf _ _ (uh hfo [_,_,_,_,_,_,_,_,_,_,_])


open Go.RowKit

theorem Cr.Hand.back {w x:World} {B R gC gE gI cC cE cI oC oE oI:Nat} {s g c:Nat→Int} {E I:Nat→Nat→Int} (h:Cr.Hand w x B gC gE gI cC cE cI s g c E I) (lR:w.heap.size≤R) (nC:R≠gC) (nE:R≠gE) (nI:R≠gI) (l1:gC=oC∨w.heap.size≤gC) (l2:gE=oE∨w.heap.size≤gE) (l3:gI=oI∨w.heap.size≤gI) (vs:List Value) :
  Cr.Back w oC oE oI s g c E I (.returned (.agg (Gd.world s gC gE gI cC cE cI g))) (x.setCells R 0 vs):=by
 have r:=gss (g:=R) vs 0 x (World.grownBy.refl _ _)
 exact ⟨gC,gE,gI,cC,cE,cI,rfl,h.cap,l1,l2,l3,h.hold.cE,h.hold.cI,h.hold.eI,⟨h.hold.lists.cells.grown r (by simpa using nC),h.hold.lists.ents.grown r (by simpa using nE),h.hold.lists.items.grown r (by simpa using nI)⟩,own_sets lR _ 0 x h.grown⟩

end Go.Proofs.YtkcooekhigmioaaGreat
