import Derived.Test.YtbanjoflgoiegaaGreatPs26
import Derived.Test.YtbanjoflgoiegaaGreatPs32
namespace Go.Proofs.YtbanjoflgoiegaaGreat
open Go.RowKit

theorem isThere_any (b c:Nat) (E:Nat→Nat→Int) (row:Int) (w:World) (hE:Own w b 32 E) :
  Calls Tryz.prog 119 #[.slice (some ⟨b,0,none⟩) 32 c,.int .i64 row] w fun e w'=>e=.returned (.bool (Ft.there E row))∧w'=w:=by
 by_cases h0:0≤row
 ·by_cases h1:row<32
  ·obtain ⟨k,rfl⟩:∃k:Nat,row=(k:Int):=⟨row.toNat,by omega⟩
   have hk:k<32:=by omega
   have u0:=(hE.ents.row hk).1
   have hr:=hide (Ft.there_at (E:=E) hk)
   clear hE h0
   by_cases hz:E k 0=0
   ·rw [hz] at u0
    have hr2:Hid (Ft.there E (k:Int)=false):=(uh hr).trans (by simp [hz])
    clear hz hr
    go_enter Tryz.func119,Tryz.ntmps119
    go_wp2
    go_ret
    exact ⟨ret_bool (uh hr2).symm,rfl⟩
   ·have hr2:Hid (Ft.there E (k:Int)=true):=(uh hr).trans (by simp [hz])
    have hz':(E k 0 == 0)=false:=by simpa using hz
    have hz2:Hid ((E k 0 != 0)=true):=(show (E k 0 != 0)=true by simpa using hz)
    clear hr
    go_enter Tryz.func119,Tryz.ntmps119
    go_wp2
    go_ret
    exact ⟨ret_bool ((uh hz2).trans (uh hr2).symm),rfl⟩
  ·have hr2:Hid (Ft.there E row=false):=by
    show Ft.there E row=false
    unfold Ft.there
    rw [decide_eq_false (by omega)]
    rfl
   clear hE
   go_enter Tryz.func119,Tryz.ntmps119
   go_wp2
   go_ret
   exact ⟨ret_bool (uh hr2).symm,rfl⟩
 ·have hr2:Hid (Ft.there E row=false):=by
   show Ft.there E row=false
   unfold Ft.there
   rw [decide_eq_false (by omega)]
   rfl
  clear hE
  go_enter Tryz.func119,Tryz.ntmps119
  go_wp2
  go_ret
  exact ⟨ret_bool (uh hr2).symm,rfl⟩

theorem Row.four (w:World) (a b c d:Int) (T:TypeId):Row (w.alloc (.cells #[.int .i64 a,.int .i64 b,.int .i64 c,.int .i64 d] T)) (some ⟨w.heap.size,0,none⟩) 4 [a,b,c,d]:=by
 refine ⟨rfl,by unfold maxLen;omega,.inr ⟨w.heap.size,0,rfl,fun i hi=>?_⟩⟩
 have h:=Arr.lit (heap_alloc_new w (.cells #[.int .i64 a,.int .i64 b,.int .i64 c,.int .i64 d] T))
 rw [Nat.zero_add,h.cell (i:=i) hi]
 rcases (show i=0∨i=1∨i=2∨i=3 by omega) with rfl | rfl | rfl | rfl <;> rfl

set_option maxHeartbeats 1600000 in
theorem throw_any (s g:Nat→Int) (gC gE gI cC cE cI:Nat) (n f t v:Int) (w:World) (hn:n≤9223372036854775807) :
  Calls Tryz.prog 173 #[.agg (Gd.world s gC gE gI cC cE cI g),.int .i64 n,.int .i64 f,.int .i64 t,.int .i64 v] w (Says w (.int .i64 (Dc.die n (s 0) [s 1,f,t,v]))):=by
 obtain ⟨w0,hw0⟩:∃w0,w0=w.alloc (.cells (Gd.world s gC gE gI cC cE cI g) 30):=⟨_,rfl⟩
 have hbox:Lie w0 w.heap.size 30 11 (Gd.box s gC gE gI cC cE cI g):=by rw [hw0];exact (Arr.world (heap_alloc_new w _)).lie
 have hg0:=hide (show w.grownBy w0 none by rw [hw0];exact World.grownBy_alloc _ _ _)
 have q0:=hbox.eleven.1
 have q1:=hbox.eleven.2.1
 have cd:=hide (die_row n (s 0) (some ⟨w0.heap.size,0,none⟩) 4 4 [s 1,f,t,v] (w0.alloc (.cells #[.int .i64 (s 1),.int .i64 f,.int .i64 t,.int .i64 v] 3)) (Row.four w0 (s 1) f t v 3) hn)
 obtain ⟨D,hD⟩:∃D,Dc.die n (s 0) [s 1,f,t,v]=D:=⟨_,rfl⟩
 rw [hD] at cd ⊢
 clear hbox hD hn
 unfold Gd.world at hw0 ⊢
 go_enter Tryz.func173,Tryz.ntmps173
 go_upto_region 1 with fail
 obtain ⟨B,hB⟩:∃B,w.heap.size=B:=⟨_,rfl⟩
 rw [←hw0]
 rw [hB] at q0 q1 ⊢
 clear hw0 hB
 have hfin:=hide (gal (uh hg0) (.cells #[.int .i64 (s 1),.int .i64 f,.int .i64 t,.int .i64 v] 3))
 go_wp2_with fail
 refine (uh cd).mono ?_
 rintro e w' ⟨rfl,hw⟩
 subst w'
 go_wp2
 go_ret
 exact ⟨rfl,uh hfin⟩

set_option maxRecDepth 8000 in
set_option maxHeartbeats 3200000 in
theorem strength_any (s g c:Nat→Int) (E I:Nat→Nat→Int) (gC gE gI cC cE cI k:Nat) (w:World) (hL:Gd.Lists w gC gE gI c E I) (hk:k<32) (h7:0≤E k 7) (h7':E k 7≤5) (h8:0≤E k 8) (h8':E k 8≤1) :
  Calls Tryz.prog 172 #[.agg (Gd.world s gC gE gI cC cE cI g),.int .i64 (k:Int)] w (Says w (.tuple #[.int .i64 (Ft.arm E I k),.int .i64 (Ft.guard E I k)])):=by
 obtain ⟨w0,hw0⟩:∃w0,w0=w.alloc (.cells (Gd.world s gC gE gI cC cE cI g) 30):=⟨_,rfl⟩
 have hbox:Hid (Lie w0 w.heap.size 30 11 (Gd.box s gC gE gI cC cE cI g)):=by
  show Lie w0 w.heap.size _ 11 _
  rw [hw0]
  exact (Arr.world (heap_alloc_new w _)).lie
 have hg0:=hide (show w.grownBy w0 none by rw [hw0];exact World.grownBy_alloc _ _ _)
 have hL0:=hide (hL.on (uh hg0))
 have q5:=(uh hbox).eleven.2.2.2.2.2.1
 obtain ⟨u0,u1,u2,u3,u4,u5,u6,u7,u8,u9,u10⟩:=(uh hL0).own.ents.row hk
 have hk':(k:Int)<32:=by omega
 have cb:=hide (fun x hx=>bonus_any s g c E I gC gE gI cC cE cI (E k 2) x hx)
 have hT3:Hid (∀b,0≤Gd.three b∧Gd.three b≤3):=fun b=>by unfold Gd.three;split <;> omega
 have hT2:Hid (∀b,0≤Gd.two b∧Gd.two b≤2):=fun b=>by unfold Gd.two;split <;> omega
 have ha:Hid (Ft.arm E I k=E k 7+if E k 0=1 then Gd.three (Gd.wornK I (E k 2) 2 40) else 0):=rfl
 have hd:Hid (Ft.guard E I k=E k 8+if E k 0=1 then Gd.two (Gd.wornK I (E k 2) 3 40) else 0):=rfl
 obtain ⟨AA,hAA⟩:∃x,Ft.arm E I k=x:=⟨_,rfl⟩
 obtain ⟨DD,hDD⟩:∃x,Ft.guard E I k=x:=⟨_,rfl⟩
 rw [hAA] at ha ⊢
 rw [hDD] at hd ⊢
 clear hL hk hAA hDD
 unfold Gd.world at hw0 ⊢
 go_enter Tryz.func172,Tryz.ntmps172
 go_upto_region 1 with fail
 obtain ⟨B,hB⟩:∃B,w.heap.size=B:=⟨_,rfl⟩
 rw [←hw0]
 rw [hB] at q5 hbox ⊢
 clear hw0 hB
 have hQ:=hide (Arr.lit (heap_alloc_new w0 (.cells (En.cells (E k)) 54)))
 have hg1:=hide (World.grownBy_alloc w0 (.cells (En.cells (E k)) 54) none)
 unfold En.cells at hQ hg1
 go_upto_region 2 with fail
 obtain ⟨Q,hQe⟩:∃Q,w0.heap.size=Q:=⟨_,rfl⟩
 rw [hQe] at hQ ⊢
 generalize w0.alloc (.cells #[.int .i64 (E k 0),.int .i64 (E k 1),.int .i64 (E k 2),.int .i64 (E k 3),.int .i64 (E k 4),.int .i64 (E k 5),.int .i64 (E k 6),.int .i64 (E k 7),.int .i64 (E k 8),.int .i64 (E k 9),.int .i64 (E k 10)] 54)=w1 at hQ hg1 ⊢
 clear hQe u0 u1 u2 u3 u4 u5 u6 u7 u8 u9 u10 q5
 have z0:w1.cell? ⟨Q,0,none⟩=some (.int .i64 (E k 0)):=(uh hQ).cell (i:=0) (by show 0<11;omega)
 have z2:w1.cell? ⟨Q,2,none⟩=some (.int .i64 (E k 2)):=(uh hQ).cell (i:=2) (by show 2<11;omega)
 have z7:w1.cell? ⟨Q,7,none⟩=some (.int .i64 (E k 7)):=(uh hQ).cell (i:=7) (by show 7<11;omega)
 have z8:w1.cell? ⟨Q,8,none⟩=some (.int .i64 (E k 8)):=(uh hQ).cell (i:=8) (by show 8<11;omega)
 by_cases h1:E k 0=1
 ·rw [h1] at z0
  rw [if_pos h1] at ha hd
  obtain ⟨b0,b1,b2,b3,b4,b5,b6,b7,b8,b9,b10⟩:=((uh hbox).on (uh hg1)).eleven
  obtain ⟨A3,hA3⟩:∃x,Gd.three (Gd.wornK I (E k 2) 2 40)=x:=⟨_,rfl⟩
  obtain ⟨A2,hA2⟩:∃x,Gd.two (Gd.wornK I (E k 2) 3 40)=x:=⟨_,rfl⟩
  have t3:0≤A3∧A3≤3:=by rw [←hA3];exact uh hT3 _
  have t2:0≤A2∧A2≤2:=by rw [←hA2];exact uh hT2 _
  rw [hA3,hA2] at cb
  rw [hA3] at ha
  rw [hA2] at hd
  have cb':=hide (uh cb w1 ((uh hL0).on (uh hg1)))
  obtain ⟨p3,p3'⟩:=t3
  obtain ⟨p2,p2'⟩:=t2
  have v7:IntKind.i64.wrap (E k 7+A3)=E k 7+A3:=by rw [IntKind.wrap_i64];omega
  have v8:IntKind.i64.wrap (E k 8+A2)=E k 8+A2:=by rw [IntKind.wrap_i64];omega
  clear h1 hA3 hA2 cb
  unfold Gd.world at cb'
  go_wp2_with fail
  refine (uh cb').mono ?_
  rintro e w2 ⟨rfl,hg2⟩
  have y7:w2.cell? ⟨Q,7,none⟩=some (.int .i64 (E k 7)):=((uh hQ).grown hg2 (by simp)).cell (i:=7) (by show 7<11;omega)
  have y8:w2.cell? ⟨Q,8,none⟩=some (.int .i64 (E k 8)):=((uh hQ).grown hg2 (by simp)).cell (i:=8) (by show 8<11;omega)
  have hfin:Hid (∀n,w.grownBy (w2.drewN n) none):=fun n=>gdw (gtr (uh hg0) (gtr (uh hg1) hg2)) n
  clear hg2 cb' z0 z2 z7 z8 b0 b1 b2 b3 b4 b5 b6 b7 b8 b9 b10
  go_wp2_with fail
  go_quiet (fail)
  go_wp2
  have he:Ending.returned (.tuple #[.int .i64 (E k 7+A3),.int .i64 (E k 8+A2)])=.returned (.tuple #[.int .i64 AA,.int .i64 DD]):=by rw [uh ha,uh hd]
  go_ret2
  exact ⟨he,uh hfin _⟩
 ·have h1':(E k 0 == 1)=false:=by simpa using h1
  rw [if_neg h1] at ha hd
  have hfin:Hid (∀n,w.grownBy (w1.drewN n) none):=fun n=>gdw (gtr (uh hg0) (uh hg1)) n
  clear h1 cb
  go_wp2_with fail
  go_quiet (fail)
  go_wp2
  have he:Ending.returned (.tuple #[.int .i64 (E k 7),.int .i64 (E k 8)])=.returned (.tuple #[.int .i64 AA,.int .i64 DD]):=by rw [uh ha,uh hd,Int.add_zero,Int.add_zero]
  go_ret2
  exact ⟨he,uh hfin _⟩

set_option maxRecDepth 8000 in
set_option maxHeartbeats 3200000 in
theorem force_any (s g c:Nat→Int) (E I:Nat→Nat→Int) (gC gE gI cC cE cI f t:Nat) (w:World) (hL:Gd.Lists w gC gE gI c E I) (hf:f<32) (ht:t<32) (hF:Ft.Row (E f)) (hT:Ft.Row (E t)) (f0:E f 0≠0) (t0:E t 0≠0) :
  Calls Tryz.prog 150 #[.agg (Gd.world s gC gE gI cC cE cI g),.int .i64 (f:Int),.int .i64 (t:Int)] w (Says w (.int .i64 (Ft.force s E I f t))):=by
 obtain ⟨w0,hw0⟩:∃w0,w0=w.alloc (.cells (Gd.world s gC gE gI cC cE cI g) 30):=⟨_,rfl⟩
 have hbox:Hid (Lie w0 w.heap.size 30 11 (Gd.box s gC gE gI cC cE cI g)):=by
  show Lie w0 w.heap.size _ 11 _
  rw [hw0]
  exact (Arr.world (heap_alloc_new w _)).lie
 have hg0:=hide (show w.grownBy w0 none by rw [hw0];exact World.grownBy_alloc _ _ _)
 have hL0:=hide (hL.on (uh hg0))
 have hTf:=hF.taken f0
 have hTt:=hT.taken t0
 have cf:=hide (fun x hx=>strength_any s g c E I gC gE gI cC cE cI f x hx hf hTf.2.2.2.2.2.1 hTf.2.2.2.2.2.2.1 hTf.2.2.2.2.2.2.2.1 hTf.2.2.2.2.2.2.2.2.1)
 have ct:=hide (fun x hx=>strength_any s g c E I gC gE gI cC cE cI t x hx ht hTt.2.2.2.2.2.1 hTt.2.2.2.2.2.2.1 hTt.2.2.2.2.2.2.2.1 hTt.2.2.2.2.2.2.2.2.1)
 have cd:=hide (fun x=>throw_any s g gC gE gI cC cE cI 3 (f:Int) (t:Int) 77 x (by omega))
 have hT3:∀b,0≤Gd.three b∧Gd.three b≤3:=fun b=>by unfold Gd.three;split <;> omega
 have hT2:∀b,0≤Gd.two b∧Gd.two b≤2:=fun b=>by unfold Gd.two;split <;> omega
 have ba:0≤Ft.arm E I f∧Ft.arm E I f≤8:=by
  unfold Ft.arm
  have:=hT3 (Gd.wornK I (E f 2) 2 40)
  split <;> omega
 have bg:0≤Ft.guard E I t∧Ft.guard E I t≤3:=by
  unfold Ft.guard
  have:=hT2 (Gd.wornK I (E t 2) 3 40)
  split <;> omega
 have bd:=Dc.die_bd 3 (s 0) [s 1,(f:Int),(t:Int),77] (by omega)
 have hdef:Hid (Ft.force s E I f t=max 1 (Ft.arm E I f - Ft.guard E I t)+Dc.die 3 (s 0) [s 1,(f:Int),(t:Int),77]):=rfl
 obtain ⟨A,hA⟩:∃x,Ft.arm E I f=x:=⟨_,rfl⟩
 obtain ⟨A',hA'⟩:∃x,Ft.guard E I f=x:=⟨_,rfl⟩
 obtain ⟨D,hD⟩:∃x,Ft.guard E I t=x:=⟨_,rfl⟩
 obtain ⟨D',hD'⟩:∃x,Ft.arm E I t=x:=⟨_,rfl⟩
 obtain ⟨Z,hZ⟩:∃x,Dc.die 3 (s 0) [s 1,(f:Int),(t:Int),77]=x:=⟨_,rfl⟩
 obtain ⟨F,hFe⟩:∃x,Ft.force s E I f t=x:=⟨_,rfl⟩
 rw [hA,hA'] at cf
 rw [hD,hD'] at ct
 rw [hZ] at cd bd
 rw [hA] at ba
 rw [hD] at bg
 rw [hFe,hA,hD,hZ] at hdef
 rw [hFe]
 obtain ⟨ba0,ba9⟩:=ba
 obtain ⟨bg0,bg9⟩:=bg
 obtain ⟨bd0,bd9⟩:=bd
 clear hL hf ht hF hT f0 t0 hTf hTt hT3 hT2 hA hA' hD hD' hZ hFe
 unfold Gd.world at hw0 cf ct cd ⊢
 go_enter Tryz.func150,Tryz.ntmps150
 go_upto_region 1 with fail
 obtain ⟨B,hB⟩:∃B,w.heap.size=B:=⟨_,rfl⟩
 rw [←hw0]
 rw [hB] at hbox ⊢
 clear hw0 hB
 obtain ⟨b0,b1,b2,b3,b4,b5,b6,b7,b8,b9,b10⟩:=(uh hbox).eleven
 go_wp2_with fail
 refine (uh cf _ (uh hL0)).mono ?_
 rintro e w1 ⟨rfl,hg1⟩
 have hg1':=hide hg1
 clear hg1 b0 b1 b2 b3 b4 b5 b6 b7 b8 b9 b10 cf
 obtain ⟨b0,b1,b2,b3,b4,b5,b6,b7,b8,b9,b10⟩:=((uh hbox).on (uh hg1')).eleven
 go_wp2_with fail
 refine (uh ct _ ((uh hL0).on (uh hg1'))).mono ?_
 rintro e w2 ⟨rfl,hg2⟩
 have hg2':=hide (gtr (uh hg1') hg2)
 clear hg2 b0 b1 b2 b3 b4 b5 b6 b7 b8 b9 b10 ct
 obtain ⟨b0,b1,b2,b3,b4,b5,b6,b7,b8,b9,b10⟩:=((uh hbox).on (uh hg2')).eleven
 by_cases hm:A - D≤1
 ·have hF1:Hid (1+Z=F):=by
   show 1+Z=F
   rw [uh hdef]
   omega
  go_wp2_with fail
  all_goals
   refine (uh cd _).mono ?_
   rintro e w3 ⟨rfl,hg3⟩
   have hfin:=hide (gtr (uh hg0) (gtr (uh hg2') hg3))
   clear hg3
   go_wp2
   go_ret
   exact ⟨rti (by have:=uh hF1;omega),uh hfin⟩
 ·have hF1:Hid (A - D+Z=F):=by
   show A - D+Z=F
   rw [uh hdef]
   omega
  go_wp2_with fail
  all_goals
   refine (uh cd _).mono ?_
   rintro e w3 ⟨rfl,hg3⟩
   have hfin:=hide (gtr (uh hg0) (gtr (uh hg2') hg3))
   clear hg3
   go_wp2
   go_ret
   exact ⟨rti (by have:=uh hF1;omega),uh hfin⟩


open Go.RowKit

theorem Gd.BoxW.over {w x x':World} {B gC gE gI cC cE cI jC jE jI dC dE dI:Nat} {s g c s' g' c':Nat→Int} {E I F J:Nat→Nat→Int} (h:Gd.BoxW w x B gC gE gI cC cE cI s g c E I) (hcap:32≤dE∧384≤dC) (l1:x.heap.size≤jC) (l2:x.heap.size≤jE) (l3:x.heap.size≤jI) (n1:jC≠jE) (n2:jC≠jI) (n3:jE≠jI) (hL:Gd.Lists x' jC jE jI c' F J) (hg:x.grownBy x' none) :
  Gd.BoxW w (x'.setCells B 0 (Gd.world s' jC jE jI dC dE dI g').toList) B jC jE jI dC dE dI s' g' c' F J:=by
 have h1:=h.hold.box.lt
 have h2:=h.grown.size
 have h3:=h.at_
 have h4:=h.res.lt
 have r:=gss (g:=B) (Gd.world s' jC jE jI dC dE dI g').toList 0 x' (World.grownBy.refl _ _)
 exact ⟨⟨(h.hold.box.on hg).whole s' g' jC jE jI dC dE dI,⟨hL.cells.grown r (by simp;omega),hL.ents.grown r (by simp;omega),hL.items.grown r (by simp;omega)⟩,by omega,by omega,by omega,n1,n2,n3⟩,h.at_,by omega,by omega,by omega,hcap,(h.res.on hg).grown r (by simp),own_sets (by omega) _ 0 x' (gtr h.grown hg)⟩

theorem Gd.BoxW.folk {w x x':World} {B gC gE gI cC cE cI jE dE:Nat} {s g c:Nat→Int} {E I F:Nat→Nat→Int} (h:Gd.BoxW w x B gC gE gI cC cE cI s g c E I) (hcap:32≤dE) (l2:x.heap.size≤jE) (hO:Own x' jE 32 F) (hg:x.grownBy x' none) :
  Gd.BoxW w (x'.setCell ⟨B,5,none⟩ (.slice (some ⟨jE,0,none⟩) 32 dE)) B gC jE gI cC dE cI s g c F I:=by
 have h1:=h.hold.box.lt
 have h2:=h.hold.lists.cells.lt
 have h3:=h.hold.lists.items.lt
 have h4:=h.at_
 have h5:=h.res.lt
 have r:=gs0 x' B 5 (.slice (some ⟨jE,0,none⟩) 32 dE)
 have hb:=((h.hold.box.on hg).store 5 (.slice (some ⟨jE,0,none⟩) 32 dE)).congr (Gd.box_5 s g gC gE gI cC cE cI jE dE)
 exact ⟨⟨hb,⟨(h.hold.lists.cells.on hg).grown r (by simpa using h.hold.bC),(hO.lie (m:=352) (by omega)).grown r (by simp;omega),(h.hold.lists.items.on hg).grown r (by simpa using h.hold.bI)⟩,h.hold.bC,by omega,h.hold.bI,by omega,h.hold.cI,by omega⟩,h4,h.lC,by omega,h.lI,⟨hcap,h.cap.2⟩,(h.res.on hg).grown r (by simp),gsr (gtr h.grown hg) ⟨B,5,none⟩ (by show w.heap.size≤B;omega) _⟩

def Ft.Leaves (w:World) (B:Nat) (s g c:Nat→Int) (E I:Nat→Nat→Int) (e:Ending) (x':World):Prop :=
 e=.returned (.tuple #[])∧∃gC gE gI cC cE cI,Gd.BoxW w x' B gC gE gI cC cE cI s g c E I

set_option maxRecDepth 8000 in
set_option maxHeartbeats 6400000 in
theorem hurt_some (w:World) (B g1 g2 g3 c1 c2 c3 k:Nat) (s g c:Nat→Int) (E I:Nat→Nat→Int) (n:Int) (x:World) (hX:Gd.BoxW w x B g1 g2 g3 c1 c2 c3 s g c E I) (hk:k<32) (h0:0≤E k 5) (h9:E k 5≤20) (hn:1≤n) (hlt:n<E k 5) :
  Calls Tryz.prog 149 #[.pointer (some ⟨B,0,none⟩),.int .i64 (k:Int),.int .i64 n] x (Ft.Leaves w B s g c (Gd.set E k 5 (E k 5 - n)) I):=by
 have hX':=hide hX
 have b5:=hX.hold.box.eleven.2.2.2.2.2.1
 obtain ⟨u0,u1,u2,u3,u4,u5,u6,u7,u8,u9,u10⟩:=hX.hold.lists.own.ents.row hk
 have hk':(k:Int)<32:=by omega
 have HK:=hide hk
 have hX3:=hide (hX.on (World.grownBy_alloc x (.cells (En.cells (E k)) 54) none))
 have hQ:=hide (Gd.ent_box x (E k))
 clear hX hk
 unfold En.cells at hX3 hQ
 go_enter Tryz.func149,Tryz.ntmps149
 go_upto_region 1 with fail
 obtain ⟨Q,hQe⟩:∃Q,x.heap.size=Q:=⟨_,rfl⟩
 rw [hQe] at hQ ⊢
 generalize x.alloc (.cells #[.int .i64 (E k 0),.int .i64 (E k 1),.int .i64 (E k 2),.int .i64 (E k 3),.int .i64 (E k 4),.int .i64 (E k 5),.int .i64 (E k 6),.int .i64 (E k 7),.int .i64 (E k 8),.int .i64 (E k 9),.int .i64 (E k 10)] 54)=w3 at hX3 hQ ⊢
 clear hQe u0 u1 u2 u3 u4 u5 u6 u7 u8 u9 u10 b5 hX'
 obtain ⟨z3,z4,z5,z6⟩:=uh hQ
 have b5:=(uh hX3).hold.box.eleven.2.2.2.2.2.1
 have r5:w3.cell? ⟨g2,k*11+5,none⟩=some (.int .i64 (E k 5)):=((uh hX3).hold.lists.own.ents.row (uh HK)).2.2.2.2.2.1
 have fE:=(uh hX3).hold.lists.ents.free
 have hst:=hide ((uh hX3).stat k 5 (by omega) (E k 5 - n))
 clear z3 z4 z6
 go_wp2
 go_end0
 exact ⟨rfl,g1,g2,g3,c1,c2,c3,uh hst⟩

set_option maxRecDepth 8000 in
set_option maxHeartbeats 6400000 in
theorem hurt_falls (w:World) (B g1 g2 g3 c1 c2 c3 k:Nat) (s g c:Nat→Int) (E I:Nat→Nat→Int) (n:Int) (x:World) (hX:Gd.BoxW w x B g1 g2 g3 c1 c2 c3 s g c E I) (hk:k<32) (hlt:¬n<E k 5) (h1:E k 0≠1) :
  Calls Tryz.prog 149 #[.pointer (some ⟨B,0,none⟩),.int .i64 (k:Int),.int .i64 n] x (Ft.Leaves w B s g c (En.put E k (En.hole (E k 1))) I):=by
 have b5:=hX.hold.box.eleven.2.2.2.2.2.1
 obtain ⟨u0,u1,u2,u3,u4,u5,u6,u7,u8,u9,u10⟩:=hX.hold.lists.own.ents.row hk
 have hk':(k:Int)<32:=by omega
 have hX3:=hide (hX.on (World.grownBy_alloc x (.cells (En.cells (E k)) 54) none))
 have hQ:=hide (Gd.ent_box x (E k))
 have hQ0:Hid ((x.alloc (.cells (En.cells (E k)) 54)).cell? ⟨x.heap.size,0,none⟩=some (.int .i64 (E k 0))):=(Arr.lit (heap_alloc_new x (.cells (En.cells (E k)) 54))).cell (i:=0) (by show 0<11;omega)
 have cf:=hide (fun y (hy:Own y g2 32 E)=>free_in g2 32 c2 k E y hy.ents hX.cap.1 hk)
 have h1':(E k 0 == 1)=false:=by simpa using h1
 clear hX hk h1
 unfold En.cells at hX3 hQ hQ0
 go_enter Tryz.func149,Tryz.ntmps149
 go_upto_region 1 with fail
 obtain ⟨Q,hQe⟩:∃Q,x.heap.size=Q:=⟨_,rfl⟩
 rw [hQe] at hQ hQ0 ⊢
 generalize x.alloc (.cells #[.int .i64 (E k 0),.int .i64 (E k 1),.int .i64 (E k 2),.int .i64 (E k 3),.int .i64 (E k 4),.int .i64 (E k 5),.int .i64 (E k 6),.int .i64 (E k 7),.int .i64 (E k 8),.int .i64 (E k 9),.int .i64 (E k 10)] 54)=w3 at hX3 hQ hQ0 ⊢
 clear hQe u0 u1 u2 u3 u4 u5 u6 u7 u8 u9 u10 b5
 obtain ⟨z3,z4,z5,z6⟩:=uh hQ
 have z0:=uh hQ0
 have b5:=(uh hX3).hold.box.eleven.2.2.2.2.2.1
 clear z3 z4 z6
 go_wp2_with fail
 refine (uh cf _ (uh hX3).hold.lists.own).mono ?_
 rintro e w4 ⟨j,cap,rfl,hlo,hnc,hcm,hown,hgr⟩
 have hst:=hide ((uh hX3).folk hnc hlo hown hgr)
 have y5:=((uh hX3).on hgr).hold.box.eleven.2.2.2.2.2.1
 have fB:=((uh hX3).on hgr).hold.box.free
 clear hlo hnc hcm hown hgr cf z0 z5 b5
 go_wp2
 go_end0
 exact ⟨rfl,g1,j,g3,c1,cap,c3,uh hst⟩


open Go.RowKit

set_option maxRecDepth 8000 in
set_option maxHeartbeats 6400000 in
theorem hurt_hero (w:World) (B g1 g2 g3 c1 c2 c3 k:Nat) (s g c:Nat→Int) (E I:Nat→Nat→Int) (n:Int) (x:World) (hX:Gd.BoxW w x B g1 g2 g3 c1 c2 c3 s g c E I) (hk:k<32) (hlt:¬n<E k 5) (h1:E k 0=1) :
  Calls Tryz.prog 149 #[.pointer (some ⟨B,0,none⟩),.int .i64 (k:Int),.int .i64 n] x (Ft.Leaves w B s g c (En.put E k (En.hole (E k 1))) (Gd.sweep I (E k 2))):=by
 have b5:=hX.hold.box.eleven.2.2.2.2.2.1
 obtain ⟨u0,u1,u2,u3,u4,u5,u6,u7,u8,u9,u10⟩:=hX.hold.lists.own.ents.row hk
 have hk':(k:Int)<32:=by omega
 have hX3:=hide (hX.on (World.grownBy_alloc x (.cells (En.cells (E k)) 54) none))
 have hQ:=hide (Arr.lit (heap_alloc_new x (.cells (En.cells (E k)) 54)))
 have hQn:Hid (x.heap.size≠B):=(Gd.ent_far hX.weak).2.2
 have H1:=hide h1
 have HK:=hide hk
 clear hX hk h1
 unfold En.cells at hX3 hQ
 go_enter Tryz.func149,Tryz.ntmps149
 go_upto_region 1 with fail
 obtain ⟨Q,hQe⟩:∃Q,x.heap.size=Q:=⟨_,rfl⟩
 rw [hQe] at hQ hQn ⊢
 generalize x.alloc (.cells #[.int .i64 (E k 0),.int .i64 (E k 1),.int .i64 (E k 2),.int .i64 (E k 3),.int .i64 (E k 4),.int .i64 (E k 5),.int .i64 (E k 6),.int .i64 (E k 7),.int .i64 (E k 8),.int .i64 (E k 9),.int .i64 (E k 10)] 54)=w3 at hX3 hQ ⊢
 clear hQe u0 u1 u2 u3 u4 u5 u6 u7 u8 u9 u10 b5
 have z0:w3.cell? ⟨Q,0,none⟩=some (.int .i64 1):=by rw [←uh H1];exact (uh hQ).cell (i:=0) (by show 0<11;omega)
 have z2:w3.cell? ⟨Q,2,none⟩=some (.int .i64 (E k 2)):=(uh hQ).cell (i:=2) (by show 2<11;omega)
 have z5:w3.cell? ⟨Q,5,none⟩=some (.int .i64 (E k 5)):=(uh hQ).cell (i:=5) (by show 5<11;omega)
 obtain ⟨b0,b1,b2,b3,b4,b5,b6,b7,b8,b9,b10⟩:=(uh hX3).hold.box.eleven
 go_upto_region 4 with fail
 have cs:=hide (sweep_wide s g c E I g1 g2 g3 c1 c2 c3 (E k 2) w3.drew ((uh hX3).on (gd1 (World.grownBy.refl _ _))).hold.lists)
 clear z0 z5
 have hXd:=hide ((uh hX3).on (gd1 (World.grownBy.refl _ none)))
 unfold Gd.world at cs
 go_region_with (first | (go_at_call 171;refine (uh cs).mono ?_;rintro e w4 ⟨jC,jE,jI,dC,dE,dI,rfl,hcap,l1,l2,l3,n1,n2,n3,hL,hg⟩;have hst:=hide ((uh hXd).over (s':=s) (g':=g) (dC:=dC) (dI:=dI) hcap l1 l2 l3 n1 n2 n3 hL hg);obtain ⟨y0,y1,y2,y3,y4,y5,y6,y7,y8,y9,y10⟩:=((uh hXd).on hg).hold.box.eleven;have fB:=((uh hXd).on hg).hold.box.free;clear hcap l1 l2 l3 n1 n2 n3 hL hg b0 b1 b2 b3 b4 b5 b6 b7 b8 b9 b10 z2;unfold Gd.world at hst ⊢))
 all_goals
  have hst':Hid (Gd.BoxW w (((((((((((w4.setCell ⟨B,0,none⟩ (.int .i64 (s 0))).setCell ⟨B,1,none⟩ (.int .i64 (s 1))).setCell ⟨B,2,none⟩ (.int .i64 (s 2))).setCell ⟨B,3,none⟩ (.int .i64 (s 3))).setCell ⟨B,4,none⟩ (.slice (some ⟨jC,0,none⟩) 384 dC)).setCell ⟨B,5,none⟩ (.slice (some ⟨jE,0,none⟩) 32 dE)).setCell ⟨B,6,none⟩ (.slice (some ⟨jI,0,none⟩) 40 dI)).setCell ⟨B,7,none⟩ (.int .i64 (g 0))).setCell ⟨B,8,none⟩ (.int .i64 (g 1))).setCell ⟨B,9,none⟩ (.int .i64 (g 2))).setCell ⟨B,10,none⟩ (.int .i64 (g 3))) B jC jE jI dC dE dI s g c E (Gd.sweep I (E k 2))):=uh hst
  clear hst hX3 hXd hQ
  generalize (((((((((((w4.setCell ⟨B,0,none⟩ (.int .i64 (s 0))).setCell ⟨B,1,none⟩ (.int .i64 (s 1))).setCell ⟨B,2,none⟩ (.int .i64 (s 2))).setCell ⟨B,3,none⟩ (.int .i64 (s 3))).setCell ⟨B,4,none⟩ (.slice (some ⟨jC,0,none⟩) 384 dC)).setCell ⟨B,5,none⟩ (.slice (some ⟨jE,0,none⟩) 32 dE)).setCell ⟨B,6,none⟩ (.slice (some ⟨jI,0,none⟩) 40 dI)).setCell ⟨B,7,none⟩ (.int .i64 (g 0))).setCell ⟨B,8,none⟩ (.int .i64 (g 1))).setCell ⟨B,9,none⟩ (.int .i64 (g 2))).setCell ⟨B,10,none⟩ (.int .i64 (g 3)))=wc at hst' ⊢
  clear y0 y1 y2 y3 y4 y5 y6 y7 y8 y9 y10 fB
  have cf:=hide (free_in jE 32 dE k E wc (uh hst').hold.lists.own.ents (uh hst').cap.1 (uh HK))
  have b5:=(uh hst').hold.box.eleven.2.2.2.2.2.1
  go_wp2_with fail
  refine (uh cf).mono ?_
  rintro e w5 ⟨j,cap,rfl,hlo,hnc,hcm,hown,hgr⟩
  have hfin:=hide ((uh hst').folk hnc hlo hown hgr)
  have y5:=((uh hst').on hgr).hold.box.eleven.2.2.2.2.2.1
  have fB:=((uh hst').on hgr).hold.box.free
  clear hlo hnc hcm hown hgr cf b5
  go_wp2
  go_end0
  exact ⟨rfl,jC,j,jI,dC,cap,dI,uh hfin⟩

theorem hurt_any (w:World) (B g1 g2 g3 c1 c2 c3 k:Nat) (s g c:Nat→Int) (E I:Nat→Nat→Int) (n:Int) (x:World) (hX:Gd.BoxW w x B g1 g2 g3 c1 c2 c3 s g c E I) (hk:k<32) (h0:0≤E k 5) (h9:E k 5≤20) (hn:1≤n) :
  Calls Tryz.prog 149 #[.pointer (some ⟨B,0,none⟩),.int .i64 (k:Int),.int .i64 n] x (Ft.Leaves w B s g c (Ft.hurtE E k n) (Ft.hurtI E I k n)):=by
 unfold Ft.hurtE Ft.hurtI
 by_cases hlt:n<E k 5
 ·rw [if_pos hlt,if_pos hlt]
  exact hurt_some w B g1 g2 g3 c1 c2 c3 k s g c E I n x hX hk h0 h9 hn hlt
 ·rw [if_neg hlt,if_neg hlt]
  by_cases h1:E k 0=1
  ·rw [if_pos h1]
   exact hurt_hero w B g1 g2 g3 c1 c2 c3 k s g c E I n x hX hk hlt h1
  ·rw [if_neg h1]
   exact hurt_falls w B g1 g2 g3 c1 c2 c3 k s g c E I n x hX hk hlt h1


open Go.RowKit

set_option maxRecDepth 8000 in
set_option maxHeartbeats 6400000 in
theorem leave_any (w:World) (B g1 g2 g3 c1 c2 c3 f t:Nat) (s g c:Nat→Int) (E I:Nat→Nat→Int) (x:World) (hX:Gd.BoxW w x B g1 g2 g3 c1 c2 c3 s g c E I) (hf:f<32) (ht:t<32) (p0:0≤E t 9) (p9:E t 9≤9) (s0:0≤E t 10) (s9:E t 10≤9) :
  Calls Tryz.prog 151 #[.pointer (some ⟨B,0,none⟩),.int .i64 (f:Int),.int .i64 (t:Int)] x (Ft.Leaves w B s g c (Ft.leaveE s E f t) I):=by
 have hX':=hide hX
 have b5:=hX.hold.box.eleven.2.2.2.2.2.1
 have u0:=(hX.hold.lists.own.ents.row hf).1
 have hf':(f:Int)<32:=by omega
 have ht':(t:Int)<32:=by omega
 have HT:=hide ht
 have r9:x.cell? ⟨g2,t*11+9,none⟩=some (.int .i64 (E t 9)):=(hX.hold.lists.own.ents.row ht).2.2.2.2.2.2.2.2.2.1
 have r10:x.cell? ⟨g2,t*11+10,none⟩=some (.int .i64 (E t 10)):=(hX.hold.lists.own.ents.row ht).2.2.2.2.2.2.2.2.2.2
 have fE:=hX.hold.lists.ents.free
 clear hX hf ht
 by_cases h4:E f 0=4
 ·have hd:Hid (Ft.leaveE s E f t=Gd.set E t 9 (min (E t 9+3) 9)):=if_pos h4
  rw [h4] at u0
  clear h4 r10
  by_cases hm:E t 9+3≤9
  ·have hst:Hid (Gd.BoxW w (x.setCell ⟨g2,t*11+9,none⟩ (.int .i64 (E t 9+3))) B g1 g2 g3 c1 c2 c3 s g c (Ft.leaveE s E f t) I):=by
    show Gd.BoxW _ _ _ _ _ _ _ _ _ _ _ _ _ _
    rw [uh hd,show min (E t 9+3) 9=E t 9+3 by omega]
    exact (uh hX').stat t 9 (by omega) _
   go_enter Tryz.func151,Tryz.ntmps151
   go_wp2
   go_end0
   exact ⟨rfl,g1,g2,g3,c1,c2,c3,uh hst⟩
  ·have hst:Hid (Gd.BoxW w (x.setCell ⟨g2,t*11+9,none⟩ (.int .i64 9)) B g1 g2 g3 c1 c2 c3 s g c (Ft.leaveE s E f t) I):=by
    show Gd.BoxW _ _ _ _ _ _ _ _ _ _ _ _ _ _
    rw [uh hd,show min (E t 9+3) 9=9 by omega]
    exact (uh hX').stat t 9 (by omega) _
   go_enter Tryz.func151,Tryz.ntmps151
   go_wp2
   go_end0
   exact ⟨rfl,g1,g2,g3,c1,c2,c3,uh hst⟩
 ·have h4':(E f 0 == 4)=false:=by simpa using h4
  by_cases h3:E f 0=3
  ·have hd:Hid (Ft.leaveE s E f t=if Dc.die 4 (s 0) [s 1,(f:Int),(t:Int),78]=0 then Gd.set E t 10 (min (E t 10+2) 9) else E):=by
    show Ft.leaveE s E f t=_
    unfold Ft.leaveE
    rw [if_neg h4]
    by_cases hz:Dc.die 4 (s 0) [s 1,(f:Int),(t:Int),78]=0
    ·rw [if_pos hz,if_pos ⟨h3,hz⟩]
    ·rw [if_neg hz,if_neg (fun h=>hz h.2)]
   rw [h3] at u0
   have cd:=hide (throw_any s g g1 g2 g3 c1 c2 c3 4 (f:Int) (t:Int) 78 x (by omega))
   obtain ⟨Z,hZ⟩:∃Z,Dc.die 4 (s 0) [s 1,(f:Int),(t:Int),78]=Z:=⟨_,rfl⟩
   rw [hZ] at cd hd
   obtain ⟨b0,b1,b2,b3,b4,-,b6,b7,b8,b9,b10⟩:=(uh hX').hold.box.eleven
   clear h4 h4' h3 hZ r9
   unfold Gd.world at cd
   by_cases hz:Z=0
   ·subst hz
    rw [if_pos rfl] at hd
    go_enter Tryz.func151,Tryz.ntmps151
    go_wp2_with fail
    refine (uh cd).mono ?_
    rintro e x1 ⟨rfl,hg⟩
    have hX1:=hide ((uh hX').on hg)
    clear hg cd b0 b1 b2 b3 b4 b5 b6 b7 b8 b9 b10 u0 r10 fE
    have y10:x1.cell? ⟨g2,t*11+10,none⟩=some (.int .i64 (E t 10)):=((uh hX1).hold.lists.own.ents.row (uh HT)).2.2.2.2.2.2.2.2.2.2
    have fE:=(uh hX1).hold.lists.ents.free
    by_cases hm:E t 10+2≤9
    ·have hst:Hid (Gd.BoxW w (x1.setCell ⟨g2,t*11+10,none⟩ (.int .i64 (E t 10+2))) B g1 g2 g3 c1 c2 c3 s g c (Ft.leaveE s E f t) I):=by
      show Gd.BoxW _ _ _ _ _ _ _ _ _ _ _ _ _ _
      rw [uh hd,show min (E t 10+2) 9=E t 10+2 by omega]
      exact (uh hX1).stat t 10 (by omega) _
     go_wp2
     go_end0
     exact ⟨rfl,g1,g2,g3,c1,c2,c3,uh hst⟩
    ·have hst:Hid (Gd.BoxW w (x1.setCell ⟨g2,t*11+10,none⟩ (.int .i64 9)) B g1 g2 g3 c1 c2 c3 s g c (Ft.leaveE s E f t) I):=by
      show Gd.BoxW _ _ _ _ _ _ _ _ _ _ _ _ _ _
      rw [uh hd,show min (E t 10+2) 9=9 by omega]
      exact (uh hX1).stat t 10 (by omega) _
     go_wp2
     go_end0
     exact ⟨rfl,g1,g2,g3,c1,c2,c3,uh hst⟩
   ·have hz':(Z == 0)=false:=by simpa using hz
    rw [if_neg hz] at hd
    clear hz
    go_enter Tryz.func151,Tryz.ntmps151
    go_wp2_with fail
    refine (uh cd).mono ?_
    rintro e x1 ⟨rfl,hg⟩
    have hst:Hid (Gd.BoxW w x1 B g1 g2 g3 c1 c2 c3 s g c (Ft.leaveE s E f t) I):=by
     show Gd.BoxW _ _ _ _ _ _ _ _ _ _ _ _ _ _
     rw [uh hd]
     exact (uh hX').on hg
    clear hg cd
    go_wp2
    go_end0
    exact ⟨rfl,g1,g2,g3,c1,c2,c3,uh hst⟩
  ·have h3':(E f 0 == 3)=false:=by simpa using h3
   have hst:Hid (Gd.BoxW w x B g1 g2 g3 c1 c2 c3 s g c (Ft.leaveE s E f t) I):=by
    show Gd.BoxW _ _ _ _ _ _ _ _ _ _ _ _ _ _
    unfold Ft.leaveE
    rw [if_neg h4,if_neg (fun h=>h3 h.1)]
    exact uh hX'
   clear h4 h3 r9 r10
   go_enter Tryz.func151,Tryz.ntmps151
   go_wp2
   go_end0
   exact ⟨rfl,g1,g2,g3,c1,c2,c3,uh hst⟩

set_option maxRecDepth 8000 in
set_option maxHeartbeats 6400000 in
theorem ail1_any (w:World) (B g1 g2 g3 c1 c2 c3 k:Nat) (s g c:Nat→Int) (E I:Nat→Nat→Int) (x:World) (hX:Gd.BoxW w x B g1 g2 g3 c1 c2 c3 s g c E I) (hk:k<32) (h0:0≤E k 5) (h9:E k 5≤20) (p0:0≤E k 9) (p9:E k 9≤9) (s0:0≤E k 10) (s9:E k 10≤9) :
  Calls Tryz.prog 120 #[.pointer (some ⟨B,0,none⟩),.int .i64 (k:Int)] x (Ft.Leaves w B s g c (Ft.oneE E k) (Ft.oneI E I k)):=by
 have hX':=hide hX
 have b5:=hX.hold.box.eleven.2.2.2.2.2.1
 have hk':(k:Int)<32:=by omega
 have r9:x.cell? ⟨g2,k*11+9,none⟩=some (.int .i64 (E k 9)):=(hX.hold.lists.own.ents.row hk).2.2.2.2.2.2.2.2.2.1
 have r10:x.cell? ⟨g2,k*11+10,none⟩=some (.int .i64 (E k 10)):=(hX.hold.lists.own.ents.row hk).2.2.2.2.2.2.2.2.2.2
 have fE:=hX.hold.lists.ents.free
 have e9:Hid (Ft.stunE E k k 9=E k 9):=Ft.stun_other E k 9 (by omega)
 have e5:Hid (Ft.poisE (Ft.stunE E k) k k 5=E k 5):=by
  show Ft.poisE (Ft.stunE E k) k k 5=E k 5
  unfold Ft.poisE
  rw [Gd.set_other (by omega),Ft.stun_other E k 5 (by omega)]
 have ch:Hid (∀y,Gd.BoxW w y B g1 g2 g3 c1 c2 c3 s g c (Ft.poisE (Ft.stunE E k) k) I→Calls Tryz.prog 149 #[.pointer (some ⟨B,0,none⟩),.int .i64 (k:Int),.int .i64 1] y (Ft.Leaves w B s g c (Ft.hurtE (Ft.poisE (Ft.stunE E k) k) k 1) (Ft.hurtI (Ft.poisE (Ft.stunE E k) k) I k 1))):=fun y hy=>hurt_any w B g1 g2 g3 c1 c2 c3 k s g c _ I 1 y hy hk (by rw [uh e5];exact h0) (by rw [uh e5];exact h9) (by omega)
 have HB:=hide hX.hold.bE
 clear hX hk
 by_cases hs:0<E k 10
 ·have hsd:Hid (Ft.stunE E k=Gd.set E k 10 (E k 10 - 1)):=if_pos hs
  by_cases hp:0<E k 9
  ·have hoe:Hid (Ft.oneE E k=Ft.hurtE (Ft.poisE (Ft.stunE E k) k) k 1):=if_pos hp
   have hoi:Hid (Ft.oneI E I k=Ft.hurtI (Ft.poisE (Ft.stunE E k) k) I k 1):=if_pos hp
   have hst:Hid (Gd.BoxW w ((x.setCell ⟨g2,k*11+10,none⟩ (.int .i64 (E k 10 - 1))).setCell ⟨g2,k*11+9,none⟩ (.int .i64 (E k 9 - 1))) B g1 g2 g3 c1 c2 c3 s g c (Ft.poisE (Ft.stunE E k) k) I):=by
    show Gd.BoxW _ _ _ _ _ _ _ _ _ _ _ _ _ _
    unfold Ft.poisE
    rw [uh e9,uh hsd]
    exact ((uh hX').stat k 10 (by omega) _).stat k 9 (by omega) _
   have hBE:B≠g2:=uh HB
   have hEB:g2≠B:=hBE.symm
   go_enter Tryz.func120,Tryz.ntmps120
   go_wp2_with fail
   refine (uh ch _ (uh hst)).mono ?_
   rintro e x1 ⟨rfl,h1,h2,h3,d1,d2,d3,hY⟩
   have hY':=hide hY
   clear hY ch hst r9 r10 fE b5
   go_wp2
   go_end0
   refine ⟨rfl,h1,h2,h3,d1,d2,d3,?_⟩
   rw [uh hoe,uh hoi]
   exact uh hY'
  ·have hoe:Hid (Ft.oneE E k=Ft.stunE E k):=if_neg hp
   have hoi:Hid (Ft.oneI E I k=I):=if_neg hp
   have hst:Hid (Gd.BoxW w (x.setCell ⟨g2,k*11+10,none⟩ (.int .i64 (E k 10 - 1))) B g1 g2 g3 c1 c2 c3 s g c (Ft.oneE E k) (Ft.oneI E I k)):=by
    show Gd.BoxW _ _ _ _ _ _ _ _ _ _ _ _ _ _
    rw [uh hoe,uh hoi,uh hsd]
    exact (uh hX').stat k 10 (by omega) _
   clear ch
   go_enter Tryz.func120,Tryz.ntmps120
   go_wp2
   go_end0
   exact ⟨rfl,g1,g2,g3,c1,c2,c3,uh hst⟩
 ·have hsd:Hid (Ft.stunE E k=E):=if_neg hs
  by_cases hp:0<E k 9
  ·have hoe:Hid (Ft.oneE E k=Ft.hurtE (Ft.poisE (Ft.stunE E k) k) k 1):=if_pos hp
   have hoi:Hid (Ft.oneI E I k=Ft.hurtI (Ft.poisE (Ft.stunE E k) k) I k 1):=if_pos hp
   have hst:Hid (Gd.BoxW w (x.setCell ⟨g2,k*11+9,none⟩ (.int .i64 (E k 9 - 1))) B g1 g2 g3 c1 c2 c3 s g c (Ft.poisE (Ft.stunE E k) k) I):=by
    show Gd.BoxW _ _ _ _ _ _ _ _ _ _ _ _ _ _
    unfold Ft.poisE
    rw [uh e9,uh hsd]
    exact (uh hX').stat k 9 (by omega) _
   have hBE:B≠g2:=uh HB
   have hEB:g2≠B:=hBE.symm
   go_enter Tryz.func120,Tryz.ntmps120
   go_wp2_with fail
   refine (uh ch _ (uh hst)).mono ?_
   rintro e x1 ⟨rfl,h1,h2,h3,d1,d2,d3,hY⟩
   have hY':=hide hY
   clear hY ch hst r9 r10 fE b5
   go_wp2
   go_end0
   refine ⟨rfl,h1,h2,h3,d1,d2,d3,?_⟩
   rw [uh hoe,uh hoi]
   exact uh hY'
  ·have hst:Hid (Gd.BoxW w x B g1 g2 g3 c1 c2 c3 s g c (Ft.oneE E k) (Ft.oneI E I k)):=by
    show Gd.BoxW _ _ _ _ _ _ _ _ _ _ _ _ _ _
    unfold Ft.oneE Ft.oneI
    rw [if_neg hp,if_neg hp,uh hsd]
    exact uh hX'
   clear ch
   go_enter Tryz.func120,Tryz.ntmps120
   go_wp2
   go_end0
   exact ⟨rfl,g1,g2,g3,c1,c2,c3,uh hst⟩

end Go.Proofs.YtbanjoflgoiegaaGreat
