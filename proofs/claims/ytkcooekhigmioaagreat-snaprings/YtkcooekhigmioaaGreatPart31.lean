import Derived.Test.YtkcooekhigmioaaGreatPart24
import Derived.Test.YtkcooekhigmioaaGreatPart21
namespace Go.Proofs.YtkcooekhigmioaaGreat
open Go.RowKit

theorem Gd.Boxed.over {w x x':World} {B gC gE gI cC cE cI jC jE jI dC dE dI:Nat} {s g c s' g' c':Nat→Int} {E I F J:Nat→Nat→Int} (h:Gd.Boxed w x B gC gE gI cC cE cI s g c E I) (hcap:32≤dE) (l1:x.heap.size≤jC) (l2:x.heap.size≤jE) (l3:x.heap.size≤jI) (n1:jC≠jE) (n2:jC≠jI) (n3:jE≠jI) (hL:Gd.Lists x' jC jE jI c' F J) (hg:x.grownBy x' none) :
  Gd.Boxed w (x'.setCells B 0 (Gd.world s' jC jE jI dC dE dI g').toList) B jC jE jI dC dE dI s' g' c' F J:=by
 have h1:=h.hold.box.lt
 have h2:=h.grown.size
 have h3:=h.at_
 have h4:=h.res.lt
 have r:=gss (g:=B) (Gd.world s' jC jE jI dC dE dI g').toList 0 x' (World.grownBy.refl _ _)
 exact ⟨⟨(h.hold.box.on hg).whole s' g' jC jE jI dC dE dI,⟨hL.cells.grown r (by simp;omega),hL.ents.grown r (by simp;omega),hL.items.grown r (by simp;omega)⟩,by omega,by omega,by omega,n1,n2,n3⟩,h.at_,by omega,by omega,by omega,hcap,(h.res.on hg).grown r (by simp),own_sets (by omega) _ 0 x' (gtr h.grown hg)⟩

theorem Gd.Boxed.folk {w x x':World} {B gC gE gI cC cE cI jE dE:Nat} {s g c:Nat→Int} {E I F:Nat→Nat→Int} (h:Gd.Boxed w x B gC gE gI cC cE cI s g c E I) (hcap:32≤dE) (l2:x.heap.size≤jE) (hO:Own x' jE 32 F) (hg:x.grownBy x' none) :
  Gd.Boxed w (x'.setCell ⟨B,5,none⟩ (.slice (some ⟨jE,0,none⟩) 32 dE)) B gC jE gI cC dE cI s g c F I:=by
 have h1:=h.hold.box.lt
 have h2:=h.hold.lists.cells.lt
 have h3:=h.hold.lists.items.lt
 have h4:=h.at_
 have h5:=h.res.lt
 have r:=gs0 x' B 5 (.slice (some ⟨jE,0,none⟩) 32 dE)
 have hb:=((h.hold.box.on hg).store 5 (.slice (some ⟨jE,0,none⟩) 32 dE)).congr (Gd.box_5 s g gC gE gI cC cE cI jE dE)
 exact ⟨⟨hb,⟨(h.hold.lists.cells.on hg).grown r (by simpa using h.hold.bC),(hO.lie (m:=352) (by omega)).grown r (by simp;omega),(h.hold.lists.items.on hg).grown r (by simpa using h.hold.bI)⟩,h.hold.bC,by omega,h.hold.bI,by omega,h.hold.cI,by omega⟩,h4,h.lC,by omega,h.lI,hcap,(h.res.on hg).grown r (by simp),gsr (gtr h.grown hg) ⟨B,5,none⟩ (by show w.heap.size≤B;omega) _⟩


open Go.RowKit

set_option maxHeartbeats 1600000 in
theorem refThere8_any (s g c:Nat→Int) (E I:Nat→Nat→Int) (gC gE gI cC cE cI:Nat) (row:Int) (w:World) (hL:Gd.Lists w gC gE gI c E I) :
  Calls Tryz.prog 103 #[.agg (Gd.world s gC gE gI cC cE cI g),.int .i64 row] w (Says w (.bool (Ft.there E row))):=by
 have hg0:=hide (World.grownBy_alloc w (.cells (Gd.world s gC gE gI cC cE cI g) 31) none)
 have hbox:=(Arr.world (heap_alloc_new w (.cells (Gd.world s gC gE gI cC cE cI g) 31))).lie
 have hL0:=hL.on (uh hg0)
 obtain ⟨b0,b1,b2,b3,b4,b5,b6,b7,b8,b9,b10⟩:=hbox.eleven
 clear b0 b1 b2 b3 b4 b6 b7 b8 b9 b10 hbox hL
 unfold Gd.world at hg0 b5 hL0 ⊢
 by_cases h0:0≤row
 ·by_cases h1:row<32
  ·obtain ⟨k,rfl⟩:∃k:Nat,row=(k:Int):=⟨row.toNat,by omega⟩
   have hk:k<32:=by omega
   have u0:=(hL0.own.ents.row hk).1
   have hr:=hide (Ft.there_at (E:=E) hk)
   clear hL0 h0
   by_cases hz:E k 0=0
   ·rw [hz] at u0
    have hr2:Hid (Ft.there E (k:Int)=false):=(uh hr).trans (by simp [hz])
    clear hz hr
    go_enter Tryz.func103,Tryz.ntmps103
    go_wp2
    go_ret
    exact ⟨ret_bool (uh hr2).symm,uh hg0⟩
   ·have hr2:Hid (Ft.there E (k:Int)=true):=(uh hr).trans (by simp [hz])
    have hz':(E k 0 == 0)=false:=by simpa using hz
    have hz2:Hid ((E k 0 != 0)=true):=(show (E k 0 != 0)=true by simpa using hz)
    clear hr
    go_enter Tryz.func103,Tryz.ntmps103
    go_wp2
    go_ret
    exact ⟨ret_bool ((uh hz2).trans (uh hr2).symm),uh hg0⟩
  ·have hr2:Hid (Ft.there E row=false):=by
    show Ft.there E row=false
    unfold Ft.there
    rw [decide_eq_false (by omega)]
    rfl
   clear hL0
   go_enter Tryz.func103,Tryz.ntmps103
   go_wp2
   go_ret
   exact ⟨ret_bool (uh hr2).symm,uh hg0⟩
 ·have hr2:Hid (Ft.there E row=false):=by
   show Ft.there E row=false
   unfold Ft.there
   rw [decide_eq_false (by omega)]
   rfl
  clear hL0
  go_enter Tryz.func103,Tryz.ntmps103
  go_wp2
  go_ret
  exact ⟨ret_bool (uh hr2).symm,uh hg0⟩


open Go.RowKit

set_option maxRecDepth 8000 in
set_option maxHeartbeats 6400000 in
theorem refHurt8_any (s g c:Nat→Int) (E I:Nat→Nat→Int) (gC gE gI cC cE cI:Nat) (row n:Int) (w:World) (hL:Gd.Lists w gC gE gI c E I) (hF:Ft.Fit c E I) :
  Calls Tryz.prog 104 #[.agg (Gd.world s gC gE gI cC cE cI g),.int .i64 row,.int .i64 n] w (Gd.Worlds w s g c (Ft.hE E row n) (Ft.hI E I row n)):=by
 obtain ⟨w0,hw0,hbox,hres,hg0,hsz⟩:=Gd.boxes w gC gE gI cC cE cI s g
 have ca':=hide (refTwin_any s g c E I gC gE gI cC cE cI w0 (hL.on hg0))
 obtain ⟨b0,b1,b2,b3,b4,b5,b6,b7,b8,b9,b10⟩:=hbox.eleven
 have hbx:=hide hbox
 have hrs:=hide hres
 have hg0':=hide hg0
 have hsz':=hide hsz
 have hfB:=hbox.free
 clear hL hbox hres hg0 hsz
 unfold Gd.world at hw0 ca' ⊢
 go_enter Tryz.func104,Tryz.ntmps104
 go_upto_region 1 with fail
 rw [←hw0]
 clear hw0
 obtain ⟨B,hB⟩:∃B,w.heap.size=B:=⟨_,rfl⟩
 rw [hB] at hbx hrs hsz' b0 b1 b2 b3 b4 b5 b6 b7 b8 b9 b10 ⊢
 have hB':=hide hB
 rw [hB] at hfB
 clear hB
 go_cut [] from 8 (fun wx=>∃g1 g2 g3 c1 c2 c3,Hid (Gd.Boxed w wx B g1 g2 g3 c1 c2 c3 s g c E I))
 case first =>
  go_wp2_with fail
  refine (uh ca').mono ?_
  rintro e w1 ⟨g1,g2,g3,c1,c2,c3,rfl,hcap,l1,l2,l3,n1,n2,n3,hL1,hg1⟩
  obtain ⟨y0,y1,y2,y3,y4,y5,y6,y7,y8,y9,y10⟩:=((uh hbx).on hg1).eleven
  have fB:=((uh hbx).on hg1).free
  have fin:Hid (Gd.Boxed w (w1.setCells B 0 (Gd.world s g1 g2 g3 c1 c2 c3 g).toList) B g1 g2 g3 c1 c2 c3 s g c E I):=by
   have r:=gss (g:=B) (Gd.world s g1 g2 g3 c1 c2 c3 g).toList 0 w1 (World.grownBy.refl _ _)
   have hB:=uh hB'
   have hs:=uh hsz'
   exact ⟨⟨((uh hbx).on hg1).whole s g g1 g2 g3 c1 c2 c3,⟨hL1.cells.grown r (by simp;omega),hL1.ents.grown r (by simp;omega),hL1.items.grown r (by simp;omega)⟩,by omega,by omega,by omega,n1,n2,n3⟩,hB,by omega,by omega,by omega,hcap,((uh hrs).on hg1).grown r (by simp),own_sets (by omega) _ 0 w1 (gtr (uh hg0') hg1)⟩
  unfold Gd.world at fin ⊢
  clear hcap l1 l2 l3 n1 n2 n3 hL1 hg1 b0 b1 b2 b3 b4 b5 b6 b7 b8 b9 b10 hfB ca'
  go_wp2_with fail
  go_meet
  exact ⟨g1,g2,g3,c1,c2,c3,fin⟩
 case rest =>
  obtain ⟨g1,g2,g3,c1,c2,c3,hX⟩:=hcut
  clear b0 b1 b2 b3 b4 b5 b6 b7 b8 b9 b10 hfB ca' hbx hrs hg0' hsz' hB'
  clear w0
  obtain ⟨b0,b1,b2,b3,b4,b5,b6,b7,b8,b9,b10⟩:=(uh hX).hold.box.eleven
  have ct:=hide (refThere8_any s g c E I g1 g2 g3 c1 c2 c3 row wc (uh hX).hold.lists)
  have hp:=@Ft.there_pos E row
  have hdE:Hid (Ft.hE E row n=if Ft.there E row=true∧1≤n then Ft.hurtE E row.toNat n else E):=rfl
  have hdI:Hid (Ft.hI E I row n=if Ft.there E row=true∧1≤n then Ft.hurtI E I row.toNat n else I):=rfl
  obtain ⟨r,hr⟩:∃r,Ft.there E row=r:=⟨_,rfl⟩
  rw [hr] at ct hp hdE hdI
  have hp':=hide hp
  clear hr hp
  unfold Gd.world at ct
  go_wp2_with fail
  refine (uh ct).mono ?_
  rintro e wd ⟨rfl,hg⟩
  have hX1:=hide ((uh hX).on hg)
  clear ct hg hX b0 b1 b2 b3 b4 b5 b6 b7 b8 b9 b10
  have hX:=hide (uh hX1)
  clear hX1
  cases r
  ·have hX0:Hid (Gd.Boxed w wd B g1 g2 g3 c1 c2 c3 s g c (Ft.hE E row n) (Ft.hI E I row n)):=by
    show Gd.Boxed _ _ _ _ _ _ _ _ _ _ _ _ _ _
    rw [uh hdE,uh hdI,if_neg (by simp),if_neg (by simp)]
    exact uh hX
   clear hX hp' hdE hdI
   obtain ⟨b0,b1,b2,b3,b4,b5,b6,b7,b8,b9,b10⟩:=(uh hX0).hold.box.eleven
   have fz:=(uh hX0).res.free
   obtain ⟨z0,z1,z2,z3,z4,z5,z6,z7,z8,z9,z10⟩:=Gd.res_cells (uh hX0).res
   have hfin:=hide (fun vs=>(uh hX0).worlds vs)
   go_wp2
   refine bodyPost_ret (v:=.agg (Gd.world s g1 g2 g3 c1 c2 c3 g)) (by simp [results,Tryz.results104,go_sem,Gd.world,z0,z1,z2,z3,z4,z5,z6,z7,z8,z9,z10]) rfl ?_
   exact uh hfin [_,_,_,_,_,_,_,_,_,_,_]
  ·by_cases hn:1≤n
   rotate_left
   ·have hn':n<1:=by omega
    have hX0:Hid (Gd.Boxed w wd B g1 g2 g3 c1 c2 c3 s g c (Ft.hE E row n) (Ft.hI E I row n)):=by
     show Gd.Boxed _ _ _ _ _ _ _ _ _ _ _ _ _ _
     rw [uh hdE,uh hdI,if_neg (fun h=>hn h.2),if_neg (fun h=>hn h.2)]
     exact uh hX
    clear hX hp' hdE hdI hn
    obtain ⟨b0,b1,b2,b3,b4,b5,b6,b7,b8,b9,b10⟩:=(uh hX0).hold.box.eleven
    have fz:=(uh hX0).res.free
    obtain ⟨z0,z1,z2,z3,z4,z5,z6,z7,z8,z9,z10⟩:=Gd.res_cells (uh hX0).res
    have hfin:=hide (fun vs=>(uh hX0).worlds vs)
    go_wp2
    refine bodyPost_ret (v:=.agg (Gd.world s g1 g2 g3 c1 c2 c3 g)) (by simp [results,Tryz.results104,go_sem,Gd.world,z0,z1,z2,z3,z4,z5,z6,z7,z8,z9,z10]) rfl ?_
    exact uh hfin [_,_,_,_,_,_,_,_,_,_,_]
   ·obtain ⟨k,hk,rfl,hk0⟩:=uh hp' rfl
    have hT:=(hF.rows k hk).taken hk0
    have h50:0≤E k 5:=by omega
    have h59:E k 5≤20:=by omega
    have hn1:¬n<1:=by omega
    rw [if_pos ⟨by first | trivial | rfl,hn⟩,Int.toNat_natCast] at hdE hdI
    clear hT hk0 hp' hF
    have b5:=(uh hX).hold.box.eleven.2.2.2.2.2.1
    obtain ⟨u0,u1,u2,u3,u4,u5,u6,u7,u8,u9,u10⟩:=(uh hX).hold.lists.own.ents.row hk
    have hk':(k:Int)<32:=by omega
    have HK:=hide hk
    have hX3:=hide ((uh hX).on (World.grownBy_alloc wd (.cells (En.cells (E k)) 70) none))
    have hQ:=hide (Arr.lit (heap_alloc_new wd (.cells (En.cells (E k)) 70)))
    have hQB:Hid (B≠wd.heap.size):=(show B≠wd.heap.size by have:=(uh hX).hold.box.lt;omega)
    clear hX hk
    unfold En.cells at hX3 hQ
    go_upto_region 5 with fail
    obtain ⟨Q,hQe⟩:∃Q,wd.heap.size=Q:=⟨_,rfl⟩
    rw [hQe] at hQ hQB ⊢
    generalize wd.alloc (.cells #[.int .i64 (E k 0),.int .i64 (E k 1),.int .i64 (E k 2),.int .i64 (E k 3),.int .i64 (E k 4),.int .i64 (E k 5),.int .i64 (E k 6),.int .i64 (E k 7),.int .i64 (E k 8),.int .i64 (E k 9),.int .i64 (E k 10)] 70)=w3 at hX3 hQ ⊢
    clear hQe u0 u1 u2 u3 u4 u5 u6 u7 u8 u9 u10 b5
    have z0:w3.cell? ⟨Q,0,none⟩=some (.int .i64 (E k 0)):=(uh hQ).cell (i:=0) (by show 0<11;omega)
    have z2:w3.cell? ⟨Q,2,none⟩=some (.int .i64 (E k 2)):=(uh hQ).cell (i:=2) (by show 2<11;omega)
    have z5:w3.cell? ⟨Q,5,none⟩=some (.int .i64 (E k 5)):=(uh hQ).cell (i:=5) (by show 5<11;omega)
    have b5:=(uh hX3).hold.box.eleven.2.2.2.2.2.1
    unfold Ft.hurtE at hdE
    unfold Ft.hurtI at hdI
    by_cases hlt:n<E k 5
    ·rw [if_pos hlt] at hdE hdI
     have r5:w3.cell? ⟨g2,k*11+5,none⟩=some (.int .i64 (E k 5)):=((uh hX3).hold.lists.own.ents.row (uh HK)).2.2.2.2.2.1
     have fE:=(uh hX3).hold.lists.ents.free
     have hX0:Hid (Gd.Boxed w (w3.setCell ⟨g2,k*11+5,none⟩ (.int .i64 (E k 5 - n))) B g1 g2 g3 c1 c2 c3 s g c (Ft.hE E (k:Int) n) (Ft.hI E I (k:Int) n)):=by
      show Gd.Boxed _ _ _ _ _ _ _ _ _ _ _ _ _ _
      rw [uh hdE,uh hdI]
      exact (uh hX3).stat k 5 (by omega) (E k 5 - n)
     clear hdE hdI z0 z2
     go_upto_region 7 with fail
     generalize w3.setCell ⟨g2,k*11+5,none⟩ (.int .i64 (E k 5 - n))=w4 at hX0 ⊢
     clear r5 fE b5 z5 hX3 hQ hlt
     obtain ⟨b0,b1,b2,b3,b4,b5,b6,b7,b8,b9,b10⟩:=(uh hX0).hold.box.eleven
     have fz:=(uh hX0).res.free
     obtain ⟨z0,z1,z2,z3,z4,z5,z6,z7,z8,z9,z10⟩:=Gd.res_cells (uh hX0).res
     have hfin:=hide (fun vs=>(uh hX0).worlds vs)
     go_wp2
     refine bodyPost_ret (v:=.agg (Gd.world s g1 g2 g3 c1 c2 c3 g)) (by simp [results,Tryz.results104,go_sem,Gd.world,z0,z1,z2,z3,z4,z5,z6,z7,z8,z9,z10]) rfl ?_
     exact uh hfin [_,_,_,_,_,_,_,_,_,_,_]
    ·rw [if_neg hlt] at hdE hdI
     have cf:=hide (refFree_in g2 32 c2 k E w3 (uh hX3).hold.lists.own.ents (uh HK))
     go_wp2_with fail
     refine (uh cf).mono ?_
     rintro e w4 ⟨jF,cap,rfl,hlo,hnc,hcm,hown,hgr⟩
     have hX4:=hide ((uh hX3).folk hnc hlo hown hgr)
     have y5:=((uh hX3).on hgr).hold.box.eleven.2.2.2.2.2.1
     have fB:=((uh hX3).on hgr).hold.box.free
     have hQ4:Hid ((w4.setCell ⟨B,5,none⟩ (.slice (some ⟨jF,0,none⟩) 32 cap)).cell? ⟨Q,0,none⟩=some (.int .i64 (E k 0))∧(w4.setCell ⟨B,5,none⟩ (.slice (some ⟨jF,0,none⟩) 32 cap)).cell? ⟨Q,2,none⟩=some (.int .i64 (E k 2))):=by
      have hqb:B≠Q:=uh hQB
      have hql:=(uh hQ).lie.lt
      exact ⟨by rw [World.cell?_setCell_far _ _ _ _ hqb,gce hgr Q _ hql (by simp)];exact z0,by rw [World.cell?_setCell_far _ _ _ _ hqb,gce hgr Q _ hql (by simp)];exact z2⟩
     clear hlo hnc hcm hown hgr cf b5 z0 z2 z5 hlt
     go_upto_region 9 with fail
     generalize w4.setCell ⟨B,5,none⟩ (.slice (some ⟨jF,0,none⟩) 32 cap)=w5 at hX4 hQ4 ⊢
     clear y5 fB hX3 hQ
     obtain ⟨z0,z2⟩:=uh hQ4
     by_cases h1:E k 0=1
     ·rw [if_pos h1] at hdI
      rw [h1] at z0
      have cs:=hide (refSweep_any s g c (En.put E k (En.hole (E k 1))) I g1 jF g3 c1 cap c3 (E k 2) w5 (uh hX4).hold.lists)
      obtain ⟨b0,b1,b2,b3,b4,b5,b6,b7,b8,b9,b10⟩:=(uh hX4).hold.box.eleven
      clear h1
      unfold Gd.world at cs
      go_wp2_with fail
      refine (uh cs).mono ?_
      rintro e w6 ⟨jC,jE,jI,dC,dE,dI,rfl,hcap,l1,l2,l3,n1,n2,n3,hL,hg⟩
      obtain ⟨y0,y1,y2,y3,y4,y5,y6,y7,y8,y9,y10⟩:=((uh hX4).on hg).hold.box.eleven
      have fB:=((uh hX4).on hg).hold.box.free
      have hX0:Hid (Gd.Boxed w (((((((((((w6.setCell ⟨B,0,none⟩ (.int .i64 (s 0))).setCell ⟨B,1,none⟩ (.int .i64 (s 1))).setCell ⟨B,2,none⟩ (.int .i64 (s 2))).setCell ⟨B,3,none⟩ (.int .i64 (s 3))).setCell ⟨B,4,none⟩ (.slice (some ⟨jC,0,none⟩) 384 dC)).setCell ⟨B,5,none⟩ (.slice (some ⟨jE,0,none⟩) 32 dE)).setCell ⟨B,6,none⟩ (.slice (some ⟨jI,0,none⟩) 40 dI)).setCell ⟨B,7,none⟩ (.int .i64 (g 0))).setCell ⟨B,8,none⟩ (.int .i64 (g 1))).setCell ⟨B,9,none⟩ (.int .i64 (g 2))).setCell ⟨B,10,none⟩ (.int .i64 (g 3))) B jC jE jI dC dE dI s g c (Ft.hE E (k:Int) n) (Ft.hI E I (k:Int) n)):=by
       show Gd.Boxed _ _ _ _ _ _ _ _ _ _ _ _ _ _
       rw [uh hdE,uh hdI]
       exact (uh hX4).over (s':=s) (g':=g) (dC:=dC) (dI:=dI) hcap l1 l2 l3 n1 n2 n3 hL hg
      clear hcap l1 l2 l3 n1 n2 n3 hL hg cs b0 b1 b2 b3 b4 b5 b6 b7 b8 b9 b10 z0 z2 hX4 hQ4 hdE hdI
      unfold Gd.world
      go_upto_region 11 with fail
      generalize (((((((((((w6.setCell ⟨B,0,none⟩ (.int .i64 (s 0))).setCell ⟨B,1,none⟩ (.int .i64 (s 1))).setCell ⟨B,2,none⟩ (.int .i64 (s 2))).setCell ⟨B,3,none⟩ (.int .i64 (s 3))).setCell ⟨B,4,none⟩ (.slice (some ⟨jC,0,none⟩) 384 dC)).setCell ⟨B,5,none⟩ (.slice (some ⟨jE,0,none⟩) 32 dE)).setCell ⟨B,6,none⟩ (.slice (some ⟨jI,0,none⟩) 40 dI)).setCell ⟨B,7,none⟩ (.int .i64 (g 0))).setCell ⟨B,8,none⟩ (.int .i64 (g 1))).setCell ⟨B,9,none⟩ (.int .i64 (g 2))).setCell ⟨B,10,none⟩ (.int .i64 (g 3)))=w7 at hX0 ⊢
      clear y0 y1 y2 y3 y4 y5 y6 y7 y8 y9 y10 fB
      obtain ⟨b0,b1,b2,b3,b4,b5,b6,b7,b8,b9,b10⟩:=(uh hX0).hold.box.eleven
      have fz:=(uh hX0).res.free
      obtain ⟨z0,z1,z2,z3,z4,z5,z6,z7,z8,z9,z10⟩:=Gd.res_cells (uh hX0).res
      have hfin:=hide (fun vs=>(uh hX0).worlds vs)
      go_wp2
      refine bodyPost_ret (v:=.agg (Gd.world s jC jE jI dC dE dI g)) (by simp [results,Tryz.results104,go_sem,Gd.world,z0,z1,z2,z3,z4,z5,z6,z7,z8,z9,z10]) rfl ?_
      exact uh hfin [_,_,_,_,_,_,_,_,_,_,_]
     ·rw [if_neg h1] at hdI
      have h1':(E k 0 == 1)=false:=by simpa using h1
      have hX0:Hid (Gd.Boxed w w5 B g1 jF g3 c1 cap c3 s g c (Ft.hE E (k:Int) n) (Ft.hI E I (k:Int) n)):=by
       show Gd.Boxed _ _ _ _ _ _ _ _ _ _ _ _ _ _
       rw [uh hdE,uh hdI]
       exact uh hX4
      clear hX4 h1 hdE hdI z2 hQ4
      obtain ⟨b0,b1,b2,b3,b4,b5,b6,b7,b8,b9,b10⟩:=(uh hX0).hold.box.eleven
      have fz:=(uh hX0).res.free
      obtain ⟨z0,z1,z2,z3,z4,z5,z6,z7,z8,z9,z10⟩:=Gd.res_cells (uh hX0).res
      have hfin:=hide (fun vs=>(uh hX0).worlds vs)
      go_wp2
      refine bodyPost_ret (v:=.agg (Gd.world s g1 jF g3 c1 cap c3 g)) (by simp [results,Tryz.results104,go_sem,Gd.world,z0,z1,z2,z3,z4,z5,z6,z7,z8,z9,z10]) rfl ?_
      exact uh hfin [_,_,_,_,_,_,_,_,_,_,_]


open Go.RowKit

set_option maxRecDepth 8000 in
set_option maxHeartbeats 6400000 in
theorem refHit8_none (s g c:Nat→Int) (E I:Nat→Nat→Int) (gC gE gI cC cE cI:Nat) (f t:Int) (w:World) (hL:Gd.Lists w gC gE gI c E I) (hno:¬(Ft.there E f=true∧Ft.there E t=true)) :
  Calls Tryz.prog 96 #[.agg (Gd.world s gC gE gI cC cE cI g),.int .i64 f,.int .i64 t] w (Gd.Worlds w s g c E I):=by
 obtain ⟨w0,hw0,hbox,hres,hg0,hsz⟩:=Gd.boxes w gC gE gI cC cE cI s g
 have hL1:=hide (hL.on hg0)
 have hbx1:=hide hbox
 have hrs1:=hide hres
 have hgw:=hide hg0
 have ct1:=hide (fun x hx=>refThere8_any s g c E I gC gE gI cC cE cI f x hx)
 have ct2:=hide (fun x hx=>refThere8_any s g c E I gC gE gI cC cE cI t x hx)
 obtain ⟨p,hp⟩:∃p,Ft.there E f=p:=⟨_,rfl⟩
 obtain ⟨q,hq⟩:∃q,Ft.there E t=q:=⟨_,rfl⟩
 rw [hp,hq] at hno
 rw [hp] at ct1
 rw [hq] at ct2
 clear hL hbox hres hg0 hsz hp hq
 unfold Gd.world at hw0 ct1 ct2 ⊢
 go_enter Tryz.func96,Tryz.ntmps96
 go_upto_region 1 with fail
 rw [←hw0]
 clear hw0
 obtain ⟨B,hB⟩:∃B,w.heap.size=B:=⟨_,rfl⟩
 rw [hB] at hbx1 hrs1 ⊢
 have hB':=hide hB
 clear hB
 cases p
 ·clear hno
  obtain ⟨b0,b1,b2,b3,b4,b5,b6,b7,b8,b9,b10⟩:=(uh hbx1).eleven
  go_wp2_with fail
  refine (uh ct1 _ (uh hL1)).mono ?_
  rintro e w1 ⟨rfl,hg⟩
  have hbx2:=hide ((uh hbx1).on hg)
  have hrs2:=hide ((uh hrs1).on hg)
  have hL2:=hide ((uh hL1).on hg)
  have hgw2:=hide (gtr (uh hgw) hg)
  clear hbx1 hrs1 hL1 hgw hg b0 b1 b2 b3 b4 b5 b6 b7 b8 b9 b10
  have hbx1:=hide (uh hbx2)
  have hrs1:=hide (uh hrs2)
  have hL1:=hide (uh hL2)
  have hgw:=hide (uh hgw2)
  clear hbx2 hrs2 hL2 hgw2
  obtain ⟨b0,b1,b2,b3,b4,b5,b6,b7,b8,b9,b10⟩:=(uh hbx1).eleven
  have ca:=hide (refTwin_any s g c E I gC gE gI cC cE cI w1 (uh hL1))
  unfold Gd.world at ca
  go_wp2_with fail
  refine (uh ca).mono ?_
  rintro e w2 ⟨jC,jE,jI,dC,dE,dI,rfl,hcap,l1,l2,l3,n1,n2,n3,hL2,hg2⟩
  have fz:=((uh hrs1).on hg2).free
  obtain ⟨z0,z1,z2,z3,z4,z5,z6,z7,z8,z9,z10⟩:=Gd.res_cells ((uh hrs1).on hg2)
  have hfin:Hid (∀vs,Gd.Worlds w s g c E I (.returned (.agg (Gd.world s jC jE jI dC dE dI g))) (w2.setCells (B+1) 0 vs)):=fun vs=>by
   have r:=gss (g:=B+1) vs 0 w2 (World.grownBy.refl _ _)
   have hB:=uh hB'
   have hs:=(uh hrs1).lt
   have h0:=(uh hgw).size
   exact ⟨jC,jE,jI,dC,dE,dI,rfl,hcap,by omega,by omega,by omega,n1,n2,n3,⟨hL2.cells.grown r (by simp;omega),hL2.ents.grown r (by simp;omega),hL2.items.grown r (by simp;omega)⟩,own_sets (by omega) _ 0 w2 (gtr (uh hgw) hg2)⟩
  clear hcap l1 l2 l3 n1 n2 n3 hL2 hg2 ca b0 b1 b2 b3 b4 b5 b6 b7 b8 b9 b10
  unfold Gd.world
  go_wp2
  refine bodyPost_ret (v:=.agg (Gd.world s jC jE jI dC dE dI g)) (by simp [results,Tryz.results96,go_sem,Gd.world,z0,z1,z2,z3,z4,z5,z6,z7,z8,z9,z10]) rfl ?_
  exact uh hfin [_,_,_,_,_,_,_,_,_,_,_]
 ·obtain rfl:q=false:=by
   cases q
   ·rfl
   ·exact absurd ⟨rfl,rfl⟩ hno
  clear hno
  obtain ⟨b0,b1,b2,b3,b4,b5,b6,b7,b8,b9,b10⟩:=(uh hbx1).eleven
  go_wp2_with fail
  refine (uh ct1 _ (uh hL1)).mono ?_
  rintro e w1 ⟨rfl,hg⟩
  have hbx2:=hide ((uh hbx1).on hg)
  have hrs2:=hide ((uh hrs1).on hg)
  have hL2:=hide ((uh hL1).on hg)
  have hgw2:=hide (gtr (uh hgw) hg)
  clear hbx1 hrs1 hL1 hgw hg b0 b1 b2 b3 b4 b5 b6 b7 b8 b9 b10
  have hbx1:=hide (uh hbx2)
  have hrs1:=hide (uh hrs2)
  have hL1:=hide (uh hL2)
  have hgw:=hide (uh hgw2)
  clear hbx2 hrs2 hL2 hgw2
  obtain ⟨b0,b1,b2,b3,b4,b5,b6,b7,b8,b9,b10⟩:=(uh hbx1).eleven
  go_wp2_with fail
  refine (uh ct2 _ (uh hL1)).mono ?_
  rintro e w1 ⟨rfl,hg⟩
  have hbx2:=hide ((uh hbx1).on hg)
  have hrs2:=hide ((uh hrs1).on hg)
  have hL2:=hide ((uh hL1).on hg)
  have hgw2:=hide (gtr (uh hgw) hg)
  clear hbx1 hrs1 hL1 hgw hg b0 b1 b2 b3 b4 b5 b6 b7 b8 b9 b10
  have hbx1:=hide (uh hbx2)
  have hrs1:=hide (uh hrs2)
  have hL1:=hide (uh hL2)
  have hgw:=hide (uh hgw2)
  clear hbx2 hrs2 hL2 hgw2
  obtain ⟨b0,b1,b2,b3,b4,b5,b6,b7,b8,b9,b10⟩:=(uh hbx1).eleven
  have ca:=hide (refTwin_any s g c E I gC gE gI cC cE cI w1 (uh hL1))
  unfold Gd.world at ca
  go_wp2_with fail
  refine (uh ca).mono ?_
  rintro e w2 ⟨jC,jE,jI,dC,dE,dI,rfl,hcap,l1,l2,l3,n1,n2,n3,hL2,hg2⟩
  have fz:=((uh hrs1).on hg2).free
  obtain ⟨z0,z1,z2,z3,z4,z5,z6,z7,z8,z9,z10⟩:=Gd.res_cells ((uh hrs1).on hg2)
  have hfin:Hid (∀vs,Gd.Worlds w s g c E I (.returned (.agg (Gd.world s jC jE jI dC dE dI g))) (w2.setCells (B+1) 0 vs)):=fun vs=>by
   have r:=gss (g:=B+1) vs 0 w2 (World.grownBy.refl _ _)
   have hB:=uh hB'
   have hs:=(uh hrs1).lt
   have h0:=(uh hgw).size
   exact ⟨jC,jE,jI,dC,dE,dI,rfl,hcap,by omega,by omega,by omega,n1,n2,n3,⟨hL2.cells.grown r (by simp;omega),hL2.ents.grown r (by simp;omega),hL2.items.grown r (by simp;omega)⟩,own_sets (by omega) _ 0 w2 (gtr (uh hgw) hg2)⟩
  clear hcap l1 l2 l3 n1 n2 n3 hL2 hg2 ca b0 b1 b2 b3 b4 b5 b6 b7 b8 b9 b10
  unfold Gd.world
  go_wp2
  refine bodyPost_ret (v:=.agg (Gd.world s jC jE jI dC dE dI g)) (by simp [results,Tryz.results96,go_sem,Gd.world,z0,z1,z2,z3,z4,z5,z6,z7,z8,z9,z10]) rfl ?_
  exact uh hfin [_,_,_,_,_,_,_,_,_,_,_]

end Go.Proofs.YtkcooekhigmioaaGreat
