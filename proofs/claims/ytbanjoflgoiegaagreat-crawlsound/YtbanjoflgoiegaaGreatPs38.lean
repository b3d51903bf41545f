import Derived.Test.YtbanjoflgoiegaaGreatPs36
import Derived.Test.YtbanjoflgoiegaaGreatPs37
namespace Go.Proofs.YtbanjoflgoiegaaGreat
open Go.RowKit

set_option maxRecDepth 8000 in
set_option maxHeartbeats 6400000 in
theorem fightHit_none (s g c:Nat→Int) (E I:Nat→Nat→Int) (gC gE gI cC cE cI:Nat) (f t:Int) (w:World) (hL:Gd.Lists w gC gE gI c E I) (hno:¬(Ft.there E f=true∧Ft.there E t=true)) :
  Calls Tryz.prog 114 #[.agg (Gd.world s gC gE gI cC cE cI g),.int .i64 f,.int .i64 t] w (Gd.WorldsW w s g c E I):=by
 obtain ⟨w0,hw0,hbox,hres,hg0,hsz⟩:=Gd.boxes w gC gE gI cC cE cI s g
 have ca':=hide (fightApart_wide s g c E I gC gE gI cC cE cI w0 (hL.on hg0))
 obtain ⟨b0,b1,b2,b3,b4,b5,b6,b7,b8,b9,b10⟩:=hbox.eleven
 have hbx:=hide hbox
 have hrs:=hide hres
 have hg0':=hide hg0
 have hsz':=hide hsz
 have hfB:=hbox.free
 clear hL hbox hres hg0 hsz
 unfold Gd.world at hw0 ca' ⊢
 go_enter Tryz.func114,Tryz.ntmps114
 go_upto_region 1 with fail
 rw [←hw0]
 clear hw0
 obtain ⟨B,hB⟩:∃B,w.heap.size=B:=⟨_,rfl⟩
 rw [hB] at hbx hrs hsz' b0 b1 b2 b3 b4 b5 b6 b7 b8 b9 b10 ⊢
 have hB':=hide hB
 rw [hB] at hfB
 clear hB
 go_cut [] from 7 (fun wx=>∃g1 g2 g3 c1 c2 c3,Hid (Gd.BoxW w wx B g1 g2 g3 c1 c2 c3 s g c E I))
 case first =>
  go_wp2_with fail
  refine (uh ca').mono ?_
  rintro e w1 ⟨g1,g2,g3,c1,c2,c3,rfl,hcap,l1,l2,l3,n1,n2,n3,hL1,hg1⟩
  obtain ⟨y0,y1,y2,y3,y4,y5,y6,y7,y8,y9,y10⟩:=((uh hbx).on hg1).eleven
  have fB:=((uh hbx).on hg1).free
  have fin:Hid (Gd.BoxW w (w1.setCells B 0 (Gd.world s g1 g2 g3 c1 c2 c3 g).toList) B g1 g2 g3 c1 c2 c3 s g c E I):=by
   have r:=gss (g:=B) (Gd.world s g1 g2 g3 c1 c2 c3 g).toList 0 w1 (World.grownBy.refl _ _)
   have hB:=uh hB'
   have hs:=uh hsz'
   exact ⟨⟨((uh hbx).on hg1).whole s g g1 g2 g3 c1 c2 c3,⟨hL1.cells.grown r (by simp;omega),hL1.ents.grown r (by simp;omega),hL1.items.grown r (by simp;omega)⟩,by omega,by omega,by omega,n1,n2,n3⟩,hB,by omega,by omega,by omega,hcap,((uh hrs).on hg1).grown r (by simp),own_sets (by omega) _ 0 w1 (gtr (uh hg0') hg1)⟩
  unfold Gd.world at fin ⊢
  clear hcap l1 l2 l3 n1 n2 n3 hL1 hg1 b0 b1 b2 b3 b4 b5 b6 b7 b8 b9 b10 hfB ca'
  go_wp2_with fail
  go_meet
  exact ⟨g1,g2,g3,c1,c2,c3,fin⟩
 case rest =>
  obtain ⟨g1,g2,g3,c1,c2,c3,hX⟩:=hcut
  clear b0 b1 b2 b3 b4 b5 b6 b7 b8 b9 b10 hfB ca' hbx hrs hg0' hsz' hB'
  clear w0
  have b5:=(uh hX).hold.box.eleven.2.2.2.2.2.1
  have cf:=hide (isThere_any g2 c2 E f wc (uh hX).hold.lists.own)
  have ct:=hide (isThere_any g2 c2 E t wc (uh hX).hold.lists.own)
  have hno':=hide hno
  obtain ⟨r,hr⟩:∃r,Ft.there E f=r:=⟨_,rfl⟩
  obtain ⟨q,hq⟩:∃q,Ft.there E t=q:=⟨_,rfl⟩
  rw [hr] at cf hno'
  rw [hq] at ct hno'
  clear hr hq hno
  go_wp2_with fail
  refine (uh cf).mono ?_
  rintro e wy ⟨rfl,hy⟩
  subst wy
  clear cf
  cases r
  ·clear ct b5
   obtain ⟨b0,b1,b2,b3,b4,b5,b6,b7,b8,b9,b10⟩:=(uh hX).hold.box.eleven
   have fz:=(uh hX).res.free
   obtain ⟨z0,z1,z2,z3,z4,z5,z6,z7,z8,z9,z10⟩:=Gd.res_cells (uh hX).res
   have hfin:=hide (fun vs=>(uh hX).worlds vs)
   go_wp2
   refine bodyPost_ret (v:=.agg (Gd.world s g1 g2 g3 c1 c2 c3 g)) (by simp [results,Tryz.results114,go_sem,Gd.world,z0,z1,z2,z3,z4,z5,z6,z7,z8,z9,z10]) rfl ?_
   exact uh hfin [_,_,_,_,_,_,_,_,_,_,_]
  ·go_wp2_with fail
   refine (uh ct).mono ?_
   rintro e wy ⟨rfl,hy⟩
   subst wy
   clear ct b5
   cases q
   ·skip
    obtain ⟨b0,b1,b2,b3,b4,b5,b6,b7,b8,b9,b10⟩:=(uh hX).hold.box.eleven
    have fz:=(uh hX).res.free
    obtain ⟨z0,z1,z2,z3,z4,z5,z6,z7,z8,z9,z10⟩:=Gd.res_cells (uh hX).res
    have hfin:=hide (fun vs=>(uh hX).worlds vs)
    go_wp2
    refine bodyPost_ret (v:=.agg (Gd.world s g1 g2 g3 c1 c2 c3 g)) (by simp [results,Tryz.results114,go_sem,Gd.world,z0,z1,z2,z3,z4,z5,z6,z7,z8,z9,z10]) rfl ?_
    exact uh hfin [_,_,_,_,_,_,_,_,_,_,_]
   ·exact absurd (by simp) (uh hno')

set_option maxRecDepth 8000 in
set_option maxHeartbeats 6400000 in
theorem fightHit_some (s g c:Nat→Int) (E I:Nat→Nat→Int) (gC gE gI cC cE cI:Nat) (f t:Nat) (w:World) (hL:Gd.Lists w gC gE gI c E I) (hF:Ft.Fit c E I) (hf:f<32) (ht:t<32) (f0:E f 0≠0) (t0:E t 0≠0) :
  Calls Tryz.prog 114 #[.agg (Gd.world s gC gE gI cC cE cI g),.int .i64 (f:Int),.int .i64 (t:Int)] w (Gd.WorldsW w s g c (Ft.blowE s E I f t) (Ft.blowI s E I f t)):=by
 have rf:Hid (Ft.there E (f:Int)=true):=(Ft.there_at hf).trans (by simp [f0])
 have rt:Hid (Ft.there E (t:Int)=true):=(Ft.there_at ht).trans (by simp [t0])
 have hTt:=(hF.rows t ht).taken t0
 have cfo:=hide (fun g1 g2 g3 c1 c2 c3 x hx=>force_any s g c E I g1 g2 g3 c1 c2 c3 f t x hx hf ht (hF.rows f hf) (hF.rows t ht) f0 t0)
 have hfp:=Ft.force_pos s E I f t
 have hF2:=hide (hF.hurt ht t0 hfp)
 have hleft:=hide (@Ft.hurt_left E t (Ft.force s E I f t) t0)
 have hdE:Hid (Ft.blowE s E I f t=if Ft.hurtE E t (Ft.force s E I f t) t 0≠0 then Ft.leaveE s (Ft.hurtE E t (Ft.force s E I f t)) f t else Ft.hurtE E t (Ft.force s E I f t)):=rfl
 have hdI:Hid (Ft.blowI s E I f t=Ft.hurtI E I t (Ft.force s E I f t)):=rfl
 obtain ⟨n,hn⟩:∃n,Ft.force s E I f t=n:=⟨_,rfl⟩
 rw [hn] at cfo hfp hF2 hleft hdE hdI
 have chu:=hide (fun B g1 g2 g3 c1 c2 c3 x hx=>hurt_any w B g1 g2 g3 c1 c2 c3 t s g c E I n x hx ht (by omega) (by omega) hfp)
 obtain ⟨E2,hE2⟩:∃E2,Ft.hurtE E t n=E2:=⟨_,rfl⟩
 obtain ⟨I2,hI2⟩:∃I2,Ft.hurtI E I t n=I2:=⟨_,rfl⟩
 rw [hE2] at hF2 hdE chu
 rw [hI2] at hF2 hdI chu
 have HF:=hide hf
 have HT:=hide ht
 clear hn hE2 hI2 hF f0 t0 hTt hleft hfp hf ht
 obtain ⟨w0,hw0,hbox,hres,hg0,hsz⟩:=Gd.boxes w gC gE gI cC cE cI s g
 have ca':=hide (fightApart_wide s g c E I gC gE gI cC cE cI w0 (hL.on hg0))
 obtain ⟨b0,b1,b2,b3,b4,b5,b6,b7,b8,b9,b10⟩:=hbox.eleven
 have hbx:=hide hbox
 have hrs:=hide hres
 have hg0':=hide hg0
 have hsz':=hide hsz
 have hfB:=hbox.free
 clear hL hbox hres hg0 hsz
 unfold Gd.world at hw0 ca' ⊢
 go_enter Tryz.func114,Tryz.ntmps114
 go_upto_region 1 with fail
 rw [←hw0]
 clear hw0
 obtain ⟨B,hB⟩:∃B,w.heap.size=B:=⟨_,rfl⟩
 rw [hB] at hbx hrs hsz' b0 b1 b2 b3 b4 b5 b6 b7 b8 b9 b10 ⊢
 have hB':=hide hB
 rw [hB] at hfB
 clear hB
 go_cut [] from 7 (fun wx=>∃g1 g2 g3 c1 c2 c3,Hid (Gd.BoxW w wx B g1 g2 g3 c1 c2 c3 s g c E I))
 case first =>
  go_wp2_with fail
  refine (uh ca').mono ?_
  rintro e w1 ⟨g1,g2,g3,c1,c2,c3,rfl,hcap,l1,l2,l3,n1,n2,n3,hL1,hg1⟩
  obtain ⟨y0,y1,y2,y3,y4,y5,y6,y7,y8,y9,y10⟩:=((uh hbx).on hg1).eleven
  have fB:=((uh hbx).on hg1).free
  have fin:Hid (Gd.BoxW w (w1.setCells B 0 (Gd.world s g1 g2 g3 c1 c2 c3 g).toList) B g1 g2 g3 c1 c2 c3 s g c E I):=by
   have r:=gss (g:=B) (Gd.world s g1 g2 g3 c1 c2 c3 g).toList 0 w1 (World.grownBy.refl _ _)
   have hB:=uh hB'
   have hs:=uh hsz'
   exact ⟨⟨((uh hbx).on hg1).whole s g g1 g2 g3 c1 c2 c3,⟨hL1.cells.grown r (by simp;omega),hL1.ents.grown r (by simp;omega),hL1.items.grown r (by simp;omega)⟩,by omega,by omega,by omega,n1,n2,n3⟩,hB,by omega,by omega,by omega,hcap,((uh hrs).on hg1).grown r (by simp),own_sets (by omega) _ 0 w1 (gtr (uh hg0') hg1)⟩
  unfold Gd.world at fin ⊢
  clear hcap l1 l2 l3 n1 n2 n3 hL1 hg1 b0 b1 b2 b3 b4 b5 b6 b7 b8 b9 b10 hfB ca'
  go_wp2_with fail
  go_meet
  exact ⟨g1,g2,g3,c1,c2,c3,fin⟩
 case rest =>
  obtain ⟨g1,g2,g3,c1,c2,c3,hX⟩:=hcut
  clear b0 b1 b2 b3 b4 b5 b6 b7 b8 b9 b10 hfB ca' hbx hrs hg0' hsz' hB'
  clear w0
  have b5:=(uh hX).hold.box.eleven.2.2.2.2.2.1
  have cf:=isThere_any g2 c2 E (f:Int) wc (uh hX).hold.lists.own
  have ct:=isThere_any g2 c2 E (t:Int) wc (uh hX).hold.lists.own
  rw [uh rf] at cf
  rw [uh rt] at ct
  have cf':=hide cf
  have ct':=hide ct
  clear cf ct rf rt
  go_wp2_with fail
  refine (uh cf').mono ?_
  rintro e wy ⟨rfl,hy⟩
  subst wy
  go_wp2_with fail
  refine (uh ct').mono ?_
  rintro e wy ⟨rfl,hy⟩
  subst wy
  clear cf' ct' b5
  obtain ⟨b0,b1,b2,b3,b4,b5,b6,b7,b8,b9,b10⟩:=(uh hX).hold.box.eleven
  have cfo':=hide (uh cfo g1 g2 g3 c1 c2 c3 wc (uh hX).hold.lists)
  unfold Gd.world at cfo'
  go_wp2_with fail
  refine (uh cfo').mono ?_
  rintro e w1 ⟨rfl,hg⟩
  have hX1:=hide ((uh hX).on hg)
  clear hg hX cfo cfo' b0 b1 b2 b3 b4 b5 b6 b7 b8 b9 b10
  have chu':=hide (uh chu B g1 g2 g3 c1 c2 c3 w1 (uh hX1))
  go_wp2_with fail
  refine (uh chu').mono ?_
  rintro e w2 ⟨rfl,h1,h2,h3,d1,d2,d3,hY⟩
  have hX2:=hide hY
  clear hY chu chu' hX1
  have b5:=(uh hX2).hold.box.eleven.2.2.2.2.2.1
  have ct:=isThere_any h2 d2 E2 (t:Int) w2 (uh hX2).hold.lists.own
  rw [Ft.there_at (uh HT)] at ct
  by_cases hz:E2 t 0=0
  ·rw [decide_eq_false (by simpa using hz)] at ct
   rw [if_neg (by simpa using hz)] at hdE
   have ct':=hide ct
   clear ct hz
   go_wp2_with fail
   refine (uh ct').mono ?_
   rintro e wy ⟨rfl,hy⟩
   subst wy
   have hX0:Hid (Gd.BoxW w w2 B h1 h2 h3 d1 d2 d3 s g c (Ft.blowE s E I f t) (Ft.blowI s E I f t)):=by
    show Gd.BoxW _ _ _ _ _ _ _ _ _ _ _ _ _ _
    rw [uh hdE,uh hdI]
    exact uh hX2
   clear ct' b5 hX2 hdE hdI
   obtain ⟨b0,b1,b2,b3,b4,b5,b6,b7,b8,b9,b10⟩:=(uh hX0).hold.box.eleven
   have fz:=(uh hX0).res.free
   obtain ⟨z0,z1,z2,z3,z4,z5,z6,z7,z8,z9,z10⟩:=Gd.res_cells (uh hX0).res
   have hfin:=hide (fun vs=>(uh hX0).worlds vs)
   go_wp2
   refine bodyPost_ret (v:=.agg (Gd.world s h1 h2 h3 d1 d2 d3 g)) (by simp [results,Tryz.results114,go_sem,Gd.world,z0,z1,z2,z3,z4,z5,z6,z7,z8,z9,z10]) rfl ?_
   exact uh hfin [_,_,_,_,_,_,_,_,_,_,_]
  ·rw [decide_eq_true hz] at ct
   rw [if_pos hz] at hdE
   have hT2:=((uh hF2).rows t (uh HT)).taken hz
   have cl:=hide (leave_any w B h1 h2 h3 d1 d2 d3 f t s g c E2 I2 w2 (uh hX2) (uh HF) (uh HT) (by omega) (by omega) (by omega) (by omega))
   have ct':=hide ct
   clear ct hz hT2 hF2
   go_wp2_with fail
   refine (uh ct').mono ?_
   rintro e wy ⟨rfl,hy⟩
   subst wy
   go_wp2_with fail
   refine (uh cl).mono ?_
   rintro e w3 ⟨rfl,k1,k2,k3,e1,e2,e3,hY⟩
   have hX0:Hid (Gd.BoxW w w3 B k1 k2 k3 e1 e2 e3 s g c (Ft.blowE s E I f t) (Ft.blowI s E I f t)):=by
    show Gd.BoxW _ _ _ _ _ _ _ _ _ _ _ _ _ _
    rw [uh hdE,uh hdI]
    exact hY
   clear hY cl ct' b5 hX2 hdE hdI
   obtain ⟨b0,b1,b2,b3,b4,b5,b6,b7,b8,b9,b10⟩:=(uh hX0).hold.box.eleven
   have fz:=(uh hX0).res.free
   obtain ⟨z0,z1,z2,z3,z4,z5,z6,z7,z8,z9,z10⟩:=Gd.res_cells (uh hX0).res
   have hfin:=hide (fun vs=>(uh hX0).worlds vs)
   go_wp2
   refine bodyPost_ret (v:=.agg (Gd.world s k1 k2 k3 e1 e2 e3 g)) (by simp [results,Tryz.results114,go_sem,Gd.world,z0,z1,z2,z3,z4,z5,z6,z7,z8,z9,z10]) rfl ?_
   exact uh hfin [_,_,_,_,_,_,_,_,_,_,_]

theorem fightHit_wide (s g c:Nat→Int) (E I:Nat→Nat→Int) (gC gE gI cC cE cI:Nat) (f t:Int) (w:World) (hL:Gd.Lists w gC gE gI c E I) (hF:Ft.Fit c E I) :
  Calls Tryz.prog 114 #[.agg (Gd.world s gC gE gI cC cE cI g),.int .i64 f,.int .i64 t] w (Gd.WorldsW w s g c (Ft.hitE s E I f t) (Ft.hitI s E I f t)):=by
 unfold Ft.hitE Ft.hitI
 by_cases h:Ft.there E f=true∧Ft.there E t=true
 ·rw [if_pos h,if_pos h]
  obtain ⟨a,ha,rfl,a0⟩:=Ft.there_pos h.1
  obtain ⟨b,hb,rfl,b0⟩:=Ft.there_pos h.2
  rw [Int.toNat_natCast,Int.toNat_natCast]
  exact fightHit_some s g c E I gC gE gI cC cE cI a b w hL hF ha hb a0 b0
 ·rw [if_neg h,if_neg h]
  exact fightHit_none s g c E I gC gE gI cC cE cI f t w hL h

set_option maxRecDepth 8000 in
set_option maxHeartbeats 6400000 in
theorem fightAil_wide (s g c:Nat→Int) (E I:Nat→Nat→Int) (gC gE gI cC cE cI:Nat) (w:World) (hL:Gd.Lists w gC gE gI c E I) (hF:Ft.Fit c E I) :
  Calls Tryz.prog 77 #[.agg (Gd.world s gC gE gI cC cE cI g)] w (Gd.WorldsW w s g c (Ft.ailE E I 32).1 (Ft.ailE E I 32).2):=by
 have hFm:=hide (fun m hm=>hF.ail m hm)
 clear hF
 obtain ⟨w0,hw0,hbox,hres,hg0,hsz⟩:=Gd.boxes w gC gE gI cC cE cI s g
 have ca':=hide (fightApart_wide s g c E I gC gE gI cC cE cI w0 (hL.on hg0))
 obtain ⟨b0,b1,b2,b3,b4,b5,b6,b7,b8,b9,b10⟩:=hbox.eleven
 have hbx:=hide hbox
 have hrs:=hide hres
 have hg0':=hide hg0
 have hsz':=hide hsz
 have hfB:=hbox.free
 clear hL hbox hres hg0 hsz
 unfold Gd.world at hw0 ca' ⊢
 go_enter Tryz.func77,Tryz.ntmps77
 go_upto_region 1 with fail
 rw [←hw0]
 clear hw0
 obtain ⟨B,hB⟩:∃B,w.heap.size=B:=⟨_,rfl⟩
 rw [hB] at hbx hrs hsz' b0 b1 b2 b3 b4 b5 b6 b7 b8 b9 b10 ⊢
 have hB':=hide hB
 rw [hB] at hfB
 clear hB
 go_cut [] from 3 (fun wx=>∃g1 g2 g3 c1 c2 c3,Hid (Gd.BoxW w wx B g1 g2 g3 c1 c2 c3 s g c E I))
 case first =>
  go_wp2_with fail
  refine (uh ca').mono ?_
  rintro e w1 ⟨g1,g2,g3,c1,c2,c3,rfl,hcap,l1,l2,l3,n1,n2,n3,hL1,hg1⟩
  obtain ⟨y0,y1,y2,y3,y4,y5,y6,y7,y8,y9,y10⟩:=((uh hbx).on hg1).eleven
  have fB:=((uh hbx).on hg1).free
  have fin:Hid (Gd.BoxW w (w1.setCells B 0 (Gd.world s g1 g2 g3 c1 c2 c3 g).toList) B g1 g2 g3 c1 c2 c3 s g c E I):=by
   have r:=gss (g:=B) (Gd.world s g1 g2 g3 c1 c2 c3 g).toList 0 w1 (World.grownBy.refl _ _)
   have hB:=uh hB'
   have hs:=uh hsz'
   exact ⟨⟨((uh hbx).on hg1).whole s g g1 g2 g3 c1 c2 c3,⟨hL1.cells.grown r (by simp;omega),hL1.ents.grown r (by simp;omega),hL1.items.grown r (by simp;omega)⟩,by omega,by omega,by omega,n1,n2,n3⟩,hB,by omega,by omega,by omega,hcap,((uh hrs).on hg1).grown r (by simp),own_sets (by omega) _ 0 w1 (gtr (uh hg0') hg1)⟩
  unfold Gd.world at fin ⊢
  clear hcap l1 l2 l3 n1 n2 n3 hL1 hg1 b0 b1 b2 b3 b4 b5 b6 b7 b8 b9 b10 hfB ca'
  go_wp2_with fail
  go_meet
  exact ⟨g1,g2,g3,c1,c2,c3,fin⟩
 case rest =>
  obtain ⟨g1,g2,g3,c1,c2,c3,hX⟩:=hcut
  clear b0 b1 b2 b3 b4 b5 b6 b7 b8 b9 b10 hfB ca' hbx hrs hg0' hsz' hB'
  clear w0
  have b5:=(uh hX).hold.box.eleven.2.2.2.2.2.1
  go_wp2_with fail
  go_loopw [9] (fun vk wr=>∃(k h1 h2 h3 d1 d2 d3:Nat),k≤32∧vk=.int .i64 (k:Int)∧Hid (Gd.BoxW w wr B h1 h2 h3 d1 d2 d3 s g c (Ft.ailE E I k).1 (Ft.ailE E I k).2)) (fun vk _=>40 - (intOf vk).toNat)
  case atStart=>exact ⟨0,g1,g2,g3,c1,c2,c3,by omega,rfl,hX⟩
  case round =>
   clear hX b5
   obtain ⟨k,h1,h2,h3,d1,d2,d3,hk,rfl,hX⟩:=hrel
   by_cases hlt:k<32
   ·have hlt':(k:Int)<32:=by omega
    have HK:=hide hlt
    have b5:=(uh hX).hold.box.eleven.2.2.2.2.2.1
    have hFk:=hide (uh hFm k hk)
    have hnx:Hid (Ft.ailE E I (k+1)=if (Ft.ailE E I k).1 k 0≠0 then (Ft.oneE (Ft.ailE E I k).1 k,Ft.oneI (Ft.ailE E I k).1 (Ft.ailE E I k).2 k) else Ft.ailE E I k):=rfl
    obtain ⟨P,hP⟩:∃P,Ft.ailE E I k=P:=⟨_,rfl⟩
    obtain ⟨E2,I2⟩:=P
    rw [hP] at hX hFk hnx
    have ct:=isThere_any h2 d2 E2 (k:Int) wr (uh hX).hold.lists.own
    rw [Ft.there_at hlt] at ct
    by_cases hz:E2 k 0=0
    ·rw [decide_eq_false (by simpa using hz)] at ct
     rw [if_neg (by simpa using hz)] at hnx
     have ct':=hide ct
     clear ct hz hP hlt hk
     go_wp2_with fail
     refine (uh ct').mono ?_
     rintro e wy ⟨rfl,hy⟩
     subst wy
     clear ct' b5
     go_wp2
     go_roundw
     case rel=>exact ⟨k+1,h1,h2,h3,d1,d2,d3,by have:=uh HK;omega,by go_num,by rw [uh hnx];exact hX⟩
     case measure=>simp [intOf];have:=uh HK;omega
    ·rw [decide_eq_true hz] at ct
     rw [if_pos hz] at hnx
     have hFk2:Ft.Fit c E2 I2:=uh hFk
     have hT:=(hFk2.rows k hlt).taken hz
     have cl:=hide (ail1_any w B h1 h2 h3 d1 d2 d3 k s g c E2 I2 wr (uh hX) hlt (by omega) (by omega) (by omega) (by omega) (by omega) (by omega))
     have ct':=hide ct
     clear ct hz hP hlt hk hT hFk hFk2
     go_wp2_with fail
     refine (uh ct').mono ?_
     rintro e wy ⟨rfl,hy⟩
     subst wy
     go_wp2_with fail
     refine (uh cl).mono ?_
     rintro e w3 ⟨rfl,k1,k2,k3,e1,e2,e3,hY⟩
     have hY':=hide hY
     clear hY cl ct' b5 hX
     go_wp2
     go_roundw
     case rel=>exact ⟨k+1,k1,k2,k3,e1,e2,e3,by have:=uh HK;omega,by go_num,by rw [uh hnx];exact hY'⟩
     case measure=>simp [intOf];have:=uh HK;omega
   ·obtain rfl:k=32:=by omega
    have hge:¬((32:Nat):Int)<32:=by omega
    clear hlt hk hFm
    obtain ⟨b0,b1,b2,b3,b4,b5,b6,b7,b8,b9,b10⟩:=(uh hX).hold.box.eleven
    have fz:=(uh hX).res.free
    obtain ⟨z0,z1,z2,z3,z4,z5,z6,z7,z8,z9,z10⟩:=Gd.res_cells (uh hX).res
    have hfin:=hide (fun vs=>(uh hX).worlds vs)
    go_wp2
    refine bodyPost_ret (v:=.agg (Gd.world s h1 h2 h3 d1 d2 d3 g)) (by simp [results,Tryz.results77,go_sem,Gd.world,z0,z1,z2,z3,z4,z5,z6,z7,z8,z9,z10]) rfl ?_
    exact uh hfin [_,_,_,_,_,_,_,_,_,_,_]

end Go.Proofs.YtbanjoflgoiegaaGreat
