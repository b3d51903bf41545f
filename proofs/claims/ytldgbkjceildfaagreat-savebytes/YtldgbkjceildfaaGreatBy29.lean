import Derived.Test.YtldgbkjceildfaaGreatBy28
import Derived.Test.YtldgbkjceildfaaGreatBy23
namespace Go.Proofs.YtldgbkjceildfaaGreat
open Go.RowKit

set_option maxRecDepth 8000 in
set_option maxHeartbeats 6400000 in
theorem refHurt8_any (s g c:Nat→Int) (E I:Nat→Nat→Int) (gC gE gI cC cE cI:Nat) (row n:Int) (w:World) (hL:Gd.Lists w gC gE gI c E I) (hF:Ft.Fit c E I) :
  Calls Tryz.prog 83 #[.agg (Gd.world s gC gE gI cC cE cI g),.int .i64 row,.int .i64 n] w (Gd.Worlds w s g c (Ft.hE E row n) (Ft.hI E I row n)):=by
 obtain ⟨w0,hw0,hbox,hres,hg0,hsz⟩:=Gd.boxes w gC gE gI cC cE cI s g;have ca':=hide (refTwin_any s g c E I gC gE gI cC cE cI w0 (hL.on hg0));obtain ⟨b0,b1,b2,b3,b4,b5,b6,b7,b8,b9,b10⟩:=hbox.eleven;have hbx:=hide hbox;have hrs:=hide hres;have hg0':=hide hg0;have hsz':=hide hsz;have hfB:=hbox.free;clear hL hbox hres hg0 hsz;unfold Gd.world at hw0 ca' ⊢;go_enter Tryz.func83,Tryz.ntmps83;go_upto_region 1 with fail;rw [←hw0];clear hw0;obtain ⟨B,hB⟩:∃B,w.heap.size=B:=⟨_,rfl⟩;rw [hB] at hbx hrs hsz' b0 b1 b2 b3 b4 b5 b6 b7 b8 b9 b10 ⊢;have hB':=hide hB;rw [hB] at hfB;clear hB
 go_cut [] from 8 (fun wx=>∃g1 g2 g3 c1 c2 c3,Hid (Gd.Boxed w wx B g1 g2 g3 c1 c2 c3 s g c E I))
 case first =>
  go_wp2_with fail;refine (uh ca').mono ?_;rintro e w1 ⟨g1,g2,g3,c1,c2,c3,rfl,hcap,l1,l2,l3,n1,n2,n3,hL1,hg1⟩;obtain ⟨y0,y1,y2,y3,y4,y5,y6,y7,y8,y9,y10⟩:=((uh hbx).on hg1).eleven;have fB:=((uh hbx).on hg1).free;have fin:Hid (Gd.Boxed w (w1.setCells B 0 (Gd.world s g1 g2 g3 c1 c2 c3 g).toList) B g1 g2 g3 c1 c2 c3 s g c E I):=by
   have r:=gss (g:=B) (Gd.world s g1 g2 g3 c1 c2 c3 g).toList 0 w1 (World.grownBy.refl _ _);have hB:=uh hB';have hs:=uh hsz';exact ⟨⟨((uh hbx).on hg1).whole s g g1 g2 g3 c1 c2 c3,⟨hL1.cells.grown r (by simp;omega),hL1.ents.grown r (by simp;omega),hL1.items.grown r (by simp;omega)⟩,by omega,by omega,by omega,n1,n2,n3⟩,hB,by omega,by omega,by omega,hcap,((uh hrs).on hg1).grown r (by simp),own_sets (by omega) _ 0 w1 (gtr (uh hg0') hg1)⟩
  unfold Gd.world at fin ⊢;clear hcap l1 l2 l3 n1 n2 n3 hL1 hg1 b0 b1 b2 b3 b4 b5 b6 b7 b8 b9 b10 hfB ca';go_wp2_with fail;go_meet;exact ⟨g1,g2,g3,c1,c2,c3,fin⟩
 case rest =>
  obtain ⟨g1,g2,g3,c1,c2,c3,hX⟩:=hcut;clear b0 b1 b2 b3 b4 b5 b6 b7 b8 b9 b10 hfB ca' hbx hrs hg0' hsz' hB';clear w0;obtain ⟨b0,b1,b2,b3,b4,b5,b6,b7,b8,b9,b10⟩:=(uh hX).hold.box.eleven;have ct:=hide (refThere8_any s g c E I g1 g2 g3 c1 c2 c3 row wc (uh hX).hold.lists);have hp:=@Ft.there_pos E row;have hdE:Hid (Ft.hE E row n=if Ft.there E row=true∧1≤n then Ft.hurtE E row.toNat n else E):=rfl;have hdI:Hid (Ft.hI E I row n=if Ft.there E row=true∧1≤n then Ft.hurtI E I row.toNat n else I):=rfl;obtain ⟨r,hr⟩:∃r,Ft.there E row=r:=⟨_,rfl⟩;rw [hr] at ct hp hdE hdI;have hp':=hide hp;clear hr hp;unfold Gd.world at ct;go_wp2_with fail;refine (uh ct).mono ?_;rintro e wd ⟨rfl,hg⟩;have hX1:=hide ((uh hX).on hg);clear ct hg hX b0 b1 b2 b3 b4 b5 b6 b7 b8 b9 b10;have hX:=hide (uh hX1);clear hX1;cases r
  ·have hX0:Hid (Gd.Boxed w wd B g1 g2 g3 c1 c2 c3 s g c (Ft.hE E row n) (Ft.hI E I row n)):=by
    show Gd.Boxed _ _ _ _ _ _ _ _ _ _ _ _ _ _;rw [uh hdE,uh hdI,if_neg (by simp),if_neg (by simp)];exact uh hX
   clear hX hp' hdE hdI;obtain ⟨b0,b1,b2,b3,b4,b5,b6,b7,b8,b9,b10⟩:=(uh hX0).hold.box.eleven;have fz:=(uh hX0).res.free;obtain ⟨z0,z1,z2,z3,z4,z5,z6,z7,z8,z9,z10⟩:=Gd.res_cells (uh hX0).res;have hfin:=hide (fun vs=>(uh hX0).worlds vs);go_wp2;refine bodyPost_ret (v:=.agg (Gd.world s g1 g2 g3 c1 c2 c3 g)) (by simp [results,Tryz.results83,go_sem,Gd.world,z0,z1,z2,z3,z4,z5,z6,z7,z8,z9,z10]) rfl ?_;exact uh hfin [_,_,_,_,_,_,_,_,_,_,_]
  ·by_cases hn:1≤n;rotate_left
   ·have hn':n<1:=by omega
    have hX0:Hid (Gd.Boxed w wd B g1 g2 g3 c1 c2 c3 s g c (Ft.hE E row n) (Ft.hI E I row n)):=by
     show Gd.Boxed _ _ _ _ _ _ _ _ _ _ _ _ _ _;rw [uh hdE,uh hdI,if_neg (fun h=>hn h.2),if_neg (fun h=>hn h.2)];exact uh hX
    clear hX hp' hdE hdI hn;obtain ⟨b0,b1,b2,b3,b4,b5,b6,b7,b8,b9,b10⟩:=(uh hX0).hold.box.eleven;have fz:=(uh hX0).res.free;obtain ⟨z0,z1,z2,z3,z4,z5,z6,z7,z8,z9,z10⟩:=Gd.res_cells (uh hX0).res;have hfin:=hide (fun vs=>(uh hX0).worlds vs);go_wp2;refine bodyPost_ret (v:=.agg (Gd.world s g1 g2 g3 c1 c2 c3 g)) (by simp [results,Tryz.results83,go_sem,Gd.world,z0,z1,z2,z3,z4,z5,z6,z7,z8,z9,z10]) rfl ?_;exact uh hfin [_,_,_,_,_,_,_,_,_,_,_]
   ·obtain ⟨k,hk,rfl,hk0⟩:=uh hp' rfl;have hT:=(hF.rows k hk).taken hk0;have h50:0≤E k 5:=by omega
    have h59:E k 5≤20:=by omega
    have hn1:¬n<1:=by omega
    rw [if_pos ⟨by first | trivial | rfl,hn⟩,Int.toNat_natCast] at hdE hdI;clear hT hk0 hp' hF;have b5:=(uh hX).hold.box.eleven.2.2.2.2.2.1;obtain ⟨u0,u1,u2,u3,u4,u5,u6,u7,u8,u9,u10⟩:=(uh hX).hold.lists.own.ents.row hk;have hk':(k:Int)<32:=by omega
    have HK:=hide hk;have hX3:=hide ((uh hX).on (World.grownBy_alloc wd (.cells (En.cells (E k)) 70) none));have hQ:=hide (Arr.lit (heap_alloc_new wd (.cells (En.cells (E k)) 70)));have hQB:Hid (B≠wd.heap.size):=(show B≠wd.heap.size by have:=(uh hX).hold.box.lt;omega);clear hX hk;unfold En.cells at hX3 hQ;go_upto_region 5 with fail;obtain ⟨Q,hQe⟩:∃Q,wd.heap.size=Q:=⟨_,rfl⟩;rw [hQe] at hQ hQB ⊢;generalize wd.alloc (.cells #[.int .i64 (E k 0),.int .i64 (E k 1),.int .i64 (E k 2),.int .i64 (E k 3),.int .i64 (E k 4),.int .i64 (E k 5),.int .i64 (E k 6),.int .i64 (E k 7),.int .i64 (E k 8),.int .i64 (E k 9),.int .i64 (E k 10)] 70)=w3 at hX3 hQ ⊢;clear hQe u0 u1 u2 u3 u4 u5 u6 u7 u8 u9 u10 b5;have z0:w3.cell? ⟨Q,0,none⟩=some (.int .i64 (E k 0)):=(uh hQ).cell (i:=0) (by show 0<11;omega);have z2:w3.cell? ⟨Q,2,none⟩=some (.int .i64 (E k 2)):=(uh hQ).cell (i:=2) (by show 2<11;omega);have z5:w3.cell? ⟨Q,5,none⟩=some (.int .i64 (E k 5)):=(uh hQ).cell (i:=5) (by show 5<11;omega);have b5:=(uh hX3).hold.box.eleven.2.2.2.2.2.1;unfold Ft.hurtE at hdE;unfold Ft.hurtI at hdI;by_cases hlt:n<E k 5
    ·rw [if_pos hlt] at hdE hdI;have r5:w3.cell? ⟨g2,k*11+5,none⟩=some (.int .i64 (E k 5)):=((uh hX3).hold.lists.own.ents.row (uh HK)).2.2.2.2.2.1;have fE:=(uh hX3).hold.lists.ents.free;have hX0:Hid (Gd.Boxed w (w3.setCell ⟨g2,k*11+5,none⟩ (.int .i64 (E k 5 - n))) B g1 g2 g3 c1 c2 c3 s g c (Ft.hE E (k:Int) n) (Ft.hI E I (k:Int) n)):=by
      show Gd.Boxed _ _ _ _ _ _ _ _ _ _ _ _ _ _;rw [uh hdE,uh hdI];exact (uh hX3).stat k 5 (by omega) (E k 5 - n)
     clear hdE hdI z0 z2;go_upto_region 7 with fail;generalize w3.setCell ⟨g2,k*11+5,none⟩ (.int .i64 (E k 5 - n))=w4 at hX0 ⊢;clear r5 fE b5 z5 hX3 hQ hlt;obtain ⟨b0,b1,b2,b3,b4,b5,b6,b7,b8,b9,b10⟩:=(uh hX0).hold.box.eleven;have fz:=(uh hX0).res.free;obtain ⟨z0,z1,z2,z3,z4,z5,z6,z7,z8,z9,z10⟩:=Gd.res_cells (uh hX0).res;have hfin:=hide (fun vs=>(uh hX0).worlds vs);go_wp2;refine bodyPost_ret (v:=.agg (Gd.world s g1 g2 g3 c1 c2 c3 g)) (by simp [results,Tryz.results83,go_sem,Gd.world,z0,z1,z2,z3,z4,z5,z6,z7,z8,z9,z10]) rfl ?_;exact uh hfin [_,_,_,_,_,_,_,_,_,_,_]
    ·rw [if_neg hlt] at hdE hdI;have cf:=hide (refFree_in g2 32 c2 k E w3 (uh hX3).hold.lists.own.ents (uh HK));go_wp2_with fail;refine (uh cf).mono ?_;rintro e w4 ⟨jF,cap,rfl,hlo,hnc,hcm,hown,hgr⟩;have hX4:=hide ((uh hX3).folk hnc hlo hown hgr);have y5:=((uh hX3).on hgr).hold.box.eleven.2.2.2.2.2.1;have fB:=((uh hX3).on hgr).hold.box.free;have hQ4:Hid ((w4.setCell ⟨B,5,none⟩ (.slice (some ⟨jF,0,none⟩) 32 cap)).cell? ⟨Q,0,none⟩=some (.int .i64 (E k 0))∧(w4.setCell ⟨B,5,none⟩ (.slice (some ⟨jF,0,none⟩) 32 cap)).cell? ⟨Q,2,none⟩=some (.int .i64 (E k 2))):=by
      have hqb:B≠Q:=uh hQB;have hql:=(uh hQ).lie.lt;exact ⟨by rw [World.cell?_setCell_far _ _ _ _ hqb,gce hgr Q _ hql (by simp)];exact z0,by rw [World.cell?_setCell_far _ _ _ _ hqb,gce hgr Q _ hql (by simp)];exact z2⟩
     clear hlo hnc hcm hown hgr cf b5 z0 z2 z5 hlt;go_upto_region 9 with fail;generalize w4.setCell ⟨B,5,none⟩ (.slice (some ⟨jF,0,none⟩) 32 cap)=w5 at hX4 hQ4 ⊢;clear y5 fB hX3 hQ;obtain ⟨z0,z2⟩:=uh hQ4;by_cases h1:E k 0=1
     ·rw [if_pos h1] at hdI;rw [h1] at z0;have cs:=hide (refSweep_any s g c (En.put E k (En.hole (E k 1))) I g1 jF g3 c1 cap c3 (E k 2) w5 (uh hX4).hold.lists);obtain ⟨b0,b1,b2,b3,b4,b5,b6,b7,b8,b9,b10⟩:=(uh hX4).hold.box.eleven;clear h1;unfold Gd.world at cs;go_wp2_with fail;refine (uh cs).mono ?_;rintro e w6 ⟨jC,jE,jI,dC,dE,dI,rfl,hcap,l1,l2,l3,n1,n2,n3,hL,hg⟩;obtain ⟨y0,y1,y2,y3,y4,y5,y6,y7,y8,y9,y10⟩:=((uh hX4).on hg).hold.box.eleven;have fB:=((uh hX4).on hg).hold.box.free;have hX0:Hid (Gd.Boxed w (((((((((((w6.setCell ⟨B,0,none⟩ (.int .i64 (s 0))).setCell ⟨B,1,none⟩ (.int .i64 (s 1))).setCell ⟨B,2,none⟩ (.int .i64 (s 2))).setCell ⟨B,3,none⟩ (.int .i64 (s 3))).setCell ⟨B,4,none⟩ (.slice (some ⟨jC,0,none⟩) 384 dC)).setCell ⟨B,5,none⟩ (.slice (some ⟨jE,0,none⟩) 32 dE)).setCell ⟨B,6,none⟩ (.slice (some ⟨jI,0,none⟩) 40 dI)).setCell ⟨B,7,none⟩ (.int .i64 (g 0))).setCell ⟨B,8,none⟩ (.int .i64 (g 1))).setCell ⟨B,9,none⟩ (.int .i64 (g 2))).setCell ⟨B,10,none⟩ (.int .i64 (g 3))) B jC jE jI dC dE dI s g c (Ft.hE E (k:Int) n) (Ft.hI E I (k:Int) n)):=by
       show Gd.Boxed _ _ _ _ _ _ _ _ _ _ _ _ _ _;rw [uh hdE,uh hdI];exact (uh hX4).over (s':=s) (g':=g) (dC:=dC) (dI:=dI) hcap l1 l2 l3 n1 n2 n3 hL hg
      clear hcap l1 l2 l3 n1 n2 n3 hL hg cs b0 b1 b2 b3 b4 b5 b6 b7 b8 b9 b10 z0 z2 hX4 hQ4 hdE hdI;unfold Gd.world;go_upto_region 11 with fail;generalize (((((((((((w6.setCell ⟨B,0,none⟩ (.int .i64 (s 0))).setCell ⟨B,1,none⟩ (.int .i64 (s 1))).setCell ⟨B,2,none⟩ (.int .i64 (s 2))).setCell ⟨B,3,none⟩ (.int .i64 (s 3))).setCell ⟨B,4,none⟩ (.slice (some ⟨jC,0,none⟩) 384 dC)).setCell ⟨B,5,none⟩ (.slice (some ⟨jE,0,none⟩) 32 dE)).setCell ⟨B,6,none⟩ (.slice (some ⟨jI,0,none⟩) 40 dI)).setCell ⟨B,7,none⟩ (.int .i64 (g 0))).setCell ⟨B,8,none⟩ (.int .i64 (g 1))).setCell ⟨B,9,none⟩ (.int .i64 (g 2))).setCell ⟨B,10,none⟩ (.int .i64 (g 3)))=w7 at hX0 ⊢;clear y0 y1 y2 y3 y4 y5 y6 y7 y8 y9 y10 fB;obtain ⟨b0,b1,b2,b3,b4,b5,b6,b7,b8,b9,b10⟩:=(uh hX0).hold.box.eleven;have fz:=(uh hX0).res.free;obtain ⟨z0,z1,z2,z3,z4,z5,z6,z7,z8,z9,z10⟩:=Gd.res_cells (uh hX0).res;have hfin:=hide (fun vs=>(uh hX0).worlds vs);go_wp2;refine bodyPost_ret (v:=.agg (Gd.world s jC jE jI dC dE dI g)) (by simp [results,Tryz.results83,go_sem,Gd.world,z0,z1,z2,z3,z4,z5,z6,z7,z8,z9,z10]) rfl ?_;exact uh hfin [_,_,_,_,_,_,_,_,_,_,_]
     ·rw [if_neg h1] at hdI;have h1':(E k 0 == 1)=false:=by simpa using h1
      have hX0:Hid (Gd.Boxed w w5 B g1 jF g3 c1 cap c3 s g c (Ft.hE E (k:Int) n) (Ft.hI E I (k:Int) n)):=by
       show Gd.Boxed _ _ _ _ _ _ _ _ _ _ _ _ _ _;rw [uh hdE,uh hdI];exact uh hX4
      clear hX4 h1 hdE hdI z2 hQ4;obtain ⟨b0,b1,b2,b3,b4,b5,b6,b7,b8,b9,b10⟩:=(uh hX0).hold.box.eleven;have fz:=(uh hX0).res.free;obtain ⟨z0,z1,z2,z3,z4,z5,z6,z7,z8,z9,z10⟩:=Gd.res_cells (uh hX0).res;have hfin:=hide (fun vs=>(uh hX0).worlds vs);go_wp2;refine bodyPost_ret (v:=.agg (Gd.world s g1 jF g3 c1 cap c3 g)) (by simp [results,Tryz.results83,go_sem,Gd.world,z0,z1,z2,z3,z4,z5,z6,z7,z8,z9,z10]) rfl ?_;exact uh hfin [_,_,_,_,_,_,_,_,_,_,_]


open Go.RowKit

set_option maxRecDepth 8000 in
set_option maxHeartbeats 6400000 in
theorem refHit8_none (s g c:Nat→Int) (E I:Nat→Nat→Int) (gC gE gI cC cE cI:Nat) (f t:Int) (w:World) (hL:Gd.Lists w gC gE gI c E I) (hno:¬(Ft.there E f=true∧Ft.there E t=true)) :
  Calls Tryz.prog 74 #[.agg (Gd.world s gC gE gI cC cE cI g),.int .i64 f,.int .i64 t] w (Gd.Worlds w s g c E I):=by
 obtain ⟨w0,hw0,hbox,hres,hg0,hsz⟩:=Gd.boxes w gC gE gI cC cE cI s g;have hL1:=hide (hL.on hg0);have hbx1:=hide hbox;have hrs1:=hide hres;have hgw:=hide hg0;have ct1:=hide (fun x hx=>refThere8_any s g c E I gC gE gI cC cE cI f x hx);have ct2:=hide (fun x hx=>refThere8_any s g c E I gC gE gI cC cE cI t x hx);obtain ⟨p,hp⟩:∃p,Ft.there E f=p:=⟨_,rfl⟩;obtain ⟨q,hq⟩:∃q,Ft.there E t=q:=⟨_,rfl⟩;rw [hp,hq] at hno;rw [hp] at ct1;rw [hq] at ct2;clear hL hbox hres hg0 hsz hp hq;unfold Gd.world at hw0 ct1 ct2 ⊢;go_enter Tryz.func74,Tryz.ntmps74;go_upto_region 1 with fail;rw [←hw0];clear hw0;obtain ⟨B,hB⟩:∃B,w.heap.size=B:=⟨_,rfl⟩;rw [hB] at hbx1 hrs1 ⊢;have hB':=hide hB;clear hB;cases p
 ·clear hno;obtain ⟨b0,b1,b2,b3,b4,b5,b6,b7,b8,b9,b10⟩:=(uh hbx1).eleven;go_wp2_with fail;refine (uh ct1 _ (uh hL1)).mono ?_;rintro e w1 ⟨rfl,hg⟩;have hbx2:=hide ((uh hbx1).on hg);have hrs2:=hide ((uh hrs1).on hg);have hL2:=hide ((uh hL1).on hg);have hgw2:=hide (gtr (uh hgw) hg);clear hbx1 hrs1 hL1 hgw hg b0 b1 b2 b3 b4 b5 b6 b7 b8 b9 b10;have hbx1:=hide (uh hbx2);have hrs1:=hide (uh hrs2);have hL1:=hide (uh hL2);have hgw:=hide (uh hgw2);clear hbx2 hrs2 hL2 hgw2;obtain ⟨b0,b1,b2,b3,b4,b5,b6,b7,b8,b9,b10⟩:=(uh hbx1).eleven;have ca:=hide (refTwin_any s g c E I gC gE gI cC cE cI w1 (uh hL1));unfold Gd.world at ca;go_wp2_with fail;refine (uh ca).mono ?_;rintro e w2 ⟨jC,jE,jI,dC,dE,dI,rfl,hcap,l1,l2,l3,n1,n2,n3,hL2,hg2⟩;have fz:=((uh hrs1).on hg2).free;obtain ⟨z0,z1,z2,z3,z4,z5,z6,z7,z8,z9,z10⟩:=Gd.res_cells ((uh hrs1).on hg2);have hfin:Hid (∀vs,Gd.Worlds w s g c E I (.returned (.agg (Gd.world s jC jE jI dC dE dI g))) (w2.setCells (B+1) 0 vs)):=fun vs=>by
   have r:=gss (g:=B+1) vs 0 w2 (World.grownBy.refl _ _);have hB:=uh hB';have hs:=(uh hrs1).lt;have h0:=(uh hgw).size;exact ⟨jC,jE,jI,dC,dE,dI,rfl,hcap,by omega,by omega,by omega,n1,n2,n3,⟨hL2.cells.grown r (by simp;omega),hL2.ents.grown r (by simp;omega),hL2.items.grown r (by simp;omega)⟩,own_sets (by omega) _ 0 w2 (gtr (uh hgw) hg2)⟩
  clear hcap l1 l2 l3 n1 n2 n3 hL2 hg2 ca b0 b1 b2 b3 b4 b5 b6 b7 b8 b9 b10;unfold Gd.world;go_wp2;refine bodyPost_ret (v:=.agg (Gd.world s jC jE jI dC dE dI g)) (by simp [results,Tryz.results74,go_sem,Gd.world,z0,z1,z2,z3,z4,z5,z6,z7,z8,z9,z10]) rfl ?_;exact uh hfin [_,_,_,_,_,_,_,_,_,_,_]
 ·obtain rfl:q=false:=by
   cases q
   ·rfl
   ·exact absurd ⟨rfl,rfl⟩ hno
  clear hno;obtain ⟨b0,b1,b2,b3,b4,b5,b6,b7,b8,b9,b10⟩:=(uh hbx1).eleven;go_wp2_with fail;refine (uh ct1 _ (uh hL1)).mono ?_;rintro e w1 ⟨rfl,hg⟩;have hbx2:=hide ((uh hbx1).on hg);have hrs2:=hide ((uh hrs1).on hg);have hL2:=hide ((uh hL1).on hg);have hgw2:=hide (gtr (uh hgw) hg);clear hbx1 hrs1 hL1 hgw hg b0 b1 b2 b3 b4 b5 b6 b7 b8 b9 b10;have hbx1:=hide (uh hbx2);have hrs1:=hide (uh hrs2);have hL1:=hide (uh hL2);have hgw:=hide (uh hgw2);clear hbx2 hrs2 hL2 hgw2;obtain ⟨b0,b1,b2,b3,b4,b5,b6,b7,b8,b9,b10⟩:=(uh hbx1).eleven;go_wp2_with fail;refine (uh ct2 _ (uh hL1)).mono ?_;rintro e w1 ⟨rfl,hg⟩;have hbx2:=hide ((uh hbx1).on hg);have hrs2:=hide ((uh hrs1).on hg);have hL2:=hide ((uh hL1).on hg);have hgw2:=hide (gtr (uh hgw) hg);clear hbx1 hrs1 hL1 hgw hg b0 b1 b2 b3 b4 b5 b6 b7 b8 b9 b10;have hbx1:=hide (uh hbx2);have hrs1:=hide (uh hrs2);have hL1:=hide (uh hL2);have hgw:=hide (uh hgw2);clear hbx2 hrs2 hL2 hgw2;obtain ⟨b0,b1,b2,b3,b4,b5,b6,b7,b8,b9,b10⟩:=(uh hbx1).eleven;have ca:=hide (refTwin_any s g c E I gC gE gI cC cE cI w1 (uh hL1));unfold Gd.world at ca;go_wp2_with fail;refine (uh ca).mono ?_;rintro e w2 ⟨jC,jE,jI,dC,dE,dI,rfl,hcap,l1,l2,l3,n1,n2,n3,hL2,hg2⟩;have fz:=((uh hrs1).on hg2).free;obtain ⟨z0,z1,z2,z3,z4,z5,z6,z7,z8,z9,z10⟩:=Gd.res_cells ((uh hrs1).on hg2);have hfin:Hid (∀vs,Gd.Worlds w s g c E I (.returned (.agg (Gd.world s jC jE jI dC dE dI g))) (w2.setCells (B+1) 0 vs)):=fun vs=>by
   have r:=gss (g:=B+1) vs 0 w2 (World.grownBy.refl _ _);have hB:=uh hB';have hs:=(uh hrs1).lt;have h0:=(uh hgw).size;exact ⟨jC,jE,jI,dC,dE,dI,rfl,hcap,by omega,by omega,by omega,n1,n2,n3,⟨hL2.cells.grown r (by simp;omega),hL2.ents.grown r (by simp;omega),hL2.items.grown r (by simp;omega)⟩,own_sets (by omega) _ 0 w2 (gtr (uh hgw) hg2)⟩
  clear hcap l1 l2 l3 n1 n2 n3 hL2 hg2 ca b0 b1 b2 b3 b4 b5 b6 b7 b8 b9 b10;unfold Gd.world;go_wp2;refine bodyPost_ret (v:=.agg (Gd.world s jC jE jI dC dE dI g)) (by simp [results,Tryz.results74,go_sem,Gd.world,z0,z1,z2,z3,z4,z5,z6,z7,z8,z9,z10]) rfl ?_;exact uh hfin [_,_,_,_,_,_,_,_,_,_,_]


open Go.RowKit

def En.ints (e:Nat→Int):Nat→Value:=fun j=>.int .i64 (e j)

theorem En.ints_at (e:Nat→Int) (j:Nat):En.ints e j=.int .i64 (e j):=rfl

theorem En.ints_cells (e:Nat→Int) (j:Nat) (hj:j<11):(En.cells e)[j]?=some (En.ints e j):=by
 rcases (show j=0∨j=1∨j=2∨j=3∨j=4∨j=5∨j=6∨j=7∨j=8∨j=9∨j=10 by omega) with rfl|rfl|rfl|rfl|rfl|rfl|rfl|rfl|rfl|rfl|rfl <;> rfl

theorem Arr.oneRow {w:World} {Q:Nat} {e:Nat→Int} (h:w.heap[Q]?=some (.cells (En.cells e) 70 (0,0))):Arr w Q 70 11 (En.ints e) :=
 ⟨_,h,rfl,fun i hi=>En.ints_cells e i hi⟩

theorem Gd.two_rows (x:World) (a b:Nat→Int):Lie ((x.alloc (.cells (En.cells a) 70)).alloc (.cells (En.cells b) 70)).drew x.heap.size 70 11 (En.ints a)∧Lie ((x.alloc (.cells (En.cells a) 70)).alloc (.cells (En.cells b) 70)).drew (x.heap.size+1) 70 11 (En.ints b)∧x.grownBy ((x.alloc (.cells (En.cells a) 70)).alloc (.cells (En.cells b) 70)).drew none:=by
 have g1:=World.grownBy_alloc x (.cells (En.cells a) 70) none;have g2:=World.grownBy_alloc (x.alloc (.cells (En.cells a) 70)) (.cells (En.cells b) 70) none;have g3:=gd1 g2;have hb:=(Arr.oneRow (heap_alloc_new (x.alloc (.cells (En.cells a) 70)) (.cells (En.cells b) 70))).lie;rw [show (x.alloc (.cells (En.cells a) 70)).heap.size=x.heap.size+1 by simp] at hb;exact ⟨(Arr.oneRow (heap_alloc_new x (.cells (En.cells a) 70))).lie.on g3,hb.on (gd1 (World.grownBy.refl _ none)),gtr g1 g3⟩

structure Gd.Lent (w x:World) (B gC gE gI cC cE cI:Nat) (s g c:Nat→Int) (E I:Nat→Nat→Int):Prop where
 box:Lie x B 30 11 (Gd.box s gC gE gI cC cE cI g)
 lists:Gd.Lists x gC gE gI c E I
 at_:w.heap.size=B
 res:Lie x (B+1) 30 11 (fun j=>#[.int .i64 0,.int .i64 0,.int .i64 0,.int .i64 0,.slice none 0 0,.slice none 0 0,.slice none 0 0,.int .i64 0,.int .i64 0,.int .i64 0,Value.int .i64 0][j]?.getD undef)
 grown:w.grownBy x none

theorem Gd.Lent.on {w x y:World} {B gC gE gI cC cE cI:Nat} {s g c:Nat→Int} {E I:Nat→Nat→Int} (h:Gd.Lent w x B gC gE gI cC cE cI s g c E I) (hg:x.grownBy y none):Gd.Lent w y B gC gE gI cC cE cI s g c E I :=
 { h with box:=h.box.on hg,lists:=h.lists.on hg,res:=h.res.on hg,grown:=gtr h.grown hg }

theorem Gd.Lent.box_ne {w x:World} {B gC gE gI cC cE cI Q m:Nat} {s g c:Nat→Int} {E I:Nat→Nat→Int} {F:Nat→Value} (h:Gd.Lent w x B gC gE gI cC cE cI s g c E I) (hq:Lie x Q 70 m F):B≠Q :=
 Lie.type_ne h.box hq (by decide)

theorem Gd.Lent.over {w x x':World} {B gC gE gI cC cE cI jC jE jI dC dE dI:Nat} {s g c s' g' c':Nat→Int} {E I F J:Nat→Nat→Int} (h:Gd.Lent w x B gC gE gI cC cE cI s g c E I) (hcap:32≤dE) (l1:x.heap.size≤jC) (l2:x.heap.size≤jE) (l3:x.heap.size≤jI) (n1:jC≠jE) (n2:jC≠jI) (n3:jE≠jI) (hL:Gd.Lists x' jC jE jI c' F J) (hg:x.grownBy x' none) :
  Gd.Boxed w (x'.setCells B 0 (Gd.world s' jC jE jI dC dE dI g').toList) B jC jE jI dC dE dI s' g' c' F J:=by
 have h1:=h.box.lt;have h2:=h.grown.size;have h3:=h.at_;have h4:=h.res.lt;have r:=gss (g:=B) (Gd.world s' jC jE jI dC dE dI g').toList 0 x' (World.grownBy.refl _ _);exact ⟨⟨(h.box.on hg).whole s' g' jC jE jI dC dE dI,⟨hL.cells.grown r (by simp;omega),hL.ents.grown r (by simp;omega),hL.items.grown r (by simp;omega)⟩,by omega,by omega,by omega,n1,n2,n3⟩,h.at_,by omega,by omega,by omega,hcap,(h.res.on hg).grown r (by simp),own_sets (by omega) _ 0 x' (gtr h.grown hg)⟩

theorem Ft.hurt_same {E:Nat→Nat→Int} {f t:Nat} {n:Int} (t0:E t 0≠0) (h:Ft.hurtE E t n t 0≠0):Ft.hurtE E t n f 0=E f 0:=by
 by_cases e:f=t
 ·subst e;have hlt:=(Ft.hurt_left t0).1 h;unfold Ft.hurtE;rw [if_pos hlt,Gd.set_other (by omega)]
 ·rw [Ft.hurt_other E n e]

set_option maxRecDepth 8000 in
set_option maxHeartbeats 12800000 in
theorem refHit8_some (s g c:Nat→Int) (E I:Nat→Nat→Int) (gC gE gI cC cE cI:Nat) (f t:Nat) (w:World) (hL:Gd.Lists w gC gE gI c E I) (hF:Ft.Fit c E I) (hf:f<32) (ht:t<32) (f0:E f 0≠0) (t0:E t 0≠0) :
  Calls Tryz.prog 74 #[.agg (Gd.world s gC gE gI cC cE cI g),.int .i64 (f:Int),.int .i64 (t:Int)] w (Gd.Worlds w s g c (Ft.blowE s E I f t) (Ft.blowI s E I f t)):=by
 have rf:=Ft.there_at (E:=E) hf;rw [decide_eq_true f0] at rf;have rt:=Ft.there_at (E:=E) ht;rw [decide_eq_true t0] at rt;have ct1:=hide (fun x hx=>refThere8_any s g c E I gC gE gI cC cE cI (f:Int) x hx);have ct2:=hide (fun x hx=>refThere8_any s g c E I gC gE gI cC cE cI (t:Int) x hx);rw [rf] at ct1;rw [rt] at ct2;have hTf:=(hF.rows f hf).taken f0;have hTt:=(hF.rows t ht).taken t0;have e2:∀seat,decide (0≤Gd.find I 40 3 seat 0)=Gd.wornK I seat 2 40:=fun seat=>(Gd.worn_at hF.ok seat 0).symm;have e3:∀seat,decide (0≤Gd.find I 40 3 seat 1)=Gd.wornK I seat 3 40:=fun seat=>(Gd.worn_at hF.ok seat 1).symm;have cb1:=hide (fun x hx=>refBonus_any s g c E I gC gE gI cC cE cI (E f 2) x hx);have cb2:=hide (fun x hx=>refBonus_any s g c E I gC gE gI cC cE cI (E t 2) x hx);rw [e2,e3] at cb1 cb2;have hT3:∀b,0≤Gd.three b∧Gd.three b≤3:=fun b=>by unfold Gd.three;split <;> omega
 have hT2:∀b,0≤Gd.two b∧Gd.two b≤2:=fun b=>by unfold Gd.two;split <;> omega
 have ba:0≤Ft.arm E I f∧Ft.arm E I f≤8:=by
  unfold Ft.arm;have:=hT3 (Gd.wornK I (E f 2) 2 40);split <;> omega
 have bg:0≤Ft.guard E I t∧Ft.guard E I t≤3:=by
  unfold Ft.guard;have:=hT2 (Gd.wornK I (E t 2) 3 40);split <;> omega
 have hxa:=hT3 (Gd.wornK I (E f 2) 2 40);have hxd:=hT2 (Gd.wornK I (E t 2) 3 40);have bd:=Dc.die_bd 3 (s 0) [s 1,(f:Int),(t:Int),77] (by omega);have ha:Hid (Ft.arm E I f=E f 7+if E f 0=1 then Gd.three (Gd.wornK I (E f 2) 2 40) else 0):=rfl;have hd:Hid (Ft.guard E I t=E t 8+if E t 0=1 then Gd.two (Gd.wornK I (E t 2) 3 40) else 0):=rfl;have hdef:Hid (Ft.force s E I f t=max 1 (Ft.arm E I f - Ft.guard E I t)+Dc.die 3 (s 0) [s 1,(f:Int),(t:Int),77]):=rfl;have cd1:Hid (∀(x:World) (b:Nat),b=x.heap.size→Calls Tryz.prog 81 #[.int .i64 3,.int .i64 (s 0),.slice (some ⟨b,0,none⟩) 4 4] (x.alloc (.cells #[.int .i64 (s 1),.int .i64 (f:Int),.int .i64 (t:Int),.int .i64 77] 3)).drew fun e w'=>e=.returned (.int .i64 (Dc.die 3 (s 0) [s 1,(f:Int),(t:Int),77]))∧w'=(x.alloc (.cells #[.int .i64 (s 1),.int .i64 (f:Int),.int .i64 (t:Int),.int .i64 77] 3)).drew):=fun x b hb=>by
  subst hb;exact refDie_row 3 (s 0) _ 4 4 _ _ (show Row (x.alloc (.cells #[.int .i64 (s 1),.int .i64 (f:Int),.int .i64 (t:Int),.int .i64 77] 3)).drew _ _ [s 1,(f:Int),(t:Int),77] from Row.four x (s 1) (f:Int) (t:Int) 77 3) (by omega)
 have cd2:Hid (∀(x:World) (b:Nat),b=x.heap.size→Calls Tryz.prog 81 #[.int .i64 4,.int .i64 (s 0),.slice (some ⟨b,0,none⟩) 4 4] (x.alloc (.cells #[.int .i64 (s 1),.int .i64 (f:Int),.int .i64 (t:Int),.int .i64 78] 3)) fun e w'=>e=.returned (.int .i64 (Dc.die 4 (s 0) [s 1,(f:Int),(t:Int),78]))∧w'=x.alloc (.cells #[.int .i64 (s 1),.int .i64 (f:Int),.int .i64 (t:Int),.int .i64 78] 3)):=fun x b hb=>by
  subst hb;exact refDie_row 4 (s 0) _ 4 4 _ _ (Row.four x (s 1) (f:Int) (t:Int) 78 3) (by omega)
 have hfp:=Ft.force_pos s E I f t;have hF2:=hF.hurt ht t0 hfp;have hsame:=@Ft.hurt_same E f t (Ft.force s E I f t) t0;have hdE:Hid (Ft.blowE s E I f t=if Ft.hurtE E t (Ft.force s E I f t) t 0≠0 then Ft.leaveE s (Ft.hurtE E t (Ft.force s E I f t)) f t else Ft.hurtE E t (Ft.force s E I f t)):=rfl;have hlv:Hid (Ft.leaveE s (Ft.hurtE E t (Ft.force s E I f t)) f t=if Ft.hurtE E t (Ft.force s E I f t) f 0=4 then Gd.set (Ft.hurtE E t (Ft.force s E I f t)) t 9 (min (Ft.hurtE E t (Ft.force s E I f t) t 9+3) 9) else if Ft.hurtE E t (Ft.force s E I f t) f 0=3∧Dc.die 4 (s 0) [s 1,(f:Int),(t:Int),78]=0 then Gd.set (Ft.hurtE E t (Ft.force s E I f t)) t 10 (min (Ft.hurtE E t (Ft.force s E I f t) t 10+2) 9) else Ft.hurtE E t (Ft.force s E I f t)):=rfl;have hdI:Hid (Ft.blowI s E I f t=Ft.hurtI E I t (Ft.force s E I f t)):=rfl;have ch:=hide (fun x hx=>refHurt8_any s g c E I gC gE gI cC cE cI (t:Int) (Ft.force s E I f t) x hx hF);have hhE:Ft.hE E (t:Int) (Ft.force s E I f t)=Ft.hurtE E t (Ft.force s E I f t):=by
  unfold Ft.hE;rw [if_pos ⟨rt,hfp⟩,Int.toNat_natCast]
 have hhI:Ft.hI E I (t:Int) (Ft.force s E I f t)=Ft.hurtI E I t (Ft.force s E I f t):=by
  unfold Ft.hI;rw [if_pos ⟨rt,hfp⟩,Int.toNat_natCast]
 rw [hhE,hhI] at ch;obtain ⟨XA,hXA⟩:∃x,Gd.three (Gd.wornK I (E f 2) 2 40)=x:=⟨_,rfl⟩;obtain ⟨XB,hXB⟩:∃x,Gd.two (Gd.wornK I (E f 2) 3 40)=x:=⟨_,rfl⟩;obtain ⟨YA,hYA⟩:∃x,Gd.three (Gd.wornK I (E t 2) 2 40)=x:=⟨_,rfl⟩;obtain ⟨YB,hYB⟩:∃x,Gd.two (Gd.wornK I (E t 2) 3 40)=x:=⟨_,rfl⟩;obtain ⟨A,hA⟩:∃x,Ft.arm E I f=x:=⟨_,rfl⟩;obtain ⟨D,hD⟩:∃x,Ft.guard E I t=x:=⟨_,rfl⟩;obtain ⟨Z,hZ⟩:∃x,Dc.die 3 (s 0) [s 1,(f:Int),(t:Int),77]=x:=⟨_,rfl⟩;obtain ⟨Y,hY⟩:∃x,Dc.die 4 (s 0) [s 1,(f:Int),(t:Int),78]=x:=⟨_,rfl⟩;obtain ⟨n,hn⟩:∃x,Ft.force s E I f t=x:=⟨_,rfl⟩;rw [hn] at hdef hfp hF2 hsame hdE hlv hdI ch;obtain ⟨E2,hE2⟩:∃x,Ft.hurtE E t n=x:=⟨_,rfl⟩;obtain ⟨I2,hI2⟩:∃x,Ft.hurtI E I t n=x:=⟨_,rfl⟩;obtain ⟨E3,hE3⟩:∃x,Ft.leaveE s E2 f t=x:=⟨_,rfl⟩;rw [hE2] at hF2 hsame hdE hlv ch;rw [hI2] at hF2 hdI ch;rw [hE3] at hdE hlv;rw [hXA,hXB] at cb1;rw [hYA,hYB] at cb2;rw [hXA,hA] at ha;rw [hYB,hD] at hd;rw [hXA] at hxa;rw [hYB] at hxd;rw [hA] at ba;rw [hD] at bg;rw [hZ] at bd cd1;rw [hY] at cd2 hlv;rw [hA,hD,hZ] at hdef;obtain ⟨ba0,ba9⟩:=ba;obtain ⟨bg0,bg9⟩:=bg;obtain ⟨bd0,bd9⟩:=bd;obtain ⟨hxa0,hxa9⟩:=hxa;obtain ⟨hxd0,hxd9⟩:=hxd;have e70:0≤E f 7:=hTf.2.2.2.2.2.1;have e79:E f 7≤5:=hTf.2.2.2.2.2.2.1;have e80:0≤E t 8:=hTt.2.2.2.2.2.2.2.1;have e89:E t 8≤1:=hTt.2.2.2.2.2.2.2.2.1;have hF2':=hide hF2;have hsame':=hide hsame;have HF:=hide hf;have HT:=hide ht;have hf':(f:Int)<32:=by omega
 have ht':(t:Int)<32:=by omega
 clear hXA hXB hYA hYB hA hD hZ hY hn hE2 hI2 hE3 hhE hhI rf rt hTf hTt e2 e3 hT3 hT2 hF2 hsame hF f0 t0 hf ht hfp;obtain ⟨w0,hw0,hbox,hres,hg0,hsz⟩:=Gd.boxes w gC gE gI cC cE cI s g;have hO:Hid (Gd.Lent w w0 w.heap.size gC gE gI cC cE cI s g c E I):=⟨hbox,hL.on hg0,rfl,hres,hg0⟩;clear hL hbox hres hg0 hsz;unfold Gd.world at hw0 ct1 ct2 ⊢;go_enter Tryz.func74,Tryz.ntmps74;go_upto_region 1 with fail;rw [←hw0];clear hw0;obtain ⟨B,hB⟩:∃B,w.heap.size=B:=⟨_,rfl⟩;rw [hB] at hO ⊢;clear hB;obtain ⟨b0,b1,b2,b3,b4,b5,b6,b7,b8,b9,b10⟩:=(uh hO).box.eleven;go_wp2_with fail;refine (uh ct1 _ (uh hO).lists).mono ?_;rintro e w1 ⟨rfl,hg⟩;have hO2:=hide ((uh hO).on hg);clear hO hg b0 b1 b2 b3 b4 b5 b6 b7 b8 b9 b10 ct1;have hO:=hide (uh hO2);clear hO2;obtain ⟨b0,b1,b2,b3,b4,b5,b6,b7,b8,b9,b10⟩:=(uh hO).box.eleven;go_wp2_with fail;refine (uh ct2 _ (uh hO).lists).mono ?_;rintro e w2 ⟨rfl,hg⟩;have hO2:=hide ((uh hO).on hg);clear hO hg b0 b1 b2 b3 b4 b5 b6 b7 b8 b9 b10 ct2;have hO:=hide (uh hO2);clear hO2;have hS0:w2.cell? ⟨B,5,none⟩=some (.slice (some ⟨gE,0,none⟩) 32 cE)∧(w2.cell? ⟨gE,f*11,none⟩=some (.int .i64 (E f 0))∧w2.cell? ⟨gE,f*11+1,none⟩=some (.int .i64 (E f 1))∧w2.cell? ⟨gE,f*11+2,none⟩=some (.int .i64 (E f 2))∧w2.cell? ⟨gE,f*11+3,none⟩=some (.int .i64 (E f 3))∧w2.cell? ⟨gE,f*11+4,none⟩=some (.int .i64 (E f 4))∧w2.cell? ⟨gE,f*11+5,none⟩=some (.int .i64 (E f 5))∧w2.cell? ⟨gE,f*11+6,none⟩=some (.int .i64 (E f 6))∧w2.cell? ⟨gE,f*11+7,none⟩=some (.int .i64 (E f 7))∧w2.cell? ⟨gE,f*11+8,none⟩=some (.int .i64 (E f 8))∧w2.cell? ⟨gE,f*11+9,none⟩=some (.int .i64 (E f 9))∧w2.cell? ⟨gE,f*11+10,none⟩=some (.int .i64 (E f 10)))∧(w2.cell? ⟨gE,t*11,none⟩=some (.int .i64 (E t 0))∧w2.cell? ⟨gE,t*11+1,none⟩=some (.int .i64 (E t 1))∧w2.cell? ⟨gE,t*11+2,none⟩=some (.int .i64 (E t 2))∧w2.cell? ⟨gE,t*11+3,none⟩=some (.int .i64 (E t 3))∧w2.cell? ⟨gE,t*11+4,none⟩=some (.int .i64 (E t 4))∧w2.cell? ⟨gE,t*11+5,none⟩=some (.int .i64 (E t 5))∧w2.cell? ⟨gE,t*11+6,none⟩=some (.int .i64 (E t 6))∧w2.cell? ⟨gE,t*11+7,none⟩=some (.int .i64 (E t 7))∧w2.cell? ⟨gE,t*11+8,none⟩=some (.int .i64 (E t 8))∧w2.cell? ⟨gE,t*11+9,none⟩=some (.int .i64 (E t 9))∧w2.cell? ⟨gE,t*11+10,none⟩=some (.int .i64 (E t 10))):=⟨(uh hO).box.eleven.2.2.2.2.2.1,(uh hO).lists.own.ents.row (uh HF),(uh hO).lists.own.ents.row (uh HT)⟩;go_upto_region 3 with fail
 go_cut [7,8] from 15 (fun va vb wx=>∃Qa Qb,va=.pointer (some ⟨Qa,0,none⟩)∧vb=.pointer (some ⟨Qb,0,none⟩)∧Hid (Gd.Lent w wx B gC gE gI cC cE cI s g c E I)∧Hid (Lie wx Qa 70 11 (En.ints (E f)))∧Hid (Lie wx Qb 70 11 (En.ints (E t))))
 case first =>
  have k1:=(uh hO).box.lt;have k2:=(uh hO).lists.ents.lt;have q1:w2.heap.size≠B:=by omega
  have q2:B≠w2.heap.size:=by omega
  have q3:w2.heap.size+1≠B:=by omega
  have q4:B≠w2.heap.size+1:=by omega
  have q5:w2.heap.size≠gE:=by omega
  have q6:gE≠w2.heap.size:=by omega
  have q7:w2.heap.size+1≠gE:=by omega
  have q8:gE≠w2.heap.size+1:=by omega
  have hz1:=hide (Gd.two_rows w2 (E f) (E t));have hz2:=hide (Gd.two_rows w2 (E t) (E f));clear k1 k2;unfold En.cells at hz1 hz2
  go_region_held3 (fun x=>x.cell? ⟨B,5,none⟩=some (.slice (some ⟨gE,0,none⟩) 32 cE)∧(x.cell? ⟨gE,f*11,none⟩=some (.int .i64 (E f 0))∧x.cell? ⟨gE,f*11+1,none⟩=some (.int .i64 (E f 1))∧x.cell? ⟨gE,f*11+2,none⟩=some (.int .i64 (E f 2))∧x.cell? ⟨gE,f*11+3,none⟩=some (.int .i64 (E f 3))∧x.cell? ⟨gE,f*11+4,none⟩=some (.int .i64 (E f 4))∧x.cell? ⟨gE,f*11+5,none⟩=some (.int .i64 (E f 5))∧x.cell? ⟨gE,f*11+6,none⟩=some (.int .i64 (E f 6))∧x.cell? ⟨gE,f*11+7,none⟩=some (.int .i64 (E f 7))∧x.cell? ⟨gE,f*11+8,none⟩=some (.int .i64 (E f 8))∧x.cell? ⟨gE,f*11+9,none⟩=some (.int .i64 (E f 9))∧x.cell? ⟨gE,f*11+10,none⟩=some (.int .i64 (E f 10)))∧(x.cell? ⟨gE,t*11,none⟩=some (.int .i64 (E t 0))∧x.cell? ⟨gE,t*11+1,none⟩=some (.int .i64 (E t 1))∧x.cell? ⟨gE,t*11+2,none⟩=some (.int .i64 (E t 2))∧x.cell? ⟨gE,t*11+3,none⟩=some (.int .i64 (E t 3))∧x.cell? ⟨gE,t*11+4,none⟩=some (.int .i64 (E t 4))∧x.cell? ⟨gE,t*11+5,none⟩=some (.int .i64 (E t 5))∧x.cell? ⟨gE,t*11+6,none⟩=some (.int .i64 (E t 6))∧x.cell? ⟨gE,t*11+7,none⟩=some (.int .i64 (E t 7))∧x.cell? ⟨gE,t*11+8,none⟩=some (.int .i64 (E t 8))∧x.cell? ⟨gE,t*11+9,none⟩=some (.int .i64 (E t 9))∧x.cell? ⟨gE,t*11+10,none⟩=some (.int .i64 (E t 10)))) (go_keep) (fail)
  ·go_wp2_with fail;go_meet;exact ⟨_,_,rfl,rfl,(uh hO).on (uh hz1).2.2,(uh hz1).1,(uh hz1).2.1⟩
  ·go_wp2_with fail;go_meet;exact ⟨_,_,rfl,rfl,(uh hO).on (uh hz2).2.2,(uh hz2).2.1,(uh hz2).1⟩
 case rest =>
  clear hS0 hO;obtain ⟨Qa,Qb,rfl,rfl,hO,hQa,hQb⟩:=hcut;have z7:wc.cell? ⟨Qa,7,none⟩=some (.int .i64 (E f 7)):=(uh hQa).cell (c:=7) (by omega);have z8:wc.cell? ⟨Qb,8,none⟩=some (.int .i64 (E t 8)):=(uh hQb).cell (c:=8) (by omega);go_upto_region 4 with fail
  go_cut [9,10] from 37 (fun va vb wx=>va=.int .i64 (E f 7)∧vb=.int .i64 (E t 8)∧Hid (Gd.Lent w wx B gC gE gI cC cE cI s g c E I)∧Hid (Lie wx Qa 70 11 (En.ints (E f)))∧Hid (Lie wx Qb 70 11 (En.ints (E t))))
  case first =>
   go_quiet (fail);go_wp2_with fail;go_meet;exact ⟨rfl,rfl,(uh hO).on (gdw (World.grownBy.refl _ none) _),(uh hQa).on (gdw (World.grownBy.refl _ none) _),(uh hQb).on (gdw (World.grownBy.refl _ none) _)⟩
  case rest =>
   clear z7 z8 hO hQa hQb;obtain ⟨rfl,rfl,hO,hQa,hQb⟩:=hcut;have z0:=(uh hQa).cell (c:=0) (by omega);have z2:=(uh hQa).cell (c:=2) (by omega);rw [En.ints_at] at z0 z2;obtain ⟨b0,b1,b2,b3,b4,b5,b6,b7,b8,b9,b10⟩:=(uh hO).box.eleven;go_upto_if 43 with fail
   go_cut [9,11,12] from 43 (fun va vb vc wx=>va=.int .i64 A∧Hid (Gd.Lent w wx B gC gE gI cC cE cI s g c E I)∧Hid (Lie wx Qa 70 11 (En.ints (E f)))∧Hid (Lie wx Qb 70 11 (En.ints (E t))))
   case first =>
    by_cases h1:E f 0=1
    ·rw [if_pos h1] at ha;have h1':(E f 0 == 1)=true:=by simpa using h1
     have hw:IntKind.i64.wrap (E f 7+XA)=E f 7+XA:=by rw [IntKind.wrap_i64];omega
     have cb':=hide (uh cb1 _ (uh hO).lists);clear h1;unfold Gd.world at cb';go_wp2_with fail;refine (uh cb').mono ?_;rintro e wy ⟨rfl,hg⟩;have hO1:=hide ((uh hO).on hg);have hq1:=hide ((uh hQa).on hg);have hq2:=hide ((uh hQb).on hg);clear hg cb' b0 b1 b2 b3 b4 b5 b6 b7 b8 b9 b10 z0 z2;go_wp2_with fail;go_meet;exact ⟨by rw [uh ha],hO1,hq1,hq2⟩
    ·rw [if_neg h1] at ha;have h1':(E f 0 == 1)=false:=by simpa using h1
     clear h1;go_wp2_with fail;go_meet;exact ⟨by rw [uh ha,Int.add_zero],hO,hQa,hQb⟩
   case rest =>
    clear z0 z2 b0 b1 b2 b3 b4 b5 b6 b7 b8 b9 b10 hO hQa hQb cb1;obtain ⟨rfl,hO,hQa,hQb⟩:=hcut;have z0:=(uh hQb).cell (c:=0) (by omega);have z2:=(uh hQb).cell (c:=2) (by omega);rw [En.ints_at] at z0 z2;obtain ⟨b0,b1,b2,b3,b4,b5,b6,b7,b8,b9,b10⟩:=(uh hO).box.eleven;go_upto_if 56 with fail
    go_cut [10,13,14] from 56 (fun va vb vc wx=>va=.int .i64 D∧Hid (Gd.Lent w wx B gC gE gI cC cE cI s g c E I)∧Hid (Lie wx Qa 70 11 (En.ints (E f)))∧Hid (Lie wx Qb 70 11 (En.ints (E t))))
    case first =>
     by_cases h1:E t 0=1
     ·rw [if_pos h1] at hd;have h1':(E t 0 == 1)=true:=by simpa using h1
      have hw:IntKind.i64.wrap (E t 8+YB)=E t 8+YB:=by rw [IntKind.wrap_i64];omega
      have cb':=hide (uh cb2 _ (uh hO).lists);clear h1;unfold Gd.world at cb';go_wp2_with fail;refine (uh cb').mono ?_;rintro e wy ⟨rfl,hg⟩;have hO1:=hide ((uh hO).on hg);have hq1:=hide ((uh hQa).on hg);have hq2:=hide ((uh hQb).on hg);clear hg cb' b0 b1 b2 b3 b4 b5 b6 b7 b8 b9 b10 z0 z2;go_wp2_with fail;go_meet;exact ⟨by rw [uh hd],hO1,hq1,hq2⟩
     ·rw [if_neg h1] at hd;have h1':(E t 0 == 1)=false:=by simpa using h1
      clear h1;go_wp2_with fail;go_meet;exact ⟨by rw [uh hd,Int.add_zero],hO,hQa,hQb⟩
    case rest =>
     clear z0 z2 b0 b1 b2 b3 b4 b5 b6 b7 b8 b9 b10 hO hQa hQb cb2;obtain ⟨rfl,hO,hQa,hQb⟩:=hcut;obtain ⟨b0,b1,b2,b3,b4,b5,b6,b7,b8,b9,b10⟩:=(uh hO).box.eleven;have hO1:Hid (∀o:Obj,Gd.Lent w (wc.alloc o).drew B gC gE gI cC cE cI s g c E I):=fun o=>((uh hO).on (World.grownBy_alloc _ _ _)).on (gd1 (World.grownBy.refl _ none));have hQ1:Hid (∀o:Obj,Lie (wc.alloc o).drew Qa 70 11 (En.ints (E f))):=fun o=>((uh hQa).on (World.grownBy_alloc _ _ _)).on (gd1 (World.grownBy.refl _ none));have hQB:Hid (B≠Qa):=(uh hO).box_ne (uh hQa);have hSall:Hid (∀x,wc.grownBy x none→(x.cell? ⟨B,0,none⟩=some (.int .i64 (s 0))∧x.cell? ⟨B,1,none⟩=some (.int .i64 (s 1))∧x.cell? ⟨B,2,none⟩=some (.int .i64 (s 2))∧x.cell? ⟨B,3,none⟩=some (.int .i64 (s 3))∧x.cell? ⟨B,4,none⟩=some (.slice (some ⟨gC,0,none⟩) 384 cC)∧x.cell? ⟨B,5,none⟩=some (.slice (some ⟨gE,0,none⟩) 32 cE)∧x.cell? ⟨B,6,none⟩=some (.slice (some ⟨gI,0,none⟩) 40 cI)∧x.cell? ⟨B,7,none⟩=some (.int .i64 (g 0))∧x.cell? ⟨B,8,none⟩=some (.int .i64 (g 1))∧x.cell? ⟨B,9,none⟩=some (.int .i64 (g 2))∧x.cell? ⟨B,10,none⟩=some (.int .i64 (g 3)))):=fun x hx=>((uh hO).on hx).box.eleven;have hdr:=hide (gd1 (World.grownBy.refl wc none));have hgz:=hide (gd1 (World.grownBy_alloc wc (.cells #[.int .i64 (s 1),.int .i64 (f:Int),.int .i64 (t:Int),.int .i64 77] 3) none));unfold Gd.world at ch;go_upto_region 11 with fail
     go_cut [] from 57 (fun wx=>∃jC jE jI dC dE dI,Hid (Gd.Boxed w wx B jC jE jI dC dE dI s g c E2 I2)∧Hid (Lie wx Qa 70 11 (En.ints (E f)))∧Hid (jE≠Qa))
     case first =>
      have hw1:IntKind.i64.wrap (A - D)=A - D:=by rw [IntKind.wrap_i64];omega
      by_cases hm:1<A - D
      ·have hF1:A - D+Z=n:=by
        rw [uh hdef];omega
       have hw2:IntKind.i64.wrap n=n:=by rw [IntKind.wrap_i64];omega
       refine wp_region_till (h:=15) (S:=fun x=>x.cell? ⟨B,0,none⟩=some (.int .i64 (s 0))∧x.cell? ⟨B,1,none⟩=some (.int .i64 (s 1))∧x.cell? ⟨B,2,none⟩=some (.int .i64 (s 2))∧x.cell? ⟨B,3,none⟩=some (.int .i64 (s 3))∧x.cell? ⟨B,4,none⟩=some (.slice (some ⟨gC,0,none⟩) 384 cC)∧x.cell? ⟨B,5,none⟩=some (.slice (some ⟨gE,0,none⟩) 32 cE)∧x.cell? ⟨B,6,none⟩=some (.slice (some ⟨gI,0,none⟩) 40 cI)∧x.cell? ⟨B,7,none⟩=some (.int .i64 (g 0))∧x.cell? ⟨B,8,none⟩=some (.int .i64 (g 1))∧x.cell? ⟨B,9,none⟩=some (.int .i64 (g 2))∧x.cell? ⟨B,10,none⟩=some (.int .i64 (g 3))) (by kernel_rfl) ?_;have hS0:=uh hSall _ (uh hdr);refine wtj 0 (v:=?_) [15] rfl (by kernel_rfl) (fun _ _ _ h=>h) hS0 ⟨by rfl,?_⟩ ?_;rotate_left
       ·intro x hSx;try dsimp only at hSx
        go_simp;try with_reducible rfl
       simp only [Act.put];refine wtj 1 (v:=?_) [15] rfl (by kernel_rfl) (fun _ _ _ h=>h) hS0 ⟨by rfl,?_⟩ ?_;rotate_left
       ·intro x hSx;try dsimp only at hSx
        go_simp;try with_reducible rfl
       simp only [Act.put];refine wtj 2 (v:=?_) [4,5,14,15] rfl (by kernel_rfl) (fun _ _ _ h=>h) hS0 ⟨by rfl,?_⟩ ?_;rotate_left
       ·intro x hSx;try dsimp only at hSx
        go_simp;try with_reducible rfl
       simp only [Act.put];refine wtj 3 (v:=?_) [4,5,14,15] rfl (by kernel_rfl) (fun _ _ _ h=>h) hS0 ⟨by rfl,?_⟩ ?_;rotate_left
       ·intro x hSx;try dsimp only at hSx
        go_simp;try with_reducible rfl
       simp only [Act.put];refine wtj 4 (v:=?_) [5,14,15] rfl (by kernel_rfl) (fun _ _ _ h=>h) hS0 ⟨by rfl,?_⟩ ?_;rotate_left
       ·intro x hSx;try dsimp only at hSx
        go_simp;try with_reducible rfl
       simp only [Act.put];refine wtj 5 (v:=?_) [14,15] rfl (by kernel_rfl) (fun _ _ _ h=>h) hS0 ⟨by rfl,?_⟩ ?_;rotate_left
       ·intro x hSx;try dsimp only at hSx
        go_simp;try with_reducible rfl
       simp only [Act.put];refine wtj 6 (v:=?_) [7,13,14,15] rfl (by kernel_rfl) (fun _ _ _ h=>h) hS0 ⟨by rfl,?_⟩ ?_;rotate_left
       ·intro x hSx;try dsimp only at hSx
        go_simp;try with_reducible rfl
       simp only [Act.put];refine wtj 7 (v:=?_) [13,14,15] rfl (by kernel_rfl) (fun _ _ _ h=>h) hS0 ⟨by rfl,?_⟩ ?_;rotate_left
       ·intro x hSx;try dsimp only at hSx
        go_simp;try with_reducible rfl
       simp only [Act.put];refine wtj 8 (v:=?_) [9,12,13,14,15] rfl (by kernel_rfl) (fun _ _ _ h=>h) hS0 ⟨by rfl,?_⟩ ?_;rotate_left
       ·intro x hSx;try dsimp only at hSx
        go_simp;try with_reducible rfl
       simp only [Act.put];refine wtj 9 (v:=?_) [12,13,14,15] rfl (by kernel_rfl) (fun _ _ _ h=>h) hS0 ⟨by rfl,?_⟩ ?_;rotate_left
       ·intro x hSx;try dsimp only at hSx
        go_simp;try with_reducible rfl
       simp only [Act.put];refine wtj 10 (v:=?_) [12,13,14,15] rfl (by kernel_rfl) (fun _ _ _ h=>h) hS0 ⟨by rfl,?_⟩ ?_;rotate_left
       ·intro x hSx;try dsimp only at hSx
        go_simp;try with_reducible rfl
       simp only [Act.put];refine wtj 11 (v:=?_) [12,13,14,15] rfl (by kernel_rfl) (fun _ _ _ h=>h) hS0 ⟨by rfl,?_⟩ ?_;rotate_left
       ·intro x hSx;try dsimp only at hSx
        go_simp;try with_reducible rfl
       simp only [Act.put];refine wto (j:=12) (by kernel_rfl) rfl (fun K hK=>?_);go_simp;refine hK.out _ _ (fun _=>uh hSall _ (uh hgz)) ?_;clear hK K hS0;have hS0:=uh hSall _ (uh hgz);refine wto (j:=13) (by kernel_rfl) rfl (fun K hK=>?_);go_simp;refine (uh cd1 _ _ rfl).mono ?_;rintro e wy ⟨rfl,hy⟩;subst wy;try go_simp
       refine hK.out _ _ (fun _=>uh hSall _ (uh hgz)) ?_;clear hK K;refine wtj 14 (v:=?_) [15] rfl (by kernel_rfl) (fun _ _ _ h=>h) hS0 ⟨by rfl,?_⟩ ?_;rotate_left
       ·intro x hSx;try dsimp only at hSx
        go_simp;try with_reducible rfl
       simp only [Act.put];refine wto (j:=15) (by kernel_rfl) rfl (fun K hK=>?_);go_simp;refine (uh ch _ (uh hO1 _).lists).mono ?_;rintro e wv ⟨jC,jE,jI,dC,dE,dI,rfl,hcap,l1,l2,l3,n1,n2,n3,hL,hg⟩;have hst:=hide ((uh hO1 _).over (s':=s) (g':=g) (dC:=dC) (dI:=dI) hcap l1 l2 l3 n1 n2 n3 hL hg);have hq:=hide (((uh hQ1 _).on hg).others (uh hQB) 0 (Gd.world s jC jE jI dC dE dI g).toList);have hj:Hid (jE≠Qa):=Nat.ne_of_gt (Nat.lt_of_lt_of_le (uh hQ1 _).lt l2);obtain ⟨y0,y1,y2,y3,y4,y5,y6,y7,y8,y9,y10⟩:=((uh hO1 _).on hg).box.eleven;have fB:=((uh hO1 _).on hg).box.free;clear hcap l1 l2 l3 n1 n2 n3 hL hg b0 b1 b2 b3 b4 b5 b6 b7 b8 b9 b10 hS0;unfold Gd.world at hst hq ⊢;try go_simp
       refine hK.out _ _ (fun hx=>absurd (hx.symm.trans (by kernel_rfl)) Bool.false_ne_true) ?_;clear hK K;refine wto (j:=16) (by kernel_rfl) rfl (fun K hK=>?_);go_simp;refine hK.out _ _ (fun hx=>absurd (hx.symm.trans (by kernel_rfl)) Bool.false_ne_true) ?_;clear hK K;refine wpTill_done (by kernel_rfl) ?_ _;go_wp2_with fail;go_meet;exact ⟨jC,jE,jI,dC,dE,dI,hst,hq,hj⟩
      ·have hF1:1+Z=n:=by
        rw [uh hdef];omega
       have hw2:IntKind.i64.wrap n=n:=by rw [IntKind.wrap_i64];omega
       refine wp_region_till (h:=15) (S:=fun x=>x.cell? ⟨B,0,none⟩=some (.int .i64 (s 0))∧x.cell? ⟨B,1,none⟩=some (.int .i64 (s 1))∧x.cell? ⟨B,2,none⟩=some (.int .i64 (s 2))∧x.cell? ⟨B,3,none⟩=some (.int .i64 (s 3))∧x.cell? ⟨B,4,none⟩=some (.slice (some ⟨gC,0,none⟩) 384 cC)∧x.cell? ⟨B,5,none⟩=some (.slice (some ⟨gE,0,none⟩) 32 cE)∧x.cell? ⟨B,6,none⟩=some (.slice (some ⟨gI,0,none⟩) 40 cI)∧x.cell? ⟨B,7,none⟩=some (.int .i64 (g 0))∧x.cell? ⟨B,8,none⟩=some (.int .i64 (g 1))∧x.cell? ⟨B,9,none⟩=some (.int .i64 (g 2))∧x.cell? ⟨B,10,none⟩=some (.int .i64 (g 3))) (by kernel_rfl) ?_;have hS0:=uh hSall _ (uh hdr);refine wtj 0 (v:=?_) [15] rfl (by kernel_rfl) (fun _ _ _ h=>h) hS0 ⟨by rfl,?_⟩ ?_;rotate_left
       ·intro x hSx;try dsimp only at hSx
        go_simp;try with_reducible rfl
       simp only [Act.put];refine wtj 1 (v:=?_) [15] rfl (by kernel_rfl) (fun _ _ _ h=>h) hS0 ⟨by rfl,?_⟩ ?_;rotate_left
       ·intro x hSx;try dsimp only at hSx
        go_simp;try with_reducible rfl
       simp only [Act.put];refine wtj 2 (v:=?_) [4,5,14,15] rfl (by kernel_rfl) (fun _ _ _ h=>h) hS0 ⟨by rfl,?_⟩ ?_;rotate_left
       ·intro x hSx;try dsimp only at hSx
        go_simp;try with_reducible rfl
       simp only [Act.put];refine wtj 3 (v:=?_) [4,5,14,15] rfl (by kernel_rfl) (fun _ _ _ h=>h) hS0 ⟨by rfl,?_⟩ ?_;rotate_left
       ·intro x hSx;try dsimp only at hSx
        go_simp;try with_reducible rfl
       simp only [Act.put];refine wtj 4 (v:=?_) [5,14,15] rfl (by kernel_rfl) (fun _ _ _ h=>h) hS0 ⟨by rfl,?_⟩ ?_;rotate_left
       ·intro x hSx;try dsimp only at hSx
        go_simp;try with_reducible rfl
       simp only [Act.put];refine wtj 5 (v:=?_) [14,15] rfl (by kernel_rfl) (fun _ _ _ h=>h) hS0 ⟨by rfl,?_⟩ ?_;rotate_left
       ·intro x hSx;try dsimp only at hSx
        go_simp;try with_reducible rfl
       simp only [Act.put];refine wtj 6 (v:=?_) [7,13,14,15] rfl (by kernel_rfl) (fun _ _ _ h=>h) hS0 ⟨by rfl,?_⟩ ?_;rotate_left
       ·intro x hSx;try dsimp only at hSx
        go_simp;try with_reducible rfl
       simp only [Act.put];refine wtj 7 (v:=?_) [13,14,15] rfl (by kernel_rfl) (fun _ _ _ h=>h) hS0 ⟨by rfl,?_⟩ ?_;rotate_left
       ·intro x hSx;try dsimp only at hSx
        go_simp;try with_reducible rfl
       simp only [Act.put];refine wtj 8 (v:=?_) [9,12,13,14,15] rfl (by kernel_rfl) (fun _ _ _ h=>h) hS0 ⟨by rfl,?_⟩ ?_;rotate_left
       ·intro x hSx;try dsimp only at hSx
        go_simp;try with_reducible rfl
       simp only [Act.put];refine wtj 9 (v:=?_) [12,13,14,15] rfl (by kernel_rfl) (fun _ _ _ h=>h) hS0 ⟨by rfl,?_⟩ ?_;rotate_left
       ·intro x hSx;try dsimp only at hSx
        go_simp;try with_reducible rfl
       simp only [Act.put];refine wtj 10 (v:=?_) [12,13,14,15] rfl (by kernel_rfl) (fun _ _ _ h=>h) hS0 ⟨by rfl,?_⟩ ?_;rotate_left
       ·intro x hSx;try dsimp only at hSx
        go_simp;try with_reducible rfl
       simp only [Act.put];refine wtj 11 (v:=?_) [12,13,14,15] rfl (by kernel_rfl) (fun _ _ _ h=>h) hS0 ⟨by rfl,?_⟩ ?_;rotate_left
       ·intro x hSx;try dsimp only at hSx
        go_simp;try with_reducible rfl
       simp only [Act.put];refine wto (j:=12) (by kernel_rfl) rfl (fun K hK=>?_);go_simp;refine hK.out _ _ (fun _=>uh hSall _ (uh hgz)) ?_;clear hK K hS0;have hS0:=uh hSall _ (uh hgz);refine wto (j:=13) (by kernel_rfl) rfl (fun K hK=>?_);go_simp;refine (uh cd1 _ _ rfl).mono ?_;rintro e wy ⟨rfl,hy⟩;subst wy;try go_simp
       refine hK.out _ _ (fun _=>uh hSall _ (uh hgz)) ?_;clear hK K;refine wtj 14 (v:=?_) [15] rfl (by kernel_rfl) (fun _ _ _ h=>h) hS0 ⟨by rfl,?_⟩ ?_;rotate_left
       ·intro x hSx;try dsimp only at hSx
        go_simp;try with_reducible rfl
       simp only [Act.put];refine wto (j:=15) (by kernel_rfl) rfl (fun K hK=>?_);go_simp;refine (uh ch _ (uh hO1 _).lists).mono ?_;rintro e wv ⟨jC,jE,jI,dC,dE,dI,rfl,hcap,l1,l2,l3,n1,n2,n3,hL,hg⟩;have hst:=hide ((uh hO1 _).over (s':=s) (g':=g) (dC:=dC) (dI:=dI) hcap l1 l2 l3 n1 n2 n3 hL hg);have hq:=hide (((uh hQ1 _).on hg).others (uh hQB) 0 (Gd.world s jC jE jI dC dE dI g).toList);have hj:Hid (jE≠Qa):=Nat.ne_of_gt (Nat.lt_of_lt_of_le (uh hQ1 _).lt l2);obtain ⟨y0,y1,y2,y3,y4,y5,y6,y7,y8,y9,y10⟩:=((uh hO1 _).on hg).box.eleven;have fB:=((uh hO1 _).on hg).box.free;clear hcap l1 l2 l3 n1 n2 n3 hL hg b0 b1 b2 b3 b4 b5 b6 b7 b8 b9 b10 hS0;unfold Gd.world at hst hq ⊢;try go_simp
       refine hK.out _ _ (fun hx=>absurd (hx.symm.trans (by kernel_rfl)) Bool.false_ne_true) ?_;clear hK K;refine wto (j:=16) (by kernel_rfl) rfl (fun K hK=>?_);go_simp;refine hK.out _ _ (fun hx=>absurd (hx.symm.trans (by kernel_rfl)) Bool.false_ne_true) ?_;clear hK K;refine wpTill_done (by kernel_rfl) ?_ _;go_wp2_with fail;go_meet;exact ⟨jC,jE,jI,dC,dE,dI,hst,hq,hj⟩
     case rest =>
      clear b0 b1 b2 b3 b4 b5 b6 b7 b8 b9 b10 hO hQa hQb hO1 hQ1 ch cd1 hSall hdr hgz;obtain ⟨jC,jE,jI,dC,dE,dI,hX,hQa,hjE⟩:=hcut;obtain ⟨b0,b1,b2,b3,b4,b5,b6,b7,b8,b9,b10⟩:=(uh hX).hold.box.eleven;have ct:=refThere8_any s g c E2 I2 jC jE jI dC dE dI (t:Int) wc (uh hX).hold.lists;rw [Ft.there_at (uh HT)] at ct;unfold Gd.world at ct;by_cases hz:E2 t 0=0
      ·rw [decide_eq_false (by simpa using hz)] at ct;rw [if_neg (by simpa using hz)] at hdE;have ct':=hide ct;clear ct hz;go_wp2_with fail;refine (uh ct').mono ?_;rintro e wy ⟨rfl,hg⟩;have hX0:Hid (Gd.Boxed w wy B jC jE jI dC dE dI s g c (Ft.blowE s E I f t) (Ft.blowI s E I f t)):=by
        show Gd.Boxed _ _ _ _ _ _ _ _ _ _ _ _ _ _;rw [uh hdE,uh hdI];exact (uh hX).on hg
       clear ct' hg b0 b1 b2 b3 b4 b5 b6 b7 b8 b9 b10 hX hdE hdI;obtain ⟨b0,b1,b2,b3,b4,b5,b6,b7,b8,b9,b10⟩:=(uh hX0).hold.box.eleven;have fz:=(uh hX0).res.free;obtain ⟨z0,z1,z2,z3,z4,z5,z6,z7,z8,z9,z10⟩:=Gd.res_cells (uh hX0).res;have hfin:=hide (fun vs=>(uh hX0).worlds vs);go_upto_region 13 with fail;generalize hQQ:Exit.then _ _=QQ;go_wp2_with fail;subst hQQ;rename_i K hK;refine hK _ _ (wp_ret ?_);refine bodyPost_ret (v:=.agg (Gd.world s jC jE jI dC dE dI g)) (by simp [results,Tryz.results74,go_sem,Gd.world,z0,z1,z2,z3,z4,z5,z6,z7,z8,z9,z10]) rfl ?_;exact uh hfin [_,_,_,_,_,_,_,_,_,_,_]
      ·rw [decide_eq_true hz] at ct;rw [if_pos hz] at hdE;have hT2:=((uh hF2').rows t (uh HT)).taken hz;have p0:0≤E2 t 9:=by omega
       have p9:E2 t 9≤9:=by omega
       have s0:0≤E2 t 10:=by omega
       have s9:E2 t 10≤9:=by omega
       have hk:=uh hsame' hz;rw [hk] at hlv;have ct':=hide ct;clear ct hz hT2 hk;go_wp2_with fail;refine (uh ct').mono ?_;rintro e wy ⟨rfl,hg⟩;have hX1:=hide ((uh hX).on hg);have hQ1:=hide ((uh hQa).on hg);clear ct' hg b0 b1 b2 b3 b4 b5 b6 b7 b8 b9 b10 hX hQa;obtain ⟨E4,hE4⟩:∃x,x=if E f 0=4 then Gd.set E2 t 9 (min (E2 t 9+3) 9) else E2:=⟨_,rfl⟩
       have hE4':=hide hE4;clear hE4;have z0:wy.cell? ⟨Qa,0,none⟩=some (.int .i64 (E f 0)):=(uh hQ1).cell (c:=0) (by omega);have b5:=(uh hX1).hold.box.eleven.2.2.2.2.2.1;have r9:wy.cell? ⟨jE,t*11+9,none⟩=some (.int .i64 (E2 t 9)):=((uh hX1).hold.lists.own.ents.row (uh HT)).2.2.2.2.2.2.2.2.2.1;have fE:=(uh hX1).hold.lists.ents.free;go_upto_if 90 with fail
       go_cut [] from 90 to 103 (fun wx=>Hid (Gd.Boxed w wx B jC jE jI dC dE dI s g c E4 I2)∧Hid (Lie wx Qa 70 11 (En.ints (E f))))
       case first =>
        by_cases h4:E f 0=4
        ·rw [if_pos h4] at hE4';have h4':(E f 0 == 4)=true:=by simpa using h4
         have hX2:=hide ((uh hX1).on (gd1 (World.grownBy.refl _ none)));have hQ2:=hide ((uh hQ1).on (gd1 (World.grownBy.refl _ none)));clear h4;by_cases hm:E2 t 9+3≤9
         ·have hst:Hid (Gd.Boxed w (wy.drew.setCell ⟨jE,t*11+9,none⟩ (.int .i64 (E2 t 9+3))) B jC jE jI dC dE dI s g c E4 I2):=by
           show Gd.Boxed _ _ _ _ _ _ _ _ _ _ _ _ _ _;rw [uh hE4',show min (E2 t 9+3) 9=E2 t 9+3 by omega];exact (uh hX2).stat t 9 (by omega) _
          have hq:Hid (Lie (wy.drew.setCell ⟨jE,t*11+9,none⟩ (.int .i64 (E2 t 9+3))) Qa 70 11 (En.ints (E f))):=(uh hQ2).other (uh hjE) _ _;go_wp2_with fail
          go_region
          all_goals
           go_wp2_with fail;go_meet;exact ⟨hst,hq⟩
         ·have hst:Hid (Gd.Boxed w (wy.drew.setCell ⟨jE,t*11+9,none⟩ (.int .i64 9)) B jC jE jI dC dE dI s g c E4 I2):=by
           show Gd.Boxed _ _ _ _ _ _ _ _ _ _ _ _ _ _;rw [uh hE4',show min (E2 t 9+3) 9=9 by omega];exact (uh hX2).stat t 9 (by omega) _
          have hq:Hid (Lie (wy.drew.setCell ⟨jE,t*11+9,none⟩ (.int .i64 9)) Qa 70 11 (En.ints (E f))):=(uh hQ2).other (uh hjE) _ _;go_wp2_with fail
          go_region
          all_goals
           go_wp2_with fail;go_meet;exact ⟨hst,hq⟩
        ·rw [if_neg h4] at hE4';have h4':(E f 0 == 4)=false:=by simpa using h4
         have hst:Hid (Gd.Boxed w wy B jC jE jI dC dE dI s g c E4 I2):=by
          show Gd.Boxed _ _ _ _ _ _ _ _ _ _ _ _ _ _;rw [uh hE4'];exact uh hX1
         clear h4;go_wp2_with fail;go_meet;exact ⟨hst,hQ1⟩
       case rest =>
        clear z0 b5 r9 fE hX1 hQ1;obtain ⟨hX,hQa⟩:=hcut;have z0:wc.cell? ⟨Qa,0,none⟩=some (.int .i64 (E f 0)):=(uh hQa).cell (c:=0) (by omega);by_cases h4:E f 0=4
        ·rw [if_pos h4] at hE4' hlv;rw [h4] at z0;have hX0:Hid (Gd.Boxed w wc B jC jE jI dC dE dI s g c (Ft.blowE s E I f t) (Ft.blowI s E I f t)):=by
          show Gd.Boxed _ _ _ _ _ _ _ _ _ _ _ _ _ _;rw [uh hdE,uh hdI,uh hlv,←uh hE4'];exact uh hX
         clear h4 hX hlv hE4' hdE hdI;obtain ⟨b0,b1,b2,b3,b4,b5,b6,b7,b8,b9,b10⟩:=(uh hX0).hold.box.eleven;have fz:=(uh hX0).res.free;obtain ⟨z0,z1,z2,z3,z4,z5,z6,z7,z8,z9,z10⟩:=Gd.res_cells (uh hX0).res;have hfin:=hide (fun vs=>(uh hX0).worlds vs);go_upto_region 18 with fail;generalize hQQ:Exit.then _ _=QQ;go_wp2_with fail;subst hQQ;rename_i K hK;refine hK _ _ (wp_ret ?_);refine bodyPost_ret (v:=.agg (Gd.world s jC jE jI dC dE dI g)) (by simp [results,Tryz.results74,go_sem,Gd.world,z0,z1,z2,z3,z4,z5,z6,z7,z8,z9,z10]) rfl ?_;exact uh hfin [_,_,_,_,_,_,_,_,_,_,_]
        ·rw [if_neg h4] at hE4' hlv;obtain rfl:E4=E2:=uh hE4';clear hE4';by_cases h3:E f 0=3
         ·rw [h3] at z0;obtain ⟨b0,b1,b2,b3,b4,b5,b6,b7,b8,b9,b10⟩:=(uh hX).hold.box.eleven;have hX1:Hid (∀o:Obj,Gd.Boxed w (wc.alloc o) B jC jE jI dC dE dI s g c E4 I2):=fun o=>(uh hX).on (World.grownBy_alloc _ _ _);have cdd:=hide (uh cd2 wc _ rfl);have hY3:Hid (E f 0=3):=h3;clear h4 h3;by_cases hy:Y=0
          ·rw [if_pos ⟨uh hY3,hy⟩] at hlv;rw [hy] at cdd;clear hy;go_wp2_with fail;refine (uh cdd).mono ?_;rintro e wy ⟨rfl,hy⟩;have hX2:Hid (Gd.Boxed w wy B jC jE jI dC dE dI s g c E4 I2):=by
            rw [hy];exact uh hX1 _
           clear hy hX hX1 cdd b0 b1 b2 b3 b4 b5 b6 b7 b8 b9 b10 z0;have hX3:=hide ((uh hX2).on (gd1 (World.grownBy.refl _ none)));have b5:=(uh hX2).hold.box.eleven.2.2.2.2.2.1;have r10:wy.cell? ⟨jE,t*11+10,none⟩=some (.int .i64 (E4 t 10)):=((uh hX2).hold.lists.own.ents.row (uh HT)).2.2.2.2.2.2.2.2.2.2;have fE:=(uh hX2).hold.lists.ents.free;go_upto_region 17 with fail
           go_cut [] from 104 (fun wx=>Hid (Gd.Boxed w wx B jC jE jI dC dE dI s g c (Ft.blowE s E I f t) (Ft.blowI s E I f t)))
           case first =>
            by_cases hm:E4 t 10+2≤9
            ·have hst:Hid (Gd.Boxed w (wy.drew.setCell ⟨jE,t*11+10,none⟩ (.int .i64 (E4 t 10+2))) B jC jE jI dC dE dI s g c (Ft.blowE s E I f t) (Ft.blowI s E I f t)):=by
              show Gd.Boxed _ _ _ _ _ _ _ _ _ _ _ _ _ _;rw [uh hdE,uh hdI,uh hlv,show min (E4 t 10+2) 9=E4 t 10+2 by omega];exact (uh hX3).stat t 10 (by omega) _
             go_region
             all_goals
              go_wp2_with fail;go_meet;exact hst
            ·have hst:Hid (Gd.Boxed w (wy.drew.setCell ⟨jE,t*11+10,none⟩ (.int .i64 9)) B jC jE jI dC dE dI s g c (Ft.blowE s E I f t) (Ft.blowI s E I f t)):=by
              show Gd.Boxed _ _ _ _ _ _ _ _ _ _ _ _ _ _;rw [uh hdE,uh hdI,uh hlv,show min (E4 t 10+2) 9=9 by omega];exact (uh hX3).stat t 10 (by omega) _
             go_region
             all_goals
              go_wp2_with fail;go_meet;exact hst
           case rest =>
            clear b5 r10 fE hX2 hX3 hlv hdE hdI;have hX0:=hide (uh hcut);clear hcut;obtain ⟨b0,b1,b2,b3,b4,b5,b6,b7,b8,b9,b10⟩:=(uh hX0).hold.box.eleven;have fz:=(uh hX0).res.free;obtain ⟨z0,z1,z2,z3,z4,z5,z6,z7,z8,z9,z10⟩:=Gd.res_cells (uh hX0).res;have hfin:=hide (fun vs=>(uh hX0).worlds vs);go_upto_region 18 with fail;generalize hQQ:Exit.then _ _=QQ;go_wp2_with fail;subst hQQ;rename_i K hK;refine hK _ _ (wp_ret ?_);refine bodyPost_ret (v:=.agg (Gd.world s jC jE jI dC dE dI g)) (by simp [results,Tryz.results74,go_sem,Gd.world,z0,z1,z2,z3,z4,z5,z6,z7,z8,z9,z10]) rfl ?_;exact uh hfin [_,_,_,_,_,_,_,_,_,_,_]
          ·rw [if_neg (fun h=>hy h.2)] at hlv;have hy':(Y == 0)=false:=by simpa using hy
           clear hy;go_wp2_with fail;refine (uh cdd).mono ?_;rintro e wy ⟨rfl,hy⟩;have hX0:Hid (Gd.Boxed w wy B jC jE jI dC dE dI s g c (Ft.blowE s E I f t) (Ft.blowI s E I f t)):=by
            show Gd.Boxed _ _ _ _ _ _ _ _ _ _ _ _ _ _;rw [uh hdE,uh hdI,uh hlv,hy];exact uh hX1 _
           clear hy hX hX1 cdd b0 b1 b2 b3 b4 b5 b6 b7 b8 b9 b10 z0 hlv hdE hdI;obtain ⟨b0,b1,b2,b3,b4,b5,b6,b7,b8,b9,b10⟩:=(uh hX0).hold.box.eleven;have fz:=(uh hX0).res.free;obtain ⟨z0,z1,z2,z3,z4,z5,z6,z7,z8,z9,z10⟩:=Gd.res_cells (uh hX0).res;have hfin:=hide (fun vs=>(uh hX0).worlds vs);go_upto_region 18 with fail;generalize hQQ:Exit.then _ _=QQ;go_wp2_with fail;subst hQQ;rename_i K hK;refine hK _ _ (wp_ret ?_);refine bodyPost_ret (v:=.agg (Gd.world s jC jE jI dC dE dI g)) (by simp [results,Tryz.results74,go_sem,Gd.world,z0,z1,z2,z3,z4,z5,z6,z7,z8,z9,z10]) rfl ?_;exact uh hfin [_,_,_,_,_,_,_,_,_,_,_]
         ·rw [if_neg (fun h=>h3 h.1)] at hlv;have h3':(E f 0 == 3)=false:=by simpa using h3
          have hX0:Hid (Gd.Boxed w wc B jC jE jI dC dE dI s g c (Ft.blowE s E I f t) (Ft.blowI s E I f t)):=by
           show Gd.Boxed _ _ _ _ _ _ _ _ _ _ _ _ _ _;rw [uh hdE,uh hdI,uh hlv];exact uh hX
          clear h3 h4 hX hlv hdE hdI;obtain ⟨b0,b1,b2,b3,b4,b5,b6,b7,b8,b9,b10⟩:=(uh hX0).hold.box.eleven;have fz:=(uh hX0).res.free;obtain ⟨z0,z1,z2,z3,z4,z5,z6,z7,z8,z9,z10⟩:=Gd.res_cells (uh hX0).res;have hfin:=hide (fun vs=>(uh hX0).worlds vs);go_upto_region 18 with fail;generalize hQQ:Exit.then _ _=QQ;go_wp2_with fail;subst hQQ;rename_i K hK;refine hK _ _ (wp_ret ?_);refine bodyPost_ret (v:=.agg (Gd.world s jC jE jI dC dE dI g)) (by simp [results,Tryz.results74,go_sem,Gd.world,z0,z1,z2,z3,z4,z5,z6,z7,z8,z9,z10]) rfl ?_;exact uh hfin [_,_,_,_,_,_,_,_,_,_,_]

theorem refHit8_any (s g c:Nat→Int) (E I:Nat→Nat→Int) (gC gE gI cC cE cI:Nat) (f t:Int) (w:World) (hL:Gd.Lists w gC gE gI c E I) (hF:Ft.Fit c E I) :
  Calls Tryz.prog 74 #[.agg (Gd.world s gC gE gI cC cE cI g),.int .i64 f,.int .i64 t] w (Gd.Worlds w s g c (Ft.hitE s E I f t) (Ft.hitI s E I f t)):=by
 unfold Ft.hitE Ft.hitI;by_cases h:Ft.there E f=true∧Ft.there E t=true
 ·rw [if_pos h,if_pos h];obtain ⟨a,ha,rfl,a0⟩:=Ft.there_pos h.1;obtain ⟨b,hb,rfl,b0⟩:=Ft.there_pos h.2;rw [Int.toNat_natCast,Int.toNat_natCast];exact refHit8_some s g c E I gC gE gI cC cE cI a b w hL hF ha hb a0 b0
 ·rw [if_neg h,if_neg h];exact refHit8_none s g c E I gC gE gI cC cE cI f t w hL h

end Go.Proofs.YtldgbkjceildfaaGreat
