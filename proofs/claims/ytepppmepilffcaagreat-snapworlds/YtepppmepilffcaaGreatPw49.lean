import Derived.Test.YtepppmepilffcaaGreatPw46
namespace Go.Proofs.YtepppmepilffcaaGreat
open Go.RowKit

set_option maxRecDepth 16000 in
set_option maxHeartbeats 12800000 in
theorem spoilt_E (s g c:Nat→Int) (E I:Nat→Nat→Int) (vC vE vI:Value) (nC nE nI k0 i k n5 n4:Nat) (kind n v:Int) (w:World) (hL:Sn.Lis w vC vE vI nC nE nI c E I) (hc:∀i,0≤c i∧c i≤255) (hM:Sn.May k0 i n5 nC nE nI) (mI:nI≤900) (hk:kind % 20=(k0:Int)) (hks:k0=15∨k0=16∨k0=17∨k0=18) (hi:n % 32=(i:Int)) (hi1:i<32) (hj:n % 40=(k:Int)) (hj1:k<40) (h5:n % 384=(n5:Int)) (h51:n5<384) (h4:n % 4=(n4:Int)) (h41:n4<4) :
  Calls Tryz.prog 18 #[.agg (Sn.wide s g vC vE vI),.int .i64 kind,.int .i64 n,.int .i64 v] w (Sn.Spoils w (s 0) k0 i n5 nI):=by
 obtain ⟨w0,hw0⟩:∃x,x=(w.alloc (.cells (Sn.wide s g vC vE vI) 31)).alloc (.cells #[.int .i64 0,.int .i64 0,.int .i64 0,.int .i64 0,.slice none 0 0,.slice none 0 0,.slice none 0 0,.int .i64 0,.int .i64 0,.int .i64 0,.int .i64 0] 31):=⟨_,rfl⟩
 have hP0:Hid (Sn.Par w w0 w.heap.size vC vE vI s g):=by
  have h:=Arr.lit (heap_alloc_new (w.alloc (.cells (Sn.wide s g vC vE vI) 31)) (.cells #[.int .i64 0,.int .i64 0,.int .i64 0,.int .i64 0,.slice none 0 0,.slice none 0 0,.slice none 0 0,.int .i64 0,.int .i64 0,.int .i64 0,.int .i64 0] 31))
  rw [show (w.alloc (.cells (Sn.wide s g vC vE vI) 31)).heap.size=w.heap.size+1 by simp] at h
  refine ⟨?_,?_,rfl,?_,?_⟩
  ·rw [hw0];exact (Sn.wide_lie w s g vC vE vI).on (World.grownBy_alloc _ _ _)
  ·rw [hw0];exact h.lie
  ·rw [hw0];simp
  ·rw [hw0];exact gal (World.grownBy_alloc _ _ _) _
 obtain ⟨B,hB⟩:∃B,w.heap.size=B:=⟨_,rfl⟩
 rw [hB] at hP0
 have hB':=hide hB
 have HM:=hide hM
 have HC:=hide hc
 have HN:=hide (And.intro hi1 (And.intro hj1 (And.intro h51 (And.intro h41 mI))))
 have ct:=hide (refTwin_wide s g c E I vC vE vI nC nE nI w0 (hL.on (uh hP0).grown) (by have:=hM.2.2.2.2.2.1;omega) (by have:=hM.2.2.2.2.2.2;omega) (by omega))
 have c32:Hid (∀x,Calls Tryz.prog 19 #[.int .i64 n,.int .i64 32] x fun e w'=>e=.returned (.int .i64 (i:Int))∧w'=x):=fun x=>by rw [←hi];exact within11_any n 32 x (by omega) (by omega)
 have c40:Hid (∀x,Calls Tryz.prog 19 #[.int .i64 n,.int .i64 40] x fun e w'=>e=.returned (.int .i64 (k:Int))∧w'=x):=fun x=>by rw [←hj];exact within11_any n 40 x (by omega) (by omega)
 have c20:Hid (∀x,Calls Tryz.prog 19 #[.int .i64 kind,.int .i64 20] x fun e w'=>e=.returned (.int .i64 (k0:Int))∧w'=x):=fun x=>by rw [←hk];exact within11_any kind 20 x (by omega) (by omega)
 have c384:Hid (∀x,Calls Tryz.prog 19 #[.int .i64 n,.int .i64 384] x fun e w'=>e=.returned (.int .i64 (n5:Int))∧w'=x):=fun x=>by rw [←h5];exact within11_any n 384 x (by omega) (by omega)
 have c4:Hid (∀x,Calls Tryz.prog 19 #[.int .i64 n,.int .i64 4] x fun e w'=>e=.returned (.int .i64 (n4:Int))∧w'=x):=fun x=>by rw [←h4];exact within11_any n 4 x (by omega) (by omega)
 obtain ⟨D,hD⟩:∃D,Sn.Spoils w (s 0) k0 i n5 nI=D:=⟨_,rfl⟩
 have hfin:Hid (∀(x:World) (gC gE gI mC mE mI' kC kE kI:Nat) (s' g' c':Nat→Int) (E' I':Nat→Nat→Int),Sn.Mine w x B gC gE gI mC mE mI' kC kE kI s' g' c' E' I'→(∀i,0≤c' i∧c' i≤255)→s' 0=s 0→Sn.May k0 i n5 mC mE mI'→mI'≤nI+1→∀vs,D (.returned (.agg (Sn.wide s' g' (.slice (some ⟨gC,0,none⟩) mC kC) (.slice (some ⟨gE,0,none⟩) mE kE) (.slice (some ⟨gI,0,none⟩) mI' kI)))) (x.setCells (B+1) 0 vs)):=fun x gC gE gI mC mE mI' kC kE kI s' g' c' E' I' a1 a2 a3 a4 a5 vs=>by
  rw [←hD]
  exact a1.gets a2 a3 a4 a5 vs
 rw [hD]
 obtain ⟨aC,jC,rfl⟩:=hL.cells.is
 obtain ⟨aE,jE,rfl⟩:=hL.ents.is
 obtain ⟨aI,jI,rfl⟩:=hL.items.is
 clear hL hc hM mI hk hi hi1 hj hj1 h5 h51 h4 h41 hD hB
 unfold Sn.wide at hw0 hfin ct ⊢
 go_enter Tryz.func18,Tryz.ntmps18
 go_upto_region 1 with fail
 rw [←hw0,uh hB']
 clear hw0
 obtain ⟨b0,b1,b2,b3,b4,b5,b6,b7,b8,b9,b10⟩:=Sn.wbox_cells (uh hP0).box
 go_wp2_with fail
 refine (uh ct).mono ?_
 rintro e w1 ⟨gC,gE,gI,cC,cE,cI,rfl,hN1,hg1⟩
 have hP1:=hide ((uh hP0).on hg1)
 have hX1:Hid (Sn.Mine w (((((((((((w1.setCell ⟨B,0,none⟩ (.int .i64 (s 0))).setCell ⟨B,1,none⟩ (.int .i64 (s 1))).setCell ⟨B,2,none⟩ (.int .i64 (s 2))).setCell ⟨B,3,none⟩ (.int .i64 (s 3))).setCell ⟨B,4,none⟩ (.slice (some ⟨gC,0,none⟩) nC cC)).setCell ⟨B,5,none⟩ (.slice (some ⟨gE,0,none⟩) nE cE)).setCell ⟨B,6,none⟩ (.slice (some ⟨gI,0,none⟩) nI cI)).setCell ⟨B,7,none⟩ (.int .i64 (g 0))).setCell ⟨B,8,none⟩ (.int .i64 (g 1))).setCell ⟨B,9,none⟩ (.int .i64 (g 2))).setCell ⟨B,10,none⟩ (.int .i64 (g 3))) B gC gE gI nC nE nI cC cE cI s g c E I):=Sn.Mine.nest (uh hP1) hN1 (uh hP0).two
 have fB:=(uh hP1).box.free
 clear b0 b1 b2 b3 b4 b5 b6 b7 b8 b9 b10 hN1 hg1 ct hP0
 obtain ⟨b0,b1,b2,b3,b4,b5,b6,b7,b8,b9,b10⟩:=Sn.wbox_cells (uh hP1).box
 unfold Sn.wide
 go_upto_region 2 with fail
 generalize (((((((((((w1.setCell ⟨B,0,none⟩ (.int .i64 (s 0))).setCell ⟨B,1,none⟩ (.int .i64 (s 1))).setCell ⟨B,2,none⟩ (.int .i64 (s 2))).setCell ⟨B,3,none⟩ (.int .i64 (s 3))).setCell ⟨B,4,none⟩ (.slice (some ⟨gC,0,none⟩) nC cC)).setCell ⟨B,5,none⟩ (.slice (some ⟨gE,0,none⟩) nE cE)).setCell ⟨B,6,none⟩ (.slice (some ⟨gI,0,none⟩) nI cI)).setCell ⟨B,7,none⟩ (.int .i64 (g 0))).setCell ⟨B,8,none⟩ (.int .i64 (g 1))).setCell ⟨B,9,none⟩ (.int .i64 (g 2))).setCell ⟨B,10,none⟩ (.int .i64 (g 3)))=x1 at hX1 ⊢
 clear b0 b1 b2 b3 b4 b5 b6 b7 b8 b9 b10 fB hP1
 go_wp2_with fail
 refine (uh c32 _).mono ?_
 rintro e wq ⟨rfl,hq'⟩
 obtain rfl:x1=wq:=hq'.symm
 clear hq'
 go_wp2_with fail
 refine (uh c40 _).mono ?_
 rintro e wq ⟨rfl,hq'⟩
 obtain rfl:x1=wq:=hq'.symm
 clear hq'
 go_wp2_with fail
 refine (uh c20 _).mono ?_
 rintro e wq ⟨rfl,hq'⟩
 obtain rfl:x1=wq:=hq'.symm
 clear hq' c32 c40 c20
 rcases hks with rfl | rfl | rfl | rfl
 ·have hnn:nI=40:=(uh HM).2.2.2.2.1 (by decide)
  have fX:=(uh hX1).new.items.free
  have bv:=(Sn.wbox_cells (uh hX1).par.box).2.2.2.2.2.2.1
  have bk:x1.cell? ⟨gI,k*4,none⟩=some (.int .i64 (I k 0)):=by
   have hp:=(uh HN).2.1
   rw [(uh hX1).new.items.cell (c:=k*4) (by omega)]
   show some (Value.int .i64 (I ((k*4) / 4) ((k*4) % 4)))=_
   rw [show (k*4) / 4=k by omega,show (k*4) % 4=0 by omega]
  have q1:(k:Int)<(nI:Int):=by have:=(uh HN).2.1;omega
  have q2:¬(k:Int)<0:=by omega
  clear hnn
  have hZ:=hide ((uh hX1).item k 0 (by omega) v)
  go_upto_region 44 with fail
  generalize x1.setCell ⟨gI,k*4,none⟩ (.int .i64 v)=z at hZ ⊢
  clear fX bv bk q1 q2
  obtain ⟨b0,b1,b2,b3,b4,b5,b6,b7,b8,b9,b10⟩:=Sn.wbox_cells (uh hZ).par.box
  have fz:=(uh hZ).par.res.free
  obtain ⟨z0,z1,z2,z3,z4,z5,z6,z7,z8,z9,z10⟩:=Gd.res_cells (uh hZ).par.res
  have hF:=hide (uh hfin _ _ _ _ _ _ _ _ _ _ _ _ _ _ _ (uh hZ) (uh HC) rfl (uh HM) (by omega))
  clear hfin hX1 hZ HM HC c384 c4
  go_wp2
  refine bodyPost_ret (v:=_) (by simp [results,Tryz.results18,go_sem,z0,z1,z2,z3,z4,z5,z6,z7,z8,z9,z10];try rfl) rfl ?_
  exact uh hF [_,_,_,_,_,_,_,_,_,_,_]
 ·have hnn:nI=40:=(uh HM).2.2.2.2.1 (by decide)
  have fX:=(uh hX1).new.items.free
  have bv:=(Sn.wbox_cells (uh hX1).par.box).2.2.2.2.2.2.1
  have bk:x1.cell? ⟨gI,k*4+1,none⟩=some (.int .i64 (I k 1)):=by
   have hp:=(uh HN).2.1
   rw [(uh hX1).new.items.cell (c:=k*4+1) (by omega)]
   show some (Value.int .i64 (I ((k*4+1) / 4) ((k*4+1) % 4)))=_
   rw [show (k*4+1) / 4=k by omega,show (k*4+1) % 4=1 by omega]
  have q1:(k:Int)<(nI:Int):=by have:=(uh HN).2.1;omega
  have q2:¬(k:Int)<0:=by omega
  clear hnn
  have hZ:=hide ((uh hX1).item k 1 (by omega) v)
  go_upto_region 44 with fail
  generalize x1.setCell ⟨gI,k*4+1,none⟩ (.int .i64 v)=z at hZ ⊢
  clear fX bv bk q1 q2
  obtain ⟨b0,b1,b2,b3,b4,b5,b6,b7,b8,b9,b10⟩:=Sn.wbox_cells (uh hZ).par.box
  have fz:=(uh hZ).par.res.free
  obtain ⟨z0,z1,z2,z3,z4,z5,z6,z7,z8,z9,z10⟩:=Gd.res_cells (uh hZ).par.res
  have hF:=hide (uh hfin _ _ _ _ _ _ _ _ _ _ _ _ _ _ _ (uh hZ) (uh HC) rfl (uh HM) (by omega))
  clear hfin hX1 hZ HM HC c384 c4
  go_wp2
  refine bodyPost_ret (v:=_) (by simp [results,Tryz.results18,go_sem,z0,z1,z2,z3,z4,z5,z6,z7,z8,z9,z10];try rfl) rfl ?_
  exact uh hF [_,_,_,_,_,_,_,_,_,_,_]
 ·have hnn:nI=40:=(uh HM).2.2.2.2.1 (by decide)
  have fX:=(uh hX1).new.items.free
  have bv:=(Sn.wbox_cells (uh hX1).par.box).2.2.2.2.2.2.1
  have bk:x1.cell? ⟨gI,k*4+2,none⟩=some (.int .i64 (I k 2)):=by
   have hp:=(uh HN).2.1
   rw [(uh hX1).new.items.cell (c:=k*4+2) (by omega)]
   show some (Value.int .i64 (I ((k*4+2) / 4) ((k*4+2) % 4)))=_
   rw [show (k*4+2) / 4=k by omega,show (k*4+2) % 4=2 by omega]
  have q1:(k:Int)<(nI:Int):=by have:=(uh HN).2.1;omega
  have q2:¬(k:Int)<0:=by omega
  clear hnn
  have hZ:=hide ((uh hX1).item k 2 (by omega) v)
  go_upto_region 44 with fail
  generalize x1.setCell ⟨gI,k*4+2,none⟩ (.int .i64 v)=z at hZ ⊢
  clear fX bv bk q1 q2
  obtain ⟨b0,b1,b2,b3,b4,b5,b6,b7,b8,b9,b10⟩:=Sn.wbox_cells (uh hZ).par.box
  have fz:=(uh hZ).par.res.free
  obtain ⟨z0,z1,z2,z3,z4,z5,z6,z7,z8,z9,z10⟩:=Gd.res_cells (uh hZ).par.res
  have hF:=hide (uh hfin _ _ _ _ _ _ _ _ _ _ _ _ _ _ _ (uh hZ) (uh HC) rfl (uh HM) (by omega))
  clear hfin hX1 hZ HM HC c384 c4
  go_wp2
  refine bodyPost_ret (v:=_) (by simp [results,Tryz.results18,go_sem,z0,z1,z2,z3,z4,z5,z6,z7,z8,z9,z10];try rfl) rfl ?_
  exact uh hF [_,_,_,_,_,_,_,_,_,_,_]
 ·have hnn:nI=40:=(uh HM).2.2.2.2.1 (by decide)
  have fX:=(uh hX1).new.items.free
  have bv:=(Sn.wbox_cells (uh hX1).par.box).2.2.2.2.2.2.1
  have bk:x1.cell? ⟨gI,k*4+3,none⟩=some (.int .i64 (I k 3)):=by
   have hp:=(uh HN).2.1
   rw [(uh hX1).new.items.cell (c:=k*4+3) (by omega)]
   show some (Value.int .i64 (I ((k*4+3) / 4) ((k*4+3) % 4)))=_
   rw [show (k*4+3) / 4=k by omega,show (k*4+3) % 4=3 by omega]
  have q1:(k:Int)<(nI:Int):=by have:=(uh HN).2.1;omega
  have q2:¬(k:Int)<0:=by omega
  clear hnn
  have hZ:=hide ((uh hX1).item k 3 (by omega) v)
  go_upto_region 44 with fail
  generalize x1.setCell ⟨gI,k*4+3,none⟩ (.int .i64 v)=z at hZ ⊢
  clear fX bv bk q1 q2
  obtain ⟨b0,b1,b2,b3,b4,b5,b6,b7,b8,b9,b10⟩:=Sn.wbox_cells (uh hZ).par.box
  have fz:=(uh hZ).par.res.free
  obtain ⟨z0,z1,z2,z3,z4,z5,z6,z7,z8,z9,z10⟩:=Gd.res_cells (uh hZ).par.res
  have hF:=hide (uh hfin _ _ _ _ _ _ _ _ _ _ _ _ _ _ _ (uh hZ) (uh HC) rfl (uh HM) (by omega))
  clear hfin hX1 hZ HM HC c384 c4
  go_wp2
  refine bodyPost_ret (v:=_) (by simp [results,Tryz.results18,go_sem,z0,z1,z2,z3,z4,z5,z6,z7,z8,z9,z10];try rfl) rfl ?_
  exact uh hF [_,_,_,_,_,_,_,_,_,_,_]

end Go.Proofs.YtepppmepilffcaaGreat
