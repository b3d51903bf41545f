import Derived.Test.YtepppmepilffcaaGreatPw46
namespace Go.Proofs.YtepppmepilffcaaGreat
open Go.RowKit

set_option maxRecDepth 16000 in
set_option maxHeartbeats 12800000 in
theorem spoilt_A (s g c:Nat→Int) (E I:Nat→Nat→Int) (vC vE vI:Value) (nC nE nI k0 i k n5 n4:Nat) (kind n v:Int) (w:World) (hL:Sn.Lis w vC vE vI nC nE nI c E I) (hc:∀i,0≤c i∧c i≤255) (hM:Sn.May k0 i n5 nC nE nI) (mI:nI≤900) (hk:kind % 20=(k0:Int)) (hks:k0=0∨k0=1∨k0=2∨k0=3) (hi:n % 32=(i:Int)) (hi1:i<32) (hj:n % 40=(k:Int)) (hj1:k<40) (h5:n % 384=(n5:Int)) (h51:n5<384) (h4:n % 4=(n4:Int)) (h41:n4<4) :
  Calls Tryz.prog 18 #[.agg (Sn.wide s g vC vE vI),.int .i64 kind,.int .i64 n,.int .i64 v] w (Sn.Spoils w (s 0) k0 i n5 nI):=by
 obtain ⟨w0,hw0⟩:∃x,x=(w.alloc (.cells (Sn.wide s g vC vE vI) 31)).alloc (.cells #[.int .i64 0,.int .i64 0,.int .i64 0,.int .i64 0,.slice none 0 0,.slice none 0 0,.slice none 0 0,.int .i64 0,.int .i64 0,.int .i64 0,.int .i64 0] 31):=⟨_,rfl⟩
 have hP0:Hid (Sn.Par w w0 w.heap.size vC vE vI s g):=by
  have h:=Arr.lit (heap_alloc_new (w.alloc (.cells (Sn.wide s g vC vE vI) 31)) (.cells #[.int .i64 0,.int .i64 0,.int .i64 0,.int .i64 0,.slice none 0 0,.slice none 0 0,.slice none 0 0,.int .i64 0,.int .i64 0,.int .i64 0,.int .i64 0] 31))
  rw [show (w.alloc (.cells (Sn.wide s g vC vE vI) 31)).heap.size=w.heap.size+1 by simp] at h
  refine ⟨?_,?_,rfl,?_,?_⟩
  ·rw [hw0];exact (Sn.wide_lie w s g vC vE vI).on (World.grownBy_alloc _ _ _)
  ·rw [hw0];exact h.lie
  ·rw [hw0];simp
  ·rw [hw0];exact gal (World.grownBy_alloc _ _ _) _
 obtain ⟨B,hB⟩:∃B,w.heap.size=B:=⟨_,rfl⟩
 rw [hB] at hP0
 have hB':=hide hB
 have HM:=hide hM
 have HC:=hide hc
 have HN:=hide (And.intro hi1 (And.intro hj1 (And.intro h51 (And.intro h41 mI))))
 have ct:=hide (refTwin_wide s g c E I vC vE vI nC nE nI w0 (hL.on (uh hP0).grown) (by have:=hM.2.2.2.2.2.1;omega) (by have:=hM.2.2.2.2.2.2;omega) (by omega))
 have c32:Hid (∀x,Calls Tryz.prog 19 #[.int .i64 n,.int .i64 32] x fun e w'=>e=.returned (.int .i64 (i:Int))∧w'=x):=fun x=>by rw [←hi];exact within11_any n 32 x (by omega) (by omega)
 have c40:Hid (∀x,Calls Tryz.prog 19 #[.int .i64 n,.int .i64 40] x fun e w'=>e=.returned (.int .i64 (k:Int))∧w'=x):=fun x=>by rw [←hj];exact within11_any n 40 x (by omega) (by omega)
 have c20:Hid (∀x,Calls Tryz.prog 19 #[.int .i64 kind,.int .i64 20] x fun e w'=>e=.returned (.int .i64 (k0:Int))∧w'=x):=fun x=>by rw [←hk];exact within11_any kind 20 x (by omega) (by omega)
 have c384:Hid (∀x,Calls Tryz.prog 19 #[.int .i64 n,.int .i64 384] x fun e w'=>e=.returned (.int .i64 (n5:Int))∧w'=x):=fun x=>by rw [←h5];exact within11_any n 384 x (by omega) (by omega)
 have c4:Hid (∀x,Calls Tryz.prog 19 #[.int .i64 n,.int .i64 4] x fun e w'=>e=.returned (.int .i64 (n4:Int))∧w'=x):=fun x=>by rw [←h4];exact within11_any n 4 x (by omega) (by omega)
 obtain ⟨D,hD⟩:∃D,Sn.Spoils w (s 0) k0 i n5 nI=D:=⟨_,rfl⟩
 have hfin:Hid (∀(x:World) (gC gE gI mC mE mI' kC kE kI:Nat) (s' g' c':Nat→Int) (E' I':Nat→Nat→Int),Sn.Mine w x B gC gE gI mC mE mI' kC kE kI s' g' c' E' I'→(∀i,0≤c' i∧c' i≤255)→s' 0=s 0→Sn.May k0 i n5 mC mE mI'→mI'≤nI+1→∀vs,D (.returned (.agg (Sn.wide s' g' (.slice (some ⟨gC,0,none⟩) mC kC) (.slice (some ⟨gE,0,none⟩) mE kE) (.slice (some ⟨gI,0,none⟩) mI' kI)))) (x.setCells (B+1) 0 vs)):=fun x gC gE gI mC mE mI' kC kE kI s' g' c' E' I' a1 a2 a3 a4 a5 vs=>by
  rw [←hD]
  exact a1.gets a2 a3 a4 a5 vs
 rw [hD]
 obtain ⟨aC,jC,rfl⟩:=hL.cells.is
 obtain ⟨aE,jE,rfl⟩:=hL.ents.is
 obtain ⟨aI,jI,rfl⟩:=hL.items.is
 clear hL hc hM mI hk hi hi1 hj hj1 h5 h51 h4 h41 hD hB
 unfold Sn.wide at hw0 hfin ct ⊢
 go_enter Tryz.func18,Tryz.ntmps18
 go_upto_region 1 with fail
 rw [←hw0,uh hB']
 clear hw0
 obtain ⟨b0,b1,b2,b3,b4,b5,b6,b7,b8,b9,b10⟩:=Sn.wbox_cells (uh hP0).box
 go_wp2_with fail
 refine (uh ct).mono ?_
 rintro e w1 ⟨gC,gE,gI,cC,cE,cI,rfl,hN1,hg1⟩
 have hP1:=hide ((uh hP0).on hg1)
 have hX1:Hid (Sn.Mine w (((((((((((w1.setCell ⟨B,0,none⟩ (.int .i64 (s 0))).setCell ⟨B,1,none⟩ (.int .i64 (s 1))).setCell ⟨B,2,none⟩ (.int .i64 (s 2))).setCell ⟨B,3,none⟩ (.int .i64 (s 3))).setCell ⟨B,4,none⟩ (.slice (some ⟨gC,0,none⟩) nC cC)).setCell ⟨B,5,none⟩ (.slice (some ⟨gE,0,none⟩) nE cE)).setCell ⟨B,6,none⟩ (.slice (some ⟨gI,0,none⟩) nI cI)).setCell ⟨B,7,none⟩ (.int .i64 (g 0))).setCell ⟨B,8,none⟩ (.int .i64 (g 1))).setCell ⟨B,9,none⟩ (.int .i64 (g 2))).setCell ⟨B,10,none⟩ (.int .i64 (g 3))) B gC gE gI nC nE nI cC cE cI s g c E I):=Sn.Mine.nest (uh hP1) hN1 (uh hP0).two
 have fB:=(uh hP1).box.free
 clear b0 b1 b2 b3 b4 b5 b6 b7 b8 b9 b10 hN1 hg1 ct hP0
 obtain ⟨b0,b1,b2,b3,b4,b5,b6,b7,b8,b9,b10⟩:=Sn.wbox_cells (uh hP1).box
 unfold Sn.wide
 go_upto_region 2 with fail
 generalize (((((((((((w1.setCell ⟨B,0,none⟩ (.int .i64 (s 0))).setCell ⟨B,1,none⟩ (.int .i64 (s 1))).setCell ⟨B,2,none⟩ (.int .i64 (s 2))).setCell ⟨B,3,none⟩ (.int .i64 (s 3))).setCell ⟨B,4,none⟩ (.slice (some ⟨gC,0,none⟩) nC cC)).setCell ⟨B,5,none⟩ (.slice (some ⟨gE,0,none⟩) nE cE)).setCell ⟨B,6,none⟩ (.slice (some ⟨gI,0,none⟩) nI cI)).setCell ⟨B,7,none⟩ (.int .i64 (g 0))).setCell ⟨B,8,none⟩ (.int .i64 (g 1))).setCell ⟨B,9,none⟩ (.int .i64 (g 2))).setCell ⟨B,10,none⟩ (.int .i64 (g 3)))=x1 at hX1 ⊢
 clear b0 b1 b2 b3 b4 b5 b6 b7 b8 b9 b10 fB hP1
 go_wp2_with fail
 refine (uh c32 _).mono ?_
 rintro e wq ⟨rfl,hq'⟩
 obtain rfl:x1=wq:=hq'.symm
 clear hq'
 go_wp2_with fail
 refine (uh c40 _).mono ?_
 rintro e wq ⟨rfl,hq'⟩
 obtain rfl:x1=wq:=hq'.symm
 clear hq'
 go_wp2_with fail
 refine (uh c20 _).mono ?_
 rintro e wq ⟨rfl,hq'⟩
 obtain rfl:x1=wq:=hq'.symm
 clear hq' c32 c40 c20
 rcases hks with rfl | rfl | rfl | rfl
 ·have fX:=(uh hX1).par.box.free
  obtain ⟨b0,b1,b2,b3,b4,b5,b6,b7,b8,b9,b10⟩:=Sn.wbox_cells (uh hX1).par.box
  have hZ:=hide ((uh hX1).num 1 (by omega) v)
  go_upto_region 44 with fail
  generalize x1.setCell ⟨B,1,none⟩ (.int .i64 v)=z at hZ ⊢
  clear fX b0 b1 b2 b3 b4 b5 b6 b7 b8 b9 b10
  obtain ⟨b0,b1,b2,b3,b4,b5,b6,b7,b8,b9,b10⟩:=Sn.wbox_cells (uh hZ).par.box
  have fz:=(uh hZ).par.res.free
  obtain ⟨z0,z1,z2,z3,z4,z5,z6,z7,z8,z9,z10⟩:=Gd.res_cells (uh hZ).par.res
  have hF:=hide (uh hfin _ _ _ _ _ _ _ _ _ _ _ _ _ _ _ (uh hZ) (uh HC) (Sn.num_0 s 1 (by omega) v) (uh HM) (by omega))
  clear hfin hX1 hZ HM HC c384 c4
  go_wp2
  refine bodyPost_ret (v:=_) (by simp [results,Tryz.results18,go_sem,z0,z1,z2,z3,z4,z5,z6,z7,z8,z9,z10];try rfl) rfl ?_
  exact uh hF [_,_,_,_,_,_,_,_,_,_,_]
 ·have fX:=(uh hX1).par.box.free
  obtain ⟨b0,b1,b2,b3,b4,b5,b6,b7,b8,b9,b10⟩:=Sn.wbox_cells (uh hX1).par.box
  have hZ:=hide ((uh hX1).num 2 (by omega) v)
  go_upto_region 44 with fail
  generalize x1.setCell ⟨B,2,none⟩ (.int .i64 v)=z at hZ ⊢
  clear fX b0 b1 b2 b3 b4 b5 b6 b7 b8 b9 b10
  obtain ⟨b0,b1,b2,b3,b4,b5,b6,b7,b8,b9,b10⟩:=Sn.wbox_cells (uh hZ).par.box
  have fz:=(uh hZ).par.res.free
  obtain ⟨z0,z1,z2,z3,z4,z5,z6,z7,z8,z9,z10⟩:=Gd.res_cells (uh hZ).par.res
  have hF:=hide (uh hfin _ _ _ _ _ _ _ _ _ _ _ _ _ _ _ (uh hZ) (uh HC) (Sn.num_0 s 2 (by omega) v) (uh HM) (by omega))
  clear hfin hX1 hZ HM HC c384 c4
  go_wp2
  refine bodyPost_ret (v:=_) (by simp [results,Tryz.results18,go_sem,z0,z1,z2,z3,z4,z5,z6,z7,z8,z9,z10];try rfl) rfl ?_
  exact uh hF [_,_,_,_,_,_,_,_,_,_,_]
 ·have fX:=(uh hX1).par.box.free
  obtain ⟨b0,b1,b2,b3,b4,b5,b6,b7,b8,b9,b10⟩:=Sn.wbox_cells (uh hX1).par.box
  have hZ:=hide ((uh hX1).num 3 (by omega) v)
  go_upto_region 44 with fail
  generalize x1.setCell ⟨B,3,none⟩ (.int .i64 v)=z at hZ ⊢
  clear fX b0 b1 b2 b3 b4 b5 b6 b7 b8 b9 b10
  obtain ⟨b0,b1,b2,b3,b4,b5,b6,b7,b8,b9,b10⟩:=Sn.wbox_cells (uh hZ).par.box
  have fz:=(uh hZ).par.res.free
  obtain ⟨z0,z1,z2,z3,z4,z5,z6,z7,z8,z9,z10⟩:=Gd.res_cells (uh hZ).par.res
  have hF:=hide (uh hfin _ _ _ _ _ _ _ _ _ _ _ _ _ _ _ (uh hZ) (uh HC) (Sn.num_0 s 3 (by omega) v) (uh HM) (by omega))
  clear hfin hX1 hZ HM HC c384 c4
  go_wp2
  refine bodyPost_ret (v:=_) (by simp [results,Tryz.results18,go_sem,z0,z1,z2,z3,z4,z5,z6,z7,z8,z9,z10];try rfl) rfl ?_
  exact uh hF [_,_,_,_,_,_,_,_,_,_,_]
 ·have fX:=(uh hX1).par.box.free
  have bk:x1.cell? ⟨B,7+n4,none⟩=some (.int .i64 (g n4)):=by
   have h:=uh HN
   have hb:=Sn.wbox_cells (uh hX1).par.box
   rcases (show n4=0∨n4=1∨n4=2∨n4=3 by omega) with rfl | rfl | rfl | rfl
   ·exact hb.2.2.2.2.2.2.2.1
   ·exact hb.2.2.2.2.2.2.2.2.1
   ·exact hb.2.2.2.2.2.2.2.2.2.1
   ·exact hb.2.2.2.2.2.2.2.2.2.2
  have q1:(n4:Int)<4:=by have:=uh HN;omega
  have q2:¬(n4:Int)<0:=by omega
  go_wp2_with fail
  refine (uh c4 _).mono ?_
  rintro e wq ⟨rfl,hq'⟩
  obtain rfl:x1=wq:=hq'.symm
  clear hq'
  have hZ:=hide ((uh hX1).gold n4 (uh HN).2.2.2.1 v)
  go_upto_region 44 with fail
  generalize x1.setCell ⟨B,7+n4,none⟩ (.int .i64 v)=z at hZ ⊢
  clear fX bk q1 q2
  obtain ⟨b0,b1,b2,b3,b4,b5,b6,b7,b8,b9,b10⟩:=Sn.wbox_cells (uh hZ).par.box
  have fz:=(uh hZ).par.res.free
  obtain ⟨z0,z1,z2,z3,z4,z5,z6,z7,z8,z9,z10⟩:=Gd.res_cells (uh hZ).par.res
  have hF:=hide (uh hfin _ _ _ _ _ _ _ _ _ _ _ _ _ _ _ (uh hZ) (uh HC) rfl (uh HM) (by omega))
  clear hfin hX1 hZ HM HC c384 c4
  go_wp2
  refine bodyPost_ret (v:=_) (by simp [results,Tryz.results18,go_sem,z0,z1,z2,z3,z4,z5,z6,z7,z8,z9,z10];try rfl) rfl ?_
  exact uh hF [_,_,_,_,_,_,_,_,_,_,_]


open Go.RowKit

set_option maxRecDepth 16000 in
set_option maxHeartbeats 12800000 in
theorem spoilt_B (s g c:Nat→Int) (E I:Nat→Nat→Int) (vC vE vI:Value) (nC nE nI k0 i k n5 n4:Nat) (kind n v:Int) (w:World) (hL:Sn.Lis w vC vE vI nC nE nI c E I) (hc:∀i,0≤c i∧c i≤255) (hM:Sn.May k0 i n5 nC nE nI) (mI:nI≤900) (hk:kind % 20=(k0:Int)) (hks:k0=4∨k0=5∨k0=6∨k0=7) (hi:n % 32=(i:Int)) (hi1:i<32) (hj:n % 40=(k:Int)) (hj1:k<40) (h5:n % 384=(n5:Int)) (h51:n5<384) (h4:n % 4=(n4:Int)) (h41:n4<4) :
  Calls Tryz.prog 18 #[.agg (Sn.wide s g vC vE vI),.int .i64 kind,.int .i64 n,.int .i64 v] w (Sn.Spoils w (s 0) k0 i n5 nI):=by
 obtain ⟨w0,hw0⟩:∃x,x=(w.alloc (.cells (Sn.wide s g vC vE vI) 31)).alloc (.cells #[.int .i64 0,.int .i64 0,.int .i64 0,.int .i64 0,.slice none 0 0,.slice none 0 0,.slice none 0 0,.int .i64 0,.int .i64 0,.int .i64 0,.int .i64 0] 31):=⟨_,rfl⟩
 have hP0:Hid (Sn.Par w w0 w.heap.size vC vE vI s g):=by
  have h:=Arr.lit (heap_alloc_new (w.alloc (.cells (Sn.wide s g vC vE vI) 31)) (.cells #[.int .i64 0,.int .i64 0,.int .i64 0,.int .i64 0,.slice none 0 0,.slice none 0 0,.slice none 0 0,.int .i64 0,.int .i64 0,.int .i64 0,.int .i64 0] 31))
  rw [show (w.alloc (.cells (Sn.wide s g vC vE vI) 31)).heap.size=w.heap.size+1 by simp] at h
  refine ⟨?_,?_,rfl,?_,?_⟩
  ·rw [hw0];exact (Sn.wide_lie w s g vC vE vI).on (World.grownBy_alloc _ _ _)
  ·rw [hw0];exact h.lie
  ·rw [hw0];simp
  ·rw [hw0];exact gal (World.grownBy_alloc _ _ _) _
 obtain ⟨B,hB⟩:∃B,w.heap.size=B:=⟨_,rfl⟩
 rw [hB] at hP0
 have hB':=hide hB
 have HM:=hide hM
 have HC:=hide hc
 have HN:=hide (And.intro hi1 (And.intro hj1 (And.intro h51 (And.intro h41 mI))))
 have ct:=hide (refTwin_own s g c E I vC vE vI nC nE nI w0 (hL.on (uh hP0).grown) (by have:=hM.2.2.2.2.2.1;omega) (by have:=hM.2.2.2.2.2.2;omega) (by omega))
 have c32:Hid (∀x,Calls Tryz.prog 19 #[.int .i64 n,.int .i64 32] x fun e w'=>e=.returned (.int .i64 (i:Int))∧w'=x):=fun x=>by rw [←hi];exact within11_any n 32 x (by omega) (by omega)
 have c40:Hid (∀x,Calls Tryz.prog 19 #[.int .i64 n,.int .i64 40] x fun e w'=>e=.returned (.int .i64 (k:Int))∧w'=x):=fun x=>by rw [←hj];exact within11_any n 40 x (by omega) (by omega)
 have c20:Hid (∀x,Calls Tryz.prog 19 #[.int .i64 kind,.int .i64 20] x fun e w'=>e=.returned (.int .i64 (k0:Int))∧w'=x):=fun x=>by rw [←hk];exact within11_any kind 20 x (by omega) (by omega)
 have c384:Hid (∀x,Calls Tryz.prog 19 #[.int .i64 n,.int .i64 384] x fun e w'=>e=.returned (.int .i64 (n5:Int))∧w'=x):=fun x=>by rw [←h5];exact within11_any n 384 x (by omega) (by omega)
 have c4:Hid (∀x,Calls Tryz.prog 19 #[.int .i64 n,.int .i64 4] x fun e w'=>e=.returned (.int .i64 (n4:Int))∧w'=x):=fun x=>by rw [←h4];exact within11_any n 4 x (by omega) (by omega)
 obtain ⟨D,hD⟩:∃D,Sn.Spoils w (s 0) k0 i n5 nI=D:=⟨_,rfl⟩
 have hfin:Hid (∀(x:World) (gC gE gI mC mE mI' kC kE kI:Nat) (s' g' c':Nat→Int) (E' I':Nat→Nat→Int),Sn.Mine w x B gC gE gI mC mE mI' kC kE kI s' g' c' E' I'→(∀i,0≤c' i∧c' i≤255)→s' 0=s 0→Sn.May k0 i n5 mC mE mI'→mI'≤nI+1→∀vs,D (.returned (.agg (Sn.wide s' g' (.slice (some ⟨gC,0,none⟩) mC kC) (.slice (some ⟨gE,0,none⟩) mE kE) (.slice (some ⟨gI,0,none⟩) mI' kI)))) (x.setCells (B+1) 0 vs)):=fun x gC gE gI mC mE mI' kC kE kI s' g' c' E' I' a1 a2 a3 a4 a5 vs=>by
  rw [←hD]
  exact a1.gets a2 a3 a4 a5 vs
 rw [hD]
 obtain ⟨aC,jC,rfl⟩:=hL.cells.is
 obtain ⟨aE,jE,rfl⟩:=hL.ents.is
 obtain ⟨aI,jI,rfl⟩:=hL.items.is
 clear hL hc hM mI hk hi hi1 hj hj1 h5 h51 h4 h41 hD hB
 unfold Sn.wide at hw0 hfin ct ⊢
 go_enter Tryz.func18,Tryz.ntmps18
 go_upto_region 1 with fail
 rw [←hw0,uh hB']
 clear hw0
 obtain ⟨b0,b1,b2,b3,b4,b5,b6,b7,b8,b9,b10⟩:=Sn.wbox_cells (uh hP0).box
 go_wp2_with fail
 refine (uh ct).mono ?_
 rintro e w1 ⟨gC,gE,gI,cC,cE,cI,rfl,hN1,hOw,hg1⟩
 have hP1:=hide ((uh hP0).on hg1)
 have hX1:Hid (Sn.Mine w (((((((((((w1.setCell ⟨B,0,none⟩ (.int .i64 (s 0))).setCell ⟨B,1,none⟩ (.int .i64 (s 1))).setCell ⟨B,2,none⟩ (.int .i64 (s 2))).setCell ⟨B,3,none⟩ (.int .i64 (s 3))).setCell ⟨B,4,none⟩ (.slice (some ⟨gC,0,none⟩) nC cC)).setCell ⟨B,5,none⟩ (.slice (some ⟨gE,0,none⟩) nE cE)).setCell ⟨B,6,none⟩ (.slice (some ⟨gI,0,none⟩) nI cI)).setCell ⟨B,7,none⟩ (.int .i64 (g 0))).setCell ⟨B,8,none⟩ (.int .i64 (g 1))).setCell ⟨B,9,none⟩ (.int .i64 (g 2))).setCell ⟨B,10,none⟩ (.int .i64 (g 3))) B gC gE gI nC nE nI cC cE cI s g c E I):=Sn.Mine.nest (uh hP1) hN1 (uh hP0).two
 have hB0:B<w0.heap.size:=by have:=(uh hP0).two;omega
 have hO1:Hid ((((((((((((w1.setCell ⟨B,0,none⟩ (.int .i64 (s 0))).setCell ⟨B,1,none⟩ (.int .i64 (s 1))).setCell ⟨B,2,none⟩ (.int .i64 (s 2))).setCell ⟨B,3,none⟩ (.int .i64 (s 3))).setCell ⟨B,4,none⟩ (.slice (some ⟨gC,0,none⟩) nC cC)).setCell ⟨B,5,none⟩ (.slice (some ⟨gE,0,none⟩) nE cE)).setCell ⟨B,6,none⟩ (.slice (some ⟨gI,0,none⟩) nI cI)).setCell ⟨B,7,none⟩ (.int .i64 (g 0))).setCell ⟨B,8,none⟩ (.int .i64 (g 1))).setCell ⟨B,9,none⟩ (.int .i64 (g 2))).setCell ⟨B,10,none⟩ (.int .i64 (g 3))).ownsRow w0.heap.size 63 4 (.slice (some ⟨gI,0,none⟩) nI cI) nI (Gd.list (nI*4) (Gd.flat I))):=(ownsRow_setCell_below (ownsRow_setCell_below (ownsRow_setCell_below (ownsRow_setCell_below (ownsRow_setCell_below (ownsRow_setCell_below (ownsRow_setCell_below (ownsRow_setCell_below (ownsRow_setCell_below (ownsRow_setCell_below (ownsRow_setCell_below hOw hB0 _) hB0 _) hB0 _) hB0 _) hB0 _) hB0 _) hB0 _) hB0 _) hB0 _) hB0 _) hB0 _)
 have hB2:=hide (uh hP0).two
 clear hOw hB0
 have fB:=(uh hP1).box.free
 clear b0 b1 b2 b3 b4 b5 b6 b7 b8 b9 b10 hN1 hg1 ct hP0
 obtain ⟨b0,b1,b2,b3,b4,b5,b6,b7,b8,b9,b10⟩:=Sn.wbox_cells (uh hP1).box
 unfold Sn.wide
 go_upto_region 2 with fail
 generalize (((((((((((w1.setCell ⟨B,0,none⟩ (.int .i64 (s 0))).setCell ⟨B,1,none⟩ (.int .i64 (s 1))).setCell ⟨B,2,none⟩ (.int .i64 (s 2))).setCell ⟨B,3,none⟩ (.int .i64 (s 3))).setCell ⟨B,4,none⟩ (.slice (some ⟨gC,0,none⟩) nC cC)).setCell ⟨B,5,none⟩ (.slice (some ⟨gE,0,none⟩) nE cE)).setCell ⟨B,6,none⟩ (.slice (some ⟨gI,0,none⟩) nI cI)).setCell ⟨B,7,none⟩ (.int .i64 (g 0))).setCell ⟨B,8,none⟩ (.int .i64 (g 1))).setCell ⟨B,9,none⟩ (.int .i64 (g 2))).setCell ⟨B,10,none⟩ (.int .i64 (g 3)))=x1 at hX1 hO1 ⊢
 clear b0 b1 b2 b3 b4 b5 b6 b7 b8 b9 b10 fB hP1
 go_wp2_with fail
 refine (uh c32 _).mono ?_
 rintro e wq ⟨rfl,hq'⟩
 obtain rfl:x1=wq:=hq'.symm
 clear hq'
 go_wp2_with fail
 refine (uh c40 _).mono ?_
 rintro e wq ⟨rfl,hq'⟩
 obtain rfl:x1=wq:=hq'.symm
 clear hq'
 go_wp2_with fail
 refine (uh c20 _).mono ?_
 rintro e wq ⟨rfl,hq'⟩
 obtain rfl:x1=wq:=hq'.symm
 clear hq' c32 c40 c20
 rcases hks with rfl | rfl | rfl | rfl
 ·obtain rfl:nC=384:=(uh HM).1 rfl
  have fX:=(uh hX1).new.cells.free
  have hS0:Hid (x1.cell? ⟨B,4,none⟩=some (.slice (some ⟨gC,0,none⟩) 384 cC)∧x1.cell? ⟨gC,n5,none⟩=some (.int .u8 (c n5))):=⟨(Sn.wbox_cells (uh hX1).par.box).2.2.2.2.1,(uh hX1).new.cells.cell (c:=n5) (by have:=(uh HN).2.2.1;omega)⟩
  have bk:=(uh hS0).2
  have q1:(n5:Int)<384:=by have:=(uh HN).2.2.1;omega
  have q2:¬(n5:Int)<0:=by omega
  have tw:IntKind.u8.wrap v=v % 256:=Sn.wrap8 v
  go_upto_region 13 with fail
  refine wp_region_till (h:=7) (S:=fun x=>Hid (x.cell? ⟨B,4,none⟩=some (.slice (some ⟨gC,0,none⟩) 384 cC)∧x.cell? ⟨gC,n5,none⟩=some (.int .u8 (c n5)))) (by kernel_rfl) ?_
  refine wtk (i:=0) (v:=?_) [7] rfl (by kernel_rfl) (by kernel_rfl) (by kernel_rfl) (by kernel_rfl) (fun _ _ _ h=>h) hS0 (Or.inl ⟨by rfl,?_⟩) ?_
  rotate_left
  ·intro x hSx
   clear hSx
   go_simp
   try with_reducible rfl
  simp only [Act.put,List.getElem_toArray,List.getElem_cons_zero,List.setIfInBounds_toArray,List.set_cons_succ,List.set_cons_zero]
  refine wtk (i:=1) (v:=?_) [7] rfl (by kernel_rfl) (by kernel_rfl) (by kernel_rfl) (by kernel_rfl) (fun _ _ _ h=>h) hS0 (Or.inl ⟨by rfl,?_⟩) ?_
  rotate_left
  ·intro x hSx
   have u0:=(uh hSx).1
   clear hSx
   go_simp
   try with_reducible rfl
  simp only [Act.put,List.getElem_toArray,List.getElem_cons_zero,List.getElem_cons_succ,List.setIfInBounds_toArray,List.set_cons_succ,List.set_cons_zero]
  refine wtk (i:=2) (v:=?_) [7] rfl (by kernel_rfl) (by kernel_rfl) (by kernel_rfl) (by kernel_rfl) (fun _ _ _ h=>h) hS0 (Or.inl ⟨by rfl,?_⟩) ?_
  rotate_left
  ·intro x hSx
   clear hSx
   go_simp
   try with_reducible rfl
  simp only [Act.put,List.getElem_toArray,List.getElem_cons_zero,List.getElem_cons_succ,List.setIfInBounds_toArray,List.set_cons_succ,List.set_cons_zero]
  refine wpTill_call (i:=3) (v:=.int .i64 (n5:Int)) [7] rfl (by kernel_rfl) (by kernel_rfl) (by kernel_rfl) (by kernel_rfl) (fun _ _ _ h=>h) hS0 ⟨by rfl,fun x hSx=>⟨19,#[.int .i64 n,.int .i64 384],?_,uh c384 x⟩⟩ ?_
  ·go_simp
   try with_reducible rfl
  simp only [Act.put,List.getElem_toArray,List.getElem_cons_zero,List.getElem_cons_succ,List.setIfInBounds_toArray,List.set_cons_succ,List.set_cons_zero]
  refine wtk (i:=4) (v:=?_) [7] rfl (by kernel_rfl) (by kernel_rfl) (by kernel_rfl) (by kernel_rfl) (fun _ _ _ h=>h) hS0 (Or.inl ⟨by rfl,?_⟩) ?_
  rotate_left
  ·intro x hSx
   clear hSx
   go_simp
   try with_reducible rfl
  simp only [Act.put,List.getElem_toArray,List.getElem_cons_zero,List.getElem_cons_succ,List.setIfInBounds_toArray,List.set_cons_succ,List.set_cons_zero]
  refine wtk (i:=5) (v:=?_) [7] rfl (by kernel_rfl) (by kernel_rfl) (by kernel_rfl) (by kernel_rfl) (fun _ _ _ h=>h) hS0 (Or.inl ⟨by rfl,?_⟩) ?_
  rotate_left
  ·intro x hSx
   clear hSx
   go_simp
   try with_reducible rfl
  simp only [Act.put,List.getElem_toArray,List.getElem_cons_zero,List.getElem_cons_succ,List.setIfInBounds_toArray,List.set_cons_succ,List.set_cons_zero]
  refine wtk (i:=6) (v:=?_) [7] rfl (by kernel_rfl) (by kernel_rfl) (by kernel_rfl) (by kernel_rfl) (fun _ _ _ h=>h) hS0 (Or.inl ⟨by rfl,?_⟩) ?_
  rotate_left
  ·intro x hSx
   clear hSx
   go_simp
   try with_reducible rfl
  simp only [Act.put,List.getElem_toArray,List.getElem_cons_zero,List.getElem_cons_succ,List.setIfInBounds_toArray,List.set_cons_succ,List.set_cons_zero]
  refine wto (j:=7) (by kernel_rfl) rfl (fun K hK=>?_)
  go_simp
  refine hK.out _ _ (fun hx=>absurd (hx.symm.trans (by kernel_rfl)) Bool.false_ne_true) ?_
  clear hK K
  refine wpTill_done (by kernel_rfl) ?_ _
  clear hS0
  have hZ:=hide (((uh hX1).cell n5 (v % 256)).on (gd1 (World.grownBy.refl _ none)))
  go_upto_region 44 with fail
  generalize (x1.setCell ⟨gC,n5,none⟩ (.int .u8 (v % 256))).drew=z at hZ ⊢
  clear fX bk q1 q2 tw
  obtain ⟨b0,b1,b2,b3,b4,b5,b6,b7,b8,b9,b10⟩:=Sn.wbox_cells (uh hZ).par.box
  have fz:=(uh hZ).par.res.free
  obtain ⟨z0,z1,z2,z3,z4,z5,z6,z7,z8,z9,z10⟩:=Gd.res_cells (uh hZ).par.res
  have hF:=hide (uh hfin _ _ _ _ _ _ _ _ _ _ _ _ _ _ _ (uh hZ) (fun i=>by have h:=uh HC i;show 0≤(if i=n5 then v % 256 else c i)∧(if i=n5 then v % 256 else c i)≤255;split <;> omega) rfl (uh HM) (by omega))
  clear hfin hX1 hZ HM HC c384 c4
  go_wp2
  refine bodyPost_ret (v:=_) (by simp [results,Tryz.results18,go_sem,z0,z1,z2,z3,z4,z5,z6,z7,z8,z9,z10];try rfl) rfl ?_
  exact uh hF [_,_,_,_,_,_,_,_,_,_,_]
 ·have fX:=(uh hX1).par.box.free
  have hle:n5≤nC:=(uh HM).2.1 rfl
  have hS0:Hid (x1.cell? ⟨B,4,none⟩=some (.slice (some ⟨gC,0,none⟩) nC cC)):=(Sn.wbox_cells (uh hX1).par.box).2.2.2.2.1
  have bk:=uh hS0
  have q1:(n5:Int)≤(cC:Int):=by have:=(uh hX1).new.kC;omega
  have q2:(0:Int)≤(n5:Int):=by omega
  have q3:¬(n5:Int)<0:=by omega
  have HLE:=hide hle
  clear hle
  go_upto_region 15 with fail
  refine wp_region_till (h:=6) (S:=fun x=>Hid (x.cell? ⟨B,4,none⟩=some (.slice (some ⟨gC,0,none⟩) nC cC))) (by kernel_rfl) ?_
  refine wtk (i:=0) (v:=?_) [6] rfl (by kernel_rfl) (by kernel_rfl) (by kernel_rfl) (by kernel_rfl) (fun _ _ _ h=>h) hS0 (Or.inl ⟨by rfl,?_⟩) ?_
  rotate_left
  ·intro x hSx
   clear hSx
   go_simp
   try with_reducible rfl
  simp only [Act.put,List.getElem_toArray,List.getElem_cons_zero,List.setIfInBounds_toArray,List.set_cons_succ,List.set_cons_zero]
  refine wtk (i:=1) (v:=?_) [6] rfl (by kernel_rfl) (by kernel_rfl) (by kernel_rfl) (by kernel_rfl) (fun _ _ _ h=>h) hS0 (Or.inl ⟨by rfl,?_⟩) ?_
  rotate_left
  ·intro x hSx
   have u0:=uh hSx
   clear hSx
   go_simp
   try with_reducible rfl
  simp only [Act.put,List.getElem_toArray,List.getElem_cons_zero,List.getElem_cons_succ,List.setIfInBounds_toArray,List.set_cons_succ,List.set_cons_zero]
  refine wtk (i:=2) (v:=?_) [6] rfl (by kernel_rfl) (by kernel_rfl) (by kernel_rfl) (by kernel_rfl) (fun _ _ _ h=>h) hS0 (Or.inl ⟨by rfl,?_⟩) ?_
  rotate_left
  ·intro x hSx
   clear hSx
   go_simp
   try with_reducible rfl
  simp only [Act.put,List.getElem_toArray,List.getElem_cons_zero,List.getElem_cons_succ,List.setIfInBounds_toArray,List.set_cons_succ,List.set_cons_zero]
  refine wpTill_call (i:=3) (v:=.int .i64 (n5:Int)) [6] rfl (by kernel_rfl) (by kernel_rfl) (by kernel_rfl) (by kernel_rfl) (fun _ _ _ h=>h) hS0 ⟨by rfl,fun x hSx=>⟨19,#[.int .i64 n,.int .i64 384],?_,uh c384 x⟩⟩ ?_
  ·go_simp
   try with_reducible rfl
  simp only [Act.put,List.getElem_toArray,List.getElem_cons_zero,List.getElem_cons_succ,List.setIfInBounds_toArray,List.set_cons_succ,List.set_cons_zero]
  refine wtk (i:=4) (v:=?_) [6] rfl (by kernel_rfl) (by kernel_rfl) (by kernel_rfl) (by kernel_rfl) (fun _ _ _ h=>h) hS0 (Or.inl ⟨by rfl,?_⟩) ?_
  rotate_left
  ·intro x hSx
   clear hSx
   go_simp
   try with_reducible rfl
  simp only [Act.put,List.getElem_toArray,List.getElem_cons_zero,List.getElem_cons_succ,List.setIfInBounds_toArray,List.set_cons_succ,List.set_cons_zero]
  refine wtk (i:=5) (v:=?_) [6] rfl (by kernel_rfl) (by kernel_rfl) (by kernel_rfl) (by kernel_rfl) (fun _ _ _ h=>h) hS0 (Or.inl ⟨by rfl,?_⟩) ?_
  rotate_left
  ·intro x hSx
   clear hSx
   go_simp
   try with_reducible rfl
  simp only [Act.put,List.getElem_toArray,List.getElem_cons_zero,List.getElem_cons_succ,List.setIfInBounds_toArray,List.set_cons_succ,List.set_cons_zero]
  refine wto (j:=6) (by kernel_rfl) rfl (fun K hK=>?_)
  go_simp
  refine hK.out _ _ (fun hx=>absurd (hx.symm.trans (by kernel_rfl)) Bool.false_ne_true) ?_
  clear hK K
  refine wpTill_done (by kernel_rfl) ?_ _
  clear hS0
  have hZ:=hide (((uh hX1).cutC n5 (uh HLE)).on (gd1 (World.grownBy.refl _ none)))
  go_upto_region 44 with fail
  generalize (x1.setCell ⟨B,4,none⟩ (.slice (some ⟨gC,0,none⟩) n5 cC)).drew=z at hZ ⊢
  clear fX bk q1 q2 q3
  obtain ⟨b0,b1,b2,b3,b4,b5,b6,b7,b8,b9,b10⟩:=Sn.wbox_cells (uh hZ).par.box
  have fz:=(uh hZ).par.res.free
  obtain ⟨z0,z1,z2,z3,z4,z5,z6,z7,z8,z9,z10⟩:=Gd.res_cells (uh hZ).par.res
  have hF:=hide (uh hfin _ _ _ _ _ _ _ _ _ _ _ _ _ _ _ (uh hZ) (uh HC) rfl (by have h:=uh HM;exact ⟨fun e=>absurd e (by decide),fun _=>Nat.le_refl _,fun e=>absurd e (by decide),fun e=>absurd e (by decide),fun e=>absurd e (by decide),by have:=(uh HN).2.2.1;omega,h.2.2.2.2.2.2⟩) (by omega))
  clear hfin hX1 hZ HM HC c384 c4
  go_wp2
  refine bodyPost_ret (v:=_) (by simp [results,Tryz.results18,go_sem,z0,z1,z2,z3,z4,z5,z6,z7,z8,z9,z10];try rfl) rfl ?_
  exact uh hF [_,_,_,_,_,_,_,_,_,_,_]
 ·have fX:=(uh hX1).par.box.free
  have HLE:Hid (i≤nE):=(uh HM).2.2.1 rfl
  have bk:=(Sn.wbox_cells (uh hX1).par.box).2.2.2.2.2.1
  have q1:(i:Int)≤(cE:Int):=by have:=(uh hX1).new.kE;have:=uh HLE;omega
  have q2:(0:Int)≤(i:Int):=by omega
  have q3:¬(i:Int)<0:=by omega
  have hZ:=hide ((uh hX1).cutE i (uh HLE))
  go_upto_region 44 with fail
  generalize x1.setCell ⟨B,5,none⟩ (.slice (some ⟨gE,0,none⟩) i cE)=z at hZ ⊢
  clear fX bk q1 q2 q3
  obtain ⟨b0,b1,b2,b3,b4,b5,b6,b7,b8,b9,b10⟩:=Sn.wbox_cells (uh hZ).par.box
  have fz:=(uh hZ).par.res.free
  obtain ⟨z0,z1,z2,z3,z4,z5,z6,z7,z8,z9,z10⟩:=Gd.res_cells (uh hZ).par.res
  have hF:=hide (uh hfin _ _ _ _ _ _ _ _ _ _ _ _ _ _ _ (uh hZ) (uh HC) rfl (by have h:=uh HM;exact ⟨fun e=>absurd e (by decide),fun e=>absurd e (by decide),fun _=>Nat.le_refl _,fun e=>absurd e (by decide),fun e=>absurd e (by decide),h.2.2.2.2.2.1,by have:=(uh HN).1;omega⟩) (by omega))
  clear hfin hX1 hZ HM HC c384 c4
  go_wp2
  refine bodyPost_ret (v:=_) (by simp [results,Tryz.results18,go_sem,z0,z1,z2,z3,z4,z5,z6,z7,z8,z9,z10];try rfl) rfl ?_
  exact uh hF [_,_,_,_,_,_,_,_,_,_,_]
 ·obtain ⟨iI,hiI,hzI0,hzI1,hzI2⟩:=info_parts info_item
  have fX:=(uh hX1).par.box.free
  have bk:=(Sn.wbox_cells (uh hX1).par.box).2.2.2.2.2.2.1
  have hown:Hid ((x1.alloc (.cells #[.int .i64 0,.int .i64 0,.int .i64 0,.int .i64 0] 63)).ownsRow w0.heap.size 63 4 (.slice (some ⟨gI,0,none⟩) nI cI) nI (Gd.list (nI*4) (Gd.flat I))):=(uh hO1).alloc _
  have hnews:=hide (Sn.news x1 #[.int .i64 0,.int .i64 0,.int .i64 0,.int .i64 0] 63 x1.heap.size rfl)
  have hone:Hid (∀u∈(#[.int .i64 0,.int .i64 0,.int .i64 0,.int .i64 0]:Array Value).toList,u.oneCell'=true):=fun u hu=>by
   simp only [List.mem_cons,List.not_mem_nil,or_false] at hu
   rcases hu with rfl | rfl | rfl | rfl <;> rfl
  have hbz:Hid (w0.heap.size≤(x1.alloc (.cells #[.int .i64 0,.int .i64 0,.int .i64 0,.int .i64 0] 63)).heap.size):=by
   have h1:=((uh hO1).lt gI rfl)
   show _≤_
   simp
   omega
  have hnI:Hid (nI≤900):=(uh HN).2.2.2.2
  go_upto_region 19 with fail
  go_wp2_with (at_builtin;refine wpList_append_own _ rfl _ _ 28 rfl w0.heap.size 63 iI (.agg #[.int .i64 0,.int .i64 0,.int .i64 0,.int .i64 0]) 4 32 Tryz.underlying28 hiI hzI0 hzI1 hzI2 rfl (by decide) _ nI _ rfl (uh hown) ⟨x1.heap.size,0,none⟩ 1 1 (#[.int .i64 0,.int .i64 0,.int .i64 0,.int .i64 0]:Array Value).toList rfl rfl (uh hnews) (uh hone) (by have:=uh hnI;unfold maxLen;omega) (by have:=uh hnI;omega) (uh hbz) ?_)
  intro v' x2 hown2 hgrow hnil
  obtain ⟨gJ,cJ,rfl,⟨uI,hX2,hu⟩,hZ⟩:=Sn.Mine.more (uh hX1) (uh hB2) hown2 hgrow
  subst hu
  have fX2:=hX2.box.free
  have bk2:=(Sn.wbox_cells hX2.box).2.2.2.2.2.2.1
  have hZ':=hide hZ
  clear hown hnews hone hbz hnI hown2 hgrow hnil hX2 hZ hO1
  have hZ:=hide (uh hZ')
  go_upto_region 44 with fail
  generalize x2.setCell ⟨B,6,none⟩ (.slice (some ⟨gJ,0,none⟩) (nI+1) cJ)=z at hZ ⊢
  clear fX fX2 bk bk2 hZ'
  obtain ⟨b0,b1,b2,b3,b4,b5,b6,b7,b8,b9,b10⟩:=Sn.wbox_cells (uh hZ).par.box
  have fz:=(uh hZ).par.res.free
  obtain ⟨z0,z1,z2,z3,z4,z5,z6,z7,z8,z9,z10⟩:=Gd.res_cells (uh hZ).par.res
  have hF:=hide (uh hfin _ _ _ _ _ _ _ _ _ _ _ _ _ _ _ (uh hZ) (uh HC) rfl (by have h:=uh HM;exact ⟨fun e=>absurd e (by decide),fun e=>absurd e (by decide),fun e=>absurd e (by decide),fun e=>absurd e (by decide),fun e=>absurd e (by decide),h.2.2.2.2.2.1,h.2.2.2.2.2.2⟩) (Nat.le_refl _))
  clear hfin hX1 hZ HM HC c384 c4
  go_wp2
  refine bodyPost_ret (v:=_) (by simp [results,Tryz.results18,go_sem,z0,z1,z2,z3,z4,z5,z6,z7,z8,z9,z10];try rfl) rfl ?_
  exact uh hF [_,_,_,_,_,_,_,_,_,_,_]

end Go.Proofs.YtepppmepilffcaaGreat
