import Derived.Test.YtkcooekhigmioaaGreatPart28
namespace Go.Proofs.YtkcooekhigmioaaGreat
open Go.RowKit

theorem Sn.Left.num {x:World} {V jC jE jI dC dE dI:Nat} {t h d:Nat→Int} {F J:Nat→Nat→Int} (H:Sn.Left x V jC jE jI dC dE dI t h d F J) (k:Nat) (hk:k<4) (u:Int):Sn.Left (x.setCell ⟨V,k,none⟩ (.int .i64 u)) V jC jE jI dC dE dI (Cr.num t k u) h d F J :=
 ⟨(H.v.store k (.int .i64 u)).congr (Sn.box_num t h jC jE jI dC dE dI k u hk),H.lv.aside (H.lv.cells.type7 H.v (by decide)).symm (H.lv.ents.type7 H.v (by decide)).symm (H.lv.items.type7 H.v (by decide)).symm _ _⟩

theorem Sn.Left.golds {x:World} {V jC jE jI dC dE dI:Nat} {t h d:Nat→Int} {F J:Nat→Nat→Int} (H:Sn.Left x V jC jE jI dC dE dI t h d F J) (s g:Nat→Int) (hs:∀j,j<4→t j=s j):Sn.Left (x.setCells V 7 [.int .i64 (g 0),.int .i64 (g 1),.int .i64 (g 2),.int .i64 (g 3)]) V jC jE jI dC dE dI s g d F J:=by
 refine ⟨(H.v.stores 7 _).congr fun j hj=>?_,H.lv.asides (H.lv.cells.type7 H.v (by decide)).symm (H.lv.ents.type7 H.v (by decide)).symm (H.lv.items.type7 H.v (by decide)).symm _ _⟩
 have h0:=hs 0 (by omega)
 have h1:=hs 1 (by omega)
 have h2:=hs 2 (by omega)
 have h3:=hs 3 (by omega)
 rcases (show j=0∨j=1∨j=2∨j=3∨j=4∨j=5∨j=6∨j=7∨j=8∨j=9∨j=10 by omega) with rfl | rfl | rfl | rfl | rfl | rfl | rfl | rfl | rfl | rfl | rfl
 ·show Value.int .i64 (t 0)=.int .i64 (s 0);rw [h0]
 ·show Value.int .i64 (t 1)=.int .i64 (s 1);rw [h1]
 ·show Value.int .i64 (t 2)=.int .i64 (s 2);rw [h2]
 ·show Value.int .i64 (t 3)=.int .i64 (s 3);rw [h3]
 all_goals rfl

set_option maxRecDepth 8000 in
set_option maxHeartbeats 6400000 in
theorem headPut_any (s g t h d:Nat→Int) (F J:Nat→Nat→Int) (V jC jE jI dC dE dI:Nat) (x:World) (H:Sn.Left x V jC jE jI dC dE dI t h d F J) :
  Calls Tryz.prog 146 #[.agg #[.int .i64 (s 0),.int .i64 (s 1),.int .i64 (s 2),.int .i64 (s 3),.int .i64 (g 0),.int .i64 (g 1),.int .i64 (g 2),.int .i64 (g 3)],.pointer (some ⟨V,0,none⟩)] x fun e y=>e=.returned (.tuple #[])∧Sn.Left y V jC jE jI dC dE dI s g d F J∧Turn (fun k=>k=V) x y:=by
 obtain ⟨R,hR⟩:∃R,x.heap.size=R:=⟨_,rfl⟩
 obtain ⟨x1,hx1⟩:∃x1,x.alloc (.cells #[.int .i64 (s 0),.int .i64 (s 1),.int .i64 (s 2),.int .i64 (s 3),.int .i64 (g 0),.int .i64 (g 1),.int .i64 (g 2),.int .i64 (g 3)] 82)=x1:=⟨_,rfl⟩
 have hg1:x.grownBy x1 none:=by rw [←hx1];exact World.grownBy_alloc _ _ _
 have hVR:R≠V:=by
  have:=H.v.lt
  omega
 have hA:Arr x1 R 82 8 (fun j=>(#[Value.int .i64 (s 0),.int .i64 (s 1),.int .i64 (s 2),.int .i64 (s 3),.int .i64 (g 0),.int .i64 (g 1),.int .i64 (g 2),.int .i64 (g 3)])[j]?.getD undef):=by
  rw [←hx1,←hR]
  exact Arr.lit (heap_alloc_new x _)
 have hkeep:Hid (∀y,Turn (fun k=>k=V) x1 y→y.cell? ⟨R,0,none⟩=some (.int .i64 (s 0))∧y.cell? ⟨R,1,none⟩=some (.int .i64 (s 1))∧y.cell? ⟨R,2,none⟩=some (.int .i64 (s 2))∧y.cell? ⟨R,3,none⟩=some (.int .i64 (s 3))∧y.cell? ⟨R,4,none⟩=some (.int .i64 (g 0))∧y.cell? ⟨R,5,none⟩=some (.int .i64 (g 1))∧y.cell? ⟨R,6,none⟩=some (.int .i64 (g 2))∧y.cell? ⟨R,7,none⟩=some (.int .i64 (g 3))):=fun y hy=>by
  have hB:=hA.turn hy hVR
  exact ⟨hB.cell (i:=0) (by omega),hB.cell (i:=1) (by omega),hB.cell (i:=2) (by omega),hB.cell (i:=3) (by omega),hB.cell (i:=4) (by omega),hB.cell (i:=5) (by omega),hB.cell (i:=6) (by omega),hB.cell (i:=7) (by omega)⟩
 have HG:=hide hg1
 have HL:=hide (H.on hg1)
 clear H hA hVR hg1
 go_enter Tryz.func146,Tryz.ntmps146
 go_upto_region 1 with fail
 try rw [hx1]
 try rw [hR]
 clear hx1 hR
 obtain ⟨y0,hy0⟩:∃y,x1.drew=y:=⟨_,rfl⟩
 have hT0:Hid (Turn (fun k=>k=V) x1 y0):=by rw [←hy0];exact Turn.new (gdw (World.grownBy.refl x1 none) 1)
 have hF0:Hid (Sn.Left y0 V jC jE jI dC dE dI t h d F J):=by rw [←hy0];exact (uh HL).on (gdw (World.grownBy.refl x1 none) 1)
 have b0:=(uh hF0).v.cell (c:=0) (by omega)
 have fr0:=fun i=>(uh hF0).v.free i
 refine wp_region_till (h:=29) (S:=fun x=>Hid (Turn (fun k=>k=V) x1 x)) (by kernel_rfl) ?_
 rw [hy0]
 clear hy0 HL
 refine wtk (i:=0) (v:=?_) [29] rfl (by kernel_rfl) (by kernel_rfl) (by kernel_rfl) (by kernel_rfl) (fun _ _ _ h=>h) hT0 (Or.inl ⟨by rfl,?_⟩) ?_
 rotate_left
 ·intro x hSx
  clear hSx
  go_simp
  try with_reducible rfl
 simp only [Act.put,List.getElem_toArray,List.getElem_cons_zero,List.setIfInBounds_toArray,List.set_cons_succ,List.set_cons_zero]
 refine wtk (i:=1) (v:=?_) [29] rfl (by kernel_rfl) (by kernel_rfl) (by kernel_rfl) (by kernel_rfl) (fun _ _ _ h=>h) hT0 (Or.inl ⟨by rfl,?_⟩) ?_
 rotate_left
 ·intro x hSx
  clear hSx
  go_simp
  try with_reducible rfl
 simp only [Act.put,List.getElem_toArray,List.getElem_cons_zero,List.getElem_cons_succ,List.setIfInBounds_toArray,List.set_cons_succ,List.set_cons_zero]
 refine wtk (i:=2) (v:=?_) [29] rfl (by kernel_rfl) (by kernel_rfl) (by kernel_rfl) (by kernel_rfl) (fun _ _ _ h=>h) hT0 (Or.inl ⟨by rfl,?_⟩) ?_
 rotate_left
 ·intro x hSx
  clear hSx
  go_simp
  try with_reducible rfl
 simp only [Act.put,List.getElem_toArray,List.getElem_cons_zero,List.getElem_cons_succ,List.setIfInBounds_toArray,List.set_cons_succ,List.set_cons_zero]
 refine wtk (i:=3) (v:=?_) [29] rfl (by kernel_rfl) (by kernel_rfl) (by kernel_rfl) (by kernel_rfl) (fun _ _ _ h=>h) hT0 (Or.inl ⟨by rfl,?_⟩) ?_
 rotate_left
 ·intro x hSx
  clear hSx
  go_simp
  try with_reducible rfl
 simp only [Act.put,List.getElem_toArray,List.getElem_cons_zero,List.getElem_cons_succ,List.setIfInBounds_toArray,List.set_cons_succ,List.set_cons_zero]
 refine wtk (i:=4) (v:=?_) [29] rfl (by kernel_rfl) (by kernel_rfl) (by kernel_rfl) (by kernel_rfl) (fun _ _ _ h=>h) hT0 (Or.inl ⟨by rfl,?_⟩) ?_
 rotate_left
 ·intro x hSx
  clear hSx
  go_simp
  try with_reducible rfl
 simp only [Act.put,List.getElem_toArray,List.getElem_cons_zero,List.getElem_cons_succ,List.setIfInBounds_toArray,List.set_cons_succ,List.set_cons_zero]
 refine wtk (i:=5) (v:=?_) [29] rfl (by kernel_rfl) (by kernel_rfl) (by kernel_rfl) (by kernel_rfl) (fun _ _ _ h=>h) hT0 (Or.inl ⟨by rfl,?_⟩) ?_
 rotate_left
 ·intro x hSx
  clear hSx
  go_simp
  try with_reducible rfl
 simp only [Act.put,List.getElem_toArray,List.getElem_cons_zero,List.getElem_cons_succ,List.setIfInBounds_toArray,List.set_cons_succ,List.set_cons_zero]
 refine wtk (i:=6) (v:=?_) [29] rfl (by kernel_rfl) (by kernel_rfl) (by kernel_rfl) (by kernel_rfl) (fun _ _ _ h=>h) hT0 (Or.inl ⟨by rfl,?_⟩) ?_
 rotate_left
 ·intro x hSx
  have e1:=(uh hkeep x (uh hSx)).1
  clear hSx
  go_simp
  try with_reducible rfl
 simp only [Act.put,List.getElem_toArray,List.getElem_cons_zero,List.getElem_cons_succ,List.setIfInBounds_toArray,List.set_cons_succ,List.set_cons_zero]
 refine wtk (i:=7) (v:=?_) [29] rfl (by kernel_rfl) (by kernel_rfl) (by kernel_rfl) (by kernel_rfl) (fun _ _ _ h=>h) hT0 (Or.inl ⟨by rfl,?_⟩) ?_
 rotate_left
 ·intro x hSx
  clear hSx
  go_simp
  try with_reducible rfl
 simp only [Act.put,List.getElem_toArray,List.getElem_cons_zero,List.getElem_cons_succ,List.setIfInBounds_toArray,List.set_cons_succ,List.set_cons_zero]
 refine wtk (i:=8) (v:=?_) [29] rfl (by kernel_rfl) (by kernel_rfl) (by kernel_rfl) (by kernel_rfl) (fun _ _ _ h=>h) hT0 (Or.inl ⟨by rfl,?_⟩) ?_
 rotate_left
 ·intro x hSx
  have e1:=(uh hkeep x (uh hSx)).2.1
  clear hSx
  go_simp
  try with_reducible rfl
 simp only [Act.put,List.getElem_toArray,List.getElem_cons_zero,List.getElem_cons_succ,List.setIfInBounds_toArray,List.set_cons_succ,List.set_cons_zero]
 refine wtk (i:=9) (v:=?_) [29] rfl (by kernel_rfl) (by kernel_rfl) (by kernel_rfl) (by kernel_rfl) (fun _ _ _ h=>h) hT0 (Or.inl ⟨by rfl,?_⟩) ?_
 rotate_left
 ·intro x hSx
  clear hSx
  go_simp
  try with_reducible rfl
 simp only [Act.put,List.getElem_toArray,List.getElem_cons_zero,List.getElem_cons_succ,List.setIfInBounds_toArray,List.set_cons_succ,List.set_cons_zero]
 refine wtk (i:=10) (v:=?_) [29] rfl (by kernel_rfl) (by kernel_rfl) (by kernel_rfl) (by kernel_rfl) (fun _ _ _ h=>h) hT0 (Or.inl ⟨by rfl,?_⟩) ?_
 rotate_left
 ·intro x hSx
  have e1:=(uh hkeep x (uh hSx)).2.2.1
  clear hSx
  go_simp
  try with_reducible rfl
 simp only [Act.put,List.getElem_toArray,List.getElem_cons_zero,List.getElem_cons_succ,List.setIfInBounds_toArray,List.set_cons_succ,List.set_cons_zero]
 refine wtk (i:=11) (v:=?_) [29] rfl (by kernel_rfl) (by kernel_rfl) (by kernel_rfl) (by kernel_rfl) (fun _ _ _ h=>h) hT0 (Or.inl ⟨by rfl,?_⟩) ?_
 rotate_left
 ·intro x hSx
  clear hSx
  go_simp
  try with_reducible rfl
 simp only [Act.put,List.getElem_toArray,List.getElem_cons_zero,List.getElem_cons_succ,List.setIfInBounds_toArray,List.set_cons_succ,List.set_cons_zero]
 refine wtk (i:=12) (v:=?_) [29] rfl (by kernel_rfl) (by kernel_rfl) (by kernel_rfl) (by kernel_rfl) (fun _ _ _ h=>h) hT0 (Or.inl ⟨by rfl,?_⟩) ?_
 rotate_left
 ·intro x hSx
  have e1:=(uh hkeep x (uh hSx)).2.2.2.1
  clear hSx
  go_simp
  try with_reducible rfl
 simp only [Act.put,List.getElem_toArray,List.getElem_cons_zero,List.getElem_cons_succ,List.setIfInBounds_toArray,List.set_cons_succ,List.set_cons_zero]
 refine wtk (i:=13) (v:=?_) [29] rfl (by kernel_rfl) (by kernel_rfl) (by kernel_rfl) (by kernel_rfl) (fun _ _ _ h=>h) hT0 (Or.inl ⟨by rfl,?_⟩) ?_
 rotate_left
 ·intro x hSx
  clear hSx
  go_simp
  try with_reducible rfl
 simp only [Act.put,List.getElem_toArray,List.getElem_cons_zero,List.getElem_cons_succ,List.setIfInBounds_toArray,List.set_cons_succ,List.set_cons_zero]
 refine wtk (i:=14) (v:=?_) [29] rfl (by kernel_rfl) (by kernel_rfl) (by kernel_rfl) (by kernel_rfl) (fun _ _ _ h=>h) hT0 (Or.inl ⟨by rfl,?_⟩) ?_
 rotate_left
 ·intro x hSx
  obtain ⟨_,_,_,_,e1,e2,e3,e4⟩:=uh hkeep x (uh hSx)
  clear hSx
  go_simp
  try with_reducible rfl
 simp only [Act.put,List.getElem_toArray,List.getElem_cons_zero,List.getElem_cons_succ,List.setIfInBounds_toArray,List.set_cons_succ,List.set_cons_zero]
 refine wtk (i:=15) (v:=?_) [29] rfl (by kernel_rfl) (by kernel_rfl) (by kernel_rfl) (by kernel_rfl) (fun _ _ _ h=>h) hT0 (Or.inl ⟨by rfl,?_⟩) ?_
 rotate_left
 ·intro x hSx
  clear hSx
  go_simp
  try with_reducible rfl
 simp only [Act.put,List.getElem_toArray,List.getElem_cons_zero,List.getElem_cons_succ,List.setIfInBounds_toArray,List.set_cons_succ,List.set_cons_zero]
 refine wtk (i:=16) (v:=?_) [29] rfl (by kernel_rfl) (by kernel_rfl) (by kernel_rfl) (by kernel_rfl) (fun _ _ _ h=>h) hT0 (Or.inl ⟨by rfl,?_⟩) ?_
 rotate_left
 ·intro x hSx
  clear hSx
  go_simp
  try with_reducible rfl
 simp only [Act.put,List.getElem_toArray,List.getElem_cons_zero,List.getElem_cons_succ,List.setIfInBounds_toArray,List.set_cons_succ,List.set_cons_zero]
 refine wto (j:=17) (by kernel_rfl) rfl (fun K hK=>?_)
 go_simp
 obtain ⟨y1,hy1⟩:∃y,y0.setCell ⟨V,0,none⟩ (.int .i64 (s 0))=y:=⟨_,rfl⟩
 have hT1:Hid (Turn (fun k=>k=V) x1 y1):=by rw [←hy1];exact (uh hT0).store V 0 _ rfl
 have hF1:Hid (Sn.Left y1 V jC jE jI dC dE dI (Cr.num t 0 (s 0)) h d F J):=by rw [←hy1];exact (uh hF0).num 0 (by omega) (s 0)
 have b1:=(uh hF1).v.cell (c:=1) (by omega)
 have fr1:=fun i=>(uh hF1).v.free i
 rw [hy1]
 clear hy1 b0 fr0
 refine hK.out _ _ (fun _=>hT1) ?_
 clear hK K
 refine wtk (i:=18) (v:=?_) [29] rfl (by kernel_rfl) (by kernel_rfl) (by kernel_rfl) (by kernel_rfl) (fun _ _ _ h=>h) hT1 (Or.inl ⟨by rfl,?_⟩) ?_
 rotate_left
 ·intro x hSx
  clear hSx
  go_simp
  try with_reducible rfl
 simp only [Act.put,List.getElem_toArray,List.getElem_cons_zero,List.getElem_cons_succ,List.setIfInBounds_toArray,List.set_cons_succ,List.set_cons_zero]
 refine wtk (i:=19) (v:=?_) [29] rfl (by kernel_rfl) (by kernel_rfl) (by kernel_rfl) (by kernel_rfl) (fun _ _ _ h=>h) hT1 (Or.inl ⟨by rfl,?_⟩) ?_
 rotate_left
 ·intro x hSx
  clear hSx
  go_simp
  try with_reducible rfl
 simp only [Act.put,List.getElem_toArray,List.getElem_cons_zero,List.getElem_cons_succ,List.setIfInBounds_toArray,List.set_cons_succ,List.set_cons_zero]
 refine wto (j:=20) (by kernel_rfl) rfl (fun K hK=>?_)
 go_simp
 obtain ⟨y2,hy2⟩:∃y,y1.setCell ⟨V,1,none⟩ (.int .i64 (s 1))=y:=⟨_,rfl⟩
 have hT2:Hid (Turn (fun k=>k=V) x1 y2):=by rw [←hy2];exact (uh hT1).store V 1 _ rfl
 have hF2:Hid (Sn.Left y2 V jC jE jI dC dE dI (Cr.num (Cr.num t 0 (s 0)) 1 (s 1)) h d F J):=by rw [←hy2];exact (uh hF1).num 1 (by omega) (s 1)
 have b2:=(uh hF2).v.cell (c:=2) (by omega)
 have fr2:=fun i=>(uh hF2).v.free i
 rw [hy2]
 clear hy2 b1 fr1
 refine hK.out _ _ (fun _=>hT2) ?_
 clear hK K
 refine wtk (i:=21) (v:=?_) [29] rfl (by kernel_rfl) (by kernel_rfl) (by kernel_rfl) (by kernel_rfl) (fun _ _ _ h=>h) hT2 (Or.inl ⟨by rfl,?_⟩) ?_
 rotate_left
 ·intro x hSx
  clear hSx
  go_simp
  try with_reducible rfl
 simp only [Act.put,List.getElem_toArray,List.getElem_cons_zero,List.getElem_cons_succ,List.setIfInBounds_toArray,List.set_cons_succ,List.set_cons_zero]
 refine wtk (i:=22) (v:=?_) [29] rfl (by kernel_rfl) (by kernel_rfl) (by kernel_rfl) (by kernel_rfl) (fun _ _ _ h=>h) hT2 (Or.inl ⟨by rfl,?_⟩) ?_
 rotate_left
 ·intro x hSx
  clear hSx
  go_simp
  try with_reducible rfl
 simp only [Act.put,List.getElem_toArray,List.getElem_cons_zero,List.getElem_cons_succ,List.setIfInBounds_toArray,List.set_cons_succ,List.set_cons_zero]
 refine wto (j:=23) (by kernel_rfl) rfl (fun K hK=>?_)
 go_simp
 obtain ⟨y3,hy3⟩:∃y,y2.setCell ⟨V,2,none⟩ (.int .i64 (s 2))=y:=⟨_,rfl⟩
 have hT3:Hid (Turn (fun k=>k=V) x1 y3):=by rw [←hy3];exact (uh hT2).store V 2 _ rfl
 have hF3:Hid (Sn.Left y3 V jC jE jI dC dE dI (Cr.num (Cr.num (Cr.num t 0 (s 0)) 1 (s 1)) 2 (s 2)) h d F J):=by rw [←hy3];exact (uh hF2).num 2 (by omega) (s 2)
 have b3:=(uh hF3).v.cell (c:=3) (by omega)
 have fr3:=fun i=>(uh hF3).v.free i
 rw [hy3]
 clear hy3 b2 fr2
 refine hK.out _ _ (fun _=>hT3) ?_
 clear hK K
 refine wtk (i:=24) (v:=?_) [29] rfl (by kernel_rfl) (by kernel_rfl) (by kernel_rfl) (by kernel_rfl) (fun _ _ _ h=>h) hT3 (Or.inl ⟨by rfl,?_⟩) ?_
 rotate_left
 ·intro x hSx
  clear hSx
  go_simp
  try with_reducible rfl
 simp only [Act.put,List.getElem_toArray,List.getElem_cons_zero,List.getElem_cons_succ,List.setIfInBounds_toArray,List.set_cons_succ,List.set_cons_zero]
 refine wtk (i:=25) (v:=?_) [29] rfl (by kernel_rfl) (by kernel_rfl) (by kernel_rfl) (by kernel_rfl) (fun _ _ _ h=>h) hT3 (Or.inl ⟨by rfl,?_⟩) ?_
 rotate_left
 ·intro x hSx
  clear hSx
  go_simp
  try with_reducible rfl
 simp only [Act.put,List.getElem_toArray,List.getElem_cons_zero,List.getElem_cons_succ,List.setIfInBounds_toArray,List.set_cons_succ,List.set_cons_zero]
 refine wto (j:=26) (by kernel_rfl) rfl (fun K hK=>?_)
 go_simp
 obtain ⟨y4,hy4⟩:∃y,y3.setCell ⟨V,3,none⟩ (.int .i64 (s 3))=y:=⟨_,rfl⟩
 have hT4:Hid (Turn (fun k=>k=V) x1 y4):=by rw [←hy4];exact (uh hT3).store V 3 _ rfl
 have hF4:Hid (Sn.Left y4 V jC jE jI dC dE dI (Cr.num (Cr.num (Cr.num (Cr.num t 0 (s 0)) 1 (s 1)) 2 (s 2)) 3 (s 3)) h d F J):=by rw [←hy4];exact (uh hF3).num 3 (by omega) (s 3)
 have b4:=(uh hF4).v.cell (c:=7) (by omega)
 have fr4:=fun i=>(uh hF4).v.free i
 rw [hy4]
 clear hy4 b3 fr3
 have b41:=(uh hF4).v.cell (c:=8) (by omega)
 have b42:=(uh hF4).v.cell (c:=9) (by omega)
 have b43:=(uh hF4).v.cell (c:=10) (by omega)
 refine hK.out _ _ (fun _=>hT4) ?_
 clear hK K
 refine wtk (i:=27) (v:=?_) [28,29] rfl (by kernel_rfl) (by kernel_rfl) (by kernel_rfl) (by kernel_rfl) (fun _ _ _ h=>h) hT4 (Or.inl ⟨by rfl,?_⟩) ?_
 rotate_left
 ·intro x hSx
  clear hSx
  go_simp
  try with_reducible rfl
 simp only [Act.put,List.getElem_toArray,List.getElem_cons_zero,List.getElem_cons_succ,List.setIfInBounds_toArray,List.set_cons_succ,List.set_cons_zero]
 refine wtk (i:=28) (v:=?_) [29] rfl (by kernel_rfl) (by kernel_rfl) (by kernel_rfl) (by kernel_rfl) (fun _ _ _ h=>h) hT4 (Or.inl ⟨by rfl,?_⟩) ?_
 rotate_left
 ·intro x hSx
  clear hSx
  go_simp
  try with_reducible rfl
 simp only [Act.put,List.getElem_toArray,List.getElem_cons_zero,List.getElem_cons_succ,List.setIfInBounds_toArray,List.set_cons_succ,List.set_cons_zero]
 refine wto (j:=29) (by kernel_rfl) rfl (fun K hK=>?_)
 go_simp
 refine hK.out _ _ (fun hx=>absurd (hx.symm.trans (by kernel_rfl)) Bool.false_ne_true) ?_
 clear hK K
 refine wpTill_done (by kernel_rfl) ?_ _
 have hfin:Hid (Sn.Left ((((y4.setCell ⟨V,7,none⟩ (.int .i64 (g 0))).setCell ⟨V,8,none⟩ (.int .i64 (g 1))).setCell ⟨V,9,none⟩ (.int .i64 (g 2))).setCell ⟨V,10,none⟩ (.int .i64 (g 3))) V jC jE jI dC dE dI s g d F J∧Turn (fun k=>k=V) x ((((y4.setCell ⟨V,7,none⟩ (.int .i64 (g 0))).setCell ⟨V,8,none⟩ (.int .i64 (g 1))).setCell ⟨V,9,none⟩ (.int .i64 (g 2))).setCell ⟨V,10,none⟩ (.int .i64 (g 3)))):=by
  refine ⟨(uh hF4).golds s g (fun j hj=>?_),(Turn.new (uh HG)).trans ((((uh hT4).store V 7 _ rfl).store V 8 _ rfl).store V 9 _ rfl |>.store V 10 _ rfl) (fun _ _ q=>q)⟩
  rcases (show j=0∨j=1∨j=2∨j=3 by omega) with rfl | rfl | rfl | rfl <;> rfl
 clear hF0 hF1 hF2 hF3 hF4 hT0 hT1 hT2 hT3 hT4 hkeep b4 b41 b42 b43 fr4 HG
 go_end0
 exact ⟨rfl,uh hfin⟩

theorem Lie.entRow {x:World} {g m:Nat} {T:TypeId} {E:Nat→Nat→Int} (h:Lie x g T m (En.flat E)) (k:Nat) (e:Nat→Int):Lie (x.setCells g (k*11) (En.cells e).toList) g T m (En.flat (En.put E k e)):=by
 refine (h.stores (k*11) (En.cells e).toList).congr fun c hc=>?_
 show (if k*11≤c∧c<k*11+11 then (En.cells e).toList[c - k*11]?.getD undef else En.flat E c)=En.flat (En.put E k e) c
 unfold En.flat
 by_cases hk:k*11≤c∧c<k*11+11
 ·rw [if_pos hk,En.cells_at e _ (by omega),show c / 11=k by omega,En.put_same,show c - k*11=c % 11 by omega]
 ·rw [if_neg hk,En.put_other (by omega)]

theorem Sn.Left.entRow {x:World} {V jC jE jI dC dE dI:Nat} {t h d:Nat→Int} {F J:Nat→Nat→Int} (H:Sn.Left x V jC jE jI dC dE dI t h d F J) (k:Nat) (e:Nat→Int):Sn.Left (x.setCells jE (k*11) (En.cells e).toList) V jC jE jI dC dE dI t h d (En.put F k e) J :=
 ⟨H.v.others (H.lv.ents.type7 H.v (by decide)) _ _,⟨H.lv.cells.others (H.lv.ents.type7 H.lv.cells (by decide)) _ _,H.lv.ents.entRow k e,H.lv.items.others (H.lv.ents.type7 H.lv.items (by decide)) _ _⟩⟩

theorem Sn.Left.itemRow {x:World} {V jC jE jI dC dE dI:Nat} {t h d:Nat→Int} {F J:Nat→Nat→Int} (H:Sn.Left x V jC jE jI dC dE dI t h d F J) (k:Nat) (e:Nat→Int):Sn.Left (x.setCells jI (k*4) (Gd.cells e).toList) V jC jE jI dC dE dI t h d F (En.put J k e) :=
 ⟨H.v.others (H.lv.items.type7 H.v (by decide)) _ _,⟨H.lv.cells.others (H.lv.items.type7 H.lv.cells (by decide)) _ _,H.lv.ents.others (H.lv.items.type7 H.lv.ents (by decide)) _ _,H.lv.items.item k e⟩⟩

theorem Turn.stores {B:Nat→Prop} {a:World} {g:Nat} (hg:B g):∀(vs:List Value) (o:Nat) (b:World),Turn B a b→Turn B a (b.setCells g o vs)
 | [],_,_,h=>h
 | v :: vs,o,_,h=>Turn.stores hg vs (o+1) _ (h.store g o v hg)

set_option maxRecDepth 8000 in
set_option maxHeartbeats 6400000 in
theorem entPut_any (k:Nat) (e t h d:Nat→Int) (F J:Nat→Nat→Int) (V jC jE jI dC dE dI:Nat) (x:World) (hk:k<32) (H:Sn.Left x V jC jE jI dC dE dI t h d F J) :
  Calls Tryz.prog 148 #[.agg #[.int .i64 (k:Int),.int .i64 (e 0),.int .i64 (e 1),.int .i64 (e 2),.int .i64 (e 3),.int .i64 (e 4),.int .i64 (e 5),.int .i64 (e 6),.int .i64 (e 7),.int .i64 (e 8),.int .i64 (e 9),.int .i64 (e 10)],.pointer (some ⟨V,0,none⟩)] x fun r y=>r=.returned (.tuple #[])∧Sn.Left y V jC jE jI dC dE dI t h d (En.put F k e) J∧Turn (fun q=>q=jE) x y:=by
 obtain ⟨R,hR⟩:∃R,x.heap.size=R:=⟨_,rfl⟩
 obtain ⟨x1,hx1⟩:∃x1,x.alloc (.cells #[.int .i64 (k:Int),.int .i64 (e 0),.int .i64 (e 1),.int .i64 (e 2),.int .i64 (e 3),.int .i64 (e 4),.int .i64 (e 5),.int .i64 (e 6),.int .i64 (e 7),.int .i64 (e 8),.int .i64 (e 9),.int .i64 (e 10)] 136)=x1:=⟨_,rfl⟩
 have hg1:x.grownBy x1 none:=by rw [←hx1];exact World.grownBy_alloc _ _ _
 have hA:Arr x1 R 136 12 (fun j=>(#[Value.int .i64 (k:Int),.int .i64 (e 0),.int .i64 (e 1),.int .i64 (e 2),.int .i64 (e 3),.int .i64 (e 4),.int .i64 (e 5),.int .i64 (e 6),.int .i64 (e 7),.int .i64 (e 8),.int .i64 (e 9),.int .i64 (e 10)])[j]?.getD undef):=by
  rw [←hx1,←hR]
  exact Arr.lit (heap_alloc_new x _)
 have H1:=H.on hg1
 have hkeep:Hid (∀y,x1.grownBy y none→y.cell? ⟨V,5,none⟩=some (.slice (some ⟨jE,0,none⟩) 32 dE)∧y.cell? ⟨R,0,none⟩=some (.int .i64 (k:Int))∧∀i,i<11→y.cell? ⟨R,1+i,none⟩=some (.int .i64 (e i))):=fun y hy=>by
  have hB:=hA.grown hy (by simp)
  refine ⟨(H1.on hy).v.cell (c:=5) (by omega),hB.cell (i:=0) (by omega),fun i hi=>?_⟩
  have:=hB.cell (i:=1+i) (by omega)
  rw [this]
  rcases (show i=0∨i=1∨i=2∨i=3∨i=4∨i=5∨i=6∨i=7∨i=8∨i=9∨i=10 by omega) with rfl | rfl | rfl | rfl | rfl | rfl | rfl | rfl | rfl | rfl | rfl <;> rfl
 have hk':(k:Int)<32:=by omega
 have hcs:Hid (∀y,x1.grownBy y none→(∀i,i<11→y.cell? ⟨jE,k*11+i,none⟩=some (En.flat F (k*11+i)))∧∀i,y.frozen? ⟨jE,i,none⟩=false):=fun y hy=>⟨fun i hi=>(H1.on hy).lv.ents.cell (c:=k*11+i) (by omega),fun i=>(H1.on hy).lv.ents.free i⟩
 have hfin:Hid (∀y,x1.grownBy y none→Sn.Left (((((((((((y.setCell ⟨jE,k*11,none⟩ (.int .i64 (e 0))).setCell ⟨jE,k*11+1,none⟩ (.int .i64 (e 1))).setCell ⟨jE,k*11+2,none⟩ (.int .i64 (e 2))).setCell ⟨jE,k*11+3,none⟩ (.int .i64 (e 3))).setCell ⟨jE,k*11+4,none⟩ (.int .i64 (e 4))).setCell ⟨jE,k*11+5,none⟩ (.int .i64 (e 5))).setCell ⟨jE,k*11+6,none⟩ (.int .i64 (e 6))).setCell ⟨jE,k*11+7,none⟩ (.int .i64 (e 7))).setCell ⟨jE,k*11+8,none⟩ (.int .i64 (e 8))).setCell ⟨jE,k*11+9,none⟩ (.int .i64 (e 9))).setCell ⟨jE,k*11+10,none⟩ (.int .i64 (e 10))) V jC jE jI dC dE dI t h d (En.put F k e) J∧Turn (fun q=>q=jE) x (((((((((((y.setCell ⟨jE,k*11,none⟩ (.int .i64 (e 0))).setCell ⟨jE,k*11+1,none⟩ (.int .i64 (e 1))).setCell ⟨jE,k*11+2,none⟩ (.int .i64 (e 2))).setCell ⟨jE,k*11+3,none⟩ (.int .i64 (e 3))).setCell ⟨jE,k*11+4,none⟩ (.int .i64 (e 4))).setCell ⟨jE,k*11+5,none⟩ (.int .i64 (e 5))).setCell ⟨jE,k*11+6,none⟩ (.int .i64 (e 6))).setCell ⟨jE,k*11+7,none⟩ (.int .i64 (e 7))).setCell ⟨jE,k*11+8,none⟩ (.int .i64 (e 8))).setCell ⟨jE,k*11+9,none⟩ (.int .i64 (e 9))).setCell ⟨jE,k*11+10,none⟩ (.int .i64 (e 10)))):=fun y hy =>
  ⟨(H1.on hy).entRow k e,(Turn.new (gtr hg1 hy)).trans (Turn.stores (B:=fun q=>q=jE) rfl (En.cells e).toList (k*11) _ (Turn.refl _ _)) (fun _ _ q=>q)⟩
 obtain ⟨a1,a2,a3⟩:=uh hkeep x1 (World.grownBy.refl x1 none)
 clear H hA hg1 H1 hk
 go_enter Tryz.func148,Tryz.ntmps148
 go_upto_region 1 with fail
 clear hx1 hR
 go_cut [11] from 4 to 10 (fun v11 wx=>v11=.bool true∧Hid (x1.grownBy wx none))
 case first =>
  go_quiet (fail)
  try go_wp2_with fail
  go_meet
  exact ⟨rfl,gdw (World.grownBy.refl x1 none) _⟩
 case rest =>
 obtain ⟨rfl,hcw⟩:=hcut
 clear a1 a2 a3
 go_upto_region 2 with fail
 obtain ⟨x2,hx2⟩:∃y,wc.drew=y:=⟨_,rfl⟩
 have hS0:Hid (x1.grownBy x2 none):=by rw [←hx2];exact gdw (uh hcw) 1
 obtain ⟨q1,q2⟩:=uh hcs x2 (uh hS0)
 have c0:=q1 0 (by omega)
 have c1:=q1 1 (by omega)
 have c2:=q1 2 (by omega)
 have c3:=q1 3 (by omega)
 have c4:=q1 4 (by omega)
 have c5:=q1 5 (by omega)
 have c6:=q1 6 (by omega)
 have c7:=q1 7 (by omega)
 have c8:=q1 8 (by omega)
 have c9:=q1 9 (by omega)
 have c10:=q1 10 (by omega)
 rw [Nat.add_zero] at c0
 have hend:=hide (uh hfin x2 (uh hS0))
 refine wp_region_till (h:=9) (S:=fun x=>Hid (x1.grownBy x none)) (by kernel_rfl) ?_
 rw [hx2]
 clear hx2 hcw hcs hfin q1
 refine wtk (i:=0) (v:=?_) [9] rfl (by kernel_rfl) (by kernel_rfl) (by kernel_rfl) (by kernel_rfl) (fun _ _ _ h=>h) hS0 (Or.inl ⟨by rfl,?_⟩) ?_
 rotate_left
 ·intro x hSx
  clear hSx
  go_simp
  try with_reducible rfl
 simp only [Act.put,List.getElem_toArray,List.getElem_cons_zero,List.setIfInBounds_toArray,List.set_cons_succ,List.set_cons_zero]
 refine wtk (i:=1) (v:=?_) [9] rfl (by kernel_rfl) (by kernel_rfl) (by kernel_rfl) (by kernel_rfl) (fun _ _ _ h=>h) hS0 (Or.inl ⟨by rfl,?_⟩) ?_
 rotate_left
 ·intro x hSx
  clear hSx
  go_simp
  try with_reducible rfl
 simp only [Act.put,List.getElem_toArray,List.getElem_cons_zero,List.getElem_cons_succ,List.setIfInBounds_toArray,List.set_cons_succ,List.set_cons_zero]
 refine wtk (i:=2) (v:=?_) [9] rfl (by kernel_rfl) (by kernel_rfl) (by kernel_rfl) (by kernel_rfl) (fun _ _ _ h=>h) hS0 (Or.inl ⟨by rfl,?_⟩) ?_
 rotate_left
 ·intro x hSx
  clear hSx
  go_simp
  try with_reducible rfl
 simp only [Act.put,List.getElem_toArray,List.getElem_cons_zero,List.getElem_cons_succ,List.setIfInBounds_toArray,List.set_cons_succ,List.set_cons_zero]
 refine wtk (i:=3) (v:=?_) [9] rfl (by kernel_rfl) (by kernel_rfl) (by kernel_rfl) (by kernel_rfl) (fun _ _ _ h=>h) hS0 (Or.inl ⟨by rfl,?_⟩) ?_
 rotate_left
 ·intro x hSx
  have e1:=(uh hkeep x (uh hSx)).1
  clear hSx
  go_simp
  try with_reducible rfl
 simp only [Act.put,List.getElem_toArray,List.getElem_cons_zero,List.getElem_cons_succ,List.setIfInBounds_toArray,List.set_cons_succ,List.set_cons_zero]
 refine wtk (i:=4) (v:=?_) [9] rfl (by kernel_rfl) (by kernel_rfl) (by kernel_rfl) (by kernel_rfl) (fun _ _ _ h=>h) hS0 (Or.inl ⟨by rfl,?_⟩) ?_
 rotate_left
 ·intro x hSx
  clear hSx
  go_simp
  try with_reducible rfl
 simp only [Act.put,List.getElem_toArray,List.getElem_cons_zero,List.getElem_cons_succ,List.setIfInBounds_toArray,List.set_cons_succ,List.set_cons_zero]
 refine wtk (i:=5) (v:=?_) [9] rfl (by kernel_rfl) (by kernel_rfl) (by kernel_rfl) (by kernel_rfl) (fun _ _ _ h=>h) hS0 (Or.inl ⟨by rfl,?_⟩) ?_
 rotate_left
 ·intro x hSx
  have e1:=(uh hkeep x (uh hSx)).2.1
  clear hSx
  go_simp
  try with_reducible rfl
 simp only [Act.put,List.getElem_toArray,List.getElem_cons_zero,List.getElem_cons_succ,List.setIfInBounds_toArray,List.set_cons_succ,List.set_cons_zero]
 refine wtk (i:=6) (v:=?_) [9] rfl (by kernel_rfl) (by kernel_rfl) (by kernel_rfl) (by kernel_rfl) (fun _ _ _ h=>h) hS0 (Or.inl ⟨by rfl,?_⟩) ?_
 rotate_left
 ·intro x hSx
  clear hSx
  go_simp
  try with_reducible rfl
 simp only [Act.put,List.getElem_toArray,List.getElem_cons_zero,List.getElem_cons_succ,List.setIfInBounds_toArray,List.set_cons_succ,List.set_cons_zero]
 refine wtk (i:=7) (v:=?_) [9] rfl (by kernel_rfl) (by kernel_rfl) (by kernel_rfl) (by kernel_rfl) (fun _ _ _ h=>h) hS0 (Or.inl ⟨by rfl,?_⟩) ?_
 rotate_left
 ·intro x hSx
  have e0:=(uh hkeep x (uh hSx)).2.2
  have e1_0:=e0 0 (by omega)
  have e1_1:=e0 1 (by omega)
  have e1_2:=e0 2 (by omega)
  have e1_3:=e0 3 (by omega)
  have e1_4:=e0 4 (by omega)
  have e1_5:=e0 5 (by omega)
  have e1_6:=e0 6 (by omega)
  have e1_7:=e0 7 (by omega)
  have e1_8:=e0 8 (by omega)
  have e1_9:=e0 9 (by omega)
  have e1_10:=e0 10 (by omega)
  clear hSx
  go_simp
  try with_reducible rfl
 simp only [Act.put,List.getElem_toArray,List.getElem_cons_zero,List.getElem_cons_succ,List.setIfInBounds_toArray,List.set_cons_succ,List.set_cons_zero]
 refine wtk (i:=8) (v:=?_) [9] rfl (by kernel_rfl) (by kernel_rfl) (by kernel_rfl) (by kernel_rfl) (fun _ _ _ h=>h) hS0 (Or.inl ⟨by rfl,?_⟩) ?_
 rotate_left
 ·intro x hSx
  clear hSx
  go_simp
  try with_reducible rfl
 simp only [Act.put,List.getElem_toArray,List.getElem_cons_zero,List.getElem_cons_succ,List.setIfInBounds_toArray,List.set_cons_succ,List.set_cons_zero]
 refine wto (j:=9) (by kernel_rfl) rfl (fun K hK=>?_)
 go_simp
 refine hK.out _ _ (fun hx=>absurd (hx.symm.trans (by kernel_rfl)) Bool.false_ne_true) ?_
 clear hK K
 refine wpTill_done (by kernel_rfl) ?_ _
 clear hkeep hS0 q2 c0 c1 c2 c3 c4 c5 c6 c7 c8 c9 c10
 go_end0
 exact ⟨rfl,uh hend⟩

set_option maxRecDepth 8000 in
set_option maxHeartbeats 6400000 in
theorem itemPut_any (k:Nat) (e t h d:Nat→Int) (F J:Nat→Nat→Int) (V jC jE jI dC dE dI:Nat) (x:World) (hk:k<40) (H:Sn.Left x V jC jE jI dC dE dI t h d F J) :
  Calls Tryz.prog 149 #[.agg #[.int .i64 (k:Int),.int .i64 (e 0),.int .i64 (e 1),.int .i64 (e 2),.int .i64 (e 3)],.pointer (some ⟨V,0,none⟩)] x fun r y=>r=.returned (.tuple #[])∧Sn.Left y V jC jE jI dC dE dI t h d F (En.put J k e)∧Turn (fun q=>q=jI) x y:=by
 obtain ⟨R,hR⟩:∃R,x.heap.size=R:=⟨_,rfl⟩
 obtain ⟨x1,hx1⟩:∃x1,x.alloc (.cells #[.int .i64 (k:Int),.int .i64 (e 0),.int .i64 (e 1),.int .i64 (e 2),.int .i64 (e 3)] 138)=x1:=⟨_,rfl⟩
 have hg1:x.grownBy x1 none:=by rw [←hx1];exact World.grownBy_alloc _ _ _
 have hA:Arr x1 R 138 5 (fun j=>(#[Value.int .i64 (k:Int),.int .i64 (e 0),.int .i64 (e 1),.int .i64 (e 2),.int .i64 (e 3)])[j]?.getD undef):=by
  rw [←hx1,←hR]
  exact Arr.lit (heap_alloc_new x _)
 have H1:=H.on hg1
 have hkeep:Hid (∀y,x1.grownBy y none→y.cell? ⟨V,6,none⟩=some (.slice (some ⟨jI,0,none⟩) 40 dI)∧y.cell? ⟨R,0,none⟩=some (.int .i64 (k:Int))∧∀i,i<4→y.cell? ⟨R,1+i,none⟩=some (.int .i64 (e i))):=fun y hy=>by
  have hB:=hA.grown hy (by simp)
  refine ⟨(H1.on hy).v.cell (c:=6) (by omega),hB.cell (i:=0) (by omega),fun i hi=>?_⟩
  have:=hB.cell (i:=1+i) (by omega)
  rw [this]
  rcases (show i=0∨i=1∨i=2∨i=3 by omega) with rfl | rfl | rfl | rfl <;> rfl
 have hk':(k:Int)<40:=by omega
 have hcs:Hid (∀y,x1.grownBy y none→(∀i,i<4→y.cell? ⟨jI,k*4+i,none⟩=some (Gd.flat J (k*4+i)))∧∀i,y.frozen? ⟨jI,i,none⟩=false):=fun y hy=>⟨fun i hi=>(H1.on hy).lv.items.cell (c:=k*4+i) (by omega),fun i=>(H1.on hy).lv.items.free i⟩
 have hfin:Hid (∀y,x1.grownBy y none→Sn.Left ((((y.setCell ⟨jI,k*4,none⟩ (.int .i64 (e 0))).setCell ⟨jI,k*4+1,none⟩ (.int .i64 (e 1))).setCell ⟨jI,k*4+2,none⟩ (.int .i64 (e 2))).setCell ⟨jI,k*4+3,none⟩ (.int .i64 (e 3))) V jC jE jI dC dE dI t h d F (En.put J k e)∧Turn (fun q=>q=jI) x ((((y.setCell ⟨jI,k*4,none⟩ (.int .i64 (e 0))).setCell ⟨jI,k*4+1,none⟩ (.int .i64 (e 1))).setCell ⟨jI,k*4+2,none⟩ (.int .i64 (e 2))).setCell ⟨jI,k*4+3,none⟩ (.int .i64 (e 3)))):=fun y hy =>
  ⟨(H1.on hy).itemRow k e,(Turn.new (gtr hg1 hy)).trans (Turn.stores (B:=fun q=>q=jI) rfl (Gd.cells e).toList (k*4) _ (Turn.refl _ _)) (fun _ _ q=>q)⟩
 obtain ⟨a1,a2,a3⟩:=uh hkeep x1 (World.grownBy.refl x1 none)
 clear H hA hg1 H1 hk
 go_enter Tryz.func149,Tryz.ntmps149
 go_upto_region 1 with fail
 clear hx1 hR
 go_cut [11] from 4 to 10 (fun v11 wx=>v11=.bool true∧Hid (x1.grownBy wx none))
 case first =>
  go_quiet (fail)
  try go_wp2_with fail
  go_meet
  exact ⟨rfl,gdw (World.grownBy.refl x1 none) _⟩
 case rest =>
 obtain ⟨rfl,hcw⟩:=hcut
 clear a1 a2 a3
 go_upto_region 2 with fail
 obtain ⟨x2,hx2⟩:∃y,wc.drew=y:=⟨_,rfl⟩
 have hS0:Hid (x1.grownBy x2 none):=by rw [←hx2];exact gdw (uh hcw) 1
 obtain ⟨q1,q2⟩:=uh hcs x2 (uh hS0)
 have c0:=q1 0 (by omega)
 have c1:=q1 1 (by omega)
 have c2:=q1 2 (by omega)
 have c3:=q1 3 (by omega)
 rw [Nat.add_zero] at c0
 have hend:=hide (uh hfin x2 (uh hS0))
 refine wp_region_till (h:=9) (S:=fun x=>Hid (x1.grownBy x none)) (by kernel_rfl) ?_
 rw [hx2]
 clear hx2 hcw hcs hfin q1
 refine wtk (i:=0) (v:=?_) [9] rfl (by kernel_rfl) (by kernel_rfl) (by kernel_rfl) (by kernel_rfl) (fun _ _ _ h=>h) hS0 (Or.inl ⟨by rfl,?_⟩) ?_
 rotate_left
 ·intro x hSx
  clear hSx
  go_simp
  try with_reducible rfl
 simp only [Act.put,List.getElem_toArray,List.getElem_cons_zero,List.setIfInBounds_toArray,List.set_cons_succ,List.set_cons_zero]
 refine wtk (i:=1) (v:=?_) [9] rfl (by kernel_rfl) (by kernel_rfl) (by kernel_rfl) (by kernel_rfl) (fun _ _ _ h=>h) hS0 (Or.inl ⟨by rfl,?_⟩) ?_
 rotate_left
 ·intro x hSx
  clear hSx
  go_simp
  try with_reducible rfl
 simp only [Act.put,List.getElem_toArray,List.getElem_cons_zero,List.getElem_cons_succ,List.setIfInBounds_toArray,List.set_cons_succ,List.set_cons_zero]
 refine wtk (i:=2) (v:=?_) [9] rfl (by kernel_rfl) (by kernel_rfl) (by kernel_rfl) (by kernel_rfl) (fun _ _ _ h=>h) hS0 (Or.inl ⟨by rfl,?_⟩) ?_
 rotate_left
 ·intro x hSx
  clear hSx
  go_simp
  try with_reducible rfl
 simp only [Act.put,List.getElem_toArray,List.getElem_cons_zero,List.getElem_cons_succ,List.setIfInBounds_toArray,List.set_cons_succ,List.set_cons_zero]
 refine wtk (i:=3) (v:=?_) [9] rfl (by kernel_rfl) (by kernel_rfl) (by kernel_rfl) (by kernel_rfl) (fun _ _ _ h=>h) hS0 (Or.inl ⟨by rfl,?_⟩) ?_
 rotate_left
 ·intro x hSx
  have e1:=(uh hkeep x (uh hSx)).1
  clear hSx
  go_simp
  try with_reducible rfl
 simp only [Act.put,List.getElem_toArray,List.getElem_cons_zero,List.getElem_cons_succ,List.setIfInBounds_toArray,List.set_cons_succ,List.set_cons_zero]
 refine wtk (i:=4) (v:=?_) [9] rfl (by kernel_rfl) (by kernel_rfl) (by kernel_rfl) (by kernel_rfl) (fun _ _ _ h=>h) hS0 (Or.inl ⟨by rfl,?_⟩) ?_
 rotate_left
 ·intro x hSx
  clear hSx
  go_simp
  try with_reducible rfl
 simp only [Act.put,List.getElem_toArray,List.getElem_cons_zero,List.getElem_cons_succ,List.setIfInBounds_toArray,List.set_cons_succ,List.set_cons_zero]
 refine wtk (i:=5) (v:=?_) [9] rfl (by kernel_rfl) (by kernel_rfl) (by kernel_rfl) (by kernel_rfl) (fun _ _ _ h=>h) hS0 (Or.inl ⟨by rfl,?_⟩) ?_
 rotate_left
 ·intro x hSx
  have e1:=(uh hkeep x (uh hSx)).2.1
  clear hSx
  go_simp
  try with_reducible rfl
 simp only [Act.put,List.getElem_toArray,List.getElem_cons_zero,List.getElem_cons_succ,List.setIfInBounds_toArray,List.set_cons_succ,List.set_cons_zero]
 refine wtk (i:=6) (v:=?_) [9] rfl (by kernel_rfl) (by kernel_rfl) (by kernel_rfl) (by kernel_rfl) (fun _ _ _ h=>h) hS0 (Or.inl ⟨by rfl,?_⟩) ?_
 rotate_left
 ·intro x hSx
  clear hSx
  go_simp
  try with_reducible rfl
 simp only [Act.put,List.getElem_toArray,List.getElem_cons_zero,List.getElem_cons_succ,List.setIfInBounds_toArray,List.set_cons_succ,List.set_cons_zero]
 refine wtk (i:=7) (v:=?_) [9] rfl (by kernel_rfl) (by kernel_rfl) (by kernel_rfl) (by kernel_rfl) (fun _ _ _ h=>h) hS0 (Or.inl ⟨by rfl,?_⟩) ?_
 rotate_left
 ·intro x hSx
  have e0:=(uh hkeep x (uh hSx)).2.2
  have e1_0:=e0 0 (by omega)
  have e1_1:=e0 1 (by omega)
  have e1_2:=e0 2 (by omega)
  have e1_3:=e0 3 (by omega)
  clear hSx
  go_simp
  try with_reducible rfl
 simp only [Act.put,List.getElem_toArray,List.getElem_cons_zero,List.getElem_cons_succ,List.setIfInBounds_toArray,List.set_cons_succ,List.set_cons_zero]
 refine wtk (i:=8) (v:=?_) [9] rfl (by kernel_rfl) (by kernel_rfl) (by kernel_rfl) (by kernel_rfl) (fun _ _ _ h=>h) hS0 (Or.inl ⟨by rfl,?_⟩) ?_
 rotate_left
 ·intro x hSx
  clear hSx
  go_simp
  try with_reducible rfl
 simp only [Act.put,List.getElem_toArray,List.getElem_cons_zero,List.getElem_cons_succ,List.setIfInBounds_toArray,List.set_cons_succ,List.set_cons_zero]
 refine wto (j:=9) (by kernel_rfl) rfl (fun K hK=>?_)
 go_simp
 refine hK.out _ _ (fun hx=>absurd (hx.symm.trans (by kernel_rfl)) Bool.false_ne_true) ?_
 clear hK K
 refine wpTill_done (by kernel_rfl) ?_ _
 clear hkeep hS0 q2 c0 c1 c2 c3
 go_end0
 exact ⟨rfl,uh hend⟩

theorem run_copy_over {P:Program} {w:World} (dT sT ty elem:TypeId) (hu:P.underlying dT=some (.slice elem)) (z:Nat) (hsz:(P.info? elem).map (·.size)=some z)
  (g n dCap:Nat) (ad:Addr) (sCap:Nat) (cur:Array Value) (t:TypeId) (hg:w.heap[g]?=some (.cells cur t (0,0))) (cs:List Value) (hn:cs.length=n*z)
  (hsrc:∀j v,cs[j]?=some v→w.cell? (ad.add j)=some v) (hfit:cs.length≤cur.size) (h1:∀v∈cs,v.oneCell'=true) :
  ∃w',(Builtin.copy_ #[dT,sT] ty #[.slice (some ⟨g,0,none⟩) n dCap,.slice (some ad) n sCap]).run P w=.ok (goInt n) w'∧w'.heap[g]?=some (.cells (cs ++ cur.toList.drop cs.length).toArray t (0,0))∧w.grownBy w' (some g):=by
 have hrun:=run_copy_many (P:=P) w dT sT ty elem z g 0 n dCap ad n sCap cur t cs hu hsz hg (by rw [hn];simp) hsrc (by omega) h1
 have hmin:Nat.min n n=n:=by simp
 rw [hmin] at hrun
 refine ⟨_,hrun,?_,⟨rfl,rfl,rfl,by simp [World.setRow],fun k _ hr=>setRow_other w g k _ (fun e=>hr (by rw [e]))⟩⟩
 have:=setRow_heap w g cur (cs ++ cur.toList.drop cs.length).toArray t _ hg
 simpa using this

set_option maxRecDepth 8000 in
set_option maxHeartbeats 3200000 in
theorem cellsPut_any (G:Nat) (c t h d:Nat→Int) (F J:Nat→Nat→Int) (V jC jE jI dC dE dI:Nat) (x:World) (hG:Lie x G 5 384 (Byts c)) (H:Sn.Left x V jC jE jI dC dE dI t h d F J) :
  Calls Tryz.prog 147 #[.slice (some ⟨G,0,none⟩) 384 384,.pointer (some ⟨V,0,none⟩)] x fun r y=>r=.returned (.tuple #[])∧Sn.Left y V jC jE jI dC dE dI t h c F J∧Turn (fun q=>q=jC) x y:=by
 obtain ⟨M,K,⟨cur,hcur,hsz,hK⟩,hM,hKF⟩:=H.lv.cells
 have hb:(Tryz.prog.info? 5).map (·.size)=some 1:=by kernel_rfl
 obtain ⟨y,hrun,hy,hgr⟩:=run_copy_over (P:=Tryz.prog) (w:=x) 26 134 3 5 Tryz.underlying26 1 hb jC 384 dC ⟨G,0,none⟩ 384 cur _ hcur (Gd.list 384 (Byts c)) (by rw [Gd.list_len]) (fun j v hj=>by
  have:=Sn.list_src (w:=x) (b:=G) (o:=0) (m:=384) (F:=Byts c) (fun q hq=>by rw [Nat.zero_add];exact hG.cell hq) j v hj
  exact this) (by rw [Gd.list_len];omega) (Gd.list_one fun _=>rfl)
 have hfin:Hid (Sn.Left y V jC jE jI dC dE dI t h c F J∧Turn (fun q=>q=jC) x y):=by
  refine ⟨⟨H.v.grown hgr (by simp;exact H.lv.cells.type7 H.v (by decide)),⟨⟨M,fun j=>if j<384 then Byts c j else K j,⟨_,hy,?_,?_⟩,hM,fun j hj=>if_pos hj⟩,H.lv.ents.grown hgr (by simp;exact H.lv.cells.type7 H.lv.ents (by decide)),H.lv.items.grown hgr (by simp;exact H.lv.cells.type7 H.lv.items (by decide))⟩⟩,Turn.grown hgr (fun k e=>by cases e;rfl)⟩
  ·have:=Gd.list_len 384 (Byts c)
   have h2:cur.toList.length=M:=by rw [Array.length_toList];exact hsz
   rw [List.size_toArray,List.length_append,List.length_drop]
   omega
  ·intro i hi
   have hl:=Gd.list_len 384 (Byts c)
   rw [List.getElem?_toArray]
   show _=some (if i<384 then Byts c i else K i)
   by_cases q:i<384
   ·rw [List.getElem?_append_left (by omega),Gd.list_at q,if_pos q]
   ·rw [List.getElem?_append_right (by omega),List.getElem?_drop,if_neg q,hl,show 384+(i - 384)=i by omega,Array.getElem?_toList]
    exact hK i hi
 have v4:x.cell? ⟨V,4,none⟩=some (.slice (some ⟨jC,0,none⟩) 384 dC):=H.v.cell (c:=4) (by omega)
 clear H hG hcur hsz hK hKF hy hgr hM
 go_enter Tryz.func147,Tryz.ntmps147
 go_wp2
 go_end0
 exact ⟨rfl,uh hfin⟩


open Go.RowKit

def Sn.Tells (v:Value) (p:Int × Int):Prop :=
 (∃s g,v=Sn.hdV s g∧p=(0,0))∨(∃G,v=Sn.clV G∧p=(1,0))∨(∃n e,v=Sn.enV n e∧p=(2,(n:Int)))∨∃n e,v=Sn.itV n e∧p=(3,(n:Int))

def Sn.rwH (b:Bool):List (Int × Int):=if b=true then [] else [(0,0)]
def Sn.rwC (b:Bool):List (Int × Int):=if b=true then [] else [(1,0)]
def Sn.rwE (q:Nat→Bool):Nat→List (Int × Int)
 | 0=>[]
 | k+1=>Sn.rwE q k ++ if q k=true then [] else [(2,(k:Int))]
def Sn.rwI (q:Nat→Bool):Nat→List (Int × Int)
 | 0=>[]
 | k+1=>Sn.rwI q k ++ if q k=true then [] else [(3,(k:Int))]

def Sn.rw (s t g h c d:Nat→Int) (E F I J:Nat→Nat→Int):List (Int × Int) :=
 Sn.rwH (Sn.sameH s t g h) ++ Sn.rwC (Sn.allB (fun i=>c i == d i) 384) ++ Sn.rwE (fun i=>Sn.sameE (E i) (F i)) 32 ++ Sn.rwI (fun i=>Sn.sameI (I i) (J i)) 40

def Sn.Both (l:List Value) (P:List (Int × Int)):Prop:=l.length=P.length∧∀(k:Nat) (v:Value),l[k]?=some v→∃p,P[k]?=some p∧Sn.Tells v p

theorem Sn.Both.append {l m:List Value} {P Q:List (Int × Int)} (h:Sn.Both l P) (k:Sn.Both m Q):Sn.Both (l ++ m) (P ++ Q):=by
 refine ⟨by rw [List.length_append,List.length_append,h.1,k.1],fun i v hv=>?_⟩
 by_cases hi:i<l.length
 ·rw [List.getElem?_append_left hi] at hv
  rw [List.getElem?_append_left (by rw [←h.1];exact hi)]
  exact h.2 i v hv
 ·rw [List.getElem?_append_right (by omega)] at hv
  rw [List.getElem?_append_right (by rw [←h.1];omega),←h.1]
  exact k.2 _ v hv

theorem Sn.both_nil:Sn.Both [] []:=⟨rfl,fun k v hv=>by simp at hv⟩

theorem Sn.both_one {v:Value} {p:Int × Int} (h:Sn.Tells v p):Sn.Both [v] [p]:=by
 refine ⟨rfl,fun k u hu=>?_⟩
 have hk:k=0:=by
  have:=(List.getElem?_eq_some_iff.1 hu).1
  simpa using this
 subst hk
 simp at hu
 subst hu
 exact ⟨p,rfl,h⟩

theorem Sn.both_all (s t g h c d:Nat→Int) (E F I J:Nat→Nat→Int) (G:Nat):Sn.Both (Sn.chH s t g h ++ Sn.chC (Sn.allB (fun i=>c i == d i) 384) G ++ Sn.chE E F 32 ++ Sn.chI I J 40) (Sn.rw s t g h c d E F I J):=by
 have hE:∀k,Sn.Both (Sn.chE E F k) (Sn.rwE (fun i=>Sn.sameE (E i) (F i)) k):=by
  intro k
  induction k with
  | zero=>exact Sn.both_nil
  | succ k ih =>
   refine ih.append ?_
   by_cases q:Sn.sameE (E k) (F k)=true
   ·rw [if_pos q,if_pos q]
    exact Sn.both_nil
   ·rw [if_neg q,if_neg q]
    exact Sn.both_one (.inr (.inr (.inl ⟨k,E k,rfl,rfl⟩)))
 have hI:∀k,Sn.Both (Sn.chI I J k) (Sn.rwI (fun i=>Sn.sameI (I i) (J i)) k):=by
  intro k
  induction k with
  | zero=>exact Sn.both_nil
  | succ k ih =>
   refine ih.append ?_
   by_cases q:Sn.sameI (I k) (J k)=true
   ·rw [if_pos q,if_pos q]
    exact Sn.both_nil
   ·rw [if_neg q,if_neg q]
    exact Sn.both_one (.inr (.inr (.inr ⟨k,I k,rfl,rfl⟩)))
 refine ((Sn.Both.append ?_ ?_).append (hE 32)).append (hI 40)
 ·unfold Sn.chH Sn.rwH
  split
  ·exact Sn.both_nil
  ·exact Sn.both_one (.inl ⟨s,g,rfl,rfl⟩)
 ·unfold Sn.chC Sn.rwC
  split
  ·exact Sn.both_nil
  ·exact Sn.both_one (.inr (.inl ⟨G,rfl,rfl⟩))

theorem info_row:(Tryz.prog.info? 97).map (fun i=>(i.zero,i.size,i.bytes))=some (some (.agg #[.int .i64 0,.int .i64 0]),2,16):=by kernel_rfl

end Go.Proofs.YtkcooekhigmioaaGreat
