import Derived.Test.YtbanjoflgoiegaaGreatPs14
import Derived.Deep.RegionWith
import Derived.Deep.Cut
namespace Go.Proofs.YtbanjoflgoiegaaGreat
open Go.RowKit

def Gd.WorldsW (w:World) (s g c:Nat→Int) (E I:Nat→Nat→Int) (e:Ending) (w':World):Prop :=
 ∃gC gE gI cC cE cI,e=.returned (.agg (Gd.world s gC gE gI cC cE cI g))∧(32≤cE∧384≤cC)∧w.heap.size≤gC∧w.heap.size≤gE∧w.heap.size≤gI∧gC≠gE∧gC≠gI∧gE≠gI∧Gd.Lists w' gC gE gI c E I∧w.grownBy w' none

theorem Gd.Lists.read {x:World} {gC gE gI:Nat} {c:Nat→Int} {E I:Nat→Nat→Int} (h:Gd.Lists x gC gE gI c E I):(∀j,j<384→x.cell? ⟨gC,j,none⟩=some (Byts c j))∧(∀j,j<352→x.cell? ⟨gE,j,none⟩=some (En.flat E j))∧(∀j,j<160→x.cell? ⟨gI,j,none⟩=some (Gd.flat I j)) :=
 ⟨fun _ hj=>h.cells.cell hj,fun _ hj=>h.ents.cell hj,fun _ hj=>h.items.cell hj⟩

theorem Arr.lists {x:World} {B:Nat} {T:TypeId} {s g:Nat→Int} {gC gE gI cC cE cI g1 g2 g3 c1 c2 c3:Nat} (h:Arr x B T 11 (Gd.box s gC gE gI cC cE cI g)):Arr (((x.setCell ⟨B,4,none⟩ (.slice (some ⟨g1,0,none⟩) 384 c1)).setCell ⟨B,5,none⟩ (.slice (some ⟨g2,0,none⟩) 32 c2)).setCell ⟨B,6,none⟩ (.slice (some ⟨g3,0,none⟩) 40 c3)) B T 11 (Gd.box s g1 g2 g3 c1 c2 c3 g):=by
 refine (((h.store 4 (.slice (some ⟨g1,0,none⟩) 384 c1)).store 5 (.slice (some ⟨g2,0,none⟩) 32 c2)).store 6 (.slice (some ⟨g3,0,none⟩) 40 c3)).congr fun j hj=>?_
 rcases (show j=0∨j=1∨j=2∨j=3∨j=4∨j=5∨j=6∨j=7∨j=8∨j=9∨j=10 by omega) with rfl | rfl | rfl | rfl | rfl | rfl | rfl | rfl | rfl | rfl | rfl <;> rfl

theorem set3_root (x:World) (B:Nat) (v1 v2 v3:Value):x.grownBy (((x.setCell ⟨B,4,none⟩ v1).setCell ⟨B,5,none⟩ v2).setCell ⟨B,6,none⟩ v3) (some B):=gst (gst (gst (World.grownBy.refl _ _) _ _) _ _) _ _

theorem set3_grown {w x:World} (h:w.grownBy x none) {B:Nat} (hB:w.heap.size≤B) (v1 v2 v3:Value):w.grownBy (((x.setCell ⟨B,4,none⟩ v1).setCell ⟨B,5,none⟩ v2).setCell ⟨B,6,none⟩ v3) none :=
 gsr (gsr (gsr h ⟨B,4,none⟩ hB v1) ⟨B,5,none⟩ hB v2) ⟨B,6,none⟩ hB v3

theorem Lie.eleven {x:World} {B:Nat} {T:TypeId} {s g:Nat→Int} {gC gE gI cC cE cI:Nat} (h:Lie x B T 11 (Gd.box s gC gE gI cC cE cI g)) :
  x.cell? ⟨B,0,none⟩=some (.int .i64 (s 0))∧x.cell? ⟨B,1,none⟩=some (.int .i64 (s 1))∧x.cell? ⟨B,2,none⟩=some (.int .i64 (s 2))∧x.cell? ⟨B,3,none⟩=some (.int .i64 (s 3))∧x.cell? ⟨B,4,none⟩=some (.slice (some ⟨gC,0,none⟩) 384 cC)∧x.cell? ⟨B,5,none⟩=some (.slice (some ⟨gE,0,none⟩) 32 cE)∧x.cell? ⟨B,6,none⟩=some (.slice (some ⟨gI,0,none⟩) 40 cI)∧x.cell? ⟨B,7,none⟩=some (.int .i64 (g 0))∧x.cell? ⟨B,8,none⟩=some (.int .i64 (g 1))∧x.cell? ⟨B,9,none⟩=some (.int .i64 (g 2))∧x.cell? ⟨B,10,none⟩=some (.int .i64 (g 3)) :=
 ⟨h.cell (by omega),h.cell (by omega),h.cell (by omega),h.cell (by omega),h.cell (by omega),h.cell (by omega),h.cell (by omega),h.cell (by omega),h.cell (by omega),h.cell (by omega),h.cell (by omega)⟩

theorem Gd.apart_hold {w w0 y0 w1 w2 w3:World} {B g1 g2 g3 gC gE gI cC cE cI:Nat} {s g c:Nat→Int} {E I:Nat→Nat→Int} {Z:Nat→Value} (hbox:Arr w0 B 30 11 (Gd.box s gC gE gI cC cE cI g)) (hres:Arr w0 (B+1) 30 11 Z) (hg0:w.grownBy w0 none) (hB:w.heap.size=B) (hd:w0.grownBy y0 none)
  (l1:y0.heap.size≤g1) (a1:Lie w1 g1 5 384 (Byts c)) (n1:y0.grownBy w1 none) (l2:w1.heap.size≤g2) (a2:Lie w2 g2 54 352 (En.flat E)) (n2:w1.grownBy w2 none) (l3:w2.heap.size≤g3) (a3:Lie w3 g3 62 160 (Gd.flat I)) (n3:w2.grownBy w3 none) :
  Gd.Hold (((w3.setCell ⟨B,4,none⟩ (.slice (some ⟨g1,0,none⟩) 384 384)).setCell ⟨B,5,none⟩ (.slice (some ⟨g2,0,none⟩) 32 32)).setCell ⟨B,6,none⟩ (.slice (some ⟨g3,0,none⟩) 40 40)) B g1 g2 g3 384 32 40 s g c E I∧B+2≤g1∧B+2≤g2∧B+2≤g3∧Arr (((w3.setCell ⟨B,4,none⟩ (.slice (some ⟨g1,0,none⟩) 384 384)).setCell ⟨B,5,none⟩ (.slice (some ⟨g2,0,none⟩) 32 32)).setCell ⟨B,6,none⟩ (.slice (some ⟨g3,0,none⟩) 40 40)) (B+1) 30 11 Z∧w.grownBy (((w3.setCell ⟨B,4,none⟩ (.slice (some ⟨g1,0,none⟩) 384 384)).setCell ⟨B,5,none⟩ (.slice (some ⟨g2,0,none⟩) 32 32)).setCell ⟨B,6,none⟩ (.slice (some ⟨g3,0,none⟩) 40 40)) none:=by
 have n03:=gtr hd (gtr n1 (gtr n2 n3))
 have i0:=hg0.size
 have i1:=hd.size
 have i2:=hres.lt
 have i3:=n1.size
 have i4:=n2.size
 have j1:=a1.lt
 have j2:=a2.lt
 have j3:=a3.lt
 have r:=set3_root w3 B (.slice (some ⟨g1,0,none⟩) 384 384) (.slice (some ⟨g2,0,none⟩) 32 32) (.slice (some ⟨g3,0,none⟩) 40 40)
 refine ⟨⟨(Arr.lists (hbox.grown n03 (by simp))).lie,⟨((a1.on n2).on n3).grown r (by simp;omega),(a2.on n3).grown r (by simp;omega),a3.grown r (by simp;omega)⟩,by omega,by omega,by omega,by omega,by omega,by omega⟩,by omega,by omega,by omega,(hres.grown n03 (by simp)).grown r (by simp),set3_grown (gtr hg0 n03) (by omega) _ _ _⟩

set_option maxHeartbeats 3200000 in
theorem apart_wide (s g c:Nat→Int) (E I:Nat→Nat→Int) (gC gE gI cC cE cI:Nat) (w:World) (hL:Gd.Lists w gC gE gI c E I) :
  Calls Tryz.prog 168 #[.agg (Gd.world s gC gE gI cC cE cI g)] w (Gd.WorldsW w s g c E I):=by
 have hL':=hide hL
 have hbox:=(Arr.world (heap_alloc_new w (.cells (Gd.world s gC gE gI cC cE cI g) 30))).alloc (.cells #[.int .i64 0,.int .i64 0,.int .i64 0,.int .i64 0,.slice none 0 0,.slice none 0 0,.slice none 0 0,.int .i64 0,.int .i64 0,.int .i64 0,.int .i64 0] 30)
 unfold Gd.world at hbox ⊢
 have hres:=Arr.lit (heap_alloc_new (w.alloc (.cells #[.int .i64 (s 0),.int .i64 (s 1),.int .i64 (s 2),.int .i64 (s 3),.slice (some ⟨gC,0,none⟩) 384 cC,.slice (some ⟨gE,0,none⟩) 32 cE,.slice (some ⟨gI,0,none⟩) 40 cI,.int .i64 (g 0),.int .i64 (g 1),.int .i64 (g 2),.int .i64 (g 3)] 30)) (.cells #[.int .i64 0,.int .i64 0,.int .i64 0,.int .i64 0,.slice none 0 0,.slice none 0 0,.slice none 0 0,.int .i64 0,.int .i64 0,.int .i64 0,.int .i64 0] 30))
 have hg0:w.grownBy ((w.alloc (.cells #[.int .i64 (s 0),.int .i64 (s 1),.int .i64 (s 2),.int .i64 (s 3),.slice (some ⟨gC,0,none⟩) 384 cC,.slice (some ⟨gE,0,none⟩) 32 cE,.slice (some ⟨gI,0,none⟩) 40 cI,.int .i64 (g 0),.int .i64 (g 1),.int .i64 (g 2),.int .i64 (g 3)] 30)).alloc (.cells #[.int .i64 0,.int .i64 0,.int .i64 0,.int .i64 0,.slice none 0 0,.slice none 0 0,.slice none 0 0,.int .i64 0,.int .i64 0,.int .i64 0,.int .i64 0] 30)) none:=gal (World.grownBy_alloc _ _ _) _
 rw [show (w.alloc (.cells #[.int .i64 (s 0),.int .i64 (s 1),.int .i64 (s 2),.int .i64 (s 3),.slice (some ⟨gC,0,none⟩) 384 cC,.slice (some ⟨gE,0,none⟩) 32 cE,.slice (some ⟨gI,0,none⟩) 40 cI,.int .i64 (g 0),.int .i64 (g 1),.int .i64 (g 2),.int .i64 (g 3)] 30)).heap.size=w.heap.size+1 by simp] at hres
 clear hL
 go_enter Tryz.func168,Tryz.ntmps168
 go_upto_region 1 with fail
 obtain ⟨w0,hw0⟩:∃w0,(w.alloc (.cells #[.int .i64 (s 0),.int .i64 (s 1),.int .i64 (s 2),.int .i64 (s 3),.slice (some ⟨gC,0,none⟩) 384 cC,.slice (some ⟨gE,0,none⟩) 32 cE,.slice (some ⟨gI,0,none⟩) 40 cI,.int .i64 (g 0),.int .i64 (g 1),.int .i64 (g 2),.int .i64 (g 3)] 30)).alloc (.cells #[.int .i64 0,.int .i64 0,.int .i64 0,.int .i64 0,.slice none 0 0,.slice none 0 0,.slice none 0 0,.int .i64 0,.int .i64 0,.int .i64 0,.int .i64 0] 30)=w0:=⟨_,rfl⟩
 rw [hw0] at hbox hres hg0 ⊢
 obtain ⟨B,hB⟩:∃B,w.heap.size=B:=⟨_,rfl⟩
 rw [hB] at hbox hres ⊢
 have hbox':=hide hbox
 have hres':=hide hres
 have hg0':=hide hg0
 have hB':=hide hB
 have keep:Hid (∀y,Hid (w0.grownBy y none)→(y.cell? ⟨B,4,none⟩=some (.slice (some ⟨gC,0,none⟩) 384 cC)∧y.cell? ⟨B,5,none⟩=some (.slice (some ⟨gE,0,none⟩) 32 cE)∧y.cell? ⟨B,6,none⟩=some (.slice (some ⟨gI,0,none⟩) 40 cI))∧y.frozen? ⟨B,4,none⟩=false∧y.frozen? ⟨B,5,none⟩=false∧y.frozen? ⟨B,6,none⟩=false):=fun y hy=>by
  have h:=(uh hbox').grown (uh hy) (by simp)
  exact ⟨⟨h.cell (i:=4) (by omega),h.cell (i:=5) (by omega),h.cell (i:=6) (by omega)⟩,h.free 4,h.free 5,h.free 6⟩
 have hd:Hid (w0.grownBy w0.drew none):=gd1 (World.grownBy.refl _ _)
 have rd:Hid (∀y,Hid (w0.grownBy y none)→Gd.Lists y gC gE gI c E I):=fun y hy=>(uh hL').on (gtr (uh hg0') (uh hy))
 have c1:Hid (∀y,Hid (w0.grownBy y none)→Calls Tryz.prog 178 #[.slice (some ⟨gC,0,none⟩) 384 cC] y fun e w'=>∃g1,e=.returned (.slice (some ⟨g1,0,none⟩) 384 384)∧Hid (y.heap.size≤g1)∧Hid (Lie w' g1 5 384 (Byts c))∧Hid (y.grownBy w' none)∧Hid (w0.grownBy w' none)):=fun y hy =>
  (twinBytes_any gC 384 384 cC (Byts c) y (by omega) (by omega) (fun _=>rfl) (uh rd y hy).read.1 (uh rd y hy).cells.lt).mono fun e w' ⟨g1,h1,h2,h3,h4⟩=>⟨g1,h1,h2,h3.lie,h4,gtr (uh hy) h4⟩
 have c2:Hid (∀y,Hid (w0.grownBy y none)→Calls Tryz.prog 179 #[.slice (some ⟨gE,0,none⟩) 32 cE] y fun e w'=>∃g1,e=.returned (.slice (some ⟨g1,0,none⟩) 32 32)∧Hid (y.heap.size≤g1)∧Hid (Lie w' g1 54 352 (En.flat E))∧Hid (y.grownBy w' none)∧Hid (w0.grownBy w' none)):=fun y hy =>
  (twinEnts_any gE 32 352 cE (En.flat E) y (by omega) (by omega) (fun _=>rfl) (uh rd y hy).read.2.1 (uh rd y hy).ents.lt).mono fun e w' ⟨g1,h1,h2,h3,h4⟩=>⟨g1,h1,h2,h3.lie,h4,gtr (uh hy) h4⟩
 have c3:Hid (∀y,Hid (w0.grownBy y none)→Calls Tryz.prog 106 #[.slice (some ⟨gI,0,none⟩) 40 cI] y fun e w'=>∃g1,e=.returned (.slice (some ⟨g1,0,none⟩) 40 40)∧Hid (y.heap.size≤g1)∧Hid (Lie w' g1 62 160 (Gd.flat I))∧Hid (y.grownBy w' none)∧Hid (w0.grownBy w' none)):=fun y hy =>
  (twinItems_any gI 40 160 cI (Gd.flat I) y (by omega) (by omega) (fun _=>rfl) (uh rd y hy).read.2.2 (uh rd y hy).items.lt).mono fun e w' ⟨g1,h1,h2,h3,h4⟩=>⟨g1,h1,h2,h3.lie,h4,gtr (uh hy) h4⟩
 obtain ⟨⟨q4,q5,q6⟩,r4,r5,r6⟩:=uh keep w0 (World.grownBy.refl _ _)
 clear hbox hres hg0 hw0 hB
 go_cut [] from 3 (fun wx=>∃g1 g2 g3,Hid (Gd.Hold wx B g1 g2 g3 384 32 40 s g c E I∧B+2≤g1∧B+2≤g2∧B+2≤g3∧Arr wx (B+1) 30 11 (fun j=>#[.int .i64 0,.int .i64 0,.int .i64 0,.int .i64 0,.slice none 0 0,.slice none 0 0,.slice none 0 0,.int .i64 0,.int .i64 0,.int .i64 0,Value.int .i64 0][j]?.getD undef)∧w.grownBy wx none))
 case first =>
  go_region_with (first | (go_at_call 178;refine (uh c1 _ hd).mono ?_;rintro e w1 ⟨g1,rfl,l1,a1,n1,n01⟩;obtain ⟨⟨z4,z5,z6⟩,f4,f5,f6⟩:=uh keep w1 n01) | (go_at_call 179;refine (uh c2 _ n01).mono ?_;rintro e w2 ⟨g2,rfl,l2,a2,n2,n02⟩;obtain ⟨⟨z4,z5,z6⟩,f4,f5,f6⟩:=uh keep w2 n02) | (go_at_call 106;refine (uh c3 _ n02).mono ?_;rintro e w3 ⟨g3,rfl,l3,a3,n3,n03⟩;obtain ⟨⟨z4,z5,z6⟩,f4,f5,f6⟩:=uh keep w3 n03))
  all_goals
   go_wp2_with fail
   go_meet
   exact ⟨g1,g2,g3,Gd.apart_hold (uh hbox') (uh hres') (uh hg0') (uh hB') (uh hd) (uh l1) (uh a1) (uh n1) (uh l2) (uh a2) (uh n2) (uh l3) (uh a3) (uh n3)⟩
 case rest =>
  obtain ⟨g1,g2,g3,hr⟩:=hcut
  clear keep hd rd c1 c2 c3 q4 q5 q6 r4 r5 r6 hbox' hres' hg0' hL'
  obtain ⟨b0,b1,b2,b3,b4,b5,b6,b7,b8,b9,b10⟩:=(uh hr).1.box.eleven
  have fz:=(uh hr).2.2.2.2.1.free
  have zc:=fun j (hj:j<11)=>(uh hr).2.2.2.2.1.cell (i:=j) hj
  have z0:=zc 0 (by omega)
  have z1:=zc 1 (by omega)
  have z2:=zc 2 (by omega)
  have z3:=zc 3 (by omega)
  have z4:=zc 4 (by omega)
  have z5:=zc 5 (by omega)
  have z6:=zc 6 (by omega)
  have z7:=zc 7 (by omega)
  have z8:=zc 8 (by omega)
  have z9:=zc 9 (by omega)
  have z10:=zc 10 (by omega)
  simp only [List.getElem?_toArray,List.getElem?_cons_zero,List.getElem?_cons_succ,Option.getD_some] at z0 z1 z2 z3 z4 z5 z6 z7 z8 z9 z10
  have hfin:Hid (∀vs:List Value,Gd.Lists (wc.setCells (B+1) 0 vs) g1 g2 g3 c E I∧w.grownBy (wc.setCells (B+1) 0 vs) none):=fun vs=>by
   obtain ⟨hH,h1,h2,h3,hA,hg⟩:=uh hr
   have hB:=uh hB'
   have r:=gss (g:=B+1) vs 0 wc (World.grownBy.refl _ _)
   exact ⟨⟨hH.lists.cells.grown r (by simp;omega),hH.lists.ents.grown r (by simp;omega),hH.lists.items.grown r (by simp;omega)⟩,own_sets (by omega) vs 0 wc hg⟩
  clear zc
  go_wp2
  refine bodyPost_ret (v:=.agg (Gd.world s g1 g2 g3 384 32 40 g)) (by simp [results,Tryz.results168,go_sem,Gd.world,z0,z1,z2,z3,z4,z5,z6,z7,z8,z9,z10]) rfl ?_
  obtain ⟨hH,h1,h2,h3,_,_⟩:=uh hr
  have hB:=uh hB'
  exact ⟨g1,g2,g3,384,32,40,rfl,⟨Nat.le_refl _,Nat.le_refl _⟩,by omega,by omega,by omega,hH.cE,hH.cI,hH.eI,(uh hfin [_,_,_,_,_,_,_,_,_,_,_]).1,(uh hfin [_,_,_,_,_,_,_,_,_,_,_]).2⟩

end Go.Proofs.YtbanjoflgoiegaaGreat
