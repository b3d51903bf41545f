import Derived.Test.YtbanjoflgoiegabGreatPf51
import Derived.Test.YtbanjoflgoiegabGreatPf45
namespace Go.Proofs.YtbanjoflgoiegabGreat
open Go.RowKit

def Cr.zero (seed:Int):Nat→Int
 | 0=>seed
 | _=>0

theorem Cr.sane_zero:Cr.Sane (fun _=>0) (fun _ _=>0) (fun _ _=>0):=by
 refine ⟨⟨fun _=>⟨by show (0:Int)≤0;omega,by show (0:Int)≤255;omega⟩,Md.ok_none _,fun k _=>⟨by show (0:Int)≤0;omega,by show (0:Int)≤255;omega,.inl fun _ _ _=>rfl⟩⟩,⟨fun k _ k0=>absurd rfl k0,⟨fun k _ k0=>absurd rfl k0,fun j k _ _ j0=>absurd rfl j0⟩⟩,⟨fun k _ k1=>?_,fun j k _ _ j1=>?_,fun k _ k0=>absurd rfl k0⟩⟩
 ·exact absurd k1 (by show ¬(0:Int)=1;omega)
 ·exact absurd j1 (by show ¬(0:Int)=1;omega)

theorem Cr.land_none {c:Nat→Int}:∀{t:Nat} {E F:Nat→Nat→Int},Cr.LandTo c (fun _ _=>0) t E F→F=E
 | 0,_,_,h=>h
 | t+1,_,_,⟨G,hG,hF⟩=>by
  have hn:Gd.hero (fun _ _=>0) (t:Int)<0:=by
   unfold Gd.hero
   rw [En.first_none (fun j _=>by simp [En.heroQ])]
   omega
  unfold Cr.Lands at hF
  rw [if_pos hn] at hF
  rw [hF]
  exact Cr.land_none hG

theorem Cr.below_new {seed:Int} {T:Cr.W} (h:Cr.Below (Cr.zero seed) (fun _=>0) (fun _ _=>0) (fun _ _=>0) T):Cr.IsNew seed T:=by
 obtain ⟨c,es,is,F,hl,hF,rfl⟩:=h
 have e1:=Cr.land_none hF
 have e2:Cr.bare (fun _ _=>0)=fun _ _=>0:=by
  funext k j
  unfold Cr.bare En.hole
  split <;> rfl
 have e3:Cr.kept (fun _ _=>0)=fun _ _=>0:=by
  funext k
  unfold Cr.kept
  rw [if_neg (by show ¬((0:Int)=1∨(0:Int)=4);omega)]
 have e4:Cr.num (Cr.zero seed) 2 (Cr.zero seed 2+1)=Cr.first seed:=by
  funext j
  unfold Cr.num
  by_cases e:j=2
  ·rw [if_pos e,e];rfl
  ·rw [if_neg e]
   match j with
   | 0=>rfl
   | 1=>rfl
   | 2=>exact absurd rfl e
   | _+3=>rfl
 rw [e1,e2,e3,e4]
 exact ⟨c,es,is,hl,rfl⟩

def Cr.News (w:World) (seed:Int) (e:Ending) (w':World):Prop:=∃T,Cr.IsNew seed T∧Gd.WorldsW w T.s T.g T.c T.E T.I e w'

theorem Cr.new_done {w w0 w2 w3:World} {seed:Int} {T:Cr.W} {B jC jE jI dC dE dI:Nat} {H:Nat→Value} (hGw:w.grownBy w0 none) (hG2:w0.grownBy w2 none) (hT:Cr.Below (Cr.zero seed) (fun _=>0) (fun _ _=>0) (fun _ _=>0) T) (hcap:32≤dE∧384≤dC) (l1:w2.heap.size≤jC) (l2:w2.heap.size≤jE) (l3:w2.heap.size≤jI) (n1:jC≠jE) (n2:jC≠jI) (n3:jE≠jI) (hL:Gd.Lists w3 jC jE jI T.c T.E T.I) (hg:w2.grownBy w3 none) (hr:Lie w3 B 28 11 H) (hB:w.heap.size=B) (vs:List Value) :
  Cr.News w seed (.returned (.agg (Gd.world T.s jC jE jI dC dE dI T.g))) (w3.setCells B 0 vs):=by
 have q1:=hr.type_ne hL.cells (by decide)
 have q2:=hr.type_ne hL.ents (by decide)
 have q3:=hr.type_ne hL.items (by decide)
 have k1:=hGw.size
 have k2:=hG2.size
 exact ⟨T,Cr.below_new hT,jC,jE,jI,dC,dE,dI,rfl,hcap,by omega,by omega,by omega,n1,n2,n3,⟨hL.cells.others q1 _ _,hL.ents.others q2 _ _,hL.items.others q3 _ _⟩,own_sets (by omega) _ 0 w3 (gtr hGw (gtr hG2 hg))⟩

set_option maxRecDepth 16000 in
set_option maxHeartbeats 12800000 in
theorem cNew_any (seed:Int) (w:World):Calls Tryz.prog 21 #[.int .i64 seed] w (Cr.News w seed):=by
 obtain ⟨w0,hw0⟩:∃w0,w0=w.alloc (.cells #[.int .i64 0,.int .i64 0,.int .i64 0,.int .i64 0,.slice none 0 0,.slice none 0 0,.slice none 0 0,.int .i64 0,.int .i64 0,.int .i64 0,.int .i64 0] 28):=⟨_,rfl⟩
 have hGw:Hid (w.grownBy w0 none):=by rw [hw0];exact World.grownBy_alloc _ _ _
 obtain ⟨B,hB⟩:∃B,w.heap.size=B:=⟨_,rfl⟩
 have hres:Hid (Lie w0 B 28 11 (fun j=>#[.int .i64 0,.int .i64 0,.int .i64 0,.int .i64 0,.slice none 0 0,.slice none 0 0,.slice none 0 0,.int .i64 0,.int .i64 0,.int .i64 0,Value.int .i64 0][j]?.getD undef)):=by
  show Lie w0 B 28 11 (fun j=>#[.int .i64 0,.int .i64 0,.int .i64 0,.int .i64 0,.slice none 0 0,.slice none 0 0,.slice none 0 0,.int .i64 0,.int .i64 0,.int .i64 0,Value.int .i64 0][j]?.getD undef)
  rw [hw0,←hB]
  exact (Arr.lit (heap_alloc_new w _)).lie
 have hB':=hide hB
 go_enter Tryz.func21,Tryz.ntmps21
 go_upto_region 1 with fail
 rw [←hw0]
 clear hw0 hB
 obtain ⟨ZE,hmE,hZE⟩:=make32
 obtain ⟨ZI,hmI,hZI⟩:=make40
 have hE3:=hide (fun w=>(hZE w).lie (m:=352) (by omega))
 have hI3:=hide hZI
 clear hZE hZI
 refine wp_region_till (h:=5) (S:=fun _=>True) (by kernel_rfl) ?_
 refine wtk (i:=0) (v:=?_) [5] rfl (by kernel_rfl) (by kernel_rfl) (by kernel_rfl) (by kernel_rfl) (fun _ _ _ h=>h) trivial (Or.inl ⟨by rfl,?_⟩) ?_
 rotate_left
 ·intro x hSx
  try dsimp only at hSx
  go_simp
  try with_reducible rfl
 simp only [Act.put]
 refine wpTill_two (i:=1) (j:=2) (by kernel_rfl) rfl rfl (fun K hK=>?_) (fun K hK=>?_)
 ·go_simp
  refine hK.out _ _ (fun _=>trivial) ?_
  clear hK K
  refine wto (j:=2) (by kernel_rfl) rfl (fun K hK=>?_)
  go_simp
  refine hK.out _ _ (fun _=>trivial) ?_
  clear hK K
  refine wtk (i:=3) (v:=?_) [5] rfl (by kernel_rfl) (by kernel_rfl) (by kernel_rfl) (by kernel_rfl) (fun _ _ _ h=>h) trivial (Or.inl ⟨by rfl,?_⟩) ?_
  rotate_left
  ·intro x hSx
   try dsimp only at hSx
   go_simp
   try with_reducible rfl
  simp only [Act.put]
  refine wto (j:=4) (by kernel_rfl) rfl (fun K hK=>?_)
  go_simp
  have hG2:Hid (w0.grownBy ((w0.alloc (.cells ZE 42)).alloc (.cells ZI 47)).drew none):=gd1 (gal (gal (World.grownBy.refl _ none) _) _)
  have hx1:Hid (Lie ((w0.alloc (.cells ZE 42)).alloc (.cells ZI 47)).drew w0.heap.size 42 352 (En.flat (fun _ _=>0))):=(uh hE3 w0).on (gd1 (World.grownBy_alloc _ _ _))
  have hx2:Hid (Lie ((w0.alloc (.cells ZE 42)).alloc (.cells ZI 47)).drew (w0.heap.size+1) 47 160 (Gd.flat (fun _ _=>0))):=by
   have h:=(uh hI3 (w0.alloc (.cells ZE 42))).on (gd1 (World.grownBy.refl _ none))
   rwa [show (w0.alloc (.cells ZE 42)).heap.size=w0.heap.size+1 by simp] at h
  clear hE3 hI3 hmE hmI
  generalize ((w0.alloc (.cells ZE 42)).alloc (.cells ZI 47)).drew=w2 at hG2 hx1 hx2 ⊢
  obtain ⟨Q1,hq1⟩:∃Q1,w0.heap.size=Q1:=⟨_,rfl⟩
  obtain ⟨Q2,hq2⟩:∃Q2,Q1+1=Q2:=⟨_,rfl⟩
  have hn:Hid (Q1≠Q2):=(show Q1≠Q2 by omega)
  rw [hq1] at hx1 hx2 ⊢
  rw [hq2] at hx2 ⊢
  clear hq1 hq2
  have ce:=hide (cEntered_any (Cr.zero seed) (fun _=>0) (fun _=>0) (fun _ _=>0) (fun _ _=>0) none 0 0 Q1 Q2 32 40 w2 (uh hx1) (uh hx2) (Nat.le_refl _) (uh hn) Cr.sane_zero (by show (0:Int)≤0;omega) (by show (0:Int)≤2;omega))
  refine (uh ce).mono ?_
  rintro e w3 ⟨T,hT,jC,jE,jI,dC,dE,dI,rfl,hcap,l1,l2,l3,n1,n2,n3,hL,hg⟩
  unfold Gd.world
  have hG3:=hide (gtr (uh hG2) hg)
  have hr:=hide ((uh hres).on (uh hG3))
  have hfo:=hide (fun vs=>Cr.new_done (dI:=dI) (uh hGw) (uh hG2) hT hcap l1 l2 l3 n1 n2 n3 hL hg (uh hr) (uh hB') vs)
  try go_simp
  refine hK.out _ _ (fun _=>trivial) ?_
  clear hK K ce hcap l1 l2 l3 n1 n2 n3 hL hg hT hx1 hx2
  refine wto (j:=5) (by kernel_rfl) rfl (fun K hK=>?_)
  have fz:=(uh hr).free
  obtain ⟨z0,z1,z2,z3,z4,z5,z6,z7,z8,z9,z10⟩:=Gd.res_cells (uh hr)
  go_simp
  refine hK.out _ _ (fun hx=>absurd (hx.symm.trans (by kernel_rfl)) Bool.false_ne_true) ?_
  clear hK K
  refine wpTill_done (by kernel_rfl) ?_ _
  rename_i K hK
  refine hK _ _ (wp_ret ?_)
  refine bodyPost_ret (v:=.agg (Gd.world T.s jC jE jI dC dE dI T.g)) (by simp [results,Tryz.results21,go_sem,Gd.world,z0,z1,z2,z3,z4,z5,z6,z7,z8,z9,z10]) rfl ?_
  exact uh hfo [_,_,_,_,_,_,_,_,_,_,_]
 ·go_simp
  refine hK.out _ _ (fun _=>trivial) ?_
  clear hK K
  refine wto (j:=1) (by kernel_rfl) rfl (fun K hK=>?_)
  go_simp
  refine hK.out _ _ (fun _=>trivial) ?_
  clear hK K
  refine wtk (i:=3) (v:=?_) [5] rfl (by kernel_rfl) (by kernel_rfl) (by kernel_rfl) (by kernel_rfl) (fun _ _ _ h=>h) trivial (Or.inl ⟨by rfl,?_⟩) ?_
  rotate_left
  ·intro x hSx
   try dsimp only at hSx
   go_simp
   try with_reducible rfl
  simp only [Act.put]
  refine wto (j:=4) (by kernel_rfl) rfl (fun K hK=>?_)
  go_simp
  have hG2:Hid (w0.grownBy ((w0.alloc (.cells ZI 47)).alloc (.cells ZE 42)).drew none):=gd1 (gal (gal (World.grownBy.refl _ none) _) _)
  have hx1:Hid (Lie ((w0.alloc (.cells ZI 47)).alloc (.cells ZE 42)).drew w0.heap.size 47 160 (Gd.flat (fun _ _=>0))):=(uh hI3 w0).on (gd1 (World.grownBy_alloc _ _ _))
  have hx2:Hid (Lie ((w0.alloc (.cells ZI 47)).alloc (.cells ZE 42)).drew (w0.heap.size+1) 42 352 (En.flat (fun _ _=>0))):=by
   have h:=(uh hE3 (w0.alloc (.cells ZI 47))).on (gd1 (World.grownBy.refl _ none))
   rwa [show (w0.alloc (.cells ZI 47)).heap.size=w0.heap.size+1 by simp] at h
  clear hE3 hI3 hmE hmI
  generalize ((w0.alloc (.cells ZI 47)).alloc (.cells ZE 42)).drew=w2 at hG2 hx1 hx2 ⊢
  obtain ⟨Q1,hq1⟩:∃Q1,w0.heap.size=Q1:=⟨_,rfl⟩
  obtain ⟨Q2,hq2⟩:∃Q2,Q1+1=Q2:=⟨_,rfl⟩
  have hn:Hid (Q1≠Q2):=(show Q1≠Q2 by omega)
  rw [hq1] at hx1 hx2 ⊢
  rw [hq2] at hx2 ⊢
  clear hq1 hq2
  have ce:=hide (cEntered_any (Cr.zero seed) (fun _=>0) (fun _=>0) (fun _ _=>0) (fun _ _=>0) none 0 0 Q2 Q1 32 40 w2 (uh hx2) (uh hx1) (Nat.le_refl _) (uh hn).symm Cr.sane_zero (by show (0:Int)≤0;omega) (by show (0:Int)≤2;omega))
  refine (uh ce).mono ?_
  rintro e w3 ⟨T,hT,jC,jE,jI,dC,dE,dI,rfl,hcap,l1,l2,l3,n1,n2,n3,hL,hg⟩
  unfold Gd.world
  have hG3:=hide (gtr (uh hG2) hg)
  have hr:=hide ((uh hres).on (uh hG3))
  have hfo:=hide (fun vs=>Cr.new_done (dI:=dI) (uh hGw) (uh hG2) hT hcap l1 l2 l3 n1 n2 n3 hL hg (uh hr) (uh hB') vs)
  try go_simp
  refine hK.out _ _ (fun _=>trivial) ?_
  clear hK K ce hcap l1 l2 l3 n1 n2 n3 hL hg hT hx1 hx2
  refine wto (j:=5) (by kernel_rfl) rfl (fun K hK=>?_)
  have fz:=(uh hr).free
  obtain ⟨z0,z1,z2,z3,z4,z5,z6,z7,z8,z9,z10⟩:=Gd.res_cells (uh hr)
  go_simp
  refine hK.out _ _ (fun hx=>absurd (hx.symm.trans (by kernel_rfl)) Bool.false_ne_true) ?_
  clear hK K
  refine wpTill_done (by kernel_rfl) ?_ _
  rename_i K hK
  refine hK _ _ (wp_ret ?_)
  refine bodyPost_ret (v:=.agg (Gd.world T.s jC jE jI dC dE dI T.g)) (by simp [results,Tryz.results21,go_sem,Gd.world,z0,z1,z2,z3,z4,z5,z6,z7,z8,z9,z10]) rfl ?_
  exact uh hfo [_,_,_,_,_,_,_,_,_,_,_]


open Go.RowKit

def Cr.sp0:Nat→Bool
 | 0=>true
 | _=>false

theorem cStep_first {w:World} {T:Cr.W} {gC gE gI cC cE cI:Nat} (hL:Gd.Lists w gC gE gI T.c T.E T.I) (hG:Cr.Good T) (h1:-9223372036854775808≤T.s 1) (h2:T.s 1<9223372036854775807) :
  Calls Tryz.prog 11 #[.agg #[.int .i64 (T.s 0),.int .i64 (T.s 1),.int .i64 (T.s 2),.int .i64 (T.s 3),.slice (some ⟨gC,0,none⟩) 384 cC,.slice (some ⟨gE,0,none⟩) 32 cE,.slice (some ⟨gI,0,none⟩) 40 cI,.int .i64 (T.g 0),.int .i64 (T.g 1),.int .i64 (T.g 2),.int .i64 (T.g 3)],.agg #[.int .i64 0,.int .i64 0,.bool true,.int .i64 0,.int .i64 0,.bool false,.int .i64 0,.int .i64 0,.bool false,.int .i64 0,.int .i64 0,.bool false]] w (Cr.Steps w (fun _=>0) (fun _=>0) Cr.sp0 T) :=
 cStep_any T.s T.g T.c T.E T.I gC gE gI cC cE cI (fun _=>0) (fun _=>0) Cr.sp0 w hL hG h1 h2

theorem Cr.at_one {c:Nat→Int} {E I:Nat→Nat→Int} (h:Cr.Sane c E I) {k:Nat} (hk:k<32) (k0:E k 0≠0):En.first (En.atQ E (E k 3) (E k 4)) 32=(k:Int):=by
 rcases En.first_cases (En.atQ E (E k 3) (E k 4)) 32 with ⟨_,hno⟩ | ⟨j,hj,he,hq,_⟩
 ·have:=hno k hk
  simp [En.atQ,k0] at this
 ·have hq':E j 0≠0∧E j 3=E k 3∧E j 4=E k 4:=by simpa [En.atQ] using hq
  rw [he,h.set.stands.apart j k hj hk hq'.1 k0 hq'.2.1 hq'.2.2]

theorem Cr.IsNew.frame {seed:Int} {T:Cr.W} (h:Cr.IsNew seed T):T.s 0=seed∧T.s 1=0∧T.s 2=1∧T.s 3=0:=by
 obtain ⟨c,es,is,_,rfl⟩:=h
 exact ⟨rfl,rfl,rfl,rfl⟩

set_option maxRecDepth 16000 in
set_option maxHeartbeats 12800000 in
theorem known10_any (w:World):Calls Tryz.prog 7 #[] w (Says w (.bool true)):=by
 have cn:=hide (cNew_any 1 w)
 go_enter Tryz.func7,Tryz.ntmps7
 go_wp2_with fail
 refine (uh cn).mono ?_
 rintro e w1 ⟨T,hN,gC,gE,gI,cC,cE,cI,rfl,hcap,l1,l2,l3,n1,n2,n3,hL,hg1⟩
 obtain ⟨w2,hw2⟩:∃w2,w2=w1.alloc (.cells (Gd.world T.s gC gE gI cC cE cI T.g) 28):=⟨_,rfl⟩
 have hg2:w1.grownBy w2 none:=by rw [hw2];exact World.grownBy_alloc _ _ _
 have hB:Hid (Lie w2 w1.heap.size 28 11 (Gd.box T.s gC gE gI cC cE cI T.g)):=by rw [hw2];exact (Arr.world (heap_alloc_new w1 _)).lie
 have hG:=hide (gtr hg1 hg2)
 have hL2:=hide (hL.on hg2)
 have hN':=hide hN
 clear hcap l1 l2 l3 n1 n2 n3 hL hg1 hg2 cn hN
 unfold Gd.world at hw2 ⊢
 go_upto_region 2 with fail
 rw [←hw2]
 clear hw2
 obtain ⟨B,hBe⟩:∃B,w1.heap.size=B:=⟨_,rfl⟩
 rw [hBe] at hB ⊢
 clear hBe
 clear w1
 obtain ⟨w3,hw3⟩:∃w3,w3=w2.alloc (.cells #[.int .i64 0,.int .i64 0,.bool false,.int .i64 0,.int .i64 0,.bool false,.int .i64 0,.int .i64 0,.bool false,.int .i64 0,.int .i64 0,.bool false] 35):=⟨_,rfl⟩
 have hg3:w2.grownBy w3 none:=by rw [hw3];exact World.grownBy_alloc _ _ _
 have hA:Hid (Lie w3 w2.heap.size 35 12 (Cr.actF (fun _=>0) (fun _=>0) (fun _=>false))):=by rw [hw3];exact Cr.acts_lie (h:=fun _=>0) (i:=fun _=>0) (b:=fun _=>false) (heap_alloc_new w2 _)
 have hB3:=hide ((uh hB).on hg3)
 have hG3:=hide (gtr (uh hG) hg3)
 have hL3:=hide ((uh hL2).on hg3)
 have lA:Hid (w.heap.size≤w2.heap.size):=(uh hG).size
 clear hg3 hG hL2 hB
 go_upto_region 3 with fail
 rw [←hw3]
 clear hw3
 obtain ⟨A,hAe⟩:∃A,w2.heap.size=A:=⟨_,rfl⟩
 rw [hAe] at hA lA ⊢
 clear hAe
 clear w2
 have q2:w3.cell? ⟨A,2,none⟩=some (.bool false):=(uh hA).cell (c:=2) (by omega)
 have fA:=(uh hA).free
 have hA4:Hid (Lie (w3.setCell ⟨A,2,none⟩ (.bool true)) A 35 12 (Cr.actF (fun _=>0) (fun _=>0) Cr.sp0)):=((uh hA).store 2 (.bool true)).congr fun j hj=>by
  rcases (show j=0∨j=1∨j=2∨j=3∨j=4∨j=5∨j=6∨j=7∨j=8∨j=9∨j=10∨j=11 by omega) with rfl | rfl | rfl | rfl | rfl | rfl | rfl | rfl | rfl | rfl | rfl | rfl <;> rfl
 have hAB:=(uh hA).type_ne (uh hB3) (by decide)
 have hB4:=hide ((uh hB3).other hAB 2 (.bool true))
 have hL4:Hid (Gd.Lists (w3.setCell ⟨A,2,none⟩ (.bool true)) gC gE gI T.c T.E T.I):=⟨(uh hL3).cells.other ((uh hA).type_ne (uh hL3).cells (by decide)) _ _,(uh hL3).ents.other ((uh hA).type_ne (uh hL3).ents (by decide)) _ _,(uh hL3).items.other ((uh hA).type_ne (uh hL3).items (by decide)) _ _⟩
 have hG4:Hid (w.grownBy (w3.setCell ⟨A,2,none⟩ (.bool true)) none):=gsr (uh hG3) ⟨A,2,none⟩ (uh lA) _
 clear hA hB3 hL3 hG3 lA hAB
 go_upto_region 4 with fail
 generalize w3.setCell ⟨A,2,none⟩ (.bool true)=w4 at hA4 hB4 hL4 hG4 ⊢
 clear q2 fA
 obtain ⟨b0,b1,b2,b3,b4,b5,b6,b7,b8,b9,b10⟩:=(uh hB4).eleven
 have a0:w4.cell? ⟨A,0,none⟩=some (.int .i64 0):=(uh hA4).cell (c:=0) (by omega)
 have a1:w4.cell? ⟨A,1,none⟩=some (.int .i64 0):=(uh hA4).cell (c:=1) (by omega)
 have a2:w4.cell? ⟨A,2,none⟩=some (.bool true):=(uh hA4).cell (c:=2) (by omega)
 have a3:w4.cell? ⟨A,3,none⟩=some (.int .i64 0):=(uh hA4).cell (c:=3) (by omega)
 have a4:w4.cell? ⟨A,4,none⟩=some (.int .i64 0):=(uh hA4).cell (c:=4) (by omega)
 have a5:w4.cell? ⟨A,5,none⟩=some (.bool false):=(uh hA4).cell (c:=5) (by omega)
 have a6:w4.cell? ⟨A,6,none⟩=some (.int .i64 0):=(uh hA4).cell (c:=6) (by omega)
 have a7:w4.cell? ⟨A,7,none⟩=some (.int .i64 0):=(uh hA4).cell (c:=7) (by omega)
 have a8:w4.cell? ⟨A,8,none⟩=some (.bool false):=(uh hA4).cell (c:=8) (by omega)
 have a9:w4.cell? ⟨A,9,none⟩=some (.int .i64 0):=(uh hA4).cell (c:=9) (by omega)
 have a10:w4.cell? ⟨A,10,none⟩=some (.int .i64 0):=(uh hA4).cell (c:=10) (by omega)
 have a11:w4.cell? ⟨A,11,none⟩=some (.bool false):=(uh hA4).cell (c:=11) (by omega)
 have hfr:=(uh hN').frame
 have cs:=hide (cStep_first (cC:=cC) (cE:=cE) (cI:=cI) (uh hL4) (uh hN').good (by omega) (by omega))
 clear hfr
 go_wp2_with fail
 refine (uh cs).mono ?_
 rintro e w5 ⟨U,hU,jC,jE,jI,dC,dE,dI,rfl,hcap,l1,l2,l3,n1,n2,n3,hL,hg5⟩
 have hgood:=hide (hU.good (uh hN').good).1
 obtain ⟨hUc,-,hU1,-,-,f,u,γ,hf,hu,hfu,hUf⟩:=Cr.first_frame (uh hN') hU (fun _ _=>⟨by show ¬(0:Int)=1;omega,by show ¬(0:Int)=2;omega⟩) rfl rfl rfl rfl
 rw [←hUc] at hfu
 have o:=Cr.one_at 1 0 u
 have g:∀j,j≠1→En.gen (Cr.one 1 0 u) γ j=Cr.one 1 0 u j:=fun j hj=>if_neg hj
 have k0:U.E f 0=1:=by rw [hUf,g 0 (by omega)];exact o.1 (by omega) (by omega)
 have k3:U.E f 3=(u:Int) % 24:=by rw [hUf,g 3 (by omega)];exact o.2.2.1
 have k4:U.E f 4=(u:Int) / 24:=by rw [hUf,g 4 (by omega)];exact o.2.2.2.1
 have hat:=Cr.at_one (uh hgood).sane hf (by omega)
 rw [k3,k4] at hat
 obtain ⟨w6,hw6⟩:∃w6,w6=w5.alloc (.cells (Gd.world U.s jC jE jI dC dE dI U.g) 28):=⟨_,rfl⟩
 have hg6:w5.grownBy w6 none:=by rw [hw6];exact World.grownBy_alloc _ _ _
 have hV:Hid (Lie w6 w5.heap.size 28 11 (Gd.box U.s jC jE jI dC dE dI U.g)):=by rw [hw6];exact (Arr.world (heap_alloc_new w5 _)).lie
 have hG6:=hide (gtr (uh hG4) (gtr hg5 hg6))
 have hL6:=hide (hL.on hg6)
 have hc8:∀i,0≤U.c i∧U.c i≤255:=(uh hgood).sane.fit.cells
 have cf:=hide (fun z (hz:Gd.Lists z jC jE jI U.c U.E U.I)=>refFind_any z.heap.size (some ⟨jC,0,none⟩) 384 dC U.c 3 z hz.vec hc8)
 have ca:=hide (fun z (hz:Gd.Lists z jC jE jI U.c U.E U.I)=>entRefAt_same jE 32 dE U.E ((u:Int) % 24) ((u:Int) / 24) z hz.own.ents)
 rw [hfu] at cf
 rw [hat] at ca
 have hf':(f:Int)<32:=by omega
 have HF:=hide hf
 have K0:=hide k0
 have U1:=hide hU1
 have hu':=hide hu
 clear hcap l1 l2 l3 n1 n2 n3 hL hg5 hg6 hU hUc hU1 hf hu hfu hUf o g k0 k3 k4 hat hc8 cs b0 b1 b2 b3 b4 b5 b6 b7 b8 b9 b10 a0 a1 a2 a3 a4 a5 a6 a7 a8 a9 a10 a11 hA4 hB4 hL4 hG4 hN' hgood
 unfold Gd.world at hw6 ⊢
 go_upto_region 5 with fail
 rw [←hw6]
 clear hw6
 obtain ⟨V,hVe⟩:∃V,w5.heap.size=V:=⟨_,rfl⟩
 rw [hVe] at hV ⊢
 clear hVe
 clear w5
 have b4:=(uh hV).eleven.2.2.2.2.1
 have cf':=hide (uh cf _ (uh hL6))
 go_wp2_with fail
 refine (uh cf').mono ?_
 rintro e wy ⟨rfl,hy⟩
 subst wy
 clear cf cf' b4
 have t1:IntKind.i64.wrap ((u:Int) / 24)=(u:Int) / 24:=by rw [IntKind.wrap_i64];have:=uh hu';omega
 have b1:=(uh hV).eleven.2.1
 rw [uh U1] at b1
 have b5:=(uh hV).eleven.2.2.2.2.2.1
 have r0:=((uh hL6).own.ents.row (uh HF)).1
 rw [uh K0] at r0
 have hge:decide ((u:Int)≥0)=true:=by simp
 have hgf:decide ((f:Int)≥0)=true:=by simp
 go_upto_region 6 with fail
 go_quiet (first | (go_at_call 20;refine Calls.quiet_of_same (uh ca _ ?_);exact (uh hL6).on (gdw (World.grownBy.refl _ none) _)) | fail)
 have hfin:=hide (gdw (uh hG6) 33)
 clear b1 b5 r0 ca
 go_wp2
 go_ret
 exact ⟨rfl,gdw (uh hG6) _⟩


open Go.RowKit

structure Cr.Scene (w x:World) (T A gC gE gI cC cE cI:Nat) (how inp:Nat→Int) (sp:Nat→Bool) (S:Cr.W):Prop where
 law:Gd.Law w x T gC gE gI cC cE cI S.s S.g S.c S.E S.I
 acts:Lie x A 35 12 (Cr.actF how inp sp)
 lA:w.heap.size≤A

theorem Cr.Scene.apart {w x:World} {T A gC gE gI cC cE cI:Nat} {how inp:Nat→Int} {sp:Nat→Bool} {S:Cr.W} (h:Cr.Scene w x T A gC gE gI cC cE cI how inp sp S):A≠T∧A≠gC∧A≠gE∧A≠gI :=
 ⟨h.acts.type_ne h.law.hold.box (by decide),h.acts.type_ne h.law.hold.lists.cells (by decide),h.acts.type_ne h.law.hold.lists.ents (by decide),h.acts.type_ne h.law.hold.lists.items (by decide)⟩

theorem Cr.Scene.act {w x:World} {T A gC gE gI cC cE cI:Nat} {how inp:Nat→Int} {sp:Nat→Bool} {S:Cr.W} (h:Cr.Scene w x T A gC gE gI cC cE cI how inp sp S) (t:Nat) (u v:Int) (b:Bool):Cr.Scene w (((x.setCell ⟨A,t*3,none⟩ (.int .i64 u)).setCell ⟨A,t*3+1,none⟩ (.int .i64 v)).setCell ⟨A,t*3+2,none⟩ (.bool b)) T A gC gE gI cC cE cI (fun k=>if k=t then u else how k) (fun k=>if k=t then v else inp k) (fun k=>if k=t then b else sp k) S:=by
 obtain ⟨n0,n1,n2,n3⟩:=h.apart
 have hh:=h.law.hold
 exact ⟨⟨⟨((hh.box.other n0 _ _).other n0 _ _).other n0 _ _,⟨((hh.lists.cells.other n1 _ _).other n1 _ _).other n1 _ _,((hh.lists.ents.other n2 _ _).other n2 _ _).other n2 _ _,((hh.lists.items.other n3 _ _).other n3 _ _).other n3 _ _⟩,hh.bC,hh.bE,hh.bI,hh.cE,hh.cI,hh.eI⟩,h.law.lT,h.law.lE,h.law.lI,h.law.cap,gsr (gsr (gsr h.law.grown ⟨A,t*3,none⟩ h.lA _) ⟨A,t*3+1,none⟩ h.lA _) ⟨A,t*3+2,none⟩ h.lA _⟩,Cr.acts_put h.acts u v b,h.lA⟩

theorem Cr.Scene.twelve {w x:World} {T A gC gE gI cC cE cI:Nat} {how inp:Nat→Int} {sp:Nat→Bool} {S:Cr.W} (h:Cr.Scene w x T A gC gE gI cC cE cI how inp sp S) :
  x.cell? ⟨A,0,none⟩=some (.int .i64 (how 0))∧x.cell? ⟨A,1,none⟩=some (.int .i64 (inp 0))∧x.cell? ⟨A,2,none⟩=some (.bool (sp 0))∧x.cell? ⟨A,3,none⟩=some (.int .i64 (how 1))∧x.cell? ⟨A,4,none⟩=some (.int .i64 (inp 1))∧x.cell? ⟨A,5,none⟩=some (.bool (sp 1))∧x.cell? ⟨A,6,none⟩=some (.int .i64 (how 2))∧x.cell? ⟨A,7,none⟩=some (.int .i64 (inp 2))∧x.cell? ⟨A,8,none⟩=some (.bool (sp 2))∧x.cell? ⟨A,9,none⟩=some (.int .i64 (how 3))∧x.cell? ⟨A,10,none⟩=some (.int .i64 (inp 3))∧x.cell? ⟨A,11,none⟩=some (.bool (sp 3)) :=
 ⟨h.acts.cell (c:=0) (by omega),h.acts.cell (c:=1) (by omega),h.acts.cell (c:=2) (by omega),h.acts.cell (c:=3) (by omega),h.acts.cell (c:=4) (by omega),h.acts.cell (c:=5) (by omega),h.acts.cell (c:=6) (by omega),h.acts.cell (c:=7) (by omega),h.acts.cell (c:=8) (by omega),h.acts.cell (c:=9) (by omega),h.acts.cell (c:=10) (by omega),h.acts.cell (c:=11) (by omega)⟩

theorem Cr.Scene.step {w x:World} {T A gC gE gI cC cE cI:Nat} {how inp:Nat→Int} {sp:Nat→Bool} {S:Cr.W} (h:Cr.Scene w x T A gC gE gI cC cE cI how inp sp S) (hG:Cr.Good S) (h1:-9223372036854775808≤S.s 1) (h2:S.s 1<9223372036854775807) :
  Calls Tryz.prog 11 #[.agg #[.int .i64 (S.s 0),.int .i64 (S.s 1),.int .i64 (S.s 2),.int .i64 (S.s 3),.slice (some ⟨gC,0,none⟩) 384 cC,.slice (some ⟨gE,0,none⟩) 32 cE,.slice (some ⟨gI,0,none⟩) 40 cI,.int .i64 (S.g 0),.int .i64 (S.g 1),.int .i64 (S.g 2),.int .i64 (S.g 3)],.agg #[.int .i64 (how 0),.int .i64 (inp 0),.bool (sp 0),.int .i64 (how 1),.int .i64 (inp 1),.bool (sp 1),.int .i64 (how 2),.int .i64 (inp 2),.bool (sp 2),.int .i64 (how 3),.int .i64 (inp 3),.bool (sp 3)]] x (Cr.Steps x how inp sp S) :=
 cStep_any S.s S.g S.c S.E S.I gC gE gI cC cE cI how inp sp x h.law.hold.lists hG h1 h2


open Go.RowKit

set_option maxHeartbeats 800000 in
theorem refHero_same (b n c:Nat) (E:Nat→Nat→Int) (seat:Int) (w:World) (hE:Ents w b n E) :
  Calls Tryz.prog 9 #[.slice (some ⟨b,0,none⟩) n c,.int .i64 seat] w fun e w'=>e=.returned (.int .i64 (En.first (En.heroQ E seat) n))∧w'=w:=by
 have hn:=hE.1
 have hE':=hide hE
 skip
 clear hE
 go_enter Tryz.func9,Tryz.ntmps9
 go_wp2_with fail
 go_loop [5] (fun i=>∃k:Nat,k≤n∧i=.int .i64 (k:Int)∧∀j,j<k→En.heroQ E seat j=false) (fun i=>40 - (intOf i).toNat)
 case atStart=>exact ⟨0,by omega,rfl,fun j hj=>by omega⟩
 case round =>
  obtain ⟨k,hk,rfl,hno⟩:=hrel
  have hno':=hide hno
  clear hno
  by_cases hlt:k<n
  ·obtain ⟨u0,_,u2,_⟩:=(uh hE').row hlt
   have hlt':(k:Int)<(n:Int):=by omega
   have HL:=hide hlt
   skip
   clear hlt
   by_cases hf:E k 0=1
   ·by_cases h3:E k 2=seat
    ·have hq:Hid (En.heroQ E seat k=true):=by show En.heroQ E seat k=true;simp [En.heroQ,hf,h3]
     have he:=hide (En.first_hit (uh hno') (uh hq) (uh HL))
     go_wp2
     go_ret
     exact ⟨rti (uh he).symm,rfl⟩
    ·have hq:Hid (En.heroQ E seat k=false):=by show En.heroQ E seat k=false;simp [En.heroQ,h3]
     have h3':(E k 2 == seat)=false:=by simp [h3]
     go_wp2
     go_round
     case rel=>exact ⟨k+1,by have:=uh HL;omega,by go_num,fun j hj=>by
      by_cases e:j=k
      ·rw [e];exact uh hq
      ·exact uh hno' j (by omega)⟩
     case measure=>simp [intOf];omega
   ·have hq:Hid (En.heroQ E seat k=false):=by show En.heroQ E seat k=false;simp [En.heroQ,hf]
    have hf':(E k 0 == 1)=false:=by simp [hf]
    go_wp2
    go_round
    case rel=>exact ⟨k+1,by have:=uh HL;omega,by go_num,fun j hj=>by
     by_cases e:j=k
     ·rw [e];exact uh hq
     ·exact uh hno' j (by omega)⟩
    case measure=>simp [intOf];omega
  ·have hge:¬(k:Int)<(n:Int):=by omega
   have he:=hide (En.first_none (n:=n) (fun j hj=>uh hno' j (by omega)))
   go_wp2
   go_ret
   exact ⟨rti (uh he).symm,rfl⟩

theorem Cr.Sole.sane {c:Nat→Int} {E F I:Nat→Nat→Int} {f:Nat} {t:Int} (hf:Cr.Sole E f t) (hs:Cr.Sane c E I) {u:Nat} (hu:u<384) (hw:Gr.walkB (c u)=true) (ho:∀k,k≠f→F k=E k) (he:∀j,j≠3→j≠4→j≠5→j≠9→F f j=E f j) (e3:F f 3=(u:Int) % 24) (e4:F f 4=(u:Int) / 24) (h5:1≤F f 5∧F f 5≤20) (h9:0≤F f 9∧F f 9≤9):Cr.Sane c F I∧Cr.Sole F f t:=by
 have hl:=hf.lt
 have f1:=hf.one
 have gz:∀k,k<32→k≠f→F k 0=0:=fun k hk e=>by rw [ho k e];exact hf.free k hk e
 have hb:=hs.set.born f hl (by omega)
 have hr:=hs.fit.rows f hl
 have ht:=hr.taken (by omega)
 obtain ⟨m1,m2,m3,m4,m5⟩:=Ft.cell_num hu
 have e6:E f 6=20:=by rw [hb.1,f1];rfl
 have g0:=he 0 (by omega) (by omega) (by omega) (by omega)
 have g1:=he 1 (by omega) (by omega) (by omega) (by omega)
 have g2:=he 2 (by omega) (by omega) (by omega) (by omega)
 have g6:=he 6 (by omega) (by omega) (by omega) (by omega)
 have g7:=he 7 (by omega) (by omega) (by omega) (by omega)
 have g8:=he 8 (by omega) (by omega) (by omega) (by omega)
 have g10:=he 10 (by omega) (by omega) (by omega) (by omega)
 refine ⟨⟨⟨hs.fit.cells,hs.fit.ok,fun k hk=>?_⟩,⟨fun k hk k0=>?_,⟨fun k hk k0=>?_,fun i j hi hj i0 j0 _ _=>?_⟩⟩,⟨fun k hk k1=>?_,fun i j hi hj i1 j1 _=>?_,fun k hk k0 k1=>?_⟩⟩,⟨hl,g0.trans f1,g2.trans hf.seat,gz⟩⟩
 ·by_cases e:k=f
  ·rw [e]
   refine ⟨by rw [g1];exact hr.1,by rw [g1];exact hr.2.1,.inr ?_⟩
   rw [g0,g6,g7,g8,g10]
   omega
  ·rw [ho k e]
   exact hs.fit.rows k hk
 ·by_cases e:k=f
  ·rw [e,g0,g6,g7,g8]
   exact hb
  ·exact absurd (gz k hk e) k0
 ·by_cases e:k=f
  ·rw [e,e3,e4,m5]
   exact ⟨m1,m2,m3,m4,hw⟩
  ·exact absurd (gz k hk e) k0
 ·by_cases e:i=f
  ·by_cases e2:j=f
   ·omega
   ·exact absurd (gz j hj e2) j0
  ·exact absurd (gz i hi e) i0
 ·by_cases e:k=f
  ·rw [e,g2]
   exact hs.seats.seat f hl f1
  ·rw [gz k hk e] at k1;omega
 ·by_cases e:i=f
  ·by_cases e2:j=f
   ·omega
   ·rw [gz j hj e2] at j1;omega
  ·rw [gz i hi e] at i1;omega
 ·by_cases e:k=f
  ·rw [e,g0] at k1;omega
  ·exact absurd (gz k hk e) k0

theorem Cr.Sole.where {c:Nat→Int} {E I:Nat→Nat→Int} {f:Nat} {t:Int} (hf:Cr.Sole E f t) (hs:Cr.Sane c E I):∃u:Nat,u<384∧Gr.walkB (c u)=true∧E f 3=(u:Int) % 24∧E f 4=(u:Int) / 24:=by
 obtain ⟨a1,a2,a3,a4,a5⟩:=hs.set.stands.on f hf.lt (by rw [hf.one];omega)
 exact ⟨(E f 4*24+E f 3).toNat,by omega,a5,by omega,by omega⟩

theorem Cr.Sole.gone {c:Nat→Int} {E I:Nat→Nat→Int} {f:Nat} {t:Int} (hf:Cr.Sole E f t) (hs:Cr.Sane c E I) {u:Nat} (hu:u<384) (hw:Gr.walkB (c u)=true):Cr.Sane c (Cr.go E f ((u:Int) % 24) ((u:Int) / 24)) I∧Cr.Sole (Cr.go E f ((u:Int) % 24) ((u:Int) / 24)) f t:=by
 have hb:=hs.set.born f hf.lt (by rw [hf.one];omega)
 have e6:E f 6=20:=by rw [hb.1,hf.one];rfl
 have ht:=(hs.fit.rows f hf.lt).taken (by rw [hf.one];omega)
 have k:∀j,j≠3→j≠4→Cr.go E f ((u:Int) % 24) ((u:Int) / 24) f j=E f j:=fun j j3 j4=>by rw [Cr.go_at,if_neg j4,if_neg j3]
 refine hf.sane hs hu hw (fun k hk=>Cr.go_row _ _ _ hk) (fun j j3 j4 _ _=>k j j3 j4) ?_ ?_ (by rw [k 5 (by omega) (by omega)];omega) (by rw [k 9 (by omega) (by omega)];omega)
 ·rw [Cr.go_at,if_neg (by omega),if_pos rfl]
 ·rw [Cr.go_at,if_pos rfl]

theorem Cr.Sole.whole {c:Nat→Int} {E I:Nat→Nat→Int} {f:Nat} {t:Int} (hf:Cr.Sole E f t) (hs:Cr.Sane c E I) {v:Int} (v1:1≤v) (v20:v≤20):Cr.Sane c (Gd.set E f 5 v) I∧Cr.Sole (Gd.set E f 5 v) f t:=by
 obtain ⟨u,hu,hw,e3,e4⟩:=hf.where hs
 have ht:=(hs.fit.rows f hf.lt).taken (by rw [hf.one];omega)
 have k5:Gd.set E f 5 v f 5=v:=Gd.set_same _ _ _ _
 have k9:Gd.set E f 5 v f 9=E f 9:=by rw [Gd.set_other (by omega)]
 refine hf.sane hs hu hw (fun k hk=>by rw [Ft.set_row _ _ _ _ _ hk]) (fun j j3 j4 j5 j9=>?_) ?_ ?_ (by rw [k5];exact ⟨v1,v20⟩) (by rw [k9];omega)
 ·rw [Gd.set_other (by omega)]
 ·rw [Gd.set_other (by omega)];exact e3
 ·rw [Gd.set_other (by omega)];exact e4

end Go.Proofs.YtbanjoflgoiegabGreat
