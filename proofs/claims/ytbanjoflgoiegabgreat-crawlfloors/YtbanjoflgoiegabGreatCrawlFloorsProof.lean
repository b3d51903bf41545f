/-
  Who descends takes all heroes along, with all that they have; what lay there is gone; the floor is the next one: for every seed, floor, gold and others, at this commit; no condition.
-/
import Derived.ProofKit
import Derived.Test.YtbanjoflgoiegabGreatPf55
import Derived.ChangeOld
import Derived.ShutString
namespace Go.Proofs.YtbanjoflgoiegabGreat.crawlFloors
open Go.ChangeShapes Go.WideShapes Go.ChangeAt Go.RowKit
open Go.ChangeMaps (open_string shut_string)
set_option linter.unusedVariables false

theorem own:ownKnob Tryz.prog.godebug=none:=by kernel_rfl

set_option maxRecDepth 16000 in
set_option maxHeartbeats 3200000 in

theorem walk (a0:Int) (a1:Int) (a2:Int) (a3:Int) (w0:(Lit.int .i64 a0).wf=true) (w1:(Lit.int .i64 a1).wf=true) (w2:(Lit.int .i64 a2).wf=true) (w3:(Lit.int .i64 a3).wf=true) (w:World) :
  Calls Tryz.prog 4 #[.int .i64 a0,.int .i64 a1,.int .i64 a2,.int .i64 a3] w fun e w'=>e=.returned (.bool true)∧Below w.heap.size w w':=by
 have cF:=hide (fun wq=>within10_any a1 2 wq (by omega) (by omega))
 have cG:=hide (fun wq=>within10_any a2 1000 wq (by omega) (by omega))
 obtain ⟨m1,hm1⟩:∃m,a1 % 2=m:=⟨_,rfl⟩
 obtain ⟨gd,hgd⟩:∃m,a2 % 1000=m:=⟨_,rfl⟩
 have m10:Hid (0≤m1∧m1<2):=(show 0≤m1∧m1<2 by omega)
 have gd0:Hid (0≤gd∧gd≤999):=(show 0≤gd∧gd≤999 by omega)
 rw [hm1] at cF
 rw [hgd] at cG
 clear w0 w1 w2 w3 hm1 hgd
 have ca:=hide (fun wq=>alone_any a0 m1 1 wq)
 obtain ⟨r,hr⟩:∃r,((1+3*((1:Int) % 1000)) % 32).toNat=r:=⟨_,rfl⟩
 rw [hr] at ca
 go_enter Tryz.func4,Tryz.ntmps4
 go_wp2_with fail
 refine (known10_any _).mono ?_
 rintro e wk ⟨rfl,hgk⟩
 have hgk':=hide hgk
 clear hgk
 clear hr
 go_wp2_with fail
 refine (uh cF _).mono ?_
 rintro e wy ⟨rfl,hy⟩
 subst wy
 clear cF
 go_wp2_with fail
 refine (uh ca _).mono ?_
 rintro e wa ⟨S,hA,gC,gE,gI,cC,cE,cI,rfl,hcap,l1,l2,l3,n1,n2,n3,hL,hg⟩
 have hW:=hide (Gd.law_new (s:=S.s) (g:=S.g) (cC:=cC) (cI:=cI) (uh hgk') hcap.1 l1 l2 l3 n1 n2 n3 hL hg)
 have hA':=hide hA
 clear hcap l1 l2 l3 n1 n2 n3 hL hg hA ca hgk'
 unfold Gd.world at hW ⊢
 go_upto_region 4 with fail
 obtain ⟨X,hXe⟩:∃X,wa.heap.size=X:=⟨_,rfl⟩
 rw [hXe] at hW ⊢
 clear hXe
 generalize wa.alloc (.cells #[.int .i64 (S.s 0),.int .i64 (S.s 1),.int .i64 (S.s 2),.int .i64 (S.s 3),.slice (some ⟨gC,0,none⟩) 384 cC,.slice (some ⟨gE,0,none⟩) 32 cE,.slice (some ⟨gI,0,none⟩) 40 cI,.int .i64 (S.g 0),.int .i64 (S.g 1),.int .i64 (S.g 2),.int .i64 (S.g 3)] 28)=wv at hW ⊢
 clear wa wk
 have b5:=(uh hW).eleven.2.2.2.2.2.1
 have ch:=hide (refHero7_any gE cE S.E 0 wv (uh hW).hold.lists.own)
 rw [(uh hA').sole.hero] at ch
 go_wp2_with fail
 refine (uh ch).mono ?_
 rintro e wh ⟨rfl,hg⟩
 have hX:=hide ((uh hW).on hg)
 clear hW hg ch b5
 clear wv
 obtain ⟨u,hu,hfu,hcu,-⟩:=Cr.up_stair (uh hA').good.floor
 obtain ⟨d,hd,hfd,hcd⟩:=Cr.down_stair (uh hA').good.floor
 have HU:=hide (And.intro hu (And.intro hfu hcu))
 have HD:=hide (And.intro hd (And.intro hfd hcd))
 have NUD:Hid (d≠u):=(show d≠u from fun e=>by rw [e,hcu] at hcd;omega)
 clear hu hfu hcu hd hfd hcd
 have b4:=(uh hX).eleven.2.2.2.2.1
 have cf4:=hide (refFind_any wh.heap.size (some ⟨gC,0,none⟩) 384 cC S.c 4 wh (uh hX).hold.lists.vec (uh hA').good.sane.fit.cells)
 rw [(uh HD).2.1] at cf4
 go_wp2_with fail
 refine (uh cf4).mono ?_
 rintro e wy ⟨rfl,hy⟩
 subst wy
 clear cf4 b4
 have b5:=(uh hX).eleven.2.2.2.2.2.1
 have fE:=(uh hX).hold.lists.ents.free
 have hr32:=(uh hA').sole.lt
 have hk':(r:Int)<32:=by omega
 have r3:=((uh hX).hold.lists.own.ents.row hr32).2.2.2.1
 have r4:=((uh hX).hold.lists.own.ents.row hr32).2.2.2.2.1
 have hXE:X≠gE:=(uh hX).hold.bE
 have hEX:gE≠X:=hXE.symm
 obtain ⟨F,hFe⟩:∃F,F=Cr.go S.E r ((d:Int) % 24) ((d:Int) / 24):=⟨_,rfl⟩
 have hst:Hid (Gd.Law w ((wh.setCell ⟨gE,r*11+3,none⟩ (.int .i64 ((d:Int) % 24))).setCell ⟨gE,r*11+4,none⟩ (.int .i64 ((d:Int) / 24))) X gC gE gI cC cE cI S.s S.g S.c F S.I):=by
  show Gd.Law _ _ _ _ _ _ _ _ _ _ _ _ _ _
  rw [hFe]
  exact ((uh hX).stat r 3 (by omega) ((d:Int) % 24)).stat r 4 (by omega) ((d:Int) / 24)
 have hFF:Hid (Cr.Sane S.c F S.I∧Cr.Sole F r 0∧F r 3=(d:Int) % 24∧F r 4=(d:Int) / 24∧F r 9=0∧F r 10=0):=by
  show _∧_∧_∧_∧_∧_
  rw [hFe]
  have k:=(uh hA').sole.gone (uh hA').good.sane (uh HD).1 (by rw [(uh HD).2.2];rfl)
  refine ⟨k.1,k.2,?_,?_,?_,?_⟩
  ·rw [Cr.go_at,if_neg (by omega),if_pos rfl]
  ·rw [Cr.go_at,if_pos rfl]
  ·rw [Cr.go_at,if_neg (by omega),if_neg (by omega)]
   exact (uh hA').e9
  ·rw [Cr.go_at,if_neg (by omega),if_neg (by omega)]
   exact (uh hA').e10
 have t1:IntKind.i64.wrap ((d:Int) / 24)=(d:Int) / 24:=by rw [IntKind.wrap_i64];have:=(uh HD).1;omega
 clear hFe hr32
 go_upto_region 6 with fail
 go_cut [] from 22 to 48 (fun wx=>Hid (Gd.Law w wx X gC gE gI cC cE cI S.s S.g S.c F S.I))
 case first =>
  have hS0:wh.drew.cell? ⟨X,5,none⟩=some (.slice (some ⟨gE,0,none⟩) 32 cE):=b5
  have hS1:(wh.drew.setCell ⟨gE,r*11+3,none⟩ (.int .i64 ((d:Int) % 24))).cell? ⟨X,5,none⟩=some (.slice (some ⟨gE,0,none⟩) 32 cE):=(((uh hX).on (gd1 (World.grownBy.refl _ none))).stat r 3 (by omega) ((d:Int) % 24)).eleven.2.2.2.2.2.1
  clear hFF HU HD NUD cG m10 gd0 hX hA'
  refine wp_region_till (h:=15) (S:=fun x=>x.cell? ⟨X,5,none⟩=some (.slice (some ⟨gE,0,none⟩) 32 cE)) (by kernel_rfl) ?_
  refine wtk (i:=0) (v:=?_) [15] rfl (by kernel_rfl) (by kernel_rfl) (by kernel_rfl) (by kernel_rfl) (fun _ _ _ h=>h) hS0 (Or.inl ⟨by rfl,?_⟩) ?_
  rotate_left
  ·intro x hSx
   try dsimp only at hSx
   go_simp
   try with_reducible rfl
  simp only [Act.put]
  refine wtk (i:=1) (v:=?_) [15] rfl (by kernel_rfl) (by kernel_rfl) (by kernel_rfl) (by kernel_rfl) (fun _ _ _ h=>h) hS0 (Or.inl ⟨by rfl,?_⟩) ?_
  rotate_left
  ·intro x hSx
   try dsimp only at hSx
   go_simp
   try with_reducible rfl
  simp only [Act.put]
  refine wtk (i:=2) (v:=?_) [15] rfl (by kernel_rfl) (by kernel_rfl) (by kernel_rfl) (by kernel_rfl) (fun _ _ _ h=>h) hS0 (Or.inl ⟨by rfl,?_⟩) ?_
  rotate_left
  ·intro x hSx
   try dsimp only at hSx
   go_simp
   try with_reducible rfl
  simp only [Act.put]
  refine wtk (i:=3) (v:=?_) [15] rfl (by kernel_rfl) (by kernel_rfl) (by kernel_rfl) (by kernel_rfl) (fun _ _ _ h=>h) hS0 (Or.inl ⟨by rfl,?_⟩) ?_
  rotate_left
  ·intro x hSx
   try dsimp only at hSx
   go_simp
   try with_reducible rfl
  simp only [Act.put]
  refine wtk (i:=4) (v:=?_) [15] rfl (by kernel_rfl) (by kernel_rfl) (by kernel_rfl) (by kernel_rfl) (fun _ _ _ h=>h) hS0 (Or.inl ⟨by rfl,?_⟩) ?_
  rotate_left
  ·intro x hSx
   try dsimp only at hSx
   go_simp
   try with_reducible rfl
  simp only [Act.put]
  refine wtk (i:=5) (v:=?_) [15] rfl (by kernel_rfl) (by kernel_rfl) (by kernel_rfl) (by kernel_rfl) (fun _ _ _ h=>h) hS0 (Or.inl ⟨by rfl,?_⟩) ?_
  rotate_left
  ·intro x hSx
   try dsimp only at hSx
   go_simp
   try with_reducible rfl
  simp only [Act.put]
  refine wtk (i:=6) (v:=?_) [15] rfl (by kernel_rfl) (by kernel_rfl) (by kernel_rfl) (by kernel_rfl) (fun _ _ _ h=>h) hS0 (Or.inl ⟨by rfl,?_⟩) ?_
  rotate_left
  ·intro x hSx
   try dsimp only at hSx
   go_simp
   try with_reducible rfl
  simp only [Act.put]
  refine wtk (i:=7) (v:=?_) [15] rfl (by kernel_rfl) (by kernel_rfl) (by kernel_rfl) (by kernel_rfl) (fun _ _ _ h=>h) hS0 (Or.inl ⟨by rfl,?_⟩) ?_
  rotate_left
  ·intro x hSx
   try dsimp only at hSx
   go_simp
   try with_reducible rfl
  simp only [Act.put]
  refine wtk (i:=8) (v:=?_) [15] rfl (by kernel_rfl) (by kernel_rfl) (by kernel_rfl) (by kernel_rfl) (fun _ _ _ h=>h) hS0 (Or.inl ⟨by rfl,?_⟩) ?_
  rotate_left
  ·intro x hSx
   try dsimp only at hSx
   go_simp
   try with_reducible rfl
  simp only [Act.put]
  refine wtk (i:=9) (v:=?_) [15] rfl (by kernel_rfl) (by kernel_rfl) (by kernel_rfl) (by kernel_rfl) (fun _ _ _ h=>h) hS0 (Or.inl ⟨by rfl,?_⟩) ?_
  rotate_left
  ·intro x hSx
   try dsimp only at hSx
   go_simp
   try with_reducible rfl
  simp only [Act.put]
  refine wtk (i:=10) (v:=?_) [15] rfl (by kernel_rfl) (by kernel_rfl) (by kernel_rfl) (by kernel_rfl) (fun _ _ _ h=>h) hS0 (Or.inl ⟨by rfl,?_⟩) ?_
  rotate_left
  ·intro x hSx
   try dsimp only at hSx
   go_simp
   try with_reducible rfl
  simp only [Act.put]
  refine wtk (i:=11) (v:=?_) [15] rfl (by kernel_rfl) (by kernel_rfl) (by kernel_rfl) (by kernel_rfl) (fun _ _ _ h=>h) hS0 (Or.inl ⟨by rfl,?_⟩) ?_
  rotate_left
  ·intro x hSx
   try dsimp only at hSx
   go_simp
   try with_reducible rfl
  simp only [Act.put]
  refine wto (j:=12) (by kernel_rfl) rfl (fun K hK=>?_)
  go_simp
  refine hK.out _ _ (fun _=>hS1) ?_
  clear hK K
  refine wtk (i:=13) (v:=?_) [14,15] rfl (by kernel_rfl) (by kernel_rfl) (by kernel_rfl) (by kernel_rfl) (fun _ _ _ h=>h) hS1 (Or.inl ⟨by rfl,?_⟩) ?_
  rotate_left
  ·intro x hSx
   try dsimp only at hSx
   go_simp
   try with_reducible rfl
  simp only [Act.put]
  refine wtk (i:=14) (v:=?_) [15] rfl (by kernel_rfl) (by kernel_rfl) (by kernel_rfl) (by kernel_rfl) (fun _ _ _ h=>h) hS1 (Or.inl ⟨by rfl,?_⟩) ?_
  rotate_left
  ·intro x hSx
   try dsimp only at hSx
   go_simp
   try with_reducible rfl
  simp only [Act.put]
  refine wto (j:=15) (by kernel_rfl) rfl (fun K hK=>?_)
  go_simp
  refine hK.out _ _ (fun hx=>absurd (hx.symm.trans (by kernel_rfl)) Bool.false_ne_true) ?_
  clear hK K
  refine wpTill_done (by kernel_rfl) ?_ _
  ·go_wp2_with fail
   go_meet
   exact (uh hst).on (gd1 (World.grownBy.refl _ _))
 case rest =>
  have hX0:Hid (Gd.Law w wc X gC gE gI cC cE cI S.s S.g S.c F (fun _ _=>0)):=(uh hcut).same (uh hA').bag
  clear hcut hst b5 fE r3 r4 hXE hEX hX hk'
  go_wp2_with fail
  refine (uh cG _).mono ?_
  rintro e wy ⟨rfl,hy⟩
  subst wy
  clear cG
  obtain ⟨g1,hg1⟩:∃g1,Gd.give S.g 0 gd=g1:=⟨_,rfl⟩
  have hgo:Hid (Cr.Gold g1):=by
   rw [←hg1]
   intro t ht
   have:=uh gd0
   unfold Gd.give
   split
   ·omega
   ·exact (uh hA').good.gold t ht
  have fX:=(uh hX0).hold.box.free
  have b7:=(uh hX0).eleven.2.2.2.2.2.2.2.1
  have hX1:=hide ((uh hX0).gold 0 (by omega) gd)
  rw [hg1,show (7+0:Nat)=7 from rfl] at hX1
  clear hX0 hg1 gd0
  go_upto_region 8 with fail
  generalize wc.setCell ⟨X,7,none⟩ (.int .i64 gd)=wi at hX1 ⊢
  clear fX b7
  have b6:=(uh hX1).eleven.2.2.2.2.2.2.1
  have fI:=(uh hX1).hold.lists.items.free
  obtain ⟨i0,i1,i2,i3⟩:=(uh hX1).hold.lists.its.row (k:=3) (by omega)
  have hX3:=hide ((uh hX1).put 3 2 3 0 0)
  rw [show (3*4:Nat)=12 from rfl,show (12+1:Nat)=13 from rfl,show (12+2:Nat)=14 from rfl,show (12+3:Nat)=15 from rfl] at hX3
  rw [show (3*4:Nat)=12 from rfl] at i0
  rw [show (3*4+1:Nat)=13 from rfl] at i1
  rw [show (3*4+2:Nat)=14 from rfl] at i2
  rw [show (3*4+3:Nat)=15 from rfl] at i3
  clear hX1
  go_upto_region 9 with fail
  generalize (((wi.setCell ⟨gI,12,none⟩ (.int .i64 2)).setCell ⟨gI,13,none⟩ (.int .i64 3)).setCell ⟨gI,14,none⟩ (.int .i64 0)).setCell ⟨gI,15,none⟩ (.int .i64 0)=wi3 at hX3 ⊢
  clear b6 fI i0 i1 i2 i3
  have b6:=(uh hX3).eleven.2.2.2.2.2.2.1
  have fI:=(uh hX3).hold.lists.items.free
  obtain ⟨i0,i1,i2,i3⟩:=(uh hX3).hold.lists.its.row (k:=4) (by omega)
  have hX4:=hide ((uh hX3).put 4 1 2 0 2)
  rw [show (4*4:Nat)=16 from rfl,show (16+1:Nat)=17 from rfl,show (16+2:Nat)=18 from rfl,show (16+3:Nat)=19 from rfl] at hX4
  rw [show (4*4:Nat)=16 from rfl] at i0
  rw [show (4*4+1:Nat)=17 from rfl] at i1
  rw [show (4*4+2:Nat)=18 from rfl] at i2
  rw [show (4*4+3:Nat)=19 from rfl] at i3
  clear hX3
  go_upto_region 10 with fail
  generalize (((wi3.setCell ⟨gI,16,none⟩ (.int .i64 1)).setCell ⟨gI,17,none⟩ (.int .i64 2)).setCell ⟨gI,18,none⟩ (.int .i64 0)).setCell ⟨gI,19,none⟩ (.int .i64 2)=wi34 at hX4 ⊢
  clear b6 fI i0 i1 i2 i3
  have b6:=(uh hX4).eleven.2.2.2.2.2.2.1
  have fI:=(uh hX4).hold.lists.items.free
  obtain ⟨i0,i1,i2,i3⟩:=(uh hX4).hold.lists.its.row (k:=30) (by omega)
  have hX30:=hide ((uh hX4).put 30 3 1 ((d:Int) % 24) ((d:Int) / 24))
  rw [show (30*4:Nat)=120 from rfl,show (120+1:Nat)=121 from rfl,show (120+2:Nat)=122 from rfl,show (120+3:Nat)=123 from rfl] at hX30
  rw [show (30*4:Nat)=120 from rfl] at i0
  rw [show (30*4+1:Nat)=121 from rfl] at i1
  rw [show (30*4+2:Nat)=122 from rfl] at i2
  rw [show (30*4+3:Nat)=123 from rfl] at i3
  clear hX4
  go_upto_region 11 with fail
  generalize (((wi34.setCell ⟨gI,120,none⟩ (.int .i64 3)).setCell ⟨gI,121,none⟩ (.int .i64 1)).setCell ⟨gI,122,none⟩ (.int .i64 ((d:Int) % 24))).setCell ⟨gI,123,none⟩ (.int .i64 ((d:Int) / 24))=wi3430 at hX30 ⊢
  clear b6 fI i0 i1 i2 i3
  have hX:Hid (Gd.Law w wi3430 X gC gE gI cC cE cI S.s g1 S.c F (Cr.pack d)):=uh hX30
  clear hX30 t1
  have hok:Hid (Cr.Sane S.c F (Cr.pack d)):=⟨⟨(uh hFF).1.fit.cells,Cr.pack_ok (uh HD).1 (by rw [(uh HD).2.2];rfl),(uh hFF).1.fit.rows⟩,(uh hFF).1.set,(uh hFF).1.seats⟩
  have hAd:Hid (Gr.at 384 S.c ((d:Int) % 24) ((d:Int) / 24)=4):=by
   have hd:=(uh HD).1
   show Gr.at 384 S.c ((d:Int) % 24) ((d:Int) / 24)=4
   rw [Gr.at_in (k:=d) ((Gr.inB_iff _ _).2 (by omega)) (by omega)]
   exact (uh HD).2.2
  by_cases hev:a3 % 2=0
  ·have HEV:=hide hev
   have e1:a3.tmod 2=0:=Int.tmod_eq_zero_of_dvd (Int.dvd_of_emod_eq_zero hev)
   clear hev
   have cst:=hide (fun wq=>entRefStats_any 1 wq)
   obtain ⟨st,hst⟩:∃st,En.stats 1=st:=⟨_,rfl⟩
   rw [hst] at cst
   have HST:=hide hst
   clear hst
   unfold En.cells at cst
   go_wp2_with fail
   refine (uh cst _).mono ?_
   rintro e w1 ⟨rfl,hg1⟩
   have hQ:=hide (Lie.born w1 st 42)
   have hg2:=hide (gtr hg1 (World.grownBy_alloc w1 (.cells (En.cells st) 42) none))
   have hX1:=hide ((uh hX).on (uh hg2))
   have nQ:Hid (w1.heap.size≠gE∧w.heap.size≤w1.heap.size):=(show w1.heap.size≠gE∧w.heap.size≤w1.heap.size by have k1:=((uh hX).on hg1).hold.lists.ents.lt;have k2:=((uh hX).on hg1).grown.size;omega)
   clear hg1 cst hg2 hX
   unfold En.cells at hQ hX1
   go_upto_region 13 with fail
   obtain ⟨Q,hQe⟩:∃Q,w1.heap.size=Q:=⟨_,rfl⟩
   rw [hQe] at hQ nQ ⊢
   generalize w1.alloc (.cells #[.int .i64 (st 0),.int .i64 (st 1),.int .i64 (st 2),.int .i64 (st 3),.int .i64 (st 4),.int .i64 (st 5),.int .i64 (st 6),.int .i64 (st 7),.int .i64 (st 8),.int .i64 (st 9),.int .i64 (st 10)] 42)=w2 at hQ hX1 ⊢
   clear hQe w1
   have nX:=hide ((uh hQ).type_ne (uh hX1).hold.box (by decide))
   have nC:=hide ((uh hQ).type_ne (uh hX1).hold.lists.cells (by decide))
   have nI:=hide ((uh hQ).type_ne (uh hX1).hold.lists.items (by decide))
   have z2:=(uh hQ).ent.2.2.1
   have zf:=(uh hQ).free
   have hQ2:=hide ((uh hQ).upd 2 3)
   have hX2:=hide ((uh hX1).beside (B:=Q) (o:=2) (uh nQ).2 (uh nX) (uh nC) (uh nQ).1 (uh nI) (.int .i64 3))
   clear hQ hX1
   go_upto_region 14 with fail
   generalize w2.setCell ⟨Q,2,none⟩ (.int .i64 3)=w3 at hQ2 hX2 ⊢
   clear z2 zf
   have b4:=(uh hX2).eleven.2.2.2.2.1
   have cf3:=hide (refFind_any w3.heap.size (some ⟨gC,0,none⟩) 384 cC S.c 3 w3 (uh hX2).hold.lists.vec (uh hA').good.sane.fit.cells)
   rw [(uh HU).2.1] at cf3
   go_wp2_with fail
   refine (uh cf3).mono ?_
   rintro e wy ⟨rfl,hy⟩
   subst wy
   clear cf3 b4
   obtain ⟨z0,z1,z2,z3,z4,z5,z6,z7,z8,z9,z10⟩:=(uh hQ2).ent
   have zf:=(uh hQ2).free
   have t4:IntKind.i64.wrap ((u:Int) / 24)=(u:Int) / 24:=by rw [IntKind.wrap_i64];have:=(uh HU).1;omega
   have hQ3:=hide (((uh hQ2).upd 3 ((u:Int) % 24)).upd 4 ((u:Int) / 24))
   have hX3:=hide (((uh hX2).beside (B:=Q) (o:=3) (uh nQ).2 (uh nX) (uh nC) (uh nQ).1 (uh nI) (.int .i64 ((u:Int) % 24))).beside (B:=Q) (o:=4) (uh nQ).2 (uh nX) (uh nC) (uh nQ).1 (uh nI) (.int .i64 ((u:Int) / 24)))
   obtain ⟨p,hp⟩:∃p,En.upd (En.upd (En.upd st 2 3) 3 ((u:Int) % 24)) 4 ((u:Int) / 24)=p:=⟨_,rfl⟩
   have HPO:Hid (p=Cr.one 1 3 u):=by rw [←hp,←uh HST];rfl
   rw [hp] at hQ3
   clear hp hQ2 hX2
   go_upto_region 16 with fail
   generalize (w3.setCell ⟨Q,3,none⟩ (.int .i64 ((u:Int) % 24))).setCell ⟨Q,4,none⟩ (.int .i64 ((u:Int) / 24))=w4 at hQ3 hX3 ⊢
   clear z0 z1 z2 z3 z4 z5 z6 z7 z8 z9 z10 zf t4
   obtain ⟨z0,z1,z2,z3,z4,z5,z6,z7,z8,z9,z10⟩:=(uh hQ3).ent
   have b5:=(uh hX3).eleven.2.2.2.2.2.1
   have csp:=hide (refSpawn_fit gE cE F p w4 (uh hX3).hold.lists.own.ents (by rw [uh HPO,(Cr.one_at 1 3 u).1 (by omega) (by omega)];omega) (by rw [uh HPO,(Cr.one_at 1 3 u).1 (by omega) (by omega)];omega) (uh hok).good.gens)
   unfold En.cells at csp
   go_wp2_with fail
   refine (uh csp).mono ?_
   rintro e w5 (⟨q,hq,hq0,jG,cG,rfl,hlo,hn,hcm,hown,hg⟩ | ⟨hfull,rfl,hg⟩)
   rotate_left
   ·exfalso
    have k:=(uh hFF).2.1
    rcases Nat.decEq r 0 with h0 | h0
    ·exact hfull 0 (by omega) (k.free 0 (by omega) (by omega))
    ·exact hfull 1 (by omega) (k.free 1 (by omega) (by omega))
   ·have hX5:=hide ((uh hX3).folk hn hlo hown hg)
    have b5':=((uh hX3).on hg).eleven.2.2.2.2.2.1
    have fX:=((uh hX3).on hg).hold.box.free
    have hgen:=(uh hok).good.gens q hq
    obtain ⟨γ,hγ⟩:∃γ,(F q 1+1) % 256=γ:=⟨_,rfl⟩
    rw [hγ,uh HPO] at hX5
    have hsec:=hide (Cr.Sole.second (uh hok) (uh hFF).2.1 (uh hFF).2.2.2.2.1 (uh hFF).2.2.2.2.2 hq hq0 (uh HU).1 (by rw [(uh HU).2.2];rfl) (uh hFF).2.2.1 (uh hFF).2.2.2.1 (uh NUD) (γ:=γ) (by omega) (by omega))
    obtain ⟨G,hGe⟩:∃G,En.put F q (En.gen (Cr.one 1 3 u) γ)=G:=⟨_,rfl⟩
    rw [hGe] at hX5 hsec
    clear hn hlo hcm hown hg csp b5 z0 z1 z2 z3 z4 z5 z6 z7 z8 z9 z10 hX3 hQ3 nX nC nI nQ hγ hGe hgen
    go_upto_region 18 with fail
    generalize w5.setCell ⟨X,5,none⟩ (.slice (some ⟨jG,0,none⟩) 32 cG)=w6 at hX5 ⊢
    clear b5' fX
    have hX:=hX5
    clear hX5
    have hCa:=hide (uh hsec).2.1
    have hYes:=hide (uh hsec).2.2.1
    have hAt:Hid (Gr.at 384 S.c (G r 3) (G r 4)=4):=by
     show Gr.at 384 S.c (G r 3) (G r 4)=4
     rw [(uh hsec).2.2.2,(uh hFF).2.2.1,(uh hFF).2.2.2.1]
     exact uh hAd
    have hGd:Hid (Cr.Good ⟨S.s,g1,S.c,G,Cr.pack d⟩):=⟨(uh hsec).1,(uh hA').good.floor,uh hgo,(uh hA').good.f1,(uh hA').good.f3,(uh hA').good.s0,(uh hA').good.s2⟩
    clear hFF hok hAd hgo hsec hq hq0 HPO HST
    obtain ⟨wd,hwd⟩:∃wd,wd=w6.alloc (.cells #[.int .i64 0,.int .i64 0,.bool false,.int .i64 0,.int .i64 0,.bool false,.int .i64 0,.int .i64 0,.bool false,.int .i64 0,.int .i64 0,.bool false] 35):=⟨_,rfl⟩
    have hgd:w6.grownBy wd none:=by rw [hwd];exact World.grownBy_alloc _ _ _
    have hSc:Hid (Cr.Scene w wd X w6.heap.size gC jG gI cC cG cI (fun _=>0) (fun _=>0) (fun _=>false) ⟨S.s,g1,S.c,G,Cr.pack d⟩):=by
     refine ⟨(uh hX).on hgd,?_,(uh hX).grown.size⟩
     rw [hwd]
     exact Cr.acts_lie (h:=fun _=>0) (i:=fun _=>0) (b:=fun _=>false) (heap_alloc_new w6 _)
    clear hgd hX
    go_upto_region 19 with fail
    rw [←hwd]
    clear hwd
    obtain ⟨A,hAe⟩:∃A,w6.heap.size=A:=⟨_,rfl⟩
    rw [hAe] at hSc ⊢
    clear hAe
    clear w6
    obtain ⟨x0,x1,x2,x3,x4,x5,x6,x7,x8,x9,x10,x11⟩:=(uh hSc).twelve
    have fA:=(uh hSc).acts.free
    have hS4:=hide ((uh hSc).act 0 1 9 false)
    clear hSc
    go_upto_region 20 with fail
    rw [show (0*3:Nat)=0 from rfl,show (0+1:Nat)=1 from rfl,show (0+2:Nat)=2 from rfl] at hS4
    generalize ((wd.setCell ⟨A,0,none⟩ (.int .i64 1)).setCell ⟨A,1,none⟩ (.int .i64 9)).setCell ⟨A,2,none⟩ (.bool false)=wt at hS4 ⊢
    clear x0 x1 x2 x3 x4 x5 x6 x7 x8 x9 x10 x11 fA wd
    obtain ⟨b0,b1,b2,b3,b4,b5,b6,b7,b8,b9,b10⟩:=(uh hS4).law.eleven
    obtain ⟨x0,x1,x2,x3,x4,x5,x6,x7,x8,x9,x10,x11⟩:=(uh hS4).twelve
    have v1:=(uh hA').s1
    have cs:=hide ((uh hS4).step (uh hGd) (by show -9223372036854775808≤S.s 1;omega) (by show S.s 1<9223372036854775807;omega))
    clear v1
    try dsimp only at b0 b1 b2 b3 b4 b5 b6 b7 b8 b9 b10 cs
    simp only [if_true,Nat.one_ne_zero,if_false,(show ¬(2:Nat)=0 by omega),(show ¬(3:Nat)=0 by omega),ite_self] at x0 x1 x2 x3 x4 x5 x6 x7 x8 x9 x10 x11 cs
    go_wp2_with fail
    refine (uh cs).mono ?_
    rintro e wu ⟨U,hU,jC,jE,jI,dC,dE,dI,rfl,hcap,l1,l2,l3,n1,n2,n3,hL,hg⟩
    have hUe:=Cr.pack_step (d:=d) hU (uh hGd) rfl (uh hCa) (uh hA').s3 (uh hA').s1 (by have:=(uh hA').s2;have:=uh m10;show S.s 2≤2;omega) rfl rfl (fun t _ t0=>by first | rfl | simp [t0]) (fun _ _=>by first | rfl | simp) (uh hAt)
    obtain ⟨us,ug,uc,V,J⟩:=U
    dsimp only at hUe
    obtain ⟨qG,q2,q3,qg,qh,⟨u2,qu,qfu,qx,qy⟩,q33,qf,qi3,qi4,qi30⟩:=hUe
    subst ug
    have QG:=hide qG
    have Q2:=hide (And.intro q2 (And.intro q3 qh))
    have QU:=hide (And.intro qu (And.intro qfu (And.intro qx qy)))
    have Q3:=hide q33
    have QF:=hide qf
    have QI:=hide (And.intro qi3 (And.intro qi4 qi30))
    have hW:=hide (Gd.law_new (s:=us) (g:=g1) (cC:=dC) (cI:=dI) (uh hS4).law.grown hcap.1 l1 l2 l3 n1 n2 n3 hL hg)
    have hO:=hide ((uh hS4).law.on (gtr hg (World.grownBy_alloc wu (.cells #[.int .i64 (us 0),.int .i64 (us 1),.int .i64 (us 2),.int .i64 (us 3),.slice (some ⟨jC,0,none⟩) 384 dC,.slice (some ⟨jE,0,none⟩) 32 dE,.slice (some ⟨jI,0,none⟩) 40 dI,.int .i64 (g1 0),.int .i64 (g1 1),.int .i64 (g1 2),.int .i64 (g1 3)] 28) none)))
    clear hcap l1 l2 l3 n1 n2 n3 hL hg hU cs x0 x1 x2 x3 x4 x5 x6 x7 x8 x9 x10 x11 b0 b1 b2 b3 b4 b5 b6 b7 b8 b9 b10 hS4 qG q2 q3 qh qu qfu qx qy q33 qf qi3 qi4 qi30 hGd hCa hAt
    unfold Gd.world at hW ⊢
    go_upto_region 21 with fail
    obtain ⟨Y,hYe⟩:∃Y,wu.heap.size=Y:=⟨_,rfl⟩
    rw [hYe] at hW ⊢
    clear hYe
    generalize wu.alloc (.cells #[.int .i64 (us 0),.int .i64 (us 1),.int .i64 (us 2),.int .i64 (us 3),.slice (some ⟨jC,0,none⟩) 384 dC,.slice (some ⟨jE,0,none⟩) 32 dE,.slice (some ⟨jI,0,none⟩) 40 dI,.int .i64 (g1 0),.int .i64 (g1 1),.int .i64 (g1 2),.int .i64 (g1 3)] 28)=wv at hW hO ⊢
    clear wu wt
    try dsimp only at hO hW
    obtain ⟨b0,b1,b2,b3,b4,b5,b6,b7,b8,b9,b10⟩:=(uh hO).eleven
    obtain ⟨y0,y1,y2,y3,y4,y5,y6,y7,y8,y9,y10⟩:=(uh hW).eleven
    rw [(uh Q2).1] at y2
    rw [(uh Q2).2.1] at y3
    have t2:IntKind.i64.wrap (S.s 2+1)=S.s 2+1:=by rw [IntKind.wrap_i64];have:=(uh hA').s2;omega
    have o12:wv.cell? ⟨gI,12,none⟩=some (.int .i64 2):=((uh hO).hold.lists.its.row (k:=3) (by omega)).1
    have o13:wv.cell? ⟨gI,13,none⟩=some (.int .i64 3):=((uh hO).hold.lists.its.row (k:=3) (by omega)).2.1
    have o14:wv.cell? ⟨gI,14,none⟩=some (.int .i64 0):=((uh hO).hold.lists.its.row (k:=3) (by omega)).2.2.1
    have o15:wv.cell? ⟨gI,15,none⟩=some (.int .i64 0):=((uh hO).hold.lists.its.row (k:=3) (by omega)).2.2.2
    have o16:wv.cell? ⟨gI,16,none⟩=some (.int .i64 1):=((uh hO).hold.lists.its.row (k:=4) (by omega)).1
    have o17:wv.cell? ⟨gI,17,none⟩=some (.int .i64 2):=((uh hO).hold.lists.its.row (k:=4) (by omega)).2.1
    have o18:wv.cell? ⟨gI,18,none⟩=some (.int .i64 0):=((uh hO).hold.lists.its.row (k:=4) (by omega)).2.2.1
    have o19:wv.cell? ⟨gI,19,none⟩=some (.int .i64 2):=((uh hO).hold.lists.its.row (k:=4) (by omega)).2.2.2
    have v12:wv.cell? ⟨jI,12,none⟩=some (.int .i64 2):=by
     have h:=((uh hW).hold.lists.its.row (k:=3) (by omega)).1
     rw [(uh QI).1] at h
     exact h
    have v13:wv.cell? ⟨jI,13,none⟩=some (.int .i64 3):=by
     have h:=((uh hW).hold.lists.its.row (k:=3) (by omega)).2.1
     rw [(uh QI).1] at h
     exact h
    have v14:wv.cell? ⟨jI,14,none⟩=some (.int .i64 0):=by
     have h:=((uh hW).hold.lists.its.row (k:=3) (by omega)).2.2.1
     rw [(uh QI).1] at h
     exact h
    have v15:wv.cell? ⟨jI,15,none⟩=some (.int .i64 0):=by
     have h:=((uh hW).hold.lists.its.row (k:=3) (by omega)).2.2.2
     rw [(uh QI).1] at h
     exact h
    have v16:wv.cell? ⟨jI,16,none⟩=some (.int .i64 1):=by
     have h:=((uh hW).hold.lists.its.row (k:=4) (by omega)).1
     rw [(uh QI).2.1] at h
     exact h
    have v17:wv.cell? ⟨jI,17,none⟩=some (.int .i64 2):=by
     have h:=((uh hW).hold.lists.its.row (k:=4) (by omega)).2.1
     rw [(uh QI).2.1] at h
     exact h
    have v18:wv.cell? ⟨jI,18,none⟩=some (.int .i64 0):=by
     have h:=((uh hW).hold.lists.its.row (k:=4) (by omega)).2.2.1
     rw [(uh QI).2.1] at h
     exact h
    have v19:wv.cell? ⟨jI,19,none⟩=some (.int .i64 2):=by
     have h:=((uh hW).hold.lists.its.row (k:=4) (by omega)).2.2.2
     rw [(uh QI).2.1] at h
     exact h
    have v120:wv.cell? ⟨jI,120,none⟩=some (.int .i64 0):=by
     have h:=((uh hW).hold.lists.its.row (k:=30) (by omega)).1
     rw [(uh QI).2.2] at h
     exact h
    have v121:wv.cell? ⟨jI,121,none⟩=some (.int .i64 0):=by
     have h:=((uh hW).hold.lists.its.row (k:=30) (by omega)).2.1
     rw [(uh QI).2.2] at h
     exact h
    have v122:wv.cell? ⟨jI,122,none⟩=some (.int .i64 0):=by
     have h:=((uh hW).hold.lists.its.row (k:=30) (by omega)).2.2.1
     rw [(uh QI).2.2] at h
     exact h
    have v123:wv.cell? ⟨jI,123,none⟩=some (.int .i64 0):=by
     have h:=((uh hW).hold.lists.its.row (k:=30) (by omega)).2.2.2
     rw [(uh QI).2.2] at h
     exact h
    have hgold:=fun x:World=>run_eq_gold (g1 0) (g1 1) (g1 2) (g1 3) x
    go_quiet (fail)
    have hW1:=hide ((uh hW).on (gdw (World.grownBy.refl wv none) nq))
    clear b0 b1 b2 b3 b4 b5 b6 b7 b8 b9 b10 y0 y1 y2 y3 y4 y5 y6 y7 y8 y9 y10 o12 o13 o14 o15 o16 o17 o18 o19 v12 v13 v14 v15 v16 v17 v18 v19 v120 v121 v122 v123 hgold hO hW t2
    generalize wv.drewN nq=wq at hW1 ⊢
    clear wv
    have y4:=(uh hW1).eleven.2.2.2.2.1
    have cf:=hide (refFind_any wq.heap.size (some ⟨jC,0,none⟩) 384 dC uc 3 wq (uh hW1).hold.lists.vec (uh QG).sane.fit.cells)
    rw [(uh QU).2.1] at cf
    go_wp2_with fail
    refine (uh cf).mono ?_
    rintro e wy ⟨rfl,hy⟩
    subst wy
    clear cf y4
    have y5:=(uh hW1).eleven.2.2.2.2.2.1
    have ch0:=hide (refHero_same jE 32 dE V 0 wq (uh hW1).hold.lists.own.ents)
    have ch3:=hide (refHero_same jE 32 dE V 3 wq (uh hW1).hold.lists.own.ents)
    have hh0:=(uh Q2).2.2
    unfold Gd.hero at hh0
    rw [hh0] at ch0
    clear hh0
    have hz0:=(uh Q3).2 (uh hYes)
    unfold Gd.hero at hz0
    obtain ⟨z3,hz3⟩:∃z,En.first (En.heroQ V 3) 32=z:=⟨_,rfl⟩
    rw [hz3] at ch3 hz0
    have hz1:z3≥0:=by omega
    clear hz3 hz0
    have hr32:=(uh hA').sole.lt
    have hk':(r:Int)<32:=by omega
    have r3:=((uh hW1).hold.lists.own.ents.row hr32).2.2.2.1
    have r4:=((uh hW1).hold.lists.own.ents.row hr32).2.2.2.2.1
    rw [(uh QU).2.2.1] at r3
    rw [(uh QU).2.2.2] at r4
    have t1:IntKind.i64.wrap ((u2:Int) / 24)=(u2:Int) / 24:=by rw [IntKind.wrap_i64];have:=(uh QU).1;omega
    clear hr32
    go_wp2_with fail
    refine (uh ch0).mono ?_
    rintro e wy ⟨rfl,hy⟩
    subst wy
    clear ch0
    go_wp2_with fail
    refine (uh ch3).mono ?_
    rintro e wy ⟨rfl,hy⟩
    subst wy
    clear ch3
    go_upto_region 26 with fail
    clear r3 r4 t1 hk' hz1 y5
    go_wp2_with fail
    go_loop [20,21] (fun vf vi=>∃i:Nat,i≤32∧vf=.int .i64 (Cr.foes V i:Int)∧vi=.int .i64 (i:Int)) (fun _ vi=>40 - (intOf vi).toNat)
    case atStart=>exact ⟨0,by omega,rfl,rfl⟩
    case round =>
     obtain ⟨i,hi,rfl,rfl⟩:=hrel
     have y5:=(uh hW1).eleven.2.2.2.2.2.1
     by_cases hlt:i<32
     ·have hlt':(i:Int)<32:=by omega
      have HL:=hide hlt
      have q0:=((uh hW1).hold.lists.own.ents.row hlt).1
      have hfi:Hid (Cr.foes V i≤i):=Cr.foes_le V i
      obtain ⟨n,hn⟩:∃n,Cr.foes V i=n:=⟨_,rfl⟩
      rw [hn] at hfi ⊢
      have t5:IntKind.i64.wrap ((n:Int)+1)=(n:Int)+1:=by rw [IntKind.wrap_i64];have:=uh hfi;omega
      by_cases hk:V i 0 > 1
      ·have hn2:Hid (Cr.foes V (i+1)=n+1):=(show Cr.foes V (i+1)=n+1 by unfold Cr.foes;rw [hn,if_pos hk])
       clear hlt hi hn
       go_wp2
       go_round
       case rel=>exact ⟨i+1,by have:=uh HL;omega,by rw [uh hn2];go_num,by go_num⟩
       case measure=>simp [intOf];have:=uh HL;omega
      ·have hn2:Hid (Cr.foes V (i+1)=n):=(show Cr.foes V (i+1)=n by unfold Cr.foes;rw [hn,if_neg hk];rfl)
       clear hlt hi hn t5
       go_wp2
       go_round
       case rel=>exact ⟨i+1,by have:=uh HL;omega,by rw [uh hn2],by go_num⟩
       case measure=>simp [intOf];have:=uh HL;omega
     ·obtain rfl:i=32:=by omega
      have hge:¬((32:Nat):Int)<32:=by omega
      clear hlt hi
      obtain ⟨y0,y1,y2,y3,y4,y5,y6,y7,y8,y9,y10⟩:=(uh hW1).eleven
      have hle:=uh QF
      obtain ⟨n,hn⟩:∃n,Cr.foes V 32=n:=⟨_,rfl⟩
      rw [hn] at hle ⊢
      have f1:=(uh QG).f1
      have f3:=(uh QG).f3
      try dsimp only at f1 f3 hle
      have t6:IntKind.i64.wrap (us 2+2)=us 2+2:=by rw [IntKind.wrap_i64];omega
      have ck:=hide (refCheck_any us g1 uc V J jC jE jI dC dE dI wq (uh hW1).hold.lists (uh QG).sane.fit.cells)
      unfold Gd.world at ck
      clear hn f1 f3
      go_wp2_with fail
      refine (uh ck).mono ?_
      rintro e w9 ⟨b,rfl,hb,hg9⟩
      obtain rfl:b=true:=hb.2 (uh QG).sane.fit.ok
      have hg10:=hide (gtr (uh hW1).grown hg9)
      clear hb hg9 ck hW1 y0 y1 y2 y3 y4 y5 y6 y7 y8 y9 y10
      go_wp2_with fail
      go_ret
      exact ⟨rfl,none_below (uh hg10)⟩
  ·have HEV:=hide hev
   have e1:(a3.tmod 2 == 0)=false:=by
    have:¬a3.tmod 2=0:=fun h=>hev (Int.emod_eq_zero_of_dvd (Int.dvd_of_tmod_eq_zero h))
    simp [this]
   have e2:(a3 % 2 == 0)=false:=by simpa using hev
   clear hev
   have hCa:=hide ((uh hFF).2.1.calm (uh hFF).2.2.2.2.1 (uh hFF).2.2.2.2.2).1
   have hNo:=hide ((uh hFF).2.1.calm (uh hFF).2.2.2.2.1 (uh hFF).2.2.2.2.2).2
   have hAt:Hid (Gr.at 384 S.c (F r 3) (F r 4)=4):=by
    show Gr.at 384 S.c (F r 3) (F r 4)=4
    rw [(uh hFF).2.2.1,(uh hFF).2.2.2.1]
    exact uh hAd
   have hGd:Hid (Cr.Good ⟨S.s,g1,S.c,F,Cr.pack d⟩):=⟨uh hok,(uh hA').good.floor,uh hgo,(uh hA').good.f1,(uh hA').good.f3,(uh hA').good.s0,(uh hA').good.s2⟩
   clear hFF hok hAd hgo
   obtain ⟨wd,hwd⟩:∃wd,wd=wi3430.alloc (.cells #[.int .i64 0,.int .i64 0,.bool false,.int .i64 0,.int .i64 0,.bool false,.int .i64 0,.int .i64 0,.bool false,.int .i64 0,.int .i64 0,.bool false] 35):=⟨_,rfl⟩
   have hgd:wi3430.grownBy wd none:=by rw [hwd];exact World.grownBy_alloc _ _ _
   have hSc:Hid (Cr.Scene w wd X wi3430.heap.size gC gE gI cC cE cI (fun _=>0) (fun _=>0) (fun _=>false) ⟨S.s,g1,S.c,F,Cr.pack d⟩):=by
    refine ⟨(uh hX).on hgd,?_,(uh hX).grown.size⟩
    rw [hwd]
    exact Cr.acts_lie (h:=fun _=>0) (i:=fun _=>0) (b:=fun _=>false) (heap_alloc_new wi3430 _)
   clear hgd hX
   go_upto_region 19 with fail
   rw [←hwd]
   clear hwd
   obtain ⟨A,hAe⟩:∃A,wi3430.heap.size=A:=⟨_,rfl⟩
   rw [hAe] at hSc ⊢
   clear hAe
   clear wi3430
   obtain ⟨x0,x1,x2,x3,x4,x5,x6,x7,x8,x9,x10,x11⟩:=(uh hSc).twelve
   have fA:=(uh hSc).acts.free
   have hS4:=hide ((uh hSc).act 0 1 9 false)
   clear hSc
   go_upto_region 20 with fail
   rw [show (0*3:Nat)=0 from rfl,show (0+1:Nat)=1 from rfl,show (0+2:Nat)=2 from rfl] at hS4
   generalize ((wd.setCell ⟨A,0,none⟩ (.int .i64 1)).setCell ⟨A,1,none⟩ (.int .i64 9)).setCell ⟨A,2,none⟩ (.bool false)=wt at hS4 ⊢
   clear x0 x1 x2 x3 x4 x5 x6 x7 x8 x9 x10 x11 fA wd
   obtain ⟨b0,b1,b2,b3,b4,b5,b6,b7,b8,b9,b10⟩:=(uh hS4).law.eleven
   obtain ⟨x0,x1,x2,x3,x4,x5,x6,x7,x8,x9,x10,x11⟩:=(uh hS4).twelve
   have v1:=(uh hA').s1
   have cs:=hide ((uh hS4).step (uh hGd) (by show -9223372036854775808≤S.s 1;omega) (by show S.s 1<9223372036854775807;omega))
   clear v1
   try dsimp only at b0 b1 b2 b3 b4 b5 b6 b7 b8 b9 b10 cs
   simp only [if_true,Nat.one_ne_zero,if_false,(show ¬(2:Nat)=0 by omega),(show ¬(3:Nat)=0 by omega),ite_self] at x0 x1 x2 x3 x4 x5 x6 x7 x8 x9 x10 x11 cs
   go_wp2_with fail
   refine (uh cs).mono ?_
   rintro e wu ⟨U,hU,jC,jE,jI,dC,dE,dI,rfl,hcap,l1,l2,l3,n1,n2,n3,hL,hg⟩
   have hUe:=Cr.pack_step (d:=d) hU (uh hGd) rfl (uh hCa) (uh hA').s3 (uh hA').s1 (by have:=(uh hA').s2;have:=uh m10;show S.s 2≤2;omega) rfl rfl (fun t _ t0=>by first | rfl | simp [t0]) (fun _ _=>by first | rfl | simp) (uh hAt)
   obtain ⟨us,ug,uc,V,J⟩:=U
   dsimp only at hUe
   obtain ⟨qG,q2,q3,qg,qh,⟨u2,qu,qfu,qx,qy⟩,q33,qf,qi3,qi4,qi30⟩:=hUe
   subst ug
   have QG:=hide qG
   have Q2:=hide (And.intro q2 (And.intro q3 qh))
   have QU:=hide (And.intro qu (And.intro qfu (And.intro qx qy)))
   have Q3:=hide q33
   have QF:=hide qf
   have QI:=hide (And.intro qi3 (And.intro qi4 qi30))
   have hW:=hide (Gd.law_new (s:=us) (g:=g1) (cC:=dC) (cI:=dI) (uh hS4).law.grown hcap.1 l1 l2 l3 n1 n2 n3 hL hg)
   have hO:=hide ((uh hS4).law.on (gtr hg (World.grownBy_alloc wu (.cells #[.int .i64 (us 0),.int .i64 (us 1),.int .i64 (us 2),.int .i64 (us 3),.slice (some ⟨jC,0,none⟩) 384 dC,.slice (some ⟨jE,0,none⟩) 32 dE,.slice (some ⟨jI,0,none⟩) 40 dI,.int .i64 (g1 0),.int .i64 (g1 1),.int .i64 (g1 2),.int .i64 (g1 3)] 28) none)))
   clear hcap l1 l2 l3 n1 n2 n3 hL hg hU cs x0 x1 x2 x3 x4 x5 x6 x7 x8 x9 x10 x11 b0 b1 b2 b3 b4 b5 b6 b7 b8 b9 b10 hS4 qG q2 q3 qh qu qfu qx qy q33 qf qi3 qi4 qi30 hGd hCa hAt
   unfold Gd.world at hW ⊢
   go_upto_region 21 with fail
   obtain ⟨Y,hYe⟩:∃Y,wu.heap.size=Y:=⟨_,rfl⟩
   rw [hYe] at hW ⊢
   clear hYe
   generalize wu.alloc (.cells #[.int .i64 (us 0),.int .i64 (us 1),.int .i64 (us 2),.int .i64 (us 3),.slice (some ⟨jC,0,none⟩) 384 dC,.slice (some ⟨jE,0,none⟩) 32 dE,.slice (some ⟨jI,0,none⟩) 40 dI,.int .i64 (g1 0),.int .i64 (g1 1),.int .i64 (g1 2),.int .i64 (g1 3)] 28)=wv at hW hO ⊢
   clear wu wt
   try dsimp only at hO hW
   obtain ⟨b0,b1,b2,b3,b4,b5,b6,b7,b8,b9,b10⟩:=(uh hO).eleven
   obtain ⟨y0,y1,y2,y3,y4,y5,y6,y7,y8,y9,y10⟩:=(uh hW).eleven
   rw [(uh Q2).1] at y2
   rw [(uh Q2).2.1] at y3
   have t2:IntKind.i64.wrap (S.s 2+1)=S.s 2+1:=by rw [IntKind.wrap_i64];have:=(uh hA').s2;omega
   have o12:wv.cell? ⟨gI,12,none⟩=some (.int .i64 2):=((uh hO).hold.lists.its.row (k:=3) (by omega)).1
   have o13:wv.cell? ⟨gI,13,none⟩=some (.int .i64 3):=((uh hO).hold.lists.its.row (k:=3) (by omega)).2.1
   have o14:wv.cell? ⟨gI,14,none⟩=some (.int .i64 0):=((uh hO).hold.lists.its.row (k:=3) (by omega)).2.2.1
   have o15:wv.cell? ⟨gI,15,none⟩=some (.int .i64 0):=((uh hO).hold.lists.its.row (k:=3) (by omega)).2.2.2
   have o16:wv.cell? ⟨gI,16,none⟩=some (.int .i64 1):=((uh hO).hold.lists.its.row (k:=4) (by omega)).1
   have o17:wv.cell? ⟨gI,17,none⟩=some (.int .i64 2):=((uh hO).hold.lists.its.row (k:=4) (by omega)).2.1
   have o18:wv.cell? ⟨gI,18,none⟩=some (.int .i64 0):=((uh hO).hold.lists.its.row (k:=4) (by omega)).2.2.1
   have o19:wv.cell? ⟨gI,19,none⟩=some (.int .i64 2):=((uh hO).hold.lists.its.row (k:=4) (by omega)).2.2.2
   have v12:wv.cell? ⟨jI,12,none⟩=some (.int .i64 2):=by
    have h:=((uh hW).hold.lists.its.row (k:=3) (by omega)).1
    rw [(uh QI).1] at h
    exact h
   have v13:wv.cell? ⟨jI,13,none⟩=some (.int .i64 3):=by
    have h:=((uh hW).hold.lists.its.row (k:=3) (by omega)).2.1
    rw [(uh QI).1] at h
    exact h
   have v14:wv.cell? ⟨jI,14,none⟩=some (.int .i64 0):=by
    have h:=((uh hW).hold.lists.its.row (k:=3) (by omega)).2.2.1
    rw [(uh QI).1] at h
    exact h
   have v15:wv.cell? ⟨jI,15,none⟩=some (.int .i64 0):=by
    have h:=((uh hW).hold.lists.its.row (k:=3) (by omega)).2.2.2
    rw [(uh QI).1] at h
    exact h
   have v16:wv.cell? ⟨jI,16,none⟩=some (.int .i64 1):=by
    have h:=((uh hW).hold.lists.its.row (k:=4) (by omega)).1
    rw [(uh QI).2.1] at h
    exact h
   have v17:wv.cell? ⟨jI,17,none⟩=some (.int .i64 2):=by
    have h:=((uh hW).hold.lists.its.row (k:=4) (by omega)).2.1
    rw [(uh QI).2.1] at h
    exact h
   have v18:wv.cell? ⟨jI,18,none⟩=some (.int .i64 0):=by
    have h:=((uh hW).hold.lists.its.row (k:=4) (by omega)).2.2.1
    rw [(uh QI).2.1] at h
    exact h
   have v19:wv.cell? ⟨jI,19,none⟩=some (.int .i64 2):=by
    have h:=((uh hW).hold.lists.its.row (k:=4) (by omega)).2.2.2
    rw [(uh QI).2.1] at h
    exact h
   have v120:wv.cell? ⟨jI,120,none⟩=some (.int .i64 0):=by
    have h:=((uh hW).hold.lists.its.row (k:=30) (by omega)).1
    rw [(uh QI).2.2] at h
    exact h
   have v121:wv.cell? ⟨jI,121,none⟩=some (.int .i64 0):=by
    have h:=((uh hW).hold.lists.its.row (k:=30) (by omega)).2.1
    rw [(uh QI).2.2] at h
    exact h
   have v122:wv.cell? ⟨jI,122,none⟩=some (.int .i64 0):=by
    have h:=((uh hW).hold.lists.its.row (k:=30) (by omega)).2.2.1
    rw [(uh QI).2.2] at h
    exact h
   have v123:wv.cell? ⟨jI,123,none⟩=some (.int .i64 0):=by
    have h:=((uh hW).hold.lists.its.row (k:=30) (by omega)).2.2.2
    rw [(uh QI).2.2] at h
    exact h
   have hgold:=fun x:World=>run_eq_gold (g1 0) (g1 1) (g1 2) (g1 3) x
   go_quiet (fail)
   have hW1:=hide ((uh hW).on (gdw (World.grownBy.refl wv none) nq))
   clear b0 b1 b2 b3 b4 b5 b6 b7 b8 b9 b10 y0 y1 y2 y3 y4 y5 y6 y7 y8 y9 y10 o12 o13 o14 o15 o16 o17 o18 o19 v12 v13 v14 v15 v16 v17 v18 v19 v120 v121 v122 v123 hgold hO hW t2
   generalize wv.drewN nq=wq at hW1 ⊢
   clear wv
   have y4:=(uh hW1).eleven.2.2.2.2.1
   have cf:=hide (refFind_any wq.heap.size (some ⟨jC,0,none⟩) 384 dC uc 3 wq (uh hW1).hold.lists.vec (uh QG).sane.fit.cells)
   rw [(uh QU).2.1] at cf
   go_wp2_with fail
   refine (uh cf).mono ?_
   rintro e wy ⟨rfl,hy⟩
   subst wy
   clear cf y4
   have y5:=(uh hW1).eleven.2.2.2.2.2.1
   have ch0:=hide (refHero_same jE 32 dE V 0 wq (uh hW1).hold.lists.own.ents)
   have ch3:=hide (refHero_same jE 32 dE V 3 wq (uh hW1).hold.lists.own.ents)
   have hh0:=(uh Q2).2.2
   unfold Gd.hero at hh0
   rw [hh0] at ch0
   clear hh0
   have hz0:¬0≤Gd.hero V 3:=fun h=>by have:=(uh Q3).1 h;have:=uh hNo;omega
   unfold Gd.hero at hz0
   obtain ⟨z3,hz3⟩:∃z,En.first (En.heroQ V 3) 32=z:=⟨_,rfl⟩
   rw [hz3] at ch3 hz0
   have hz1:¬z3≥0:=by omega
   clear hz3 hz0
   have hr32:=(uh hA').sole.lt
   have hk':(r:Int)<32:=by omega
   have r3:=((uh hW1).hold.lists.own.ents.row hr32).2.2.2.1
   have r4:=((uh hW1).hold.lists.own.ents.row hr32).2.2.2.2.1
   rw [(uh QU).2.2.1] at r3
   rw [(uh QU).2.2.2] at r4
   have t1:IntKind.i64.wrap ((u2:Int) / 24)=(u2:Int) / 24:=by rw [IntKind.wrap_i64];have:=(uh QU).1;omega
   clear hr32
   go_wp2_with fail
   refine (uh ch0).mono ?_
   rintro e wy ⟨rfl,hy⟩
   subst wy
   clear ch0
   go_wp2_with fail
   refine (uh ch3).mono ?_
   rintro e wy ⟨rfl,hy⟩
   subst wy
   clear ch3
   go_upto_region 26 with fail
   clear r3 r4 t1 hk' hz1 y5
   go_wp2_with fail
   go_loop [20,21] (fun vf vi=>∃i:Nat,i≤32∧vf=.int .i64 (Cr.foes V i:Int)∧vi=.int .i64 (i:Int)) (fun _ vi=>40 - (intOf vi).toNat)
   case atStart=>exact ⟨0,by omega,rfl,rfl⟩
   case round =>
    obtain ⟨i,hi,rfl,rfl⟩:=hrel
    have y5:=(uh hW1).eleven.2.2.2.2.2.1
    by_cases hlt:i<32
    ·have hlt':(i:Int)<32:=by omega
     have HL:=hide hlt
     have q0:=((uh hW1).hold.lists.own.ents.row hlt).1
     have hfi:Hid (Cr.foes V i≤i):=Cr.foes_le V i
     obtain ⟨n,hn⟩:∃n,Cr.foes V i=n:=⟨_,rfl⟩
     rw [hn] at hfi ⊢
     have t5:IntKind.i64.wrap ((n:Int)+1)=(n:Int)+1:=by rw [IntKind.wrap_i64];have:=uh hfi;omega
     by_cases hk:V i 0 > 1
     ·have hn2:Hid (Cr.foes V (i+1)=n+1):=(show Cr.foes V (i+1)=n+1 by unfold Cr.foes;rw [hn,if_pos hk])
      clear hlt hi hn
      go_wp2
      go_round
      case rel=>exact ⟨i+1,by have:=uh HL;omega,by rw [uh hn2];go_num,by go_num⟩
      case measure=>simp [intOf];have:=uh HL;omega
     ·have hn2:Hid (Cr.foes V (i+1)=n):=(show Cr.foes V (i+1)=n by unfold Cr.foes;rw [hn,if_neg hk];rfl)
      clear hlt hi hn t5
      go_wp2
      go_round
      case rel=>exact ⟨i+1,by have:=uh HL;omega,by rw [uh hn2],by go_num⟩
      case measure=>simp [intOf];have:=uh HL;omega
    ·obtain rfl:i=32:=by omega
     have hge:¬((32:Nat):Int)<32:=by omega
     clear hlt hi
     obtain ⟨y0,y1,y2,y3,y4,y5,y6,y7,y8,y9,y10⟩:=(uh hW1).eleven
     have hle:=uh QF
     obtain ⟨n,hn⟩:∃n,Cr.foes V 32=n:=⟨_,rfl⟩
     rw [hn] at hle ⊢
     have f1:=(uh QG).f1
     have f3:=(uh QG).f3
     try dsimp only at f1 f3 hle
     have t6:IntKind.i64.wrap (us 2+2)=us 2+2:=by rw [IntKind.wrap_i64];omega
     have ck:=hide (refCheck_any us g1 uc V J jC jE jI dC dE dI wq (uh hW1).hold.lists (uh QG).sane.fit.cells)
     unfold Gd.world at ck
     clear hn f1 f3
     go_wp2_with fail
     refine (uh ck).mono ?_
     rintro e w9 ⟨b,rfl,hb,hg9⟩
     obtain rfl:b=true:=hb.2 (uh QG).sane.fit.ok
     have hg10:=hide (gtr (uh hW1).grown hg9)
     clear hb hg9 ck hW1 y0 y1 y2 y3 y4 y5 y6 y7 y8 y9 y10
     go_wp2_with fail
     go_ret
     exact ⟨rfl,none_below (uh hg10)⟩

set_option maxRecDepth 100000 in
theorem lifted (os:Os) (started:os.Started) (H:Type) (enc:TypeId × Value→H) :
  ReturnsInHanded {} Tryz.checked os 4 .any (Rows.crawlFloorsSpec.pre6 enc Tryz.prog Tryz.f4 Rows.crawlFloorsRow.domain false) (Rows.crawlFloorsSpec.post enc Tryz.prog Tryz.f4 false true false false):=by
 refine returnsInHanded_of_change (C:=Tryz.checked) own started (by kernel_rfl) Tryz.func4
  (ChangeSpec.witness6 (enc:=enc) (C:=Tryz.checked) false ⟨#[],#[.int .i64 0,.int .i64 0,.int .i64 0,.int .i64 0],[]⟩ 8 (by kernel_rfl) (by kernel_rfl) (by kernel_rfl) (by kernel_rfl)) ?_
 intro W base args ds gs before hval0 hW hcnd _
 have hval:∀(j:Nat) t v,Tryz.f4.params[j]?=some t→args[j]?=some v→Value.okWide Tryz.prog W .any base t v:=hval0
 have hW':=hW
 obtain ⟨p,q,hA0,hV,rfl,hfz,hnd⟩:=hW
 have hA:DataW.TrodAll enc Tryz.prog W 0 (fun _=>true) true Tryz.f4.params.toList args.toList ds p:=hA0
 rw [Tryz.params4] at hA hval
 obtain ⟨v0,vs0,d0,ds0,p0,q0,hargs,rfl,rfl,h0,r0⟩:=trodAll_cons hA
 obtain ⟨v1,vs1,d1,ds1,p1,q1,rfl,rfl,rfl,h1,r1⟩:=trodAll_cons r0
 obtain ⟨v2,vs2,d2,ds2,p2,q2,rfl,rfl,rfl,h2,r2⟩:=trodAll_cons r1
 obtain ⟨v3,vs3,d3,ds3,p3,q3,rfl,rfl,rfl,h3,r3⟩:=trodAll_cons r2
 obtain ⟨rfl,rfl,rfl⟩:=trodAll_nil r3
 obtain rfl:args=#[v0,v1,v2,v3]:=by cases args;simp_all
 obtain ⟨rfl,rfl⟩:=trodVars_none hV
 obtain ⟨a0,rfl,rfl,rfl,w0⟩:=open_int Tryz.underlying2 (hval 0 2 v0 rfl rfl) h0
 obtain ⟨a1,rfl,rfl,rfl,w1⟩:=open_int Tryz.underlying3 (hval 1 3 v1 rfl rfl) h1
 obtain ⟨a2,rfl,rfl,rfl,w2⟩:=open_int Tryz.underlying3 (hval 2 3 v2 rfl rfl) h2
 obtain ⟨a3,rfl,rfl,rfl,w3⟩:=open_int Tryz.underlying3 (hval 3 3 v3 rfl rfl) h3
 clear hA0 hval0
 refine (walk a0 a1 a2 a3 w0 w1 w2 w3 W).mono fun e W' ⟨he,hg⟩=>?_
 subst he
 exact ⟨_,rfl,_,_,_,[],_,[],hW',trodAll_mk1 (shut_bool Tryz.underlying4 _),(trodAll_cons_mk (shut_int Tryz.underlying2 w0) (trodAll_cons_mk (shut_int Tryz.underlying3 w1) (trodAll_cons_mk (shut_int Tryz.underlying3 w2) (trodAll_cons_mk (shut_int Tryz.underlying3 w3) trodAll_mk0)))),rfl,hg.frame _,fun h=>by cases h⟩

theorem over:Rows.crawlFloorsRow.holds Tryz.pinned (OpenSpec.ofChange Rows.crawlFloorsSpec) :=
 OpenClaim.holds_of_wide 4 Tryz.f4 rfl rfl rfl rfl rfl rfl rfl ⟨rfl,rfl,rfl,rfl,rfl⟩ rfl rfl rfl rfl rfl (by kernel_rfl) Tryz.func4 (by kernel_rfl)
  (of_decide_eq_true (by kernel_rfl)) (by unfold Func.isWrapper;first | (rw [if_pos (by decide +kernel)];kernel_rfl) | (rw [if_neg (by decide +kernel)];exact ⟨rfl,rfl⟩))
  (fun os started H enc _=>lifted os started H enc)

theorem proved:Rows.CrawlFloorsSaid :=
 over
#print axioms proved
end Go.Proofs.YtbanjoflgoiegabGreat.crawlFloors
