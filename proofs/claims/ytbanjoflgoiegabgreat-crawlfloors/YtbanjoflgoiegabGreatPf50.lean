import Derived.Test.YtbanjoflgoiegabGreatPf46
import Derived.Test.YtbanjoflgoiegabGreatPf49
import Derived.Test.YtbanjoflgoiegabGreatPf40
namespace Go.Proofs.YtbanjoflgoiegabGreat
open Go.RowKit

theorem Cr.rem16 (a:Int):(a.tmod 16=0)↔(a % 16=0):=⟨fun h=>Int.emod_eq_zero_of_dvd (Int.dvd_of_tmod_eq_zero h),fun h=>Int.tmod_eq_zero_of_dvd (Int.dvd_of_emod_eq_zero h)⟩

set_option maxRecDepth 8000 in
set_option maxHeartbeats 12800000 in
theorem cAil_any (v x:World) (P gC gE gI cC cE cI:Nat) (how inp:Nat→Int) (sp:Nat→Bool) (met left:Bool) (s g c:Nat→Int) (E I:Nat→Nat→Int) (h:Cr.Frm v x P gC gE gI cC cE cI how inp sp met left s g c E I) (hS:Cr.Sane c E I) (hF:Nv.Floor c) :
  Calls Tryz.prog 27 #[.pointer (some ⟨P,0,none⟩)] x (Cr.Goes v P how inp sp met left s g c (Cr.rats s c (Ft.ailE E I 32).1) (Ft.ailE E I 32).2):=by
 have ct:=hide (fightAil_wide s g c E I gC gE gI cC cE cI x h.lists hS.fit)
 have hgens:=hide (hS.ail).good.gens
 obtain ⟨F,hFe⟩:∃F,(Ft.ailE E I 32).1=F:=⟨_,rfl⟩
 obtain ⟨J,hJe⟩:∃J,(Ft.ailE E I 32).2=J:=⟨_,rfl⟩
 rw [hFe,hJe] at ct
 rw [hFe] at hgens
 rw [hFe,hJe]
 have hc8:∀i,0≤c i∧c i≤255:=hS.fit.cells
 obtain ⟨u,hu,hfu,-,-⟩:=Cr.up_stair hF
 have cf:Hid (∀z a k,Vec z.heap.size z a 384 (Byts c)→384≤k→Calls Tryz.prog 48 #[.slice a 384 k,.int .i64 3] z fun e w'=>e=.returned (.int .i64 (u:Int))∧w'=z):=fun z a k hv hk=>by
  have:=find_any z.heap.size a 384 k c 3 z hv hc8 hk
  rwa [hfu] at this
 have hno:Hid (s 1 % 16≠0→Cr.rats s c F=F):=fun h=>(show Cr.rats s c F=F by unfold Cr.rats;rw [if_neg (fun hh=>h hh.1)])
 have hyes:Hid (s 1 % 16=0→Cr.rats s c F=Cr.joinAll F [Cr.one 2 0 u]):=fun h=>(show Cr.rats s c F=Cr.joinAll F [Cr.one 2 0 u] by
  unfold Cr.rats
  show _=if En.first (En.atQ F (Cr.one 2 0 u 3) (Cr.one 2 0 u 4)) 32<0 then Cr.join F (Cr.one 2 0 u) else F
  rw [(Cr.one_at 2 0 u).2.2.1,(Cr.one_at 2 0 u).2.2.2.1,hfu,Int.toNat_natCast]
  by_cases hh:En.first (En.atQ F ((u:Int) % 24) ((u:Int) / 24)) 32<0
  ·rw [if_pos ⟨h,hh⟩,if_pos hh]
  ·rw [if_neg (fun a=>hh a.2),if_neg hh])
 have hone:Hid (Cr.one 2 0 u=En.upd (En.upd (En.stats 2) 3 ((u:Int) % 24)) 4 ((u:Int) / 24)):=(show Cr.one 2 0 u=_ by
  unfold Cr.one
  rw [show En.upd (En.stats 2) 2 0=En.stats 2 from funext fun j=>by unfold En.upd;by_cases e:j=2;rw [if_pos e,e];rfl;rw [if_neg e]])
 have ho1:Hid (1≤Cr.one 2 0 u 0∧Cr.one 2 0 u 0≤4):=(show 1≤Cr.one 2 0 u 0∧Cr.one 2 0 u 0≤4 by rw [(Cr.one_at 2 0 u).1 (by omega) (by omega)];omega)
 obtain ⟨o,ho⟩:∃o,Cr.one 2 0 u=o:=⟨_,rfl⟩
 rw [ho] at hyes hone ho1
 obtain ⟨R,hR⟩:∃R,Cr.rats s c F=R:=⟨_,rfl⟩
 rw [hR] at hno hyes ⊢
 have hu':=hide hu
 have huge:(u:Int)≥0:=by omega
 have hr16:=hide (Cr.rem16 (s 1))
 have hF1:=hide h
 obtain ⟨b0,b1,b2,b3,b4,b5,b6,b7,b8,b9,b10⟩:=h.eleven
 clear h hS hF hFe hJe hc8 hfu hu ho hR
 unfold Gd.world at ct
 go_enter Tryz.func27,Tryz.ntmps27
 go_wp2_with fail
 refine (uh ct).mono ?_
 rintro e w4 ⟨jC,jE,jI,dC,dE,dI,rfl,hcap,l1,l2,l3,n1,n2,n3,hL,hg⟩
 have hX:Hid (Cr.Frm v (((((((((((w4.setCell ⟨P,0,none⟩ (.int .i64 (s 0))).setCell ⟨P,1,none⟩ (.int .i64 (s 1))).setCell ⟨P,2,none⟩ (.int .i64 (s 2))).setCell ⟨P,3,none⟩ (.int .i64 (s 3))).setCell ⟨P,4,none⟩ (.slice (some ⟨jC,0,none⟩) 384 dC)).setCell ⟨P,5,none⟩ (.slice (some ⟨jE,0,none⟩) 32 dE)).setCell ⟨P,6,none⟩ (.slice (some ⟨jI,0,none⟩) 40 dI)).setCell ⟨P,7,none⟩ (.int .i64 (g 0))).setCell ⟨P,8,none⟩ (.int .i64 (g 1))).setCell ⟨P,9,none⟩ (.int .i64 (g 2))).setCell ⟨P,10,none⟩ (.int .i64 (g 3))) P jC jE jI dC dE dI how inp sp met left s g c F J):=(uh hF1).over (s':=s) (g':=g) (dI:=dI) hcap l1 l2 l3 n1 n2 n3 hL hg
 obtain ⟨y0,y1,y2,y3,y4,y5,y6,y7,y8,y9,y10⟩:=((uh hF1).on hg).eleven
 have fB:=((uh hF1).on hg).box.free
 clear hcap l1 l2 l3 n1 n2 n3 hL hg ct b0 b1 b2 b3 b4 b5 b6 b7 b8 b9 b10 hF1
 unfold Gd.world
 go_upto_region 1 with fail
 generalize (((((((((((w4.setCell ⟨P,0,none⟩ (.int .i64 (s 0))).setCell ⟨P,1,none⟩ (.int .i64 (s 1))).setCell ⟨P,2,none⟩ (.int .i64 (s 2))).setCell ⟨P,3,none⟩ (.int .i64 (s 3))).setCell ⟨P,4,none⟩ (.slice (some ⟨jC,0,none⟩) 384 dC)).setCell ⟨P,5,none⟩ (.slice (some ⟨jE,0,none⟩) 32 dE)).setCell ⟨P,6,none⟩ (.slice (some ⟨jI,0,none⟩) 40 dI)).setCell ⟨P,7,none⟩ (.int .i64 (g 0))).setCell ⟨P,8,none⟩ (.int .i64 (g 1))).setCell ⟨P,9,none⟩ (.int .i64 (g 2))).setCell ⟨P,10,none⟩ (.int .i64 (g 3)))=w3 at hX ⊢
 clear y0 y1 y2 y3 y4 y5 y6 y7 y8 y9 y10 fB
 have b4:=(uh hX).eleven.2.2.2.2.1
 have b1:=(uh hX).eleven.2.1
 have cf':=hide (uh cf w3 (some ⟨jC,0,none⟩) dC (uh hX).lists.vec (uh hX).cap.2)
 go_wp2_with fail
 refine (uh cf').mono ?_
 rintro e wy ⟨rfl,hy⟩
 subst wy
 clear cf cf' b4
 by_cases h16:s 1 % 16=0
 ·obtain rfl:=uh hyes h16
  have e1:(s 1).tmod 16=0:=(uh hr16).2 h16
  clear hno hr16
  have cst:=hide (fun z=>entStats_any 2 z)
  obtain ⟨st,hst⟩:∃st,En.stats 2=st:=⟨_,rfl⟩
  rw [hst] at cst hone
  have hkeep:Hid (∀x,w3.grownBy x none→x.cell? ⟨P,5,none⟩=some (.slice (some ⟨jE,0,none⟩) 32 dE)):=fun x hx=>((uh hX).on hx).eleven.2.2.2.2.2.1
  have cp:Hid (∀z,Calls Tryz.prog 50 #[.agg #[.int .i64 (st 0),.int .i64 (st 1),.int .i64 (st 2),.int .i64 (st 3),.int .i64 (st 4),.int .i64 (st 5),.int .i64 (st 6),.int .i64 (st 7),.int .i64 (st 8),.int .i64 (st 9),.int .i64 (st 10)],.int .i64 (u:Int)] z (Says z (.agg #[.int .i64 (o 0),.int .i64 (o 1),.int .i64 (o 2),.int .i64 (o 3),.int .i64 (o 4),.int .i64 (o 5),.int .i64 (o 6),.int .i64 (o 7),.int .i64 (o 8),.int .i64 (o 9),.int .i64 (o 10)]))):=fun z=>(show Calls Tryz.prog 50 #[.agg (En.cells st),.int .i64 (u:Int)] z (Says z (.agg (En.cells o))) by rw [uh hone];exact cPlaced_any st u (uh hu') z)
  have cj:Hid (∀z,w3.grownBy z none→∀a:Option Addr,Cr.More z a 1 [o]→Calls Tryz.prog 49 #[.slice (some ⟨jE,0,none⟩) 32 dE,.slice a 1 1] z (Cr.OneOf z jE (Cr.joinAll F [o]))):=fun z hz a hM=>cJoined_any jE dE 1 1 a F [o] z ((uh hX).on hz).lists.own (uh hX).cap.1 (uh hgens) hM
  have hd3:=hide (gd1 (World.grownBy.refl w3 none))
  unfold En.cells at cst
  clear hyes hone hgens hu' hst
  go_upto_region 3 with fail
  clear b1 e1 h16 huge
  refine wp_region_till (h:=14) (S:=fun x=>x.cell? ⟨P,5,none⟩=some (.slice (some ⟨jE,0,none⟩) 32 dE)) (by kernel_rfl) ?_
  have hS0:=uh hkeep _ (uh hd3)
  refine wtk (i:=0) (v:=?_) [14] rfl (by kernel_rfl) (by kernel_rfl) (by kernel_rfl) (by kernel_rfl) (fun _ _ _ h=>h) hS0 (Or.inl ⟨by rfl,?_⟩) ?_
  rotate_left
  ·intro x hSx
   try dsimp only at hSx
   go_simp
   try with_reducible rfl
  simp only [Act.put]
  refine wtk (i:=1) (v:=?_) [14] rfl (by kernel_rfl) (by kernel_rfl) (by kernel_rfl) (by kernel_rfl) (fun _ _ _ h=>h) hS0 (Or.inl ⟨by rfl,?_⟩) ?_
  rotate_left
  ·intro x hSx
   try dsimp only at hSx
   go_simp
   try with_reducible rfl
  simp only [Act.put]
  refine wtk (i:=2) (v:=?_) [14] rfl (by kernel_rfl) (by kernel_rfl) (by kernel_rfl) (by kernel_rfl) (fun _ _ _ h=>h) hS0 (Or.inl ⟨by rfl,?_⟩) ?_
  rotate_left
  ·intro x hSx
   try dsimp only at hSx
   go_simp
   try with_reducible rfl
  simp only [Act.put]
  refine wtk (i:=3) (v:=?_) [14] rfl (by kernel_rfl) (by kernel_rfl) (by kernel_rfl) (by kernel_rfl) (fun _ _ _ h=>h) hS0 (Or.inl ⟨by rfl,?_⟩) ?_
  rotate_left
  ·intro x hSx
   try dsimp only at hSx
   go_simp
   try with_reducible rfl
  simp only [Act.put]
  refine wtk (i:=4) (v:=?_) [14] rfl (by kernel_rfl) (by kernel_rfl) (by kernel_rfl) (by kernel_rfl) (fun _ _ _ h=>h) hS0 (Or.inl ⟨by rfl,?_⟩) ?_
  rotate_left
  ·intro x hSx
   try dsimp only at hSx
   go_simp
   try with_reducible rfl
  simp only [Act.put]
  refine wtk (i:=5) (v:=?_) [14] rfl (by kernel_rfl) (by kernel_rfl) (by kernel_rfl) (by kernel_rfl) (fun _ _ _ h=>h) hS0 (Or.inl ⟨by rfl,?_⟩) ?_
  rotate_left
  ·intro x hSx
   try dsimp only at hSx
   go_simp
   try with_reducible rfl
  simp only [Act.put]
  refine wtk (i:=7) (v:=?_) [14] rfl (by kernel_rfl) (by kernel_rfl) (by kernel_rfl) (by kernel_rfl) (fun _ _ _ h=>h) hS0 (Or.inl ⟨by rfl,?_⟩) ?_
  rotate_left
  ·intro x hSx
   try dsimp only at hSx
   go_simp
   try with_reducible rfl
  simp only [Act.put]
  refine wto (j:=6) (by kernel_rfl) rfl (fun K hK=>?_)
  go_simp
  refine (uh cst _).mono ?_
  rintro e0 w4 ⟨rfl,hg4⟩
  have hG4:=hide (gtr (uh hd3) hg4)
  have hS4:=uh hkeep _ (uh hG4)
  clear hg4 hS0
  try go_simp
  refine hK.out _ _ (fun _=>uh hkeep _ (uh hG4)) ?_
  clear hK K
  refine wto (j:=8) (by kernel_rfl) rfl (fun K hK=>?_)
  go_simp
  refine (uh cp _).mono ?_
  rintro e0 w5 ⟨rfl,hg5⟩
  have hG5:=hide (gtr (uh hG4) hg5)
  have hS5:=uh hkeep _ (uh hG5)
  clear hg5 hS4
  try go_simp
  refine hK.out _ _ (fun _=>uh hkeep _ (uh hG5)) ?_
  clear hK K
  refine wto (j:=9) (by kernel_rfl) rfl (fun K hK=>?_)
  go_simp
  have hG6:Hid (w3.grownBy (w5.alloc (.cells #[.int .i64 (o 0),.int .i64 (o 1),.int .i64 (o 2),.int .i64 (o 3),.int .i64 (o 4),.int .i64 (o 5),.int .i64 (o 6),.int .i64 (o 7),.int .i64 (o 8),.int .i64 (o 9),.int .i64 (o 10)] 42)) none):=gal (uh hG5) _
  have hS6:=uh hkeep _ (uh hG6)
  have hM:=hide (Cr.more_one w5 o (uh ho1))
  clear hS5
  try go_simp
  refine hK.out _ _ (fun _=>uh hkeep _ (uh hG6)) ?_
  clear hK K
  refine wto (j:=10) (by kernel_rfl) rfl (fun K hK=>?_)
  go_simp
  refine (uh cj _ (uh hG6) _ (uh hM)).mono ?_
  rintro e0 w6 ⟨j6,d6,rfl,hc6,hj6,hown6,hg6⟩
  have hG7:=hide (gtr (uh hG6) hg6)
  have hS7:=uh hkeep _ (uh hG7)
  have hst:=hide ((uh hX).folk hc6 (hj6.imp id (fun h=>Nat.le_trans (uh hG6).size h)) hown6 (uh hG7))
  have f5:=((uh hX).on (uh hG7)).box.free
  clear hc6 hj6 hown6 hg6 hS6
  try go_simp
  refine hK.out _ _ (fun _=>uh hkeep _ (uh hG7)) ?_
  clear hK K
  refine wtk (i:=11) (v:=?_) [12,13,14] rfl (by kernel_rfl) (by kernel_rfl) (by kernel_rfl) (by kernel_rfl) (fun _ _ _ h=>h) hS7 (Or.inl ⟨by rfl,?_⟩) ?_
  rotate_left
  ·intro x hSx
   try dsimp only at hSx
   go_simp
   try with_reducible rfl
  simp only [Act.put]
  refine wtk (i:=12) (v:=?_) [13,14] rfl (by kernel_rfl) (by kernel_rfl) (by kernel_rfl) (by kernel_rfl) (fun _ _ _ h=>h) hS7 (Or.inl ⟨by rfl,?_⟩) ?_
  rotate_left
  ·intro x hSx
   try dsimp only at hSx
   go_simp
   try with_reducible rfl
  simp only [Act.put]
  refine wtk (i:=13) (v:=?_) [14] rfl (by kernel_rfl) (by kernel_rfl) (by kernel_rfl) (by kernel_rfl) (fun _ _ _ h=>h) hS7 (Or.inl ⟨by rfl,?_⟩) ?_
  rotate_left
  ·intro x hSx
   try dsimp only at hSx
   go_simp
   try with_reducible rfl
  simp only [Act.put]
  refine wto (j:=14) (by kernel_rfl) rfl (fun K hK=>?_)
  go_simp
  refine hK.out _ _ (fun hx=>absurd (hx.symm.trans (by kernel_rfl)) Bool.false_ne_true) ?_
  clear hK K
  refine wpTill_done (by kernel_rfl) ?_ _
  clear hkeep cp cj cst hS7 hG4 hG5 hG6 hG7 hM
  go_wp2
  go_end0
  exact ⟨rfl,jC,j6,jI,dC,d6,dI,uh hst⟩
 ·obtain rfl:=uh hno h16
  have e1:((s 1).tmod 16 == 0)=false:=by simp [uh hr16,h16]
  have e2:(s 1 % 16 == 0)=false:=by simpa using h16
  clear hyes hr16 hone ho1
  go_wp2
  go_end0
  exact ⟨rfl,jC,jE,jI,dC,dE,dI,uh hX⟩

def Cr.EndTo (v:World) (P:Nat) (how inp:Nat→Int) (sp:Nat→Bool) (met left:Bool) (s g c:Nat→Int) (E I:Nat→Nat→Int) (e:Ending) (x:World):Prop :=
 ∃T,Cr.Ends s g c E I met left T∧Cr.Goes v P how inp sp met left T.s T.g T.c T.E T.I e x

set_option maxRecDepth 8000 in
set_option maxHeartbeats 12800000 in
theorem cEnd_any (v x:World) (P gC gE gI cC cE cI:Nat) (how inp:Nat→Int) (sp:Nat→Bool) (met left:Bool) (s g c:Nat→Int) (E I:Nat→Nat→Int) (h:Cr.Frm v x P gC gE gI cC cE cI how inp sp met left s g c E I) (hS:Cr.Sane c E I) (f1:1≤s 2) (f3:s 2≤3) :
  Calls Tryz.prog 28 #[.pointer (some ⟨P,0,none⟩)] x (Cr.EndTo v P how inp sp met left s g c E I):=by
 have cc:=hide (cContains_any gE cE E x h.lists.own hS.seats)
 have hF1:=hide h
 have hSa:=hide hS
 have b5:=h.eleven.2.2.2.2.2.1
 have hlost:Hid (Cr.manned E=false→met=true→Cr.Ends s g c E I met left ⟨Cr.num s 3 2,g,c,E,I⟩):=fun h1 h2=>(show _ by unfold Cr.Ends;rw [if_pos h1,if_pos h2])
 have hstay:Hid (Cr.manned E=false→met=false→Cr.Ends s g c E I met left ⟨s,g,c,E,I⟩):=fun h1 h2=>(show _ by unfold Cr.Ends;rw [if_pos h1,if_neg (by rw [h2];exact Bool.false_ne_true)])
 have hwon:Hid (Cr.manned E=true→left=true→s 2=3→Cr.Ends s g c E I met left ⟨Cr.num s 3 1,g,c,E,I⟩):=fun h1 h2 h3=>(show _ by unfold Cr.Ends;rw [if_neg (by rw [h1];exact Bool.false_ne_true.symm),if_pos h2,if_pos h3])
 have hbel:Hid (∀T,Cr.manned E=true→left=true→s 2≠3→Cr.Below s g E I T→Cr.Ends s g c E I met left T):=fun T h1 h2 h3 h4=>(show _ by unfold Cr.Ends;rw [if_neg (by rw [h1];exact Bool.false_ne_true.symm),if_pos h2,if_neg h3];exact h4)
 have hgoes:Hid (Cr.manned E=true→left=false→Cr.Ends s g c E I met left ⟨s,g,c,E,I⟩):=fun h1 h2=>(show _ by unfold Cr.Ends;rw [if_neg (by rw [h1];exact Bool.false_ne_true.symm),if_neg (by rw [h2];exact Bool.false_ne_true)])
 obtain ⟨mm,hmm⟩:∃m,Cr.manned E=m:=⟨_,rfl⟩
 rw [hmm] at cc hlost hstay hwon hbel hgoes
 have hw:=h.words
 clear h hS hmm
 cases mm
 ·clear hwon hbel hgoes
  cases met
  ·have hfin:=hide (uh hstay rfl rfl)
   clear hlost hstay
   go_enter Tryz.func28,Tryz.ntmps28
   go_wp2_with fail
   refine (uh cc).mono ?_
   rintro e w1 ⟨rfl,hg1⟩
   have hF2:=hide ((uh hF1).on hg1)
   have q:=(uh hF2).words.1
   clear hg1 cc b5 hw hF1
   go_wp2
   go_end0
   exact ⟨_,uh hfin,rfl,gC,gE,gI,cC,cE,cI,uh hF2⟩
  ·have hfin:=hide (uh hlost rfl rfl)
   clear hlost hstay
   go_enter Tryz.func28,Tryz.ntmps28
   go_wp2_with fail
   refine (uh cc).mono ?_
   rintro e w1 ⟨rfl,hg1⟩
   have hF2:=hide ((uh hF1).on hg1)
   have q:=(uh hF2).words.1
   have b3:=(uh hF2).eleven.2.2.2.1
   have fP:=(uh hF2).box.free
   have hst:=hide ((uh hF2).num 3 (by omega) 2)
   clear hg1 cc b5 hw hF1 hF2
   go_wp2
   go_end0
   exact ⟨_,uh hfin,rfl,gC,gE,gI,cC,cE,cI,uh hst⟩
 ·clear hlost hstay
  cases left
  ·have hfin:=hide (uh hgoes rfl rfl)
   clear hwon hbel hgoes
   go_enter Tryz.func28,Tryz.ntmps28
   go_wp2_with fail
   refine (uh cc).mono ?_
   rintro e w1 ⟨rfl,hg1⟩
   have hF2:=hide ((uh hF1).on hg1)
   have q:=(uh hF2).words.2
   clear hg1 cc b5 hw hF1
   go_wp2
   go_end0
   exact ⟨_,uh hfin,rfl,gC,gE,gI,cC,cE,cI,uh hF2⟩
  ·clear hgoes
   by_cases h3:s 2=3
   ·have hfin:=hide (uh hwon rfl rfl h3)
    have e3:(s 2 == 3)=true:=by simpa using h3
    clear hwon hbel h3
    go_enter Tryz.func28,Tryz.ntmps28
    go_wp2_with fail
    refine (uh cc).mono ?_
    rintro e w1 ⟨rfl,hg1⟩
    have hF2:=hide ((uh hF1).on hg1)
    have q:=(uh hF2).words.2
    have b2:=(uh hF2).eleven.2.2.1
    have b3:=(uh hF2).eleven.2.2.2.1
    have fP:=(uh hF2).box.free
    have hst:=hide ((uh hF2).num 3 (by omega) 1)
    clear hg1 cc b5 hw hF1 hF2
    go_wp2
    go_end0
    exact ⟨_,uh hfin,rfl,gC,gE,gI,cC,cE,cI,uh hst⟩
   ·have hfin:=hide (fun T=>uh hbel T rfl rfl h3)
    have e3:(s 2 == 3)=false:=by simpa using h3
    have hf:=hide (show 0≤s 2∧s 2≤2 by omega)
    clear hwon hbel h3 f1 f3
    go_enter Tryz.func28,Tryz.ntmps28
    go_wp2_with fail
    refine (uh cc).mono ?_
    rintro e w1 ⟨rfl,hg1⟩
    have hF2:=hide ((uh hF1).on hg1)
    have q:=(uh hF2).words.2
    obtain ⟨b0,b1,b2,b3,b4,b5',b6,b7,b8,b9,b10⟩:=(uh hF2).eleven
    have ce:=hide (cEntered_any s g c E I (some ⟨gC,0,none⟩) 384 cC gE gI cE cI w1 (uh hF2).lists.ents (uh hF2).lists.items (uh hF2).cap.1 (uh hF2).eI (uh hSa) (uh hf).1 (uh hf).2)
    clear hg1 cc b5 hw hF1
    go_wp2_with fail
    refine (uh ce).mono ?_
    rintro e w4 ⟨T,hT,jC,jE,jI,dC,dE,dI,rfl,hcap,l1,l2,l3,n1,n2,n3,hL,hg⟩
    have hX:Hid (Cr.Frm v (((((((((((w4.setCell ⟨P,0,none⟩ (.int .i64 (T.s 0))).setCell ⟨P,1,none⟩ (.int .i64 (T.s 1))).setCell ⟨P,2,none⟩ (.int .i64 (T.s 2))).setCell ⟨P,3,none⟩ (.int .i64 (T.s 3))).setCell ⟨P,4,none⟩ (.slice (some ⟨jC,0,none⟩) 384 dC)).setCell ⟨P,5,none⟩ (.slice (some ⟨jE,0,none⟩) 32 dE)).setCell ⟨P,6,none⟩ (.slice (some ⟨jI,0,none⟩) 40 dI)).setCell ⟨P,7,none⟩ (.int .i64 (T.g 0))).setCell ⟨P,8,none⟩ (.int .i64 (T.g 1))).setCell ⟨P,9,none⟩ (.int .i64 (T.g 2))).setCell ⟨P,10,none⟩ (.int .i64 (T.g 3))) P jC jE jI dC dE dI how inp sp met true T.s T.g T.c T.E T.I):=(uh hF2).over (s':=T.s) (g':=T.g) (dI:=dI) hcap l1 l2 l3 n1 n2 n3 hL hg
    obtain ⟨y0,y1,y2,y3,y4,y5,y6,y7,y8,y9,y10⟩:=((uh hF2).on hg).eleven
    have fB:=((uh hF2).on hg).box.free
    have hfin2:=hide (uh hfin T hT)
    clear hT hcap l1 l2 l3 n1 n2 n3 hL hg ce b0 b1 b2 b3 b4 b5' b6 b7 b8 b9 b10 hF2 hfin q
    unfold Gd.world
    go_wp2
    go_end0
    exact ⟨T,uh hfin2,rfl,jC,jE,jI,dC,dE,dI,uh hX⟩

end Go.Proofs.YtbanjoflgoiegabGreat
