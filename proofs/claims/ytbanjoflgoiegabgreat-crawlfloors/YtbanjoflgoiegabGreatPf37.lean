import Derived.Test.YtbanjoflgoiegabGreatPf35
namespace Go.Proofs.YtbanjoflgoiegabGreat
open Go.RowKit

theorem within10_any (a n:Int) (w:World) (hn:0<n) (hn2:n≤4611686018427387904) :
  Calls Tryz.prog 10 #[.int .i64 a,.int .i64 n] w fun e w'=>e=.returned (.int .i64 (a % n))∧w'=w:=by
 have t1:=Int.tmod_lt_of_pos a (b:=n) hn
 have t2:=Int.lt_tmod_of_pos a (b:=n) hn
 have hn0:(n == 0)=false:=by simp;omega
 by_cases h:a.tmod n<0
 ·have ha:¬0≤a:=by
   intro h0
   have:=Int.tmod_nonneg n h0
   omega
  have hd:=hide (Gr.within_neg a n hn h)
  go_enter Tryz.func10,Tryz.ntmps10
  go_wp2
  go_ret
  exact ⟨rti (uh hd),rfl⟩
 ·have hd:=hide (Gr.within_pos a n hn h)
  by_cases ha:0≤a
  ·have e:a.tmod n=a % n:=Int.tmod_eq_emod_of_nonneg ha
   have h':¬a % n<0:=by rw [←e];exact h
   clear h t1 t2 e
   go_enter Tryz.func10,Tryz.ntmps10
   go_wp2
   go_ret
   exact ⟨rfl,rfl⟩
  ·go_enter Tryz.func10,Tryz.ntmps10
   go_wp2
   go_ret
   exact ⟨rti (uh hd),rfl⟩

def Cr.acts (h i:Nat→Int) (b:Nat→Bool):Array Value:=#[.int .i64 (h 0),.int .i64 (i 0),.bool (b 0),.int .i64 (h 1),.int .i64 (i 1),.bool (b 1),.int .i64 (h 2),.int .i64 (i 2),.bool (b 2),.int .i64 (h 3),.int .i64 (i 3),.bool (b 3)]

def Cr.actF (h i:Nat→Int) (b:Nat→Bool) (j:Nat):Value:=if j % 3=0 then .int .i64 (h (j / 3)) else if j % 3=1 then .int .i64 (i (j / 3)) else .bool (b (j / 3))

theorem Cr.acts_lie {x:World} {A:Nat} {T:TypeId} {h i:Nat→Int} {b:Nat→Bool} (hA:x.heap[A]?=some (.cells (Cr.acts h i b) T (0,0))):Lie x A T 12 (Cr.actF h i b) :=
 Lie.congr (m:=12) (Arr.lit hA).lie fun j hj=>by
  rcases (show j=0∨j=1∨j=2∨j=3∨j=4∨j=5∨j=6∨j=7∨j=8∨j=9∨j=10∨j=11 by omega) with rfl | rfl | rfl | rfl | rfl | rfl | rfl | rfl | rfl | rfl | rfl | rfl <;> rfl

theorem Cr.acts_put {x:World} {A t:Nat} {T:TypeId} {h i:Nat→Int} {b:Nat→Bool} (hA:Lie x A T 12 (Cr.actF h i b)) (u v:Int) (c:Bool) :
  Lie (((x.setCell ⟨A,t*3,none⟩ (.int .i64 u)).setCell ⟨A,t*3+1,none⟩ (.int .i64 v)).setCell ⟨A,t*3+2,none⟩ (.bool c)) A T 12 (Cr.actF (fun k=>if k=t then u else h k) (fun k=>if k=t then v else i k) (fun k=>if k=t then c else b k)):=by
 refine (((hA.store _ _).store _ _).store _ _).congr fun j _=>?_
 unfold Cr.actF
 by_cases e:j / 3=t
 ·rcases (show j=t*3∨j=t*3+1∨j=t*3+2 by omega) with hj | hj | hj
  ·have h0:j % 3=0:=by omega
   rw [if_neg (by omega),if_neg (by omega),if_pos hj,if_pos h0]
   simp only [e,if_true]
  ·have h0:j % 3=1:=by omega
   rw [if_neg (by omega),if_pos hj,if_neg (by omega),if_pos h0]
   simp only [e,if_true]
  ·have h0:j % 3=2:=by omega
   rw [if_pos hj,if_neg (by omega),if_neg (by omega)]
   simp only [e,if_true]
 ·rw [if_neg (by omega),if_neg (by omega),if_neg (by omega)]
  simp only [e,if_false]


open Go.RowKit

def Cr.frm (s:Nat→Int) (gC gE gI cC cE cI:Nat) (g how inp:Nat→Int) (sp:Nat→Bool) (met left:Bool) (j:Nat):Value :=
 if j<11 then Gd.box s gC gE gI cC cE cI g j else if j<23 then Cr.actF how inp sp (j - 11) else if j=23 then .bool met else .bool left

structure Cr.Frm (v x:World) (P gC gE gI cC cE cI:Nat) (how inp:Nat→Int) (sp:Nat→Bool) (met left:Bool) (s g c:Nat→Int) (E I:Nat→Nat→Int):Prop where
 box:Lie x P 59 25 (Cr.frm s gC gE gI cC cE cI g how inp sp met left)
 lists:Gd.Lists x gC gE gI c E I
 cap:32≤cE∧384≤cC
 lP:v.heap.size≤P
 lC:v.heap.size≤gC
 lE:v.heap.size≤gE
 lI:v.heap.size≤gI
 cE:gC≠gE
 cI:gC≠gI
 eI:gE≠gI
 grown:v.grownBy x none

theorem Cr.Frm.on {v x y:World} {P gC gE gI cC cE cI:Nat} {how inp:Nat→Int} {sp:Nat→Bool} {met left:Bool} {s g c:Nat→Int} {E I:Nat→Nat→Int} (h:Cr.Frm v x P gC gE gI cC cE cI how inp sp met left s g c E I) (hg:x.grownBy y none):Cr.Frm v y P gC gE gI cC cE cI how inp sp met left s g c E I :=
 { h with box:=h.box.on hg,lists:=h.lists.on hg,grown:=gtr h.grown hg }

theorem Cr.Frm.apart {v x:World} {P gC gE gI cC cE cI:Nat} {how inp:Nat→Int} {sp:Nat→Bool} {met left:Bool} {s g c:Nat→Int} {E I:Nat→Nat→Int} (h:Cr.Frm v x P gC gE gI cC cE cI how inp sp met left s g c E I):P≠gC∧P≠gE∧P≠gI :=
 ⟨h.box.type_ne h.lists.cells (by decide),h.box.type_ne h.lists.ents (by decide),h.box.type_ne h.lists.items (by decide)⟩

theorem Cr.frm_lo {s:Nat→Int} {gC gE gI cC cE cI:Nat} {g how inp:Nat→Int} {sp:Nat→Bool} {met left:Bool} {j:Nat} (hj:j<11):Cr.frm s gC gE gI cC cE cI g how inp sp met left j=Gd.box s gC gE gI cC cE cI g j:=if_pos hj

theorem Cr.frm_act {s:Nat→Int} {gC gE gI cC cE cI:Nat} {g how inp:Nat→Int} {sp:Nat→Bool} {met left:Bool} {j:Nat} (hj:j<12):Cr.frm s gC gE gI cC cE cI g how inp sp met left (11+j)=Cr.actF how inp sp j:=by
 unfold Cr.frm
 rw [if_neg (by omega),if_pos (by omega),show 11+j - 11=j by omega]

theorem Cr.Frm.eleven {v x:World} {P gC gE gI cC cE cI:Nat} {how inp:Nat→Int} {sp:Nat→Bool} {met left:Bool} {s g c:Nat→Int} {E I:Nat→Nat→Int} (h:Cr.Frm v x P gC gE gI cC cE cI how inp sp met left s g c E I) :
  x.cell? ⟨P,0,none⟩=some (.int .i64 (s 0))∧x.cell? ⟨P,1,none⟩=some (.int .i64 (s 1))∧x.cell? ⟨P,2,none⟩=some (.int .i64 (s 2))∧x.cell? ⟨P,3,none⟩=some (.int .i64 (s 3))∧x.cell? ⟨P,4,none⟩=some (.slice (some ⟨gC,0,none⟩) 384 cC)∧x.cell? ⟨P,5,none⟩=some (.slice (some ⟨gE,0,none⟩) 32 cE)∧x.cell? ⟨P,6,none⟩=some (.slice (some ⟨gI,0,none⟩) 40 cI)∧x.cell? ⟨P,7,none⟩=some (.int .i64 (g 0))∧x.cell? ⟨P,8,none⟩=some (.int .i64 (g 1))∧x.cell? ⟨P,9,none⟩=some (.int .i64 (g 2))∧x.cell? ⟨P,10,none⟩=some (.int .i64 (g 3)):=by
 have hc:∀j,j<11→x.cell? ⟨P,j,none⟩=some (Gd.box s gC gE gI cC cE cI g j):=fun j hj=>(h.box.cell (c:=j) (by omega)).trans (by rw [Cr.frm_lo hj])
 exact ⟨hc 0 (by omega),hc 1 (by omega),hc 2 (by omega),hc 3 (by omega),hc 4 (by omega),hc 5 (by omega),hc 6 (by omega),hc 7 (by omega),hc 8 (by omega),hc 9 (by omega),hc 10 (by omega)⟩

theorem Cr.Frm.words {v x:World} {P gC gE gI cC cE cI:Nat} {how inp:Nat→Int} {sp:Nat→Bool} {met left:Bool} {s g c:Nat→Int} {E I:Nat→Nat→Int} (h:Cr.Frm v x P gC gE gI cC cE cI how inp sp met left s g c E I):x.cell? ⟨P,23,none⟩=some (.bool met)∧x.cell? ⟨P,24,none⟩=some (.bool left) :=
 ⟨h.box.cell (c:=23) (by omega),h.box.cell (c:=24) (by omega)⟩

theorem Cr.Frm.act {v x:World} {P gC gE gI cC cE cI:Nat} {how inp:Nat→Int} {sp:Nat→Bool} {met left:Bool} {s g c:Nat→Int} {E I:Nat→Nat→Int} (h:Cr.Frm v x P gC gE gI cC cE cI how inp sp met left s g c E I) {t:Nat} (ht:t<4) :
  x.cell? ⟨P,11+t*3,none⟩=some (.int .i64 (how t))∧x.cell? ⟨P,11+t*3+1,none⟩=some (.int .i64 (inp t))∧x.cell? ⟨P,11+t*3+2,none⟩=some (.bool (sp t)):=by
 have hc:∀j,j<12→x.cell? ⟨P,11+j,none⟩=some (Cr.actF how inp sp j):=fun j hj=>(h.box.cell (c:=11+j) (by omega)).trans (by rw [Cr.frm_act hj])
 refine ⟨(hc (t*3) (by omega)).trans ?_,(hc (t*3+1) (by omega)).trans ?_,(hc (t*3+2) (by omega)).trans ?_⟩ <;> unfold Cr.actF
 ·rw [if_pos (by omega),show t*3 / 3=t by omega]
 ·rw [if_neg (by omega),if_pos (by omega),show (t*3+1) / 3=t by omega]
 ·rw [if_neg (by omega),if_neg (by omega),show (t*3+2) / 3=t by omega]

theorem Cr.Frm.twelve {v x:World} {P gC gE gI cC cE cI:Nat} {how inp:Nat→Int} {sp:Nat→Bool} {met left:Bool} {s g c:Nat→Int} {E I:Nat→Nat→Int} (h:Cr.Frm v x P gC gE gI cC cE cI how inp sp met left s g c E I) :
  x.cell? ⟨P,11,none⟩=some (.int .i64 (how 0))∧x.cell? ⟨P,12,none⟩=some (.int .i64 (inp 0))∧x.cell? ⟨P,13,none⟩=some (.bool (sp 0))∧x.cell? ⟨P,14,none⟩=some (.int .i64 (how 1))∧x.cell? ⟨P,15,none⟩=some (.int .i64 (inp 1))∧x.cell? ⟨P,16,none⟩=some (.bool (sp 1))∧x.cell? ⟨P,17,none⟩=some (.int .i64 (how 2))∧x.cell? ⟨P,18,none⟩=some (.int .i64 (inp 2))∧x.cell? ⟨P,19,none⟩=some (.bool (sp 2))∧x.cell? ⟨P,20,none⟩=some (.int .i64 (how 3))∧x.cell? ⟨P,21,none⟩=some (.int .i64 (inp 3))∧x.cell? ⟨P,22,none⟩=some (.bool (sp 3)) :=
 ⟨(h.act (t:=0) (by omega)).1,(h.act (t:=0) (by omega)).2.1,(h.act (t:=0) (by omega)).2.2,(h.act (t:=1) (by omega)).1,(h.act (t:=1) (by omega)).2.1,(h.act (t:=1) (by omega)).2.2,(h.act (t:=2) (by omega)).1,(h.act (t:=2) (by omega)).2.1,(h.act (t:=2) (by omega)).2.2,(h.act (t:=3) (by omega)).1,(h.act (t:=3) (by omega)).2.1,(h.act (t:=3) (by omega)).2.2⟩

theorem Cr.Frm.set {v x:World} {P gC gE gI cC cE cI gC' gE' gI' cC' cE' cI':Nat} {how inp:Nat→Int} {sp:Nat→Bool} {met left met' left':Bool} {s g c s' g':Nat→Int} {E I:Nat→Nat→Int} (h:Cr.Frm v x P gC gE gI cC cE cI how inp sp met left s g c E I) (k:Nat) (u:Value) (he:∀j,j<25→(if j=k then u else Cr.frm s gC gE gI cC cE cI g how inp sp met left j)=Cr.frm s' gC' gE' gI' cC' cE' cI' g' how inp sp met' left' j) :
  Lie (x.setCell ⟨P,k,none⟩ u) P 59 25 (Cr.frm s' gC' gE' gI' cC' cE' cI' g' how inp sp met' left')∧Gd.Lists (x.setCell ⟨P,k,none⟩ u) gC gE gI c E I∧v.grownBy (x.setCell ⟨P,k,none⟩ u) none:=by
 obtain ⟨n1,n2,n3⟩:=h.apart
 exact ⟨(h.box.store k u).congr he,⟨h.lists.cells.other n1 _ _,h.lists.ents.other n2 _ _,h.lists.items.other n3 _ _⟩,gsr h.grown ⟨P,k,none⟩ h.lP _⟩

theorem Cr.Frm.met {v x:World} {P gC gE gI cC cE cI:Nat} {how inp:Nat→Int} {sp:Nat→Bool} {met left:Bool} {s g c:Nat→Int} {E I:Nat→Nat→Int} (h:Cr.Frm v x P gC gE gI cC cE cI how inp sp met left s g c E I) (b:Bool):Cr.Frm v (x.setCell ⟨P,23,none⟩ (.bool b)) P gC gE gI cC cE cI how inp sp b left s g c E I:=by
 obtain ⟨h1,h2,h3⟩:=h.set 23 (.bool b) (s':=s) (gC':=gC) (gE':=gE) (gI':=gI) (cC':=cC) (cE':=cE) (cI':=cI) (g':=g) (met':=b) (left':=left) fun j _=>by
  unfold Cr.frm
  by_cases e:j=23
  ·rw [if_pos e,if_neg (by omega),if_neg (by omega),if_pos e]
  ·rw [if_neg e,if_neg e,if_neg e]
 exact { h with box:=h1,lists:=h2,grown:=h3 }

theorem Cr.Frm.left {v x:World} {P gC gE gI cC cE cI:Nat} {how inp:Nat→Int} {sp:Nat→Bool} {met left:Bool} {s g c:Nat→Int} {E I:Nat→Nat→Int} (h:Cr.Frm v x P gC gE gI cC cE cI how inp sp met left s g c E I) (b:Bool):Cr.Frm v (x.setCell ⟨P,24,none⟩ (.bool b)) P gC gE gI cC cE cI how inp sp met b s g c E I:=by
 obtain ⟨h1,h2,h3⟩:=h.set 24 (.bool b) (s':=s) (gC':=gC) (gE':=gE) (gI':=gI) (cC':=cC) (cE':=cE) (cI':=cI) (g':=g) (met':=met) (left':=b) fun j hj=>by
  unfold Cr.frm
  by_cases e:j=24
  ·rw [if_pos e,if_neg (by omega),if_neg (by omega),if_neg (by omega)]
  ·rw [if_neg e]
   by_cases e1:j<11
   ·rw [if_pos e1,if_pos e1]
   ·by_cases e2:j<23
    ·rw [if_neg e1,if_neg e1,if_pos e2,if_pos e2]
    ·rw [if_neg e1,if_neg e1,if_neg e2,if_neg e2,if_pos (show j=23 by omega),if_pos (show j=23 by omega)]
 exact { h with box:=h1,lists:=h2,grown:=h3 }

theorem Cr.frm_over {s:Nat→Int} {gC gE gI cC cE cI gC' gE' gI' cC' cE' cI' k:Nat} {g how inp s' g':Nat→Int} {sp:Nat→Bool} {met left:Bool} {u:Value} (he:∀j,j<11→(if j=k then u else Gd.box s gC gE gI cC cE cI g j)=Gd.box s' gC' gE' gI' cC' cE' cI' g' j) (hk:k<11):∀j,j<25→(if j=k then u else Cr.frm s gC gE gI cC cE cI g how inp sp met left j)=Cr.frm s' gC' gE' gI' cC' cE' cI' g' how inp sp met left j:=fun j _=>by
 by_cases e:j<11
 ·rw [Cr.frm_lo e,Cr.frm_lo e,he j e]
 ·rw [if_neg (by omega)]
  unfold Cr.frm
  rw [if_neg e,if_neg e]

theorem Cr.Frm.num {v x:World} {P gC gE gI cC cE cI:Nat} {how inp:Nat→Int} {sp:Nat→Bool} {met left:Bool} {s g c:Nat→Int} {E I:Nat→Nat→Int} (h:Cr.Frm v x P gC gE gI cC cE cI how inp sp met left s g c E I) (k:Nat) (hk:k<4) (u:Int):Cr.Frm v (x.setCell ⟨P,k,none⟩ (.int .i64 u)) P gC gE gI cC cE cI how inp sp met left (Cr.num s k u) g c E I:=by
 obtain ⟨h1,h2,h3⟩:=h.set k (.int .i64 u) (Cr.frm_over (s':=Cr.num s k u) (gC':=gC) (gE':=gE) (gI':=gI) (cC':=cC) (cE':=cE) (cI':=cI) (g':=g) (fun j hj=>by
  rcases (show k=0∨k=1∨k=2∨k=3 by omega) with rfl | rfl | rfl | rfl <;> rcases (show j=0∨j=1∨j=2∨j=3∨j=4∨j=5∨j=6∨j=7∨j=8∨j=9∨j=10 by omega) with rfl | rfl | rfl | rfl | rfl | rfl | rfl | rfl | rfl | rfl | rfl <;> rfl) (by omega))
 exact { h with box:=h1,lists:=h2,grown:=h3 }

theorem Cr.Frm.folk {v x x':World} {P gC gE gI cC cE cI jE dE:Nat} {how inp:Nat→Int} {sp:Nat→Bool} {met left:Bool} {s g c:Nat→Int} {E I F:Nat→Nat→Int} (h:Cr.Frm v x P gC gE gI cC cE cI how inp sp met left s g c E I) (hcap:32≤dE) (hj:jE=gE∨x.heap.size≤jE) (hO:Own x' jE 32 F) (hg:x.grownBy x' none) :
  Cr.Frm v (x'.setCell ⟨P,5,none⟩ (.slice (some ⟨jE,0,none⟩) 32 dE)) P gC jE gI cC dE cI how inp sp met left s g c F I:=by
 have h':=h.on hg
 have q1:=h.lists.cells.lt
 have q2:=h.lists.items.lt
 have q3:=h.cE
 have q4:=h.eI
 have q5:=h.lE
 have q6:=h.grown.size
 have hE:=hO.lie (m:=352) (by omega)
 have nE:P≠jE:=h'.box.type_ne hE (by decide)
 obtain ⟨h1,h2,h3⟩:=h'.set 5 (.slice (some ⟨jE,0,none⟩) 32 dE) (Cr.frm_over (s':=s) (gC':=gC) (gE':=jE) (gI':=gI) (cC':=cC) (cE':=dE) (cI':=cI) (g':=g) (Gd.box_5 s g gC gE gI cC cE cI jE dE) (by omega))
 exact ⟨h1,⟨h2.cells,hE.other nE _ _,h2.items⟩,⟨hcap,h.cap.2⟩,h.lP,h.lC,by omega,h.lI,by omega,h.cI,by omega,h3⟩

theorem Cr.Frm.stat {v x:World} {P gC gE gI cC cE cI:Nat} {how inp:Nat→Int} {sp:Nat→Bool} {met left:Bool} {s g c:Nat→Int} {E I:Nat→Nat→Int} (h:Cr.Frm v x P gC gE gI cC cE cI how inp sp met left s g c E I) (k j:Nat) (hj:j<11) (u:Int):Cr.Frm v (x.setCell ⟨gE,k*11+j,none⟩ (.int .i64 u)) P gC gE gI cC cE cI how inp sp met left s g c (Gd.set E k j u) I:=by
 obtain ⟨n1,n2,n3⟩:=h.apart
 exact { h with box:=h.box.other n2.symm _ _,lists:=⟨h.lists.cells.other h.cE.symm _ _,h.lists.ents.stat k j hj u,h.lists.items.other h.eI _ _⟩,grown:=gsr h.grown ⟨gE,k*11+j,none⟩ h.lE _ }

theorem Cr.Frm.aside {v x:World} {P gC gE gI cC cE cI Q m:Nat} {T:TypeId} {H:Nat→Value} {how inp:Nat→Int} {sp:Nat→Bool} {met left:Bool} {s g c:Nat→Int} {E I:Nat→Nat→Int} (h:Cr.Frm v x P gC gE gI cC cE cI how inp sp met left s g c E I) (lQ:v.heap.size≤Q) (hQ:Lie x Q T m H) (hT:59≠T) (nE:Q≠gC∧Q≠gE∧Q≠gI) (k:Nat) (u:Value):Cr.Frm v (x.setCell ⟨Q,k,none⟩ u) P gC gE gI cC cE cI how inp sp met left s g c E I :=
 { h with box:=h.box.other (h.box.type_ne hQ hT).symm _ _,lists:=⟨h.lists.cells.other nE.1 _ _,h.lists.ents.other nE.2.1 _ _,h.lists.items.other nE.2.2 _ _⟩,grown:=gsr h.grown ⟨Q,k,none⟩ lQ _ }

theorem Cr.Frm.over {v x x':World} {P gC gE gI cC cE cI jC jE jI dC dE dI:Nat} {how inp:Nat→Int} {sp:Nat→Bool} {met left:Bool} {s g c s' g' c':Nat→Int} {E I F J:Nat→Nat→Int} (h:Cr.Frm v x P gC gE gI cC cE cI how inp sp met left s g c E I) (hcap:32≤dE∧384≤dC) (l1:x.heap.size≤jC) (l2:x.heap.size≤jE) (l3:x.heap.size≤jI) (n1:jC≠jE) (n2:jC≠jI) (n3:jE≠jI) (hL:Gd.Lists x' jC jE jI c' F J) (hg:x.grownBy x' none) :
  Cr.Frm v (x'.setCells P 0 (Gd.world s' jC jE jI dC dE dI g').toList) P jC jE jI dC dE dI how inp sp met left s' g' c' F J:=by
 have h':=h.on hg
 have q:=h.grown.size
 have m1:P≠jC:=h'.box.type_ne hL.cells (by decide)
 have m2:P≠jE:=h'.box.type_ne hL.ents (by decide)
 have m3:P≠jI:=h'.box.type_ne hL.items (by decide)
 refine ⟨(h'.box.stores 0 _).congr fun j hj=>?_,⟨hL.cells.others m1 _ _,hL.ents.others m2 _ _,hL.items.others m3 _ _⟩,hcap,h.lP,by omega,by omega,by omega,n1,n2,n3,own_sets h.lP _ 0 x' h'.grown⟩
 show (if 0≤j∧j<0+11 then (Gd.world s' jC jE jI dC dE dI g').toList[j - 0]?.getD undef else Cr.frm s gC gE gI cC cE cI g how inp sp met left j)=_
 by_cases e:j<11
 ·rw [if_pos (by omega),Nat.sub_zero,Array.getElem?_toList,Gd.world_at s' jC jE jI dC dE dI g' j e,Cr.frm_lo e]
  rfl
 ·rw [if_neg (by omega)]
  unfold Cr.frm
  rw [if_neg e,if_neg e]

def Cr.Goes (v:World) (P:Nat) (how inp:Nat→Int) (sp:Nat→Bool) (met left:Bool) (s g c:Nat→Int) (E I:Nat→Nat→Int) (e:Ending) (x:World):Prop :=
 e=.returned (.tuple #[])∧∃gC gE gI cC cE cI,Cr.Frm v x P gC gE gI cC cE cI how inp sp met left s g c E I


open Go.RowKit

set_option maxHeartbeats 1600000 in
theorem mLies_any (I:Nat→Nat→Int) (k:Nat) (x y:Int) (room:Bool) (Bh Br:Nat) (w:World) (h3:w.cell? ⟨Bh,3,none⟩=some (.int .i64 x)) (h4:w.cell? ⟨Bh,4,none⟩=some (.int .i64 y)) (hr:w.cell? ⟨Br,0,none⟩=some (.bool room)) (l1:Bh<w.heap.size) (l2:Br<w.heap.size) :
  Calls Tryz.prog 191 #[.agg #[.int .i64 (I k 0),.int .i64 (I k 1),.int .i64 (I k 2),.int .i64 (I k 3)],.pointer (some ⟨Bh,0,none⟩),.pointer (some ⟨Br,0,none⟩)] w (Says w (.bool (Md.liesQ I x y room k))):=by
 have hd:Hid (Md.liesQ I x y room k=((decide (I k 1=1) && (decide (I k 2=x) && decide (I k 3=y))) && (room || decide (I k 0=4)))):=rfl
 rw [uh hd]
 obtain ⟨p0,h0⟩:∃p,I k 0=p:=⟨_,rfl⟩
 obtain ⟨p1,h1⟩:∃p,I k 1=p:=⟨_,rfl⟩
 obtain ⟨p2,h2⟩:∃p,I k 2=p:=⟨_,rfl⟩
 obtain ⟨p3,hp3⟩:∃p,I k 3=p:=⟨_,rfl⟩
 rw [h0,h1,h2,hp3]
 clear hd h0 h1 h2 hp3
 have hg:=hide (World.grownBy_alloc w (.cells #[.int .i64 p0,.int .i64 p1,.int .i64 p2,.int .i64 p3] 47) none)
 have g3:=(gce (uh hg) Bh 3 l1 (by simp)).trans h3
 have g4:=(gce (uh hg) Bh 4 l1 (by simp)).trans h4
 have gr:=(gce (uh hg) Br 0 l2 (by simp)).trans hr
 by_cases m1:p1=1
 ·subst m1
  by_cases m2:p2=x
  ·subst m2
   by_cases m3:p3=y
   ·subst m3
    cases room
    ·go_enter Tryz.func191,Tryz.ntmps191
     go_wp2
     go_ret
     exact ⟨by simp [Bool.beq_eq_decide_eq],uh hg⟩
    ·go_enter Tryz.func191,Tryz.ntmps191
     go_wp2
     go_ret
     exact ⟨by simp,uh hg⟩
   ·have m3':(p3 == y)=false:=by simpa using m3
    go_enter Tryz.func191,Tryz.ntmps191
    go_wp2
    go_ret
    exact ⟨by simp [m3],uh hg⟩
  ·have m2':(p2 == x)=false:=by simpa using m2
   go_enter Tryz.func191,Tryz.ntmps191
   go_wp2
   go_ret
   exact ⟨by simp [m2],uh hg⟩
 ·have m1':(p1 == 1)=false:=by simpa using m1
  go_enter Tryz.func191,Tryz.ntmps191
  go_wp2
  go_ret
  exact ⟨by simp [m1],uh hg⟩

set_option maxHeartbeats 1600000 in
theorem mIndexFunc_any (I:Nat→Nat→Int) (gI cI:Nat) (x y:Int) (room:Bool) (Bh Br:Nat) (w:World) (hI:Its w gI 0 40 I) (h3:w.cell? ⟨Bh,3,none⟩=some (.int .i64 x)) (h4:w.cell? ⟨Bh,4,none⟩=some (.int .i64 y)) (hr:w.cell? ⟨Br,0,none⟩=some (.bool room)) (l1:Bh<w.heap.size) (l2:Br<w.heap.size) :
  Calls Tryz.prog 192 #[.slice (some ⟨gI,0,none⟩) 40 cI,.func (.func 191) #[] #[.pointer (some ⟨Bh,0,none⟩),.pointer (some ⟨Br,0,none⟩)]] w (Says w (.int .i64 (En.first (Md.liesQ I x y room) 40))):=by
 have hI':=hide hI
 have cq:Hid (∀(k:Nat) (z:World),w.grownBy z none→Calls Tryz.prog 191 #[.agg #[.int .i64 (I k 0),.int .i64 (I k 1),.int .i64 (I k 2),.int .i64 (I k 3)],.pointer (some ⟨Bh,0,none⟩),.pointer (some ⟨Br,0,none⟩)] z (Says z (.bool (Md.liesQ I x y room k)))):=fun k z hz=>mLies_any I k x y room Bh Br z ((gce hz Bh 3 l1 (by simp)).trans h3) ((gce hz Bh 4 l1 (by simp)).trans h4) ((gce hz Br 0 l2 (by simp)).trans hr) (Nat.lt_of_lt_of_le l1 hz.size) (Nat.lt_of_lt_of_le l2 hz.size)
 have hhit:Hid (∀k:Nat,k<40→(∀j,j<k→Md.liesQ I x y room j=false)→Md.liesQ I x y room k=true→En.first (Md.liesQ I x y room) 40=(k:Int)):=fun k hk hno e=>En.first_hit hno e hk
 have hnone:Hid ((∀j,j<40→Md.liesQ I x y room j=false)→En.first (Md.liesQ I x y room) 40=-1):=fun hno=>En.first_none hno
 generalize En.first (Md.liesQ I x y room) 40=r at hhit hnone ⊢
 clear hI h3 h4 hr l1 l2
 go_enter Tryz.func192,Tryz.ntmps192
 go_wp2_with fail
 go_loopw [5,8] (fun _ i wr=>∃k:Nat,k≤40∧i=.int .i64 (k:Int)∧Hid (∀j,j<k→Md.liesQ I x y room j=false)∧Hid (w.grownBy wr none)) (fun _ i _=>50 - (intOf i).toNat)
 case atStart=>exact ⟨0,by omega,rfl,fun j hj=>by omega,World.grownBy.refl _ _⟩
 case round =>
  obtain ⟨k,hk,rfl,hno,hg⟩:=hrel
  by_cases hlt:k<40
  ·obtain ⟨u0,u1,u2,u3⟩:=((uh hI').on (uh hg)).row hlt
   have hlt':(k:Int)<40:=by omega
   have HL:=hide hlt
   clear hlt hk
   have ck:=hide (uh cq k wr (uh hg))
   obtain ⟨q,hq⟩:∃q,Md.liesQ I x y room k=q:=⟨_,rfl⟩
   rw [hq] at ck
   have hq':=hide hq
   clear hq
   go_wp2_with fail
   refine (uh ck).mono ?_
   rintro e w1 ⟨rfl,hg1⟩
   have hg2:=hide (gtr (uh hg) hg1)
   clear hg1 ck u0 u1 u2 u3
   cases q
   ·have hno2:Hid (∀j,j<k+1→Md.liesQ I x y room j=false):=fun j hj=>by
     by_cases ej:j=k
     ·rw [ej];exact uh hq'
     ·exact uh hno j (by omega)
    go_wp2
    go_roundw
    case rel=>exact ⟨k+1,by have:=uh HL;omega,by go_num,hno2,hg2⟩
    case measure=>have:=uh HL;simp [intOf];omega
   ·have he:Hid (r=(k:Int)):=uh hhit k (uh HL) (uh hno) (uh hq')
    go_wp2
    go_ret
    exact ⟨rti (uh he).symm,uh hg2⟩
  ·obtain rfl:k=40:=by omega
   have hge:¬((40:Nat):Int)<40:=by omega
   have he:Hid (r=-1):=uh hnone (uh hno)
   clear hlt hk
   go_wp2
   go_ret
   exact ⟨rti (uh he).symm,uh hg⟩

theorem mContainsFunc_any (I:Nat→Nat→Int) (gI cI:Nat) (x y:Int) (room:Bool) (Bh Br:Nat) (w:World) (hI:Its w gI 0 40 I) (h3:w.cell? ⟨Bh,3,none⟩=some (.int .i64 x)) (h4:w.cell? ⟨Bh,4,none⟩=some (.int .i64 y)) (hr:w.cell? ⟨Br,0,none⟩=some (.bool room)) (l1:Bh<w.heap.size) (l2:Br<w.heap.size) :
  Calls Tryz.prog 190 #[.slice (some ⟨gI,0,none⟩) 40 cI,.func (.func 191) #[] #[.pointer (some ⟨Bh,0,none⟩),.pointer (some ⟨Br,0,none⟩)]] w (Says w (.bool (Md.lies I x y room))):=by
 have ci:=hide (mIndexFunc_any I gI cI x y room Bh Br w hI h3 h4 hr l1 l2)
 have hd:Hid (Md.lies I x y room=decide (0≤En.first (Md.liesQ I x y room) 40)):=rfl
 rw [uh hd]
 generalize En.first (Md.liesQ I x y room) 40=r at ci ⊢
 clear hI h3 h4 hr l1 l2 hd
 go_enter Tryz.func190,Tryz.ntmps190
 go_wp2_with fail
 refine (uh ci).mono ?_
 rintro e w1 ⟨rfl,hg⟩
 have hg':=hide hg
 clear hg
 go_wp2
 go_ret
 exact ⟨by simp,uh hg'⟩

theorem mFinds_any (I:Nat→Nat→Int) (e:Nat→Int) (gI cI:Nat) (room:Bool) (w:World) (hI:Its w gI 0 40 I) :
  Calls Tryz.prog 189 #[.slice (some ⟨gI,0,none⟩) 40 cI,.agg (En.cells e),.bool room] w (Says w (.bool (Md.lies I (e 3) (e 4) room))):=by
 obtain ⟨w1,hw1⟩:∃w1,w1=w.alloc (.cells (En.cells e) 42):=⟨_,rfl⟩
 obtain ⟨w2,hw2⟩:∃w2,w2=w1.alloc (.cells #[.bool room] 4):=⟨_,rfl⟩
 have hg1:w.grownBy w1 none:=by rw [hw1];exact World.grownBy_alloc _ _ _
 have hg2:w1.grownBy w2 none:=by rw [hw2];exact World.grownBy_alloc _ _ _
 have hg:=hide (gtr hg1 hg2)
 have hQ:Lie w1 w.heap.size 42 11 (Ints e):=by rw [hw1];exact Lie.copied _ _ _
 have h3:w2.cell? ⟨w.heap.size,3,none⟩=some (.int .i64 (e 3)):=(hQ.on hg2).cell (c:=3) (by omega)
 have h4:w2.cell? ⟨w.heap.size,4,none⟩=some (.int .i64 (e 4)):=(hQ.on hg2).cell (c:=4) (by omega)
 have hr:w2.cell? ⟨w1.heap.size,0,none⟩=some (.bool room):=by rw [hw2];exact (Arr.lit (heap_alloc_new w1 (.cells #[.bool room] 4))).cell (i:=0) (by simp)
 have s1:w1.heap.size=w.heap.size+1:=by rw [hw1];simp
 have s2:w2.heap.size=w1.heap.size+1:=by rw [hw2];simp
 have cf:=hide (mContainsFunc_any I gI cI (e 3) (e 4) room w.heap.size w1.heap.size w2 (hI.on (uh hg)) h3 h4 hr (by omega) (by omega))
 obtain ⟨R,hR⟩:∃R,Md.lies I (e 3) (e 4) room=R:=⟨_,rfl⟩
 rw [hR] at cf ⊢
 rw [s1] at cf
 clear hR hI hg1 hg2 hQ h3 h4 hr s1 s2
 rw [hw1] at hw2
 unfold En.cells at hw2 ⊢
 clear hw1
 go_enter Tryz.func189,Tryz.ntmps189
 go_upto_region 1 with fail
 rw [←hw2]
 clear hw2
 go_wp2_with fail
 refine (uh cf).mono ?_
 rintro x w3 ⟨rfl,hg3⟩
 have hfin:=hide (gtr (uh hg) hg3)
 clear hg3 cf
 go_wp2
 go_ret
 exact ⟨rfl,uh hfin⟩


open Go.RowKit

set_option maxRecDepth 8000 in
set_option maxHeartbeats 12800000 in
theorem mRobot_next (s g c:Nat→Int) (E I:Nat→Nat→Int) (gC gE gI cC cE cI k:Nat) (w:World) (hL:Gd.Lists w gC gE gI c E I) (hc:∀i,0≤c i∧c i≤255) (hcE:32≤cE) (hcC:384≤cC) (hE:Md.Good c E I) (hk:k<32) (hk0:E k 0≠0) :
  Calls Tryz.prog 185 #[.agg #[],.agg (Gd.world s gC gE gI cC cE cI g),.int .i64 (k:Int)] w (Md.Says w (Md.robotAt c E I (E k 2) k)):=by
 obtain ⟨wz,hwz⟩:∃wz,wz=w.alloc (.cells #[] 117):=⟨_,rfl⟩
 obtain ⟨w0,hw0⟩:∃w0,w0=wz.alloc (.cells (Gd.world s gC gE gI cC cE cI g) 28):=⟨_,rfl⟩
 have hgz:w.grownBy wz none:=by rw [hwz];exact World.grownBy_alloc _ _ _
 have hg0:w.grownBy w0 none:=by rw [hw0];exact gtr hgz (World.grownBy_alloc _ _ _)
 have hO:Hid (Gd.Shown w w0 wz.heap.size gC gE gI cC cE cI s g c E I):=by
  refine ⟨?_,hL.on hg0,hg0⟩
  rw [hw0]
  exact (Arr.world (heap_alloc_new wz _)).lie
 have hsz:wz.heap.size=w.heap.size+1:=by rw [hwz];simp
 have hc':=hide hc
 have hcE':=hide hcE
 have hcC':=hide hcC
 have hE':=hide hE
 clear hL hc hcE hcC hE hg0 hgz
 unfold Gd.world at hw0 ⊢
 rw [hwz] at hw0
 rw [hsz] at hO
 clear hwz hsz
 go_enter Tryz.func185,Tryz.ntmps185
 go_upto_region 1 with fail
 rw [←hw0]
 clear hw0
 obtain ⟨B,hB⟩:∃B,w.heap.size+1=B:=⟨_,rfl⟩
 rw [hB] at hO ⊢
 clear hB
 obtain ⟨x0,x9,y0,y9,m0,m9⟩:=(uh hE').fine k hk hk0
 have hk':(k:Int)<32:=by omega
 have HK:=hide hk
 have q5:=(uh hO).box.eleven.2.2.2.2.2.1
 obtain ⟨u0,u1,u2,u3,u4,u5,u6,u7,u8,u9,u10⟩:=(uh hO).lists.own.ents.row hk
 have hQ:=hide (Lie.copied w0 (E k) 42)
 have hO2:=hide ((uh hO).on (World.grownBy_alloc w0 (.cells (En.cells (E k)) 42) none))
 clear hk hk0
 unfold En.cells at hQ hO2
 go_upto_region 2 with fail
 obtain ⟨Q,hQe⟩:∃Q,w0.heap.size=Q:=⟨_,rfl⟩
 rw [hQe] at hQ ⊢
 generalize w0.alloc (.cells #[.int .i64 (E k 0),.int .i64 (E k 1),.int .i64 (E k 2),.int .i64 (E k 3),.int .i64 (E k 4),.int .i64 (E k 5),.int .i64 (E k 6),.int .i64 (E k 7),.int .i64 (E k 8),.int .i64 (E k 9),.int .i64 (E k 10)] 42)=w2 at hQ hO2 ⊢
 clear hQe q5 u0 u1 u2 u3 u4 u5 u6 u7 u8 u9 u10 hO
 have q6:=(uh hO2).box.eleven.2.2.2.2.2.2.1
 have z2:w2.cell? ⟨Q,2,none⟩=some (.int .i64 (E k 2)):=(uh hQ).cell (c:=2) (by omega)
 have cb:=hide (mBag_any I gI cI (E k 2) w2 (uh hO2).lists.its)
 go_wp2_with fail
 refine (uh cb).mono ?_
 rintro e w3 ⟨G,f,rfl,hA,hbag,hg⟩
 have hA3:=hide hA
 have hO3:=hide ((uh hO2).on hg)
 have hQ3:=hide ((uh hQ).on hg)
 have hhas:=hide (Md.has_iff (uh hE').ok hbag)
 have hslt:=hide (Md.slot_iff (uh hE').ok hbag)
 clear q6 z2 cb hA hbag hg hO2 hQ
 have q5:=(uh hO3).box.eleven.2.2.2.2.2.1
 obtain ⟨z0,z1,z2,z3,z4,z5,z6,z7,z8,z9,z10⟩:=(uh hQ3).elevenInts
 have cf:=hide (mFoe_any E (E k) gE cE w3 (uh hO3).lists.own (uh hcE') x0 x9 y0 y9)
 unfold En.cells at cf
 obtain ⟨FO,hFO⟩:∃F,Nv.wayFrom (Md.foe E (E k 3) (E k 4)) 4 1=F:=⟨_,rfl⟩
 rw [hFO] at cf
 have hFO':=hide hFO
 clear hFO
 go_wp2_with fail
 refine (uh cf).mono ?_
 rintro e w4 ⟨rfl,hg⟩
 have hA4:=hide ((uh hA3).grown hg (by simp))
 have hO4:=hide ((uh hO3).on hg)
 have hQ4:=hide ((uh hQ3).on hg)
 clear q5 z0 z1 z2 z3 z4 z5 z6 z7 z8 z9 z10 cf hg hA3 hO3 hQ3
 have hat:Hid (∀v,Md.robotAt c E I (E k 2) k v↔if E k 5≤E k 6 / 3∧0≤Gd.has I 40 (E k 2) 1 1 then v=6 else if FO≠0 then v=FO else if 0≤Gd.find I 40 1 (E k 3) (E k 4)∧(I (Gd.find I 40 1 (E k 3) (E k 4)).toNat 0=4∨0≤Gd.slot I 40 (E k 2)) then v=5 else if Gr.at 384 c (E k 3) (E k 4)=4 then v=9 else Nv.IsToward c (fun _=>Gr.find 384 c 4) 1 E 32 (E k 3) (E k 4) v):=fun v=>by
  rw [←uh hFO']
  exact Iff.rfl
 have hlie:=hide (Md.lies_iff (x:=E k 3) (y:=E k 4) (S:=Gd.slot I 40 (E k 2)) (uh hE').ok)
 have z5:w4.cell? ⟨Q,5,none⟩=some (.int .i64 (E k 5)):=(uh hQ4).cell (c:=5) (by omega)
 have z6:w4.cell? ⟨Q,6,none⟩=some (.int .i64 (E k 6)):=(uh hQ4).cell (c:=6) (by omega)
 have c1:=hide (mContains_any G f 1 w4 (uh hA4))
 rw [uh hhas] at c1
 obtain ⟨P,hP⟩:∃P,Gd.has I 40 (E k 2) 1 1=P:=⟨_,rfl⟩
 rw [hP] at c1 hat
 clear hP hhas hFO'
 obtain ⟨p,hp⟩:∃p:Bool,decide (E k 5≤E k 6 / 3∧0≤P)=p:=⟨_,rfl⟩
 go_upto_region 4 with fail
 go_cut [24] from 25 (fun va wx=>va=.bool p∧wx=w4)
 case first =>
  have hd:(E k 6).tdiv 3=E k 6 / 3:=Int.tdiv_eq_ediv_of_nonneg m0
  by_cases h1:E k 5≤E k 6 / 3
  ·have hpd:Hid (decide (0≤P)=p):=(show decide (0≤P)=p by rw [←hp];simp [h1])
   clear hp
   go_wp2_with fail
   refine (uh c1).mono ?_
   rintro e wy ⟨rfl,hy⟩
   subst wy
   go_wp2_with fail
   go_meet
   exact ⟨by rw [uh hpd],rfl⟩
  ·obtain rfl:p=false:=by rw [←hp];simp [h1]
   clear hp
   go_wp2_with fail
   go_meet
   exact ⟨rfl,rfl⟩
 case rest =>
  obtain ⟨rfl,hwe⟩:=hcut
  subst hwe
  clear z5 z6 c1 m0 m9
  cases p
  rotate_left
  ·have hfin:Hid (Md.Says w (Md.robotAt c E I (E k 2) k) (.returned (.int .i64 6)) wc):=⟨6,(uh hat 6).2 (by rw [if_pos (by simpa using hp)]),rfl,(uh hO4).grown⟩
   clear hp
   go_wp2
   go_ret
   exact uh hfin
  have hat2:Hid (∀v,(if FO≠0 then v=FO else if 0≤Gd.find I 40 1 (E k 3) (E k 4)∧(I (Gd.find I 40 1 (E k 3) (E k 4)).toNat 0=4∨0≤Gd.slot I 40 (E k 2)) then v=5 else if Gr.at 384 c (E k 3) (E k 4)=4 then v=9 else Nv.IsToward c (fun _=>Gr.find 384 c 4) 1 E 32 (E k 3) (E k 4) v)→Md.robotAt c E I (E k 2) k v):=fun v hv=>(uh hat v).2 (by rw [if_neg (by simpa using hp)];exact hv)
  clear hp hat
  by_cases hF0:FO=0
  rotate_left
  ·have hF0':(FO != 0)=true:=by simpa using hF0
   have hfin:Hid (Md.Says w (Md.robotAt c E I (E k 2) k) (.returned (.int .i64 FO)) wc):=⟨FO,uh hat2 FO (by rw [if_pos hF0]),rfl,(uh hO4).grown⟩
   clear hF0
   go_wp2
   go_ret
   exact uh hfin
  have hat3:Hid (∀v,(if 0≤Gd.find I 40 1 (E k 3) (E k 4)∧(I (Gd.find I 40 1 (E k 3) (E k 4)).toNat 0=4∨0≤Gd.slot I 40 (E k 2)) then v=5 else if Gr.at 384 c (E k 3) (E k 4)=4 then v=9 else Nv.IsToward c (fun _=>Gr.find 384 c 4) 1 E 32 (E k 3) (E k 4) v)→Md.robotAt c E I (E k 2) k v):=fun v hv=>uh hat2 v (by rw [if_neg (by simpa using hF0)];exact hv)
  subst hF0
  clear hat2
  have c0:Hid (∀z,wc.grownBy z none→Calls Tryz.prog 188 #[.slice (some ⟨G,0,none⟩) 4 4,.int .i64 0] z fun e w'=>e=.returned (.bool (decide (0≤Gd.slot I 40 (E k 2))))∧w'=z):=fun z hz=>by
   rw [←uh hslt]
   exact mContains_any G f 0 z ((uh hA4).grown hz (by simp))
  have cl:Hid (∀z,wc.grownBy z none→Calls Tryz.prog 189 #[.slice (some ⟨gI,0,none⟩) 40 cI,.agg (En.cells (E k)),.bool (decide (0≤Gd.slot I 40 (E k 2)))] z (Says z (.bool (decide (0≤Gd.find I 40 1 (E k 3) (E k 4)∧(I (Gd.find I 40 1 (E k 3) (E k 4)).toNat 0=4∨0≤Gd.slot I 40 (E k 2))))))):=fun z hz=>by
   rw [←uh hlie]
   exact mFinds_any I (E k) gI cI _ z ((uh hO4).lists.on hz).its
  unfold En.cells at cl
  obtain ⟨sl,hsl⟩:∃sl:Bool,decide (0≤Gd.slot I 40 (E k 2))=sl:=⟨_,rfl⟩
  obtain ⟨p,hp⟩:∃p:Bool,decide (0≤Gd.find I 40 1 (E k 3) (E k 4)∧(I (Gd.find I 40 1 (E k 3) (E k 4)).toNat 0=4∨0≤Gd.slot I 40 (E k 2)))=p:=⟨_,rfl⟩
  rw [hsl] at c0
  rw [hp,hsl] at cl
  have hp':=hide hp
  clear hsl hp hslt hlie hA4
  have hdr:=hide (gd1 (World.grownBy.refl wc none))
  have hkeep:Hid (∀z,wc.grownBy z none→(z.cell? ⟨B,6,none⟩=some (.slice (some ⟨gI,0,none⟩) 40 cI)∧z.cell? ⟨Q,0,none⟩=some (.int .i64 (E k 0))∧z.cell? ⟨Q,1,none⟩=some (.int .i64 (E k 1))∧z.cell? ⟨Q,2,none⟩=some (.int .i64 (E k 2))∧z.cell? ⟨Q,3,none⟩=some (.int .i64 (E k 3))∧z.cell? ⟨Q,4,none⟩=some (.int .i64 (E k 4))∧z.cell? ⟨Q,5,none⟩=some (.int .i64 (E k 5))∧z.cell? ⟨Q,6,none⟩=some (.int .i64 (E k 6))∧z.cell? ⟨Q,7,none⟩=some (.int .i64 (E k 7))∧z.cell? ⟨Q,8,none⟩=some (.int .i64 (E k 8))∧z.cell? ⟨Q,9,none⟩=some (.int .i64 (E k 9))∧z.cell? ⟨Q,10,none⟩=some (.int .i64 (E k 10)))):=fun z hz=>⟨((uh hO4).on hz).box.eleven.2.2.2.2.2.2.1,((uh hQ4).on hz).elevenInts⟩
  have hS0:=uh hkeep wc (World.grownBy.refl _ none)
  go_upto_region 8 with fail
  go_region_held3 (fun z=>z.cell? ⟨B,6,none⟩=some (.slice (some ⟨gI,0,none⟩) 40 cI)∧z.cell? ⟨Q,0,none⟩=some (.int .i64 (E k 0))∧z.cell? ⟨Q,1,none⟩=some (.int .i64 (E k 1))∧z.cell? ⟨Q,2,none⟩=some (.int .i64 (E k 2))∧z.cell? ⟨Q,3,none⟩=some (.int .i64 (E k 3))∧z.cell? ⟨Q,4,none⟩=some (.int .i64 (E k 4))∧z.cell? ⟨Q,5,none⟩=some (.int .i64 (E k 5))∧z.cell? ⟨Q,6,none⟩=some (.int .i64 (E k 6))∧z.cell? ⟨Q,7,none⟩=some (.int .i64 (E k 7))∧z.cell? ⟨Q,8,none⟩=some (.int .i64 (E k 8))∧z.cell? ⟨Q,9,none⟩=some (.int .i64 (E k 9))∧z.cell? ⟨Q,10,none⟩=some (.int .i64 (E k 10))) (go_keep) (first
   | (go_at_call 188;refine (uh c0 _ (uh hdr)).mono ?_;rintro e wy ⟨rfl,hy⟩;subst wy)
   | (go_at_call 189;refine (uh cl _ (uh hdr)).mono ?_;rintro e w5 ⟨rfl,hg⟩;have hg5:=hide (gtr (uh hdr) hg);have hS1:=uh hkeep _ (uh hg5);clear hg))
  have hO5:=hide ((uh hO4).on (uh hg5))
  have hQ5:=hide ((uh hQ4).on (uh hg5))
  clear hS0 hS1 hkeep hdr c0 cl hO4 hQ4 hg5
  cases p
  rotate_left
  ·have hfin:Hid (Md.Says w (Md.robotAt c E I (E k 2) k) (.returned (.int .i64 5)) w5):=⟨5,uh hat3 5 (by rw [if_pos (by simpa using uh hp')]),rfl,(uh hO5).grown⟩
   clear hp'
   go_wp2
   go_ret
   exact uh hfin
  have hat4:Hid (∀v,(if Gr.at 384 c (E k 3) (E k 4)=4 then v=9 else Nv.IsToward c (fun _=>Gr.find 384 c 4) 1 E 32 (E k 3) (E k 4) v)→Md.robotAt c E I (E k 2) k v):=fun v hv=>uh hat3 v (by rw [if_neg (by simpa using uh hp')];exact hv)
  clear hat3 hp'
  have hQ6:Hid (∀z,w5.grownBy z none→z.cell? ⟨Q,3,none⟩=some (.int .i64 (E k 3))∧z.cell? ⟨Q,4,none⟩=some (.int .i64 (E k 4))):=fun z hz=>by
   have h3:=((uh hQ5).on hz).cell (c:=3) (by omega)
   have h4:=((uh hQ5).on hz).cell (c:=4) (by omega)
   exact ⟨h3,h4⟩
  clear hQ5
  have cg:=hide (at_any w5.heap.size (some ⟨gC,0,none⟩) 384 cC c (E k 3) (E k 4) w5 (uh hO5).lists.vec (uh hc'))
  obtain ⟨a,ha⟩:∃a,Gr.at 384 c (E k 3) (E k 4)=a:=⟨_,rfl⟩
  rw [ha] at cg hat4
  clear ha
  have q4:=(uh hO5).box.eleven.2.2.2.2.1
  obtain ⟨z3,z4⟩:=uh hQ6 _ (World.grownBy.refl _ none)
  go_wp2_with fail
  refine (uh cg).mono ?_
  rintro e wy ⟨rfl,hy⟩
  subst wy
  clear cg
  by_cases h4:a=4
  ·have hfin:Hid (Md.Says w (Md.robotAt c E I (E k 2) k) (.returned (.int .i64 9)) w5):=⟨9,uh hat4 9 (by rw [if_pos h4]),rfl,(uh hO5).grown⟩
   subst h4
   go_wp2
   go_ret
   exact uh hfin
  have h4':(a == 4)=false:=by simpa using h4
  have hat5:Hid (∀v,Nv.IsToward c (fun _=>Gr.find 384 c 4) 1 E 32 (E k 3) (E k 4) v→Md.robotAt c E I (E k 2) k v):=fun v hv=>uh hat4 v (by rw [if_neg h4];exact hv)
  clear h4 hat4 q4 z3 z4
  have cF:=hide (fun z (hz:w5.grownBy z none)=>find_any z.heap.size (some ⟨gC,0,none⟩) 384 cC c 4 z ((uh hO5).lists.on hz).vec (uh hc') (uh hcC'))
  have hfb:=Md.find_bd c 4 384 0
  obtain ⟨F,hF⟩:∃F,Gr.find 384 c 4=F:=⟨_,rfl⟩
  have hfb':-1≤F∧F≤384:=by rw [←hF];exact hfb
  rw [hF] at cF hat5
  have hgz:=hide (gd1 (World.grownBy_alloc w5 (.cells #[.int .i64 F] 3) none))
  have ct:Hid (∀b,b=w5.heap.size→Calls Tryz.prog 174 #[.slice (some ⟨gC,0,none⟩) 384 cC,.slice (some ⟨gE,0,none⟩) 32 cE,.int .i64 (E k 3),.int .i64 (E k 4),.slice (some ⟨b,0,none⟩) 1 1] (w5.alloc (.cells #[.int .i64 F] 3)).drew (Nv.SaysToward (w5.alloc (.cells #[.int .i64 F] 3)).drew c (fun _=>F) 1 E 32 (E k 3) (E k 4))):=fun b hb=>by
   subst hb
   have hL:=(uh hO5).lists.on (uh hgz)
   exact navToward_any (some ⟨gC,0,none⟩) (some ⟨gE,0,none⟩) (some ⟨w5.heap.size,0,none⟩) cC 32 cE 1 1 c (fun _=>F) E (E k 3) (E k 4) _ hL.vec (uh hc') ⟨by omega,uh hcE',.inr ⟨gE,rfl,hL.own.ents⟩⟩ (uh hE').words (Nv.one_row w5 F 3) (fun _=>by omega) (by omega) (by omega) (by omega) (by omega)
  have hdr:=hide (gd1 (World.grownBy.refl w5 none))
  have hkeep:Hid (∀z,w5.grownBy z none→(z.cell? ⟨B,4,none⟩=some (.slice (some ⟨gC,0,none⟩) 384 cC)∧z.cell? ⟨B,5,none⟩=some (.slice (some ⟨gE,0,none⟩) 32 cE)∧z.cell? ⟨Q,3,none⟩=some (.int .i64 (E k 3))∧z.cell? ⟨Q,4,none⟩=some (.int .i64 (E k 4)))):=fun z hz=>⟨((uh hO5).on hz).box.eleven.2.2.2.2.1,((uh hO5).on hz).box.eleven.2.2.2.2.2.1,(uh hQ6 z hz).1,(uh hQ6 z hz).2⟩
  have hS0:=uh hkeep w5 (World.grownBy.refl _ none)
  clear hfb hF hfb'
  go_upto_region 12 with fail
  go_region_held3 (fun z=>z.cell? ⟨B,4,none⟩=some (.slice (some ⟨gC,0,none⟩) 384 cC)∧z.cell? ⟨B,5,none⟩=some (.slice (some ⟨gE,0,none⟩) 32 cE)∧z.cell? ⟨Q,3,none⟩=some (.int .i64 (E k 3))∧z.cell? ⟨Q,4,none⟩=some (.int .i64 (E k 4))) (go_keep) (first
   | (go_at_call 48;refine (uh cF _ (uh hdr)).mono ?_;rintro e wy ⟨rfl,hy⟩;subst wy)
   | (go_at_call 174;refine (uh ct _ rfl).mono ?_;rintro e w6 ⟨v,hv,rfl,hg⟩;have hg6:=hide (gtr (uh hgz) hg);have hv':=hide hv;have hS1:=uh hkeep _ (uh hg6);clear hg hv))
  have hfin:Hid (Md.Says w (Md.robotAt c E I (E k 2) k) (.returned (.int .i64 v)) w6):=⟨v,uh hat5 v (uh hv'),rfl,gtr (uh hO5).grown (uh hg6)⟩
  clear hS0 hS1
  go_wp2
  go_ret
  exact uh hfin

end Go.Proofs.YtbanjoflgoiegabGreat
