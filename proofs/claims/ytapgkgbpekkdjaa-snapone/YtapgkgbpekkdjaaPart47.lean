import Derived.Test.YtapgkgbpekkdjaaPart41
import Derived.Test.YtapgkgbpekkdjaaPart44
namespace Go.Proofs.Ytapgkgbpekkdjaa
open Go.RowKit

theorem Gd.Lists.aside {x:World} {gC gE gI:Nat} {c:Nat→Int} {E I:Nat→Nat→Int} (h:Gd.Lists x gC gE gI c E I) {G:Nat} (n1:G≠gC) (n2:G≠gE) (n3:G≠gI) (i:Nat) (u:Value):Gd.Lists (x.setCell ⟨G,i,none⟩ u) gC gE gI c E I :=
 ⟨h.cells.other n1 i u,h.ents.other n2 i u,h.items.other n3 i u⟩

theorem Sn.box_gold (s g:Nat→Int) (gC gE gI cC cE cI k:Nat) (u:Int) (hk:k<4):∀j,j<11→(if j=7+k then Value.int .i64 u else Gd.box s gC gE gI cC cE cI g j)=Gd.box s gC gE gI cC cE cI (Cr.num g k u) j:=by
 intro j hj
 rcases (show k=0∨k=1∨k=2∨k=3 by omega) with rfl | rfl | rfl | rfl <;> rcases (show j=0∨j=1∨j=2∨j=3∨j=4∨j=5∨j=6∨j=7∨j=8∨j=9∨j=10 by omega) with rfl | rfl | rfl | rfl | rfl | rfl | rfl | rfl | rfl | rfl | rfl <;> rfl

structure Sn.Duo (w x:World) (b T gC gE gI cC cE cI V jC jE jI dC dE dI Q:Nat) (s g c:Nat→Int) (E I:Nat→Nat→Int) (t h d:Nat→Int) (F J:Nat→Nat→Int) (p:Int × Int):Prop where
 a:Lie x T 29 11 (Gd.box s gC gE gI cC cE cI g)
 la:Gd.Lists x gC gE gI c E I
 v:Lie x V 29 11 (Gd.box t jC jE jI dC dE dI h)
 lv:Gd.Lists x jC jE jI d F J
 q:Lie x Q 42 2 (fun j=>if j=0 then .int .i64 p.1 else .int .i64 p.2)
 lT:T<b
 lC:gC<b
 lE:gE<b
 lI:gI<b
 mV:b≤V
 mC:b≤jC
 mE:b≤jE
 mI:b≤jI
 mQ:b≤Q
 wb:w.heap.size≤b
 grown:w.grownBy x none

theorem Sn.Duo.on {w x y:World} {b T gC gE gI cC cE cI V jC jE jI dC dE dI Q:Nat} {s g c:Nat→Int} {E I:Nat→Nat→Int} {t h d:Nat→Int} {F J:Nat→Nat→Int} {p:Int × Int} (H:Sn.Duo w x b T gC gE gI cC cE cI V jC jE jI dC dE dI Q s g c E I t h d F J p) (hg:x.grownBy y none):Sn.Duo w y b T gC gE gI cC cE cI V jC jE jI dC dE dI Q s g c E I t h d F J p :=
 { H with a:=H.a.on hg,la:=H.la.on hg,v:=H.v.on hg,lv:=H.lv.on hg,q:=H.q.on hg,grown:=gtr H.grown hg }

theorem Sn.box_num (s g:Nat→Int) (gC gE gI cC cE cI k:Nat) (u:Int) (hk:k<4):∀j,j<11→(if j=k then Value.int .i64 u else Gd.box s gC gE gI cC cE cI g j)=Gd.box (Cr.num s k u) gC gE gI cC cE cI g j:=by
 intro j hj
 rcases (show k=0∨k=1∨k=2∨k=3 by omega) with rfl | rfl | rfl | rfl <;> rcases (show j=0∨j=1∨j=2∨j=3∨j=4∨j=5∨j=6∨j=7∨j=8∨j=9∨j=10 by omega) with rfl | rfl | rfl | rfl | rfl | rfl | rfl | rfl | rfl | rfl | rfl <;> rfl

theorem Sn.Duo.box {w x:World} {b T gC gE gI cC cE cI V jC jE jI dC dE dI Q:Nat} {s g c:Nat→Int} {E I:Nat→Nat→Int} {t h d t' h':Nat→Int} {F J:Nat→Nat→Int} {p:Int × Int} (H:Sn.Duo w x b T gC gE gI cC cE cI V jC jE jI dC dE dI Q s g c E I t h d F J p) {k:Nat} {u:Value} (hk:∀j,j<11→(if j=k then u else Gd.box t jC jE jI dC dE dI h j)=Gd.box t' jC jE jI dC dE dI h' j):Sn.Duo w (x.setCell ⟨V,k,none⟩ u) b T gC gE gI cC cE cI V jC jE jI dC dE dI Q s g c E I t' h' d F J p:=by
 have h1:=H.lT
 have h2:=H.lC
 have h3:=H.lE
 have h4:=H.lI
 have h5:=H.mV
 exact { H with a:=H.a.other (by omega) _ _,la:=H.la.aside (by omega) (by omega) (by omega) _ _,v:=(H.v.store k u).congr hk,lv:=H.lv.aside (H.lv.cells.type7 H.v (by decide)).symm (H.lv.ents.type7 H.v (by decide)).symm (H.lv.items.type7 H.v (by decide)).symm _ _,q:=H.q.other (H.q.type7 H.v (by decide)).symm _ _,grown:=gsr H.grown ⟨V,k,none⟩ (Nat.le_trans H.wb H.mV) _ }

theorem Sn.Duo.cell {w x:World} {b T gC gE gI cC cE cI V jC jE jI dC dE dI Q:Nat} {s g c:Nat→Int} {E I:Nat→Nat→Int} {t h d:Nat→Int} {F J:Nat→Nat→Int} {p:Int × Int} (H:Sn.Duo w x b T gC gE gI cC cE cI V jC jE jI dC dE dI Q s g c E I t h d F J p) (k:Nat) (u:Int):Sn.Duo w (x.setCell ⟨jC,k,none⟩ (.int .u8 u)) b T gC gE gI cC cE cI V jC jE jI dC dE dI Q s g c E I t h (Gr.upd d k u) F J p:=by
 have h1:=H.lT
 have h2:=H.lC
 have h3:=H.lE
 have h4:=H.lI
 have h5:=H.mC
 exact { H with a:=H.a.other (by omega) _ _,la:=H.la.aside (by omega) (by omega) (by omega) _ _,v:=H.v.other (H.lv.cells.type7 H.v (by decide)) _ _,lv:=⟨(H.lv.cells.store k (.int .u8 u)).congr fun j _=>by unfold Byts Gr.upd;split <;> rfl,H.lv.ents.other (H.lv.cells.type7 H.lv.ents (by decide)) _ _,H.lv.items.other (H.lv.cells.type7 H.lv.items (by decide)) _ _⟩,q:=H.q.other (H.lv.cells.type7 H.q (by decide)) _ _,grown:=gsr H.grown ⟨jC,k,none⟩ (Nat.le_trans H.wb H.mC) _ }

theorem Sn.Duo.ent {w x:World} {b T gC gE gI cC cE cI V jC jE jI dC dE dI Q:Nat} {s g c:Nat→Int} {E I:Nat→Nat→Int} {t h d:Nat→Int} {F J:Nat→Nat→Int} {p:Int × Int} (H:Sn.Duo w x b T gC gE gI cC cE cI V jC jE jI dC dE dI Q s g c E I t h d F J p) (k i:Nat) (hi:i<11) (u:Int):Sn.Duo w (x.setCell ⟨jE,k*11+i,none⟩ (.int .i64 u)) b T gC gE gI cC cE cI V jC jE jI dC dE dI Q s g c E I t h d (En.put F k (fun j=>if j=i then u else F k j)) J p:=by
 have h1:=H.lT
 have h2:=H.lC
 have h3:=H.lE
 have h4:=H.lI
 have h5:=H.mE
 refine { H with a:=H.a.other (by omega) _ _,la:=H.la.aside (by omega) (by omega) (by omega) _ _,v:=H.v.other (H.lv.ents.type7 H.v (by decide)) _ _,lv:=⟨H.lv.cells.other (H.lv.ents.type7 H.lv.cells (by decide)) _ _,(H.lv.ents.store (k*11+i) (.int .i64 u)).congr fun j _=>?_,H.lv.items.other (H.lv.ents.type7 H.lv.items (by decide)) _ _⟩,q:=H.q.other (H.lv.ents.type7 H.q (by decide)) _ _,grown:=gsr H.grown ⟨jE,k*11+i,none⟩ (Nat.le_trans H.wb H.mE) _ }
 unfold En.flat
 by_cases e:j / 11=k
 ·rw [e,En.put_same]
  by_cases e2:j % 11=i
  ·rw [if_pos (by omega),if_pos e2]
  ·rw [if_neg (by omega),if_neg e2]
 ·rw [En.put_other e,if_neg (by omega)]

theorem Sn.Duo.kind {w x:World} {b T gC gE gI cC cE cI V jC jE jI dC dE dI Q:Nat} {s g c:Nat→Int} {E I:Nat→Nat→Int} {t h d:Nat→Int} {F J:Nat→Nat→Int} {p:Int × Int} (H:Sn.Duo w x b T gC gE gI cC cE cI V jC jE jI dC dE dI Q s g c E I t h d F J p) (u:Int):Sn.Duo w (x.setCell ⟨Q,0,none⟩ (.int .i64 u)) b T gC gE gI cC cE cI V jC jE jI dC dE dI Q s g c E I t h d F J (u,p.2):=by
 have h1:=H.lT
 have h2:=H.lC
 have h3:=H.lE
 have h4:=H.lI
 have h5:=H.mQ
 exact { H with a:=H.a.other (by omega) _ _,la:=H.la.aside (by omega) (by omega) (by omega) _ _,v:=H.v.other (H.q.type7 H.v (by decide)) _ _,lv:=H.lv.aside (H.lv.cells.type7 H.q (by decide)).symm (H.lv.ents.type7 H.q (by decide)).symm (H.lv.items.type7 H.q (by decide)).symm _ _,q:=(H.q.store 0 (.int .i64 u)).congr fun j _=>by dsimp only;split <;> rfl,grown:=gsr H.grown ⟨Q,0,none⟩ (Nat.le_trans H.wb H.mQ) _ }

theorem Gd.Lists.asides {x:World} {gC gE gI:Nat} {c:Nat→Int} {E I:Nat→Nat→Int} (h:Gd.Lists x gC gE gI c E I) {G:Nat} (n1:G≠gC) (n2:G≠gE) (n3:G≠gI) (o:Nat) (vs:List Value):Gd.Lists (x.setCells G o vs) gC gE gI c E I :=
 ⟨h.cells.others n1 o vs,h.ents.others n2 o vs,h.items.others n3 o vs⟩

theorem Sn.Duo.item {w x:World} {b T gC gE gI cC cE cI V jC jE jI dC dE dI Q:Nat} {s g c:Nat→Int} {E I:Nat→Nat→Int} {t h d:Nat→Int} {F J:Nat→Nat→Int} {p:Int × Int} (H:Sn.Duo w x b T gC gE gI cC cE cI V jC jE jI dC dE dI Q s g c E I t h d F J p) (k:Nat) (r:Nat→Int):Sn.Duo w (x.setCells jI (k*4) (Gd.cells r).toList) b T gC gE gI cC cE cI V jC jE jI dC dE dI Q s g c E I t h d F (En.put J k r) p:=by
 have h1:=H.lT
 have h2:=H.lC
 have h3:=H.lE
 have h4:=H.lI
 have h5:=H.mI
 exact { H with a:=H.a.others (by omega) _ _,la:=H.la.asides (by omega) (by omega) (by omega) _ _,v:=H.v.others (H.lv.items.type7 H.v (by decide)) _ _,lv:=⟨H.lv.cells.others (H.lv.items.type7 H.lv.cells (by decide)) _ _,H.lv.ents.others (H.lv.items.type7 H.lv.ents (by decide)) _ _,H.lv.items.item k r⟩,q:=H.q.others (H.lv.items.type7 H.q (by decide)) _ _,grown:=own_sets (Nat.le_trans H.wb H.mI) _ _ _ H.grown }

theorem Sn.Duo.wants {w x:World} {b T gC gE gI cC cE cI V jC jE jI dC dE dI Q:Nat} {s g c:Nat→Int} {E I:Nat→Nat→Int} {t h d:Nat→Int} {F J:Nat→Nat→Int} {p:Int × Int} (H:Sn.Duo w x b T gC gE gI cC cE cI V jC jE jI dC dE dI Q s g c E I t h d F J p) (u v:Int):Sn.Duo w (x.setCells Q 0 [.int .i64 u,.int .i64 v]) b T gC gE gI cC cE cI V jC jE jI dC dE dI Q s g c E I t h d F J (u,v):=by
 have h1:=H.lT
 have h2:=H.lC
 have h3:=H.lE
 have h4:=H.lI
 have h5:=H.mQ
 refine { H with a:=H.a.others (by omega) _ _,la:=H.la.asides (by omega) (by omega) (by omega) _ _,v:=H.v.others (H.q.type7 H.v (by decide)) _ _,lv:=H.lv.asides (H.lv.cells.type7 H.q (by decide)).symm (H.lv.ents.type7 H.q (by decide)).symm (H.lv.items.type7 H.q (by decide)).symm _ _,q:=(H.q.stores 0 [.int .i64 u,.int .i64 v]).congr fun j hj=>?_,grown:=own_sets (Nat.le_trans H.wb H.mQ) _ _ _ H.grown }
 rcases (show j=0∨j=1 by omega) with rfl | rfl <;> rfl


open Go.RowKit

def Sn.void:Array Value:=#[.int .i64 0,.int .i64 0,.int .i64 0,.int .i64 0,.slice none 0 0,.slice none 0 0,.slice none 0 0,.int .i64 0,.int .i64 0,.int .i64 0,Value.int .i64 0]

theorem Sn.worlds_congr {w w':World} {e:Ending} {s s' g g' c c':Nat→Int} {E E' I I':Nat→Nat→Int} (h:Gd.Worlds w s g c E I e w') (hs:∀k,k<4→s k=s' k) (hg:∀k,k<4→g k=g' k) (hc:∀k,k<384→c k=c' k) (hE:∀i j,i<32→j<11→E i j=E' i j) (hI:∀i j,i<40→j<4→I i j=I' i j):Gd.Worlds w s' g' c' E' I' e w':=by
 obtain ⟨gC,gE,gI,cC,cE,cI,rfl,h1,h2,h3,h4,h5,h6,h7,hL,hg2⟩:=h
 refine ⟨gC,gE,gI,cC,cE,cI,?_,h1,h2,h3,h4,h5,h6,h7,⟨hL.cells.congr fun k hk=>?_,hL.ents.congr fun k hk=>?_,hL.items.congr fun k hk=>?_⟩,hg2⟩
 ·unfold Gd.world
  rw [hs 0 (by omega),hs 1 (by omega),hs 2 (by omega),hs 3 (by omega),hg 0 (by omega),hg 1 (by omega),hg 2 (by omega),hg 3 (by omega)]
 ·show Value.int .u8 (c k)=.int .u8 (c' k)
  rw [hc k hk]
 ·show Value.int .i64 (E (k / 11) (k % 11))=.int .i64 (E' (k / 11) (k % 11))
  rw [hE _ _ (by omega) (by omega)]
 ·show Value.int .i64 (I (k / 4) (k % 4))=.int .i64 (I' (k / 4) (k % 4))
  rw [hI _ _ (by omega) (by omega)]

def Sn.Decodes (w:World) (s g c:Nat→Int) (E I:Nat→Nat→Int) (e:Ending) (w':World):Prop :=
 ∃r,Sn.Chk s g c E I r∧((r≠0∧e=.returned (.tuple #[.agg Sn.void,.int .i64 r])∧w.grownBy w' none) ∨
  (r=0∧∃v,e=.returned (.tuple #[v,.int .i64 0])∧Gd.Worlds w s g c E I (.returned v) w'))

set_option maxRecDepth 8000 in
set_option maxHeartbeats 6400000 in
theorem decode_any (G cap:Nat) (F sF gF cF:Nat→Int) (eF iF:Nat→Nat→Int) (w:World) (hS:Sn.Src w G F) (hc:918≤cap) (hm:cap≤9223372036854775807) (qs:∀k,k<4→Sn.rs F k=sF k) (qg:∀k,k<4→Sn.rg F k=gF k) (qc:∀k,k<384→Sn.rc F k=cF k) (qE:∀i j,i<32→j<11→Sn.rE F i j=eF i j) (qI:∀i j,i<40→j<4→Sn.rI F i j=iF i j) (hby':∀i,0≤cF i∧cF i≤255) :
  Calls Try.prog 16 #[.slice (some ⟨G,0,none⟩) 918 cap] w (Sn.Decodes w sF gF cF eF iF):=by
 obtain ⟨w0,hw0⟩:∃w0,w0=w.alloc (.cells #[.int .i64 0,.int .i64 0,.int .i64 0,.int .i64 0,.slice none 0 0,.slice none 0 0,.slice none 0 0,.int .i64 0,.int .i64 0,.int .i64 0,.int .i64 0] 29):=⟨_,rfl⟩
 have hg0:w.grownBy w0 none:=by rw [hw0];exact World.grownBy_alloc _ _ _
 obtain ⟨P,hP⟩:∃P,w.heap.size=P:=⟨_,rfl⟩
 have hR:Lie w0 P 29 11 (fun j=>#[.int .i64 0,.int .i64 0,.int .i64 0,.int .i64 0,.slice none 0 0,.slice none 0 0,.slice none 0 0,.int .i64 0,.int .i64 0,.int .i64 0,Value.int .i64 0][j]?.getD undef):=by
  rw [hw0,←hP]
  exact (Arr.lit (heap_alloc_new w _)).lie
 have hby:=hide hby'
 have cr:=hide ((snReads_any G cap F w0 (hS.on hg0 (by simp)) hc hm).mono fun e x h=>Sn.worlds_congr h qs qg qc qE qI)
 obtain ⟨D,hD⟩:∃D,Sn.Decodes w sF gF cF eF iF=D:=⟨_,rfl⟩
 have hD1:Hid (∀r x,Sn.Chk sF gF cF eF iF r→r≠0→w.grownBy x none→D (.returned (.tuple #[.agg Sn.void,.int .i64 r])) x):=fun r x h1 h2 h3=>by
  rw [←hD]
  exact ⟨r,h1,.inl ⟨h2,rfl,h3⟩⟩
 have hD0:Hid (∀v x,Sn.Chk sF gF cF eF iF 0→Gd.Worlds w sF gF cF eF iF (.returned v) x→D (.returned (.tuple #[v,.int .i64 0])) x):=fun v x h1 h2=>by
  rw [←hD]
  exact ⟨0,h1,.inr ⟨rfl,v,rfl,h2⟩⟩
 rw [hD]
 have HP:=hide hP
 have HR:=hide hR
 have HG:=hide hg0
 clear hg0 hR hP hS hc hm hD qs qg qc qE qI hby'
 go_enter Try.func16,Try.ntmps16
 go_upto_region 1 with fail
 rw [←hw0,uh HP]
 clear hw0
 go_wp2_with fail
 refine (uh cr).mono ?_
 rintro e w1 ⟨gC,gE,gI,cC,cE,cI,rfl,hcE,l1,l2,l3,n1,n2,n3,hL,hg1⟩
 have hW0:Hid (Gd.Worlds w0 sF gF cF eF iF (.returned (.agg (Gd.world sF gC gE gI cC cE cI gF))) w1):=⟨gC,gE,gI,cC,cE,cI,rfl,hcE,l1,l2,l3,n1,n2,n3,hL,hg1⟩
 obtain ⟨w2,hw2⟩:∃w2,w2=w1.alloc (.cells (Gd.world sF gC gE gI cC cE cI gF) 29):=⟨_,rfl⟩
 have hg2:w1.grownBy w2 none:=by rw [hw2];exact World.grownBy_alloc _ _ _
 have hB:Hid (Lie w2 w1.heap.size 29 11 (Gd.box sF gC gE gI cC cE cI gF)):=by show Lie w2 _ _ _ _;rw [hw2];exact (Arr.world (heap_alloc_new w1 _)).lie
 have HR2:=hide ((uh HR).on (gtr hg1 hg2))
 have HG2:=hide (gtr (uh HG) (gtr hg1 hg2))
 have HL2:=hide (hL.on hg2)
 have cc:=hide (snCheck_any sF gF cF eF iF gC gE gI cC cE cI w2 (uh HL2) (uh hby) hcE)
 have HX:Hid (32≤cE∧w0.heap.size≤gC∧w0.heap.size≤gE∧w0.heap.size≤gI∧gC≠gE∧gC≠gI∧gE≠gI):=⟨hcE,l1,l2,l3,n1,n2,n3⟩
 clear hcE l1 l2 l3 n1 n2 n3 hL hg1 hg2 cr HR hW0
 unfold Gd.world at hw2 cc ⊢
 go_upto_region 6 with fail
 rw [←hw2]
 clear hw2
 obtain ⟨B,hBe⟩:∃B,w1.heap.size=B:=⟨_,rfl⟩
 rw [hBe] at hB ⊢
 clear hBe w1
 obtain ⟨b0,b1,b2,b3,b4,b5,b6,b7,b8,b9,b10⟩:=(uh hB).eleven
 go_wp2_with fail
 refine (uh cc).mono ?_
 rintro e w3 ⟨r,rfl,hr,hg3⟩
 have HR3:=hide ((uh HR2).on hg3)
 have HG3:=hide (gtr (uh HG2) hg3)
 have HL3:=hide ((uh HL2).on hg3)
 have hB3:=hide ((uh hB).on hg3)
 have hr':=hide hr
 clear hg3 hr cc HR2 HG2 HL2 hB b0 b1 b2 b3 b4 b5 b6 b7 b8 b9 b10
 have fz:=(uh HR3).free
 obtain ⟨z0,z1,z2,z3,z4,z5,z6,z7,z8,z9,z10⟩:=Gd.res_cells (uh HR3)
 by_cases h0:r=0
 ·subst h0
  have hPl:Hid (w.heap.size≤P):=(show w.heap.size≤P by have:=uh HP;omega)
  have hfo:Hid (∀vs,D (.returned (.tuple #[.agg (Gd.world sF gC gE gI cC cE cI gF),.int .i64 0])) (w3.setCells P 0 vs)):=fun vs=>by
   obtain ⟨x1,x2,x3,x4,x5,x6,x7⟩:=uh HX
   have hs:=(uh HG).size
   have h:=uh HL3
   have hr:=uh HR3
   refine uh hD0 _ _ (uh hr') ⟨gC,gE,gI,cC,cE,cI,rfl,x1,by omega,by omega,by omega,x5,x6,x7,⟨h.cells.others (hr.type_ne h.cells (by decide)) _ _,h.ents.others (hr.type_ne h.ents (by decide)) _ _,h.items.others (hr.type_ne h.items (by decide)) _ _⟩,own_sets (uh hPl) vs 0 w3 (uh HG3)⟩
  obtain ⟨b0,b1,b2,b3,b4,b5,b6,b7,b8,b9,b10⟩:=(uh hB3).eleven
  clear HX HL3 HR3 HG3 hB3 hD0 hD1 hr' hby
  go_wp2
  refine bodyPost_ret (v:=.tuple #[.agg (Gd.world sF gC gE gI cC cE cI gF),.int .i64 0]) (by simp [results,Try.results16,go_sem,Gd.world,z0,z1,z2,z3,z4,z5,z6,z7,z8,z9,z10]) rfl ?_
  exact uh hfo [_,_,_,_,_,_,_,_,_,_,_]
 ·have h0':(r != 0)=true:=by simp [h0]
  have hPl:Hid (w.heap.size≤P):=(show w.heap.size≤P by have:=uh HP;omega)
  have hfo:Hid (∀vs,D (.returned (.tuple #[.agg Sn.void,.int .i64 r])) (w3.setCells P 0 vs)):=fun vs=>uh hD1 r _ (uh hr') h0 (own_sets (uh hPl) vs 0 w3 (uh HG3))
  clear HX HL3 HR3 HG3 hB3 hD0 hD1 hr' h0 hby
  go_wp2
  refine bodyPost_ret (v:=.tuple #[.agg Sn.void,.int .i64 r]) (by simp [results,Try.results16,go_sem,Sn.void,z0,z1,z2,z3,z4,z5,z6,z7,z8,z9,z10]) rfl ?_
  exact uh hfo [_,_,_,_,_,_,_,_,_,_,_]

end Go.Proofs.Ytapgkgbpekkdjaa
