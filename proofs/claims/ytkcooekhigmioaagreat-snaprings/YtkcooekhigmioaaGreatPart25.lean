import Derived.Test.YtkcooekhigmioaaGreatPart24
import Derived.Test.YtkcooekhigmioaaGreatPart23
namespace Go.Proofs.YtkcooekhigmioaaGreat
open Go.RowKit

def Sn.bare (v:Int):Nat→Int
 | 1=>v
 | _=>0

def Sn.ansE (q0 q1 z p k1 k2 k3:Bool):Int:=bif q0 then bif q1 then bif z then (bif p then 0 else 9) else bif k1 && (k2 && k3) then 0 else 9 else 9 else 3

theorem Sn.entC_ans (c:Nat→Int) (E:Nat→Nat→Int) (k:Nat):Sn.entC c E k=Sn.ansE (Sn.inB (E k 0) 0 4) (Sn.inB (E k 1) 0 255) (decide (E k 0=0)) (Sn.sameE (E k) (Sn.bare (E k 1))) (Sn.soundB (E k)) (Sn.aloneB c E k) (Sn.seatedB E k):=by
 unfold Sn.entC Sn.ansE Sn.inB
 by_cases a0:0≤E k 0∧E k 0≤4
 ·rw [if_pos a0,decide_eq_true a0,cond_true]
  by_cases a1:0≤E k 1∧E k 1≤255
  ·rw [if_pos a1,decide_eq_true a1,cond_true]
   by_cases h0:E k 0=0
   ·rw [if_pos h0,decide_eq_true h0,cond_true]
    have e:(Sn.freeB (E k)=true↔Sn.sameE (E k) (Sn.bare (E k 1))=true):=by
     rw [Sn.sameE_iff]
     unfold Sn.freeB
     rw [decide_eq_true_eq]
     constructor
     ·rintro ⟨h2,h3,h4,h5,h6,h7,h8,h9,h10⟩ j hj
      rcases (show j=0∨j=1∨j=2∨j=3∨j=4∨j=5∨j=6∨j=7∨j=8∨j=9∨j=10 by omega) with rfl | rfl | rfl | rfl | rfl | rfl | rfl | rfl | rfl | rfl | rfl <;> first | assumption | rfl
     ·intro h
      exact ⟨h 2 (by omega),h 3 (by omega),h 4 (by omega),h 5 (by omega),h 6 (by omega),h 7 (by omega),h 8 (by omega),h 9 (by omega),h 10 (by omega)⟩
    by_cases q:Sn.freeB (E k)=true
    ·rw [if_pos q,e.1 q]
     rfl
    ·have q':Sn.sameE (E k) (Sn.bare (E k 1))=false:=by
      rw [←Bool.not_eq_true]
      exact fun h=>q (e.2 h)
     rw [if_neg q,q']
     rfl
   ·rw [if_neg h0,decide_eq_false h0,cond_false]
    by_cases q:Sn.soundB (E k)=true∧Sn.aloneB c E k=true∧Sn.seatedB E k=true
    ·rw [if_pos q,q.1,q.2.1,q.2.2]
     rfl
    ·rw [if_neg q]
     cases h1:Sn.soundB (E k) <;> cases h2:Sn.aloneB c E k <;> cases h3:Sn.seatedB E k <;> first | rfl | exact absurd ⟨h1,h2,h3⟩ q
  ·rw [if_neg a1,decide_eq_false a1,cond_false]
 ·rw [if_neg a0,decide_eq_false a0,cond_false]

set_option maxRecDepth 8000 in
set_option maxHeartbeats 6400000 in
theorem checkEnt_any (s g c:Nat→Int) (E I:Nat→Nat→Int) (gC gE gI cC cE cI k:Nat) (w:World) (hL:Gd.Lists w gC gE gI c E I) (hc:∀i,0≤c i∧c i≤255) (hcE:32≤cE) (hk:k<32) :
  Calls Tryz.prog 35 #[.agg (Gd.world s gC gE gI cC cE cI g),.int .i64 (k:Int)] w (Says w (.int .i64 (Sn.entC c E k))):=by
 obtain ⟨w0,hw0⟩:∃w0,w0=w.alloc (.cells (Gd.world s gC gE gI cC cE cI g) 31):=⟨_,rfl⟩
 have hg0:w.grownBy w0 none:=by rw [hw0];exact World.grownBy_alloc _ _ _
 have hB:Hid (Lie w0 w.heap.size 31 11 (Gd.box s gC gE gI cC cE cI g)):=by show Lie w0 _ _ _ _;rw [hw0];exact (Arr.world (heap_alloc_new w _)).lie
 have hL0:=hide (hL.on hg0)
 have hgr:=hide hg0
 have HK:=hide hk
 have HCE:=hide hcE
 have hk':(k:Int)<32:=by omega
 have c0:=hide (fun x=>snWithin_any (E k 0) 0 4 x)
 have c1:=hide (fun x=>snWithin_any (E k 1) 0 255 x)
 have cs:=hide (fun x=>isSound_any (E k) x)
 have ca:=hide (fun z (hz:Gd.Lists z gC gE gI c E I) (h0:E k 0≠0)=>standsAlone_any s g c E I gC gE gI cC cE cI k z hz hc hcE hk h0)
 have ct:=hide (fun z (hz:Gd.Lists z gC gE gI c E I)=>isSeated_any gE cE k E z hz.own.ents hcE hk)
 have hd:=hide (Sn.entC_ans c E k)
 obtain ⟨z,hz'⟩:∃z,decide (E k 0=0)=z:=⟨_,rfl⟩
 rw [hz'] at hd
 have hz:Hid (decide (E k 0=0)=z):=hz'
 clear hz'
 have hcmp:=fun wx=>run_ne_ent (E k) (Sn.bare (E k 1)) wx
 obtain ⟨p,hp⟩:∃p,Sn.sameE (E k) (Sn.bare (E k 1))=p:=⟨_,rfl⟩
 rw [hp] at hd
 have hcmp':∀wx:World,(binOp .neq 70 (.agg #[.int .i64 (E k 0),.int .i64 (E k 1),.int .i64 (E k 2),.int .i64 (E k 3),.int .i64 (E k 4),.int .i64 (E k 5),.int .i64 (E k 6),.int .i64 (E k 7),.int .i64 (E k 8),.int .i64 (E k 9),.int .i64 (E k 10)]) (.agg #[.int .i64 0,.int .i64 (E k 1),.int .i64 0,.int .i64 0,.int .i64 0,.int .i64 0,.int .i64 0,.int .i64 0,.int .i64 0,.int .i64 0,.int .i64 0])).run Tryz.prog wx=.ok (.bool (!p)) wx:=fun wx=>by
  rw [←hp]
  exact hcmp wx
 obtain ⟨q0,e0⟩:∃q,Sn.inB (E k 0) 0 4=q:=⟨_,rfl⟩
 obtain ⟨q1,e1⟩:∃q,Sn.inB (E k 1) 0 255=q:=⟨_,rfl⟩
 rw [e0] at c0 hd
 rw [e1] at c1 hd
 obtain ⟨k1,f1⟩:∃q,Sn.soundB (E k)=q:=⟨_,rfl⟩
 obtain ⟨k2,f2⟩:∃q,Sn.aloneB c E k=q:=⟨_,rfl⟩
 obtain ⟨k3,f3⟩:∃q,Sn.seatedB E k=q:=⟨_,rfl⟩
 rw [f1] at cs hd
 rw [f2] at ca hd
 rw [f3] at ct hd
 obtain ⟨A,hA⟩:∃A,Sn.entC c E k=A:=⟨_,rfl⟩
 rw [hA] at hd ⊢
 clear hL hc hcE hk hg0 hcmp hp e0 e1 f1 f2 f3 hA
 unfold Gd.world at hw0 ca ⊢
 unfold En.cells at cs
 go_enter Tryz.func35,Tryz.ntmps35
 go_upto_region 1 with fail
 rw [←hw0]
 clear hw0
 obtain ⟨B,hBe⟩:∃B,w.heap.size=B:=⟨_,rfl⟩
 rw [hBe] at hB ⊢
 clear hBe
 have b5:=(uh hB).eleven.2.2.2.2.2.1
 obtain ⟨r0,r1,r2,r3,r4,r5,r6,r7,r8,r9,r10⟩:=(uh hL0).own.ents.row (uh HK)
 obtain ⟨w1,hw1⟩:∃w1,w1=w0.alloc (.cells (En.cells (E k)) 70):=⟨_,rfl⟩
 have hgA:w0.grownBy w1 none:=by rw [hw1];exact World.grownBy_alloc _ _ _
 have hD:Hid (Lie w1 w0.heap.size 70 11 (Ints (E k))):=by show Lie w1 _ _ _ _;rw [hw1];exact Sn.born w0 (E k) 70
 have hL1:=hide ((uh hL0).on hgA)
 have hB1:=hide ((uh hB).on hgA)
 have hg1:=hide (gtr (uh hgr) hgA)
 clear hgA hB hL0 hgr
 unfold En.cells at hw1
 go_upto_region 2 with fail
 rw [←hw1]
 clear hw1 b5 r0 r1 r2 r3 r4 r5 r6 r7 r8 r9 r10
 obtain ⟨D,hDe⟩:∃D,w0.heap.size=D:=⟨_,rfl⟩
 rw [hDe] at hD ⊢
 clear hDe w0
 obtain ⟨d0,d1,d2,d3,d4,d5,d6,d7,d8,d9,d10⟩:=Sn.row (uh hD)
 go_wp2_with fail
 refine (uh c0 _).mono ?_
 rintro _ w2 ⟨rfl,rfl⟩
 cases q0 with
 | false=>go_wp2;go_ret;exact ⟨rti (uh hd).symm,uh hg1⟩
 | true =>
 go_wp2_with fail
 refine (uh c1 _).mono ?_
 rintro _ w2 ⟨rfl,rfl⟩
 cases q1 with
 | false=>go_wp2;go_ret;exact ⟨rti (uh hd).symm,uh hg1⟩
 | true =>
 cases z with
 | true =>
  have h0:E k 0=0:=of_decide_eq_true (uh hz)
  have h0':(E k 0 == 0)=true:=by simp [h0]
  have h0'':(E k 0 != 0)=false:=by simp [h0]
  clear h0 hz
  cases p with
  | false=>go_wp2;go_ret;exact ⟨rti (uh hd).symm,uh hg1⟩
  | true=>go_wp2;go_ret;exact ⟨rti (uh hd).symm,uh hg1⟩
 | false =>
  have h0:¬E k 0=0:=of_decide_eq_false (uh hz)
  have h0':(E k 0 == 0)=false:=by simp [h0]
  have h0'':(E k 0 != 0)=true:=by simp [h0]
  have H0:=hide h0
  clear h0 hcmp' hz
  go_wp2_with fail
  refine (uh cs _).mono ?_
  rintro _ w2 ⟨rfl,hg2⟩
  have hL2:=hide ((uh hL1).on hg2)
  have hB2:=hide ((uh hB1).on hg2)
  have hD2:=hide ((uh hD).on hg2)
  have hg3:=hide (gtr (uh hg1) hg2)
  clear hg2 hL1 hB1 hD hg1 d0 d1 d2 d3 d4 d5 d6 d7 d8 d9 d10
  cases k1 with
  | false=>go_wp2;go_ret;exact ⟨rti (uh hd).symm,uh hg3⟩
  | true =>
  obtain ⟨b0,b1,b2,b3,b4,b5,b6,b7,b8,b9,b10⟩:=(uh hB2).eleven
  go_wp2_with fail
  refine (uh ca _ (uh hL2) (uh H0)).mono ?_
  rintro _ w3 ⟨rfl,hg2⟩
  have hL3:=hide ((uh hL2).on hg2)
  have hB3:=hide ((uh hB2).on hg2)
  have hg4:=hide (gtr (uh hg3) hg2)
  clear hg2 hL2 hB2 hD2 hg3 b0 b1 b2 b3 b4 b5 b6 b7 b8 b9 b10
  cases k2 with
  | false=>go_wp2;go_ret;exact ⟨rti (uh hd).symm,uh hg4⟩
  | true =>
  have b5:=(uh hB3).eleven.2.2.2.2.2.1
  go_wp2_with fail
  refine (uh ct _ (uh hL3)).mono ?_
  rintro _ w4 ⟨rfl,hg2⟩
  have hg5:=hide (gtr (uh hg4) hg2)
  clear hg2 hL3 hB3 hg4 b5
  cases k3 with
  | false=>go_wp2;go_ret;exact ⟨rti (uh hd).symm,uh hg5⟩
  | true=>go_wp2;go_ret;exact ⟨rti (uh hd).symm,uh hg5⟩

structure Sn.Shown (w x:World) (B gC gE gI cC cE cI:Nat) (s g c:Nat→Int) (E I:Nat→Nat→Int):Prop where
 box:Lie x B 31 11 (Gd.box s gC gE gI cC cE cI g)
 lists:Gd.Lists x gC gE gI c E I
 grown:w.grownBy x none

theorem Sn.Shown.on {w x y:World} {B gC gE gI cC cE cI:Nat} {s g c:Nat→Int} {E I:Nat→Nat→Int} (h:Sn.Shown w x B gC gE gI cC cE cI s g c E I) (hg:x.grownBy y none):Sn.Shown w y B gC gE gI cC cE cI s g c E I :=
 ⟨h.box.on hg,h.lists.on hg,gtr h.grown hg⟩

def Sn.ChkBy (q:Bool) (m n3 n4:Int) (c:Nat→Int) (E I:Nat→Nat→Int) (v:Int):Prop :=
 if q=true then if m≤5 then if n3=1∧n4=1 then if Sn.rowC c E 32=0 then (v=0∧Gd.Ok c 40 I)∨(v=9∧¬Gd.Ok c 40 I) else v=Sn.rowC c E 32 else v=2 else v=3 else v=1

def Sn.ChkRows (c:Nat→Int) (E I:Nat→Nat→Int) (v:Int):Prop :=
 if Sn.rowC c E 32=0 then (v=0∧Gd.Ok c 40 I)∨(v=9∧¬Gd.Ok c 40 I) else v=Sn.rowC c E 32

def Sn.Told (w:World) (s g c:Nat→Int) (E I:Nat→Nat→Int) (e:Ending) (w':World):Prop:=∃v,e=.returned (.int .i64 v)∧Sn.Chk s g c E I v∧w.grownBy w' none

set_option maxRecDepth 8000 in
set_option maxHeartbeats 6400000 in
theorem snCheck_any (s g c:Nat→Int) (E I:Nat→Nat→Int) (gC gE gI cC cE cI:Nat) (w:World) (hL:Gd.Lists w gC gE gI c E I) (hc:∀i,0≤c i∧c i≤255) (hcE:32≤cE) :
  Calls Tryz.prog 11 #[.agg (Gd.world s gC gE gI cC cE cI g)] w (Sn.Told w s g c E I):=by
 obtain ⟨w0,hw0⟩:∃w0,w0=w.alloc (.cells (Gd.world s gC gE gI cC cE cI g) 31):=⟨_,rfl⟩
 have hg0:w.grownBy w0 none:=by rw [hw0];exact World.grownBy_alloc _ _ _
 have hO:Hid (Sn.Shown w w0 w.heap.size gC gE gI cC cE cI s g c E I):=by
  refine ⟨?_,hL.on hg0,hg0⟩
  rw [hw0]
  exact (Arr.world (heap_alloc_new w _)).lie
 have ch:=hide (fun x=>headFits_any s g 384 32 40 cC cE cI (some ⟨gC,0,none⟩) (some ⟨gE,0,none⟩) (some ⟨gI,0,none⟩) x)
 have cm:=hide (fun x (hx:Gd.Lists x gC gE gI c E I)=>snMax_any gC cC c x hx.cells)
 have cn:=hide (fun x (hx:Gd.Lists x gC gE gI c E I) kd=>snCount_any gC cC c kd x hx.cells)
 have ce:=hide (fun x (hx:Gd.Lists x gC gE gI c E I) k (hk:k<32)=>checkEnt_any s g c E I gC gE gI cC cE cI k x hx hc hcE hk)
 have cd:=hide (fun x (hx:Gd.Lists x gC gE gI c E I)=>check_any s g c E I gC gE gI cC cE cI x hx hc)
 obtain ⟨q,hq⟩:∃q,Sn.headB s g=q:=⟨_,rfl⟩
 obtain ⟨m,hm⟩:∃m,Sn.mx c 383=m:=⟨_,rfl⟩
 obtain ⟨n3,h3⟩:∃m,Sn.cnt c 3 384=m:=⟨_,rfl⟩
 obtain ⟨n4,h4⟩:∃m,Sn.cnt c 4 384=m:=⟨_,rfl⟩
 have hT:Hid (∀v,Sn.Chk s g c E I v↔Sn.ChkBy q m n3 n4 c E I v):=fun v=>by
  unfold Sn.Chk Sn.ChkBy
  rw [hq,hm,h3,h4]
 have c3:Hid (∀x,Gd.Lists x gC gE gI c E I→Calls Tryz.prog 34 #[.slice (some ⟨gC,0,none⟩) 384 cC,.int .u8 3] x fun e w'=>e=.returned (.int .i64 n3)∧w'=x):=fun x hx=>by
  rw [←h3]
  exact uh cn x hx 3
 have c4:Hid (∀x,Gd.Lists x gC gE gI c E I→Calls Tryz.prog 34 #[.slice (some ⟨gC,0,none⟩) 384 cC,.int .u8 4] x fun e w'=>e=.returned (.int .i64 n4)∧w'=x):=fun x hx=>by
  rw [←h4]
  exact uh cn x hx 4
 rw [hq] at ch
 rw [hm] at cm
 clear hL hc hcE hg0 cn hq hm h3 h4
 unfold Gd.world at hw0 ce cd ⊢
 go_enter Tryz.func11,Tryz.ntmps11
 go_upto_region 1 with fail
 rw [←hw0]
 clear hw0
 obtain ⟨B,hB⟩:∃B,w.heap.size=B:=⟨_,rfl⟩
 rw [hB] at hO ⊢
 clear hB
 obtain ⟨b0,b1,b2,b3,b4,b5,b6,b7,b8,b9,b10⟩:=(uh hO).box.eleven
 go_wp2_with fail
 refine (uh ch _).mono ?_
 rintro e w1 ⟨rfl,hg⟩
 have hO1:=hide ((uh hO).on hg)
 clear hg hO ch b0 b1 b2 b3 b4 b5 b6 b7 b8 b9 b10
 cases q with
 | false =>
  have hfin:Hid (Sn.Told w s g c E I (.returned (.int .i64 1)) w1):=⟨1,rfl,((uh hT) 1).2 (by unfold Sn.ChkBy;rw [if_neg (by simp)]),(uh hO1).grown⟩
  go_wp2
  go_ret
  exact uh hfin
 | true =>
 obtain ⟨b0,b1,b2,b3,b4,b5,b6,b7,b8,b9,b10⟩:=(uh hO1).box.eleven
 go_wp2_with fail
 refine (uh cm _ (uh hO1).lists).mono ?_
 rintro e w1 ⟨rfl,rfl⟩
 by_cases hm:m≤5
 case neg =>
  have hm':m > 5:=by omega
  have hfin:Hid (Sn.Told w s g c E I (.returned (.int .i64 3)) w1):=⟨3,rfl,((uh hT) 3).2 (by unfold Sn.ChkBy;rw [if_pos rfl,if_neg hm]),(uh hO1).grown⟩
  clear hm
  go_wp2
  go_ret
  exact uh hfin
 have hm':¬m > 5:=by omega
 have HM:=hide hm
 clear hm
 go_wp2_with fail
 refine (uh c3 _ (uh hO1).lists).mono ?_
 rintro e w1 ⟨rfl,rfl⟩
 by_cases k3:n3=1
 case neg =>
  have k3':(n3 != 1)=true:=by simp [k3]
  have hfin:Hid (Sn.Told w s g c E I (.returned (.int .i64 2)) w1):=⟨2,rfl,((uh hT) 2).2 (by unfold Sn.ChkBy;rw [if_pos rfl,if_pos (uh HM),if_neg (fun h=>k3 h.1)]),(uh hO1).grown⟩
  clear k3
  go_wp2
  go_ret
  exact uh hfin
 have k3':(n3 != 1)=false:=by simp [k3]
 have K3:=hide k3
 clear k3
 go_wp2_with fail
 refine (uh c4 _ (uh hO1).lists).mono ?_
 rintro e w1 ⟨rfl,rfl⟩
 by_cases k4:n4=1
 case neg =>
  have k4':(n4 != 1)=true:=by simp [k4]
  have hfin:Hid (Sn.Told w s g c E I (.returned (.int .i64 2)) w1):=⟨2,rfl,((uh hT) 2).2 (by unfold Sn.ChkBy;rw [if_pos rfl,if_pos (uh HM),if_neg (fun h=>k4 h.2)]),(uh hO1).grown⟩
  clear k4
  go_wp2
  go_ret
  exact uh hfin
 have k4':(n4 != 1)=false:=by simp [k4]
 have hT2:Hid (∀v,Sn.Chk s g c E I v↔Sn.ChkRows c E I v):=fun v=>by
  rw [uh hT v]
  unfold Sn.ChkBy Sn.ChkRows
  rw [if_pos rfl,if_pos (uh HM),if_pos ⟨uh K3,k4⟩]
 clear k4 hT HM K3
 go_wp2_with fail
 go_loopw [45] (fun v45 wr=>∃i:Nat,i≤32∧v45=.int .i64 (i:Int)∧Hid (∀j,j<i→Sn.entC c E j=0)∧Hid (Sn.Shown w wr B gC gE gI cC cE cI s g c E I)) (fun v45 _=>40 - (intOf v45).toNat)
 case atStart=>exact ⟨0,by omega,rfl,fun j hj=>absurd hj (by omega),hO1⟩
 case round =>
  clear hO1 b0 b1 b2 b3 b4 b5 b6 b7 b8 b9 b10 k3' k4' hm'
  obtain ⟨i,hi,rfl,hz,hO⟩:=hrel
  obtain ⟨b0,b1,b2,b3,b4,b5,b6,b7,b8,b9,b10⟩:=(uh hO).box.eleven
  by_cases hlt:i<32
  ·have hlt':(i:Int)<32:=by omega
   have HL:=hide hlt
   have cx:=hide (uh ce wr (uh hO).lists i hlt)
   obtain ⟨r,hr⟩:∃r,Sn.entC c E i=r:=⟨_,rfl⟩
   rw [hr] at cx
   have HR:=hide hr
   clear hlt hi hr
   go_wp2_with fail
   refine (uh cx).mono ?_
   rintro e w2 ⟨rfl,hg⟩
   have hO2:=hide ((uh hO).on hg)
   clear hg hO cx b0 b1 b2 b3 b4 b5 b6 b7 b8 b9 b10
   by_cases hr0:r=0
   ·have hr':(r != 0)=false:=by simp [hr0]
    have HZ:Hid (∀j,j<i+1→Sn.entC c E j=0):=fun j hj=>by
     by_cases e:j=i
     ·rw [e,uh HR,hr0]
     ·exact uh hz j (by omega)
    clear hr0
    go_wp2
    go_roundw
    case rel=>exact ⟨i+1,by have:=uh HL;omega,by go_num,HZ,hO2⟩
    case measure=>simp [intOf];have:=uh HL;omega
   ·have hr':(r != 0)=true:=by simp [hr0]
    have hre:Sn.rowC c E (i+1)=r:=by
     show (if Sn.rowC c E i=0 then Sn.entC c E i else Sn.rowC c E i)=r
     rw [if_pos (Sn.rowC_zero (uh hz)),uh HR]
    have h32:=Sn.rowC_stays hre hr0 32 (by have:=uh HL;omega)
    have hfin:Hid (Sn.Told w s g c E I (.returned (.int .i64 r)) w2):=⟨r,rfl,((uh hT2) r).2 (by unfold Sn.ChkRows;rw [if_neg (by rw [h32];exact hr0),h32]),(uh hO2).grown⟩
    clear hr0 hre h32
    go_wp2
    go_ret
    exact uh hfin
  ·have hge:¬(i:Int)<32:=by omega
   have h32:Sn.rowC c E 32=0:=Sn.rowC_zero fun j hj=>uh hz j (by omega)
   have hT3:Hid (∀v,Sn.Chk s g c E I v↔(v=0∧Gd.Ok c 40 I)∨(v=9∧¬Gd.Ok c 40 I)):=fun v=>by rw [uh hT2 v];unfold Sn.ChkRows;rw [if_pos h32]
   clear hlt hi h32
   go_wp2_with fail
   refine (uh cd _ (uh hO).lists).mono ?_
   rintro e w3 ⟨b,rfl,hb,hg⟩
   have hgf:=hide (gtr (uh hO).grown hg)
   have HB:=hide hb
   clear hb hg hO b0 b1 b2 b3 b4 b5 b6 b7 b8 b9 b10 cd ce
   cases b with
   | true =>
    have hfin:Hid (Sn.Told w s g c E I (.returned (.int .i64 0)) w3):=⟨0,rfl,((uh hT3) 0).2 (.inl ⟨rfl,(uh HB).1 rfl⟩),uh hgf⟩
    go_wp2
    go_ret
    exact uh hfin
   | false =>
    have hfin:Hid (Sn.Told w s g c E I (.returned (.int .i64 9)) w3):=⟨9,rfl,((uh hT3) 9).2 (.inr ⟨rfl,fun h=>absurd ((uh HB).2 h) (by simp)⟩),uh hgf⟩
    go_wp2
    go_ret
    exact uh hfin


open Go.RowKit

def Sn.sameG (g h:Nat→Int):Bool:=decide (g 0=h 0) && (decide (g 1=h 1) && (decide (g 2=h 2) && decide (g 3=h 3)))
def Sn.sameH (s t g h:Nat→Int):Bool:=decide (s 0=t 0) && (decide (s 1=t 1) && (decide (s 2=t 2) && (decide (s 3=t 3) && Sn.sameG g h)))

theorem Sn.sameG_iff (g h:Nat→Int):Sn.sameG g h=true↔∀j,j<4→g j=h j:=by
 unfold Sn.sameG
 simp only [Bool.and_eq_true,decide_eq_true_eq]
 constructor
 ·rintro ⟨h0,h1,h2,h3⟩ j hj
  rcases (show j=0∨j=1∨j=2∨j=3 by omega) with rfl | rfl | rfl | rfl <;> assumption
 ·intro h
  exact ⟨h 0 (by omega),h 1 (by omega),h 2 (by omega),h 3 (by omega)⟩

theorem Sn.sameH_iff (s t g h:Nat→Int):Sn.sameH s t g h=true↔(∀j,j<4→s j=t j)∧∀j,j<4→g j=h j:=by
 unfold Sn.sameH
 simp only [Bool.and_eq_true,decide_eq_true_eq,Sn.sameG_iff]
 constructor
 ·rintro ⟨h0,h1,h2,h3,h4⟩
  refine ⟨fun j hj=>?_,h4⟩
  rcases (show j=0∨j=1∨j=2∨j=3 by omega) with rfl | rfl | rfl | rfl <;> assumption
 ·rintro ⟨h,k⟩
  exact ⟨h 0 (by omega),h 1 (by omega),h 2 (by omega),h 3 (by omega),k⟩

theorem run_equal_gold (d:Nat) (g h:Nat→Int) (w:World):(Op.equalIn (d+2) 29 (.agg #[.int .i64 (g 0),.int .i64 (g 1),.int .i64 (g 2),.int .i64 (g 3)]) (.agg #[.int .i64 (h 0),.int .i64 (h 1),.int .i64 (h 2),.int .i64 (h 3)])).run Tryz.prog w=.ok (Sn.sameG g h) w:=by
 obtain ⟨i0,hi,_,_,_⟩:=info_parts info_int
 have hc:Tryz.prog.cellsOf 3=1:=by kernel_rfl
 have hh:=run_equalIn_array (P:=Tryz.prog) (w:=w) (d+1) #[.int .i64 (g 0),.int .i64 (g 1),.int .i64 (g 2),.int .i64 (g 3)] #[.int .i64 (h 0),.int .i64 (h 1),.int .i64 (h 2),.int .i64 (h 3)] Tryz.underlying29 hi
 have hr:(Op.eqItems (d+1) 3 (Tryz.prog.cellsOf 3) #[Value.int .i64 (g 0),.int .i64 (g 1),.int .i64 (g 2),.int .i64 (g 3)] #[.int .i64 (h 0),.int .i64 (h 1),.int .i64 (h 2),.int .i64 (h 3)] (List.range 4)).run Tryz.prog w=.ok (Sn.sameG g h) w:=by
  rw [hc]
  unfold Sn.sameG
  by_cases h0:g 0=h 0
  ·by_cases h1:g 1=h 1
   ·by_cases h2:g 2=h 2
    ·by_cases h3:g 3=h 3 <;> simp [List.range,List.range.loop,Op.eqItems,go_sem,h0,h1,h2,h3]
    ·simp [List.range,List.range.loop,Op.eqItems,go_sem,h0,h1,h2]
   ·simp [List.range,List.range.loop,Op.eqItems,go_sem,h0,h1]
  ·simp [List.range,List.range.loop,Op.eqItems,go_sem,h0]
 rw [hr] at hh
 exact hh

set_option maxRecDepth 8000 in
set_option maxHeartbeats 1600000 in
theorem headOf_any (s g:Nat→Int) (nC nE nI cC cE cI:Nat) (aC aE aI:Option Addr) (w:World) :
  Calls Tryz.prog 43 #[.agg #[.int .i64 (s 0),.int .i64 (s 1),.int .i64 (s 2),.int .i64 (s 3),.slice aC nC cC,.slice aE nE cE,.slice aI nI cI,.int .i64 (g 0),.int .i64 (g 1),.int .i64 (g 2),.int .i64 (g 3)]] w (Says w (.agg #[.int .i64 (s 0),.int .i64 (s 1),.int .i64 (s 2),.int .i64 (s 3),.int .i64 (g 0),.int .i64 (g 1),.int .i64 (g 2),.int .i64 (g 3)])):=by
 obtain ⟨w0,hw0⟩:∃w0,w0=(w.alloc (.cells #[.int .i64 (s 0),.int .i64 (s 1),.int .i64 (s 2),.int .i64 (s 3),.slice aC nC cC,.slice aE nE cE,.slice aI nI cI,.int .i64 (g 0),.int .i64 (g 1),.int .i64 (g 2),.int .i64 (g 3)] 31)).alloc (.cells #[.int .i64 0,.int .i64 0,.int .i64 0,.int .i64 0,.int .i64 0,.int .i64 0,.int .i64 0,.int .i64 0] 82):=⟨_,rfl⟩
 have hg0:w.grownBy w0 none:=by rw [hw0];exact gal (World.grownBy_alloc _ _ _) _
 obtain ⟨B,hBe⟩:∃B,w.heap.size=B:=⟨_,rfl⟩
 have hB:Lie w0 B 31 11 (fun j=>#[Value.int .i64 (s 0),.int .i64 (s 1),.int .i64 (s 2),.int .i64 (s 3),.slice aC nC cC,.slice aE nE cE,.slice aI nI cI,.int .i64 (g 0),.int .i64 (g 1),.int .i64 (g 2),.int .i64 (g 3)][j]?.getD undef):=by
  rw [hw0,←hBe]
  exact ((Arr.lit (heap_alloc_new w _)).alloc _).lie
 have hR:Lie w0 (B+1) 82 8 (fun j=>#[Value.int .i64 0,.int .i64 0,.int .i64 0,.int .i64 0,.int .i64 0,.int .i64 0,.int .i64 0,.int .i64 0][j]?.getD undef):=by
  rw [hw0,←hBe]
  have h:=heap_alloc_new (w.alloc (.cells #[.int .i64 (s 0),.int .i64 (s 1),.int .i64 (s 2),.int .i64 (s 3),.slice aC nC cC,.slice aE nE cE,.slice aI nI cI,.int .i64 (g 0),.int .i64 (g 1),.int .i64 (g 2),.int .i64 (g 3)] 31)) (.cells #[.int .i64 0,.int .i64 0,.int .i64 0,.int .i64 0,.int .i64 0,.int .i64 0,.int .i64 0,.int .i64 0] 82)
  rw [show (w.alloc (.cells #[.int .i64 (s 0),.int .i64 (s 1),.int .i64 (s 2),.int .i64 (s 3),.slice aC nC cC,.slice aE nE cE,.slice aI nI cI,.int .i64 (g 0),.int .i64 (g 1),.int .i64 (g 2),.int .i64 (g 3)] 31)).heap.size=w.heap.size+1 by simp] at h
  exact (Arr.lit h).lie
 have hgo:Hid (∀l,w.grownBy (w0.setCells (B+1) 0 l) none):=fun l=>own_sets (by omega) l 0 w0 hg0
 have fR:=hR.free
 have b0:w0.cell? ⟨B,0,none⟩=some (.int .i64 (s 0)):=hB.cell (c:=0) (by omega)
 have b1:w0.cell? ⟨B,1,none⟩=some (.int .i64 (s 1)):=hB.cell (c:=1) (by omega)
 have b2:w0.cell? ⟨B,2,none⟩=some (.int .i64 (s 2)):=hB.cell (c:=2) (by omega)
 have b3:w0.cell? ⟨B,3,none⟩=some (.int .i64 (s 3)):=hB.cell (c:=3) (by omega)
 have b7:w0.cell? ⟨B,7,none⟩=some (.int .i64 (g 0)):=hB.cell (c:=7) (by omega)
 have b8:w0.cell? ⟨B,8,none⟩=some (.int .i64 (g 1)):=hB.cell (c:=8) (by omega)
 have b9:w0.cell? ⟨B,9,none⟩=some (.int .i64 (g 2)):=hB.cell (c:=9) (by omega)
 have b10:w0.cell? ⟨B,10,none⟩=some (.int .i64 (g 3)):=hB.cell (c:=10) (by omega)
 have z0:w0.cell? ⟨B+1,0,none⟩=some (.int .i64 0):=hR.cell (c:=0) (by omega)
 have z1:w0.cell? ⟨B+1,1,none⟩=some (.int .i64 0):=hR.cell (c:=1) (by omega)
 have z2:w0.cell? ⟨B+1,2,none⟩=some (.int .i64 0):=hR.cell (c:=2) (by omega)
 have z3:w0.cell? ⟨B+1,3,none⟩=some (.int .i64 0):=hR.cell (c:=3) (by omega)
 have z4:w0.cell? ⟨B+1,4,none⟩=some (.int .i64 0):=hR.cell (c:=4) (by omega)
 have z5:w0.cell? ⟨B+1,5,none⟩=some (.int .i64 0):=hR.cell (c:=5) (by omega)
 have z6:w0.cell? ⟨B+1,6,none⟩=some (.int .i64 0):=hR.cell (c:=6) (by omega)
 have z7:w0.cell? ⟨B+1,7,none⟩=some (.int .i64 0):=hR.cell (c:=7) (by omega)
 have HBe:=hide hBe
 clear hB hR hg0 hBe
 go_enter Tryz.func43,Tryz.ntmps43
 go_upto_region 1 with fail
 rw [←hw0,uh HBe]
 clear hw0 HBe
 go_wp2
 refine bodyPost_ret (v:=.agg #[.int .i64 (s 0),.int .i64 (s 1),.int .i64 (s 2),.int .i64 (s 3),.int .i64 (g 0),.int .i64 (g 1),.int .i64 (g 2),.int .i64 (g 3)]) (by simp [results,Tryz.results43,go_sem,z0,z1,z2,z3,z4,z5,z6,z7]) rfl ?_
 exact ⟨rfl,uh hgo [_,_,_,_,_,_,_,_]⟩

end Go.Proofs.YtkcooekhigmioaaGreat
