import Derived.Test.YtbanjoflgoiegaaGreatPs44
import Derived.Test.YtbanjoflgoiegaaGreatPs45
namespace Go.Proofs.YtbanjoflgoiegaaGreat
open Go.RowKit

theorem En.id_pos {n:Nat} {E:Nat→Nat→Int} {k:Nat} (hk:k<n) (hf:E k 0≠0) (hG:En.Gens n E):0≤En.id n E (k:Int):=by
 rw [En.id_at hk hf]
 have:=hG k hk
 omega

set_option maxRecDepth 8000 in
set_option maxHeartbeats 12800000 in
theorem mAsk_monster (s g c:Nat→Int) (E I:Nat→Nat→Int) (gC gE gI cC cE cI:Nat) (row:Int) (w:World) (hL:Gd.Lists w gC gE gI c E I) (hc:∀i,0≤c i∧c i≤255) (hcE:32≤cE) (hE:Md.Good c E I) :
  Calls Tryz.prog 117 #[.iface 134 (.agg #[]),.agg (Gd.world s gC gE gI cC cE cI g),.int .i64 row] w (Md.Says w (Md.IsMonster s c E row)):=by
 obtain ⟨w0,hw0⟩:∃w0,w0=w.alloc (.cells (Gd.world s gC gE gI cC cE cI g) 30):=⟨_,rfl⟩
 have hg0:w.grownBy w0 none:=by rw [hw0];exact World.grownBy_alloc _ _ _
 have hO:Hid (Gd.Shown w w0 w.heap.size gC gE gI cC cE cI s g c E I):=by
  refine ⟨?_,hL.on hg0,hg0⟩
  rw [hw0]
  exact (Arr.world (heap_alloc_new w _)).lie
 have ci:=hide (id_any gE 32 cE E row w0 (uh hO).lists.own.ents hcE hE.gens)
 have hnone:Hid (((row<0∨32≤row)∨E row.toNat 0=0)→Md.IsMonster s c E row 0):=fun h=>by
  unfold Md.IsMonster
  rw [if_pos (by omega)]
 have hid:Hid (((row<0∨32≤row)∨E row.toNat 0=0)∧En.id 32 E row<0∨∃k:Nat,k<32∧row=(k:Int)∧E k 0≠0∧0≤En.id 32 E row):=by
  by_cases h1:row<0∨32≤row
  ·exact .inl ⟨.inl h1,by rw [En.id_out (by omega)];omega⟩
  ·obtain ⟨k,rfl⟩:∃k:Nat,row=(k:Int):=⟨row.toNat,by omega⟩
   by_cases h2:E k 0=0
   ·exact .inl ⟨.inr (by rw [Int.toNat_natCast];exact h2),by rw [En.id_free h2];omega⟩
   ·exact .inr ⟨k,by omega,rfl,h2,En.id_pos (by omega) h2 hE.gens⟩
 have cn:=hide (fun (k:Nat) (z:World) (hz:Gd.Lists z gC gE gI c E I) (h1:k<32) (h2:E k 0≠0)=>mMonster_next s g c E I gC gE gI cC cE cI k z hz hc hcE hE h1 h2)
 obtain ⟨i,hi⟩:∃i,En.id 32 E row=i:=⟨_,rfl⟩
 rw [hi] at ci hid
 clear hL hc hcE hE hg0 hi
 unfold Gd.world at hw0 cn ⊢
 go_enter Tryz.func117,Tryz.ntmps117
 go_upto_region 1 with fail
 rw [←hw0]
 clear hw0
 obtain ⟨B,hB⟩:∃B,w.heap.size=B:=⟨_,rfl⟩
 rw [hB] at hO ⊢
 clear hB
 have q5:=(uh hO).box.eleven.2.2.2.2.2.1
 go_wp2_with fail
 refine (uh ci).mono ?_
 rintro e w1 ⟨rfl,hg⟩
 have hO1:=hide ((uh hO).on hg)
 clear q5 ci hg hO
 rcases uh hid with ⟨h1,h2⟩ | ⟨k,hk,rfl,hk0,h2⟩
 ·have hfin:Hid (Md.Says w (Md.IsMonster s c E row) (.returned (.int .i64 0)) w1):=⟨0,uh hnone h1,rfl,(uh hO1).grown⟩
  clear h1 hid hnone
  go_wp2
  go_ret
  exact uh hfin
 ·have h2':¬i<0:=by omega
  have ck:=hide (uh cn k w1 (uh hO1).lists hk hk0)
  obtain ⟨b0,b1,b2,b3,b4,b5,b6,b7,b8,b9,b10⟩:=(uh hO1).box.eleven
  clear hid hnone cn hk hk0 h2
  go_wp2_with fail
  refine (uh ck).mono ?_
  rintro e w2 ⟨v,hv,rfl,hg⟩
  have hfin:Hid (Md.Says w (Md.IsMonster s c E (k:Int)) (.returned (.int .i64 v)) w2):=⟨v,hv,rfl,gtr (uh hO1).grown hg⟩
  clear hv hg b0 b1 b2 b3 b4 b5 b6 b7 b8 b9 b10 ck
  go_wp2
  go_ret
  exact uh hfin

set_option maxRecDepth 8000 in
set_option maxHeartbeats 12800000 in
theorem mAsk_robot (s g c:Nat→Int) (E I:Nat→Nat→Int) (gC gE gI cC cE cI:Nat) (row:Int) (w:World) (hL:Gd.Lists w gC gE gI c E I) (hc:∀i,0≤c i∧c i≤255) (hcE:32≤cE) (hcC:384≤cC) (hE:Md.Good c E I) (hr:row=-1∨∃k:Nat,k<32∧row=(k:Int)∧E k 0≠0) :
  Calls Tryz.prog 117 #[.iface 158 (.agg #[]),.agg (Gd.world s gC gE gI cC cE cI g),.int .i64 row] w (Md.Says w fun v=>if row<0 then v=0 else Md.robotAt c E I (E row.toNat 2) row.toNat v):=by
 obtain ⟨w0,hw0⟩:∃w0,w0=w.alloc (.cells (Gd.world s gC gE gI cC cE cI g) 30):=⟨_,rfl⟩
 have hg0:w.grownBy w0 none:=by rw [hw0];exact World.grownBy_alloc _ _ _
 have hO:Hid (Gd.Shown w w0 w.heap.size gC gE gI cC cE cI s g c E I):=by
  refine ⟨?_,hL.on hg0,hg0⟩
  rw [hw0]
  exact (Arr.world (heap_alloc_new w _)).lie
 have ci:=hide (id_any gE 32 cE E row w0 (uh hO).lists.own.ents hcE hE.gens)
 have hid:Hid ((row<0∧En.id 32 E row<0)∨∃k:Nat,k<32∧row=(k:Int)∧E k 0≠0∧0≤En.id 32 E row):=by
  rcases hr with rfl | ⟨k,hk,rfl,h2⟩
  ·exact .inl ⟨by omega,by rw [En.id_out (by omega)];omega⟩
  ·exact .inr ⟨k,by omega,rfl,h2,En.id_pos (by omega) h2 hE.gens⟩
 have cn:=hide (fun (k:Nat) (z:World) (hz:Gd.Lists z gC gE gI c E I) (h1:k<32) (h2:E k 0≠0)=>mRobot_next s g c E I gC gE gI cC cE cI k z hz hc hcE hcC hE h1 h2)
 have hP:Hid (∀v,(if row<0 then v=0 else Md.robotAt c E I (E row.toNat 2) row.toNat v)↔(fun v=>if row<0 then v=0 else Md.robotAt c E I (E row.toNat 2) row.toNat v) v):=fun v=>Iff.rfl
 obtain ⟨P,hPe⟩:∃P:Int→Prop,(fun v=>if row<0 then v=0 else Md.robotAt c E I (E row.toNat 2) row.toNat v)=P:=⟨_,rfl⟩
 rw [hPe] at hP ⊢
 obtain ⟨i,hi⟩:∃i,En.id 32 E row=i:=⟨_,rfl⟩
 rw [hi] at ci hid
 clear hL hc hcE hcC hE hg0 hi hr hPe
 unfold Gd.world at hw0 cn ⊢
 go_enter Tryz.func117,Tryz.ntmps117
 go_upto_region 1 with fail
 rw [←hw0]
 clear hw0
 obtain ⟨B,hB⟩:∃B,w.heap.size=B:=⟨_,rfl⟩
 rw [hB] at hO ⊢
 clear hB
 have q5:=(uh hO).box.eleven.2.2.2.2.2.1
 go_wp2_with fail
 refine (uh ci).mono ?_
 rintro e w1 ⟨rfl,hg⟩
 have hO1:=hide ((uh hO).on hg)
 clear q5 ci hg hO
 rcases uh hid with ⟨h1,h2⟩ | ⟨k,hk,rfl,hk0,h2⟩
 ·have hfin:Hid (Md.Says w P (.returned (.int .i64 0)) w1):=⟨0,(uh hP 0).1 (by rw [if_pos h1]),rfl,(uh hO1).grown⟩
  clear h1 hid hP
  go_wp2
  go_ret
  exact uh hfin
 ·have h2':¬i<0:=by omega
  have ck:=hide (uh cn k w1 (uh hO1).lists hk hk0)
  have hto:Hid (∀v,Md.robotAt c E I (E k 2) k v→P v):=fun v hv=>(uh hP v).1 (by rw [if_neg (by omega),Int.toNat_natCast];exact hv)
  obtain ⟨b0,b1,b2,b3,b4,b5,b6,b7,b8,b9,b10⟩:=(uh hO1).box.eleven
  clear hid hP cn hk hk0 h2
  go_wp2_with fail
  refine (uh ck).mono ?_
  rintro e w2 ⟨v,hv,rfl,hg⟩
  have hfin:Hid (Md.Says w P (.returned (.int .i64 v)) w2):=⟨v,uh hto v hv,rfl,gtr (uh hO1).grown hg⟩
  clear hv hg b0 b1 b2 b3 b4 b5 b6 b7 b8 b9 b10 ck hto
  go_wp2
  go_ret
  exact uh hfin

set_option maxRecDepth 8000 in
set_option maxHeartbeats 3200000 in
theorem mindsMonster_any (s g c:Nat→Int) (E I:Nat→Nat→Int) (gC gE gI cC cE cI:Nat) (row:Int) (w:World) (hL:Gd.Lists w gC gE gI c E I) (hc:∀i,0≤c i∧c i≤255) (hcE:32≤cE) (hE:Md.Good c E I) :
  Calls Tryz.prog 76 #[.agg (Gd.world s gC gE gI cC cE cI g),.int .i64 row] w (Md.Says w (Md.IsMonster s c E row)):=by
 obtain ⟨w0,hw0⟩:∃w0,w0=w.alloc (.cells (Gd.world s gC gE gI cC cE cI g) 30):=⟨_,rfl⟩
 have hg0:w.grownBy w0 none:=by rw [hw0];exact World.grownBy_alloc _ _ _
 have hO:Hid (Gd.Shown w w0 w.heap.size gC gE gI cC cE cI s g c E I):=by
  refine ⟨?_,hL.on hg0,hg0⟩
  rw [hw0]
  exact (Arr.world (heap_alloc_new w _)).lie
 have ca:=hide (mAsk_monster s g c E I gC gE gI cC cE cI row w0 (uh hO).lists hc hcE hE)
 clear hL hc hcE hE hg0
 unfold Gd.world at hw0 ca ⊢
 go_enter Tryz.func76,Tryz.ntmps76
 go_upto_region 1 with fail
 rw [←hw0]
 clear hw0
 obtain ⟨B,hB⟩:∃B,w.heap.size=B:=⟨_,rfl⟩
 rw [hB] at hO ⊢
 clear hB
 obtain ⟨b0,b1,b2,b3,b4,b5,b6,b7,b8,b9,b10⟩:=(uh hO).box.eleven
 go_wp2_with fail
 refine (uh ca).mono ?_
 rintro e w1 ⟨v,hv,rfl,hg⟩
 have hfin:Hid (Md.Says w (Md.IsMonster s c E row) (.returned (.int .i64 v)) w1):=⟨v,hv,rfl,gtr (uh hO).grown hg⟩
 clear hv hg b0 b1 b2 b3 b4 b5 b6 b7 b8 b9 b10 ca
 go_wp2
 go_ret
 exact uh hfin

set_option maxRecDepth 8000 in
set_option maxHeartbeats 12800000 in
theorem mindsRobot_any (s g c:Nat→Int) (E I:Nat→Nat→Int) (gC gE gI cC cE cI:Nat) (seat:Int) (w:World) (hL:Gd.Lists w gC gE gI c E I) (hc:∀i,0≤c i∧c i≤255) (hcE:32≤cE) (hcC:384≤cC) (hE:Md.Good c E I) :
  Calls Tryz.prog 111 #[.agg (Gd.world s gC gE gI cC cE cI g),.int .i64 seat] w (Md.Says w (Md.IsRobot c E I seat)):=by
 obtain ⟨w0,hw0⟩:∃w0,w0=w.alloc (.cells (Gd.world s gC gE gI cC cE cI g) 30):=⟨_,rfl⟩
 have hg0:w.grownBy w0 none:=by rw [hw0];exact World.grownBy_alloc _ _ _
 have hO:Hid (Gd.Shown w w0 w.heap.size gC gE gI cC cE cI s g c E I):=by
  refine ⟨?_,hL.on hg0,hg0⟩
  rw [hw0]
  exact (Arr.world (heap_alloc_new w _)).lie
 have ch:Hid (∀z,Gd.Lists z gC gE gI c E I→Calls Tryz.prog 68 #[.slice (some ⟨gE,0,none⟩) 32 cE,.int .i64 seat] z (Says z (.int .i64 (Gd.hero E seat)))):=fun z hz=>hero_any gE 32 cE E seat z hz.own.ents hcE
 have hrow:Gd.hero E seat=-1∨∃k:Nat,k<32∧Gd.hero E seat=(k:Int)∧E k 0≠0:=by
  unfold Gd.hero
  rcases En.first_cases (En.heroQ E seat) 32 with ⟨he,_⟩ | ⟨k,hk,he,hq,_⟩
  ·exact .inl he
  ·simp only [En.heroQ,Bool.and_eq_true,decide_eq_true_eq] at hq
   exact .inr ⟨k,hk,he,by omega⟩
 have ca:=hide (fun (z:World) (hz:Gd.Lists z gC gE gI c E I)=>mAsk_robot s g c E I gC gE gI cC cE cI (Gd.hero E seat) z hz hc hcE hcC hE hrow)
 have hto:Hid (∀v,(if Gd.hero E seat<0 then v=0 else Md.robotAt c E I (E (Gd.hero E seat).toNat 2) (Gd.hero E seat).toNat v)→Md.IsRobot c E I seat v):=fun v hv=>by
  unfold Md.IsRobot
  by_cases hn:Gd.hero E seat<0
  ·rw [if_pos hn] at hv ⊢;exact hv
  ·rw [if_neg hn] at hv ⊢
   obtain ⟨k,hk,he,-,h2⟩:=Md.hero_row hn
   rw [he,Int.toNat_natCast] at hv ⊢
   rw [h2] at hv
   exact hv
 obtain ⟨P,hP⟩:∃P:Int→Prop,(fun v=>if Gd.hero E seat<0 then v=0 else Md.robotAt c E I (E (Gd.hero E seat).toNat 2) (Gd.hero E seat).toNat v)=P:=⟨_,rfl⟩
 have hto2:Hid (∀v,P v→Md.IsRobot c E I seat v):=fun v hv=>uh hto v (by rw [←hP] at hv;exact hv)
 rw [hP] at ca
 obtain ⟨h,hh⟩:∃h,Gd.hero E seat=h:=⟨_,rfl⟩
 rw [hh] at ch ca
 clear hL hc hcE hcC hE hg0 hrow hto hP hh
 unfold Gd.world at hw0 ca ⊢
 go_enter Tryz.func111,Tryz.ntmps111
 go_upto_region 1 with fail
 rw [←hw0]
 clear hw0
 obtain ⟨B,hB⟩:∃B,w.heap.size=B:=⟨_,rfl⟩
 rw [hB] at hO ⊢
 clear hB
 have hdr:=hide (gd1 (World.grownBy.refl w0 none))
 have hL0:Hid (∀z,w0.grownBy z none→Gd.Lists z gC gE gI c E I):=fun z hz=>(uh hO).lists.on hz
 have hkeep:Hid (∀z,w0.grownBy z none→(z.cell? ⟨B,0,none⟩=some (.int .i64 (s 0))∧z.cell? ⟨B,1,none⟩=some (.int .i64 (s 1))∧z.cell? ⟨B,2,none⟩=some (.int .i64 (s 2))∧z.cell? ⟨B,3,none⟩=some (.int .i64 (s 3))∧z.cell? ⟨B,4,none⟩=some (.slice (some ⟨gC,0,none⟩) 384 cC)∧z.cell? ⟨B,5,none⟩=some (.slice (some ⟨gE,0,none⟩) 32 cE)∧z.cell? ⟨B,6,none⟩=some (.slice (some ⟨gI,0,none⟩) 40 cI)∧z.cell? ⟨B,7,none⟩=some (.int .i64 (g 0))∧z.cell? ⟨B,8,none⟩=some (.int .i64 (g 1))∧z.cell? ⟨B,9,none⟩=some (.int .i64 (g 2))∧z.cell? ⟨B,10,none⟩=some (.int .i64 (g 3)))):=fun z hz=>((uh hO).on hz).box.eleven
 have hS0:=uh hkeep w0 (World.grownBy.refl _ none)
 go_region_held3 (fun z=>z.cell? ⟨B,0,none⟩=some (.int .i64 (s 0))∧z.cell? ⟨B,1,none⟩=some (.int .i64 (s 1))∧z.cell? ⟨B,2,none⟩=some (.int .i64 (s 2))∧z.cell? ⟨B,3,none⟩=some (.int .i64 (s 3))∧z.cell? ⟨B,4,none⟩=some (.slice (some ⟨gC,0,none⟩) 384 cC)∧z.cell? ⟨B,5,none⟩=some (.slice (some ⟨gE,0,none⟩) 32 cE)∧z.cell? ⟨B,6,none⟩=some (.slice (some ⟨gI,0,none⟩) 40 cI)∧z.cell? ⟨B,7,none⟩=some (.int .i64 (g 0))∧z.cell? ⟨B,8,none⟩=some (.int .i64 (g 1))∧z.cell? ⟨B,9,none⟩=some (.int .i64 (g 2))∧z.cell? ⟨B,10,none⟩=some (.int .i64 (g 3))) (go_keep) (first
  | (go_at_call 68;refine (uh ch _ (uh hL0 _ (uh hdr))).mono ?_;rintro e w1 ⟨rfl,hg⟩;have hg1:=hide (gtr (uh hdr) hg);have hS1:=uh hkeep _ (uh hg1);clear hg)
  | (go_at_call 117;refine (uh ca _ (uh hL0 _ (uh hg1))).mono ?_;rintro e w2 ⟨v,hv,rfl,hg⟩;have hg2:=hide (gtr (uh hg1) hg);have hv':=hide hv;have hS2:=uh hkeep _ (uh hg2);clear hg hv))
 have hfin:Hid (Md.Says w (Md.IsRobot c E I seat) (.returned (.int .i64 v)) w2):=⟨v,uh hto2 v (uh hv'),rfl,gtr (uh hO).grown (uh hg2)⟩
 clear hS0 hS1 hS2
 go_wp2
 go_ret
 exact uh hfin

end Go.Proofs.YtbanjoflgoiegaaGreat
