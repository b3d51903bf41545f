import Derived.Test.YtbanjoflgoiegabGreatPf42
import Derived.Test.YtbanjoflgoiegabGreatPf36
import Derived.Test.YtbanjoflgoiegabGreatPf37
namespace Go.Proofs.YtbanjoflgoiegabGreat
open Go.RowKit

theorem Nv.from_bd (dx dy:Int):∀(m k:Nat),0≤Nv.besideFrom dx dy m k
 | 0,_=>Int.le_refl _
 | m+1,k=>by
  unfold Nv.besideFrom
  split
  ·omega
  ·exact Nv.from_bd dx dy m (k+1)

set_option maxRecDepth 8000 in
set_option maxHeartbeats 12800000 in
theorem mMonster_next (s g c:Nat→Int) (E I:Nat→Nat→Int) (gC gE gI cC cE cI k:Nat) (w:World) (hL:Gd.Lists w gC gE gI c E I) (hc:∀i,0≤c i∧c i≤255) (hcE:32≤cE) (hE:Md.Good c E I) (hk:k<32) (hk0:E k 0≠0) :
  Calls Tryz.prog 170 #[.agg #[],.agg (Gd.world s gC gE gI cC cE cI g),.int .i64 (k:Int)] w (Md.Says w (Md.IsMonster s c E (k:Int))):=by
 obtain ⟨wz,hwz⟩:∃wz,wz=w.alloc (.cells #[] 97):=⟨_,rfl⟩
 obtain ⟨w0,hw0⟩:∃w0,w0=wz.alloc (.cells (Gd.world s gC gE gI cC cE cI g) 28):=⟨_,rfl⟩
 have hgz:w.grownBy wz none:=by rw [hwz];exact World.grownBy_alloc _ _ _
 have hg0:w.grownBy w0 none:=by rw [hw0];exact gtr hgz (World.grownBy_alloc _ _ _)
 have hO:Hid (Gd.Shown w w0 wz.heap.size gC gE gI cC cE cI s g c E I):=by
  refine ⟨?_,hL.on hg0,hg0⟩
  rw [hw0]
  exact (Arr.world (heap_alloc_new wz _)).lie
 have hsz:wz.heap.size=w.heap.size+1:=by rw [hwz];simp
 have hdef:Hid (∀v,Md.IsMonster s c E (k:Int) v↔if E k 0=1 then v=0 else Md.monsterAt s c E k v):=fun v=>by
  unfold Md.IsMonster
  rw [Int.toNat_natCast]
  by_cases h1:E k 0=1
  ·rw [if_pos h1,if_pos (.inr (.inr h1))]
  ·rw [if_neg h1,if_neg (by omega)]
 have hc':=hide hc
 have hcE':=hide hcE
 have hE':=hide hE
 obtain ⟨x0,x9,y0,y9,-,-⟩:=hE.fine k hk hk0
 have hxy:=hide (show (0≤E k 3∧E k 3<24)∧0≤E k 4∧E k 4<16 from ⟨⟨x0,x9⟩,y0,y9⟩)
 have HK:=hide (And.intro hk hk0)
 have hk':(k:Int)<32:=by omega
 clear hL hc hcE hE hg0 hgz x0 x9 y0 y9
 unfold Gd.world at hw0 ⊢
 rw [hwz] at hw0
 rw [hsz] at hO
 clear hwz hsz
 go_enter Tryz.func170,Tryz.ntmps170
 go_upto_region 1 with fail
 rw [←hw0]
 clear hw0
 obtain ⟨B,hB⟩:∃B,w.heap.size+1=B:=⟨_,rfl⟩
 rw [hB] at hO ⊢
 clear hB
 have q5:=(uh hO).box.eleven.2.2.2.2.2.1
 obtain ⟨u0,u1,u2,u3,u4,u5,u6,u7,u8,u9,u10⟩:=(uh hO).lists.own.ents.row hk
 have hQ:=hide (Lie.copied w0 (E k) 42)
 have hO2:=hide ((uh hO).on (World.grownBy_alloc w0 (.cells (En.cells (E k)) 42) none))
 clear hk hk0
 unfold En.cells at hQ hO2
 go_upto_region 2 with fail
 obtain ⟨Q,hQe⟩:∃Q,w0.heap.size=Q:=⟨_,rfl⟩
 rw [hQe] at hQ ⊢
 generalize w0.alloc (.cells #[.int .i64 (E k 0),.int .i64 (E k 1),.int .i64 (E k 2),.int .i64 (E k 3),.int .i64 (E k 4),.int .i64 (E k 5),.int .i64 (E k 6),.int .i64 (E k 7),.int .i64 (E k 8),.int .i64 (E k 9),.int .i64 (E k 10)] 42)=w2 at hQ hO2 ⊢
 clear hQe q5 u0 u1 u2 u3 u4 u5 u6 u7 u8 u9 u10 hO
 obtain ⟨z0,z1,z2,z3,z4,z5,z6,z7,z8,z9,z10⟩:=(uh hQ).elevenInts
 by_cases h1:E k 0=1
 ·have hfin:Hid (Md.Says w (Md.IsMonster s c E (k:Int)) (.returned (.int .i64 0)) w2):=⟨0,(uh hdef 0).2 (by rw [if_pos h1]),rfl,(uh hO2).grown⟩
  have h1':(E k 0 == 1)=true:=by simpa using h1
  clear hdef h1
  go_wp2
  go_ret
  exact uh hfin
 have h1':(E k 0 == 1)=false:=by simpa using h1
 have hto:Hid (∀v,(∃b a,Md.Seen c E (E k 3) (E k 4) 4 b a∧((a<0∧v=Md.stray s c E k)∨∃h:Nat,a=(h:Int)∧if 0<Nv.beside (E h 3 - E k 3) (E h 4 - E k 4) then v=Nv.beside (E h 3 - E k 3) (E h 4 - E k 4) else Nv.IsToward c (fun _=>E h 4*24+E h 3) 1 E 32 (E k 3) (E k 4) v))→Md.IsMonster s c E (k:Int) v):=fun v hv=>(uh hdef v).2 (by rw [if_neg h1];exact hv)
 clear h1 hdef
 obtain ⟨b0,b1,b2,b3,b4,b5,b6,b7,b8,b9,b10⟩:=(uh hO2).box.eleven
 have cn:=hide (mNearest_any s g c E I (E k) gC gE gI cC cE cI w2 (uh hO2).lists (uh hc') (uh hcE') (uh hE').fine (uh hxy).1.1 (uh hxy).1.2 (uh hxy).2.1 (uh hxy).2.2)
 unfold Gd.world En.cells at cn
 go_wp2_with fail
 refine (uh cn).mono ?_
 rintro e w3 ⟨b,a,hS,hA,rfl,hg⟩
 have hSeen:=hide hS
 have hAt:=hide hA
 have hO3:=hide ((uh hO2).on hg)
 have hQ3:=hide ((uh hQ).on hg)
 clear b0 b1 b2 b3 b4 b5 b6 b7 b8 b9 b10 z0 z1 z2 z3 z4 z5 z6 z7 z8 z9 z10 cn hS hA hg hO2 hQ
 rcases uh hAt with rfl | ⟨h,hh,rfl,hh1⟩
 ·obtain ⟨b0,b1,b2,b3,b4,b5,b6,b7,b8,b9,b10⟩:=(uh hO3).box.eleven
  have cw:=hide (mWander_any s g c E I gC gE gI cC cE cI k w3 (uh hO3).lists (uh hc') (uh hcE') (uh hE').fine (uh HK).1 (uh HK).2)
  unfold Gd.world at cw
  have hfin:Hid (Md.IsMonster s c E (k:Int) (Md.stray s c E k)):=uh hto _ ⟨b,-1,uh hSeen,.inl ⟨by omega,rfl⟩⟩
  obtain ⟨S,hS⟩:∃S,Md.stray s c E k=S:=⟨_,rfl⟩
  rw [hS] at cw hfin
  clear hS hto hSeen hAt
  go_wp2_with fail
  refine (uh cw).mono ?_
  rintro e w4 ⟨rfl,hg⟩
  have hg4:=hide (gtr (uh hO3).grown hg)
  clear hg cw b0 b1 b2 b3 b4 b5 b6 b7 b8 b9 b10
  go_wp2
  go_ret
  exact ⟨S,uh hfin,rfl,uh hg4⟩
 have hh':(h:Int)<32:=by omega
 have hhn:¬(h:Int)<0:=by omega
 obtain ⟨p0,p9,r0,r9,-,-⟩:=(uh hE').fine h hh (by omega)
 have HP:=hide (show (0≤E h 3∧E h 3<24)∧0≤E h 4∧E h 4<16 from ⟨⟨p0,p9⟩,r0,r9⟩)
 have q5:=(uh hO3).box.eleven.2.2.2.2.2.1
 obtain ⟨u0,u1,u2,u3,u4,u5,u6,u7,u8,u9,u10⟩:=(uh hO3).lists.own.ents.row hh
 have hR:=hide (Lie.copied w3 (E h) 42)
 have hgA:=hide (World.grownBy_alloc w3 (.cells (En.cells (E h)) 42) none)
 have hO4:=hide ((uh hO3).on (uh hgA))
 have hQ4:=hide ((uh hQ3).on (uh hgA))
 clear hh hh1 hAt p0 p9 r0 r9 hgA
 unfold En.cells at hR hO4 hQ4
 go_upto_region 8 with fail
 obtain ⟨R,hRe⟩:∃R,w3.heap.size=R:=⟨_,rfl⟩
 rw [hRe] at hR ⊢
 generalize w3.alloc (.cells #[.int .i64 (E h 0),.int .i64 (E h 1),.int .i64 (E h 2),.int .i64 (E h 3),.int .i64 (E h 4),.int .i64 (E h 5),.int .i64 (E h 6),.int .i64 (E h 7),.int .i64 (E h 8),.int .i64 (E h 9),.int .i64 (E h 10)] 42)=w4 at hR hO4 hQ4 ⊢
 clear hRe q5 u0 u1 u2 u3 u4 u5 u6 u7 u8 u9 u10 hO3 hQ3
 have z3:w4.cell? ⟨Q,3,none⟩=some (.int .i64 (E k 3)):=(uh hQ4).cell (c:=3) (by omega)
 have z4:w4.cell? ⟨Q,4,none⟩=some (.int .i64 (E k 4)):=(uh hQ4).cell (c:=4) (by omega)
 have v3:w4.cell? ⟨R,3,none⟩=some (.int .i64 (E h 3)):=(uh hR).cell (c:=3) (by omega)
 have v4:w4.cell? ⟨R,4,none⟩=some (.int .i64 (E h 4)):=(uh hR).cell (c:=4) (by omega)
 have cb:Hid (Calls Tryz.prog 173 #[.int .i64 (E k 3),.int .i64 (E k 4),.int .i64 (E h 3),.int .i64 (E h 4)] w4 fun e w'=>e=.returned (.int .i64 (Nv.beside (E h 3 - E k 3) (E h 4 - E k 4)))∧w'=w4):=by
  have hb:=beside_any (E k 3) (E k 4) (E h 3) (E h 4) w4
  have k1:=uh hxy
  have k2:=uh HP
  rw [wrap64_id _ (by omega),wrap64_id _ (by omega)] at hb
  exact hb
 have hb0:0≤Nv.beside (E h 3 - E k 3) (E h 4 - E k 4):=Nv.from_bd _ _ 4 1
 have hto2:Hid (∀v,(if 0<Nv.beside (E h 3 - E k 3) (E h 4 - E k 4) then v=Nv.beside (E h 3 - E k 3) (E h 4 - E k 4) else Nv.IsToward c (fun _=>E h 4*24+E h 3) 1 E 32 (E k 3) (E k 4) v)→Md.IsMonster s c E (k:Int) v):=fun v hv=>uh hto v ⟨b,(h:Int),uh hSeen,.inr ⟨h,rfl,hv⟩⟩
 obtain ⟨D,hD⟩:∃D,Nv.beside (E h 3 - E k 3) (E h 4 - E k 4)=D:=⟨_,rfl⟩
 rw [hD] at cb hb0 hto2
 clear hD hto hSeen
 go_wp2_with fail
 refine (uh cb).mono ?_
 rintro e wy ⟨rfl,hw⟩
 subst wy
 clear cb
 by_cases hD0:D=0
 rotate_left
 ·have hD':(D != 0)=true:=by simpa using hD0
  have hfin:Hid (Md.Says w (Md.IsMonster s c E (k:Int)) (.returned (.int .i64 D)) w4):=⟨D,uh hto2 D (by rw [if_pos (by omega)]),rfl,(uh hO4).grown⟩
  clear hD0 hb0 hto2
  go_wp2
  go_ret
  exact uh hfin
 have hto3:Hid (∀v,Nv.IsToward c (fun _=>E h 4*24+E h 3) 1 E 32 (E k 3) (E k 4) v→Md.IsMonster s c E (k:Int) v):=fun v hv=>uh hto2 v (by rw [if_neg (by omega)];exact hv)
 subst hD0
 have hm1:IntKind.i64.wrap (E h 4*24)=E h 4*24:=by have:=uh HP;rw [IntKind.wrap_i64];omega
 have hm2:IntKind.i64.wrap (E h 4*24+E h 3)=E h 4*24+E h 3:=by have:=uh HP;rw [IntKind.wrap_i64];omega
 have hgz:=hide (World.grownBy_alloc w4 (.cells #[.int .i64 (E h 4*24+E h 3)] 3) none)
 have ct:Hid (∀b,b=w4.heap.size→Calls Tryz.prog 174 #[.slice (some ⟨gC,0,none⟩) 384 cC,.slice (some ⟨gE,0,none⟩) 32 cE,.int .i64 (E k 3),.int .i64 (E k 4),.slice (some ⟨b,0,none⟩) 1 1] (w4.alloc (.cells #[.int .i64 (E h 4*24+E h 3)] 3)) (Nv.SaysToward (w4.alloc (.cells #[.int .i64 (E h 4*24+E h 3)] 3)) c (fun _=>E h 4*24+E h 3) 1 E 32 (E k 3) (E k 4))):=fun b hb=>by
  subst hb
  have hL:=(uh hO4).lists.on (uh hgz)
  have k1:=uh hxy
  have k2:=uh HP
  exact navToward_any (some ⟨gC,0,none⟩) (some ⟨gE,0,none⟩) (some ⟨w4.heap.size,0,none⟩) cC 32 cE 1 1 c (fun _=>E h 4*24+E h 3) E (E k 3) (E k 4) _ hL.vec (uh hc') ⟨by omega,uh hcE',.inr ⟨gE,rfl,hL.own.ents⟩⟩ (uh hE').words (Nv.one_row w4 (E h 4*24+E h 3) 3) (fun _=>by omega) (by omega) (by omega) (by omega) (by omega)
 have q4:=(uh hO4).box.eleven.2.2.2.2.1
 have q5:=(uh hO4).box.eleven.2.2.2.2.2.1
 clear hto2 hb0
 go_wp2_with fail
 refine (uh ct _ rfl).mono ?_
 rintro e w5 ⟨v,hv,rfl,hg⟩
 have hg5:=hide (gtr (gtr (uh hO4).grown (uh hgz)) hg)
 have hfin:Hid (Md.Says w (Md.IsMonster s c E (k:Int)) (.returned (.int .i64 v)) w5):=⟨v,uh hto3 v hv,rfl,uh hg5⟩
 clear hg hv q4 q5 z3 z4 v3 v4 ct
 go_wp2
 go_ret
 exact uh hfin


open Go.RowKit

theorem En.id_pos {n:Nat} {E:Nat→Nat→Int} {k:Nat} (hk:k<n) (hf:E k 0≠0) (hG:En.Gens n E):0≤En.id n E (k:Int):=by
 rw [En.id_at hk hf]
 have:=hG k hk
 omega

set_option maxRecDepth 8000 in
set_option maxHeartbeats 12800000 in
theorem mAsk_monster (s g c:Nat→Int) (E I:Nat→Nat→Int) (gC gE gI cC cE cI:Nat) (row:Int) (w:World) (hL:Gd.Lists w gC gE gI c E I) (hc:∀i,0≤c i∧c i≤255) (hcE:32≤cE) (hE:Md.Good c E I) :
  Calls Tryz.prog 73 #[.iface 97 (.agg #[]),.agg (Gd.world s gC gE gI cC cE cI g),.int .i64 row] w (Md.Says w (Md.IsMonster s c E row)):=by
 obtain ⟨w0,hw0⟩:∃w0,w0=w.alloc (.cells (Gd.world s gC gE gI cC cE cI g) 28):=⟨_,rfl⟩
 have hg0:w.grownBy w0 none:=by rw [hw0];exact World.grownBy_alloc _ _ _
 have hO:Hid (Gd.Shown w w0 w.heap.size gC gE gI cC cE cI s g c E I):=by
  refine ⟨?_,hL.on hg0,hg0⟩
  rw [hw0]
  exact (Arr.world (heap_alloc_new w _)).lie
 have ci:=hide (id_any gE 32 cE E row w0 (uh hO).lists.own.ents hcE hE.gens)
 have hnone:Hid (((row<0∨32≤row)∨E row.toNat 0=0)→Md.IsMonster s c E row 0):=fun h=>by
  unfold Md.IsMonster
  rw [if_pos (by omega)]
 have hid:Hid (((row<0∨32≤row)∨E row.toNat 0=0)∧En.id 32 E row<0∨∃k:Nat,k<32∧row=(k:Int)∧E k 0≠0∧0≤En.id 32 E row):=by
  by_cases h1:row<0∨32≤row
  ·exact .inl ⟨.inl h1,by rw [En.id_out (by omega)];omega⟩
  ·obtain ⟨k,rfl⟩:∃k:Nat,row=(k:Int):=⟨row.toNat,by omega⟩
   by_cases h2:E k 0=0
   ·exact .inl ⟨.inr (by rw [Int.toNat_natCast];exact h2),by rw [En.id_free h2];omega⟩
   ·exact .inr ⟨k,by omega,rfl,h2,En.id_pos (by omega) h2 hE.gens⟩
 have cn:=hide (fun (k:Nat) (z:World) (hz:Gd.Lists z gC gE gI c E I) (h1:k<32) (h2:E k 0≠0)=>mMonster_next s g c E I gC gE gI cC cE cI k z hz hc hcE hE h1 h2)
 obtain ⟨i,hi⟩:∃i,En.id 32 E row=i:=⟨_,rfl⟩
 rw [hi] at ci hid
 clear hL hc hcE hE hg0 hi
 unfold Gd.world at hw0 cn ⊢
 go_enter Tryz.func73,Tryz.ntmps73
 go_upto_region 1 with fail
 rw [←hw0]
 clear hw0
 obtain ⟨B,hB⟩:∃B,w.heap.size=B:=⟨_,rfl⟩
 rw [hB] at hO ⊢
 clear hB
 have q5:=(uh hO).box.eleven.2.2.2.2.2.1
 go_wp2_with fail
 refine (uh ci).mono ?_
 rintro e w1 ⟨rfl,hg⟩
 have hO1:=hide ((uh hO).on hg)
 clear q5 ci hg hO
 rcases uh hid with ⟨h1,h2⟩ | ⟨k,hk,rfl,hk0,h2⟩
 ·have hfin:Hid (Md.Says w (Md.IsMonster s c E row) (.returned (.int .i64 0)) w1):=⟨0,uh hnone h1,rfl,(uh hO1).grown⟩
  clear h1 hid hnone
  go_wp2
  go_ret
  exact uh hfin
 ·have h2':¬i<0:=by omega
  have ck:=hide (uh cn k w1 (uh hO1).lists hk hk0)
  obtain ⟨b0,b1,b2,b3,b4,b5,b6,b7,b8,b9,b10⟩:=(uh hO1).box.eleven
  clear hid hnone cn hk hk0 h2
  go_wp2_with fail
  refine (uh ck).mono ?_
  rintro e w2 ⟨v,hv,rfl,hg⟩
  have hfin:Hid (Md.Says w (Md.IsMonster s c E (k:Int)) (.returned (.int .i64 v)) w2):=⟨v,hv,rfl,gtr (uh hO1).grown hg⟩
  clear hv hg b0 b1 b2 b3 b4 b5 b6 b7 b8 b9 b10 ck
  go_wp2
  go_ret
  exact uh hfin

set_option maxRecDepth 8000 in
set_option maxHeartbeats 12800000 in
theorem mAsk_robot (s g c:Nat→Int) (E I:Nat→Nat→Int) (gC gE gI cC cE cI:Nat) (row:Int) (w:World) (hL:Gd.Lists w gC gE gI c E I) (hc:∀i,0≤c i∧c i≤255) (hcE:32≤cE) (hcC:384≤cC) (hE:Md.Good c E I) (hr:row=-1∨∃k:Nat,k<32∧row=(k:Int)∧E k 0≠0) :
  Calls Tryz.prog 73 #[.iface 117 (.agg #[]),.agg (Gd.world s gC gE gI cC cE cI g),.int .i64 row] w (Md.Says w fun v=>if row<0 then v=0 else Md.robotAt c E I (E row.toNat 2) row.toNat v):=by
 obtain ⟨w0,hw0⟩:∃w0,w0=w.alloc (.cells (Gd.world s gC gE gI cC cE cI g) 28):=⟨_,rfl⟩
 have hg0:w.grownBy w0 none:=by rw [hw0];exact World.grownBy_alloc _ _ _
 have hO:Hid (Gd.Shown w w0 w.heap.size gC gE gI cC cE cI s g c E I):=by
  refine ⟨?_,hL.on hg0,hg0⟩
  rw [hw0]
  exact (Arr.world (heap_alloc_new w _)).lie
 have ci:=hide (id_any gE 32 cE E row w0 (uh hO).lists.own.ents hcE hE.gens)
 have hid:Hid ((row<0∧En.id 32 E row<0)∨∃k:Nat,k<32∧row=(k:Int)∧E k 0≠0∧0≤En.id 32 E row):=by
  rcases hr with rfl | ⟨k,hk,rfl,h2⟩
  ·exact .inl ⟨by omega,by rw [En.id_out (by omega)];omega⟩
  ·exact .inr ⟨k,by omega,rfl,h2,En.id_pos (by omega) h2 hE.gens⟩
 have cn:=hide (fun (k:Nat) (z:World) (hz:Gd.Lists z gC gE gI c E I) (h1:k<32) (h2:E k 0≠0)=>mRobot_next s g c E I gC gE gI cC cE cI k z hz hc hcE hcC hE h1 h2)
 have hP:Hid (∀v,(if row<0 then v=0 else Md.robotAt c E I (E row.toNat 2) row.toNat v)↔(fun v=>if row<0 then v=0 else Md.robotAt c E I (E row.toNat 2) row.toNat v) v):=fun v=>Iff.rfl
 obtain ⟨P,hPe⟩:∃P:Int→Prop,(fun v=>if row<0 then v=0 else Md.robotAt c E I (E row.toNat 2) row.toNat v)=P:=⟨_,rfl⟩
 rw [hPe] at hP ⊢
 obtain ⟨i,hi⟩:∃i,En.id 32 E row=i:=⟨_,rfl⟩
 rw [hi] at ci hid
 clear hL hc hcE hcC hE hg0 hi hr hPe
 unfold Gd.world at hw0 cn ⊢
 go_enter Tryz.func73,Tryz.ntmps73
 go_upto_region 1 with fail
 rw [←hw0]
 clear hw0
 obtain ⟨B,hB⟩:∃B,w.heap.size=B:=⟨_,rfl⟩
 rw [hB] at hO ⊢
 clear hB
 have q5:=(uh hO).box.eleven.2.2.2.2.2.1
 go_wp2_with fail
 refine (uh ci).mono ?_
 rintro e w1 ⟨rfl,hg⟩
 have hO1:=hide ((uh hO).on hg)
 clear q5 ci hg hO
 rcases uh hid with ⟨h1,h2⟩ | ⟨k,hk,rfl,hk0,h2⟩
 ·have hfin:Hid (Md.Says w P (.returned (.int .i64 0)) w1):=⟨0,(uh hP 0).1 (by rw [if_pos h1]),rfl,(uh hO1).grown⟩
  clear h1 hid hP
  go_wp2
  go_ret
  exact uh hfin
 ·have h2':¬i<0:=by omega
  have ck:=hide (uh cn k w1 (uh hO1).lists hk hk0)
  have hto:Hid (∀v,Md.robotAt c E I (E k 2) k v→P v):=fun v hv=>(uh hP v).1 (by rw [if_neg (by omega),Int.toNat_natCast];exact hv)
  obtain ⟨b0,b1,b2,b3,b4,b5,b6,b7,b8,b9,b10⟩:=(uh hO1).box.eleven
  clear hid hP cn hk hk0 h2
  go_wp2_with fail
  refine (uh ck).mono ?_
  rintro e w2 ⟨v,hv,rfl,hg⟩
  have hfin:Hid (Md.Says w P (.returned (.int .i64 v)) w2):=⟨v,uh hto v hv,rfl,gtr (uh hO1).grown hg⟩
  clear hv hg b0 b1 b2 b3 b4 b5 b6 b7 b8 b9 b10 ck hto
  go_wp2
  go_ret
  exact uh hfin

set_option maxRecDepth 8000 in
set_option maxHeartbeats 3200000 in
theorem mindsMonster_any (s g c:Nat→Int) (E I:Nat→Nat→Int) (gC gE gI cC cE cI:Nat) (row:Int) (w:World) (hL:Gd.Lists w gC gE gI c E I) (hc:∀i,0≤c i∧c i≤255) (hcE:32≤cE) (hE:Md.Good c E I) :
  Calls Tryz.prog 46 #[.agg (Gd.world s gC gE gI cC cE cI g),.int .i64 row] w (Md.Says w (Md.IsMonster s c E row)):=by
 obtain ⟨w0,hw0⟩:∃w0,w0=w.alloc (.cells (Gd.world s gC gE gI cC cE cI g) 28):=⟨_,rfl⟩
 have hg0:w.grownBy w0 none:=by rw [hw0];exact World.grownBy_alloc _ _ _
 have hO:Hid (Gd.Shown w w0 w.heap.size gC gE gI cC cE cI s g c E I):=by
  refine ⟨?_,hL.on hg0,hg0⟩
  rw [hw0]
  exact (Arr.world (heap_alloc_new w _)).lie
 have ca:=hide (mAsk_monster s g c E I gC gE gI cC cE cI row w0 (uh hO).lists hc hcE hE)
 clear hL hc hcE hE hg0
 unfold Gd.world at hw0 ca ⊢
 go_enter Tryz.func46,Tryz.ntmps46
 go_upto_region 1 with fail
 rw [←hw0]
 clear hw0
 obtain ⟨B,hB⟩:∃B,w.heap.size=B:=⟨_,rfl⟩
 rw [hB] at hO ⊢
 clear hB
 obtain ⟨b0,b1,b2,b3,b4,b5,b6,b7,b8,b9,b10⟩:=(uh hO).box.eleven
 go_wp2_with fail
 refine (uh ca).mono ?_
 rintro e w1 ⟨v,hv,rfl,hg⟩
 have hfin:Hid (Md.Says w (Md.IsMonster s c E row) (.returned (.int .i64 v)) w1):=⟨v,hv,rfl,gtr (uh hO).grown hg⟩
 clear hv hg b0 b1 b2 b3 b4 b5 b6 b7 b8 b9 b10 ca
 go_wp2
 go_ret
 exact uh hfin

set_option maxRecDepth 8000 in
set_option maxHeartbeats 12800000 in
theorem mindsRobot_any (s g c:Nat→Int) (E I:Nat→Nat→Int) (gC gE gI cC cE cI:Nat) (seat:Int) (w:World) (hL:Gd.Lists w gC gE gI c E I) (hc:∀i,0≤c i∧c i≤255) (hcE:32≤cE) (hcC:384≤cC) (hE:Md.Good c E I) :
  Calls Tryz.prog 66 #[.agg (Gd.world s gC gE gI cC cE cI g),.int .i64 seat] w (Md.Says w (Md.IsRobot c E I seat)):=by
 obtain ⟨w0,hw0⟩:∃w0,w0=w.alloc (.cells (Gd.world s gC gE gI cC cE cI g) 28):=⟨_,rfl⟩
 have hg0:w.grownBy w0 none:=by rw [hw0];exact World.grownBy_alloc _ _ _
 have hO:Hid (Gd.Shown w w0 w.heap.size gC gE gI cC cE cI s g c E I):=by
  refine ⟨?_,hL.on hg0,hg0⟩
  rw [hw0]
  exact (Arr.world (heap_alloc_new w _)).lie
 have ch:Hid (∀z,Gd.Lists z gC gE gI c E I→Calls Tryz.prog 38 #[.slice (some ⟨gE,0,none⟩) 32 cE,.int .i64 seat] z (Says z (.int .i64 (Gd.hero E seat)))):=fun z hz=>hero_any gE 32 cE E seat z hz.own.ents hcE
 have hrow:Gd.hero E seat=-1∨∃k:Nat,k<32∧Gd.hero E seat=(k:Int)∧E k 0≠0:=by
  unfold Gd.hero
  rcases En.first_cases (En.heroQ E seat) 32 with ⟨he,_⟩ | ⟨k,hk,he,hq,_⟩
  ·exact .inl he
  ·simp only [En.heroQ,Bool.and_eq_true,decide_eq_true_eq] at hq
   exact .inr ⟨k,hk,he,by omega⟩
 have ca:=hide (fun (z:World) (hz:Gd.Lists z gC gE gI c E I)=>mAsk_robot s g c E I gC gE gI cC cE cI (Gd.hero E seat) z hz hc hcE hcC hE hrow)
 have hto:Hid (∀v,(if Gd.hero E seat<0 then v=0 else Md.robotAt c E I (E (Gd.hero E seat).toNat 2) (Gd.hero E seat).toNat v)→Md.IsRobot c E I seat v):=fun v hv=>by
  unfold Md.IsRobot
  by_cases hn:Gd.hero E seat<0
  ·rw [if_pos hn] at hv ⊢;exact hv
  ·rw [if_neg hn] at hv ⊢
   obtain ⟨k,hk,he,-,h2⟩:=Md.hero_row hn
   rw [he,Int.toNat_natCast] at hv ⊢
   rw [h2] at hv
   exact hv
 obtain ⟨P,hP⟩:∃P:Int→Prop,(fun v=>if Gd.hero E seat<0 then v=0 else Md.robotAt c E I (E (Gd.hero E seat).toNat 2) (Gd.hero E seat).toNat v)=P:=⟨_,rfl⟩
 have hto2:Hid (∀v,P v→Md.IsRobot c E I seat v):=fun v hv=>uh hto v (by rw [←hP] at hv;exact hv)
 rw [hP] at ca
 obtain ⟨h,hh⟩:∃h,Gd.hero E seat=h:=⟨_,rfl⟩
 rw [hh] at ch ca
 clear hL hc hcE hcC hE hg0 hrow hto hP hh
 unfold Gd.world at hw0 ca ⊢
 go_enter Tryz.func66,Tryz.ntmps66
 go_upto_region 1 with fail
 rw [←hw0]
 clear hw0
 obtain ⟨B,hB⟩:∃B,w.heap.size=B:=⟨_,rfl⟩
 rw [hB] at hO ⊢
 clear hB
 have hdr:=hide (gd1 (World.grownBy.refl w0 none))
 have hL0:Hid (∀z,w0.grownBy z none→Gd.Lists z gC gE gI c E I):=fun z hz=>(uh hO).lists.on hz
 have hkeep:Hid (∀z,w0.grownBy z none→(z.cell? ⟨B,0,none⟩=some (.int .i64 (s 0))∧z.cell? ⟨B,1,none⟩=some (.int .i64 (s 1))∧z.cell? ⟨B,2,none⟩=some (.int .i64 (s 2))∧z.cell? ⟨B,3,none⟩=some (.int .i64 (s 3))∧z.cell? ⟨B,4,none⟩=some (.slice (some ⟨gC,0,none⟩) 384 cC)∧z.cell? ⟨B,5,none⟩=some (.slice (some ⟨gE,0,none⟩) 32 cE)∧z.cell? ⟨B,6,none⟩=some (.slice (some ⟨gI,0,none⟩) 40 cI)∧z.cell? ⟨B,7,none⟩=some (.int .i64 (g 0))∧z.cell? ⟨B,8,none⟩=some (.int .i64 (g 1))∧z.cell? ⟨B,9,none⟩=some (.int .i64 (g 2))∧z.cell? ⟨B,10,none⟩=some (.int .i64 (g 3)))):=fun z hz=>((uh hO).on hz).box.eleven
 have hS0:=uh hkeep w0 (World.grownBy.refl _ none)
 go_region_held3 (fun z=>z.cell? ⟨B,0,none⟩=some (.int .i64 (s 0))∧z.cell? ⟨B,1,none⟩=some (.int .i64 (s 1))∧z.cell? ⟨B,2,none⟩=some (.int .i64 (s 2))∧z.cell? ⟨B,3,none⟩=some (.int .i64 (s 3))∧z.cell? ⟨B,4,none⟩=some (.slice (some ⟨gC,0,none⟩) 384 cC)∧z.cell? ⟨B,5,none⟩=some (.slice (some ⟨gE,0,none⟩) 32 cE)∧z.cell? ⟨B,6,none⟩=some (.slice (some ⟨gI,0,none⟩) 40 cI)∧z.cell? ⟨B,7,none⟩=some (.int .i64 (g 0))∧z.cell? ⟨B,8,none⟩=some (.int .i64 (g 1))∧z.cell? ⟨B,9,none⟩=some (.int .i64 (g 2))∧z.cell? ⟨B,10,none⟩=some (.int .i64 (g 3))) (go_keep) (first
  | (go_at_call 38;refine (uh ch _ (uh hL0 _ (uh hdr))).mono ?_;rintro e w1 ⟨rfl,hg⟩;have hg1:=hide (gtr (uh hdr) hg);have hS1:=uh hkeep _ (uh hg1);clear hg)
  | (go_at_call 73;refine (uh ca _ (uh hL0 _ (uh hg1))).mono ?_;rintro e w2 ⟨v,hv,rfl,hg⟩;have hg2:=hide (gtr (uh hg1) hg);have hv':=hide hv;have hS2:=uh hkeep _ (uh hg2);clear hg hv))
 have hfin:Hid (Md.Says w (Md.IsRobot c E I seat) (.returned (.int .i64 v)) w2):=⟨v,uh hto2 v (uh hv'),rfl,gtr (uh hO).grown (uh hg2)⟩
 clear hS0 hS1 hS2
 go_wp2
 go_ret
 exact uh hfin

end Go.Proofs.YtbanjoflgoiegabGreat
