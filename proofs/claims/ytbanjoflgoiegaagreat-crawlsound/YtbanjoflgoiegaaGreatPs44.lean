import Derived.Test.YtbanjoflgoiegaaGreatPs43
import Derived.Test.YtbanjoflgoiegaaGreatPs42
namespace Go.Proofs.YtbanjoflgoiegaaGreat
open Go.RowKit

theorem Nv.from_bd (dx dy:Int):∀(m k:Nat),0≤Nv.besideFrom dx dy m k
 | 0,_=>Int.le_refl _
 | m+1,k=>by
  unfold Nv.besideFrom
  split
  ·omega
  ·exact Nv.from_bd dx dy m (k+1)

set_option maxRecDepth 8000 in
set_option maxHeartbeats 12800000 in
theorem mMonster_next (s g c:Nat→Int) (E I:Nat→Nat→Int) (gC gE gI cC cE cI k:Nat) (w:World) (hL:Gd.Lists w gC gE gI c E I) (hc:∀i,0≤c i∧c i≤255) (hcE:32≤cE) (hE:Md.Good c E I) (hk:k<32) (hk0:E k 0≠0) :
  Calls Tryz.prog 211 #[.agg #[],.agg (Gd.world s gC gE gI cC cE cI g),.int .i64 (k:Int)] w (Md.Says w (Md.IsMonster s c E (k:Int))):=by
 obtain ⟨wz,hwz⟩:∃wz,wz=w.alloc (.cells #[] 134):=⟨_,rfl⟩
 obtain ⟨w0,hw0⟩:∃w0,w0=wz.alloc (.cells (Gd.world s gC gE gI cC cE cI g) 30):=⟨_,rfl⟩
 have hgz:w.grownBy wz none:=by rw [hwz];exact World.grownBy_alloc _ _ _
 have hg0:w.grownBy w0 none:=by rw [hw0];exact gtr hgz (World.grownBy_alloc _ _ _)
 have hO:Hid (Gd.Shown w w0 wz.heap.size gC gE gI cC cE cI s g c E I):=by
  refine ⟨?_,hL.on hg0,hg0⟩
  rw [hw0]
  exact (Arr.world (heap_alloc_new wz _)).lie
 have hsz:wz.heap.size=w.heap.size+1:=by rw [hwz];simp
 have hdef:Hid (∀v,Md.IsMonster s c E (k:Int) v↔if E k 0=1 then v=0 else Md.monsterAt s c E k v):=fun v=>by
  unfold Md.IsMonster
  rw [Int.toNat_natCast]
  by_cases h1:E k 0=1
  ·rw [if_pos h1,if_pos (.inr (.inr h1))]
  ·rw [if_neg h1,if_neg (by omega)]
 have hc':=hide hc
 have hcE':=hide hcE
 have hE':=hide hE
 obtain ⟨x0,x9,y0,y9,-,-⟩:=hE.fine k hk hk0
 have hxy:=hide (show (0≤E k 3∧E k 3<24)∧0≤E k 4∧E k 4<16 from ⟨⟨x0,x9⟩,y0,y9⟩)
 have HK:=hide (And.intro hk hk0)
 have hk':(k:Int)<32:=by omega
 clear hL hc hcE hE hg0 hgz x0 x9 y0 y9
 unfold Gd.world at hw0 ⊢
 rw [hwz] at hw0
 rw [hsz] at hO
 clear hwz hsz
 go_enter Tryz.func211,Tryz.ntmps211
 go_upto_region 1 with fail
 rw [←hw0]
 clear hw0
 obtain ⟨B,hB⟩:∃B,w.heap.size+1=B:=⟨_,rfl⟩
 rw [hB] at hO ⊢
 clear hB
 have q5:=(uh hO).box.eleven.2.2.2.2.2.1
 obtain ⟨u0,u1,u2,u3,u4,u5,u6,u7,u8,u9,u10⟩:=(uh hO).lists.own.ents.row hk
 have hQ:=hide (Lie.copied w0 (E k) 54)
 have hO2:=hide ((uh hO).on (World.grownBy_alloc w0 (.cells (En.cells (E k)) 54) none))
 clear hk hk0
 unfold En.cells at hQ hO2
 go_upto_region 2 with fail
 obtain ⟨Q,hQe⟩:∃Q,w0.heap.size=Q:=⟨_,rfl⟩
 rw [hQe] at hQ ⊢
 generalize w0.alloc (.cells #[.int .i64 (E k 0),.int .i64 (E k 1),.int .i64 (E k 2),.int .i64 (E k 3),.int .i64 (E k 4),.int .i64 (E k 5),.int .i64 (E k 6),.int .i64 (E k 7),.int .i64 (E k 8),.int .i64 (E k 9),.int .i64 (E k 10)] 54)=w2 at hQ hO2 ⊢
 clear hQe q5 u0 u1 u2 u3 u4 u5 u6 u7 u8 u9 u10 hO
 obtain ⟨z0,z1,z2,z3,z4,z5,z6,z7,z8,z9,z10⟩:=(uh hQ).elevenInts
 by_cases h1:E k 0=1
 ·have hfin:Hid (Md.Says w (Md.IsMonster s c E (k:Int)) (.returned (.int .i64 0)) w2):=⟨0,(uh hdef 0).2 (by rw [if_pos h1]),rfl,(uh hO2).grown⟩
  have h1':(E k 0 == 1)=true:=by simpa using h1
  clear hdef h1
  go_wp2
  go_ret
  exact uh hfin
 have h1':(E k 0 == 1)=false:=by simpa using h1
 have hto:Hid (∀v,(∃b a,Md.Seen c E (E k 3) (E k 4) 4 b a∧((a<0∧v=Md.stray s c E k)∨∃h:Nat,a=(h:Int)∧if 0<Nv.beside (E h 3 - E k 3) (E h 4 - E k 4) then v=Nv.beside (E h 3 - E k 3) (E h 4 - E k 4) else Nv.IsToward c (fun _=>E h 4*24+E h 3) 1 E 32 (E k 3) (E k 4) v))→Md.IsMonster s c E (k:Int) v):=fun v hv=>(uh hdef v).2 (by rw [if_neg h1];exact hv)
 clear h1 hdef
 obtain ⟨b0,b1,b2,b3,b4,b5,b6,b7,b8,b9,b10⟩:=(uh hO2).box.eleven
 have cn:=hide (mNearest_any s g c E I (E k) gC gE gI cC cE cI w2 (uh hO2).lists (uh hc') (uh hcE') (uh hE').fine (uh hxy).1.1 (uh hxy).1.2 (uh hxy).2.1 (uh hxy).2.2)
 unfold Gd.world En.cells at cn
 go_wp2_with fail
 refine (uh cn).mono ?_
 rintro e w3 ⟨b,a,hS,hA,rfl,hg⟩
 have hSeen:=hide hS
 have hAt:=hide hA
 have hO3:=hide ((uh hO2).on hg)
 have hQ3:=hide ((uh hQ).on hg)
 clear b0 b1 b2 b3 b4 b5 b6 b7 b8 b9 b10 z0 z1 z2 z3 z4 z5 z6 z7 z8 z9 z10 cn hS hA hg hO2 hQ
 rcases uh hAt with rfl | ⟨h,hh,rfl,hh1⟩
 ·obtain ⟨b0,b1,b2,b3,b4,b5,b6,b7,b8,b9,b10⟩:=(uh hO3).box.eleven
  have cw:=hide (mWander_any s g c E I gC gE gI cC cE cI k w3 (uh hO3).lists (uh hc') (uh hcE') (uh hE').fine (uh HK).1 (uh HK).2)
  unfold Gd.world at cw
  have hfin:Hid (Md.IsMonster s c E (k:Int) (Md.stray s c E k)):=uh hto _ ⟨b,-1,uh hSeen,.inl ⟨by omega,rfl⟩⟩
  obtain ⟨S,hS⟩:∃S,Md.stray s c E k=S:=⟨_,rfl⟩
  rw [hS] at cw hfin
  clear hS hto hSeen hAt
  go_wp2_with fail
  refine (uh cw).mono ?_
  rintro e w4 ⟨rfl,hg⟩
  have hg4:=hide (gtr (uh hO3).grown hg)
  clear hg cw b0 b1 b2 b3 b4 b5 b6 b7 b8 b9 b10
  go_wp2
  go_ret
  exact ⟨S,uh hfin,rfl,uh hg4⟩
 have hh':(h:Int)<32:=by omega
 have hhn:¬(h:Int)<0:=by omega
 obtain ⟨p0,p9,r0,r9,-,-⟩:=(uh hE').fine h hh (by omega)
 have HP:=hide (show (0≤E h 3∧E h 3<24)∧0≤E h 4∧E h 4<16 from ⟨⟨p0,p9⟩,r0,r9⟩)
 have q5:=(uh hO3).box.eleven.2.2.2.2.2.1
 obtain ⟨u0,u1,u2,u3,u4,u5,u6,u7,u8,u9,u10⟩:=(uh hO3).lists.own.ents.row hh
 have hR:=hide (Lie.copied w3 (E h) 54)
 have hgA:=hide (World.grownBy_alloc w3 (.cells (En.cells (E h)) 54) none)
 have hO4:=hide ((uh hO3).on (uh hgA))
 have hQ4:=hide ((uh hQ3).on (uh hgA))
 clear hh hh1 hAt p0 p9 r0 r9 hgA
 unfold En.cells at hR hO4 hQ4
 go_upto_region 8 with fail
 obtain ⟨R,hRe⟩:∃R,w3.heap.size=R:=⟨_,rfl⟩
 rw [hRe] at hR ⊢
 generalize w3.alloc (.cells #[.int .i64 (E h 0),.int .i64 (E h 1),.int .i64 (E h 2),.int .i64 (E h 3),.int .i64 (E h 4),.int .i64 (E h 5),.int .i64 (E h 6),.int .i64 (E h 7),.int .i64 (E h 8),.int .i64 (E h 9),.int .i64 (E h 10)] 54)=w4 at hR hO4 hQ4 ⊢
 clear hRe q5 u0 u1 u2 u3 u4 u5 u6 u7 u8 u9 u10 hO3 hQ3
 have z3:w4.cell? ⟨Q,3,none⟩=some (.int .i64 (E k 3)):=(uh hQ4).cell (c:=3) (by omega)
 have z4:w4.cell? ⟨Q,4,none⟩=some (.int .i64 (E k 4)):=(uh hQ4).cell (c:=4) (by omega)
 have v3:w4.cell? ⟨R,3,none⟩=some (.int .i64 (E h 3)):=(uh hR).cell (c:=3) (by omega)
 have v4:w4.cell? ⟨R,4,none⟩=some (.int .i64 (E h 4)):=(uh hR).cell (c:=4) (by omega)
 have cb:Hid (Calls Tryz.prog 214 #[.int .i64 (E k 3),.int .i64 (E k 4),.int .i64 (E h 3),.int .i64 (E h 4)] w4 fun e w'=>e=.returned (.int .i64 (Nv.beside (E h 3 - E k 3) (E h 4 - E k 4)))∧w'=w4):=by
  have hb:=beside_any (E k 3) (E k 4) (E h 3) (E h 4) w4
  have k1:=uh hxy
  have k2:=uh HP
  rw [wrap64_id _ (by omega),wrap64_id _ (by omega)] at hb
  exact hb
 have hb0:0≤Nv.beside (E h 3 - E k 3) (E h 4 - E k 4):=Nv.from_bd _ _ 4 1
 have hto2:Hid (∀v,(if 0<Nv.beside (E h 3 - E k 3) (E h 4 - E k 4) then v=Nv.beside (E h 3 - E k 3) (E h 4 - E k 4) else Nv.IsToward c (fun _=>E h 4*24+E h 3) 1 E 32 (E k 3) (E k 4) v)→Md.IsMonster s c E (k:Int) v):=fun v hv=>uh hto v ⟨b,(h:Int),uh hSeen,.inr ⟨h,rfl,hv⟩⟩
 obtain ⟨D,hD⟩:∃D,Nv.beside (E h 3 - E k 3) (E h 4 - E k 4)=D:=⟨_,rfl⟩
 rw [hD] at cb hb0 hto2
 clear hD hto hSeen
 go_wp2_with fail
 refine (uh cb).mono ?_
 rintro e wy ⟨rfl,hw⟩
 subst wy
 clear cb
 by_cases hD0:D=0
 rotate_left
 ·have hD':(D != 0)=true:=by simpa using hD0
  have hfin:Hid (Md.Says w (Md.IsMonster s c E (k:Int)) (.returned (.int .i64 D)) w4):=⟨D,uh hto2 D (by rw [if_pos (by omega)]),rfl,(uh hO4).grown⟩
  clear hD0 hb0 hto2
  go_wp2
  go_ret
  exact uh hfin
 have hto3:Hid (∀v,Nv.IsToward c (fun _=>E h 4*24+E h 3) 1 E 32 (E k 3) (E k 4) v→Md.IsMonster s c E (k:Int) v):=fun v hv=>uh hto2 v (by rw [if_neg (by omega)];exact hv)
 subst hD0
 have hm1:IntKind.i64.wrap (E h 4*24)=E h 4*24:=by have:=uh HP;rw [IntKind.wrap_i64];omega
 have hm2:IntKind.i64.wrap (E h 4*24+E h 3)=E h 4*24+E h 3:=by have:=uh HP;rw [IntKind.wrap_i64];omega
 have hgz:=hide (World.grownBy_alloc w4 (.cells #[.int .i64 (E h 4*24+E h 3)] 3) none)
 have ct:Hid (∀b,b=w4.heap.size→Calls Tryz.prog 215 #[.slice (some ⟨gC,0,none⟩) 384 cC,.slice (some ⟨gE,0,none⟩) 32 cE,.int .i64 (E k 3),.int .i64 (E k 4),.slice (some ⟨b,0,none⟩) 1 1] (w4.alloc (.cells #[.int .i64 (E h 4*24+E h 3)] 3)) (Nv.SaysToward (w4.alloc (.cells #[.int .i64 (E h 4*24+E h 3)] 3)) c (fun _=>E h 4*24+E h 3) 1 E 32 (E k 3) (E k 4))):=fun b hb=>by
  subst hb
  have hL:=(uh hO4).lists.on (uh hgz)
  have k1:=uh hxy
  have k2:=uh HP
  exact navToward_any (some ⟨gC,0,none⟩) (some ⟨gE,0,none⟩) (some ⟨w4.heap.size,0,none⟩) cC 32 cE 1 1 c (fun _=>E h 4*24+E h 3) E (E k 3) (E k 4) _ hL.vec (uh hc') ⟨by omega,uh hcE',.inr ⟨gE,rfl,hL.own.ents⟩⟩ (uh hE').words (Nv.one_row w4 (E h 4*24+E h 3) 3) (fun _=>by omega) (by omega) (by omega) (by omega) (by omega)
 have q4:=(uh hO4).box.eleven.2.2.2.2.1
 have q5:=(uh hO4).box.eleven.2.2.2.2.2.1
 clear hto2 hb0
 go_wp2_with fail
 refine (uh ct _ rfl).mono ?_
 rintro e w5 ⟨v,hv,rfl,hg⟩
 have hg5:=hide (gtr (gtr (uh hO4).grown (uh hgz)) hg)
 have hfin:Hid (Md.Says w (Md.IsMonster s c E (k:Int)) (.returned (.int .i64 v)) w5):=⟨v,uh hto3 v hv,rfl,uh hg5⟩
 clear hg hv q4 q5 z3 z4 v3 v4 ct
 go_wp2
 go_ret
 exact uh hfin

end Go.Proofs.YtbanjoflgoiegaaGreat
