import Derived.Test.YtldgbkjceildfaaGreatCu51
namespace Go.Proofs.YtldgbkjceildfaaGreat
open Go.RowKit

set_option maxRecDepth 16000 in
set_option maxHeartbeats 25600000 in
theorem saveCuts_none (K:Act→World→Prop) (Q:Exit→Act→World→Prop) {f0 f1 f2 f3 f4 f5 f6 f7 f8 f9 f10 f11 f13 f18 f19 f22 f23 f24 f25 f26 f27 f28 f29 f30 f31 f32 f33 f34 f35 f36 f37 f38 f39 f40 f41 f42 f43 f44 f45 f46 f47 f48 f49 f50 f51 f52 f53 f54 f55 f56 f57 f58 f59 f60 f61 f62 f63 f64 f65 f66 f67 f68 f69 f70 f71 f72 f73 f74 f75 f76 f77 f78 f79 f80 f81 f82 f83 f84 f85 f86 f87 f88 f89 f90 f91 f92 f93 f94 f95 f96 f97 f98 f99 f100 f101 f102 f103 f104 f105 f106 f107 f108 f109 f110 f111 f112 f113 f114 f115 f116 f117 f118 f119 f120 f121 f122 f123 f124 f125 f126 f127 f128 f129 f130 f131 f132 f133 f134 f135 f136 f137 f138 f139 f140 f141 f142 f143 f144 f145 f146 f147 f148 f149 f150 f151 f152 f153 f154 f155 f156 f157 f158 f159 f160 f161 f162 f163 f164 f165 f166 f167 f168 f169:Value} (w y4 x1:World) (base0 bs p bm n T B i dn:Nat) (had:Bool) (st':Dk.St) (v:Value) (a0:Int) (L:List (List Value)) (C:Sv.C) (gC gE gI cC cE cI:Nat) 
  (A4:Hid (Sv.At w y4 base0 bs p bm n st' none none v a0 L x1 T had B C gC gE gI cC cE cI)) (lo:Hid (w.heap.size≤p∧w.heap.size≤bm)) (HN:Hid (40≤n∧n≤60)) (DN:Hid (dn≤16∧st'.done≤16*(i+1)))
  (hend:Hid (∀(h:Bool) (g24 g25 g26 g27 g113 g114 g115 g116 g117 g118 g119 g120 g121 g122 g123 g124 g125 g126 g127 g128 g129 g130 g131 g132 g133 g134 g135 g136 g137 g138 g139 g140 g141 g142 g143 g144 g145 g146 g147 g148 g149 g150 g151 g152 g153 g154 g155 g156 g157 g158 g159 g160 g161 g162 g163 g164 g165 g166 g167 g168 g169:Value) (z:World),(∃st o,Sv.Row w z base0 bs p bm n st o v a0 L x1∧st.done≤16*(i+1)∧Sv.Now z T h o)→K ⟨#[f0,f1,f2,f3,f4,f5,f6,f7,f8,f9,f10,f11,Value.pointer (some ⟨p,0,none⟩),f13,Value.bool h,Value.pointer (some ⟨T,0,none⟩),Value.int .i64 (i:Int),Value.pointer (some ⟨B,0,none⟩),f18,f19,Value.int .i64 11,Value.int .i64 (dn:Int),f22,f23,g24,g25,g26,g27,f28,f29,f30,f31,f32,f33,f34,f35,f36,f37,f38,f39,f40,f41,f42,f43,f44,f45,f46,f47,f48,f49,f50,f51,f52,f53,f54,f55,f56,f57,f58,f59,f60,f61,f62,f63,f64,f65,f66,f67,f68,f69,f70,f71,f72,f73,f74,f75,f76,f77,f78,f79,f80,f81,f82,f83,f84,f85,f86,f87,f88,f89,f90,f91,f92,f93,f94,f95,f96,f97,f98,f99,f100,f101,f102,f103,f104,f105,f106,f107,f108,f109,f110,f111,f112,g113,g114,g115,g116,g117,g118,g119,g120,g121,g122,g123,g124,g125,g126,g127,g128,g129,g130,g131,g132,g133,g134,g135,g136,g137,g138,g139,g140,g141,g142,g143,g144,g145,g146,g147,g148,g149,g150,g151,g152,g153,g154,g155,g156,g157,g158,g159,g160,g161,g162,g163,g164,g165,g166,g167,g168,g169],[]⟩ z)) :
  Code.wp Tryz.prog Sv.cuts26 (Exit.inBlock 1 (Exit.then K Q)) ⟨#[f0,f1,f2,f3,f4,f5,f6,f7,f8,f9,f10,f11,Value.pointer (some ⟨p,0,none⟩),f13,Value.bool had,Value.pointer (some ⟨T,0,none⟩),Value.int .i64 (i:Int),Value.pointer (some ⟨B,0,none⟩),f18,f19,Value.int .i64 11,Value.int .i64 (dn:Int),f22,f23,f24,f25,f26,f27,f28,f29,f30,f31,f32,f33,f34,f35,f36,f37,f38,f39,f40,f41,f42,f43,f44,f45,f46,f47,f48,f49,f50,f51,f52,f53,f54,f55,f56,f57,f58,f59,f60,f61,f62,f63,f64,f65,f66,f67,f68,f69,f70,f71,f72,f73,f74,f75,f76,f77,f78,f79,f80,f81,f82,f83,f84,f85,f86,f87,f88,f89,f90,f91,f92,f93,f94,f95,f96,f97,f98,f99,f100,f101,f102,f103,f104,f105,f106,f107,f108,f109,f110,f111,f112,f113,f114,f115,f116,f117,f118,f119,f120,f121,f122,f123,f124,f125,f126,f127,f128,f129,f130,f131,f132,f133,f134,f135,f136,f137,f138,f139,f140,f141,f142,f143,f144,f145,f146,f147,f148,f149,f150,f151,f152,f153,f154,f155,f156,f157,f158,f159,f160,f161,f162,f163,f164,f165,f166,f167,f168,f169],[]⟩ y4:=by
 conv=>arg 2;whnf
 have cs:=hide (uh A4).disk.start
 go_wp2_with fail
 refine (uh cs).mono ?_
 rintro e y5 ⟨rfl,hD5,ht5⟩
 have A6:=hide ((uh A4).next (uh lo) hD5 ht5)
 have cl:Hid (∀y,y5.grownBy y none→Calls Tryz.prog 20 #[.pointer (some ⟨p,0,none⟩)] y (Sv.Told y none)):=fun y hy=>(hD5.on hy).load (uh HN).1 rfl
 obtain rfl:had=false:=by
  rcases (uh A6).now with ⟨h1,_⟩ | ⟨_,_,_,_,_,_,_,_,_,k,_⟩
  ·exact h1
  ·cases k
 clear cs A4 hD5 ht5
 go_wp2_with fail
 refine (uh cl _ (World.grownBy.refl _ _)).mono ?_
 rintro e z1 ⟨hz1,rfl⟩
 obtain ⟨z2,hz2⟩:∃x,x=z1.alloc (.cells Sv.void 33):=⟨_,rfl⟩
 have hg2:z1.grownBy z2 none:=by rw [hz2];exact World.grownBy_alloc _ _ _
 obtain ⟨X,hX0⟩:∃B,z1.heap.size=B:=⟨_,rfl⟩
 have BX:Hid (Lie z2 X 33 15 Sv.voids):=by
  show Lie z2 _ _ _ _
  rw [hz2,←hX0]
  exact Sv.void_lie z1
 have GZ2:=hide (gtr hz1 hg2)
 clear hz1 hg2
 unfold Sv.void at hz2 ⊢
 go_upto_region 28 with fail
 rw [←hz2]
 clear hz2 hX0 z1
 go_wp2_with fail
 refine (uh cl _ (uh GZ2)).mono ?_
 rintro e z3 ⟨hz3,rfl⟩
 obtain ⟨z4,hz4⟩:∃x,x=z3.alloc (.cells Sv.void 33):=⟨_,rfl⟩
 have hg4:z3.grownBy z4 none:=by rw [hz4];exact World.grownBy_alloc _ _ _
 obtain ⟨Y,hY0⟩:∃B,z3.heap.size=B:=⟨_,rfl⟩
 have BY:Lie z4 Y 33 15 Sv.voids:=by
  rw [hz4,←hY0]
  exact Sv.void_lie z3
 have BX4:=hide ((uh BX).on (gtr hz3 hg4))
 have GZ4:=hide (gtr (uh GZ2) (gtr hz3 hg4))
 obtain ⟨p0,p1,p2,p3,p4,p5,p6,p7,p8,p9,p10,p11,p12,p13,p14⟩:=Sv.void_cells BY
 obtain ⟨q0,q1,q2,q3,q4,q5,q6,q7,q8,q9,q10,q11,q12,q13,q14⟩:=Sv.void_cells (uh BX4)
 have cq:=hide (svSame_void z4)
 clear hz3 hg4 BY BX GZ2 cl
 unfold Sv.void at hz4 cq ⊢
 go_upto_region 29 with fail
 rw [←hz4]
 clear hz4 hY0 z3
 go_wp2_with fail
 refine (uh cq).mono ?_
 rintro e z5 ⟨rfl,hg5⟩
 have hfin:Hid (∃st o,Sv.Row w z5 base0 bs p bm n st o v a0 L x1∧st.done≤16*(i+1)∧Sv.Now z5 T false o):=by
  have h9:=((uh A6).on (gtr (uh GZ4) hg5)).row rfl
  exact ⟨_,_,h9.1,(uh DN).2,h9.2⟩
 clear cq hg5 BX4 GZ4 A6 p0 p1 p2 p3 p4 p5 p6 p7 p8 p9 p10 p11 p12 p13 p14 q0 q1 q2 q3 q4 q5 q6 q7 q8 q9 q10 q11 q12 q13 q14
 go_wp2
 exact uh hend _ _ _ _ _ _ _ _ _ _ _ _ _ _ _ _ _ _ _ _ _ _ _ _ _ _ _ _ _ _ _ _ _ _ _ _ _ _ _ _ _ _ _ _ _ _ _ _ _ _ _ _ _ _ _ _ _ _ _ _ _ _ _ hfin


open Go.RowKit

set_option maxRecDepth 16000 in
set_option maxHeartbeats 25600000 in
theorem saveCuts_false (K:Act→World→Prop) (Q:Exit→Act→World→Prop) {f0 f1 f2 f3 f4 f5 f6 f7 f8 f9 f10 f11 f13 f18 f19 f22 f23 f24 f25 f26 f27 f28 f29 f30 f31 f32 f33 f34 f35 f36 f37 f38 f39 f40 f41 f42 f43 f44 f45 f46 f47 f48 f49 f50 f51 f52 f53 f54 f55 f56 f57 f58 f59 f60 f61 f62 f63 f64 f65 f66 f67 f68 f69 f70 f71 f72 f73 f74 f75 f76 f77 f78 f79 f80 f81 f82 f83 f84 f85 f86 f87 f88 f89 f90 f91 f92 f93 f94 f95 f96 f97 f98 f99 f100 f101 f102 f103 f104 f105 f106 f107 f108 f109 f110 f111 f112 f113 f114 f115 f116 f117 f118 f119 f120 f121 f122 f123 f124 f125 f126 f127 f128 f129 f130 f131 f132 f133 f134 f135 f136 f137 f138 f139 f140 f141 f142 f143 f144 f145 f146 f147 f148 f149 f150 f151 f152 f153 f154 f155 f156 f157 f158 f159 f160 f161 f162 f163 f164 f165 f166 f167 f168 f169:Value} (w y4 x1:World) (base0 bs p bm n T B i dn:Nat) (had:Bool) (st':Dk.St) (v:Value) (a0:Int) (L:List (List Value)) (C:Sv.C) (gC gE gI cC cE cI:Nat) (D:Sv.C) (hal:Sv.alike D C=false)
  (A4:Hid (Sv.At w y4 base0 bs p bm n st' (some D) (some D) v a0 L x1 T had B C gC gE gI cC cE cI)) (lo:Hid (w.heap.size≤p∧w.heap.size≤bm)) (HN:Hid (40≤n∧n≤60)) (HOK:Hid C.Ok) (DN:Hid (dn≤16∧st'.done≤16*(i+1)))
  (hend:Hid (∀(h:Bool) (g24 g25 g26 g27 g113 g114 g115 g116 g117 g118 g119 g120 g121 g122 g123 g124 g125 g126 g127 g128 g129 g130 g131 g132 g133 g134 g135 g136 g137 g138 g139 g140 g141 g142 g143 g144 g145 g146 g147 g148 g149 g150 g151 g152 g153 g154 g155 g156 g157 g158 g159 g160 g161 g162 g163 g164 g165 g166 g167 g168 g169:Value) (z:World),(∃st o,Sv.Row w z base0 bs p bm n st o v a0 L x1∧st.done≤16*(i+1)∧Sv.Now z T h o)→K ⟨#[f0,f1,f2,f3,f4,f5,f6,f7,f8,f9,f10,f11,Value.pointer (some ⟨p,0,none⟩),f13,Value.bool h,Value.pointer (some ⟨T,0,none⟩),Value.int .i64 (i:Int),Value.pointer (some ⟨B,0,none⟩),f18,f19,Value.int .i64 11,Value.int .i64 (dn:Int),f22,f23,g24,g25,g26,g27,f28,f29,f30,f31,f32,f33,f34,f35,f36,f37,f38,f39,f40,f41,f42,f43,f44,f45,f46,f47,f48,f49,f50,f51,f52,f53,f54,f55,f56,f57,f58,f59,f60,f61,f62,f63,f64,f65,f66,f67,f68,f69,f70,f71,f72,f73,f74,f75,f76,f77,f78,f79,f80,f81,f82,f83,f84,f85,f86,f87,f88,f89,f90,f91,f92,f93,f94,f95,f96,f97,f98,f99,f100,f101,f102,f103,f104,f105,f106,f107,f108,f109,f110,f111,f112,g113,g114,g115,g116,g117,g118,g119,g120,g121,g122,g123,g124,g125,g126,g127,g128,g129,g130,g131,g132,g133,g134,g135,g136,g137,g138,g139,g140,g141,g142,g143,g144,g145,g146,g147,g148,g149,g150,g151,g152,g153,g154,g155,g156,g157,g158,g159,g160,g161,g162,g163,g164,g165,g166,g167,g168,g169],[]⟩ z)) :
  Code.wp Tryz.prog Sv.cuts26 (Exit.inBlock 1 (Exit.then K Q)) ⟨#[f0,f1,f2,f3,f4,f5,f6,f7,f8,f9,f10,f11,Value.pointer (some ⟨p,0,none⟩),f13,Value.bool had,Value.pointer (some ⟨T,0,none⟩),Value.int .i64 (i:Int),Value.pointer (some ⟨B,0,none⟩),f18,f19,Value.int .i64 11,Value.int .i64 (dn:Int),f22,f23,f24,f25,f26,f27,f28,f29,f30,f31,f32,f33,f34,f35,f36,f37,f38,f39,f40,f41,f42,f43,f44,f45,f46,f47,f48,f49,f50,f51,f52,f53,f54,f55,f56,f57,f58,f59,f60,f61,f62,f63,f64,f65,f66,f67,f68,f69,f70,f71,f72,f73,f74,f75,f76,f77,f78,f79,f80,f81,f82,f83,f84,f85,f86,f87,f88,f89,f90,f91,f92,f93,f94,f95,f96,f97,f98,f99,f100,f101,f102,f103,f104,f105,f106,f107,f108,f109,f110,f111,f112,f113,f114,f115,f116,f117,f118,f119,f120,f121,f122,f123,f124,f125,f126,f127,f128,f129,f130,f131,f132,f133,f134,f135,f136,f137,f138,f139,f140,f141,f142,f143,f144,f145,f146,f147,f148,f149,f150,f151,f152,f153,f154,f155,f156,f157,f158,f159,f160,f161,f162,f163,f164,f165,f166,f167,f168,f169],[]⟩ y4:=by
 conv=>arg 2;whnf
 have cs:=hide (uh A4).disk.start
 go_wp2_with fail
 refine (uh cs).mono ?_
 rintro e y5 ⟨rfl,hD5,ht5⟩
 have A6:=hide ((uh A4).next (uh lo) hD5 ht5)
 have OKD:=hide (hD5.ok _ rfl)
 have cl:Hid (∀y,y5.grownBy y none→Calls Tryz.prog 20 #[.pointer (some ⟨p,0,none⟩)] y (Sv.Told y (some D))):=fun y hy=>(hD5.on hy).load (uh HN).1 rfl
 obtain rfl:had=true:=by
  rcases (uh A6).now with ⟨_,k,_⟩ | ⟨h1,_⟩
  ·cases k
  ·exact h1
 clear cs A4 hD5 ht5
 go_wp2_with fail
 refine (uh cl _ (World.grownBy.refl _ _)).mono ?_
 rintro e z1 ⟨hz1,v1,rfl,jC,jE,jI,dC,dE,dI,rfl,-,-,-,-,hJ1⟩
 obtain ⟨z2,hz2⟩:∃x,x=z1.alloc (.cells (Sv.camp D.s jC jE jI dC dE dI D.g D.t) 33):=⟨_,rfl⟩
 have hg2:z1.grownBy z2 none:=by rw [hz2];exact World.grownBy_alloc _ _ _
 obtain ⟨X,hX0⟩:∃B,z1.heap.size=B:=⟨_,rfl⟩
 have BX:Hid (Lie z2 X 33 15 (Sv.box D.s jC jE jI dC dE dI D.g D.t)):=by
  show Lie z2 _ _ _ _
  rw [hz2,←hX0]
  exact Sv.camp_lie (heap_alloc_new z1 _)
 have LX:=hide (hJ1.on hg2)
 have HXT:Hid (X≠T):=by
  obtain ⟨K,hK⟩:=((uh A6).now.on hz1).some
  have:=hK.lt
  show X≠T
  omega
 have GZ2:=hide (gtr hz1 hg2)
 clear hz1 hJ1 hg2
 unfold Sv.camp at hz2 ⊢
 go_upto_region 28 with fail
 rw [←hz2]
 clear hz2 hX0 z1
 go_wp2_with fail
 refine (uh cl _ (uh GZ2)).mono ?_
 rintro e z3 ⟨hz3,v3,rfl,kC,kE,kI,fC,fE,fI,rfl,-,-,-,-,hJ3⟩
 obtain ⟨z4,hz4⟩:∃x,x=z3.alloc (.cells (Sv.camp D.s kC kE kI fC fE fI D.g D.t) 33):=⟨_,rfl⟩
 have hg4:z3.grownBy z4 none:=by rw [hz4];exact World.grownBy_alloc _ _ _
 obtain ⟨Y,hY0⟩:∃B,z3.heap.size=B:=⟨_,rfl⟩
 have BY:Lie z4 Y 33 15 (Sv.box D.s kC kE kI fC fE fI D.g D.t):=by
  rw [hz4,←hY0]
  exact Sv.camp_lie (heap_alloc_new z3 _)
 have BX4:=hide ((uh BX).on (gtr hz3 hg4))
 have LX4:=hide ((uh LX).on (gtr hz3 hg4))
 have GZ4:=hide (gtr (uh GZ2) (gtr hz3 hg4))
 obtain ⟨⟨p0,p1,p2,p3,p4,p5,p6,p7,p8,p9,p10⟩,p11,p12,p13,p14⟩:=Sv.fifteen BY
 obtain ⟨⟨q0,q1,q2,q3,q4,q5,q6,q7,q8,q9,q10⟩,q11,q12,q13,q14⟩:=Sv.fifteen (uh BX4)
 have cq:=hide (svSame_any D.s D.s D.g D.g D.c D.c D.E D.E D.I D.I D.t D.t jC jE jI dC dE dI kC kE kI fC fE fI z4 (uh LX4) (hJ3.on hg4) (uh OKD).byte (uh OKD).byte)
 rw [Sv.sameT_self,Sn.sameW_yes,Bool.and_true] at cq
 clear hz3 hJ3 hg4 BY BX LX GZ2 cl
 unfold Sv.camp at hz4 cq ⊢
 go_upto_region 29 with fail
 rw [←hz4]
 clear hz4 hY0 z3
 go_wp2_with fail
 refine (uh cq).mono ?_
 rintro e z5 ⟨rfl,hg5⟩
 have BX5:=hide ((uh BX4).on hg5)
 have LX5:=hide ((uh LX4).on hg5)
 have A7:=hide ((uh A6).on (gtr (uh GZ4) hg5))
 clear cq hg5 BX4 LX4 GZ4 A6 p0 p1 p2 p3 p4 p5 p6 p7 p8 p9 p10 p11 p12 p13 p14 q0 q1 q2 q3 q4 q5 q6 q7 q8 q9 q10 q11 q12 q13 q14
 have cq2:=hide (svSame_c D C jC jE jI dC dE dI gC gE gI cC cE cI z5 (uh LX5) (uh A7).lists (uh OKD).byte (uh HOK).byte)
 obtain ⟨⟨b0,b1,b2,b3,b4,b5,b6,b7,b8,b9,b10⟩,b11,b12,b13,b14⟩:=Sv.fifteen (uh A7).camp
 obtain ⟨⟨q0,q1,q2,q3,q4,q5,q6,q7,q8,q9,q10⟩,q11,q12,q13,q14⟩:=Sv.fifteen (uh BX5)
 unfold Sv.camp at cq2
 rw [hal] at cq2
 clear hal
 go_wp2_with fail
 refine (uh cq2).mono ?_
 rintro e z6 ⟨rfl,hg6⟩
 have NW:=(uh A7).now.on hg6
 rcases NW with ⟨k,_⟩ | ⟨_,D',N,nC,nE,nI,mC,mE,mI,hDD,hNT,hLN,hNB,hNA⟩
 case inl=>cases k
 obtain rfl:D=D':=Option.some.inj hDD
 have A8:=hide ((uh A7).on hg6)
 have BX6:=(uh BX5).on hg6
 have cq:=hide (svSame_c D N jC jE jI dC dE dI nC nE nI mC mE mI z6 ((uh LX5).on hg6) hLN (uh OKD).byte hNB)
 rw [hNA] at cq
 clear cq2 hg6 hDD hLN hNB hNA A7 BX5 LX5 q0 q1 q2 q3 q4 q5 q6 q7 q8 q9 q10 q11 q12 q13 q14 b0 b1 b2 b3 b4 b5 b6 b7 b8 b9 b10 b11 b12 b13 b14
 obtain ⟨⟨b0,b1,b2,b3,b4,b5,b6,b7,b8,b9,b10⟩,b11,b12,b13,b14⟩:=Sv.fifteen hNT
 obtain ⟨⟨q0,q1,q2,q3,q4,q5,q6,q7,q8,q9,q10⟩,q11,q12,q13,q14⟩:=Sv.fifteen BX6
 clear hNT BX6
 unfold Sv.camp at cq
 go_wp2_with fail
 refine (uh cq).mono ?_
 rintro e z7 ⟨rfl,hg7⟩
 have hfin:Hid (∃st o,Sv.Row w z7 base0 bs p bm n st o v a0 L x1∧st.done≤16*(i+1)∧Sv.Now z7 T true o):=by
  have h9:=((uh A8).on hg7).row rfl
  exact ⟨_,_,h9.1,(uh DN).2,h9.2⟩
 clear cq hg7 A8 q0 q1 q2 q3 q4 q5 q6 q7 q8 q9 q10 q11 q12 q13 q14 b0 b1 b2 b3 b4 b5 b6 b7 b8 b9 b10 b11 b12 b13 b14
 go_wp2
 exact uh hend _ _ _ _ _ _ _ _ _ _ _ _ _ _ _ _ _ _ _ _ _ _ _ _ _ _ _ _ _ _ _ _ _ _ _ _ _ _ _ _ _ _ _ _ _ _ _ _ _ _ _ _ _ _ _ _ _ _ _ _ _ _ _ hfin

end Go.Proofs.YtldgbkjceildfaaGreat
