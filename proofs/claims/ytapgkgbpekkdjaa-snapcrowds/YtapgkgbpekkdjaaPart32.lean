import Derived.Test.YtapgkgbpekkdjaaPart28
namespace Go.Proofs.Ytapgkgbpekkdjaa
open Go.RowKit

set_option maxRecDepth 100000 in
set_option maxHeartbeats 12800000 in
theorem told_put (seat:Int) (s0:0≤seat) (s4:seat<4) (kc:Nat) (hkc:kc<384) (c:Nat→Int) (hkw:Gr.walkB (c kc)=true) (b o k nL cL gE gI B ob oo L cO X:Nat) (O:Nat→Nat) (hL0:0<L) (hL4:L≤384) (hOw:∀i,i<L→O i<384∧Gr.walkB (c (O i))=true) (a0 a1 a2 a3 wh:Int) (hwh:wh=1+a1 % 4) (wr wc:World) (hb:b<wr.heap.size) (hlt1:(k:Int)<(nL:Int)) (q0:wc.cell? ⟨b,o+k*4,none⟩=some (.int .i64 a0)) (q2:wc.cell? ⟨b,o+k*4+2,none⟩=some (.int .i64 a2)) (q3:wc.cell? ⟨b,o+k*4+3,none⟩=some (.int .i64 a3)) (hOx:Hid (Gd.Open wc ob oo L O B gE gI)) (hI:Hid (Lie wc X 47 4 (Ints (Gd.row (1+a0 % 4) wh 0 0)))) (hgx:Hid (wr.grownBy wc none)) (hXn:Hid (wr.heap.size≤X)) (Q:Exit→Act→World→Prop) {t0 t1 t3 t5 t6 t7 t8 t9 Aa Ab Ac Ad Ae Af Ag Ah Ai Aj Ak Al Am Ao Ap Aq Ar As Au Av Aw Ax Ay Az AA AB AC AD AE AF AG AH AI AJ AK AL AM AN AO AP AQ AR AS AT AU AV AW AX AY AZ A0 A1 A2 A3 A4 A5 A6 A7 A8 A9 Ba Bb Bc Bd Be Bf Bg Bh Bi Bj Bk Bl Bm Bn Bo Bp Bq Br Bs Bt Bu Bv Bw Bx Bz BA BB BC BD BE BF BG BH BI BJ BK BL BM BN BO BP BQ BR BS BT BU BV BW BX BY BZ B0 B1 B2 B3 B4 B5 B6 B7 B8 B9 Ca Cb Cc Cd Ce Cf Cg Ch Ci Cj Ck Cl Cm Cn Co Cp Cq Cs Ct Cu Cv Cw Cx Cy Cz CA CB CC CD CE CF CG CH CI CJ CK CL CM CN CO CP CQ CR CS CT CU CV CW CX CY CZ C0 C1 C2 C3 C4 C5 C6 C7 C8 C9 Da Db Dc Dd De Df Dg Dh Di Dj Dk Dl Dm Dn Dp Dq Dr Ds Dt Du Dv Dw Dx Dy Dz DA DB DC DD:Value}
  (hQ:∀(kd a b':Int) (w2:World) (u20 u122 u123 u124 u125 u126 u127 u128 u129 u130 u131 u132 u133 u134 u135 u136 u137 u138 u139 u140 u141 u142 u143 u144 u145 u146 u147 u148 u149 u150 u151 u152 u153 u154 u155 u156 u157 u158 u159 u160 u161 u162 u163 u164 u165 u166 u167 u168 u169 u170 u171 u172 u173 u174 u175 u176 u177 u178 u179 u180 u181 u182 u183 u184 u185 u186 u187 u188 u189 u190 u191 u192 u193 u194 u195 u196 u197 u198:Value),Hid (Lie w2 X 47 4 (Ints (Gd.row kd wh a b')))→Hid (wr.grownBy w2 none)→Hid (Gd.Fit c kd wh a b')→Hid (a0=0→a1=0→a3=0→kd=1∧wh=1∧a=(kc:Int) % 24∧b'=(kc:Int) / 24)→Q .normal ⟨#[t0,t1,.int .i64 seat,t3,.slice (some ⟨b,o,none⟩) nL cL,t5,t6,t7,t8,t9,Aa,Ab,Ac,Ad,.slice (some ⟨ob,oo,none⟩) L cO,Ae,.int .i64 (kc:Int),Af,.int .i64 (k:Int),.pointer (some ⟨X,0,none⟩),u20,Ah,Ai,Aj,Ak,Al,Am,Ao,Ap,Aq,Ar,As,Au,Av,Aw,Ax,Ay,Az,AA,AB,AC,AD,AE,AF,AG,AH,AI,AJ,AK,AL,AM,AN,AO,AP,AQ,AR,AS,AT,AU,AV,AW,AX,AY,AZ,A0,A1,A2,A3,A4,A5,A6,A7,A8,A9,Ba,Bb,Bc,Bd,Be,Bf,Bg,Bh,Bi,Bj,Bk,Bl,Bm,Bn,Bo,Bp,Bq,Br,Bs,Bt,Bu,Bv,Bw,Bx,Bz,BA,BB,BC,BD,BE,BF,BG,BH,BI,BJ,BK,BL,BM,BN,BO,BP,BQ,BR,BS,BT,BU,BV,.int .i64 wh,u122,u123,u124,u125,u126,u127,u128,u129,u130,u131,u132,u133,u134,u135,u136,u137,u138,u139,u140,u141,u142,u143,u144,u145,u146,u147,u148,u149,u150,u151,u152,u153,u154,u155,u156,u157,u158,u159,u160,u161,u162,u163,u164,u165,u166,u167,u168,u169,u170,u171,u172,u173,u174,u175,u176,u177,u178,u179,u180,u181,u182,u183,u184,u185,u186,u187,u188,u189,u190,u191,u192,u193,u194,u195,u196,u197,u198,Dc,Dd,De,Df,Dg,Dh,Di,Dj,Dk,Dl,Dm,Dn,Dp,Dq,Dr,Ds,Dt,Du,Dv,Dw,Dx,Dy,Dz,DA,DB,DC,DD],[]⟩ w2) :
  Code.wp Try.prog (csnd (cfst (csnd (cin (cfst (csnd (cin (cin (csnd (cfst ((Try.f18.body.map (cdrop 12)).getD .skip))))))))))) Q ⟨#[t0,t1,.int .i64 seat,t3,.slice (some ⟨b,o,none⟩) nL cL,t5,t6,t7,t8,t9,Aa,Ab,Ac,Ad,.slice (some ⟨ob,oo,none⟩) L cO,Ae,.int .i64 (kc:Int),Af,.int .i64 (k:Int),.pointer (some ⟨X,0,none⟩),Ag,Ah,Ai,Aj,Ak,Al,Am,Ao,Ap,Aq,Ar,As,Au,Av,Aw,Ax,Ay,Az,AA,AB,AC,AD,AE,AF,AG,AH,AI,AJ,AK,AL,AM,AN,AO,AP,AQ,AR,AS,AT,AU,AV,AW,AX,AY,AZ,A0,A1,A2,A3,A4,A5,A6,A7,A8,A9,Ba,Bb,Bc,Bd,Be,Bf,Bg,Bh,Bi,Bj,Bk,Bl,Bm,Bn,Bo,Bp,Bq,Br,Bs,Bt,Bu,Bv,Bw,Bx,Bz,BA,BB,BC,BD,BE,BF,BG,BH,BI,BJ,BK,BL,BM,BN,BO,BP,BQ,BR,BS,BT,BU,BV,.int .i64 wh,BW,BX,BY,BZ,B0,B1,B2,B3,B4,B5,B6,B7,B8,B9,Ca,Cb,Cc,Cd,Ce,Cf,Cg,Ch,Ci,Cj,Ck,Cl,Cm,Cn,Co,Cp,Cq,Cs,Ct,Cu,Cv,Cw,Cx,Cy,Cz,CA,CB,CC,CD,CE,CF,CG,CH,CI,CJ,CK,CL,CM,CN,CO,CP,CQ,CR,CS,CT,CU,CV,CW,CX,CY,CZ,C0,C1,C2,C3,C4,C5,C6,C7,C8,C9,Da,Db,Dc,Dd,De,Df,Dg,Dh,Di,Dj,Dk,Dl,Dm,Dn,Dp,Dq,Dr,Ds,Dt,Du,Dv,Dw,Dx,Dy,Dz,DA,DB,DC,DD],[]⟩ wc:=by
 conv=>arg 2;whnf
 obtain ⟨f4,hf4⟩:∃f:Int→Int,Hid (∀a,f a=a % 4):=⟨fun a=>a % 4,fun _=>rfl⟩
 have c4:Hid (∀a wq,Calls Try.prog 44 #[.int .i64 a,.int .i64 4] wq fun e w'=>e=.returned (.int .i64 (f4 a))∧w'=wq):=fun a wq=>by
  rw [uh hf4]
  exact within7_any a 4 wq (by omega) (by omega)
 rw [←uh hf4 a0] at hI
 rw [←uh hf4 a1] at hwh
 have hOw':=hide hOw
 have hQ':=hide hQ
 clear hOw hQ
 have m00:0≤f4 a0:=by rw [uh hf4];omega
 have m04:f4 a0<4:=by rw [uh hf4];omega
 have m10:0≤f4 a1:=by rw [uh hf4];omega
 have m14:f4 a1<4:=by rw [uh hf4];omega
 have hne:X≠b:=by have:=uh hXn;omega
 have hne2:b≠X:=by have:=uh hXn;omega
 have hwm:Hid (a1=0→wh=1):=fun h=>by
  rw [uh hf4] at hwh
  omega
 have hw1:1≤wh:=by omega
 have hw4:wh≤4:=by omega
 obtain ⟨x0,x1,x2,x3⟩:=item_cells (uh hI)
 have fX:=(uh hI).free
 clear hwh x1
 rcases (show wh=1∨wh=2∨wh=3∨wh=4 by omega) with rfl | rfl | rfl | rfl
 ·obtain ⟨J,hJ⟩:∃J:Nat,a2 % (L:Int)=(J:Int):=⟨(a2 % (L:Int)).toNat,(Int.toNat_of_nonneg (Int.emod_nonneg _ (by omega))).symm⟩
  have hJL:J<L:=by
   have:=Int.emod_lt_of_pos a2 (b:=(L:Int)) (by omega)
   omega
  have cJ:Hid (∀wq,Calls Try.prog 44 #[.int .i64 a2,.int .i64 (L:Int)] wq fun e w'=>e=.returned (.int .i64 (J:Int))∧w'=wq):=fun wq=>by
   have h:=within7_any a2 (L:Int) wq (by omega) (by omega)
   rw [hJ] at h
   exact h
  have qJ:=(uh hOx).cell J hJL
  have hqw0:=uh hOw' J hJL
  obtain ⟨q,hq⟩:∃q,O J=q:=⟨_,rfl⟩
  rw [hq] at qJ hqw0
  have hqw:=hide hqw0
  have hJi:(J:Int)<(L:Int):=by omega
  have hkd:Hid (1≤1+f4 a0∧1+f4 a0≤4):=by
   show _∧_
   omega
  have hkz:Hid (a0=0→1+f4 a0=1):=fun h=>by
   rw [uh hf4,h]
   rfl
  have hgq:Hid (∀v1 v2,wr.grownBy ((wc.setCell ⟨X,2,none⟩ v1).setCell ⟨X,3,none⟩ v2) none):=fun v1 v2=>gow (uh hgx) (gtr (gs0 wc X 2 v1) (gs0 _ X 3 v2)) (fun n e=>by cases e;exact uh hXn)
  have hkw':=hide (And.intro hkc hkw)
  have hz:(0:Int).tmod 2=0:=rfl
  have hz':=hide hz
  have hk3:(kc:Int)<384:=by omega
  have hq3:(q:Int)<384:=by
   have:=hqw0.1
   omega
  clear hJL hq hqw0 hJ hkc hkw hz m00 m04 m10 m14
  by_cases hev:a3.tmod 2=0
  ·have hq1:(kc:Int).tmod 24=(kc:Int) % 24:=Int.tmod_eq_emod_of_nonneg (by omega)
   have hq2:(kc:Int).tdiv 24=(kc:Int) / 24:=Int.tdiv_eq_ediv_of_nonneg (by omega)
   go_wp2_with fail
   refine (uh cJ _).mono ?_
   rintro e wy ⟨rfl,hy⟩
   subst wy
   go_wp2_with fail
   exact uh hQ' _ _ _ _ _ _ _ _ _ _ _ _ _ _ _ _ _ _ _ _ _ _ _ _ _ _ _ _ _ _ _ _ _ _ _ _ _ _ _ _ _ _ _ _ _ _ _ _ _ _ _ _ _ _ _ _ _ _ _ _ _ _ _ _ _ _ _ _ _ _ _ _ _ _ _ _ _ _ _ _ _ _ (item_b (item_a (uh hI))) (uh hgq _ _) (Gd.fit_cell (uh hkd).1 (uh hkd).2 (uh hkw').1 (uh hkw').2) (fun h0 _ _=>⟨uh hkz h0,by simp,by simp,by simp⟩)
  ·have hq1:(q:Int).tmod 24=(q:Int) % 24:=Int.tmod_eq_emod_of_nonneg (by omega)
   have hq2:(q:Int).tdiv 24=(q:Int) / 24:=Int.tdiv_eq_ediv_of_nonneg (by omega)
   have hev':(a3.tmod 2 == 0)=false:=by simp [hev]
   have hevh:=hide hev
   clear hev
   go_wp2_with fail
   refine (uh cJ _).mono ?_
   rintro e wy ⟨rfl,hy⟩
   subst wy
   go_wp2_with fail
   exact uh hQ' _ _ _ _ _ _ _ _ _ _ _ _ _ _ _ _ _ _ _ _ _ _ _ _ _ _ _ _ _ _ _ _ _ _ _ _ _ _ _ _ _ _ _ _ _ _ _ _ _ _ _ _ _ _ _ _ _ _ _ _ _ _ _ _ _ _ _ _ _ _ _ _ _ _ _ _ _ _ _ _ _ _ (item_b (item_a (uh hI))) (uh hgq _ _) (Gd.fit_cell (uh hkd).1 (uh hkd).2 (uh hqw).1 (uh hqw).2) (fun _ _ h3=>absurd (by rw [h3];exact uh hz') (uh hevh))
 ·have hno:Hid (a1≠0):=fun h=>absurd (uh hwm h) (by omega)
  have n20:0≤f4 a2∧f4 a2<4:=by rw [uh hf4];omega
  have n30:0≤f4 a3∧f4 a3<4:=by rw [uh hf4];omega
  have hft:Hid (∀a,0≤a→a<4→Gd.Fit c (1+f4 a0) 2 a (f4 a3)):=fun a h1 h2=>⟨by omega,by omega,.inr (.inl ⟨rfl,h1,h2,n30.1,n30.2⟩)⟩
  have hft2:=hide (uh hft _ n20.1 n20.2)
  have hft3:=hide (uh hft _ s0 s4)
  have hlb:Hid (b<wc.heap.size):=Nat.lt_of_lt_of_le hb (uh hgx).size
  clear n20 n30 m00 m04 m10 m14 hft hkc hkw
  go_upto_region 28 with fail
  go_cut [] from 122 to 198 (fun wx=>Hid (Lie wx X 47 4 (Ints (Gd.row (1+f4 a0) 2 (f4 a2) (f4 a3))))∧Hid (wc.grownBy wx (some X)))
  case first =>
   go_region_held3 (fun x=>x.cell? ⟨b,o+k*4+2,none⟩=some (.int .i64 a2)∧x.cell? ⟨b,o+k*4+3,none⟩=some (.int .i64 a3)) (go_keep) (first | (go_at_call 44;refine (uh c4 _ _).mono ?_;rintro e wy ⟨rfl,hy⟩;subst wy))
   all_goals
    go_wp2_with fail
    go_meet
    first
     | exact ⟨(item_b (item_a (uh hI))).on (gd1 (World.grownBy.refl _ _)),gd1 (gtr (gs0 wc X 2 _) (gs0 _ X 3 _))⟩
     | exact ⟨(item_a (item_b (uh hI))).on (gd1 (World.grownBy.refl _ _)),gd1 (gtr (gs0 wc X 3 _) (gs0 _ X 2 _))⟩
     | exact ⟨item_b (item_a ((uh hI).on (gd1 (World.grownBy.refl _ _)))),gtr (gtr (gd1 (World.grownBy.refl _ _)) (gs0 _ X 2 _)) (gs0 _ X 3 _)⟩
  case rest =>
   obtain ⟨hIn,hgn⟩:=hcut
   have z2:=(gce (uh hgn) b _ (uh hlb) (by simpa using hne)).trans q2
   obtain ⟨y0,y1,y2,y3⟩:=item_cells (uh hIn)
   have fY:=(uh hIn).free
   have hgm:Hid (wr.grownBy wc none):=gow (uh hgx) (uh hgn) (fun n e=>by cases e;exact uh hXn)
   have hgq:Hid (∀v1,wr.grownBy (wc.setCell ⟨X,2,none⟩ v1) none):=fun v1=>gow (uh hgm) (gs0 wc X 2 v1) (fun n e=>by cases e;exact uh hXn)
   clear q0 q2 q3 x0 x2 x3 fX
   by_cases hev:a2.tmod 2=0
   ·go_wp2_with fail
    exact uh hQ' _ _ _ _ _ _ _ _ _ _ _ _ _ _ _ _ _ _ _ _ _ _ _ _ _ _ _ _ _ _ _ _ _ _ _ _ _ _ _ _ _ _ _ _ _ _ _ _ _ _ _ _ _ _ _ _ _ _ _ _ _ _ _ _ _ _ _ _ _ _ _ _ _ _ _ _ _ _ _ _ _ _ (item_a (uh hIn)) (uh hgq _) (uh hft3) (fun _ h _=>absurd h (uh hno))
   ·have hev':(a2.tmod 2 == 0)=false:=by simp [hev]
    clear hev
    go_wp2_with fail
    exact uh hQ' _ _ _ _ _ _ _ _ _ _ _ _ _ _ _ _ _ _ _ _ _ _ _ _ _ _ _ _ _ _ _ _ _ _ _ _ _ _ _ _ _ _ _ _ _ _ _ _ _ _ _ _ _ _ _ _ _ _ _ _ _ _ _ _ _ _ _ _ _ _ _ _ _ _ _ _ _ _ _ _ _ _ (uh hIn) (uh hgm) (uh hft2) (fun _ h _=>absurd h (uh hno))
 ·have hno:Hid (a1≠0):=fun h=>absurd (uh hwm h) (by omega)
  obtain ⟨n0,hn0⟩:∃m,a0 % 2=m:=⟨_,rfl⟩
  have b0:0≤n0:=by omega
  have b1:n0<2:=by omega
  have c2:Hid (∀wq,Calls Try.prog 44 #[.int .i64 a0,.int .i64 2] wq fun e w'=>e=.returned (.int .i64 n0)∧w'=wq):=fun wq=>by
   have h:=within7_any a0 2 wq (by omega) (by omega)
   rw [hn0] at h
   exact h
  have hft:Hid (∀v,v=n0→Gd.Fit c (2+n0) 3 seat v):=fun v hv=>⟨by omega,by omega,.inr (.inr (.inl ⟨rfl,s0,s4,by omega⟩))⟩
  have hgq:Hid (∀v1 v2 v3,wr.grownBy (((wc.setCell ⟨X,0,none⟩ v1).setCell ⟨X,2,none⟩ v2).setCell ⟨X,3,none⟩ v3) none):=fun v1 v2 v3=>gow (uh hgx) (gtr (gtr (gs0 wc X 0 v1) (gs0 _ X 2 v2)) (gs0 _ X 3 v3)) (fun n e=>by cases e;exact uh hXn)
  clear hn0 m00 m04 m10 m14 hkc hkw
  go_wp2_with fail
  refine (uh c2 _).mono ?_
  rintro e wy ⟨rfl,hy⟩
  subst wy
  go_wp2_with fail
  exact uh hQ' _ _ _ _ _ _ _ _ _ _ _ _ _ _ _ _ _ _ _ _ _ _ _ _ _ _ _ _ _ _ _ _ _ _ _ _ _ _ _ _ _ _ _ _ _ _ _ _ _ _ _ _ _ _ _ _ _ _ _ _ _ _ _ _ _ _ _ _ _ _ _ _ _ _ _ _ _ _ _ _ _ _ (item_b (item_a (item_k (uh hI)))) (uh hgq _ _ _) (uh hft _ (by omega)) (fun _ h _=>absurd h (uh hno))
 ·have hno:Hid (a1≠0):=fun h=>absurd (uh hwm h) (by omega)
  obtain ⟨n2,hn2⟩:∃m,a2 % 3=m:=⟨_,rfl⟩
  have b0:0≤n2:=by omega
  have b1:n2<3:=by omega
  have c3:Hid (∀wq,Calls Try.prog 44 #[.int .i64 a2,.int .i64 3] wq fun e w'=>e=.returned (.int .i64 n2)∧w'=wq):=fun wq=>by
   have h:=within7_any a2 3 wq (by omega) (by omega)
   rw [hn2] at h
   exact h
  have hft:Hid (Gd.Fit c (1+f4 a0) 4 n2 0):=⟨by omega,by omega,.inr (.inr (.inr ⟨rfl,b0,b1,rfl⟩))⟩
  have hgq:Hid (∀v1,wr.grownBy (wc.setCell ⟨X,2,none⟩ v1) none):=fun v1=>gow (uh hgx) (gs0 wc X 2 v1) (fun n e=>by cases e;exact uh hXn)
  clear hn2 m00 m04 m10 m14 hkc hkw
  go_wp2_with fail
  refine (uh c3 _).mono ?_
  rintro e wy ⟨rfl,hy⟩
  subst wy
  go_wp2_with fail
  exact uh hQ' _ _ _ _ _ _ _ _ _ _ _ _ _ _ _ _ _ _ _ _ _ _ _ _ _ _ _ _ _ _ _ _ _ _ _ _ _ _ _ _ _ _ _ _ _ _ _ _ _ _ _ _ _ _ _ _ _ _ _ _ _ _ _ _ _ _ _ _ _ _ _ _ _ _ _ _ _ _ _ _ _ _ (item_a (uh hI)) (uh hgq _) (uh hft) (fun _ h _=>absurd h (uh hno))

end Go.Proofs.Ytapgkgbpekkdjaa
