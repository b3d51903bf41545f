import Derived.Test.YtapgkgbpekkdjaaPart28
namespace Go.Proofs.Ytapgkgbpekkdjaa
open Go.RowKit

def cops:Code→Array Oper
 | .seq (.region _ o _) _=>o
 | _=>#[]

set_option maxRecDepth 100000 in
set_option maxHeartbeats 6400000 in
theorem lots_MEIB (seed fl:Int) (w0 w:World) (hg:w0.grownBy w none) (c:Nat→Int) (G nE nI cE cI:Nat) (aE aI:Option Addr) (hF:Nv.Floor c) (lG:w0.heap.size≤G) (hA:Lie w G 5 384 (Byts c)) (gE:Nat) (lE:w0.heap.size≤gE) (hE:Lie w gE 45 352 (En.flat fun _ _=>0)) (gI:Nat) (lI:w0.heap.size≤gI) (hI:Lie w gI 47 160 (Gd.flat fun _ _=>0)) (B:Nat) (lB:w0.heap.size≤B) (hB:Lie w B 29 11 (fun j=>#[.int .i64 0,.int .i64 0,.int .i64 0,.int .i64 0,.slice none 0 0,.slice none 0 0,.slice none 0 0,.int .i64 0,.int .i64 0,.int .i64 0,Value.int .i64 0][j]?.getD undef)) (Q:Exit→Act→World→Prop) (_hQp:∀p d v a x,Q (.panic p) (Act.put a d v) x→Q (.panic p) a x) {t2 t3 t4 t5 t6 t7 t8 t9 Aa Ab Ac Ad Ae Af Ag Ah Ai Aj Ak Al Am Ao Ap Aq Ar As Au Av Aw Ax Ay Az AA AB AC AD AE AF AG AH AI AJ AK AL AM AN AO AP AQ AR AS AT AU AV AW AX AY AZ A0 A1 A2 A3 A4 A5 A6 A7 A8 A9 Ba Bb Bc Bd Be Bf Bg Bh Bi Bj Bk Bl Bm Bn Bo Bp Bq Br Bs Bt Bu Bv Bw Bx Bz BA BB BC BD BE BF BG BH BI BJ BK BL BM BN BO BP BQ BR BS BT BU BV BW BX BY BZ B0 B1 B2 B3 B4 B5 B6 B7 B8 B9 Ca Cb Cc Cd Ce Cf Cg Ch Ci Cj Ck Cl Cm Cn Co Cp Cq Cs Ct Cu Cv Cw Cx Cy Cz CA CB CC CD CE CF CG CH CI CJ CK CL CM CN CO CP CQ CR CS CT CU CV CW CX CY CZ C0 C1 C2 C3 C4 C5 C6 C7 C8 C9 Da Db Dc Dd De Df Dg Dh Di Dj Dk Dl Dm Dn Dp Dq Dr Ds Dt Du Dv Dw Dx Dy:Value} (hQ:∀(c:Nat→Int) (B G gE gI:Nat) (w1:World) (u13 u24 u25 u26 u27 u28 u29 u30 u31 u32:Value),u13=.pointer (some ⟨B,0,none⟩)→Nv.Floor c→Gd.Begun w0 w1 B G gE gI seed fl c→Q .normal ⟨#[.int .i64 seed,.int .i64 fl,t2,t3,t4,t5,t6,t7,t8,t9,Aa,Ab,Ac,u13,Ad,Ae,Af,Ag,Ah,Ai,Aj,Ak,Al,Am,u24,u25,u26,u27,u28,u29,u30,u31,u32,Ao,Ap,Aq,Ar,As,Au,Av,Aw,Ax,Ay,Az,AA,AB,AC,AD,AE,AF,AG,AH,AI,AJ,AK,AL,AM,AN,AO,AP,AQ,AR,AS,AT,AU,AV,AW,AX,AY,AZ,A0,A1,A2,A3,A4,A5,A6,A7,A8,A9,Ba,Bb,Bc,Bd,Be,Bf,Bg,Bh,Bi,Bj,Bk,Bl,Bm,Bn,Bo,Bp,Bq,Br,Bs,Bt,Bu,Bv,Bw,Bx,Bz,BA,BB,BC,BD,BE,BF,BG,BH,BI,BJ,BK,BL,BM,BN,BO,BP,BQ,BR,BS,BT,BU,BV,BW,BX,BY,BZ,B0,B1,B2,B3,B4,B5,B6,B7,B8,B9,Ca,Cb,Cc,Cd,Ce,Cf,Cg,Ch,Ci,Cj,Ck,Cl,Cm,Cn,Co,Cp,Cq,Cs,Ct,Cu,Cv,Cw,Cx,Cy,Cz,CA,CB,CC,CD,CE,CF,CG,CH,CI,CJ,CK,CL,CM,CN,CO,CP,CQ,CR,CS,CT,CU,CV,CW,CX,CY,CZ,C0,C1,C2,C3,C4,C5,C6,C7,C8,C9,Da,Db,Dc,Dd,De,Df,Dg,Dh,Di,Dj,Dk,Dl,Dm,Dn,Dp,Dq,Dr,Ds,Dt,Du,Dv,Dw,Dx,Dy],[]⟩ w1) :
  wpAny Try.prog .any (cops ((Try.f18.body.map (cdrop 2)).getD .skip)) Q 1 #[true,true,true,true,true,true,true,true,true,true,false] ⟨#[.int .i64 seed,.int .i64 fl,t2,t3,t4,t5,t6,t7,t8,t9,Aa,Ab,Ac,.pointer (some ⟨B,0,none⟩),Ad,Ae,Af,Ag,Ah,Ai,Aj,Ak,Al,Am,.int .i64 seed,.int .i64 fl,.int .i64 seed,.int .i64 fl,.agg #[.slice (some ⟨G,0,none⟩) 384 384,.slice aE nE cE,.slice aI nI cI],.slice (some ⟨G,0,none⟩) 384 384,.slice (some ⟨gE,0,none⟩) 32 32,.slice (some ⟨gI,0,none⟩) 40 40,.agg #[.int .i64 seed,.int .i64 0,.int .i64 fl,.int .i64 0,.slice (some ⟨G,0,none⟩) 384 384,.slice (some ⟨gE,0,none⟩) 32 32,.slice (some ⟨gI,0,none⟩) 40 40,.int .i64 0,.int .i64 0,.int .i64 0,.int .i64 0],Ao,Ap,Aq,Ar,As,Au,Av,Aw,Ax,Ay,Az,AA,AB,AC,AD,AE,AF,AG,AH,AI,AJ,AK,AL,AM,AN,AO,AP,AQ,AR,AS,AT,AU,AV,AW,AX,AY,AZ,A0,A1,A2,A3,A4,A5,A6,A7,A8,A9,Ba,Bb,Bc,Bd,Be,Bf,Bg,Bh,Bi,Bj,Bk,Bl,Bm,Bn,Bo,Bp,Bq,Br,Bs,Bt,Bu,Bv,Bw,Bx,Bz,BA,BB,BC,BD,BE,BF,BG,BH,BI,BJ,BK,BL,BM,BN,BO,BP,BQ,BR,BS,BT,BU,BV,BW,BX,BY,BZ,B0,B1,B2,B3,B4,B5,B6,B7,B8,B9,Ca,Cb,Cc,Cd,Ce,Cf,Cg,Ch,Ci,Cj,Ck,Cl,Cm,Cn,Co,Cp,Cq,Cs,Ct,Cu,Cv,Cw,Cx,Cy,Cz,CA,CB,CC,CD,CE,CF,CG,CH,CI,CJ,CK,CL,CM,CN,CO,CP,CQ,CR,CS,CT,CU,CV,CW,CX,CY,CZ,C0,C1,C2,C3,C4,C5,C6,C7,C8,C9,Da,Db,Dc,Dd,De,Df,Dg,Dh,Di,Dj,Dk,Dl,Dm,Dn,Dp,Dq,Dr,Ds,Dt,Du,Dv,Dw,Dx,Dy],[]⟩ w:=by
 conv=>arg 3;whnf
 obtain ⟨y0,y1,y2,y3,y4,y5,y6,y7,y8,y9,y10⟩:=Gd.res_cells hB
 have fB:=hB.free
 have fin:=hide (hQ c B G gE gI)
 have hbx:=hide (Gd.box_set (seed:=seed) (fl:=fl) (G:=G) (gE:=gE) (gI:=gI) hB)
 have n1:=hB.type_ne hA (by decide)
 have n2:=hB.type_ne hE (by decide)
 have n3:=hB.type_ne hI (by decide)
 have n4:=hA.type_ne hE (by decide)
 have n5:=hA.type_ne hI (by decide)
 have n6:=hE.type_ne hI (by decide)
 have hdone:Hid (Gd.Begun w0 _ B G gE gI seed fl c):=⟨⟨uh hbx,⟨hA.set11 n1,hE.set11 n2,hI.set11 n3⟩,n1,n2,n3,n4,n5,n6⟩,lB,lG,lE,lI,grown_set11 hg lB⟩
 have hF':=hide hF
 clear hQ hA hE hI hB hg n1 n2 n3 n4 n5 n6 hbx hF
 refine wpAny_ready (rs:=[10]) (by kernel_rfl) (by simp) ?_
 refine AllReady.cons rfl (fun K hK=>?_) AllReady.nil
 go_simp
 refine hK _ _ ?_
 clear hK K
 refine wpAny_done (by kernel_rfl) ?_ _
 exact uh fin _ _ _ _ _ _ _ _ _ _ _ rfl (uh hF') (uh hdone)

set_option maxRecDepth 100000 in
set_option maxHeartbeats 6400000 in
theorem lots_MEI (seed fl:Int) (w0 w:World) (hg:w0.grownBy w none) (c:Nat→Int) (G nE nI cE cI:Nat) (aE aI:Option Addr) (hF:Nv.Floor c) (lG:w0.heap.size≤G) (hA:Lie w G 5 384 (Byts c)) (gE:Nat) (lE:w0.heap.size≤gE) (hE:Lie w gE 45 352 (En.flat fun _ _=>0)) (gI:Nat) (lI:w0.heap.size≤gI) (hI:Lie w gI 47 160 (Gd.flat fun _ _=>0)) (Q:Exit→Act→World→Prop) (hQp:∀p d v a x,Q (.panic p) (Act.put a d v) x→Q (.panic p) a x) {t2 t3 t4 t5 t6 t7 t8 t9 Aa Ab Ac Ad Ae Af Ag Ah Ai Aj Ak Al Am Ao Ap Aq Ar As Au Av Aw Ax Ay Az AA AB AC AD AE AF AG AH AI AJ AK AL AM AN AO AP AQ AR AS AT AU AV AW AX AY AZ A0 A1 A2 A3 A4 A5 A6 A7 A8 A9 Ba Bb Bc Bd Be Bf Bg Bh Bi Bj Bk Bl Bm Bn Bo Bp Bq Br Bs Bt Bu Bv Bw Bx Bz BA BB BC BD BE BF BG BH BI BJ BK BL BM BN BO BP BQ BR BS BT BU BV BW BX BY BZ B0 B1 B2 B3 B4 B5 B6 B7 B8 B9 Ca Cb Cc Cd Ce Cf Cg Ch Ci Cj Ck Cl Cm Cn Co Cp Cq Cs Ct Cu Cv Cw Cx Cy Cz CA CB CC CD CE CF CG CH CI CJ CK CL CM CN CO CP CQ CR CS CT CU CV CW CX CY CZ C0 C1 C2 C3 C4 C5 C6 C7 C8 C9 Da Db Dc Dd De Df Dg Dh Di Dj Dk Dl Dm Dn Dp Dq Dr Ds Dt Du Dv Dw Dx Dy Dz:Value} (hQ:∀(c:Nat→Int) (B G gE gI:Nat) (w1:World) (u13 u24 u25 u26 u27 u28 u29 u30 u31 u32:Value),u13=.pointer (some ⟨B,0,none⟩)→Nv.Floor c→Gd.Begun w0 w1 B G gE gI seed fl c→Q .normal ⟨#[.int .i64 seed,.int .i64 fl,t2,t3,t4,t5,t6,t7,t8,t9,Aa,Ab,Ac,u13,Ae,Af,Ag,Ah,Ai,Aj,Ak,Al,Am,Ao,u24,u25,u26,u27,u28,u29,u30,u31,u32,Ap,Aq,Ar,As,Au,Av,Aw,Ax,Ay,Az,AA,AB,AC,AD,AE,AF,AG,AH,AI,AJ,AK,AL,AM,AN,AO,AP,AQ,AR,AS,AT,AU,AV,AW,AX,AY,AZ,A0,A1,A2,A3,A4,A5,A6,A7,A8,A9,Ba,Bb,Bc,Bd,Be,Bf,Bg,Bh,Bi,Bj,Bk,Bl,Bm,Bn,Bo,Bp,Bq,Br,Bs,Bt,Bu,Bv,Bw,Bx,Bz,BA,BB,BC,BD,BE,BF,BG,BH,BI,BJ,BK,BL,BM,BN,BO,BP,BQ,BR,BS,BT,BU,BV,BW,BX,BY,BZ,B0,B1,B2,B3,B4,B5,B6,B7,B8,B9,Ca,Cb,Cc,Cd,Ce,Cf,Cg,Ch,Ci,Cj,Ck,Cl,Cm,Cn,Co,Cp,Cq,Cs,Ct,Cu,Cv,Cw,Cx,Cy,Cz,CA,CB,CC,CD,CE,CF,CG,CH,CI,CJ,CK,CL,CM,CN,CO,CP,CQ,CR,CS,CT,CU,CV,CW,CX,CY,CZ,C0,C1,C2,C3,C4,C5,C6,C7,C8,C9,Da,Db,Dc,Dd,De,Df,Dg,Dh,Di,Dj,Dk,Dl,Dm,Dn,Dp,Dq,Dr,Ds,Dt,Du,Dv,Dw,Dx,Dy,Dz],[]⟩ w1) :
  wpAny Try.prog .any (cops ((Try.f18.body.map (cdrop 2)).getD .skip)) Q 2 #[true,true,true,true,true,true,true,true,true,false,false] ⟨#[.int .i64 seed,.int .i64 fl,t2,t3,t4,t5,t6,t7,t8,t9,Aa,Ab,Ac,Ad,Ae,Af,Ag,Ah,Ai,Aj,Ak,Al,Am,Ao,.int .i64 seed,.int .i64 fl,.int .i64 seed,.int .i64 fl,.agg #[.slice (some ⟨G,0,none⟩) 384 384,.slice aE nE cE,.slice aI nI cI],.slice (some ⟨G,0,none⟩) 384 384,.slice (some ⟨gE,0,none⟩) 32 32,.slice (some ⟨gI,0,none⟩) 40 40,.agg #[.int .i64 seed,.int .i64 0,.int .i64 fl,.int .i64 0,.slice (some ⟨G,0,none⟩) 384 384,.slice (some ⟨gE,0,none⟩) 32 32,.slice (some ⟨gI,0,none⟩) 40 40,.int .i64 0,.int .i64 0,.int .i64 0,.int .i64 0],Ap,Aq,Ar,As,Au,Av,Aw,Ax,Ay,Az,AA,AB,AC,AD,AE,AF,AG,AH,AI,AJ,AK,AL,AM,AN,AO,AP,AQ,AR,AS,AT,AU,AV,AW,AX,AY,AZ,A0,A1,A2,A3,A4,A5,A6,A7,A8,A9,Ba,Bb,Bc,Bd,Be,Bf,Bg,Bh,Bi,Bj,Bk,Bl,Bm,Bn,Bo,Bp,Bq,Br,Bs,Bt,Bu,Bv,Bw,Bx,Bz,BA,BB,BC,BD,BE,BF,BG,BH,BI,BJ,BK,BL,BM,BN,BO,BP,BQ,BR,BS,BT,BU,BV,BW,BX,BY,BZ,B0,B1,B2,B3,B4,B5,B6,B7,B8,B9,Ca,Cb,Cc,Cd,Ce,Cf,Cg,Ch,Ci,Cj,Ck,Cl,Cm,Cn,Co,Cp,Cq,Cs,Ct,Cu,Cv,Cw,Cx,Cy,Cz,CA,CB,CC,CD,CE,CF,CG,CH,CI,CJ,CK,CL,CM,CN,CO,CP,CQ,CR,CS,CT,CU,CV,CW,CX,CY,CZ,C0,C1,C2,C3,C4,C5,C6,C7,C8,C9,Da,Db,Dc,Dd,De,Df,Dg,Dh,Di,Dj,Dk,Dl,Dm,Dn,Dp,Dq,Dr,Ds,Dt,Du,Dv,Dw,Dx,Dy,Dz],[]⟩ w:=by
 conv=>arg 3;whnf
 refine wpAny_ready (rs:=[9]) (by kernel_rfl) (by simp) ?_
 refine AllReady.cons rfl (fun K hK=>?_) ?_
 ·go_simp
  refine hK _ _ ?_
  clear hK K
  exact lots_MEIB seed fl w0 _ (gal hg _) c G nE nI cE cI aE aI hF lG (hA.on (World.grownBy_alloc _ _ _)) gE lE (hE.on (World.grownBy_alloc _ _ _)) gI lI (hI.on (World.grownBy_alloc _ _ _)) w.heap.size hg.size (Arr.lit (heap_alloc_new w _)).lie Q hQp hQ
 exact AllReady.nil

set_option maxRecDepth 100000 in
set_option maxHeartbeats 6400000 in
theorem lots_MEB (seed fl:Int) (w0 w:World) (hg:w0.grownBy w none) (c:Nat→Int) (G nE nI cE cI:Nat) (aE aI:Option Addr) (hF:Nv.Floor c) (lG:w0.heap.size≤G) (hA:Lie w G 5 384 (Byts c)) (gE:Nat) (lE:w0.heap.size≤gE) (hE:Lie w gE 45 352 (En.flat fun _ _=>0)) (B:Nat) (lB:w0.heap.size≤B) (hB:Lie w B 29 11 (fun j=>#[.int .i64 0,.int .i64 0,.int .i64 0,.int .i64 0,.slice none 0 0,.slice none 0 0,.slice none 0 0,.int .i64 0,.int .i64 0,.int .i64 0,Value.int .i64 0][j]?.getD undef)) (Q:Exit→Act→World→Prop) (hQp:∀p d v a x,Q (.panic p) (Act.put a d v) x→Q (.panic p) a x) {t2 t3 t4 t5 t6 t7 t8 t9 Aa Ab Ac Ad Ae Af Ag Ah Ai Aj Ak Al Am Ao Ap Aq Ar As Au Av Aw Ax Ay Az AA AB AC AD AE AF AG AH AI AJ AK AL AM AN AO AP AQ AR AS AT AU AV AW AX AY AZ A0 A1 A2 A3 A4 A5 A6 A7 A8 A9 Ba Bb Bc Bd Be Bf Bg Bh Bi Bj Bk Bl Bm Bn Bo Bp Bq Br Bs Bt Bu Bv Bw Bx Bz BA BB BC BD BE BF BG BH BI BJ BK BL BM BN BO BP BQ BR BS BT BU BV BW BX BY BZ B0 B1 B2 B3 B4 B5 B6 B7 B8 B9 Ca Cb Cc Cd Ce Cf Cg Ch Ci Cj Ck Cl Cm Cn Co Cp Cq Cs Ct Cu Cv Cw Cx Cy Cz CA CB CC CD CE CF CG CH CI CJ CK CL CM CN CO CP CQ CR CS CT CU CV CW CX CY CZ C0 C1 C2 C3 C4 C5 C6 C7 C8 C9 Da Db Dc Dd De Df Dg Dh Di Dj Dk Dl Dm Dn Dp Dq Dr Ds Dt Du Dv Dw Dx Dy Dz DA:Value} (hQ:∀(c:Nat→Int) (B G gE gI:Nat) (w1:World) (u13 u24 u25 u26 u27 u28 u29 u30 u31 u32:Value),u13=.pointer (some ⟨B,0,none⟩)→Nv.Floor c→Gd.Begun w0 w1 B G gE gI seed fl c→Q .normal ⟨#[.int .i64 seed,.int .i64 fl,t2,t3,t4,t5,t6,t7,t8,t9,Aa,Ab,Ac,u13,Ad,Ae,Af,Ag,Ah,Ai,Aj,Ak,Al,Am,u24,u25,u26,u27,u28,u29,u30,u31,u32,Aq,Ar,As,Au,Av,Aw,Ax,Ay,Az,AA,AB,AC,AD,AE,AF,AG,AH,AI,AJ,AK,AL,AM,AN,AO,AP,AQ,AR,AS,AT,AU,AV,AW,AX,AY,AZ,A0,A1,A2,A3,A4,A5,A6,A7,A8,A9,Ba,Bb,Bc,Bd,Be,Bf,Bg,Bh,Bi,Bj,Bk,Bl,Bm,Bn,Bo,Bp,Bq,Br,Bs,Bt,Bu,Bv,Bw,Bx,Bz,BA,BB,BC,BD,BE,BF,BG,BH,BI,BJ,BK,BL,BM,BN,BO,BP,BQ,BR,BS,BT,BU,BV,BW,BX,BY,BZ,B0,B1,B2,B3,B4,B5,B6,B7,B8,B9,Ca,Cb,Cc,Cd,Ce,Cf,Cg,Ch,Ci,Cj,Ck,Cl,Cm,Cn,Co,Cp,Cq,Cs,Ct,Cu,Cv,Cw,Cx,Cy,Cz,CA,CB,CC,CD,CE,CF,CG,CH,CI,CJ,CK,CL,CM,CN,CO,CP,CQ,CR,CS,CT,CU,CV,CW,CX,CY,CZ,C0,C1,C2,C3,C4,C5,C6,C7,C8,C9,Da,Db,Dc,Dd,De,Df,Dg,Dh,Di,Dj,Dk,Dl,Dm,Dn,Dp,Dq,Dr,Ds,Dt,Du,Dv,Dw,Dx,Dy,Dz,DA],[]⟩ w1) :
  wpAny Try.prog .any (cops ((Try.f18.body.map (cdrop 2)).getD .skip)) Q 3 #[true,true,true,true,true,true,true,false,false,true,false] ⟨#[.int .i64 seed,.int .i64 fl,t2,t3,t4,t5,t6,t7,t8,t9,Aa,Ab,Ac,.pointer (some ⟨B,0,none⟩),Ad,Ae,Af,Ag,Ah,Ai,Aj,Ak,Al,Am,.int .i64 seed,.int .i64 fl,.int .i64 seed,.int .i64 fl,.agg #[.slice (some ⟨G,0,none⟩) 384 384,.slice aE nE cE,.slice aI nI cI],.slice (some ⟨G,0,none⟩) 384 384,.slice (some ⟨gE,0,none⟩) 32 32,Ao,Ap,Aq,Ar,As,Au,Av,Aw,Ax,Ay,Az,AA,AB,AC,AD,AE,AF,AG,AH,AI,AJ,AK,AL,AM,AN,AO,AP,AQ,AR,AS,AT,AU,AV,AW,AX,AY,AZ,A0,A1,A2,A3,A4,A5,A6,A7,A8,A9,Ba,Bb,Bc,Bd,Be,Bf,Bg,Bh,Bi,Bj,Bk,Bl,Bm,Bn,Bo,Bp,Bq,Br,Bs,Bt,Bu,Bv,Bw,Bx,Bz,BA,BB,BC,BD,BE,BF,BG,BH,BI,BJ,BK,BL,BM,BN,BO,BP,BQ,BR,BS,BT,BU,BV,BW,BX,BY,BZ,B0,B1,B2,B3,B4,B5,B6,B7,B8,B9,Ca,Cb,Cc,Cd,Ce,Cf,Cg,Ch,Ci,Cj,Ck,Cl,Cm,Cn,Co,Cp,Cq,Cs,Ct,Cu,Cv,Cw,Cx,Cy,Cz,CA,CB,CC,CD,CE,CF,CG,CH,CI,CJ,CK,CL,CM,CN,CO,CP,CQ,CR,CS,CT,CU,CV,CW,CX,CY,CZ,C0,C1,C2,C3,C4,C5,C6,C7,C8,C9,Da,Db,Dc,Dd,De,Df,Dg,Dh,Di,Dj,Dk,Dl,Dm,Dn,Dp,Dq,Dr,Ds,Dt,Du,Dv,Dw,Dx,Dy,Dz,DA],[]⟩ w:=by
 conv=>arg 3;whnf
 obtain ⟨ZI,hmI,hZI⟩:=make40
 have hZI':=hide hZI
 clear hZI
 refine wpAny_ready (rs:=[7]) (by kernel_rfl) (by simp) ?_
 refine AllReady.cons rfl (fun K hK=>?_) ?_
 ·go_simp
  refine hK _ _ ?_
  clear hK K
  refine wpAny_take (i:=8) (v:=?_) rfl (by kernel_rfl) (by kernel_rfl) (by kernel_rfl) (fun _ _ _ h=>hQp _ _ _ _ _ h) (Or.inl ⟨by rfl,?_⟩) ?_
  rotate_left
  ·intro w
   go_simp
   with_reducible rfl
  exact lots_MEIB seed fl w0 _ (gal hg _) c G nE nI cE cI aE aI hF lG (hA.on (World.grownBy_alloc _ _ _)) gE lE (hE.on (World.grownBy_alloc _ _ _)) w.heap.size hg.size (uh hZI' w) B lB (hB.on (World.grownBy_alloc _ _ _)) Q hQp hQ
 exact AllReady.nil

set_option maxRecDepth 100000 in
set_option maxHeartbeats 6400000 in
theorem lots_MIB (seed fl:Int) (w0 w:World) (hg:w0.grownBy w none) (c:Nat→Int) (G nE nI cE cI:Nat) (aE aI:Option Addr) (hF:Nv.Floor c) (lG:w0.heap.size≤G) (hA:Lie w G 5 384 (Byts c)) (gI:Nat) (lI:w0.heap.size≤gI) (hI:Lie w gI 47 160 (Gd.flat fun _ _=>0)) (B:Nat) (lB:w0.heap.size≤B) (hB:Lie w B 29 11 (fun j=>#[.int .i64 0,.int .i64 0,.int .i64 0,.int .i64 0,.slice none 0 0,.slice none 0 0,.slice none 0 0,.int .i64 0,.int .i64 0,.int .i64 0,Value.int .i64 0][j]?.getD undef)) (Q:Exit→Act→World→Prop) (hQp:∀p d v a x,Q (.panic p) (Act.put a d v) x→Q (.panic p) a x) {t2 t3 t4 t5 t6 t7 t8 t9 Aa Ab Ac Ad Ae Af Ag Ah Ai Aj Ak Al Am Ao Ap Aq Ar As Au Av Aw Ax Ay Az AA AB AC AD AE AF AG AH AI AJ AK AL AM AN AO AP AQ AR AS AT AU AV AW AX AY AZ A0 A1 A2 A3 A4 A5 A6 A7 A8 A9 Ba Bb Bc Bd Be Bf Bg Bh Bi Bj Bk Bl Bm Bn Bo Bp Bq Br Bs Bt Bu Bv Bw Bx Bz BA BB BC BD BE BF BG BH BI BJ BK BL BM BN BO BP BQ BR BS BT BU BV BW BX BY BZ B0 B1 B2 B3 B4 B5 B6 B7 B8 B9 Ca Cb Cc Cd Ce Cf Cg Ch Ci Cj Ck Cl Cm Cn Co Cp Cq Cs Ct Cu Cv Cw Cx Cy Cz CA CB CC CD CE CF CG CH CI CJ CK CL CM CN CO CP CQ CR CS CT CU CV CW CX CY CZ C0 C1 C2 C3 C4 C5 C6 C7 C8 C9 Da Db Dc Dd De Df Dg Dh Di Dj Dk Dl Dm Dn Dp Dq Dr Ds Dt Du Dv Dw Dx Dy Dz DA:Value} (hQ:∀(c:Nat→Int) (B G gE gI:Nat) (w1:World) (u13 u24 u25 u26 u27 u28 u29 u30 u31 u32:Value),u13=.pointer (some ⟨B,0,none⟩)→Nv.Floor c→Gd.Begun w0 w1 B G gE gI seed fl c→Q .normal ⟨#[.int .i64 seed,.int .i64 fl,t2,t3,t4,t5,t6,t7,t8,t9,Aa,Ab,Ac,u13,Ad,Ae,Af,Ag,Ah,Ai,Aj,Ak,Al,Am,u24,u25,u26,u27,u28,u29,u30,u31,u32,Aq,Ar,As,Au,Av,Aw,Ax,Ay,Az,AA,AB,AC,AD,AE,AF,AG,AH,AI,AJ,AK,AL,AM,AN,AO,AP,AQ,AR,AS,AT,AU,AV,AW,AX,AY,AZ,A0,A1,A2,A3,A4,A5,A6,A7,A8,A9,Ba,Bb,Bc,Bd,Be,Bf,Bg,Bh,Bi,Bj,Bk,Bl,Bm,Bn,Bo,Bp,Bq,Br,Bs,Bt,Bu,Bv,Bw,Bx,Bz,BA,BB,BC,BD,BE,BF,BG,BH,BI,BJ,BK,BL,BM,BN,BO,BP,BQ,BR,BS,BT,BU,BV,BW,BX,BY,BZ,B0,B1,B2,B3,B4,B5,B6,B7,B8,B9,Ca,Cb,Cc,Cd,Ce,Cf,Cg,Ch,Ci,Cj,Ck,Cl,Cm,Cn,Co,Cp,Cq,Cs,Ct,Cu,Cv,Cw,Cx,Cy,Cz,CA,CB,CC,CD,CE,CF,CG,CH,CI,CJ,CK,CL,CM,CN,CO,CP,CQ,CR,CS,CT,CU,CV,CW,CX,CY,CZ,C0,C1,C2,C3,C4,C5,C6,C7,C8,C9,Da,Db,Dc,Dd,De,Df,Dg,Dh,Di,Dj,Dk,Dl,Dm,Dn,Dp,Dq,Dr,Ds,Dt,Du,Dv,Dw,Dx,Dy,Dz,DA],[]⟩ w1) :
  wpAny Try.prog .any (cops ((Try.f18.body.map (cdrop 2)).getD .skip)) Q 3 #[true,true,true,true,true,true,false,true,false,true,false] ⟨#[.int .i64 seed,.int .i64 fl,t2,t3,t4,t5,t6,t7,t8,t9,Aa,Ab,Ac,.pointer (some ⟨B,0,none⟩),Ad,Ae,Af,Ag,Ah,Ai,Aj,Ak,Al,Am,.int .i64 seed,.int .i64 fl,.int .i64 seed,.int .i64 fl,.agg #[.slice (some ⟨G,0,none⟩) 384 384,.slice aE nE cE,.slice aI nI cI],.slice (some ⟨G,0,none⟩) 384 384,Ao,.slice (some ⟨gI,0,none⟩) 40 40,Ap,Aq,Ar,As,Au,Av,Aw,Ax,Ay,Az,AA,AB,AC,AD,AE,AF,AG,AH,AI,AJ,AK,AL,AM,AN,AO,AP,AQ,AR,AS,AT,AU,AV,AW,AX,AY,AZ,A0,A1,A2,A3,A4,A5,A6,A7,A8,A9,Ba,Bb,Bc,Bd,Be,Bf,Bg,Bh,Bi,Bj,Bk,Bl,Bm,Bn,Bo,Bp,Bq,Br,Bs,Bt,Bu,Bv,Bw,Bx,Bz,BA,BB,BC,BD,BE,BF,BG,BH,BI,BJ,BK,BL,BM,BN,BO,BP,BQ,BR,BS,BT,BU,BV,BW,BX,BY,BZ,B0,B1,B2,B3,B4,B5,B6,B7,B8,B9,Ca,Cb,Cc,Cd,Ce,Cf,Cg,Ch,Ci,Cj,Ck,Cl,Cm,Cn,Co,Cp,Cq,Cs,Ct,Cu,Cv,Cw,Cx,Cy,Cz,CA,CB,CC,CD,CE,CF,CG,CH,CI,CJ,CK,CL,CM,CN,CO,CP,CQ,CR,CS,CT,CU,CV,CW,CX,CY,CZ,C0,C1,C2,C3,C4,C5,C6,C7,C8,C9,Da,Db,Dc,Dd,De,Df,Dg,Dh,Di,Dj,Dk,Dl,Dm,Dn,Dp,Dq,Dr,Ds,Dt,Du,Dv,Dw,Dx,Dy,Dz,DA],[]⟩ w:=by
 conv=>arg 3;whnf
 obtain ⟨ZE,hmE,hZE⟩:=make32
 have hZE':=hide hZE
 clear hZE
 refine wpAny_ready (rs:=[6]) (by kernel_rfl) (by simp) ?_
 refine AllReady.cons rfl (fun K hK=>?_) ?_
 ·go_simp
  refine hK _ _ ?_
  clear hK K
  refine wpAny_take (i:=8) (v:=?_) rfl (by kernel_rfl) (by kernel_rfl) (by kernel_rfl) (fun _ _ _ h=>hQp _ _ _ _ _ h) (Or.inl ⟨by rfl,?_⟩) ?_
  rotate_left
  ·intro w
   go_simp
   with_reducible rfl
  exact lots_MEIB seed fl w0 _ (gal hg _) c G nE nI cE cI aE aI hF lG (hA.on (World.grownBy_alloc _ _ _)) w.heap.size hg.size ((uh hZE' w).lie (m:=352) (by omega)) gI lI (hI.on (World.grownBy_alloc _ _ _)) B lB (hB.on (World.grownBy_alloc _ _ _)) Q hQp hQ
 exact AllReady.nil

set_option maxRecDepth 100000 in
set_option maxHeartbeats 6400000 in
theorem lots_EIB (seed fl:Int) (h1:1≤fl) (h3:fl≤3) (w0 w:World) (hg:w0.grownBy w none) (gE:Nat) (lE:w0.heap.size≤gE) (hE:Lie w gE 45 352 (En.flat fun _ _=>0)) (gI:Nat) (lI:w0.heap.size≤gI) (hI:Lie w gI 47 160 (Gd.flat fun _ _=>0)) (B:Nat) (lB:w0.heap.size≤B) (hB:Lie w B 29 11 (fun j=>#[.int .i64 0,.int .i64 0,.int .i64 0,.int .i64 0,.slice none 0 0,.slice none 0 0,.slice none 0 0,.int .i64 0,.int .i64 0,.int .i64 0,Value.int .i64 0][j]?.getD undef)) (Q:Exit→Act→World→Prop) (hQp:∀p d v a x,Q (.panic p) (Act.put a d v) x→Q (.panic p) a x) {t2 t3 t4 t5 t6 t7 t8 t9 Aa Ab Ac Ad Ae Af Ag Ah Ai Aj Ak Al Am Ao Ap Aq Ar As Au Av Aw Ax Ay Az AA AB AC AD AE AF AG AH AI AJ AK AL AM AN AO AP AQ AR AS AT AU AV AW AX AY AZ A0 A1 A2 A3 A4 A5 A6 A7 A8 A9 Ba Bb Bc Bd Be Bf Bg Bh Bi Bj Bk Bl Bm Bn Bo Bp Bq Br Bs Bt Bu Bv Bw Bx Bz BA BB BC BD BE BF BG BH BI BJ BK BL BM BN BO BP BQ BR BS BT BU BV BW BX BY BZ B0 B1 B2 B3 B4 B5 B6 B7 B8 B9 Ca Cb Cc Cd Ce Cf Cg Ch Ci Cj Ck Cl Cm Cn Co Cp Cq Cs Ct Cu Cv Cw Cx Cy Cz CA CB CC CD CE CF CG CH CI CJ CK CL CM CN CO CP CQ CR CS CT CU CV CW CX CY CZ C0 C1 C2 C3 C4 C5 C6 C7 C8 C9 Da Db Dc Dd De Df Dg Dh Di Dj Dk Dl Dm Dn Dp Dq Dr Ds Dt Du Dv Dw Dx Dy Dz DA DB:Value} (hQ:∀(c:Nat→Int) (B G gE gI:Nat) (w1:World) (u13 u24 u25 u26 u27 u28 u29 u30 u31 u32:Value),u13=.pointer (some ⟨B,0,none⟩)→Nv.Floor c→Gd.Begun w0 w1 B G gE gI seed fl c→Q .normal ⟨#[.int .i64 seed,.int .i64 fl,t2,t3,t4,t5,t6,t7,t8,t9,Aa,Ab,Ac,u13,Ad,Ae,Af,Ag,Ah,Ai,Aj,Ak,Al,Am,u24,u25,u26,u27,u28,u29,u30,u31,u32,Ar,As,Au,Av,Aw,Ax,Ay,Az,AA,AB,AC,AD,AE,AF,AG,AH,AI,AJ,AK,AL,AM,AN,AO,AP,AQ,AR,AS,AT,AU,AV,AW,AX,AY,AZ,A0,A1,A2,A3,A4,A5,A6,A7,A8,A9,Ba,Bb,Bc,Bd,Be,Bf,Bg,Bh,Bi,Bj,Bk,Bl,Bm,Bn,Bo,Bp,Bq,Br,Bs,Bt,Bu,Bv,Bw,Bx,Bz,BA,BB,BC,BD,BE,BF,BG,BH,BI,BJ,BK,BL,BM,BN,BO,BP,BQ,BR,BS,BT,BU,BV,BW,BX,BY,BZ,B0,B1,B2,B3,B4,B5,B6,B7,B8,B9,Ca,Cb,Cc,Cd,Ce,Cf,Cg,Ch,Ci,Cj,Ck,Cl,Cm,Cn,Co,Cp,Cq,Cs,Ct,Cu,Cv,Cw,Cx,Cy,Cz,CA,CB,CC,CD,CE,CF,CG,CH,CI,CJ,CK,CL,CM,CN,CO,CP,CQ,CR,CS,CT,CU,CV,CW,CX,CY,CZ,C0,C1,C2,C3,C4,C5,C6,C7,C8,C9,Da,Db,Dc,Dd,De,Df,Dg,Dh,Di,Dj,Dk,Dl,Dm,Dn,Dp,Dq,Dr,Ds,Dt,Du,Dv,Dw,Dx,Dy,Dz,DA,DB],[]⟩ w1) :
  wpAny Try.prog .any (cops ((Try.f18.body.map (cdrop 2)).getD .skip)) Q 4 #[true,true,true,true,false,false,true,true,false,true,false] ⟨#[.int .i64 seed,.int .i64 fl,t2,t3,t4,t5,t6,t7,t8,t9,Aa,Ab,Ac,.pointer (some ⟨B,0,none⟩),Ad,Ae,Af,Ag,Ah,Ai,Aj,Ak,Al,Am,.int .i64 seed,.int .i64 fl,.int .i64 seed,.int .i64 fl,Ao,Ap,.slice (some ⟨gE,0,none⟩) 32 32,.slice (some ⟨gI,0,none⟩) 40 40,Aq,Ar,As,Au,Av,Aw,Ax,Ay,Az,AA,AB,AC,AD,AE,AF,AG,AH,AI,AJ,AK,AL,AM,AN,AO,AP,AQ,AR,AS,AT,AU,AV,AW,AX,AY,AZ,A0,A1,A2,A3,A4,A5,A6,A7,A8,A9,Ba,Bb,Bc,Bd,Be,Bf,Bg,Bh,Bi,Bj,Bk,Bl,Bm,Bn,Bo,Bp,Bq,Br,Bs,Bt,Bu,Bv,Bw,Bx,Bz,BA,BB,BC,BD,BE,BF,BG,BH,BI,BJ,BK,BL,BM,BN,BO,BP,BQ,BR,BS,BT,BU,BV,BW,BX,BY,BZ,B0,B1,B2,B3,B4,B5,B6,B7,B8,B9,Ca,Cb,Cc,Cd,Ce,Cf,Cg,Ch,Ci,Cj,Ck,Cl,Cm,Cn,Co,Cp,Cq,Cs,Ct,Cu,Cv,Cw,Cx,Cy,Cz,CA,CB,CC,CD,CE,CF,CG,CH,CI,CJ,CK,CL,CM,CN,CO,CP,CQ,CR,CS,CT,CU,CV,CW,CX,CY,CZ,C0,C1,C2,C3,C4,C5,C6,C7,C8,C9,Da,Db,Dc,Dd,De,Df,Dg,Dh,Di,Dj,Dk,Dl,Dm,Dn,Dp,Dq,Dr,Ds,Dt,Du,Dv,Dw,Dx,Dy,Dz,DA,DB],[]⟩ w:=by
 conv=>arg 3;whnf
 have cm:Hid (∀x,Calls Try.prog 35 #[.int .i64 seed,.int .i64 fl] x fun e w'=>∃(c:Nat→Int) (G nE nI cE cI:Nat) (aE aI:Option Addr),e=.returned (.agg #[.slice (some ⟨G,0,none⟩) 384 384,.slice aE nE cE,.slice aI nI cI])∧Hid (Nv.Floor c)∧Hid (x.heap.size≤G)∧Hid (Arr w' G 5 384 (Byts c))∧Hid (x.grownBy w' none)):=fun x=>navMake_any seed fl h1 h3 x
 have hfc:=fun (aE aI:Option Addr) (G nE nI cE cI:Nat) wq=>field_cells7 (some ⟨G,0,none⟩) aE aI 384 nE nI 384 cE cI wq
 refine wpAny_ready (rs:=[4]) (by kernel_rfl) (by simp) ?_
 refine AllReady.cons rfl (fun K hK=>?_) ?_
 ·go_simp
  go_wp2_with ((go_at_call 35;refine (uh cm _).mono ?_;rintro e w1 ⟨c,G,nE,nI,cE,cI,aE,aI,rfl,hF,hG,hA,hgm⟩))
  refine wpAny_take (i:=5) (v:=?_) rfl (by kernel_rfl) (by kernel_rfl) (by kernel_rfl) (fun _ _ _ h=>hQp _ _ _ _ _ h) (Or.inl ⟨by rfl,?_⟩) ?_
  rotate_left
  ·intro w
   go_simp
   with_reducible rfl
  refine wpAny_take (i:=8) (v:=?_) rfl (by kernel_rfl) (by kernel_rfl) (by kernel_rfl) (fun _ _ _ h=>hQp _ _ _ _ _ h) (Or.inl ⟨by rfl,?_⟩) ?_
  rotate_left
  ·intro w
   go_simp
   with_reducible rfl
  exact lots_MEIB seed fl w0 w1 (gtr hg (uh hgm)) c G nE nI cE cI aE aI (uh hF) (Nat.le_trans hg.size (uh hG)) (uh hA).lie gE lE (hE.on (uh hgm)) gI lI (hI.on (uh hgm)) B lB (hB.on (uh hgm)) Q hQp hQ
 exact AllReady.nil

set_option maxRecDepth 100000 in
set_option maxHeartbeats 6400000 in
theorem lots_ME (seed fl:Int) (w0 w:World) (hg:w0.grownBy w none) (c:Nat→Int) (G nE nI cE cI:Nat) (aE aI:Option Addr) (hF:Nv.Floor c) (lG:w0.heap.size≤G) (hA:Lie w G 5 384 (Byts c)) (gE:Nat) (lE:w0.heap.size≤gE) (hE:Lie w gE 45 352 (En.flat fun _ _=>0)) (Q:Exit→Act→World→Prop) (hQp:∀p d v a x,Q (.panic p) (Act.put a d v) x→Q (.panic p) a x) {t2 t3 t4 t5 t6 t7 t8 t9 Aa Ab Ac Ad Ae Af Ag Ah Ai Aj Ak Al Am Ao Ap Aq Ar As Au Av Aw Ax Ay Az AA AB AC AD AE AF AG AH AI AJ AK AL AM AN AO AP AQ AR AS AT AU AV AW AX AY AZ A0 A1 A2 A3 A4 A5 A6 A7 A8 A9 Ba Bb Bc Bd Be Bf Bg Bh Bi Bj Bk Bl Bm Bn Bo Bp Bq Br Bs Bt Bu Bv Bw Bx Bz BA BB BC BD BE BF BG BH BI BJ BK BL BM BN BO BP BQ BR BS BT BU BV BW BX BY BZ B0 B1 B2 B3 B4 B5 B6 B7 B8 B9 Ca Cb Cc Cd Ce Cf Cg Ch Ci Cj Ck Cl Cm Cn Co Cp Cq Cs Ct Cu Cv Cw Cx Cy Cz CA CB CC CD CE CF CG CH CI CJ CK CL CM CN CO CP CQ CR CS CT CU CV CW CX CY CZ C0 C1 C2 C3 C4 C5 C6 C7 C8 C9 Da Db Dc Dd De Df Dg Dh Di Dj Dk Dl Dm Dn Dp Dq Dr Ds Dt Du Dv Dw Dx Dy Dz DA DB:Value} (hQ:∀(c:Nat→Int) (B G gE gI:Nat) (w1:World) (u13 u24 u25 u26 u27 u28 u29 u30 u31 u32:Value),u13=.pointer (some ⟨B,0,none⟩)→Nv.Floor c→Gd.Begun w0 w1 B G gE gI seed fl c→Q .normal ⟨#[.int .i64 seed,.int .i64 fl,t2,t3,t4,t5,t6,t7,t8,t9,Aa,Ab,Ac,u13,Ae,Af,Ag,Ah,Ai,Aj,Ak,Al,Am,Ao,u24,u25,u26,u27,u28,u29,u30,u31,u32,Ar,As,Au,Av,Aw,Ax,Ay,Az,AA,AB,AC,AD,AE,AF,AG,AH,AI,AJ,AK,AL,AM,AN,AO,AP,AQ,AR,AS,AT,AU,AV,AW,AX,AY,AZ,A0,A1,A2,A3,A4,A5,A6,A7,A8,A9,Ba,Bb,Bc,Bd,Be,Bf,Bg,Bh,Bi,Bj,Bk,Bl,Bm,Bn,Bo,Bp,Bq,Br,Bs,Bt,Bu,Bv,Bw,Bx,Bz,BA,BB,BC,BD,BE,BF,BG,BH,BI,BJ,BK,BL,BM,BN,BO,BP,BQ,BR,BS,BT,BU,BV,BW,BX,BY,BZ,B0,B1,B2,B3,B4,B5,B6,B7,B8,B9,Ca,Cb,Cc,Cd,Ce,Cf,Cg,Ch,Ci,Cj,Ck,Cl,Cm,Cn,Co,Cp,Cq,Cs,Ct,Cu,Cv,Cw,Cx,Cy,Cz,CA,CB,CC,CD,CE,CF,CG,CH,CI,CJ,CK,CL,CM,CN,CO,CP,CQ,CR,CS,CT,CU,CV,CW,CX,CY,CZ,C0,C1,C2,C3,C4,C5,C6,C7,C8,C9,Da,Db,Dc,Dd,De,Df,Dg,Dh,Di,Dj,Dk,Dl,Dm,Dn,Dp,Dq,Dr,Ds,Dt,Du,Dv,Dw,Dx,Dy,Dz,DA,DB],[]⟩ w1) :
  wpAny Try.prog .any (cops ((Try.f18.body.map (cdrop 2)).getD .skip)) Q 4 #[true,true,true,true,true,true,true,false,false,false,false] ⟨#[.int .i64 seed,.int .i64 fl,t2,t3,t4,t5,t6,t7,t8,t9,Aa,Ab,Ac,Ad,Ae,Af,Ag,Ah,Ai,Aj,Ak,Al,Am,Ao,.int .i64 seed,.int .i64 fl,.int .i64 seed,.int .i64 fl,.agg #[.slice (some ⟨G,0,none⟩) 384 384,.slice aE nE cE,.slice aI nI cI],.slice (some ⟨G,0,none⟩) 384 384,.slice (some ⟨gE,0,none⟩) 32 32,Ap,Aq,Ar,As,Au,Av,Aw,Ax,Ay,Az,AA,AB,AC,AD,AE,AF,AG,AH,AI,AJ,AK,AL,AM,AN,AO,AP,AQ,AR,AS,AT,AU,AV,AW,AX,AY,AZ,A0,A1,A2,A3,A4,A5,A6,A7,A8,A9,Ba,Bb,Bc,Bd,Be,Bf,Bg,Bh,Bi,Bj,Bk,Bl,Bm,Bn,Bo,Bp,Bq,Br,Bs,Bt,Bu,Bv,Bw,Bx,Bz,BA,BB,BC,BD,BE,BF,BG,BH,BI,BJ,BK,BL,BM,BN,BO,BP,BQ,BR,BS,BT,BU,BV,BW,BX,BY,BZ,B0,B1,B2,B3,B4,B5,B6,B7,B8,B9,Ca,Cb,Cc,Cd,Ce,Cf,Cg,Ch,Ci,Cj,Ck,Cl,Cm,Cn,Co,Cp,Cq,Cs,Ct,Cu,Cv,Cw,Cx,Cy,Cz,CA,CB,CC,CD,CE,CF,CG,CH,CI,CJ,CK,CL,CM,CN,CO,CP,CQ,CR,CS,CT,CU,CV,CW,CX,CY,CZ,C0,C1,C2,C3,C4,C5,C6,C7,C8,C9,Da,Db,Dc,Dd,De,Df,Dg,Dh,Di,Dj,Dk,Dl,Dm,Dn,Dp,Dq,Dr,Ds,Dt,Du,Dv,Dw,Dx,Dy,Dz,DA,DB],[]⟩ w:=by
 conv=>arg 3;whnf
 obtain ⟨ZI,hmI,hZI⟩:=make40
 have hZI':=hide hZI
 clear hZI
 refine wpAny_ready (rs:=[7,9]) (by kernel_rfl) (by simp) ?_
 refine AllReady.cons rfl (fun K hK=>?_) ?_
 ·go_simp
  refine hK _ _ ?_
  clear hK K
  refine wpAny_take (i:=8) (v:=?_) rfl (by kernel_rfl) (by kernel_rfl) (by kernel_rfl) (fun _ _ _ h=>hQp _ _ _ _ _ h) (Or.inl ⟨by rfl,?_⟩) ?_
  rotate_left
  ·intro w
   go_simp
   with_reducible rfl
  exact lots_MEI seed fl w0 _ (gal hg _) c G nE nI cE cI aE aI hF lG (hA.on (World.grownBy_alloc _ _ _)) gE lE (hE.on (World.grownBy_alloc _ _ _)) w.heap.size hg.size (uh hZI' w) Q hQp hQ
 refine AllReady.cons rfl (fun K hK=>?_) ?_
 ·go_simp
  refine hK _ _ ?_
  clear hK K
  exact lots_MEB seed fl w0 _ (gal hg _) c G nE nI cE cI aE aI hF lG (hA.on (World.grownBy_alloc _ _ _)) gE lE (hE.on (World.grownBy_alloc _ _ _)) w.heap.size hg.size (Arr.lit (heap_alloc_new w _)).lie Q hQp hQ
 exact AllReady.nil

set_option maxRecDepth 100000 in
set_option maxHeartbeats 6400000 in
theorem lots_MI (seed fl:Int) (w0 w:World) (hg:w0.grownBy w none) (c:Nat→Int) (G nE nI cE cI:Nat) (aE aI:Option Addr) (hF:Nv.Floor c) (lG:w0.heap.size≤G) (hA:Lie w G 5 384 (Byts c)) (gI:Nat) (lI:w0.heap.size≤gI) (hI:Lie w gI 47 160 (Gd.flat fun _ _=>0)) (Q:Exit→Act→World→Prop) (hQp:∀p d v a x,Q (.panic p) (Act.put a d v) x→Q (.panic p) a x) {t2 t3 t4 t5 t6 t7 t8 t9 Aa Ab Ac Ad Ae Af Ag Ah Ai Aj Ak Al Am Ao Ap Aq Ar As Au Av Aw Ax Ay Az AA AB AC AD AE AF AG AH AI AJ AK AL AM AN AO AP AQ AR AS AT AU AV AW AX AY AZ A0 A1 A2 A3 A4 A5 A6 A7 A8 A9 Ba Bb Bc Bd Be Bf Bg Bh Bi Bj Bk Bl Bm Bn Bo Bp Bq Br Bs Bt Bu Bv Bw Bx Bz BA BB BC BD BE BF BG BH BI BJ BK BL BM BN BO BP BQ BR BS BT BU BV BW BX BY BZ B0 B1 B2 B3 B4 B5 B6 B7 B8 B9 Ca Cb Cc Cd Ce Cf Cg Ch Ci Cj Ck Cl Cm Cn Co Cp Cq Cs Ct Cu Cv Cw Cx Cy Cz CA CB CC CD CE CF CG CH CI CJ CK CL CM CN CO CP CQ CR CS CT CU CV CW CX CY CZ C0 C1 C2 C3 C4 C5 C6 C7 C8 C9 Da Db Dc Dd De Df Dg Dh Di Dj Dk Dl Dm Dn Dp Dq Dr Ds Dt Du Dv Dw Dx Dy Dz DA DB:Value} (hQ:∀(c:Nat→Int) (B G gE gI:Nat) (w1:World) (u13 u24 u25 u26 u27 u28 u29 u30 u31 u32:Value),u13=.pointer (some ⟨B,0,none⟩)→Nv.Floor c→Gd.Begun w0 w1 B G gE gI seed fl c→Q .normal ⟨#[.int .i64 seed,.int .i64 fl,t2,t3,t4,t5,t6,t7,t8,t9,Aa,Ab,Ac,u13,Ae,Af,Ag,Ah,Ai,Aj,Ak,Al,Am,Ao,u24,u25,u26,u27,u28,u29,u30,u31,u32,Ar,As,Au,Av,Aw,Ax,Ay,Az,AA,AB,AC,AD,AE,AF,AG,AH,AI,AJ,AK,AL,AM,AN,AO,AP,AQ,AR,AS,AT,AU,AV,AW,AX,AY,AZ,A0,A1,A2,A3,A4,A5,A6,A7,A8,A9,Ba,Bb,Bc,Bd,Be,Bf,Bg,Bh,Bi,Bj,Bk,Bl,Bm,Bn,Bo,Bp,Bq,Br,Bs,Bt,Bu,Bv,Bw,Bx,Bz,BA,BB,BC,BD,BE,BF,BG,BH,BI,BJ,BK,BL,BM,BN,BO,BP,BQ,BR,BS,BT,BU,BV,BW,BX,BY,BZ,B0,B1,B2,B3,B4,B5,B6,B7,B8,B9,Ca,Cb,Cc,Cd,Ce,Cf,Cg,Ch,Ci,Cj,Ck,Cl,Cm,Cn,Co,Cp,Cq,Cs,Ct,Cu,Cv,Cw,Cx,Cy,Cz,CA,CB,CC,CD,CE,CF,CG,CH,CI,CJ,CK,CL,CM,CN,CO,CP,CQ,CR,CS,CT,CU,CV,CW,CX,CY,CZ,C0,C1,C2,C3,C4,C5,C6,C7,C8,C9,Da,Db,Dc,Dd,De,Df,Dg,Dh,Di,Dj,Dk,Dl,Dm,Dn,Dp,Dq,Dr,Ds,Dt,Du,Dv,Dw,Dx,Dy,Dz,DA,DB],[]⟩ w1) :
  wpAny Try.prog .any (cops ((Try.f18.body.map (cdrop 2)).getD .skip)) Q 4 #[true,true,true,true,true,true,false,true,false,false,false] ⟨#[.int .i64 seed,.int .i64 fl,t2,t3,t4,t5,t6,t7,t8,t9,Aa,Ab,Ac,Ad,Ae,Af,Ag,Ah,Ai,Aj,Ak,Al,Am,Ao,.int .i64 seed,.int .i64 fl,.int .i64 seed,.int .i64 fl,.agg #[.slice (some ⟨G,0,none⟩) 384 384,.slice aE nE cE,.slice aI nI cI],.slice (some ⟨G,0,none⟩) 384 384,Ap,.slice (some ⟨gI,0,none⟩) 40 40,Aq,Ar,As,Au,Av,Aw,Ax,Ay,Az,AA,AB,AC,AD,AE,AF,AG,AH,AI,AJ,AK,AL,AM,AN,AO,AP,AQ,AR,AS,AT,AU,AV,AW,AX,AY,AZ,A0,A1,A2,A3,A4,A5,A6,A7,A8,A9,Ba,Bb,Bc,Bd,Be,Bf,Bg,Bh,Bi,Bj,Bk,Bl,Bm,Bn,Bo,Bp,Bq,Br,Bs,Bt,Bu,Bv,Bw,Bx,Bz,BA,BB,BC,BD,BE,BF,BG,BH,BI,BJ,BK,BL,BM,BN,BO,BP,BQ,BR,BS,BT,BU,BV,BW,BX,BY,BZ,B0,B1,B2,B3,B4,B5,B6,B7,B8,B9,Ca,Cb,Cc,Cd,Ce,Cf,Cg,Ch,Ci,Cj,Ck,Cl,Cm,Cn,Co,Cp,Cq,Cs,Ct,Cu,Cv,Cw,Cx,Cy,Cz,CA,CB,CC,CD,CE,CF,CG,CH,CI,CJ,CK,CL,CM,CN,CO,CP,CQ,CR,CS,CT,CU,CV,CW,CX,CY,CZ,C0,C1,C2,C3,C4,C5,C6,C7,C8,C9,Da,Db,Dc,Dd,De,Df,Dg,Dh,Di,Dj,Dk,Dl,Dm,Dn,Dp,Dq,Dr,Ds,Dt,Du,Dv,Dw,Dx,Dy,Dz,DA,DB],[]⟩ w:=by
 conv=>arg 3;whnf
 obtain ⟨ZE,hmE,hZE⟩:=make32
 have hZE':=hide hZE
 clear hZE
 refine wpAny_ready (rs:=[6,9]) (by kernel_rfl) (by simp) ?_
 refine AllReady.cons rfl (fun K hK=>?_) ?_
 ·go_simp
  refine hK _ _ ?_
  clear hK K
  refine wpAny_take (i:=8) (v:=?_) rfl (by kernel_rfl) (by kernel_rfl) (by kernel_rfl) (fun _ _ _ h=>hQp _ _ _ _ _ h) (Or.inl ⟨by rfl,?_⟩) ?_
  rotate_left
  ·intro w
   go_simp
   with_reducible rfl
  exact lots_MEI seed fl w0 _ (gal hg _) c G nE nI cE cI aE aI hF lG (hA.on (World.grownBy_alloc _ _ _)) w.heap.size hg.size ((uh hZE' w).lie (m:=352) (by omega)) gI lI (hI.on (World.grownBy_alloc _ _ _)) Q hQp hQ
 refine AllReady.cons rfl (fun K hK=>?_) ?_
 ·go_simp
  refine hK _ _ ?_
  clear hK K
  exact lots_MIB seed fl w0 _ (gal hg _) c G nE nI cE cI aE aI hF lG (hA.on (World.grownBy_alloc _ _ _)) gI lI (hI.on (World.grownBy_alloc _ _ _)) w.heap.size hg.size (Arr.lit (heap_alloc_new w _)).lie Q hQp hQ
 exact AllReady.nil

set_option maxRecDepth 100000 in
set_option maxHeartbeats 6400000 in
theorem lots_MB (seed fl:Int) (w0 w:World) (hg:w0.grownBy w none) (c:Nat→Int) (G nE nI cE cI:Nat) (aE aI:Option Addr) (hF:Nv.Floor c) (lG:w0.heap.size≤G) (hA:Lie w G 5 384 (Byts c)) (B:Nat) (lB:w0.heap.size≤B) (hB:Lie w B 29 11 (fun j=>#[.int .i64 0,.int .i64 0,.int .i64 0,.int .i64 0,.slice none 0 0,.slice none 0 0,.slice none 0 0,.int .i64 0,.int .i64 0,.int .i64 0,Value.int .i64 0][j]?.getD undef)) (Q:Exit→Act→World→Prop) (hQp:∀p d v a x,Q (.panic p) (Act.put a d v) x→Q (.panic p) a x) {t2 t3 t4 t5 t6 t7 t8 t9 Aa Ab Ac Ad Ae Af Ag Ah Ai Aj Ak Al Am Ao Ap Aq Ar As Au Av Aw Ax Ay Az AA AB AC AD AE AF AG AH AI AJ AK AL AM AN AO AP AQ AR AS AT AU AV AW AX AY AZ A0 A1 A2 A3 A4 A5 A6 A7 A8 A9 Ba Bb Bc Bd Be Bf Bg Bh Bi Bj Bk Bl Bm Bn Bo Bp Bq Br Bs Bt Bu Bv Bw Bx Bz BA BB BC BD BE BF BG BH BI BJ BK BL BM BN BO BP BQ BR BS BT BU BV BW BX BY BZ B0 B1 B2 B3 B4 B5 B6 B7 B8 B9 Ca Cb Cc Cd Ce Cf Cg Ch Ci Cj Ck Cl Cm Cn Co Cp Cq Cs Ct Cu Cv Cw Cx Cy Cz CA CB CC CD CE CF CG CH CI CJ CK CL CM CN CO CP CQ CR CS CT CU CV CW CX CY CZ C0 C1 C2 C3 C4 C5 C6 C7 C8 C9 Da Db Dc Dd De Df Dg Dh Di Dj Dk Dl Dm Dn Dp Dq Dr Ds Dt Du Dv Dw Dx Dy Dz DA DB:Value} (hQ:∀(c:Nat→Int) (B G gE gI:Nat) (w1:World) (u13 u24 u25 u26 u27 u28 u29 u30 u31 u32:Value),u13=.pointer (some ⟨B,0,none⟩)→Nv.Floor c→Gd.Begun w0 w1 B G gE gI seed fl c→Q .normal ⟨#[.int .i64 seed,.int .i64 fl,t2,t3,t4,t5,t6,t7,t8,t9,Aa,Ab,Ac,u13,Ad,Ae,Af,Ag,Ah,Ai,Aj,Ak,Al,Am,u24,u25,u26,u27,u28,u29,u30,u31,u32,Ar,As,Au,Av,Aw,Ax,Ay,Az,AA,AB,AC,AD,AE,AF,AG,AH,AI,AJ,AK,AL,AM,AN,AO,AP,AQ,AR,AS,AT,AU,AV,AW,AX,AY,AZ,A0,A1,A2,A3,A4,A5,A6,A7,A8,A9,Ba,Bb,Bc,Bd,Be,Bf,Bg,Bh,Bi,Bj,Bk,Bl,Bm,Bn,Bo,Bp,Bq,Br,Bs,Bt,Bu,Bv,Bw,Bx,Bz,BA,BB,BC,BD,BE,BF,BG,BH,BI,BJ,BK,BL,BM,BN,BO,BP,BQ,BR,BS,BT,BU,BV,BW,BX,BY,BZ,B0,B1,B2,B3,B4,B5,B6,B7,B8,B9,Ca,Cb,Cc,Cd,Ce,Cf,Cg,Ch,Ci,Cj,Ck,Cl,Cm,Cn,Co,Cp,Cq,Cs,Ct,Cu,Cv,Cw,Cx,Cy,Cz,CA,CB,CC,CD,CE,CF,CG,CH,CI,CJ,CK,CL,CM,CN,CO,CP,CQ,CR,CS,CT,CU,CV,CW,CX,CY,CZ,C0,C1,C2,C3,C4,C5,C6,C7,C8,C9,Da,Db,Dc,Dd,De,Df,Dg,Dh,Di,Dj,Dk,Dl,Dm,Dn,Dp,Dq,Dr,Ds,Dt,Du,Dv,Dw,Dx,Dy,Dz,DA,DB],[]⟩ w1) :
  wpAny Try.prog .any (cops ((Try.f18.body.map (cdrop 2)).getD .skip)) Q 4 #[true,true,true,true,true,true,false,false,false,true,false] ⟨#[.int .i64 seed,.int .i64 fl,t2,t3,t4,t5,t6,t7,t8,t9,Aa,Ab,Ac,.pointer (some ⟨B,0,none⟩),Ad,Ae,Af,Ag,Ah,Ai,Aj,Ak,Al,Am,.int .i64 seed,.int .i64 fl,.int .i64 seed,.int .i64 fl,.agg #[.slice (some ⟨G,0,none⟩) 384 384,.slice aE nE cE,.slice aI nI cI],.slice (some ⟨G,0,none⟩) 384 384,Ao,Ap,Aq,Ar,As,Au,Av,Aw,Ax,Ay,Az,AA,AB,AC,AD,AE,AF,AG,AH,AI,AJ,AK,AL,AM,AN,AO,AP,AQ,AR,AS,AT,AU,AV,AW,AX,AY,AZ,A0,A1,A2,A3,A4,A5,A6,A7,A8,A9,Ba,Bb,Bc,Bd,Be,Bf,Bg,Bh,Bi,Bj,Bk,Bl,Bm,Bn,Bo,Bp,Bq,Br,Bs,Bt,Bu,Bv,Bw,Bx,Bz,BA,BB,BC,BD,BE,BF,BG,BH,BI,BJ,BK,BL,BM,BN,BO,BP,BQ,BR,BS,BT,BU,BV,BW,BX,BY,BZ,B0,B1,B2,B3,B4,B5,B6,B7,B8,B9,Ca,Cb,Cc,Cd,Ce,Cf,Cg,Ch,Ci,Cj,Ck,Cl,Cm,Cn,Co,Cp,Cq,Cs,Ct,Cu,Cv,Cw,Cx,Cy,Cz,CA,CB,CC,CD,CE,CF,CG,CH,CI,CJ,CK,CL,CM,CN,CO,CP,CQ,CR,CS,CT,CU,CV,CW,CX,CY,CZ,C0,C1,C2,C3,C4,C5,C6,C7,C8,C9,Da,Db,Dc,Dd,De,Df,Dg,Dh,Di,Dj,Dk,Dl,Dm,Dn,Dp,Dq,Dr,Ds,Dt,Du,Dv,Dw,Dx,Dy,Dz,DA,DB],[]⟩ w:=by
 conv=>arg 3;whnf
 obtain ⟨ZE,hmE,hZE⟩:=make32
 have hZE':=hide hZE
 clear hZE
 obtain ⟨ZI,hmI,hZI⟩:=make40
 have hZI':=hide hZI
 clear hZI
 refine wpAny_ready (rs:=[6,7]) (by kernel_rfl) (by simp) ?_
 refine AllReady.cons rfl (fun K hK=>?_) ?_
 ·go_simp
  refine hK _ _ ?_
  clear hK K
  exact lots_MEB seed fl w0 _ (gal hg _) c G nE nI cE cI aE aI hF lG (hA.on (World.grownBy_alloc _ _ _)) w.heap.size hg.size ((uh hZE' w).lie (m:=352) (by omega)) B lB (hB.on (World.grownBy_alloc _ _ _)) Q hQp hQ
 refine AllReady.cons rfl (fun K hK=>?_) ?_
 ·go_simp
  refine hK _ _ ?_
  clear hK K
  exact lots_MIB seed fl w0 _ (gal hg _) c G nE nI cE cI aE aI hF lG (hA.on (World.grownBy_alloc _ _ _)) w.heap.size hg.size (uh hZI' w) B lB (hB.on (World.grownBy_alloc _ _ _)) Q hQp hQ
 exact AllReady.nil

set_option maxRecDepth 100000 in
set_option maxHeartbeats 6400000 in
theorem lots_EI (seed fl:Int) (h1:1≤fl) (h3:fl≤3) (w0 w:World) (hg:w0.grownBy w none) (gE:Nat) (lE:w0.heap.size≤gE) (hE:Lie w gE 45 352 (En.flat fun _ _=>0)) (gI:Nat) (lI:w0.heap.size≤gI) (hI:Lie w gI 47 160 (Gd.flat fun _ _=>0)) (Q:Exit→Act→World→Prop) (hQp:∀p d v a x,Q (.panic p) (Act.put a d v) x→Q (.panic p) a x) {t2 t3 t4 t5 t6 t7 t8 t9 Aa Ab Ac Ad Ae Af Ag Ah Ai Aj Ak Al Am Ao Ap Aq Ar As Au Av Aw Ax Ay Az AA AB AC AD AE AF AG AH AI AJ AK AL AM AN AO AP AQ AR AS AT AU AV AW AX AY AZ A0 A1 A2 A3 A4 A5 A6 A7 A8 A9 Ba Bb Bc Bd Be Bf Bg Bh Bi Bj Bk Bl Bm Bn Bo Bp Bq Br Bs Bt Bu Bv Bw Bx Bz BA BB BC BD BE BF BG BH BI BJ BK BL BM BN BO BP BQ BR BS BT BU BV BW BX BY BZ B0 B1 B2 B3 B4 B5 B6 B7 B8 B9 Ca Cb Cc Cd Ce Cf Cg Ch Ci Cj Ck Cl Cm Cn Co Cp Cq Cs Ct Cu Cv Cw Cx Cy Cz CA CB CC CD CE CF CG CH CI CJ CK CL CM CN CO CP CQ CR CS CT CU CV CW CX CY CZ C0 C1 C2 C3 C4 C5 C6 C7 C8 C9 Da Db Dc Dd De Df Dg Dh Di Dj Dk Dl Dm Dn Dp Dq Dr Ds Dt Du Dv Dw Dx Dy Dz DA DB DC:Value} (hQ:∀(c:Nat→Int) (B G gE gI:Nat) (w1:World) (u13 u24 u25 u26 u27 u28 u29 u30 u31 u32:Value),u13=.pointer (some ⟨B,0,none⟩)→Nv.Floor c→Gd.Begun w0 w1 B G gE gI seed fl c→Q .normal ⟨#[.int .i64 seed,.int .i64 fl,t2,t3,t4,t5,t6,t7,t8,t9,Aa,Ab,Ac,u13,Ae,Af,Ag,Ah,Ai,Aj,Ak,Al,Am,Ao,u24,u25,u26,u27,u28,u29,u30,u31,u32,As,Au,Av,Aw,Ax,Ay,Az,AA,AB,AC,AD,AE,AF,AG,AH,AI,AJ,AK,AL,AM,AN,AO,AP,AQ,AR,AS,AT,AU,AV,AW,AX,AY,AZ,A0,A1,A2,A3,A4,A5,A6,A7,A8,A9,Ba,Bb,Bc,Bd,Be,Bf,Bg,Bh,Bi,Bj,Bk,Bl,Bm,Bn,Bo,Bp,Bq,Br,Bs,Bt,Bu,Bv,Bw,Bx,Bz,BA,BB,BC,BD,BE,BF,BG,BH,BI,BJ,BK,BL,BM,BN,BO,BP,BQ,BR,BS,BT,BU,BV,BW,BX,BY,BZ,B0,B1,B2,B3,B4,B5,B6,B7,B8,B9,Ca,Cb,Cc,Cd,Ce,Cf,Cg,Ch,Ci,Cj,Ck,Cl,Cm,Cn,Co,Cp,Cq,Cs,Ct,Cu,Cv,Cw,Cx,Cy,Cz,CA,CB,CC,CD,CE,CF,CG,CH,CI,CJ,CK,CL,CM,CN,CO,CP,CQ,CR,CS,CT,CU,CV,CW,CX,CY,CZ,C0,C1,C2,C3,C4,C5,C6,C7,C8,C9,Da,Db,Dc,Dd,De,Df,Dg,Dh,Di,Dj,Dk,Dl,Dm,Dn,Dp,Dq,Dr,Ds,Dt,Du,Dv,Dw,Dx,Dy,Dz,DA,DB,DC],[]⟩ w1) :
  wpAny Try.prog .any (cops ((Try.f18.body.map (cdrop 2)).getD .skip)) Q 5 #[true,true,true,true,false,false,true,true,false,false,false] ⟨#[.int .i64 seed,.int .i64 fl,t2,t3,t4,t5,t6,t7,t8,t9,Aa,Ab,Ac,Ad,Ae,Af,Ag,Ah,Ai,Aj,Ak,Al,Am,Ao,.int .i64 seed,.int .i64 fl,.int .i64 seed,.int .i64 fl,Ap,Aq,.slice (some ⟨gE,0,none⟩) 32 32,.slice (some ⟨gI,0,none⟩) 40 40,Ar,As,Au,Av,Aw,Ax,Ay,Az,AA,AB,AC,AD,AE,AF,AG,AH,AI,AJ,AK,AL,AM,AN,AO,AP,AQ,AR,AS,AT,AU,AV,AW,AX,AY,AZ,A0,A1,A2,A3,A4,A5,A6,A7,A8,A9,Ba,Bb,Bc,Bd,Be,Bf,Bg,Bh,Bi,Bj,Bk,Bl,Bm,Bn,Bo,Bp,Bq,Br,Bs,Bt,Bu,Bv,Bw,Bx,Bz,BA,BB,BC,BD,BE,BF,BG,BH,BI,BJ,BK,BL,BM,BN,BO,BP,BQ,BR,BS,BT,BU,BV,BW,BX,BY,BZ,B0,B1,B2,B3,B4,B5,B6,B7,B8,B9,Ca,Cb,Cc,Cd,Ce,Cf,Cg,Ch,Ci,Cj,Ck,Cl,Cm,Cn,Co,Cp,Cq,Cs,Ct,Cu,Cv,Cw,Cx,Cy,Cz,CA,CB,CC,CD,CE,CF,CG,CH,CI,CJ,CK,CL,CM,CN,CO,CP,CQ,CR,CS,CT,CU,CV,CW,CX,CY,CZ,C0,C1,C2,C3,C4,C5,C6,C7,C8,C9,Da,Db,Dc,Dd,De,Df,Dg,Dh,Di,Dj,Dk,Dl,Dm,Dn,Dp,Dq,Dr,Ds,Dt,Du,Dv,Dw,Dx,Dy,Dz,DA,DB,DC],[]⟩ w:=by
 conv=>arg 3;whnf
 have cm:Hid (∀x,Calls Try.prog 35 #[.int .i64 seed,.int .i64 fl] x fun e w'=>∃(c:Nat→Int) (G nE nI cE cI:Nat) (aE aI:Option Addr),e=.returned (.agg #[.slice (some ⟨G,0,none⟩) 384 384,.slice aE nE cE,.slice aI nI cI])∧Hid (Nv.Floor c)∧Hid (x.heap.size≤G)∧Hid (Arr w' G 5 384 (Byts c))∧Hid (x.grownBy w' none)):=fun x=>navMake_any seed fl h1 h3 x
 have hfc:=fun (aE aI:Option Addr) (G nE nI cE cI:Nat) wq=>field_cells7 (some ⟨G,0,none⟩) aE aI 384 nE nI 384 cE cI wq
 refine wpAny_ready (rs:=[4,9]) (by kernel_rfl) (by simp) ?_
 refine AllReady.cons rfl (fun K hK=>?_) ?_
 ·go_simp
  go_wp2_with ((go_at_call 35;refine (uh cm _).mono ?_;rintro e w1 ⟨c,G,nE,nI,cE,cI,aE,aI,rfl,hF,hG,hA,hgm⟩))
  refine wpAny_take (i:=5) (v:=?_) rfl (by kernel_rfl) (by kernel_rfl) (by kernel_rfl) (fun _ _ _ h=>hQp _ _ _ _ _ h) (Or.inl ⟨by rfl,?_⟩) ?_
  rotate_left
  ·intro w
   go_simp
   with_reducible rfl
  refine wpAny_take (i:=8) (v:=?_) rfl (by kernel_rfl) (by kernel_rfl) (by kernel_rfl) (fun _ _ _ h=>hQp _ _ _ _ _ h) (Or.inl ⟨by rfl,?_⟩) ?_
  rotate_left
  ·intro w
   go_simp
   with_reducible rfl
  exact lots_MEI seed fl w0 w1 (gtr hg (uh hgm)) c G nE nI cE cI aE aI (uh hF) (Nat.le_trans hg.size (uh hG)) (uh hA).lie gE lE (hE.on (uh hgm)) gI lI (hI.on (uh hgm)) Q hQp hQ
 refine AllReady.cons rfl (fun K hK=>?_) ?_
 ·go_simp
  refine hK _ _ ?_
  clear hK K
  exact lots_EIB seed fl h1 h3 w0 _ (gal hg _) gE lE (hE.on (World.grownBy_alloc _ _ _)) gI lI (hI.on (World.grownBy_alloc _ _ _)) w.heap.size hg.size (Arr.lit (heap_alloc_new w _)).lie Q hQp hQ
 exact AllReady.nil

set_option maxRecDepth 100000 in
set_option maxHeartbeats 6400000 in
theorem lots_EB (seed fl:Int) (h1:1≤fl) (h3:fl≤3) (w0 w:World) (hg:w0.grownBy w none) (gE:Nat) (lE:w0.heap.size≤gE) (hE:Lie w gE 45 352 (En.flat fun _ _=>0)) (B:Nat) (lB:w0.heap.size≤B) (hB:Lie w B 29 11 (fun j=>#[.int .i64 0,.int .i64 0,.int .i64 0,.int .i64 0,.slice none 0 0,.slice none 0 0,.slice none 0 0,.int .i64 0,.int .i64 0,.int .i64 0,Value.int .i64 0][j]?.getD undef)) (Q:Exit→Act→World→Prop) (hQp:∀p d v a x,Q (.panic p) (Act.put a d v) x→Q (.panic p) a x) {t2 t3 t4 t5 t6 t7 t8 t9 Aa Ab Ac Ad Ae Af Ag Ah Ai Aj Ak Al Am Ao Ap Aq Ar As Au Av Aw Ax Ay Az AA AB AC AD AE AF AG AH AI AJ AK AL AM AN AO AP AQ AR AS AT AU AV AW AX AY AZ A0 A1 A2 A3 A4 A5 A6 A7 A8 A9 Ba Bb Bc Bd Be Bf Bg Bh Bi Bj Bk Bl Bm Bn Bo Bp Bq Br Bs Bt Bu Bv Bw Bx Bz BA BB BC BD BE BF BG BH BI BJ BK BL BM BN BO BP BQ BR BS BT BU BV BW BX BY BZ B0 B1 B2 B3 B4 B5 B6 B7 B8 B9 Ca Cb Cc Cd Ce Cf Cg Ch Ci Cj Ck Cl Cm Cn Co Cp Cq Cs Ct Cu Cv Cw Cx Cy Cz CA CB CC CD CE CF CG CH CI CJ CK CL CM CN CO CP CQ CR CS CT CU CV CW CX CY CZ C0 C1 C2 C3 C4 C5 C6 C7 C8 C9 Da Db Dc Dd De Df Dg Dh Di Dj Dk Dl Dm Dn Dp Dq Dr Ds Dt Du Dv Dw Dx Dy Dz DA DB DC:Value} (hQ:∀(c:Nat→Int) (B G gE gI:Nat) (w1:World) (u13 u24 u25 u26 u27 u28 u29 u30 u31 u32:Value),u13=.pointer (some ⟨B,0,none⟩)→Nv.Floor c→Gd.Begun w0 w1 B G gE gI seed fl c→Q .normal ⟨#[.int .i64 seed,.int .i64 fl,t2,t3,t4,t5,t6,t7,t8,t9,Aa,Ab,Ac,u13,Ad,Ae,Af,Ag,Ah,Ai,Aj,Ak,Al,Am,u24,u25,u26,u27,u28,u29,u30,u31,u32,As,Au,Av,Aw,Ax,Ay,Az,AA,AB,AC,AD,AE,AF,AG,AH,AI,AJ,AK,AL,AM,AN,AO,AP,AQ,AR,AS,AT,AU,AV,AW,AX,AY,AZ,A0,A1,A2,A3,A4,A5,A6,A7,A8,A9,Ba,Bb,Bc,Bd,Be,Bf,Bg,Bh,Bi,Bj,Bk,Bl,Bm,Bn,Bo,Bp,Bq,Br,Bs,Bt,Bu,Bv,Bw,Bx,Bz,BA,BB,BC,BD,BE,BF,BG,BH,BI,BJ,BK,BL,BM,BN,BO,BP,BQ,BR,BS,BT,BU,BV,BW,BX,BY,BZ,B0,B1,B2,B3,B4,B5,B6,B7,B8,B9,Ca,Cb,Cc,Cd,Ce,Cf,Cg,Ch,Ci,Cj,Ck,Cl,Cm,Cn,Co,Cp,Cq,Cs,Ct,Cu,Cv,Cw,Cx,Cy,Cz,CA,CB,CC,CD,CE,CF,CG,CH,CI,CJ,CK,CL,CM,CN,CO,CP,CQ,CR,CS,CT,CU,CV,CW,CX,CY,CZ,C0,C1,C2,C3,C4,C5,C6,C7,C8,C9,Da,Db,Dc,Dd,De,Df,Dg,Dh,Di,Dj,Dk,Dl,Dm,Dn,Dp,Dq,Dr,Ds,Dt,Du,Dv,Dw,Dx,Dy,Dz,DA,DB,DC],[]⟩ w1) :
  wpAny Try.prog .any (cops ((Try.f18.body.map (cdrop 2)).getD .skip)) Q 5 #[true,true,true,true,false,false,true,false,false,true,false] ⟨#[.int .i64 seed,.int .i64 fl,t2,t3,t4,t5,t6,t7,t8,t9,Aa,Ab,Ac,.pointer (some ⟨B,0,none⟩),Ad,Ae,Af,Ag,Ah,Ai,Aj,Ak,Al,Am,.int .i64 seed,.int .i64 fl,.int .i64 seed,.int .i64 fl,Ao,Ap,.slice (some ⟨gE,0,none⟩) 32 32,Aq,Ar,As,Au,Av,Aw,Ax,Ay,Az,AA,AB,AC,AD,AE,AF,AG,AH,AI,AJ,AK,AL,AM,AN,AO,AP,AQ,AR,AS,AT,AU,AV,AW,AX,AY,AZ,A0,A1,A2,A3,A4,A5,A6,A7,A8,A9,Ba,Bb,Bc,Bd,Be,Bf,Bg,Bh,Bi,Bj,Bk,Bl,Bm,Bn,Bo,Bp,Bq,Br,Bs,Bt,Bu,Bv,Bw,Bx,Bz,BA,BB,BC,BD,BE,BF,BG,BH,BI,BJ,BK,BL,BM,BN,BO,BP,BQ,BR,BS,BT,BU,BV,BW,BX,BY,BZ,B0,B1,B2,B3,B4,B5,B6,B7,B8,B9,Ca,Cb,Cc,Cd,Ce,Cf,Cg,Ch,Ci,Cj,Ck,Cl,Cm,Cn,Co,Cp,Cq,Cs,Ct,Cu,Cv,Cw,Cx,Cy,Cz,CA,CB,CC,CD,CE,CF,CG,CH,CI,CJ,CK,CL,CM,CN,CO,CP,CQ,CR,CS,CT,CU,CV,CW,CX,CY,CZ,C0,C1,C2,C3,C4,C5,C6,C7,C8,C9,Da,Db,Dc,Dd,De,Df,Dg,Dh,Di,Dj,Dk,Dl,Dm,Dn,Dp,Dq,Dr,Ds,Dt,Du,Dv,Dw,Dx,Dy,Dz,DA,DB,DC],[]⟩ w:=by
 conv=>arg 3;whnf
 obtain ⟨ZI,hmI,hZI⟩:=make40
 have hZI':=hide hZI
 clear hZI
 have cm:Hid (∀x,Calls Try.prog 35 #[.int .i64 seed,.int .i64 fl] x fun e w'=>∃(c:Nat→Int) (G nE nI cE cI:Nat) (aE aI:Option Addr),e=.returned (.agg #[.slice (some ⟨G,0,none⟩) 384 384,.slice aE nE cE,.slice aI nI cI])∧Hid (Nv.Floor c)∧Hid (x.heap.size≤G)∧Hid (Arr w' G 5 384 (Byts c))∧Hid (x.grownBy w' none)):=fun x=>navMake_any seed fl h1 h3 x
 have hfc:=fun (aE aI:Option Addr) (G nE nI cE cI:Nat) wq=>field_cells7 (some ⟨G,0,none⟩) aE aI 384 nE nI 384 cE cI wq
 refine wpAny_ready (rs:=[4,7]) (by kernel_rfl) (by simp) ?_
 refine AllReady.cons rfl (fun K hK=>?_) ?_
 ·go_simp
  go_wp2_with ((go_at_call 35;refine (uh cm _).mono ?_;rintro e w1 ⟨c,G,nE,nI,cE,cI,aE,aI,rfl,hF,hG,hA,hgm⟩))
  refine wpAny_take (i:=5) (v:=?_) rfl (by kernel_rfl) (by kernel_rfl) (by kernel_rfl) (fun _ _ _ h=>hQp _ _ _ _ _ h) (Or.inl ⟨by rfl,?_⟩) ?_
  rotate_left
  ·intro w
   go_simp
   with_reducible rfl
  exact lots_MEB seed fl w0 w1 (gtr hg (uh hgm)) c G nE nI cE cI aE aI (uh hF) (Nat.le_trans hg.size (uh hG)) (uh hA).lie gE lE (hE.on (uh hgm)) B lB (hB.on (uh hgm)) Q hQp hQ
 refine AllReady.cons rfl (fun K hK=>?_) ?_
 ·go_simp
  refine hK _ _ ?_
  clear hK K
  exact lots_EIB seed fl h1 h3 w0 _ (gal hg _) gE lE (hE.on (World.grownBy_alloc _ _ _)) w.heap.size hg.size (uh hZI' w) B lB (hB.on (World.grownBy_alloc _ _ _)) Q hQp hQ
 exact AllReady.nil

set_option maxRecDepth 100000 in
set_option maxHeartbeats 6400000 in
theorem lots_IB (seed fl:Int) (h1:1≤fl) (h3:fl≤3) (w0 w:World) (hg:w0.grownBy w none) (gI:Nat) (lI:w0.heap.size≤gI) (hI:Lie w gI 47 160 (Gd.flat fun _ _=>0)) (B:Nat) (lB:w0.heap.size≤B) (hB:Lie w B 29 11 (fun j=>#[.int .i64 0,.int .i64 0,.int .i64 0,.int .i64 0,.slice none 0 0,.slice none 0 0,.slice none 0 0,.int .i64 0,.int .i64 0,.int .i64 0,Value.int .i64 0][j]?.getD undef)) (Q:Exit→Act→World→Prop) (hQp:∀p d v a x,Q (.panic p) (Act.put a d v) x→Q (.panic p) a x) {t2 t3 t4 t5 t6 t7 t8 t9 Aa Ab Ac Ad Ae Af Ag Ah Ai Aj Ak Al Am Ao Ap Aq Ar As Au Av Aw Ax Ay Az AA AB AC AD AE AF AG AH AI AJ AK AL AM AN AO AP AQ AR AS AT AU AV AW AX AY AZ A0 A1 A2 A3 A4 A5 A6 A7 A8 A9 Ba Bb Bc Bd Be Bf Bg Bh Bi Bj Bk Bl Bm Bn Bo Bp Bq Br Bs Bt Bu Bv Bw Bx Bz BA BB BC BD BE BF BG BH BI BJ BK BL BM BN BO BP BQ BR BS BT BU BV BW BX BY BZ B0 B1 B2 B3 B4 B5 B6 B7 B8 B9 Ca Cb Cc Cd Ce Cf Cg Ch Ci Cj Ck Cl Cm Cn Co Cp Cq Cs Ct Cu Cv Cw Cx Cy Cz CA CB CC CD CE CF CG CH CI CJ CK CL CM CN CO CP CQ CR CS CT CU CV CW CX CY CZ C0 C1 C2 C3 C4 C5 C6 C7 C8 C9 Da Db Dc Dd De Df Dg Dh Di Dj Dk Dl Dm Dn Dp Dq Dr Ds Dt Du Dv Dw Dx Dy Dz DA DB DC:Value} (hQ:∀(c:Nat→Int) (B G gE gI:Nat) (w1:World) (u13 u24 u25 u26 u27 u28 u29 u30 u31 u32:Value),u13=.pointer (some ⟨B,0,none⟩)→Nv.Floor c→Gd.Begun w0 w1 B G gE gI seed fl c→Q .normal ⟨#[.int .i64 seed,.int .i64 fl,t2,t3,t4,t5,t6,t7,t8,t9,Aa,Ab,Ac,u13,Ad,Ae,Af,Ag,Ah,Ai,Aj,Ak,Al,Am,u24,u25,u26,u27,u28,u29,u30,u31,u32,As,Au,Av,Aw,Ax,Ay,Az,AA,AB,AC,AD,AE,AF,AG,AH,AI,AJ,AK,AL,AM,AN,AO,AP,AQ,AR,AS,AT,AU,AV,AW,AX,AY,AZ,A0,A1,A2,A3,A4,A5,A6,A7,A8,A9,Ba,Bb,Bc,Bd,Be,Bf,Bg,Bh,Bi,Bj,Bk,Bl,Bm,Bn,Bo,Bp,Bq,Br,Bs,Bt,Bu,Bv,Bw,Bx,Bz,BA,BB,BC,BD,BE,BF,BG,BH,BI,BJ,BK,BL,BM,BN,BO,BP,BQ,BR,BS,BT,BU,BV,BW,BX,BY,BZ,B0,B1,B2,B3,B4,B5,B6,B7,B8,B9,Ca,Cb,Cc,Cd,Ce,Cf,Cg,Ch,Ci,Cj,Ck,Cl,Cm,Cn,Co,Cp,Cq,Cs,Ct,Cu,Cv,Cw,Cx,Cy,Cz,CA,CB,CC,CD,CE,CF,CG,CH,CI,CJ,CK,CL,CM,CN,CO,CP,CQ,CR,CS,CT,CU,CV,CW,CX,CY,CZ,C0,C1,C2,C3,C4,C5,C6,C7,C8,C9,Da,Db,Dc,Dd,De,Df,Dg,Dh,Di,Dj,Dk,Dl,Dm,Dn,Dp,Dq,Dr,Ds,Dt,Du,Dv,Dw,Dx,Dy,Dz,DA,DB,DC],[]⟩ w1) :
  wpAny Try.prog .any (cops ((Try.f18.body.map (cdrop 2)).getD .skip)) Q 5 #[true,true,true,true,false,false,false,true,false,true,false] ⟨#[.int .i64 seed,.int .i64 fl,t2,t3,t4,t5,t6,t7,t8,t9,Aa,Ab,Ac,.pointer (some ⟨B,0,none⟩),Ad,Ae,Af,Ag,Ah,Ai,Aj,Ak,Al,Am,.int .i64 seed,.int .i64 fl,.int .i64 seed,.int .i64 fl,Ao,Ap,Aq,.slice (some ⟨gI,0,none⟩) 40 40,Ar,As,Au,Av,Aw,Ax,Ay,Az,AA,AB,AC,AD,AE,AF,AG,AH,AI,AJ,AK,AL,AM,AN,AO,AP,AQ,AR,AS,AT,AU,AV,AW,AX,AY,AZ,A0,A1,A2,A3,A4,A5,A6,A7,A8,A9,Ba,Bb,Bc,Bd,Be,Bf,Bg,Bh,Bi,Bj,Bk,Bl,Bm,Bn,Bo,Bp,Bq,Br,Bs,Bt,Bu,Bv,Bw,Bx,Bz,BA,BB,BC,BD,BE,BF,BG,BH,BI,BJ,BK,BL,BM,BN,BO,BP,BQ,BR,BS,BT,BU,BV,BW,BX,BY,BZ,B0,B1,B2,B3,B4,B5,B6,B7,B8,B9,Ca,Cb,Cc,Cd,Ce,Cf,Cg,Ch,Ci,Cj,Ck,Cl,Cm,Cn,Co,Cp,Cq,Cs,Ct,Cu,Cv,Cw,Cx,Cy,Cz,CA,CB,CC,CD,CE,CF,CG,CH,CI,CJ,CK,CL,CM,CN,CO,CP,CQ,CR,CS,CT,CU,CV,CW,CX,CY,CZ,C0,C1,C2,C3,C4,C5,C6,C7,C8,C9,Da,Db,Dc,Dd,De,Df,Dg,Dh,Di,Dj,Dk,Dl,Dm,Dn,Dp,Dq,Dr,Ds,Dt,Du,Dv,Dw,Dx,Dy,Dz,DA,DB,DC],[]⟩ w:=by
 conv=>arg 3;whnf
 obtain ⟨ZE,hmE,hZE⟩:=make32
 have hZE':=hide hZE
 clear hZE
 have cm:Hid (∀x,Calls Try.prog 35 #[.int .i64 seed,.int .i64 fl] x fun e w'=>∃(c:Nat→Int) (G nE nI cE cI:Nat) (aE aI:Option Addr),e=.returned (.agg #[.slice (some ⟨G,0,none⟩) 384 384,.slice aE nE cE,.slice aI nI cI])∧Hid (Nv.Floor c)∧Hid (x.heap.size≤G)∧Hid (Arr w' G 5 384 (Byts c))∧Hid (x.grownBy w' none)):=fun x=>navMake_any seed fl h1 h3 x
 have hfc:=fun (aE aI:Option Addr) (G nE nI cE cI:Nat) wq=>field_cells7 (some ⟨G,0,none⟩) aE aI 384 nE nI 384 cE cI wq
 refine wpAny_ready (rs:=[4,6]) (by kernel_rfl) (by simp) ?_
 refine AllReady.cons rfl (fun K hK=>?_) ?_
 ·go_simp
  go_wp2_with ((go_at_call 35;refine (uh cm _).mono ?_;rintro e w1 ⟨c,G,nE,nI,cE,cI,aE,aI,rfl,hF,hG,hA,hgm⟩))
  refine wpAny_take (i:=5) (v:=?_) rfl (by kernel_rfl) (by kernel_rfl) (by kernel_rfl) (fun _ _ _ h=>hQp _ _ _ _ _ h) (Or.inl ⟨by rfl,?_⟩) ?_
  rotate_left
  ·intro w
   go_simp
   with_reducible rfl
  exact lots_MIB seed fl w0 w1 (gtr hg (uh hgm)) c G nE nI cE cI aE aI (uh hF) (Nat.le_trans hg.size (uh hG)) (uh hA).lie gI lI (hI.on (uh hgm)) B lB (hB.on (uh hgm)) Q hQp hQ
 refine AllReady.cons rfl (fun K hK=>?_) ?_
 ·go_simp
  refine hK _ _ ?_
  clear hK K
  exact lots_EIB seed fl h1 h3 w0 _ (gal hg _) w.heap.size hg.size ((uh hZE' w).lie (m:=352) (by omega)) gI lI (hI.on (World.grownBy_alloc _ _ _)) B lB (hB.on (World.grownBy_alloc _ _ _)) Q hQp hQ
 exact AllReady.nil

set_option maxRecDepth 100000 in
set_option maxHeartbeats 6400000 in
theorem lots_M (seed fl:Int) (w0 w:World) (hg:w0.grownBy w none) (c:Nat→Int) (G nE nI cE cI:Nat) (aE aI:Option Addr) (hF:Nv.Floor c) (lG:w0.heap.size≤G) (hA:Lie w G 5 384 (Byts c)) (Q:Exit→Act→World→Prop) (hQp:∀p d v a x,Q (.panic p) (Act.put a d v) x→Q (.panic p) a x) {t2 t3 t4 t5 t6 t7 t8 t9 Aa Ab Ac Ad Ae Af Ag Ah Ai Aj Ak Al Am Ao Ap Aq Ar As Au Av Aw Ax Ay Az AA AB AC AD AE AF AG AH AI AJ AK AL AM AN AO AP AQ AR AS AT AU AV AW AX AY AZ A0 A1 A2 A3 A4 A5 A6 A7 A8 A9 Ba Bb Bc Bd Be Bf Bg Bh Bi Bj Bk Bl Bm Bn Bo Bp Bq Br Bs Bt Bu Bv Bw Bx Bz BA BB BC BD BE BF BG BH BI BJ BK BL BM BN BO BP BQ BR BS BT BU BV BW BX BY BZ B0 B1 B2 B3 B4 B5 B6 B7 B8 B9 Ca Cb Cc Cd Ce Cf Cg Ch Ci Cj Ck Cl Cm Cn Co Cp Cq Cs Ct Cu Cv Cw Cx Cy Cz CA CB CC CD CE CF CG CH CI CJ CK CL CM CN CO CP CQ CR CS CT CU CV CW CX CY CZ C0 C1 C2 C3 C4 C5 C6 C7 C8 C9 Da Db Dc Dd De Df Dg Dh Di Dj Dk Dl Dm Dn Dp Dq Dr Ds Dt Du Dv Dw Dx Dy Dz DA DB DC:Value} (hQ:∀(c:Nat→Int) (B G gE gI:Nat) (w1:World) (u13 u24 u25 u26 u27 u28 u29 u30 u31 u32:Value),u13=.pointer (some ⟨B,0,none⟩)→Nv.Floor c→Gd.Begun w0 w1 B G gE gI seed fl c→Q .normal ⟨#[.int .i64 seed,.int .i64 fl,t2,t3,t4,t5,t6,t7,t8,t9,Aa,Ab,Ac,u13,Ae,Af,Ag,Ah,Ai,Aj,Ak,Al,Am,Ao,u24,u25,u26,u27,u28,u29,u30,u31,u32,As,Au,Av,Aw,Ax,Ay,Az,AA,AB,AC,AD,AE,AF,AG,AH,AI,AJ,AK,AL,AM,AN,AO,AP,AQ,AR,AS,AT,AU,AV,AW,AX,AY,AZ,A0,A1,A2,A3,A4,A5,A6,A7,A8,A9,Ba,Bb,Bc,Bd,Be,Bf,Bg,Bh,Bi,Bj,Bk,Bl,Bm,Bn,Bo,Bp,Bq,Br,Bs,Bt,Bu,Bv,Bw,Bx,Bz,BA,BB,BC,BD,BE,BF,BG,BH,BI,BJ,BK,BL,BM,BN,BO,BP,BQ,BR,BS,BT,BU,BV,BW,BX,BY,BZ,B0,B1,B2,B3,B4,B5,B6,B7,B8,B9,Ca,Cb,Cc,Cd,Ce,Cf,Cg,Ch,Ci,Cj,Ck,Cl,Cm,Cn,Co,Cp,Cq,Cs,Ct,Cu,Cv,Cw,Cx,Cy,Cz,CA,CB,CC,CD,CE,CF,CG,CH,CI,CJ,CK,CL,CM,CN,CO,CP,CQ,CR,CS,CT,CU,CV,CW,CX,CY,CZ,C0,C1,C2,C3,C4,C5,C6,C7,C8,C9,Da,Db,Dc,Dd,De,Df,Dg,Dh,Di,Dj,Dk,Dl,Dm,Dn,Dp,Dq,Dr,Ds,Dt,Du,Dv,Dw,Dx,Dy,Dz,DA,DB,DC],[]⟩ w1) :
  wpAny Try.prog .any (cops ((Try.f18.body.map (cdrop 2)).getD .skip)) Q 5 #[true,true,true,true,true,true,false,false,false,false,false] ⟨#[.int .i64 seed,.int .i64 fl,t2,t3,t4,t5,t6,t7,t8,t9,Aa,Ab,Ac,Ad,Ae,Af,Ag,Ah,Ai,Aj,Ak,Al,Am,Ao,.int .i64 seed,.int .i64 fl,.int .i64 seed,.int .i64 fl,.agg #[.slice (some ⟨G,0,none⟩) 384 384,.slice aE nE cE,.slice aI nI cI],.slice (some ⟨G,0,none⟩) 384 384,Ap,Aq,Ar,As,Au,Av,Aw,Ax,Ay,Az,AA,AB,AC,AD,AE,AF,AG,AH,AI,AJ,AK,AL,AM,AN,AO,AP,AQ,AR,AS,AT,AU,AV,AW,AX,AY,AZ,A0,A1,A2,A3,A4,A5,A6,A7,A8,A9,Ba,Bb,Bc,Bd,Be,Bf,Bg,Bh,Bi,Bj,Bk,Bl,Bm,Bn,Bo,Bp,Bq,Br,Bs,Bt,Bu,Bv,Bw,Bx,Bz,BA,BB,BC,BD,BE,BF,BG,BH,BI,BJ,BK,BL,BM,BN,BO,BP,BQ,BR,BS,BT,BU,BV,BW,BX,BY,BZ,B0,B1,B2,B3,B4,B5,B6,B7,B8,B9,Ca,Cb,Cc,Cd,Ce,Cf,Cg,Ch,Ci,Cj,Ck,Cl,Cm,Cn,Co,Cp,Cq,Cs,Ct,Cu,Cv,Cw,Cx,Cy,Cz,CA,CB,CC,CD,CE,CF,CG,CH,CI,CJ,CK,CL,CM,CN,CO,CP,CQ,CR,CS,CT,CU,CV,CW,CX,CY,CZ,C0,C1,C2,C3,C4,C5,C6,C7,C8,C9,Da,Db,Dc,Dd,De,Df,Dg,Dh,Di,Dj,Dk,Dl,Dm,Dn,Dp,Dq,Dr,Ds,Dt,Du,Dv,Dw,Dx,Dy,Dz,DA,DB,DC],[]⟩ w:=by
 conv=>arg 3;whnf
 obtain ⟨ZE,hmE,hZE⟩:=make32
 have hZE':=hide hZE
 clear hZE
 obtain ⟨ZI,hmI,hZI⟩:=make40
 have hZI':=hide hZI
 clear hZI
 refine wpAny_ready (rs:=[6,7,9]) (by kernel_rfl) (by simp) ?_
 refine AllReady.cons rfl (fun K hK=>?_) ?_
 ·go_simp
  refine hK _ _ ?_
  clear hK K
  exact lots_ME seed fl w0 _ (gal hg _) c G nE nI cE cI aE aI hF lG (hA.on (World.grownBy_alloc _ _ _)) w.heap.size hg.size ((uh hZE' w).lie (m:=352) (by omega)) Q hQp hQ
 refine AllReady.cons rfl (fun K hK=>?_) ?_
 ·go_simp
  refine hK _ _ ?_
  clear hK K
  exact lots_MI seed fl w0 _ (gal hg _) c G nE nI cE cI aE aI hF lG (hA.on (World.grownBy_alloc _ _ _)) w.heap.size hg.size (uh hZI' w) Q hQp hQ
 refine AllReady.cons rfl (fun K hK=>?_) ?_
 ·go_simp
  refine hK _ _ ?_
  clear hK K
  exact lots_MB seed fl w0 _ (gal hg _) c G nE nI cE cI aE aI hF lG (hA.on (World.grownBy_alloc _ _ _)) w.heap.size hg.size (Arr.lit (heap_alloc_new w _)).lie Q hQp hQ
 exact AllReady.nil

set_option maxRecDepth 100000 in
set_option maxHeartbeats 6400000 in
theorem lots_E (seed fl:Int) (h1:1≤fl) (h3:fl≤3) (w0 w:World) (hg:w0.grownBy w none) (gE:Nat) (lE:w0.heap.size≤gE) (hE:Lie w gE 45 352 (En.flat fun _ _=>0)) (Q:Exit→Act→World→Prop) (hQp:∀p d v a x,Q (.panic p) (Act.put a d v) x→Q (.panic p) a x) {t2 t3 t4 t5 t6 t7 t8 t9 Aa Ab Ac Ad Ae Af Ag Ah Ai Aj Ak Al Am Ao Ap Aq Ar As Au Av Aw Ax Ay Az AA AB AC AD AE AF AG AH AI AJ AK AL AM AN AO AP AQ AR AS AT AU AV AW AX AY AZ A0 A1 A2 A3 A4 A5 A6 A7 A8 A9 Ba Bb Bc Bd Be Bf Bg Bh Bi Bj Bk Bl Bm Bn Bo Bp Bq Br Bs Bt Bu Bv Bw Bx Bz BA BB BC BD BE BF BG BH BI BJ BK BL BM BN BO BP BQ BR BS BT BU BV BW BX BY BZ B0 B1 B2 B3 B4 B5 B6 B7 B8 B9 Ca Cb Cc Cd Ce Cf Cg Ch Ci Cj Ck Cl Cm Cn Co Cp Cq Cs Ct Cu Cv Cw Cx Cy Cz CA CB CC CD CE CF CG CH CI CJ CK CL CM CN CO CP CQ CR CS CT CU CV CW CX CY CZ C0 C1 C2 C3 C4 C5 C6 C7 C8 C9 Da Db Dc Dd De Df Dg Dh Di Dj Dk Dl Dm Dn Dp Dq Dr Ds Dt Du Dv Dw Dx Dy Dz DA DB DC DD:Value} (hQ:∀(c:Nat→Int) (B G gE gI:Nat) (w1:World) (u13 u24 u25 u26 u27 u28 u29 u30 u31 u32:Value),u13=.pointer (some ⟨B,0,none⟩)→Nv.Floor c→Gd.Begun w0 w1 B G gE gI seed fl c→Q .normal ⟨#[.int .i64 seed,.int .i64 fl,t2,t3,t4,t5,t6,t7,t8,t9,Aa,Ab,Ac,u13,Ae,Af,Ag,Ah,Ai,Aj,Ak,Al,Am,Ao,u24,u25,u26,u27,u28,u29,u30,u31,u32,Au,Av,Aw,Ax,Ay,Az,AA,AB,AC,AD,AE,AF,AG,AH,AI,AJ,AK,AL,AM,AN,AO,AP,AQ,AR,AS,AT,AU,AV,AW,AX,AY,AZ,A0,A1,A2,A3,A4,A5,A6,A7,A8,A9,Ba,Bb,Bc,Bd,Be,Bf,Bg,Bh,Bi,Bj,Bk,Bl,Bm,Bn,Bo,Bp,Bq,Br,Bs,Bt,Bu,Bv,Bw,Bx,Bz,BA,BB,BC,BD,BE,BF,BG,BH,BI,BJ,BK,BL,BM,BN,BO,BP,BQ,BR,BS,BT,BU,BV,BW,BX,BY,BZ,B0,B1,B2,B3,B4,B5,B6,B7,B8,B9,Ca,Cb,Cc,Cd,Ce,Cf,Cg,Ch,Ci,Cj,Ck,Cl,Cm,Cn,Co,Cp,Cq,Cs,Ct,Cu,Cv,Cw,Cx,Cy,Cz,CA,CB,CC,CD,CE,CF,CG,CH,CI,CJ,CK,CL,CM,CN,CO,CP,CQ,CR,CS,CT,CU,CV,CW,CX,CY,CZ,C0,C1,C2,C3,C4,C5,C6,C7,C8,C9,Da,Db,Dc,Dd,De,Df,Dg,Dh,Di,Dj,Dk,Dl,Dm,Dn,Dp,Dq,Dr,Ds,Dt,Du,Dv,Dw,Dx,Dy,Dz,DA,DB,DC,DD],[]⟩ w1) :
  wpAny Try.prog .any (cops ((Try.f18.body.map (cdrop 2)).getD .skip)) Q 6 #[true,true,true,true,false,false,true,false,false,false,false] ⟨#[.int .i64 seed,.int .i64 fl,t2,t3,t4,t5,t6,t7,t8,t9,Aa,Ab,Ac,Ad,Ae,Af,Ag,Ah,Ai,Aj,Ak,Al,Am,Ao,.int .i64 seed,.int .i64 fl,.int .i64 seed,.int .i64 fl,Ap,Aq,.slice (some ⟨gE,0,none⟩) 32 32,Ar,As,Au,Av,Aw,Ax,Ay,Az,AA,AB,AC,AD,AE,AF,AG,AH,AI,AJ,AK,AL,AM,AN,AO,AP,AQ,AR,AS,AT,AU,AV,AW,AX,AY,AZ,A0,A1,A2,A3,A4,A5,A6,A7,A8,A9,Ba,Bb,Bc,Bd,Be,Bf,Bg,Bh,Bi,Bj,Bk,Bl,Bm,Bn,Bo,Bp,Bq,Br,Bs,Bt,Bu,Bv,Bw,Bx,Bz,BA,BB,BC,BD,BE,BF,BG,BH,BI,BJ,BK,BL,BM,BN,BO,BP,BQ,BR,BS,BT,BU,BV,BW,BX,BY,BZ,B0,B1,B2,B3,B4,B5,B6,B7,B8,B9,Ca,Cb,Cc,Cd,Ce,Cf,Cg,Ch,Ci,Cj,Ck,Cl,Cm,Cn,Co,Cp,Cq,Cs,Ct,Cu,Cv,Cw,Cx,Cy,Cz,CA,CB,CC,CD,CE,CF,CG,CH,CI,CJ,CK,CL,CM,CN,CO,CP,CQ,CR,CS,CT,CU,CV,CW,CX,CY,CZ,C0,C1,C2,C3,C4,C5,C6,C7,C8,C9,Da,Db,Dc,Dd,De,Df,Dg,Dh,Di,Dj,Dk,Dl,Dm,Dn,Dp,Dq,Dr,Ds,Dt,Du,Dv,Dw,Dx,Dy,Dz,DA,DB,DC,DD],[]⟩ w:=by
 conv=>arg 3;whnf
 obtain ⟨ZI,hmI,hZI⟩:=make40
 have hZI':=hide hZI
 clear hZI
 have cm:Hid (∀x,Calls Try.prog 35 #[.int .i64 seed,.int .i64 fl] x fun e w'=>∃(c:Nat→Int) (G nE nI cE cI:Nat) (aE aI:Option Addr),e=.returned (.agg #[.slice (some ⟨G,0,none⟩) 384 384,.slice aE nE cE,.slice aI nI cI])∧Hid (Nv.Floor c)∧Hid (x.heap.size≤G)∧Hid (Arr w' G 5 384 (Byts c))∧Hid (x.grownBy w' none)):=fun x=>navMake_any seed fl h1 h3 x
 have hfc:=fun (aE aI:Option Addr) (G nE nI cE cI:Nat) wq=>field_cells7 (some ⟨G,0,none⟩) aE aI 384 nE nI 384 cE cI wq
 refine wpAny_ready (rs:=[4,7,9]) (by kernel_rfl) (by simp) ?_
 refine AllReady.cons rfl (fun K hK=>?_) ?_
 ·go_simp
  go_wp2_with ((go_at_call 35;refine (uh cm _).mono ?_;rintro e w1 ⟨c,G,nE,nI,cE,cI,aE,aI,rfl,hF,hG,hA,hgm⟩))
  refine wpAny_take (i:=5) (v:=?_) rfl (by kernel_rfl) (by kernel_rfl) (by kernel_rfl) (fun _ _ _ h=>hQp _ _ _ _ _ h) (Or.inl ⟨by rfl,?_⟩) ?_
  rotate_left
  ·intro w
   go_simp
   with_reducible rfl
  exact lots_ME seed fl w0 w1 (gtr hg (uh hgm)) c G nE nI cE cI aE aI (uh hF) (Nat.le_trans hg.size (uh hG)) (uh hA).lie gE lE (hE.on (uh hgm)) Q hQp hQ
 refine AllReady.cons rfl (fun K hK=>?_) ?_
 ·go_simp
  refine hK _ _ ?_
  clear hK K
  exact lots_EI seed fl h1 h3 w0 _ (gal hg _) gE lE (hE.on (World.grownBy_alloc _ _ _)) w.heap.size hg.size (uh hZI' w) Q hQp hQ
 refine AllReady.cons rfl (fun K hK=>?_) ?_
 ·go_simp
  refine hK _ _ ?_
  clear hK K
  exact lots_EB seed fl h1 h3 w0 _ (gal hg _) gE lE (hE.on (World.grownBy_alloc _ _ _)) w.heap.size hg.size (Arr.lit (heap_alloc_new w _)).lie Q hQp hQ
 exact AllReady.nil

set_option maxRecDepth 100000 in
set_option maxHeartbeats 6400000 in
theorem lots_I (seed fl:Int) (h1:1≤fl) (h3:fl≤3) (w0 w:World) (hg:w0.grownBy w none) (gI:Nat) (lI:w0.heap.size≤gI) (hI:Lie w gI 47 160 (Gd.flat fun _ _=>0)) (Q:Exit→Act→World→Prop) (hQp:∀p d v a x,Q (.panic p) (Act.put a d v) x→Q (.panic p) a x) {t2 t3 t4 t5 t6 t7 t8 t9 Aa Ab Ac Ad Ae Af Ag Ah Ai Aj Ak Al Am Ao Ap Aq Ar As Au Av Aw Ax Ay Az AA AB AC AD AE AF AG AH AI AJ AK AL AM AN AO AP AQ AR AS AT AU AV AW AX AY AZ A0 A1 A2 A3 A4 A5 A6 A7 A8 A9 Ba Bb Bc Bd Be Bf Bg Bh Bi Bj Bk Bl Bm Bn Bo Bp Bq Br Bs Bt Bu Bv Bw Bx Bz BA BB BC BD BE BF BG BH BI BJ BK BL BM BN BO BP BQ BR BS BT BU BV BW BX BY BZ B0 B1 B2 B3 B4 B5 B6 B7 B8 B9 Ca Cb Cc Cd Ce Cf Cg Ch Ci Cj Ck Cl Cm Cn Co Cp Cq Cs Ct Cu Cv Cw Cx Cy Cz CA CB CC CD CE CF CG CH CI CJ CK CL CM CN CO CP CQ CR CS CT CU CV CW CX CY CZ C0 C1 C2 C3 C4 C5 C6 C7 C8 C9 Da Db Dc Dd De Df Dg Dh Di Dj Dk Dl Dm Dn Dp Dq Dr Ds Dt Du Dv Dw Dx Dy Dz DA DB DC DD:Value} (hQ:∀(c:Nat→Int) (B G gE gI:Nat) (w1:World) (u13 u24 u25 u26 u27 u28 u29 u30 u31 u32:Value),u13=.pointer (some ⟨B,0,none⟩)→Nv.Floor c→Gd.Begun w0 w1 B G gE gI seed fl c→Q .normal ⟨#[.int .i64 seed,.int .i64 fl,t2,t3,t4,t5,t6,t7,t8,t9,Aa,Ab,Ac,u13,Ae,Af,Ag,Ah,Ai,Aj,Ak,Al,Am,Ao,u24,u25,u26,u27,u28,u29,u30,u31,u32,Au,Av,Aw,Ax,Ay,Az,AA,AB,AC,AD,AE,AF,AG,AH,AI,AJ,AK,AL,AM,AN,AO,AP,AQ,AR,AS,AT,AU,AV,AW,AX,AY,AZ,A0,A1,A2,A3,A4,A5,A6,A7,A8,A9,Ba,Bb,Bc,Bd,Be,Bf,Bg,Bh,Bi,Bj,Bk,Bl,Bm,Bn,Bo,Bp,Bq,Br,Bs,Bt,Bu,Bv,Bw,Bx,Bz,BA,BB,BC,BD,BE,BF,BG,BH,BI,BJ,BK,BL,BM,BN,BO,BP,BQ,BR,BS,BT,BU,BV,BW,BX,BY,BZ,B0,B1,B2,B3,B4,B5,B6,B7,B8,B9,Ca,Cb,Cc,Cd,Ce,Cf,Cg,Ch,Ci,Cj,Ck,Cl,Cm,Cn,Co,Cp,Cq,Cs,Ct,Cu,Cv,Cw,Cx,Cy,Cz,CA,CB,CC,CD,CE,CF,CG,CH,CI,CJ,CK,CL,CM,CN,CO,CP,CQ,CR,CS,CT,CU,CV,CW,CX,CY,CZ,C0,C1,C2,C3,C4,C5,C6,C7,C8,C9,Da,Db,Dc,Dd,De,Df,Dg,Dh,Di,Dj,Dk,Dl,Dm,Dn,Dp,Dq,Dr,Ds,Dt,Du,Dv,Dw,Dx,Dy,Dz,DA,DB,DC,DD],[]⟩ w1) :
  wpAny Try.prog .any (cops ((Try.f18.body.map (cdrop 2)).getD .skip)) Q 6 #[true,true,true,true,false,false,false,true,false,false,false] ⟨#[.int .i64 seed,.int .i64 fl,t2,t3,t4,t5,t6,t7,t8,t9,Aa,Ab,Ac,Ad,Ae,Af,Ag,Ah,Ai,Aj,Ak,Al,Am,Ao,.int .i64 seed,.int .i64 fl,.int .i64 seed,.int .i64 fl,Ap,Aq,Ar,.slice (some ⟨gI,0,none⟩) 40 40,As,Au,Av,Aw,Ax,Ay,Az,AA,AB,AC,AD,AE,AF,AG,AH,AI,AJ,AK,AL,AM,AN,AO,AP,AQ,AR,AS,AT,AU,AV,AW,AX,AY,AZ,A0,A1,A2,A3,A4,A5,A6,A7,A8,A9,Ba,Bb,Bc,Bd,Be,Bf,Bg,Bh,Bi,Bj,Bk,Bl,Bm,Bn,Bo,Bp,Bq,Br,Bs,Bt,Bu,Bv,Bw,Bx,Bz,BA,BB,BC,BD,BE,BF,BG,BH,BI,BJ,BK,BL,BM,BN,BO,BP,BQ,BR,BS,BT,BU,BV,BW,BX,BY,BZ,B0,B1,B2,B3,B4,B5,B6,B7,B8,B9,Ca,Cb,Cc,Cd,Ce,Cf,Cg,Ch,Ci,Cj,Ck,Cl,Cm,Cn,Co,Cp,Cq,Cs,Ct,Cu,Cv,Cw,Cx,Cy,Cz,CA,CB,CC,CD,CE,CF,CG,CH,CI,CJ,CK,CL,CM,CN,CO,CP,CQ,CR,CS,CT,CU,CV,CW,CX,CY,CZ,C0,C1,C2,C3,C4,C5,C6,C7,C8,C9,Da,Db,Dc,Dd,De,Df,Dg,Dh,Di,Dj,Dk,Dl,Dm,Dn,Dp,Dq,Dr,Ds,Dt,Du,Dv,Dw,Dx,Dy,Dz,DA,DB,DC,DD],[]⟩ w:=by
 conv=>arg 3;whnf
 obtain ⟨ZE,hmE,hZE⟩:=make32
 have hZE':=hide hZE
 clear hZE
 have cm:Hid (∀x,Calls Try.prog 35 #[.int .i64 seed,.int .i64 fl] x fun e w'=>∃(c:Nat→Int) (G nE nI cE cI:Nat) (aE aI:Option Addr),e=.returned (.agg #[.slice (some ⟨G,0,none⟩) 384 384,.slice aE nE cE,.slice aI nI cI])∧Hid (Nv.Floor c)∧Hid (x.heap.size≤G)∧Hid (Arr w' G 5 384 (Byts c))∧Hid (x.grownBy w' none)):=fun x=>navMake_any seed fl h1 h3 x
 have hfc:=fun (aE aI:Option Addr) (G nE nI cE cI:Nat) wq=>field_cells7 (some ⟨G,0,none⟩) aE aI 384 nE nI 384 cE cI wq
 refine wpAny_ready (rs:=[4,6,9]) (by kernel_rfl) (by simp) ?_
 refine AllReady.cons rfl (fun K hK=>?_) ?_
 ·go_simp
  go_wp2_with ((go_at_call 35;refine (uh cm _).mono ?_;rintro e w1 ⟨c,G,nE,nI,cE,cI,aE,aI,rfl,hF,hG,hA,hgm⟩))
  refine wpAny_take (i:=5) (v:=?_) rfl (by kernel_rfl) (by kernel_rfl) (by kernel_rfl) (fun _ _ _ h=>hQp _ _ _ _ _ h) (Or.inl ⟨by rfl,?_⟩) ?_
  rotate_left
  ·intro w
   go_simp
   with_reducible rfl
  exact lots_MI seed fl w0 w1 (gtr hg (uh hgm)) c G nE nI cE cI aE aI (uh hF) (Nat.le_trans hg.size (uh hG)) (uh hA).lie gI lI (hI.on (uh hgm)) Q hQp hQ
 refine AllReady.cons rfl (fun K hK=>?_) ?_
 ·go_simp
  refine hK _ _ ?_
  clear hK K
  exact lots_EI seed fl h1 h3 w0 _ (gal hg _) w.heap.size hg.size ((uh hZE' w).lie (m:=352) (by omega)) gI lI (hI.on (World.grownBy_alloc _ _ _)) Q hQp hQ
 refine AllReady.cons rfl (fun K hK=>?_) ?_
 ·go_simp
  refine hK _ _ ?_
  clear hK K
  exact lots_IB seed fl h1 h3 w0 _ (gal hg _) gI lI (hI.on (World.grownBy_alloc _ _ _)) w.heap.size hg.size (Arr.lit (heap_alloc_new w _)).lie Q hQp hQ
 exact AllReady.nil

set_option maxRecDepth 100000 in
set_option maxHeartbeats 6400000 in
theorem lots_B (seed fl:Int) (h1:1≤fl) (h3:fl≤3) (w0 w:World) (hg:w0.grownBy w none) (B:Nat) (lB:w0.heap.size≤B) (hB:Lie w B 29 11 (fun j=>#[.int .i64 0,.int .i64 0,.int .i64 0,.int .i64 0,.slice none 0 0,.slice none 0 0,.slice none 0 0,.int .i64 0,.int .i64 0,.int .i64 0,Value.int .i64 0][j]?.getD undef)) (Q:Exit→Act→World→Prop) (hQp:∀p d v a x,Q (.panic p) (Act.put a d v) x→Q (.panic p) a x) {t2 t3 t4 t5 t6 t7 t8 t9 Aa Ab Ac Ad Ae Af Ag Ah Ai Aj Ak Al Am Ao Ap Aq Ar As Au Av Aw Ax Ay Az AA AB AC AD AE AF AG AH AI AJ AK AL AM AN AO AP AQ AR AS AT AU AV AW AX AY AZ A0 A1 A2 A3 A4 A5 A6 A7 A8 A9 Ba Bb Bc Bd Be Bf Bg Bh Bi Bj Bk Bl Bm Bn Bo Bp Bq Br Bs Bt Bu Bv Bw Bx Bz BA BB BC BD BE BF BG BH BI BJ BK BL BM BN BO BP BQ BR BS BT BU BV BW BX BY BZ B0 B1 B2 B3 B4 B5 B6 B7 B8 B9 Ca Cb Cc Cd Ce Cf Cg Ch Ci Cj Ck Cl Cm Cn Co Cp Cq Cs Ct Cu Cv Cw Cx Cy Cz CA CB CC CD CE CF CG CH CI CJ CK CL CM CN CO CP CQ CR CS CT CU CV CW CX CY CZ C0 C1 C2 C3 C4 C5 C6 C7 C8 C9 Da Db Dc Dd De Df Dg Dh Di Dj Dk Dl Dm Dn Dp Dq Dr Ds Dt Du Dv Dw Dx Dy Dz DA DB DC DD:Value} (hQ:∀(c:Nat→Int) (B G gE gI:Nat) (w1:World) (u13 u24 u25 u26 u27 u28 u29 u30 u31 u32:Value),u13=.pointer (some ⟨B,0,none⟩)→Nv.Floor c→Gd.Begun w0 w1 B G gE gI seed fl c→Q .normal ⟨#[.int .i64 seed,.int .i64 fl,t2,t3,t4,t5,t6,t7,t8,t9,Aa,Ab,Ac,u13,Ad,Ae,Af,Ag,Ah,Ai,Aj,Ak,Al,Am,u24,u25,u26,u27,u28,u29,u30,u31,u32,Au,Av,Aw,Ax,Ay,Az,AA,AB,AC,AD,AE,AF,AG,AH,AI,AJ,AK,AL,AM,AN,AO,AP,AQ,AR,AS,AT,AU,AV,AW,AX,AY,AZ,A0,A1,A2,A3,A4,A5,A6,A7,A8,A9,Ba,Bb,Bc,Bd,Be,Bf,Bg,Bh,Bi,Bj,Bk,Bl,Bm,Bn,Bo,Bp,Bq,Br,Bs,Bt,Bu,Bv,Bw,Bx,Bz,BA,BB,BC,BD,BE,BF,BG,BH,BI,BJ,BK,BL,BM,BN,BO,BP,BQ,BR,BS,BT,BU,BV,BW,BX,BY,BZ,B0,B1,B2,B3,B4,B5,B6,B7,B8,B9,Ca,Cb,Cc,Cd,Ce,Cf,Cg,Ch,Ci,Cj,Ck,Cl,Cm,Cn,Co,Cp,Cq,Cs,Ct,Cu,Cv,Cw,Cx,Cy,Cz,CA,CB,CC,CD,CE,CF,CG,CH,CI,CJ,CK,CL,CM,CN,CO,CP,CQ,CR,CS,CT,CU,CV,CW,CX,CY,CZ,C0,C1,C2,C3,C4,C5,C6,C7,C8,C9,Da,Db,Dc,Dd,De,Df,Dg,Dh,Di,Dj,Dk,Dl,Dm,Dn,Dp,Dq,Dr,Ds,Dt,Du,Dv,Dw,Dx,Dy,Dz,DA,DB,DC,DD],[]⟩ w1) :
  wpAny Try.prog .any (cops ((Try.f18.body.map (cdrop 2)).getD .skip)) Q 6 #[true,true,true,true,false,false,false,false,false,true,false] ⟨#[.int .i64 seed,.int .i64 fl,t2,t3,t4,t5,t6,t7,t8,t9,Aa,Ab,Ac,.pointer (some ⟨B,0,none⟩),Ad,Ae,Af,Ag,Ah,Ai,Aj,Ak,Al,Am,.int .i64 seed,.int .i64 fl,.int .i64 seed,.int .i64 fl,Ao,Ap,Aq,Ar,As,Au,Av,Aw,Ax,Ay,Az,AA,AB,AC,AD,AE,AF,AG,AH,AI,AJ,AK,AL,AM,AN,AO,AP,AQ,AR,AS,AT,AU,AV,AW,AX,AY,AZ,A0,A1,A2,A3,A4,A5,A6,A7,A8,A9,Ba,Bb,Bc,Bd,Be,Bf,Bg,Bh,Bi,Bj,Bk,Bl,Bm,Bn,Bo,Bp,Bq,Br,Bs,Bt,Bu,Bv,Bw,Bx,Bz,BA,BB,BC,BD,BE,BF,BG,BH,BI,BJ,BK,BL,BM,BN,BO,BP,BQ,BR,BS,BT,BU,BV,BW,BX,BY,BZ,B0,B1,B2,B3,B4,B5,B6,B7,B8,B9,Ca,Cb,Cc,Cd,Ce,Cf,Cg,Ch,Ci,Cj,Ck,Cl,Cm,Cn,Co,Cp,Cq,Cs,Ct,Cu,Cv,Cw,Cx,Cy,Cz,CA,CB,CC,CD,CE,CF,CG,CH,CI,CJ,CK,CL,CM,CN,CO,CP,CQ,CR,CS,CT,CU,CV,CW,CX,CY,CZ,C0,C1,C2,C3,C4,C5,C6,C7,C8,C9,Da,Db,Dc,Dd,De,Df,Dg,Dh,Di,Dj,Dk,Dl,Dm,Dn,Dp,Dq,Dr,Ds,Dt,Du,Dv,Dw,Dx,Dy,Dz,DA,DB,DC,DD],[]⟩ w:=by
 conv=>arg 3;whnf
 obtain ⟨ZE,hmE,hZE⟩:=make32
 have hZE':=hide hZE
 clear hZE
 obtain ⟨ZI,hmI,hZI⟩:=make40
 have hZI':=hide hZI
 clear hZI
 have cm:Hid (∀x,Calls Try.prog 35 #[.int .i64 seed,.int .i64 fl] x fun e w'=>∃(c:Nat→Int) (G nE nI cE cI:Nat) (aE aI:Option Addr),e=.returned (.agg #[.slice (some ⟨G,0,none⟩) 384 384,.slice aE nE cE,.slice aI nI cI])∧Hid (Nv.Floor c)∧Hid (x.heap.size≤G)∧Hid (Arr w' G 5 384 (Byts c))∧Hid (x.grownBy w' none)):=fun x=>navMake_any seed fl h1 h3 x
 have hfc:=fun (aE aI:Option Addr) (G nE nI cE cI:Nat) wq=>field_cells7 (some ⟨G,0,none⟩) aE aI 384 nE nI 384 cE cI wq
 refine wpAny_ready (rs:=[4,6,7]) (by kernel_rfl) (by simp) ?_
 refine AllReady.cons rfl (fun K hK=>?_) ?_
 ·go_simp
  go_wp2_with ((go_at_call 35;refine (uh cm _).mono ?_;rintro e w1 ⟨c,G,nE,nI,cE,cI,aE,aI,rfl,hF,hG,hA,hgm⟩))
  refine wpAny_take (i:=5) (v:=?_) rfl (by kernel_rfl) (by kernel_rfl) (by kernel_rfl) (fun _ _ _ h=>hQp _ _ _ _ _ h) (Or.inl ⟨by rfl,?_⟩) ?_
  rotate_left
  ·intro w
   go_simp
   with_reducible rfl
  exact lots_MB seed fl w0 w1 (gtr hg (uh hgm)) c G nE nI cE cI aE aI (uh hF) (Nat.le_trans hg.size (uh hG)) (uh hA).lie B lB (hB.on (uh hgm)) Q hQp hQ
 refine AllReady.cons rfl (fun K hK=>?_) ?_
 ·go_simp
  refine hK _ _ ?_
  clear hK K
  exact lots_EB seed fl h1 h3 w0 _ (gal hg _) w.heap.size hg.size ((uh hZE' w).lie (m:=352) (by omega)) B lB (hB.on (World.grownBy_alloc _ _ _)) Q hQp hQ
 refine AllReady.cons rfl (fun K hK=>?_) ?_
 ·go_simp
  refine hK _ _ ?_
  clear hK K
  exact lots_IB seed fl h1 h3 w0 _ (gal hg _) w.heap.size hg.size (uh hZI' w) B lB (hB.on (World.grownBy_alloc _ _ _)) Q hQp hQ
 exact AllReady.nil

set_option maxRecDepth 100000 in
set_option maxHeartbeats 6400000 in
theorem lots_N (seed fl:Int) (h1:1≤fl) (h3:fl≤3) (w0 w:World) (hg:w0.grownBy w none) (Q:Exit→Act→World→Prop) (hQp:∀p d v a x,Q (.panic p) (Act.put a d v) x→Q (.panic p) a x) {t2 t3 t4 t5 t6 t7 t8 t9 Aa Ab Ac Ad Ae Af Ag Ah Ai Aj Ak Al Am Ao Ap Aq Ar As Au Av Aw Ax Ay Az AA AB AC AD AE AF AG AH AI AJ AK AL AM AN AO AP AQ AR AS AT AU AV AW AX AY AZ A0 A1 A2 A3 A4 A5 A6 A7 A8 A9 Ba Bb Bc Bd Be Bf Bg Bh Bi Bj Bk Bl Bm Bn Bo Bp Bq Br Bs Bt Bu Bv Bw Bx Bz BA BB BC BD BE BF BG BH BI BJ BK BL BM BN BO BP BQ BR BS BT BU BV BW BX BY BZ B0 B1 B2 B3 B4 B5 B6 B7 B8 B9 Ca Cb Cc Cd Ce Cf Cg Ch Ci Cj Ck Cl Cm Cn Co Cp Cq Cs Ct Cu Cv Cw Cx Cy Cz CA CB CC CD CE CF CG CH CI CJ CK CL CM CN CO CP CQ CR CS CT CU CV CW CX CY CZ C0 C1 C2 C3 C4 C5 C6 C7 C8 C9 Da Db Dc Dd De Df Dg Dh Di Dj Dk Dl Dm Dn Dp Dq Dr Ds Dt Du Dv Dw Dx Dy Dz DA DB DC DD DE:Value} (hQ:∀(c:Nat→Int) (B G gE gI:Nat) (w1:World) (u13 u24 u25 u26 u27 u28 u29 u30 u31 u32:Value),u13=.pointer (some ⟨B,0,none⟩)→Nv.Floor c→Gd.Begun w0 w1 B G gE gI seed fl c→Q .normal ⟨#[.int .i64 seed,.int .i64 fl,t2,t3,t4,t5,t6,t7,t8,t9,Aa,Ab,Ac,u13,Ae,Af,Ag,Ah,Ai,Aj,Ak,Al,Am,Ao,u24,u25,u26,u27,u28,u29,u30,u31,u32,Av,Aw,Ax,Ay,Az,AA,AB,AC,AD,AE,AF,AG,AH,AI,AJ,AK,AL,AM,AN,AO,AP,AQ,AR,AS,AT,AU,AV,AW,AX,AY,AZ,A0,A1,A2,A3,A4,A5,A6,A7,A8,A9,Ba,Bb,Bc,Bd,Be,Bf,Bg,Bh,Bi,Bj,Bk,Bl,Bm,Bn,Bo,Bp,Bq,Br,Bs,Bt,Bu,Bv,Bw,Bx,Bz,BA,BB,BC,BD,BE,BF,BG,BH,BI,BJ,BK,BL,BM,BN,BO,BP,BQ,BR,BS,BT,BU,BV,BW,BX,BY,BZ,B0,B1,B2,B3,B4,B5,B6,B7,B8,B9,Ca,Cb,Cc,Cd,Ce,Cf,Cg,Ch,Ci,Cj,Ck,Cl,Cm,Cn,Co,Cp,Cq,Cs,Ct,Cu,Cv,Cw,Cx,Cy,Cz,CA,CB,CC,CD,CE,CF,CG,CH,CI,CJ,CK,CL,CM,CN,CO,CP,CQ,CR,CS,CT,CU,CV,CW,CX,CY,CZ,C0,C1,C2,C3,C4,C5,C6,C7,C8,C9,Da,Db,Dc,Dd,De,Df,Dg,Dh,Di,Dj,Dk,Dl,Dm,Dn,Dp,Dq,Dr,Ds,Dt,Du,Dv,Dw,Dx,Dy,Dz,DA,DB,DC,DD,DE],[]⟩ w1) :
  wpAny Try.prog .any (cops ((Try.f18.body.map (cdrop 2)).getD .skip)) Q 7 #[true,true,true,true,false,false,false,false,false,false,false] ⟨#[.int .i64 seed,.int .i64 fl,t2,t3,t4,t5,t6,t7,t8,t9,Aa,Ab,Ac,Ad,Ae,Af,Ag,Ah,Ai,Aj,Ak,Al,Am,Ao,.int .i64 seed,.int .i64 fl,.int .i64 seed,.int .i64 fl,Ap,Aq,Ar,As,Au,Av,Aw,Ax,Ay,Az,AA,AB,AC,AD,AE,AF,AG,AH,AI,AJ,AK,AL,AM,AN,AO,AP,AQ,AR,AS,AT,AU,AV,AW,AX,AY,AZ,A0,A1,A2,A3,A4,A5,A6,A7,A8,A9,Ba,Bb,Bc,Bd,Be,Bf,Bg,Bh,Bi,Bj,Bk,Bl,Bm,Bn,Bo,Bp,Bq,Br,Bs,Bt,Bu,Bv,Bw,Bx,Bz,BA,BB,BC,BD,BE,BF,BG,BH,BI,BJ,BK,BL,BM,BN,BO,BP,BQ,BR,BS,BT,BU,BV,BW,BX,BY,BZ,B0,B1,B2,B3,B4,B5,B6,B7,B8,B9,Ca,Cb,Cc,Cd,Ce,Cf,Cg,Ch,Ci,Cj,Ck,Cl,Cm,Cn,Co,Cp,Cq,Cs,Ct,Cu,Cv,Cw,Cx,Cy,Cz,CA,CB,CC,CD,CE,CF,CG,CH,CI,CJ,CK,CL,CM,CN,CO,CP,CQ,CR,CS,CT,CU,CV,CW,CX,CY,CZ,C0,C1,C2,C3,C4,C5,C6,C7,C8,C9,Da,Db,Dc,Dd,De,Df,Dg,Dh,Di,Dj,Dk,Dl,Dm,Dn,Dp,Dq,Dr,Ds,Dt,Du,Dv,Dw,Dx,Dy,Dz,DA,DB,DC,DD,DE],[]⟩ w:=by
 conv=>arg 3;whnf
 obtain ⟨ZE,hmE,hZE⟩:=make32
 have hZE':=hide hZE
 clear hZE
 obtain ⟨ZI,hmI,hZI⟩:=make40
 have hZI':=hide hZI
 clear hZI
 have cm:Hid (∀x,Calls Try.prog 35 #[.int .i64 seed,.int .i64 fl] x fun e w'=>∃(c:Nat→Int) (G nE nI cE cI:Nat) (aE aI:Option Addr),e=.returned (.agg #[.slice (some ⟨G,0,none⟩) 384 384,.slice aE nE cE,.slice aI nI cI])∧Hid (Nv.Floor c)∧Hid (x.heap.size≤G)∧Hid (Arr w' G 5 384 (Byts c))∧Hid (x.grownBy w' none)):=fun x=>navMake_any seed fl h1 h3 x
 have hfc:=fun (aE aI:Option Addr) (G nE nI cE cI:Nat) wq=>field_cells7 (some ⟨G,0,none⟩) aE aI 384 nE nI 384 cE cI wq
 refine wpAny_ready (rs:=[4,6,7,9]) (by kernel_rfl) (by simp) ?_
 refine AllReady.cons rfl (fun K hK=>?_) ?_
 ·go_simp
  go_wp2_with ((go_at_call 35;refine (uh cm _).mono ?_;rintro e w1 ⟨c,G,nE,nI,cE,cI,aE,aI,rfl,hF,hG,hA,hgm⟩))
  refine wpAny_take (i:=5) (v:=?_) rfl (by kernel_rfl) (by kernel_rfl) (by kernel_rfl) (fun _ _ _ h=>hQp _ _ _ _ _ h) (Or.inl ⟨by rfl,?_⟩) ?_
  rotate_left
  ·intro w
   go_simp
   with_reducible rfl
  exact lots_M seed fl w0 w1 (gtr hg (uh hgm)) c G nE nI cE cI aE aI (uh hF) (Nat.le_trans hg.size (uh hG)) (uh hA).lie Q hQp hQ
 refine AllReady.cons rfl (fun K hK=>?_) ?_
 ·go_simp
  refine hK _ _ ?_
  clear hK K
  exact lots_E seed fl h1 h3 w0 _ (gal hg _) w.heap.size hg.size ((uh hZE' w).lie (m:=352) (by omega)) Q hQp hQ
 refine AllReady.cons rfl (fun K hK=>?_) ?_
 ·go_simp
  refine hK _ _ ?_
  clear hK K
  exact lots_I seed fl h1 h3 w0 _ (gal hg _) w.heap.size hg.size (uh hZI' w) Q hQp hQ
 refine AllReady.cons rfl (fun K hK=>?_) ?_
 ·go_simp
  refine hK _ _ ?_
  clear hK K
  exact lots_B seed fl h1 h3 w0 _ (gal hg _) w.heap.size hg.size (Arr.lit (heap_alloc_new w _)).lie Q hQp hQ
 exact AllReady.nil

end Go.Proofs.Ytapgkgbpekkdjaa
