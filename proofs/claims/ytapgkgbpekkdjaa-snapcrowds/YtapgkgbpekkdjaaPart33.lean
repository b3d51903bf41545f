import Derived.Test.YtapgkgbpekkdjaaPart32
import Derived.Test.YtapgkgbpekkdjaaPart30
namespace Go.Proofs.Ytapgkgbpekkdjaa
open Go.RowKit

set_option maxRecDepth 100000 in
set_option maxHeartbeats 12800000 in
theorem world_items (seat:Int) (s0:0≤seat) (s4:seat<4) (kc:Nat) (hkc:kc<384) (s g c:Nat→Int) (E:Nat→Nat→Int) (hkw:Gr.walkB (c kc)=true) (aL:Option Addr) (nL cL:Nat) (M:Nat→Nat→Int) (R B gC gE gI ob oo L cO:Nat) (O:Nat→Nat) (hL0:0<L) (hL4:L≤384) (hOw:∀i,i<L→O i<384∧Gr.walkB (c (O i))=true) (w x:World)
  (hM:Gd.Some w aL (min nL 20) M) (hX:Gd.Laid w x R B gC gE gI s g c E (fun _ _=>0)) (hO:Gd.Open x ob oo L O B gE gI) (Q:Ending→World→Prop) (hQ:∀e w',Gd.Tells w s g c E kc nL M e w'→Q e w') {t0 t1 t3 t5 t6 t7 t8 t9 Aa Ab Ac Ad Ae Af Ag Ah Ai Aj Ak Al Am Ao Ap Aq Ar As Au Av Aw Ax Ay Az AA AB AC AD AE AF AG AH AI AJ AK AL AM AN AO AP AQ AR AS AT AU AV AW AX AY AZ A0 A1 A2 A3 A4 A5 A6 A7 A8 A9 Ba Bb Bc Bd Be Bf Bg Bh Bi Bj Bk Bl Bm Bn Bo Bp Bq Br Bs Bt Bu Bv Bw Bx Bz BA BB BC BD BE BF BG BH BI BJ BK BL BM BN BO BP BQ BR BS BT BU BV BW BX BY BZ B0 B1 B2 B3 B4 B5 B6 B7 B8 B9 Ca Cb Cc Cd Ce Cf Cg Ch Ci Cj Ck Cl Cm Cn Co Cp Cq Cs Ct Cu Cv Cw Cx Cy Cz CA CB CC CD CE CF CG CH CI CJ CK CL CM CN CO CP CQ CR CS CT CU CV CW CX CY CZ C0 C1 C2 C3 C4 C5 C6 C7 C8 C9 Da Db Dc Dd De Df Dg Dh Di Dj Dk Dl Dm Dn Dp Dq Dr Ds Dt Du Dv Dw Dx Dy Dz DA DB DC DD DE:Value} :
  Code.wp Try.prog ((Try.f18.body.map (cdrop 12)).getD .skip) (bodyPost Try.prog Try.f18 Q) ⟨#[t0,t1,.int .i64 seat,t3,.slice aL nL cL,t5,t6,t7,t8,t9,Aa,Ab,.pointer (some ⟨R,0,none⟩),.pointer (some ⟨B,0,none⟩),.slice (some ⟨ob,oo,none⟩) L cO,Ac,.int .i64 (kc:Int),Ad,Ae,Af,Ag,Ah,Ai,Aj,Ak,Al,Am,Ao,Ap,Aq,Ar,As,Au,Av,Aw,Ax,Ay,Az,AA,AB,AC,AD,AE,AF,AG,AH,AI,AJ,AK,AL,AM,AN,AO,AP,AQ,AR,AS,AT,AU,AV,AW,AX,AY,AZ,A0,A1,A2,A3,A4,A5,A6,A7,A8,A9,Ba,Bb,Bc,Bd,Be,Bf,Bg,Bh,Bi,Bj,Bk,Bl,Bm,Bn,Bo,Bp,Bq,Br,Bs,Bt,Bu,Bv,Bw,Bx,Bz,BA,BB,BC,BD,BE,BF,BG,BH,BI,BJ,BK,BL,BM,BN,BO,BP,BQ,BR,BS,BT,BU,BV,BW,BX,BY,BZ,B0,B1,B2,B3,B4,B5,B6,B7,B8,B9,Ca,Cb,Cc,Cd,Ce,Cf,Cg,Ch,Ci,Cj,Ck,Cl,Cm,Cn,Co,Cp,Cq,Cs,Ct,Cu,Cv,Cw,Cx,Cy,Cz,CA,CB,CC,CD,CE,CF,CG,CH,CI,CJ,CK,CL,CM,CN,CO,CP,CQ,CR,CS,CT,CU,CV,CW,CX,CY,CZ,C0,C1,C2,C3,C4,C5,C6,C7,C8,C9,Da,Db,Dc,Dd,De,Df,Dg,Dh,Di,Dj,Dk,Dl,Dm,Dn,Dp,Dq,Dr,Ds,Dt,Du,Dv,Dw,Dx,Dy,Dz,DA,DB,DC,DD,DE],[]⟩ x:=by
 conv=>arg 2;whnf
 have hX':=hide hX
 have hO':=hide hO
 have hM':=hide hM
 have hOw':=hide hOw
 have hQ':=hide hQ
 clear hX hO hM hOw hQ
 go_wp2_with fail
 go_loopw [18] (fun vi wr=>∃(k:Nat) (I:Nat→Nat→Int),k≤min nL 20∧vi=.int .i64 (k:Int)∧Hid (Gd.Laid w wr R B gC gE gI s g c E I)∧Hid (Gd.Open wr ob oo L O B gE gI)∧Hid (Gd.Ok c 40 I)∧Hid (Gd.Known k kc M I)) (fun vi _=>30 - (intOf vi).toNat)
 case atStart=>exact ⟨0,_,by omega,rfl,hX',hO',Gd.ok_none c,fun _=>rfl,fun h=>absurd h (by omega)⟩
 case round =>
  clear hX' hO'
  obtain ⟨k,I,hk,rfl,hX,hO,hOk,hKn⟩:=hrel
  by_cases hlt:k<min nL 20
  ·have hg0:=(uh hX).grown
   obtain ⟨b,o,rfl,hb,p0,p1,p2,p3⟩:=((uh hM').on hg0).row hlt
   have hlt1:(k:Int)<(nL:Int):=by omega
   have hlt2:(k:Int)<20:=by omega
   have HL:=hide hlt
   obtain ⟨a0,e0⟩:∃a,M k 0=a:=⟨_,rfl⟩
   obtain ⟨a1,e1⟩:∃a,M k 1=a:=⟨_,rfl⟩
   obtain ⟨a2,e2⟩:∃a,M k 2=a:=⟨_,rfl⟩
   obtain ⟨a3,e3⟩:∃a,M k 3=a:=⟨_,rfl⟩
   rw [e0] at p0
   rw [e1] at p1
   rw [e2] at p2
   rw [e3] at p3
   have he:=hide (And.intro e0 (And.intro e1 e3))
   clear hlt hk hg0 e0 e1 e2 e3
   go_upto_region 20 with fail
   refine told_new a0 a1 b o k nL cL wr hb hlt1 p0 p1 _ ?_
   intro X wc v105 v106 v107 v108 v109 v110 v111 v112 v113 v114 v115 v116 v117 v118 v119 hI hgx hXn
   have q0:=(gce (uh hgx) b _ hb (by simp)).trans p0
   have q2:=(gce (uh hgx) b _ hb (by simp)).trans p2
   have q3:=(gce (uh hgx) b _ hb (by simp)).trans p3
   have hOx:=hide ((uh hO).on (uh hgx))
   obtain ⟨wh,hwh⟩:∃wh,wh=1+a1 % 4:=⟨_,rfl⟩
   have hw1:1≤wh:=by omega
   rw [←hwh] at hI
   have x1:=(item_cells (uh hI)).2.1
   have hwh':=hide hwh
   clear p0 p1 p2 p3 hwh
   go_upto_block 4 with fail
   rename_i hKK
   have hK0:=hide hKK
   clear hKK
   refine told_put seat s0 s4 kc hkc c hkw b o k nL cL gE gI B ob oo L cO X O hL0 hL4 (uh hOw') a0 a1 a2 a3 wh (uh hwh') wr wc hb hlt1 q0 q2 q3 hOx hI hgx hXn _ ?_
   intro kd a b' w2 v20 v122 v123 v124 v125 v126 v127 v128 v129 v130 v131 v132 v133 v134 v135 v136 v137 v138 v139 v140 v141 v142 v143 v144 v145 v146 v147 v148 v149 v150 v151 v152 v153 v154 v155 v156 v157 v158 v159 v160 v161 v162 v163 v164 v165 v166 v167 v168 v169 v170 v171 v172 v173 v174 v175 v176 v177 v178 v179 v180 v181 v182 v183 v184 v185 v186 v187 v188 v189 v190 v191 v192 v193 v194 v195 v196 v197 v198 hI2 hg2 hfit hex
   refine uh hK0 _ _ (told_tail w k R B gC gE gI ob oo L X nL kc O s g c E I M kd wh a b' a0 a1 a3 hw1 wr w2 HL hlt2 hX hO hOk hKn he hXn hI2 hg2 hfit hex _ ?_)
   intro J w3 v199 v200 v201 v202 v203 v204 v205 v206 v207 v208 v209 v210 v211 v212 v213 v214 v215 v216 v217 v218 v219 v220 v221 v222 v223 v224 hX3 hO3 hOk3 hKn3
   clear hX hO hOk hKn hI hI2 hgx hg2 hfit hex q0 q2 q3 x1 hOx
   go_wp2
   go_roundw
   case rel=>exact ⟨k+1,_,by have:=uh HL;omega,by go_num,hX3,hO3,hOk3,hKn3⟩
   case measure=>simp [intOf];omega
  ·have hkk:min nL 20=k:=by omega
   obtain ⟨b0,b1,b2,b3,b4,b5,b6,b7,b8,b9,b10⟩:=(uh hX).hold.box.eleven
   have fz:=(uh hX).res.free
   obtain ⟨z0,z1,z2,z3,z4,z5,z6,z7,z8,z9,z10⟩:=Gd.res_cells (uh hX).res
   have hfin:=hide (fun vs=>(uh hX).worlds vs)
   by_cases hn:nL≤20
   ·have hge:¬(k:Int)<(nL:Int):=by omega
    have hkk':=hide hkk
    clear hlt hk hkk hn
    go_wp2
    refine bodyPost_ret (v:=.agg (Gd.world s gC gE gI 384 32 40 g)) (by simp [results,Try.results18,go_sem,Gd.world,z0,z1,z2,z3,z4,z5,z6,z7,z8,z9,z10]) rfl ?_
    exact uh hQ' _ _ ⟨I,uh hfin [_,_,_,_,_,_,_,_,_,_,_],hOk,by rw [uh hkk'];exact uh hKn,_,_,_,_,_,rfl⟩
   ·have hlt1:(k:Int)<(nL:Int):=by omega
    have hge:¬(k:Int)<20:=by omega
    have hkk':=hide hkk
    clear hlt hk hkk hn
    go_wp2
    refine bodyPost_ret (v:=.agg (Gd.world s gC gE gI 384 32 40 g)) (by simp [results,Try.results18,go_sem,Gd.world,z0,z1,z2,z3,z4,z5,z6,z7,z8,z9,z10]) rfl ?_
    exact uh hQ' _ _ ⟨I,uh hfin [_,_,_,_,_,_,_,_,_,_,_],hOk,by rw [uh hkk'];exact uh hKn,_,_,_,_,_,rfl⟩

end Go.Proofs.Ytapgkgbpekkdjaa
