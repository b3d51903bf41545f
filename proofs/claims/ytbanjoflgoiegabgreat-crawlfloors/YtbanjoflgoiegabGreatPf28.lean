import Derived.Test.YtbanjoflgoiegabGreatPf26
namespace Go.Proofs.YtbanjoflgoiegabGreat
open Go.RowKit

set_option maxRecDepth 100000 in
set_option maxHeartbeats 12800000 in
theorem told_tail (w:World) (k R B gC gE gI ob oo L X nL kc:Nat) (O:Nat→Nat) (s g c:Nat→Int) (E I M:Nat→Nat→Int) (kd wh a b' a0 a1 a3:Int) (hw1:1≤wh) (wr wc:World) (HL:Hid (k<min nL 20)) (hlt2:(k:Int)<20) (hX:Hid (Gd.Laid w wr R B gC gE gI s g c E I)) (hO:Hid (Gd.Open wr ob oo L O B gE gI)) (hOk:Hid (Gd.Ok c 40 I)) (hKn:Hid (Gd.Known k kc M I)) (he:Hid (M k 0=a0∧M k 1=a1∧M k 3=a3)) (hXn:Hid (wr.heap.size≤X)) (hI2:Hid (Lie wc X 47 4 (Ints (Gd.row kd wh a b')))) (hg2:Hid (wr.grownBy wc none)) (hfit:Hid (Gd.Fit c kd wh a b')) (hex:Hid (a0=0→a1=0→a3=0→kd=1∧wh=1∧a=(kc:Int) % 24∧b'=(kc:Int) / 24)) (Q:Exit→Act→World→Prop) {t0 t1 t2 t3 t4 t5 t6 t7 t8 t9 Aa Ab Ac Ad Ae Af Ag Ah Ai Aj Ak Al Am Ao Ap Aq Ar As Au Av Aw Ax Ay Az AA AB AC AD AE AF AG AH AI AJ AK AL AM AN AO AP AQ AR AS AT AU AV AW AX AY AZ A0 A1 A2 A3 A4 A5 A6 A7 A8 A9 Ba Bb Bc Bd Be Bf Bg Bh Bi Bj Bk Bl Bm Bn Bo Bp Bq Br Bs Bt Bu Bv Bw Bx Bz BA BB BC BD BE BF BG BH BI BJ BK BL BM BN BO BP BQ BR BS BT BU BV BW BX BY BZ B0 B1 B2 B3 B4 B5 B6 B7 B8 B9 Ca Cb Cc Cd Ce Cf Cg Ch Ci Cj Ck Cl Cm Cn Co Cp Cq Cs Ct Cu Cv Cw Cx Cy Cz CA CB CC CD CE CF CG CH CI CJ CK CL CM CN CO CP CQ CR CS CT CU CV CW CX CY CZ C0 C1 C2 C3 C4 C5 C6 C7 C8 C9 Da Db Dc Dd De Df Dg Dh Di Dj Dk Dl Dm Dn Dp Dq Dr Ds Dt Du Dv Dw Dx Dy Dz DA DB DC DD DE DF:Value}
  (hQ:∀(J:Nat→Nat→Int) (w2:World) (u199 u200 u201 u202 u203 u204 u205 u206 u207 u208 u209 u210 u211 u212 u213 u214 u215 u216 u217 u218 u219 u220 u221 u222 u223 u224:Value),Hid (Gd.Laid w w2 R B gC gE gI s g c E J)→Hid (Gd.Open w2 ob oo L O B gE gI)→Hid (Gd.Ok c 40 J)→Hid (Gd.Known (k+1) kc M J)→Q .normal ⟨#[t0,t1,t2,t3,t4,t5,t6,t7,t8,t9,Aa,Ab,Ac,.pointer (some ⟨B,0,none⟩),Ad,Ae,Af,Ag,.int .i64 (k:Int),.pointer (some ⟨X,0,none⟩),Ah,Ai,Aj,Ak,Al,Am,Ao,Ap,Aq,Ar,As,Au,Av,Aw,Ax,Ay,Az,AA,AB,AC,AD,AE,AF,AG,AH,AI,AJ,AK,AL,AM,AN,AO,AP,AQ,AR,AS,AT,AU,AV,AW,AX,AY,AZ,A0,A1,A2,A3,A4,A5,A6,A7,A8,A9,Ba,Bb,Bc,Bd,Be,Bf,Bg,Bh,Bi,Bj,Bk,Bl,Bm,Bn,Bo,Bp,Bq,Br,Bs,Bt,Bu,Bv,Bw,Bx,Bz,BA,BB,BC,BD,BE,BF,BG,BH,BI,BJ,BK,BL,BM,BN,BO,BP,BQ,BR,BS,BT,BU,BV,BW,BX,BY,BZ,B0,B1,B2,B3,B4,B5,B6,B7,B8,B9,Ca,Cb,Cc,Cd,Ce,Cf,Cg,Ch,Ci,Cj,Ck,Cl,Cm,Cn,Co,Cp,Cq,Cs,Ct,Cu,Cv,Cw,Cx,Cy,Cz,CA,CB,CC,CD,CE,CF,CG,CH,CI,CJ,CK,CL,CM,CN,CO,CP,CQ,CR,CS,CT,CU,CV,CW,CX,CY,CZ,C0,C1,C2,C3,C4,C5,C6,C7,C8,C9,Da,Db,Dc,Dd,u199,u200,u201,u202,u203,u204,u205,u206,u207,u208,u209,u210,u211,u212,u213,u214,u215,u216,u217,u218,u219,u220,u221,u222,u223,u224,DF],[]⟩ w2) :
  Code.wp Tryz.prog (csnd (csnd (cin (cfst (csnd (cin (cin (csnd (cfst ((Tryz.f22.body.map (cdrop 12)).getD .skip)))))))))) Q ⟨#[t0,t1,t2,t3,t4,t5,t6,t7,t8,t9,Aa,Ab,Ac,.pointer (some ⟨B,0,none⟩),Ad,Ae,Af,Ag,.int .i64 (k:Int),.pointer (some ⟨X,0,none⟩),Ah,Ai,Aj,Ak,Al,Am,Ao,Ap,Aq,Ar,As,Au,Av,Aw,Ax,Ay,Az,AA,AB,AC,AD,AE,AF,AG,AH,AI,AJ,AK,AL,AM,AN,AO,AP,AQ,AR,AS,AT,AU,AV,AW,AX,AY,AZ,A0,A1,A2,A3,A4,A5,A6,A7,A8,A9,Ba,Bb,Bc,Bd,Be,Bf,Bg,Bh,Bi,Bj,Bk,Bl,Bm,Bn,Bo,Bp,Bq,Br,Bs,Bt,Bu,Bv,Bw,Bx,Bz,BA,BB,BC,BD,BE,BF,BG,BH,BI,BJ,BK,BL,BM,BN,BO,BP,BQ,BR,BS,BT,BU,BV,BW,BX,BY,BZ,B0,B1,B2,B3,B4,B5,B6,B7,B8,B9,Ca,Cb,Cc,Cd,Ce,Cf,Cg,Ch,Ci,Cj,Ck,Cl,Cm,Cn,Co,Cp,Cq,Cs,Ct,Cu,Cv,Cw,Cx,Cy,Cz,CA,CB,CC,CD,CE,CF,CG,CH,CI,CJ,CK,CL,CM,CN,CO,CP,CQ,CR,CS,CT,CU,CV,CW,CX,CY,CZ,C0,C1,C2,C3,C4,C5,C6,C7,C8,C9,Da,Db,Dc,Dd,De,Df,Dg,Dh,Di,Dj,Dk,Dl,Dm,Dn,Dp,Dq,Dr,Ds,Dt,Du,Dv,Dw,Dx,Dy,Dz,DA,DB,DC,DD,DE,DF],[]⟩ wc:=by
 conv=>arg 2;whnf
 have hQ':=hide hQ
 clear hQ
 have fX:=(uh hI2).free
 obtain ⟨m,hm⟩:∃m:Nat,m=2*k:=⟨_,rfl⟩
 have hm2:=hide hm
 have hm40:Hid (m<40):=by
  show m<40
  have:=uh HL
  omega
 have hmk:(2*(k:Int)) % 40=(m:Int):=by omega
 have hmt:(2*(k:Int)).tmod 40=(m:Int):=by rw [Int.tmod_eq_emod_of_nonneg (by omega)];exact hmk
 have hmi:(m:Int)<40:=by omega
 have hex2:Hid (M k 0=0→M k 1=0→M k 3=0→kd=1∧wh=1∧a=(kc:Int) % 24∧b'=(kc:Int) / 24):=by
  obtain ⟨e0,e1,e3⟩:=uh he
  intro h0 h1 h3
  exact uh hex (by rw [←e0];exact h0) (by rw [←e1];exact h1) (by rw [←e3];exact h3)
 have hwne:Hid (wh≠0):=by
  show wh≠0
  omega
 clear hm hex he
 by_cases h4:kd=4
 ·by_cases hw:wh=1
  ·have hpl:=hide ((uh hfit).placed (fun _=>hw))
   subst h4
   subst hw
   have hexz:Hid (¬(M k 0=0∧M k 1=0∧M k 3=0)):=fun ⟨h0,h1,h3⟩=>absurd (uh hex2 h0 h1 h3).1 (by omega)
   clear hfit hex2
   have hXz:=hide ((uh hX).on (uh hg2))
   have hOz:=hide ((uh hO).on (uh hg2))
   obtain ⟨x0,x1,x2,x3⟩:=item_cells (uh hI2)
   have q6:=(uh hXz).hold.box.eleven.2.2.2.2.2.2.1
   have fI:=(uh hXz).hold.lists.items.free
   obtain ⟨u0,u1,u2,u3⟩:=(uh hXz).hold.lists.its.row (uh hm40)
   have cin:=hide (refIn7_same gI 40 40 I 1 a b' wc (uh hXz).hold.lists.its)
   obtain ⟨f,hf⟩:∃f,Gd.find I 40 1 a b'=f:=⟨_,rfl⟩
   rw [hf] at cin
   have hf':=hide hf
   clear hf
   go_wp2_with fail
   refine (uh cin).mono ?_
   rintro e wy ⟨rfl,hy⟩
   subst wy
   clear cin
   by_cases hneg:f<0
   ·have hfin:Hid (Gd.Laid w _ R B gC gE gI s g c E _):=(uh hXz).put m 4 1 a b'
    have hopn:=hide ((uh hOz).put m (.int .i64 4) (.int .i64 1) (.int .i64 a) (.int .i64 b'))
    have hok:=hide (Gd.ok_tell (m:=m) (uh hOk) (uh hpl) (by rw [uh hf'];exact hneg))
    have hkn:=hide (Gd.known_yes (kd:=4) (wh:=1) (a:=a) (b:=b') (uh hKn) (uh hm2) (fun h0 h1 h3=>(uh hexz ⟨h0,h1,h3⟩).elim))
    go_wp2_with fail
    exact uh hQ' _ _ _ _ _ _ _ _ _ _ _ _ _ _ _ _ _ _ _ _ _ _ _ _ _ _ _ _ hfin hopn hok hkn
   ·have hkn:=hide (Gd.known_no (uh hKn) (by rw [uh hf'];exact hneg) (uh hwne))
    go_wp2_with fail
    exact uh hQ' _ _ _ _ _ _ _ _ _ _ _ _ _ _ _ _ _ _ _ _ _ _ _ _ _ _ _ _ hXz hOz hOk hkn
  ·subst h4
   have hpl:=hide ((uh hfit).mend hw)
   have hexz:Hid (¬(M k 0=0∧M k 1=0∧M k 3=0)):=fun ⟨h0,h1,h3⟩=>absurd (uh hex2 h0 h1 h3).1 (by omega)
   have hwb:(wh == 1)=false:=by simp [hw]
   obtain ⟨x0,x1,x2,x3⟩:=item_cells (uh hI2)
   have hIz:=hide (item_k (a':=1) (uh hI2))
   have hgz:Hid (wr.grownBy (wc.setCell ⟨X,0,none⟩ (.int .i64 1)) none):=gow (uh hg2) (gs0 wc X 0 _) (fun n e=>by cases e;exact uh hXn)
   clear hfit hex2
   go_upto_region 38 with fail
   generalize wc.setCell ⟨X,0,none⟩ (.int .i64 1)=wz at hIz hgz ⊢
   clear x0 x1 x2 x3
   have hXz:=hide ((uh hX).on (uh hgz))
   have hOz:=hide ((uh hO).on (uh hgz))
   obtain ⟨x0,x1,x2,x3⟩:=item_cells (uh hIz)
   have q6:=(uh hXz).hold.box.eleven.2.2.2.2.2.2.1
   have fI:=(uh hXz).hold.lists.items.free
   obtain ⟨u0,u1,u2,u3⟩:=(uh hXz).hold.lists.its.row (uh hm40)
   have cin:=hide (refIn7_same gI 40 40 I wh a b' wz (uh hXz).hold.lists.its)
   obtain ⟨f,hf⟩:∃f,Gd.find I 40 wh a b'=f:=⟨_,rfl⟩
   rw [hf] at cin
   have hf':=hide hf
   clear hf
   go_wp2_with fail
   refine (uh cin).mono ?_
   rintro e wy ⟨rfl,hy⟩
   subst wy
   clear cin
   by_cases hneg:f<0
   ·have hfin:Hid (Gd.Laid w _ R B gC gE gI s g c E _):=(uh hXz).put m 1 wh a b'
    have hopn:=hide ((uh hOz).put m (.int .i64 1) (.int .i64 wh) (.int .i64 a) (.int .i64 b'))
    have hok:=hide (Gd.ok_tell (m:=m) (uh hOk) (uh hpl) (by rw [uh hf'];exact hneg))
    have hkn:=hide (Gd.known_yes (kd:=1) (wh:=wh) (a:=a) (b:=b') (uh hKn) (uh hm2) (fun h0 h1 h3=>(uh hexz ⟨h0,h1,h3⟩).elim))
    go_wp2_with fail
    exact uh hQ' _ _ _ _ _ _ _ _ _ _ _ _ _ _ _ _ _ _ _ _ _ _ _ _ _ _ _ _ hfin hopn hok hkn
   ·have hkn:=hide (Gd.known_no (uh hKn) (by rw [uh hf'];exact hneg) (uh hwne))
    go_wp2_with fail
    exact uh hQ' _ _ _ _ _ _ _ _ _ _ _ _ _ _ _ _ _ _ _ _ _ _ _ _ _ _ _ _ hXz hOz hOk hkn
 ·have hpl:=hide ((uh hfit).placed (fun e=>absurd e h4))
  have hkb:(kd == 4)=false:=by simp [h4]
  clear hfit
  have hXz:=hide ((uh hX).on (uh hg2))
  have hOz:=hide ((uh hO).on (uh hg2))
  obtain ⟨x0,x1,x2,x3⟩:=item_cells (uh hI2)
  have q6:=(uh hXz).hold.box.eleven.2.2.2.2.2.2.1
  have fI:=(uh hXz).hold.lists.items.free
  obtain ⟨u0,u1,u2,u3⟩:=(uh hXz).hold.lists.its.row (uh hm40)
  have cin:=hide (refIn7_same gI 40 40 I wh a b' wc (uh hXz).hold.lists.its)
  obtain ⟨f,hf⟩:∃f,Gd.find I 40 wh a b'=f:=⟨_,rfl⟩
  rw [hf] at cin
  have hf':=hide hf
  clear hf
  go_wp2_with fail
  refine (uh cin).mono ?_
  rintro e wy ⟨rfl,hy⟩
  subst wy
  clear cin
  by_cases hneg:f<0
  ·have hfin:Hid (Gd.Laid w _ R B gC gE gI s g c E _):=(uh hXz).put m kd wh a b'
   have hopn:=hide ((uh hOz).put m (.int .i64 kd) (.int .i64 wh) (.int .i64 a) (.int .i64 b'))
   have hok:=hide (Gd.ok_tell (m:=m) (uh hOk) (uh hpl) (by rw [uh hf'];exact hneg))
   have hkn:=hide (Gd.known_yes (uh hKn) (uh hm2) (uh hex2))
   go_wp2_with fail
   exact uh hQ' _ _ _ _ _ _ _ _ _ _ _ _ _ _ _ _ _ _ _ _ _ _ _ _ _ _ _ _ hfin hopn hok hkn
  ·have hkn:=hide (Gd.known_no (uh hKn) (by rw [uh hf'];exact hneg) (uh hwne))
   go_wp2_with fail
   exact uh hQ' _ _ _ _ _ _ _ _ _ _ _ _ _ _ _ _ _ _ _ _ _ _ _ _ _ _ _ _ hXz hOz hOk hkn

end Go.Proofs.YtbanjoflgoiegabGreat
