import Derived.Test.YtapgkgbpekkdjaaPart28
import Derived.ChangeKeysEq
namespace Go.Proofs.Ytapgkgbpekkdjaa
open Go.RowKit

set_option maxRecDepth 100000 in
set_option maxHeartbeats 12800000 in
theorem told_tail (w:World) (k R B gC gE gI ob oo L X nL kc:Nat) (O:Nat→Nat) (s g c:Nat→Int) (E I M:Nat→Nat→Int) (kd wh a b' a0 a1 a3:Int) (hw1:1≤wh) (wr wc:World) (HL:Hid (k<min nL 20)) (hlt2:(k:Int)<20) (hX:Hid (Gd.Laid w wr R B gC gE gI s g c E I)) (hO:Hid (Gd.Open wr ob oo L O B gE gI)) (hOk:Hid (Gd.Ok c 40 I)) (hKn:Hid (Gd.Known k kc M I)) (he:Hid (M k 0=a0∧M k 1=a1∧M k 3=a3)) (hXn:Hid (wr.heap.size≤X)) (hI2:Hid (Lie wc X 47 4 (Ints (Gd.row kd wh a b')))) (hg2:Hid (wr.grownBy wc none)) (hfit:Hid (Gd.Fit c kd wh a b')) (hex:Hid (a0=0→a1=0→a3=0→kd=1∧wh=1∧a=(kc:Int) % 24∧b'=(kc:Int) / 24)) (Q:Exit→Act→World→Prop) {t0 t1 t2 t3 t4 t5 t6 t7 t8 t9 Aa Ab Ac Ad Ae Af Ag Ah Ai Aj Ak Al Am Ao Ap Aq Ar As Au Av Aw Ax Ay Az AA AB AC AD AE AF AG AH AI AJ AK AL AM AN AO AP AQ AR AS AT AU AV AW AX AY AZ A0 A1 A2 A3 A4 A5 A6 A7 A8 A9 Ba Bb Bc Bd Be Bf Bg Bh Bi Bj Bk Bl Bm Bn Bo Bp Bq Br Bs Bt Bu Bv Bw Bx Bz BA BB BC BD BE BF BG BH BI BJ BK BL BM BN BO BP BQ BR BS BT BU BV BW BX BY BZ B0 B1 B2 B3 B4 B5 B6 B7 B8 B9 Ca Cb Cc Cd Ce Cf Cg Ch Ci Cj Ck Cl Cm Cn Co Cp Cq Cs Ct Cu Cv Cw Cx Cy Cz CA CB CC CD CE CF CG CH CI CJ CK CL CM CN CO CP CQ CR CS CT CU CV CW CX CY CZ C0 C1 C2 C3 C4 C5 C6 C7 C8 C9 Da Db Dc Dd De Df Dg Dh Di Dj Dk Dl Dm Dn Dp Dq Dr Ds Dt Du Dv Dw Dx Dy Dz DA DB DC DD DE DF:Value}
  (hQ:∀(J:Nat→Nat→Int) (w2:World) (u199 u200 u201 u202 u203 u204 u205 u206 u207 u208 u209 u210 u211 u212 u213 u214 u215 u216 u217 u218 u219 u220 u221 u222 u223 u224:Value),Hid (Gd.Laid w w2 R B gC gE gI s g c E J)→Hid (Gd.Open w2 ob oo L O B gE gI)→Hid (Gd.Ok c 40 J)→Hid (Gd.Known (k+1) kc M J)→Q .normal ⟨#[t0,t1,t2,t3,t4,t5,t6,t7,t8,t9,Aa,Ab,Ac,.pointer (some ⟨B,0,none⟩),Ad,Ae,Af,Ag,.int .i64 (k:Int),.pointer (some ⟨X,0,none⟩),Ah,Ai,Aj,Ak,Al,Am,Ao,Ap,Aq,Ar,As,Au,Av,Aw,Ax,Ay,Az,AA,AB,AC,AD,AE,AF,AG,AH,AI,AJ,AK,AL,AM,AN,AO,AP,AQ,AR,AS,AT,AU,AV,AW,AX,AY,AZ,A0,A1,A2,A3,A4,A5,A6,A7,A8,A9,Ba,Bb,Bc,Bd,Be,Bf,Bg,Bh,Bi,Bj,Bk,Bl,Bm,Bn,Bo,Bp,Bq,Br,Bs,Bt,Bu,Bv,Bw,Bx,Bz,BA,BB,BC,BD,BE,BF,BG,BH,BI,BJ,BK,BL,BM,BN,BO,BP,BQ,BR,BS,BT,BU,BV,BW,BX,BY,BZ,B0,B1,B2,B3,B4,B5,B6,B7,B8,B9,Ca,Cb,Cc,Cd,Ce,Cf,Cg,Ch,Ci,Cj,Ck,Cl,Cm,Cn,Co,Cp,Cq,Cs,Ct,Cu,Cv,Cw,Cx,Cy,Cz,CA,CB,CC,CD,CE,CF,CG,CH,CI,CJ,CK,CL,CM,CN,CO,CP,CQ,CR,CS,CT,CU,CV,CW,CX,CY,CZ,C0,C1,C2,C3,C4,C5,C6,C7,C8,C9,Da,Db,Dc,Dd,u199,u200,u201,u202,u203,u204,u205,u206,u207,u208,u209,u210,u211,u212,u213,u214,u215,u216,u217,u218,u219,u220,u221,u222,u223,u224,DF],[]⟩ w2) :
  Code.wp Try.prog (csnd (csnd (cin (cfst (csnd (cin (cin (csnd (cfst ((Try.f18.body.map (cdrop 12)).getD .skip)))))))))) Q ⟨#[t0,t1,t2,t3,t4,t5,t6,t7,t8,t9,Aa,Ab,Ac,.pointer (some ⟨B,0,none⟩),Ad,Ae,Af,Ag,.int .i64 (k:Int),.pointer (some ⟨X,0,none⟩),Ah,Ai,Aj,Ak,Al,Am,Ao,Ap,Aq,Ar,As,Au,Av,Aw,Ax,Ay,Az,AA,AB,AC,AD,AE,AF,AG,AH,AI,AJ,AK,AL,AM,AN,AO,AP,AQ,AR,AS,AT,AU,AV,AW,AX,AY,AZ,A0,A1,A2,A3,A4,A5,A6,A7,A8,A9,Ba,Bb,Bc,Bd,Be,Bf,Bg,Bh,Bi,Bj,Bk,Bl,Bm,Bn,Bo,Bp,Bq,Br,Bs,Bt,Bu,Bv,Bw,Bx,Bz,BA,BB,BC,BD,BE,BF,BG,BH,BI,BJ,BK,BL,BM,BN,BO,BP,BQ,BR,BS,BT,BU,BV,BW,BX,BY,BZ,B0,B1,B2,B3,B4,B5,B6,B7,B8,B9,Ca,Cb,Cc,Cd,Ce,Cf,Cg,Ch,Ci,Cj,Ck,Cl,Cm,Cn,Co,Cp,Cq,Cs,Ct,Cu,Cv,Cw,Cx,Cy,Cz,CA,CB,CC,CD,CE,CF,CG,CH,CI,CJ,CK,CL,CM,CN,CO,CP,CQ,CR,CS,CT,CU,CV,CW,CX,CY,CZ,C0,C1,C2,C3,C4,C5,C6,C7,C8,C9,Da,Db,Dc,Dd,De,Df,Dg,Dh,Di,Dj,Dk,Dl,Dm,Dn,Dp,Dq,Dr,Ds,Dt,Du,Dv,Dw,Dx,Dy,Dz,DA,DB,DC,DD,DE,DF],[]⟩ wc:=by
 conv=>arg 2;whnf
 have hQ':=hide hQ
 clear hQ
 have fX:=(uh hI2).free
 obtain ⟨m,hm⟩:∃m:Nat,m=2*k:=⟨_,rfl⟩
 have hm2:=hide hm
 have hm40:Hid (m<40):=by
  show m<40
  have:=uh HL
  omega
 have hmk:(2*(k:Int)) % 40=(m:Int):=by omega
 have hmt:(2*(k:Int)).tmod 40=(m:Int):=by rw [Int.tmod_eq_emod_of_nonneg (by omega)];exact hmk
 have hmi:(m:Int)<40:=by omega
 have hex2:Hid (M k 0=0→M k 1=0→M k 3=0→kd=1∧wh=1∧a=(kc:Int) % 24∧b'=(kc:Int) / 24):=by
  obtain ⟨e0,e1,e3⟩:=uh he
  intro h0 h1 h3
  exact uh hex (by rw [←e0];exact h0) (by rw [←e1];exact h1) (by rw [←e3];exact h3)
 have hwne:Hid (wh≠0):=by
  show wh≠0
  omega
 clear hm hex he
 by_cases h4:kd=4
 ·by_cases hw:wh=1
  ·have hpl:=hide ((uh hfit).placed (fun _=>hw))
   subst h4
   subst hw
   have hexz:Hid (¬(M k 0=0∧M k 1=0∧M k 3=0)):=fun ⟨h0,h1,h3⟩=>absurd (uh hex2 h0 h1 h3).1 (by omega)
   clear hfit hex2
   have hXz:=hide ((uh hX).on (uh hg2))
   have hOz:=hide ((uh hO).on (uh hg2))
   obtain ⟨x0,x1,x2,x3⟩:=item_cells (uh hI2)
   have q6:=(uh hXz).hold.box.eleven.2.2.2.2.2.2.1
   have fI:=(uh hXz).hold.lists.items.free
   obtain ⟨u0,u1,u2,u3⟩:=(uh hXz).hold.lists.its.row (uh hm40)
   have cin:=hide (refIn7_same gI 40 40 I 1 a b' wc (uh hXz).hold.lists.its)
   obtain ⟨f,hf⟩:∃f,Gd.find I 40 1 a b'=f:=⟨_,rfl⟩
   rw [hf] at cin
   have hf':=hide hf
   clear hf
   go_wp2_with fail
   refine (uh cin).mono ?_
   rintro e wy ⟨rfl,hy⟩
   subst wy
   clear cin
   by_cases hneg:f<0
   ·have hfin:Hid (Gd.Laid w _ R B gC gE gI s g c E _):=(uh hXz).put m 4 1 a b'
    have hopn:=hide ((uh hOz).put m (.int .i64 4) (.int .i64 1) (.int .i64 a) (.int .i64 b'))
    have hok:=hide (Gd.ok_tell (m:=m) (uh hOk) (uh hpl) (by rw [uh hf'];exact hneg))
    have hkn:=hide (Gd.known_yes (kd:=4) (wh:=1) (a:=a) (b:=b') (uh hKn) (uh hm2) (fun h0 h1 h3=>(uh hexz ⟨h0,h1,h3⟩).elim))
    go_wp2_with fail
    exact uh hQ' _ _ _ _ _ _ _ _ _ _ _ _ _ _ _ _ _ _ _ _ _ _ _ _ _ _ _ _ hfin hopn hok hkn
   ·have hkn:=hide (Gd.known_no (uh hKn) (by rw [uh hf'];exact hneg) (uh hwne))
    go_wp2_with fail
    exact uh hQ' _ _ _ _ _ _ _ _ _ _ _ _ _ _ _ _ _ _ _ _ _ _ _ _ _ _ _ _ hXz hOz hOk hkn
  ·subst h4
   have hpl:=hide ((uh hfit).mend hw)
   have hexz:Hid (¬(M k 0=0∧M k 1=0∧M k 3=0)):=fun ⟨h0,h1,h3⟩=>absurd (uh hex2 h0 h1 h3).1 (by omega)
   have hwb:(wh == 1)=false:=by simp [hw]
   obtain ⟨x0,x1,x2,x3⟩:=item_cells (uh hI2)
   have hIz:=hide (item_k (a':=1) (uh hI2))
   have hgz:Hid (wr.grownBy (wc.setCell ⟨X,0,none⟩ (.int .i64 1)) none):=gow (uh hg2) (gs0 wc X 0 _) (fun n e=>by cases e;exact uh hXn)
   clear hfit hex2
   go_upto_region 38 with fail
   generalize wc.setCell ⟨X,0,none⟩ (.int .i64 1)=wz at hIz hgz ⊢
   clear x0 x1 x2 x3
   have hXz:=hide ((uh hX).on (uh hgz))
   have hOz:=hide ((uh hO).on (uh hgz))
   obtain ⟨x0,x1,x2,x3⟩:=item_cells (uh hIz)
   have q6:=(uh hXz).hold.box.eleven.2.2.2.2.2.2.1
   have fI:=(uh hXz).hold.lists.items.free
   obtain ⟨u0,u1,u2,u3⟩:=(uh hXz).hold.lists.its.row (uh hm40)
   have cin:=hide (refIn7_same gI 40 40 I wh a b' wz (uh hXz).hold.lists.its)
   obtain ⟨f,hf⟩:∃f,Gd.find I 40 wh a b'=f:=⟨_,rfl⟩
   rw [hf] at cin
   have hf':=hide hf
   clear hf
   go_wp2_with fail
   refine (uh cin).mono ?_
   rintro e wy ⟨rfl,hy⟩
   subst wy
   clear cin
   by_cases hneg:f<0
   ·have hfin:Hid (Gd.Laid w _ R B gC gE gI s g c E _):=(uh hXz).put m 1 wh a b'
    have hopn:=hide ((uh hOz).put m (.int .i64 1) (.int .i64 wh) (.int .i64 a) (.int .i64 b'))
    have hok:=hide (Gd.ok_tell (m:=m) (uh hOk) (uh hpl) (by rw [uh hf'];exact hneg))
    have hkn:=hide (Gd.known_yes (kd:=1) (wh:=wh) (a:=a) (b:=b') (uh hKn) (uh hm2) (fun h0 h1 h3=>(uh hexz ⟨h0,h1,h3⟩).elim))
    go_wp2_with fail
    exact uh hQ' _ _ _ _ _ _ _ _ _ _ _ _ _ _ _ _ _ _ _ _ _ _ _ _ _ _ _ _ hfin hopn hok hkn
   ·have hkn:=hide (Gd.known_no (uh hKn) (by rw [uh hf'];exact hneg) (uh hwne))
    go_wp2_with fail
    exact uh hQ' _ _ _ _ _ _ _ _ _ _ _ _ _ _ _ _ _ _ _ _ _ _ _ _ _ _ _ _ hXz hOz hOk hkn
 ·have hpl:=hide ((uh hfit).placed (fun e=>absurd e h4))
  have hkb:(kd == 4)=false:=by simp [h4]
  clear hfit
  have hXz:=hide ((uh hX).on (uh hg2))
  have hOz:=hide ((uh hO).on (uh hg2))
  obtain ⟨x0,x1,x2,x3⟩:=item_cells (uh hI2)
  have q6:=(uh hXz).hold.box.eleven.2.2.2.2.2.2.1
  have fI:=(uh hXz).hold.lists.items.free
  obtain ⟨u0,u1,u2,u3⟩:=(uh hXz).hold.lists.its.row (uh hm40)
  have cin:=hide (refIn7_same gI 40 40 I wh a b' wc (uh hXz).hold.lists.its)
  obtain ⟨f,hf⟩:∃f,Gd.find I 40 wh a b'=f:=⟨_,rfl⟩
  rw [hf] at cin
  have hf':=hide hf
  clear hf
  go_wp2_with fail
  refine (uh cin).mono ?_
  rintro e wy ⟨rfl,hy⟩
  subst wy
  clear cin
  by_cases hneg:f<0
  ·have hfin:Hid (Gd.Laid w _ R B gC gE gI s g c E _):=(uh hXz).put m kd wh a b'
   have hopn:=hide ((uh hOz).put m (.int .i64 kd) (.int .i64 wh) (.int .i64 a) (.int .i64 b'))
   have hok:=hide (Gd.ok_tell (m:=m) (uh hOk) (uh hpl) (by rw [uh hf'];exact hneg))
   have hkn:=hide (Gd.known_yes (uh hKn) (uh hm2) (uh hex2))
   go_wp2_with fail
   exact uh hQ' _ _ _ _ _ _ _ _ _ _ _ _ _ _ _ _ _ _ _ _ _ _ _ _ _ _ _ _ hfin hopn hok hkn
  ·have hkn:=hide (Gd.known_no (uh hKn) (by rw [uh hf'];exact hneg) (uh hwne))
   go_wp2_with fail
   exact uh hQ' _ _ _ _ _ _ _ _ _ _ _ _ _ _ _ _ _ _ _ _ _ _ _ _ _ _ _ _ hXz hOz hOk hkn


open Go.RowKit

def Gd.text (c:Nat→Int):ByteArray:=strOfNums ((List.range 384).map c)

theorem Lie.text {w:World} {G cap:Nat} {c:Nat→Int} (h:Lie w G 5 384 (Byts c)):(convert 25 9 (.slice (some ⟨G,0,none⟩) 384 cap)).run Try.prog w=.ok (.string (Gd.text c)) w:=by
 refine run_convert_bytes_arg w 25 5 Try.underlying25 Try.underlying5 G 0 384 cap ((List.range 384).map c) (by simp) (fun i hi=>?_) 9 Try.underlying9
 rw [Nat.zero_add,h.cell hi]
 show some (Value.int .u8 (c i))=_
 simp [List.getD,List.getElem?_map,List.getElem?_range hi]

theorem run_eq_gold (a b c d:Int) (w:World):(Op.equalIn 10000 27 (.agg #[.int .i64 a,.int .i64 b,.int .i64 c,.int .i64 d]) (.agg #[.int .i64 a,.int .i64 b,.int .i64 c,.int .i64 d])).run Try.prog w=.ok true w:=by
 obtain ⟨i0,hi,_,_,_⟩:=info_parts info_int
 have hc:Try.prog.cellsOf 3=1:=by kernel_rfl
 have h:=run_equalIn_array (P:=Try.prog) (w:=w) 9999 #[.int .i64 a,.int .i64 b,.int .i64 c,.int .i64 d] #[.int .i64 a,.int .i64 b,.int .i64 c,.int .i64 d] Try.underlying27 hi
 have hr:(Op.eqItems 9999 3 (Try.prog.cellsOf 3) #[Value.int .i64 a,.int .i64 b,.int .i64 c,.int .i64 d] #[.int .i64 a,.int .i64 b,.int .i64 c,.int .i64 d] (List.range 4)).run Try.prog w=.ok true w:=by
  rw [hc]
  simp [List.range,List.range.loop,Op.eqItems,go_sem]
 rw [hr] at h
 exact h

set_option maxRecDepth 8000 in
set_option maxHeartbeats 6400000 in
theorem same7_any (s g c:Nat→Int) (E I:Nat→Nat→Int) (gC gE gI cC cE cI hC hE hI dC dE dI:Nat) (w:World) (hL:Gd.Lists w gC gE gI c E I) (hL2:Gd.Lists w hC hE hI c E I) :
  Calls Try.prog 17 #[.agg (Gd.world s gC gE gI cC cE cI g),.agg (Gd.world s hC hE hI dC dE dI g)] w (Says w (.bool true)):=by
 obtain ⟨W,hW⟩:∃W,W=(w.alloc (.cells (Gd.world s gC gE gI cC cE cI g) 29)).alloc (.cells (Gd.world s hC hE hI dC dE dI g) 29):=⟨_,rfl⟩
 have hg:w.grownBy W none:=by rw [hW];exact gal (World.grownBy_alloc _ _ _) _
 have x1:Lie W w.heap.size 29 11 (Gd.box s gC gE gI cC cE cI g):=by
  rw [hW]
  exact ((Arr.world (heap_alloc_new w _)).alloc _).lie
 have x2:Lie W (w.heap.size+1) 29 11 (Gd.box s hC hE hI dC dE dI g):=by
  rw [hW]
  have h:=heap_alloc_new (w.alloc (.cells (Gd.world s gC gE gI cC cE cI g) 29)) (.cells (Gd.world s hC hE hI dC dE dI g) 29)
  rw [show (w.alloc (.cells (Gd.world s gC gE gI cC cE cI g) 29)).heap.size=w.heap.size+1 by simp] at h
  exact (Arr.world h).lie
 obtain ⟨B,hB⟩:∃B,w.heap.size=B:=⟨_,rfl⟩
 rw [hB] at x1 x2
 have x1':=hide x1
 have x2':=hide x2
 have hL':=hide (hL.on hg)
 have hL2':=hide (hL2.on hg)
 have hg':=hide hg
 have t1:=(uh hL').cells.text (cap:=cC)
 have t2:=(uh hL2').cells.text (cap:=dC)
 obtain ⟨T,hT⟩:∃T,T=Gd.text c:=⟨_,rfl⟩
 rw [←hT] at t1 t2
 obtain ⟨a0,a1,a2,a3,a4,a5,a6,a7,a8,a9,a10⟩:=x1.eleven
 obtain ⟨b0,b1,b2,b3,b4,b5,b6,b7,b8,b9,b10⟩:=x2.eleven
 have keep:Hid (∀x,W.grownBy x none→(x.cell? ⟨B,5,none⟩=some (.slice (some ⟨gE,0,none⟩) 32 cE)∧x.cell? ⟨B,6,none⟩=some (.slice (some ⟨gI,0,none⟩) 40 cI)∧x.cell? ⟨B+1,5,none⟩=some (.slice (some ⟨hE,0,none⟩) 32 dE)∧x.cell? ⟨B+1,6,none⟩=some (.slice (some ⟨hI,0,none⟩) 40 dI))):=fun x h =>
  ⟨((uh x1').on h).eleven.2.2.2.2.2.1,((uh x1').on h).eleven.2.2.2.2.2.2.1,((uh x2').on h).eleven.2.2.2.2.2.1,((uh x2').on h).eleven.2.2.2.2.2.2.1⟩
 have hgold:=fun wx=>run_eq_gold (g 0) (g 1) (g 2) (g 3) wx
 clear hL hL2 hg hT x1 x2
 unfold Gd.world at hW ⊢
 go_enter Try.func17,Try.ntmps17
 go_upto_region 1 with fail
 rw [←hW]
 clear hW hB
 go_wp2_with fail
 go_loopw [5] (fun vi wr=>∃k:Nat,k≤32∧vi=.int .i64 (k:Int)∧W.grownBy wr none) (fun vi _=>200 - (intOf vi).toNat)
 case atStart=>exact ⟨0,by omega,rfl,World.grownBy.refl _ _⟩
 case round =>
  clear hgold t1 t2 a0 a1 a2 a3 a4 a5 a6 a7 a8 a9 a10 b0 b1 b2 b3 b4 b5 b6 b7 b8 b9 b10
  obtain ⟨k,hk,rfl,hgr⟩:=hrel
  have hgr':=hide hgr
  obtain ⟨k1,k2,k3,k4⟩:=uh keep wr hgr
  clear hgr
  by_cases hlt:k<32
  ·have hlt':(k:Int)<32:=by omega
   obtain ⟨u0,u1,u2,u3,u4,u5,u6,u7,u8,u9,u10⟩:=((uh hL').on (uh hgr')).own.ents.row hlt
   obtain ⟨s0,s1,s2,s3,s4,s5,s6,s7,s8,s9,s10⟩:=((uh hL2').on (uh hgr')).own.ents.row hlt
   have hdr:Hid (∀m,W.grownBy (wr.drewN m) none):=fun m=>gdw (uh hgr') m
   have HL:=hide hlt
   clear hlt
   go_wp2_with fail
   go_quiet (fail)
   go_wp2
   go_roundw
   case rel=>exact ⟨k+1,by have:=uh HL;omega,by go_num,uh hdr _⟩
   case measure=>simp [intOf];omega
  ·have hge:¬(k:Int)<32:=by omega
   clear hlt
   go_wp2_with fail
   go_loopw [6] (fun vi wr=>∃k:Nat,k≤40∧vi=.int .i64 (k:Int)∧W.grownBy wr none) (fun vi _=>200 - (intOf vi).toNat)
   case atStart=>exact ⟨0,by omega,rfl,uh hgr'⟩
   case round =>
    clear k1 k2 k3 k4 hge hgr'
    obtain ⟨k,hk,rfl,hgr⟩:=hrel
    have hgr':=hide hgr
    obtain ⟨k1,k2,k3,k4⟩:=uh keep wr hgr
    clear hgr
    by_cases hlt:k<40
    ·have hlt':(k:Int)<40:=by omega
     obtain ⟨u0,u1,u2,u3⟩:=((uh hL').on (uh hgr')).its.row hlt
     obtain ⟨s0,s1,s2,s3⟩:=((uh hL2').on (uh hgr')).its.row hlt
     have hdr:Hid (∀m,W.grownBy (wr.drewN m) none):=fun m=>gdw (uh hgr') m
     have HL:=hide hlt
     clear hlt
     go_wp2_with fail
     go_quiet (fail)
     go_wp2
     go_roundw
     case rel=>exact ⟨k+1,by have:=uh HL;omega,by go_num,uh hdr _⟩
     case measure=>simp [intOf];omega
    ·have hge:¬(k:Int)<40:=by omega
     have hfin:=hide (gtr (uh hg') (uh hgr'))
     go_wp2
     go_ret
     exact ⟨rfl,uh hfin⟩

end Go.Proofs.Ytapgkgbpekkdjaa
