import Derived.Test.YtldgbkjceildfaaGreatBy54
namespace Go.Proofs.YtldgbkjceildfaaGreat
open Go.RowKit

def Sv.headsB (n:Nat):Code→Bool
 | .region k _ _=>k == n
 | .seq a _=>Sv.headsB n a
 | _=>false

def Sv.findsB (n:Nat):Code→Option Code
 | .seq a b=>if Sv.headsB n a then some (.seq a b) else match Sv.findsB n a with
  | some c=>some c
  | none=>Sv.findsB n b
 | .cond _ a b=>match Sv.findsB n a with
  | some c=>some c
  | none=>Sv.findsB n b
 | _=>none

noncomputable def Sv.bytes11:Code:=(Tryz.f3.body.bind (Sv.findsB 11)).getD .skip
noncomputable def Sv.bytes18:Code:=(Tryz.f3.body.bind (Sv.findsB 18)).getD .skip

theorem Sn.Buf.ne_camp {w x:World} {G n cap X m:Nat} {l:List Int} {J:Nat→Value} (h:Sn.Buf w x G n cap l) (hX:Lie x X 33 m J):G≠X:=by
 rcases h.own.2 with ⟨e,_⟩|⟨g,c,cur,e,_,hg,_⟩
 ·cases e
 ·simp only [Value.slice.injEq,Option.some.injEq,Addr.mk.injEq,and_true] at e;obtain ⟨M,K,⟨c2,h2,_⟩,_,_⟩:=hX;intro q;rw [e.1] at q;subst q;rw [hg] at h2;simp only [Option.some.injEq,Obj.cells.injEq] at h2;exact absurd h2.2.1 (by decide)

theorem Sn.Buf.src1 {w x:World} {G n cap:Nat} {l:List Int} (h:Sn.Buf w x G n cap l):Ck.Src x (.slice (some ⟨G,1,none⟩) (n - 1) (cap - 1)) (l.drop 1):=by
 refine .inr ⟨⟨G,1,none⟩,cap - 1,by rw [List.length_drop,h.len],fun j u hj=>?_⟩;have hc:=h.own.cells (g:=G) rfl (1+j) u (by
  unfold Ck.bys at hj ⊢;rw [List.map_drop,List.getElem?_drop] at hj;exact hj)
 rw [Go.WideShapes.add_plain] at hc ⊢;simpa using hc

theorem Sv.run_tail (G n cb:Nat) (hn:1≤n):∃a,(∀w:World,(Instr.slice 24 (.slice (some ⟨G,0,none⟩) n cb) (some (.int .i64 1)) none none).run Tryz.prog w=.ok (.slice a (n - 1) (cb - 1)) w)∧(cb≠1→a=some ⟨G,1,none⟩):=by
 refine ⟨if cb=1 then some ⟨G,0,none⟩ else some ⟨G,1,none⟩,fun w=>?_,fun q=>by rw [if_neg q]⟩;have hr:=run_slice_l (P:=Tryz.prog) w 24 (some ⟨G,0,none⟩) n cb (by kernel_rfl) .i64 1 (by omega) (by omega);rw [hr];by_cases hz:cb=1 <;> simp [go_sem,sliced,hz,Addr.add]

set_option maxRecDepth 16000 in
set_option maxHeartbeats 25600000 in
theorem saveBytes_tail {f0 f1 f2 f3 f4 f5 f6 f7 f8 f9 Ab Ac Af Ag Ai Ak Al Am Ao Ap Aq Ar As Au Av Aw Ax Ay Az AA AB AC AD AE AF AG AH AI AJ AK AL AM AN AO AP AQ AR AS AT AU AV AW AX AY AZ A0 A1 A2 A3 A4 A5 A6 A7 A8 A9 Ba Bb Bc Bd Be Bf Bg Bh Bi Bj Bk Bl Bm Bn Bo Bp Bq Br Bs Bt Bu Bv Bw Bx Bz BA BB BC BD BE BF BG BH BI BJ BK BL BM BN BO BP BQ BR BS BT BU BW BY BZ B0 B3 B6 B7 B8 B9 Ca Cb Cc Cd Ce Cf Cg Ch Ci Cj Ck Cl Cm Cn Co Cp Cq Cs Ct Cu Cv Cw Cx Cy Cz CA CB CC CD CE CF CG CH CI CJ CK CL CM CN CO CP CQ CR CS CT CU CV CW CX CY CZ C0 C1 C2 C3 C4 C5 C6 C7 C8 C9 Da Db Dc:Value} (w x:World) (G n cb X:Nat) (l:List Int) (J:Nat→Value) (hB:Hid (Sn.Buf w x G n cb l)) (hX:Hid (Lie x X 33 15 J)) (hXw:Hid (w.heap.size≤X)) (hn:Hid (n≤1019)) :
  Code.wp Tryz.prog Sv.bytes18 (bodyPost Tryz.prog Tryz.f3 fun e w'=>e=.returned (.bool true)∧Below w.heap.size w w') ⟨#[f0,f1,f2,f3,f4,f5,f6,f7,f8,f9,Ab,Ac,Af,Ag,Ai,Ak,(.slice (some ⟨G,0,none⟩) n cb),Al,Am,Ao,(.pointer (some ⟨X,0,none⟩)),Ap,Aq,Ar,As,Au,Av,Aw,Ax,Ay,Az,AA,AB,AC,AD,AE,AF,AG,AH,AI,AJ,AK,AL,AM,AN,AO,AP,AQ,AR,AS,AT,AU,AV,AW,AX,AY,AZ,A0,A1,A2,A3,A4,A5,A6,A7,A8,A9,Ba,Bb,Bc,Bd,Be,Bf,Bg,Bh,Bi,Bj,Bk,Bl,Bm,Bn,Bo,Bp,Bq,Br,Bs,Bt,Bu,Bv,Bw,Bx,Bz,BA,BB,BC,BD,BE,BF,BG,BH,BI,BJ,BK,BL,BM,BN,BO,BP,BQ,BR,BS,BT,BU,BW,BY,BZ,B0,B3,B6,B7,B8,B9,Ca,Cb,Cc,Cd,Ce,Cf,Cg,Ch,Ci,Cj,Ck,Cl,Cm,Cn,Co,Cp,Cq,Cs,Ct,Cu,Cv,Cw,Cx,Cy,Cz,CA,CB,CC,CD,CE,CF,CG,CH,CI,CJ,CK,CL,CM,CN,CO,CP,CQ,CR,CS,CT,CU,CV,CW,CX,CY,CZ,C0,C1,C2,C3,C4,C5,C6,C7,C8,C9,Da,Db,Dc],[]⟩ x:=by
 conv=>arg 2;whnf
 have cd:=hide (uh hB).gives;go_wp2_with fail;refine (uh cd).mono ?_;rintro e x1 ⟨hg1,r,F,rfl,hGv⟩;have hX1:=(uh hX).on hg1;have fT:=hX1.free;have t0:x1.cell? ⟨X,0,none⟩=some (J 0):=hX1.cell (c:=0) (by omega);have t1:x1.cell? ⟨X,1,none⟩=some (J 1):=hX1.cell (c:=1) (by omega);have t2:x1.cell? ⟨X,2,none⟩=some (J 2):=hX1.cell (c:=2) (by omega);have t3:x1.cell? ⟨X,3,none⟩=some (J 3):=hX1.cell (c:=3) (by omega);have t4:x1.cell? ⟨X,4,none⟩=some (J 4):=hX1.cell (c:=4) (by omega);have t5:x1.cell? ⟨X,5,none⟩=some (J 5):=hX1.cell (c:=5) (by omega);have t6:x1.cell? ⟨X,6,none⟩=some (J 6):=hX1.cell (c:=6) (by omega);have t7:x1.cell? ⟨X,7,none⟩=some (J 7):=hX1.cell (c:=7) (by omega);have t8:x1.cell? ⟨X,8,none⟩=some (J 8):=hX1.cell (c:=8) (by omega);have t9:x1.cell? ⟨X,9,none⟩=some (J 9):=hX1.cell (c:=9) (by omega);have Aa:x1.cell? ⟨X,10,none⟩=some (J 10):=hX1.cell (c:=10) (by omega);have Ad:x1.cell? ⟨X,11,none⟩=some (J 11):=hX1.cell (c:=11) (by omega);have Ae:x1.cell? ⟨X,12,none⟩=some (J 12):=hX1.cell (c:=12) (by omega);have Ah:x1.cell? ⟨X,13,none⟩=some (J 13):=hX1.cell (c:=13) (by omega);have Aj:x1.cell? ⟨X,14,none⟩=some (J 14):=hX1.cell (c:=14) (by omega);have hN:=Sv.now_nestG hX1 F;have B1:=(uh hB).on hg1;have hne:=B1.ne_camp hX1;obtain ⟨x2,hx2⟩:∃x,Sv.nestG x1 X F=x:=⟨_,rfl⟩;rw [hx2] at hN;have BX:=hide hN.1;have Gv:=hide (hGv.turn hX1 hN.2);have B2:=hide (B1.past hN.2 hne (fun k e=>by rw [e];exact uh hXw));clear cd hg1 hGv hX1 hN B1 hne hB hX;unfold Sv.nestG at hx2;unfold Sv.cells;go_upto_region 19 with fail;try rw [hx2]
 clear hx2 fT t0 t1 t2 t3 t4 t5 t6 t7 t8 t9 Aa Ad Ae Ah Aj x1;have hlen:=hide (uh B2).len;have hcap:=hide (uh B2).caps;by_cases hn0:n=0
 ·subst hn0;obtain rfl:l=[]:=List.length_eq_zero_iff.1 (uh hlen);obtain rfl:r=7:=by
   have h:=(uh Gv).1;unfold Sv.Rds at h;simpa using h
  have hfin:=hide (none_below (uh B2).grown);clear BX Gv B2 hlen hcap hn;go_wp2;go_ret;exact ⟨rfl,uh hfin⟩
 have n0:((n:Int) == 0)=false:=by simp;omega
 have n1:(0:Int)<(n:Int):=by omega
 have u0:x2.cell? ⟨G,0,none⟩=some (.int .u8 (Sn.fn l 0)):=(uh B2).cell (k:=0) (by omega);by_cases h15:15<Sn.fn l 0
 ·obtain rfl:r=9:=by
   have h:=(uh Gv).1;have hl:=uh hlen;unfold Sv.Rds at h;rw [if_neg (by omega),if_pos h15] at h;exact h
  have hfin:=hide (none_below (uh B2).grown);obtain ⟨v,hv⟩:∃v,Sn.fn l 0=v:=⟨_,rfl⟩;rw [hv] at u0 h15;clear BX Gv B2 hlen hcap hn hn0 hv;go_wp2;go_ret;exact ⟨rfl,uh hfin⟩
 have HN0:Hid (0<n):=(show 0<n by omega);obtain ⟨a,hslice,ha⟩:=Sv.run_tail G n cb (by omega);have cs:=hide ((uh B2).shows (uh HN0) h15 (uh Gv).1 a (fun q=>ha (by have:=(uh hcap).1;omega)));have hlo:Hid (0≤Sn.fn l 0∧Sn.fn l 0≤15):=by
  refine ⟨?_,by omega⟩;have hl:=uh hlen;unfold Sn.fn;rw [List.getElem?_eq_getElem (by omega)];exact ((uh B2).byte _ (List.getElem_mem (by omega))).1
 obtain ⟨v,hv⟩:∃v,Sn.fn l 0=v:=⟨_,rfl⟩;have HV:=hide hv;have n3:(1:Int)≤(n:Int):=by omega
 have n4:(n:Int)≤(cb:Int):=by have:=(uh hcap).1;omega
 have n5:(cb:Int)≤9223372036854775807:=by have:=(uh hcap).2;unfold maxLen at this;omega
 have n2:¬(15:Int)<v:=by omega
 rw [hv] at u0 hlo;clear hn0 h15 hv ha hlen hcap hn;go_wp2_with fail;refine (uh cs).mono ?_;rintro e x3 ⟨hg3,K,rfl,hSh⟩;obtain ⟨x4,hx4⟩:∃x,x=x3.alloc (.cells (Sv.world K) 30):=⟨_,rfl⟩;have hg4:x3.grownBy x4 none:=by rw [hx4];exact World.grownBy_alloc _ _ _
 obtain ⟨V,hV⟩:∃B,x3.heap.size=B:=⟨_,rfl⟩;have BV:Hid (Lie x4 V 30 11 K.box):=by
  show Lie x4 _ _ _ _;rw [hx4,←hV];exact Sv.world_lie x3 K
 have hg34:=gtr hg3 hg4;have BX4:=hide ((uh BX).on hg34);have Gv4:=hide ((uh Gv).on hg34);have B4:=hide ((uh B2).on hg34);have cq:=hide ((uh Gv4).same (hSh.on hg4));clear cs hg3 hg4 hg34 hSh BX Gv B2 hslice u0;unfold Sv.world at hx4 cq ⊢;go_upto_region 24 with fail;rw [←hx4];clear hx4 hV x3;obtain ⟨p0,p1,p2,p3,p4,p5,p6,p7,p8,p9,p10,p11,p12,p13,p14⟩:=Sv.cells15 (uh BX4);obtain ⟨q0,q1,q2,q3,q4,q5,q6,q7,q8,q9,q10⟩:=Sv.cells11 (uh BV);go_wp2_with fail;refine (uh cq).mono ?_;rintro e x5 ⟨rfl,hg5⟩;have BX5:=hide ((uh BX4).on hg5);have B5:=hide ((uh B4).on hg5);have hst:Hid (r=0→∀i,F.t i=decide (v / 2 ^ i % 2=1)):=fun h i=>by
  subst h;have h:=(uh Gv4).seat i;rw [uh HV] at h;exact h
 clear cq hg5 BX4 B4 Gv4 BV p0 p1 p2 p3 p4 p5 p6 p7 p8 p9 p10 p11 p12 p13 p14 q0 q1 q2 q3 q4 q5 q6 q7 q8 q9 q10 n3 n4 n5 n2 x4;go_wp2_with fail
 go_loopw [25] (fun v25 wr=>∃i:Nat,i≤4∧v25=.int .i64 (i:Int)∧Hid (x5.grownBy wr none)) (fun v25 _=>10 - (intOf v25).toNat)
 case atStart=>exact ⟨0,by omega,rfl,World.grownBy.refl _ _⟩
 case round =>
  obtain ⟨i,hi,rfl,hG⟩:=hrel;by_cases hlt:i<4
  ·have HL:=hide hlt;have hlt':(i:Int)<4:=by omega
   have hl0:(0:Int)≤(i:Int):=by omega
   have hfin:Hid (∀m,x5.grownBy (wr.drewN m) none):=fun m=>gdw (uh hG) m;by_cases hr:r=0
   ·subst hr;have u0:wr.cell? ⟨G,0,none⟩=some (.int .u8 v):=by
     have h:=((uh B5).on (uh hG)).cell (k:=0) (uh HN0);rw [uh HV] at h;exact h
    have u1:wr.cell? ⟨X,11+i,none⟩=some (.bool (v / 2 ^ i % 2 == 1)):=by
     have h:=((uh BX5).on (uh hG)).cell (c:=11+i) (by omega);rw [h];have e:=uh hst rfl;rcases (show i=0∨i=1∨i=2∨i=3 by omega) with rfl|rfl|rfl|rfl
     ·exact congrArg (fun b=>some (Value.bool b)) (e 0)
     ·exact congrArg (fun b=>some (Value.bool b)) (e 1)
     ·exact congrArg (fun b=>some (Value.bool b)) (e 2)
     ·exact congrArg (fun b=>some (Value.bool b)) (e 3)
    have hsh:=Sv.run_shift v i (uh hlo).1 (uh hlo).2 hlt;obtain ⟨bt,hbt⟩:∃b,(v / 2 ^ i % 2 == 1)=b:=⟨_,rfl⟩;rw [hbt] at u1;clear hlt hi hG;go_wp2_with fail;go_quiet (fail);go_wp2;go_roundw;case rel=>exact ⟨i+1,by have:=uh HL;omega,by go_num,uh hfin _⟩
    case measure=>simp [intOf];have:=uh HL;omega
   ·have hr1:(r == 0)=false:=by simp [hr]
    clear hlt hi hG hr;go_wp2_with fail;go_quiet (fail);go_wp2;go_roundw;case rel=>exact ⟨i+1,by have:=uh HL;omega,by go_num,uh hfin _⟩
    case measure=>simp [intOf];have:=uh HL;omega
  ·obtain rfl:i=4:=by omega
   have hge:¬((4:Nat):Int)<4:=by omega
   have hfin:=hide (none_below (gtr (uh B5).grown (uh hG)));clear hi hlt hG B5 BX5;go_wp2;go_ret;exact ⟨rfl,uh hfin⟩


open Go.RowKit

def Sv.Turns (w x:World) (G cb X:Nat):Prop:=∃l J,Sn.Buf w x G 919 cb l∧Lie x X 33 15 J

theorem Sv.Turns.on {w x y:World} {G cb X:Nat} (h:Sv.Turns w x G cb X) (hg:x.grownBy y none):Sv.Turns w y G cb X:=by
 obtain ⟨l,J,h1,h2⟩:=h;exact ⟨l,J,h1.on hg,h2.on hg⟩

def Sv.Cuts (w x:World) (G cb X:Nat) (v:Value):Prop:=∃m l J,m≤919∧v=.slice (some ⟨G,0,none⟩) m cb∧Sn.Buf w x G m cb l∧Lie x X 33 15 J

theorem Sv.within_nat {a:Int} {n:Nat} (h:0<n):∃k:Nat,a % (n:Int)=(k:Int)∧k<n :=
 ⟨(a % (n:Int)).toNat,by have:=Int.emod_nonneg a (show (n:Int)≠0 by omega);omega,by have:=Int.emod_nonneg a (show (n:Int)≠0 by omega);have:=Int.emod_lt_of_pos a (show (0:Int)<(n:Int) by omega);omega⟩

set_option maxRecDepth 16000 in
set_option maxHeartbeats 25600000 in
theorem saveBytes_mid {f0 f1 f2 f7 f8 f9 Aa Ab Ac Ad Ae Af Ag Ah Ai Aj Ak Al Am Ao Ap Aq Ar As Au Av Aw Az AA AB AC AD AE AF AG AH AI AJ AK AL AM AN AO AP AQ AR AS AT AU AV AW AX AY AZ A0 A1 A2 A3 A4 A5 A6 A7 A8 A9 Ba Bb Bc Bd Be Bf Bg Bh Bi Bj Bk Bl Bm Bn Bo Bp Bq Br Bs Bt Bu Bv Bw Bx Bz BA BB BC BD BE BF BG BH BI BJ BK BL BM BN BO BP BQ BR BS BT BU BV BW BX BY BZ B0 B1 B2 B3 B4 B5 B6 B7 B8 B9 Ca Cb Cc Cd Ce Cf Cg Ch Ci Cj Cl Cm Cn Co Cp Cq Cs Ct Cu Cv Cw Cx Cy Cz CA CB CC CD CE CF CG CH CI CJ CK CL CM CN CO CP CQ CR CS CT CU CV CW CX CY CZ C0 C1 C2 C3 C4:Value} (w x:World) (G cb X len3 cap3 len4 cap4 len6 cap6:Nat) (a3 a4 a6:Option Addr) (a5:Int) (z3 z4:Nat→Int) (lm:List Int) (H3:Hid (Vec w.heap.size w a3 len3 (fun i=>.int .i64 (z3 i)))) (H4:Hid (Vec w.heap.size w a4 len4 (fun i=>.int .u8 (z4 i)))) (HB4:Hid (∀i,0≤z4 i∧z4 i≤255)) (HSR:Hid (Ck.Src w (.slice a6 lm.length cap6) lm)) (HLM:Hid (lm.length=len6)) (HBM:Hid (∀b∈lm,0≤b∧b≤255)) (H100:Hid (¬100<len6)) (HT:Hid (Sv.Turns w x G cb X)) (HXw:Hid (w.heap.size≤X)) :
  Code.wp Tryz.prog Sv.bytes11 (bodyPost Tryz.prog Tryz.f3 fun e w'=>e=.returned (.bool true)∧Below w.heap.size w w') ⟨#[f0,f1,f2,(.slice a3 len3 cap3),(.slice a4 len4 cap4),(.int .i64 a5),(.slice a6 len6 cap6),f7,f8,f9,Aa,Ab,Ac,Ad,Ae,Af,(.slice (some ⟨G,0,none⟩) 919 cb),Ag,Ah,Ai,(.pointer (some ⟨X,0,none⟩)),Aj,Ak,Al,Am,Ao,Ap,Aq,Ar,As,Au,Av,Aw,Az,AA,AB,AC,AD,AE,AF,AG,AH,AI,AJ,AK,AL,AM,AN,AO,AP,AQ,AR,AS,AT,AU,AV,AW,AX,AY,AZ,A0,A1,A2,A3,A4,A5,A6,A7,A8,A9,Ba,Bb,Bc,Bd,Be,Bf,Bg,Bh,Bi,Bj,Bk,Bl,Bm,Bn,Bo,Bp,Bq,Br,Bs,Bt,Bu,Bv,Bw,Bx,Bz,BA,BB,BC,BD,BE,BF,BG,BH,BI,BJ,BK,BL,BM,BN,BO,BP,BQ,BR,BS,BT,BU,BV,BW,BX,BY,BZ,B0,B1,B2,B3,B4,B5,B6,B7,B8,B9,Ca,Cb,Cc,Cd,Ce,Cf,Cg,Ch,Ci,Cj,Cl,Cm,Cn,Co,Cp,Cq,Cs,Ct,Cu,Cv,Cw,Cx,Cy,Cz,CA,CB,CC,CD,CE,CF,CG,CH,CI,CJ,CK,CL,CM,CN,CO,CP,CQ,CR,CS,CT,CU,CV,CW,CX,CY,CZ,C0,C1,C2,C3,C4],[]⟩ x:=by
 conv=>arg 2;whnf
 go_upto_block 0 with fail
 go_cut [22] from 87 to 118 (fun _ wx=>Hid (Sv.Turns w wx G cb X))
 case first =>
  go_wp2_with fail
  go_loopw [22] (fun v22 wr=>∃i:Nat,i≤3∧v22=.int .i64 (i:Int)∧Hid (Sv.Turns w wr G cb X)) (fun v22 _=>10 - (intOf v22).toNat)
  case atStart=>exact ⟨0,by omega,rfl,HT⟩
  case round =>
   clear HT;obtain ⟨i,hi3,rfl,hX0⟩:=hrel;by_cases hlt:i<len3∧i<len4∧i<3
   ·obtain ⟨l,J,hX,hJ⟩:=uh hX0;have hlt1:(i:Int)<(len3:Int):=by omega
    have hlt2:(i:Int)<(len4:Int):=by omega
    have hlt3:(i:Int)<3:=by omega
    have HL:=hide hlt;obtain ⟨b3,o3,rfl,hb3,hc3⟩:∃b off,a3=some ⟨b,off,none⟩∧b<w.heap.size∧∀i,i<len3→w.cell? ⟨b,off+i,none⟩=some (.int .i64 (z3 i)):=by
     obtain ⟨_,h0|h⟩:=uh H3
     ·omega
     ·exact h
    obtain ⟨b4,o4,rfl,hb4,hc4⟩:∃b off,a4=some ⟨b,off,none⟩∧b<w.heap.size∧∀i,i<len4→w.cell? ⟨b,off+i,none⟩=some (.int .u8 (z4 i)):=by
     obtain ⟨_,h0|h⟩:=uh H4
     ·omega
     ·exact h
    have d3:wr.cell? ⟨b3,o3+i,none⟩=some (.int .i64 (z3 i)):=(gce hX.grown b3 (o3+i) hb3 (by simp)).trans (hc3 i hlt.1);have d4:wr.cell? ⟨b4,o4+i,none⟩=some (.int .u8 (z4 i)):=(gce hX.grown b4 (o4+i) hb4 (by simp)).trans (hc4 i hlt.2.1);have yb:=uh HB4 i;obtain ⟨y2,hy2⟩:∃y,z3 i=y:=⟨_,rfl⟩;obtain ⟨yy,hyy⟩:∃y,z4 i=y:=⟨_,rfl⟩;rw [hy2] at d3;rw [hyy] at d4 yb;obtain ⟨k,hk,hk9⟩:=Sv.within_nat (a:=y2) (n:=919) (by omega);have cw:Hid (∀x,Calls Tryz.prog 13 #[.int .i64 y2,.int .i64 919] x fun e w'=>e=.returned (.int .i64 (k:Int))∧w'=x):=fun x=>by
     have h:=within14_any y2 919 x (by omega) (by omega);rw [show y2 % 919=(k:Int) from hk] at h;exact h
    have d1:=hX.cell hk9;have fB:=hX.free;have hbt:0≤Sn.fn l k∧Sn.fn l k≤255:=by
     have hl:=hX.len;unfold Sn.fn;rw [List.getElem?_eq_getElem (by omega)];exact hX.byte _ (List.getElem_mem (by omega))
    obtain ⟨x0,hx0⟩:∃x,Sn.fn l k=x:=⟨_,rfl⟩;rw [hx0] at d1 hbt;have hw8:IntKind.u8.wrap (x0+yy)=(x0+yy) % 256:=Sn.wrap8 _;have hne:=hX.ne_camp hJ;have hT2:Hid (Sv.Turns w (wr.setCell ⟨G,k,none⟩ (.int .u8 ((x0+yy) % 256))) G cb X):=⟨_,J,hX.turn k ((x0+yy) % 256) (by omega) (by omega),hJ.other hne _ _⟩;have hk1:(k:Int)<919:=by omega
    have hk2:(0:Int)≤(k:Int):=by omega
    have hS0:Hid (wr.cell? ⟨G,k,none⟩=some (.int .u8 x0)∧wr.cell? ⟨b3,o3+i,none⟩=some (.int .i64 y2)∧wr.cell? ⟨b4,o4+i,none⟩=some (.int .u8 yy)):=⟨d1,d3,d4⟩;clear hlt hi3 hb3 hc3 hb4 hc4 hy2 hyy hk hk9 hx0 hX hJ hX0 hne yb hbt;go_upto_region 14 with fail;refine wp_region_till (h:=16) (S:=fun x=>Hid (x.cell? ⟨G,k,none⟩=some (.int .u8 x0)∧x.cell? ⟨b3,o3+i,none⟩=some (.int .i64 y2)∧x.cell? ⟨b4,o4+i,none⟩=some (.int .u8 yy))) (by kernel_rfl) ?_;have hS0:Hid (wr.drew.cell? ⟨G,k,none⟩=some (.int .u8 x0)∧wr.drew.cell? ⟨b3,o3+i,none⟩=some (.int .i64 y2)∧wr.drew.cell? ⟨b4,o4+i,none⟩=some (.int .u8 yy)):=uh hS0;refine wtj 0 (v:=?_) [16] rfl (by kernel_rfl) (fun _ _ _ h=>h) hS0 ⟨by rfl,?_⟩ ?_;rotate_left
    ·intro x hSx;clear hSx;go_simp;try with_reducible rfl
    simp only [Act.put,pa,pb,pd,pe,pf];refine wtj 1 (v:=?_) [16] rfl (by kernel_rfl) (fun _ _ _ h=>h) hS0 ⟨by rfl,?_⟩ ?_;rotate_left
    ·intro x hSx;clear hSx;go_simp;try with_reducible rfl
    simp only [Act.put,pa,pb,pc,pd,pe,pf];refine wtj 2 (v:=?_) [16] rfl (by kernel_rfl) (fun _ _ _ h=>h) hS0 ⟨by rfl,?_⟩ ?_;rotate_left
    ·intro x hSx;clear hSx;go_simp;try with_reducible rfl
    simp only [Act.put,pa,pb,pc,pd,pe,pf];refine wtj 3 (v:=?_) [16] rfl (by kernel_rfl) (fun _ _ _ h=>h) hS0 ⟨by rfl,?_⟩ ?_;rotate_left
    ·intro x hSx;clear hSx;go_simp;try with_reducible rfl
    simp only [Act.put,pa,pb,pc,pd,pe,pf];refine wtj 4 (v:=?_) [16] rfl (by kernel_rfl) (fun _ _ _ h=>h) hS0 ⟨by rfl,?_⟩ ?_;rotate_left
    ·intro x hSx;have u0:=(uh hSx).2.1;clear hSx;go_simp;try with_reducible rfl
    simp only [Act.put,pa,pb,pc,pd,pe,pf];refine wtj 5 (v:=?_) [16] rfl (by kernel_rfl) (fun _ _ _ h=>h) hS0 ⟨by rfl,?_⟩ ?_;rotate_left
    ·intro x hSx;clear hSx;go_simp;try with_reducible rfl
    simp only [Act.put,pa,pb,pc,pd,pe,pf];refine wtj 6 (v:=?_) [16] rfl (by kernel_rfl) (fun _ _ _ h=>h) hS0 ⟨by rfl,?_⟩ ?_;rotate_left
    ·intro x hSx;clear hSx;go_simp;try with_reducible rfl
    simp only [Act.put,pa,pb,pc,pd,pe,pf];refine wtj 10 (v:=?_) [16] rfl (by kernel_rfl) (fun _ _ _ h=>h) hS0 ⟨by rfl,?_⟩ ?_;rotate_left
    ·intro x hSx;clear hSx;go_simp;try with_reducible rfl
    simp only [Act.put,pa,pb,pc,pd,pe,pf];refine wtj 11 (v:=?_) [16] rfl (by kernel_rfl) (fun _ _ _ h=>h) hS0 ⟨by rfl,?_⟩ ?_;rotate_left
    ·intro x hSx;clear hSx;go_simp;try with_reducible rfl
    simp only [Act.put,pa,pb,pc,pd,pe,pf];refine wtj 12 (v:=?_) [16] rfl (by kernel_rfl) (fun _ _ _ h=>h) hS0 ⟨by rfl,?_⟩ ?_;rotate_left
    ·intro x hSx;clear hSx;go_simp;try with_reducible rfl
    simp only [Act.put,pa,pb,pc,pd,pe,pf];refine wtj 13 (v:=?_) [16] rfl (by kernel_rfl) (fun _ _ _ h=>h) hS0 ⟨by rfl,?_⟩ ?_;rotate_left
    ·intro x hSx;have u0:=(uh hSx).2.2;clear hSx;go_simp;try with_reducible rfl
    simp only [Act.put,pa,pb,pc,pd,pe,pf];refine wto (j:=7) (by kernel_rfl) rfl (fun K hK=>?_);go_simp;refine (uh cw _).mono ?_;rintro e wq ⟨rfl,hq'⟩;obtain rfl:wr.drew=wq:=hq'.symm;clear hq';try go_simp
    refine hK.out _ _ (fun _=>hS0) ?_;clear hK K;refine wtj 8 (v:=?_) [16] rfl (by kernel_rfl) (fun _ _ _ h=>h) hS0 ⟨by rfl,?_⟩ ?_;rotate_left
    ·intro x hSx;clear hSx;go_simp;try with_reducible rfl
    simp only [Act.put,pa,pb,pc,pd,pe,pf];refine wtj 9 (v:=?_) [16] rfl (by kernel_rfl) (fun _ _ _ h=>h) hS0 ⟨by rfl,?_⟩ ?_;rotate_left
    ·intro x hSx;have u0:=(uh hSx).1;clear hSx;go_simp;try with_reducible rfl
    simp only [Act.put,pa,pb,pc,pd,pe,pf];refine wtj 14 (v:=?_) [16] rfl (by kernel_rfl) (fun _ _ _ h=>h) hS0 ⟨by rfl,?_⟩ ?_;rotate_left
    ·intro x hSx;clear hSx;go_simp;try with_reducible rfl
    simp only [Act.put,pa,pb,pc,pd,pe,pf];refine wtj 15 (v:=?_) [16] rfl (by kernel_rfl) (fun _ _ _ h=>h) hS0 ⟨by rfl,?_⟩ ?_;rotate_left
    ·intro x hSx;clear hSx;go_simp;try with_reducible rfl
    simp only [Act.put,pa,pb,pc,pd,pe,pf];refine wto (j:=16) (by kernel_rfl) rfl (fun K hK=>?_);go_simp;refine hK.out _ _ (fun hx=>absurd (hx.symm.trans (by kernel_rfl)) Bool.false_ne_true) ?_;clear hK K;refine wpTill_done (by kernel_rfl) ?_ _;clear hS0 cw d1 d3 d4 fB hw8 hk1 hk2;go_wp2_with fail;go_roundw;case rel=>exact ⟨i+1,by have:=uh HL;omega,by go_num,(uh hT2).on (gdw (World.grownBy.refl _ none) 1)⟩
    case measure=>simp [intOf];have:=uh HL;omega
   ·by_cases h1:i<len3
    ·have h1':(i:Int)<(len3:Int):=by omega
     by_cases h2:i<len4
     ·have h2':(i:Int)<(len4:Int):=by omega
      have h3':¬(i:Int)<3:=by omega
      clear hlt h1 h2 hi3;go_wp2_with fail;go_meet;exact hX0
     ·have h2':¬(i:Int)<(len4:Int):=by omega
      clear hlt h1 h2 hi3;go_wp2_with fail;go_meet;exact hX0
    ·have h1':¬(i:Int)<(len3:Int):=by omega
     clear hlt h1 hi3;go_wp2_with fail;go_meet;exact hX0
 case rest =>
  clear HT;have HT:=hide (uh hcut);clear hcut;rename_i Kx Ax;refine Ax _ _ ?_;go_upto_if 120 with fail
  go_cut [16] from 120 to 130 (fun v16 wx=>Hid (Sv.Cuts w wx G cb X v16))
  case first =>
   obtain ⟨l,J,hX,hJ⟩:=uh HT;by_cases hc0:0<a5
   ·obtain ⟨k,hk,hk9⟩:=Sv.within_nat (a:=a5) (n:=920) (by omega);have cw:Hid (Calls Tryz.prog 13 #[.int .i64 a5,.int .i64 920] wc fun e w'=>e=.returned (.int .i64 (k:Int))∧w'=wc):=by
     have h:=within14_any a5 920 wc (by omega) (by omega);rw [show a5 % 920=(k:Int) from hk] at h;exact h
    have hk1:(919:Int) - (k:Int)=((919 - k:Nat):Int):=by omega
    obtain ⟨m,hm⟩:∃m,919 - k=m:=⟨_,rfl⟩;rw [hm] at hk1;have hm1:(m:Int)≤(cb:Int):=by have:=hX.caps;omega
    have hm0:(0:Int)≤(m:Int):=by omega
    have hfin:Hid (Sv.Cuts w wc G cb X (.slice (some ⟨G,0,none⟩) m cb)):=⟨m,_,J,by omega,rfl,hX.cut (m:=m) (by omega),hJ⟩;clear hk hk9 hm hX hJ HT;go_wp2_with fail;refine (uh cw).mono ?_;rintro e wq ⟨rfl,hq'⟩;obtain rfl:wc=wq:=hq'.symm;clear cw hq';go_wp2_with fail;go_meet;exact hfin
   ·have hfin:Hid (Sv.Cuts w wc G cb X (.slice (some ⟨G,0,none⟩) 919 cb)):=⟨919,_,J,by omega,rfl,hX,hJ⟩;clear hX hJ HT;go_wp2_with fail;go_meet;exact hfin
  case rest =>
   obtain ⟨m,l,J,hm1,rfl,hB,hJ⟩:=uh hcut;clear hcut HT;have hSm:=hide ((uh HSR).grown hB.grown);rw [uh HLM] at hSm;have hlm:lm.length≤100:=by have:=uh H100;have:=uh HLM;omega
   have Hm:=hide (And.intro hm1 hlm);have hne:=hide (hB.ne_camp hJ);have hBo:=hide hB.own;have hBz:=hide hB.grown.size;have HB:=hide hB;have HJ:=hide hJ;clear hB hJ hm1 hlm;go_upto_region 17 with fail
   go_cut [16] from 131 to 133 (fun v16 wx=>∃G1 c1 n l1,v16=.slice (some ⟨G1,0,none⟩) n c1∧Hid (n≤1019∧Sn.Buf w wx G1 n c1 l1∧∃J,Lie wx X 33 15 J))
   case first =>
    go_wp2_with (at_builtin;refine wpList_append_wide rfl _ _ rfl w.heap.size _ m _ rfl (uh hBo) _ lm rfl (uh hSm) ?_ (uh hBz) ?_)
    ·have:=uh Hm;omega
    intro v1 wm hown hgrow hnz;obtain ⟨G1,c1,rfl,hB1⟩:=(uh HB).more0 hown hgrow (uh HBM) hnz;have hfin:Hid (m+lm.length≤1019∧Sn.Buf w wm G1 (m+lm.length) c1 (l ++ lm)∧∃J,Lie wm X 33 15 J):=⟨by have:=uh Hm;omega,hB1,J,(uh HJ).grown hgrow (by simp [Value.ownBlock];exact fun e=>uh hne e)⟩;clear hown hgrow hnz hB1 hBo hSm hBz HB HJ;go_wp2_with fail;go_meet;exact ⟨G1,c1,_,_,rfl,hfin⟩
   case rest =>
    obtain ⟨G1,c1,n1,l1,rfl,hX⟩:=hcut;obtain ⟨J1,hJ1⟩:=(uh hX).2.2;rename_i Ky Ay;refine Ay _ _ ?_;exact saveBytes_tail w _ G1 n1 c1 X l1 J1 (uh hX).2.1 hJ1 HXw (uh hX).1


open Go.RowKit

set_option maxRecDepth 16000 in
set_option maxHeartbeats 25600000 in
theorem saveBytes_any (a0 a2 a5:Int) (a1 a3 a4 a6:Option Addr) (len1 cap1 len3 cap3 len4 cap4 len6 cap6:Nat) (V:Nat→Option Addr × Nat × Nat) (z:Nat→Nat→Int) (z3 z4:Nat→Int) (lm:List Int) (w:World) (w0:(Lit.int .i64 a0).wf=true) (w2:(Lit.int .i64 a2).wf=true) (hC:Cr.Came w a1 len1 V z) (hv3:Vec w.heap.size w a3 len3 (fun i=>.int .i64 (z3 i))) (hv4:Vec w.heap.size w a4 len4 (fun i=>.int .u8 (z4 i))) (hb4:∀i,0≤z4 i∧z4 i≤255) (hlm:lm.length=len6) (hm6:len6≤cap6∧cap6≤maxLen) (hsrc:Ck.Src w (.slice a6 lm.length cap6) lm) (hbm:∀b∈lm,0≤b∧b≤255) :
  Calls Tryz.prog 3 #[.int .i64 a0,.slice a1 len1 cap1,.int .i64 a2,.slice a3 len3 cap3,.slice a4 len4 cap4,.int .i64 a5,.slice a6 len6 cap6] w fun e w'=>e=.returned (.bool true)∧Below w.heap.size w w':=by
 have hz:=hide (Sv.wfs w0);have hz2:=hide (Sv.wfs w2);have hC':=hide hC;have H3:=hide hv3;have H4:=hide hv4;have HB4:=hide hb4;have HSR:=hide hsrc;have HLM:=hide hlm;have HBM:=hide hbm;have e3:(len3:Int)≤9223372036854775807:=by have:=hv3.1;unfold maxLen at this;omega
 have e4:(len4:Int)≤9223372036854775807:=by have:=hv4.1;unfold maxLen at this;omega
 have e6:(len6:Int)≤9223372036854775807:=by have:=hm6;unfold maxLen at this;omega
 clear w0 w2 hC hv3 hv4 hb4 hsrc hlm hbm hm6;go_enter Tryz.func3,Tryz.ntmps3;go_wp2_with fail;refine (known14_any _).mono ?_;rintro e x1 ⟨rfl,hg1⟩;have cs:=hide (story_any a0 a1 len1 cap1 V z x1 ((uh hC').on hg1));have G1:=hide hg1;clear hg1 hC';go_wp2_with fail;refine (uh cs).mono ?_;rintro e x2 ⟨v,base0,L,rfl,hbase,hL0,hL31,hBk,hg2⟩;have cc:=hide (svCampaign_any hBk hL0 hL31 (uh hz) a2 (uh hz2));have G2:=hide (gtr (uh G1) hg2);clear cs hbase hL0 hL31 hBk hg2 G1 hz hz2;go_wp2_with fail;refine (uh cc).mono ?_;rintro e x3 ⟨C,gC,gE,gI,cC,cE,cI,rfl,hcE,hL,hok,hg3⟩;have hK:Sv.Camp x3 C (Sv.Q.of C.s gC gE gI cC cE cI C.g C.t):=⟨hok,gC,gE,gI,cC,cE,cI,rfl,hcE,hL⟩;rw [Sv.cells_camp];obtain ⟨F,hF⟩:∃F,Sv.Q.of C.s gC gE gI cC cE cI C.g C.t=F:=⟨_,rfl⟩;rw [hF] at hK ⊢;obtain ⟨x4,hx4⟩:∃x,x=x3.alloc (.cells (Sv.cells F) 33):=⟨_,rfl⟩;have hg4:x3.grownBy x4 none:=by rw [hx4];exact World.grownBy_alloc _ _ _
 obtain ⟨B,hB⟩:∃B,x3.heap.size=B:=⟨_,rfl⟩;have BC:Hid (Lie x4 B 33 15 F.box):=by
  show Lie x4 _ _ _ _;rw [hx4,←hB];exact Sv.cells_lie x3 F
 have K4:=hide (hK.on hg4);have G4:=hide (gtr (uh G2) (gtr hg3 hg4));clear cc hcE hL hok hg3 hg4 hK hF G2;unfold Sv.cells at hx4 ⊢;go_upto_region 4 with fail;rw [←hx4];clear hx4 hB x3;have ce:=hide (uh K4).encode;obtain ⟨b0,b1,b2,b3,b4,b5,b6,b7,b8,b9,b10,b11,b12,b13,b14⟩:=Sv.cells15 (uh BC);unfold Sv.cells at ce;go_wp2_with fail;refine (uh ce).mono ?_;rintro e x5 ⟨G,cb,rfl,hBuf⟩;have HB5:=hide (hBuf.down (uh G4));have K5:=hide ((uh K4).on hBuf.grown);have BC5:=hide ((uh BC).on hBuf.grown);have cr:=hide (uh K5).refEncode;clear ce hBuf K4 BC G4 b0 b1 b2 b3 b4 b5 b6 b7 b8 b9 b10 b11 b12 b13 b14;obtain ⟨b0,b1,b2,b3,b4,b5,b6,b7,b8,b9,b10,b11,b12,b13,b14⟩:=Sv.cells15 (uh BC5);unfold Sv.world at cr;go_wp2_with fail;refine (uh cr).mono ?_;rintro e x6 ⟨G2,c2,rfl,hBuf2⟩;have HB6:=hide ((uh HB5).on hBuf2.grown);have K6:=hide ((uh K5).on hBuf2.grown);have BC6:=hide ((uh BC5).on hBuf2.grown);have t2:Hid (∀y,x6.grownBy y none→(convert 24 9 (.slice (some ⟨G2,0,none⟩) 918 c2)).run Tryz.prog y=.ok (.string (strOfNums (C.bytes.drop 1))) y):=fun y hy=>(hBuf2.on hy).src.text;have t1:Hid (∀y,x6.grownBy y none→(convert 24 9 (.slice (some ⟨G,1,none⟩) 918 (cb - 1))).run Tryz.prog y=.ok (.string (strOfNums (C.bytes.drop 1))) y):=fun y hy=>((uh HB6).on hy).src1.text;have hcp:=(uh HB6).caps;have hcp2:cb≤9223372036854775807:=hcp.2;obtain ⟨a,hslice,ha⟩:=Sv.run_tail G 919 cb (by omega);obtain rfl:=ha (by omega);obtain ⟨S,hS⟩:∃S,strOfNums (C.bytes.drop 1)=S:=⟨_,rfl⟩;rw [hS] at t1 t2;clear cr hBuf2 HB5 K5 BC5 b0 b1 b2 b3 b4 b5 b6 b7 b8 b9 b10 b11 b12 b13 b14 hS hcp hcp2;go_upto_region 6 with fail
 go_cut [70] from 44 to 70 (fun v70 wx=>v70=.bool (decide (100<len6))∧Hid (x6.grownBy wx none))
 case first =>
  by_cases h100:100<len6
  ·have h5:(100:Int)<(len6:Int):=by omega
   have HD:Hid (Value.bool true=.bool (decide (100<len6))):=(show _=_ by rw [decide_eq_true h100]);clear h100
   go_region_held3 (fun x=>(convert 24 9 (.slice (some ⟨G2,0,none⟩) 918 c2)).run Tryz.prog x=.ok (.string S) x∧(convert 24 9 (.slice (some ⟨G,1,none⟩) 918 (cb - 1))).run Tryz.prog x=.ok (.string S) x) (exact ⟨uh t2 _ (gd1 (World.grownBy.refl _ none)),uh t1 _ (gd1 (World.grownBy.refl _ none))⟩) (fail)
   clear t1 t2 hslice HB6 K6 BC6;go_wp2_with fail;go_meet;exact ⟨uh HD,gd1 (World.grownBy.refl _ none)⟩
  ·have h5:¬(100:Int)<(len6:Int):=by omega
   have HD:Hid (Value.bool false=.bool (decide (100<len6))):=(show _=_ by rw [decide_eq_false h100]);clear h100
   go_region_held3 (fun x=>(convert 24 9 (.slice (some ⟨G2,0,none⟩) 918 c2)).run Tryz.prog x=.ok (.string S) x∧(convert 24 9 (.slice (some ⟨G,1,none⟩) 918 (cb - 1))).run Tryz.prog x=.ok (.string S) x) (exact ⟨uh t2 _ (gd1 (World.grownBy.refl _ none)),uh t1 _ (gd1 (World.grownBy.refl _ none))⟩) (fail)
   clear t1 t2 hslice HB6 K6 BC6;go_wp2_with fail;go_meet;exact ⟨uh HD,gd1 (World.grownBy.refl _ none)⟩
 case rest =>
  obtain ⟨rfl,hg7⟩:=hcut;have HB7:=hide ((uh HB6).on (uh hg7));have K7:=hide ((uh K6).on (uh hg7));have BC7:=hide ((uh BC6).on (uh hg7));clear HB6 K6 BC6 t1 t2 hslice hg7;by_cases h100:100<len6
  ·have h5:(100:Int)<(len6:Int):=by omega
   rw [decide_eq_true h100];have hfin:=hide (none_below (uh HB7).grown);clear h100 HB7 K7 BC7;go_wp2;go_ret;exact ⟨rfl,uh hfin⟩
  ·have h5:¬(100:Int)<(len6:Int):=by omega
   have H100:=hide h100;rw [decide_eq_false h100];have cd:=hide ((uh K7).decode (uh HB7));clear h100;go_wp2_with fail;refine (uh cd).mono ?_;rintro e z1 ⟨hg8,F1,rfl,hT1⟩;obtain ⟨z2,hz2⟩:∃x,x=z1.alloc (.cells (Sv.cells F1) 33):=⟨_,rfl⟩;have hg2:z1.grownBy z2 none:=by rw [hz2];exact World.grownBy_alloc _ _ _
   obtain ⟨X,hX0⟩:∃B,z1.heap.size=B:=⟨_,rfl⟩;have BX:Hid (Lie z2 X 33 15 F1.box):=by
    show Lie z2 _ _ _ _;rw [hz2,←hX0];exact Sv.cells_lie z1 F1
   have hg:=gtr hg8 hg2;have HB8:=hide ((uh HB7).on hg);have HXw:Hid (w.heap.size≤X):=by
    show w.heap.size≤X;rw [←hX0];exact Nat.le_trans (uh HB7).grown.size hg8.size
   have BC8:=hide ((uh BC7).on hg);have cq:=hide (svSame_tells (hT1.on hg2) ((uh K7).on hg).tells);clear cd hg8 hT1 hg2 hg HB7 K7 BC7;unfold Sv.cells at hz2 cq ⊢;go_upto_region 9 with fail;rw [←hz2];clear hz2 hX0 z1;obtain ⟨p0,p1,p2,p3,p4,p5,p6,p7,p8,p9,p10,p11,p12,p13,p14⟩:=Sv.cells15 (uh BX);obtain ⟨q0,q1,q2,q3,q4,q5,q6,q7,q8,q9,q10,q11,q12,q13,q14⟩:=Sv.cells15 (uh BC8);go_wp2_with fail;refine (uh cq).mono ?_;rintro e z3 ⟨rfl,hg9⟩;have HT:Hid (Sv.Turns w z3 G cb X):=⟨_,_,(uh HB8).on hg9,(uh BX).on hg9⟩;clear cq hg9 HB8 BX BC8 p0 p1 p2 p3 p4 p5 p6 p7 p8 p9 p10 p11 p12 p13 p14 q0 q1 q2 q3 q4 q5 q6 q7 q8 q9 q10 q11 q12 q13 q14;go_upto_if 86 with fail
   go_cut [] from 86 to 86 (fun wx=>wx=z3)
   case first =>
    go_wp2_with fail;go_meet;exact rfl
   case rest =>
    obtain rfl:=hcut;rename_i Kx Ax;refine Ax _ _ ?_;exact saveBytes_mid w _ G cb X len3 cap3 len4 cap4 len6 cap6 a3 a4 a6 a5 z3 z4 lm H3 H4 HB4 HSR HLM HBM H100 HT HXw

end Go.Proofs.YtldgbkjceildfaaGreat
