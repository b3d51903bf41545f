import Derived.Test.YtldgbkjceildfaaGreatBy51
import Derived.Test.YtldgbkjceildfaaGreatBy50
namespace Go.Proofs.YtldgbkjceildfaaGreat
open Go.RowKit

set_option maxRecDepth 16000 in
set_option maxHeartbeats 6400000 in
theorem turn_hunt {v x:World} {B A R gC gE gI cC cE cI k:Nat} {how inp:Nat→Int} {sp:Nat→Bool} {s g c:Nat→Int} {E I:Nat→Nat→Int} (hT:Cr.Turn v x B A R gC gE gI cC cE cI how inp sp s g c E I) (hk:B<k∧A<k∧R<k∧v.heap.size≤k∧k≤gE∧k≤gI) (hS:Cr.Sane c E I) (hFl:Nv.Floor c) (f1:1≤s 2) (f3:s 2≤3) (had left:Bool) (Q:Ending→World→Prop) (hQ:∀F J T e y,Cr.ProwlTo s c 32 E I F J→Cr.Ends s g c (Cr.rats s c (Ft.ailE F J 32).1) (Ft.ailE F J 32).2 had left T→Gd.Worlds v T.s T.g T.c T.E T.I e y→Q e y) {t0 t1 t6 t7 t8 Aa Ab Ac Ad Ae Af Ag Ah Ai Aj Ak Al Am Ao Ap Aq Ar As Au Av Aw Ax Ay Az AA AB AC AD AE AF AG AH AI AJ AK AL AM AN AO AP AQ AR AS AT AU AV AW AX AY AZ A0 A1 A2 A3 A4 A5 A6 A7 A8 A9 Ba Bb Bc Bd Be Bf Bg Bh Bi Bj Bk Bl Bm Bn Bo Bp Bq Br Bs Bt Bu Bv Bw Bx Bz BA BB BC BD BE BF BG BH BI BJ BK BL BM BN BO BP BQ BR BS BT BU BV BW BX BY BZ B0 B1 B2 B3 B4 B5 B6 B7 B8 B9 Ca Cb Cc Cd Ce Cf Cg Ch Ci Cj Ck Cl Cm Cn Co Cp Cq Cs Ct Cu Cv Cw Cx Cy Cz CA CB CC CD CE CF CG CH CI CJ CK CL CM CN CO CP CQ CR CS CT CU CV CW CX CY CZ C0 C1 C2 C3 C4 C5 C6 C7 C8 C9 Da Db Dc Dd De Df Dg Dh Di Dj Dk Dl Dm Dn Dp Dq Dr Ds Dt Du Dv Dw Dx Dy Dz DA DB DC DD DE DF DG DH DI DJ DK DL:Value} :
  Code.wp Tryz.prog ((Tryz.f24.body.map (cdrop 9)).getD .skip) (bodyPost Tryz.prog Tryz.f24 Q) ⟨#[t0,t1,.pointer (some ⟨B,0,none⟩),.pointer (some ⟨A,0,none⟩),.pointer (some ⟨R,0,none⟩),.bool had,t6,t7,t8,.bool left,Aa,Ab,Ac,Ad,Ae,Af,Ag,Ah,Ai,Aj,Ak,Al,Am,Ao,Ap,Aq,Ar,As,Au,Av,Aw,Ax,Ay,Az,AA,AB,AC,AD,AE,AF,AG,AH,AI,AJ,AK,AL,AM,AN,AO,AP,AQ,AR,AS,AT,AU,AV,AW,AX,AY,AZ,A0,A1,A2,A3,A4,A5,A6,A7,A8,A9,Ba,Bb,Bc,Bd,Be,Bf,Bg,Bh,Bi,Bj,Bk,Bl,Bm,Bn,Bo,Bp,Bq,Br,Bs,Bt,Bu,Bv,Bw,Bx,Bz,BA,BB,BC,BD,BE,BF,BG,BH,BI,BJ,BK,BL,BM,BN,BO,BP,BQ,BR,BS,BT,BU,BV,BW,BX,BY,BZ,B0,B1,B2,B3,B4,B5,B6,B7,B8,B9,Ca,Cb,Cc,Cd,Ce,Cf,Cg,Ch,Ci,Cj,Ck,Cl,Cm,Cn,Co,Cp,Cq,Cs,Ct,Cu,Cv,Cw,Cx,Cy,Cz,CA,CB,CC,CD,CE,CF,CG,CH,CI,CJ,CK,CL,CM,CN,CO,CP,CQ,CR,CS,CT,CU,CV,CW,CX,CY,CZ,C0,C1,C2,C3,C4,C5,C6,C7,C8,C9,Da,Db,Dc,Dd,De,Df,Dg,Dh,Di,Dj,Dk,Dl,Dm,Dn,Dp,Dq,Dr,Ds,Dt,Du,Dv,Dw,Dx,Dy,Dz,DA,DB,DC,DD,DE,DF,DG,DH,DI,DJ,DK,DL],[]⟩ x:=by
 conv=>arg 2;whnf
 have hT':=hide hT;have hQ':=hide hQ;have hk':=hide hk;have hS':=hide hS;have HF:=hide (And.intro f1 (And.intro f3 hFl));clear hT hQ hk hS f1 f3 hFl;go_wp2_with fail
 go_loopw [13] (fun v13 wr=>∃(i jC jE jI dC dE dI:Nat) (F J:Nat→Nat→Int),i≤32∧v13=.int .i64 (i:Int)∧Hid (Cr.ProwlTo s c i E I F J)∧Hid (Cr.Turn v wr B A R jC jE jI dC dE dI how inp sp s g c F J)∧Hid (B<k∧A<k∧R<k∧v.heap.size≤k∧k≤jE∧k≤jI)) (fun v13 _=>40 - (intOf v13).toNat)
 case atStart=>exact ⟨0,gC,gE,gI,cC,cE,cI,E,I,by omega,rfl,⟨rfl,rfl⟩,hT',hk'⟩
 case round =>
  clear hT' hk';rename_i hKK;have hK0:=hide hKK;clear hKK;obtain ⟨i,jC,jE,jI,dC,dE,dI,F,J,hi,rfl,hP,hT0,hk1⟩:=hrel;have hSF:=hide ((uh hS').prowlTo hi (uh hP));have y5:=(uh hT0).hand.hold.box.eleven.2.2.2.2.2.1;by_cases hlt:i<32
  ·have hlt':(i:Int)<32:=by omega
   have HL:=hide hlt;obtain ⟨r0,r1,r2,r3,r4,r5,r6,r7,r8,r9,r10⟩:=(uh hT0).hand.hold.lists.own.ents.row hlt;obtain ⟨wd,hwd⟩:∃wd,wd=wr.alloc (.cells (En.cells (F i)) 70):=⟨_,rfl⟩;have hT1:=hide ((uh hT0).on (show wr.grownBy wd none by rw [hwd];exact World.grownBy_alloc _ _ _));have hD:Hid (Lie wd wr.heap.size 70 11 (Ints (F i))):=by rw [hwd];exact Lie.born wr (F i) 70
   clear hlt hi hT0;unfold En.cells at hwd;go_upto_region 34 with fail;rw [←hwd];clear hwd y5 r0 r1 r2 r3 r4 r5 r6 r7 r8 r9 r10;obtain ⟨D,hDe⟩:∃D,wr.heap.size=D:=⟨_,rfl⟩;rw [hDe] at hD ⊢;clear hDe;clear wr;have d0:=(uh hD).ent.1;have d10:=(uh hD).ent.2.2.2.2.2.2.2.2.2.2;by_cases k0:F i 0=0
   ·have K0:=hide k0;rw [k0] at d0;clear k0;have hP2:Hid (Cr.ProwlTo s c (i+1) E I F J):=⟨F,J,uh hP,(show Cr.Prowls s c i F J F J by unfold Cr.Prowls;rw [if_pos (.inl (uh K0))];exact ⟨rfl,rfl⟩)⟩;clear hP;go_wp2;go_roundw;case rel=>exact ⟨i+1,jC,jE,jI,dC,dE,dI,F,J,by have:=uh HL;omega,by go_num,hP2,hT1,hk1⟩
    case measure=>simp [intOf];have:=uh HL;omega
   ·by_cases k1:F i 0=1
    ·have K1:=hide k1;rw [k1] at d0;clear k0 k1;have hP2:Hid (Cr.ProwlTo s c (i+1) E I F J):=⟨F,J,uh hP,(show Cr.Prowls s c i F J F J by unfold Cr.Prowls;rw [if_pos (.inr (.inl (uh K1)))];exact ⟨rfl,rfl⟩)⟩;clear hP;go_wp2;go_roundw;case rel=>exact ⟨i+1,jC,jE,jI,dC,dE,dI,F,J,by have:=uh HL;omega,by go_num,hP2,hT1,hk1⟩
     case measure=>simp [intOf];have:=uh HL;omega
    ·have k0':(F i 0 == 0)=false:=by simp [k0]
     have k1':(F i 0 == 1)=false:=by simp [k1]
     by_cases k10:F i 10 > 0
     ·have K10:=hide k10;clear k0 k1;have hP2:Hid (Cr.ProwlTo s c (i+1) E I F J):=⟨F,J,uh hP,(show Cr.Prowls s c i F J F J by unfold Cr.Prowls;rw [if_pos (.inr (.inr (uh K10)))];exact ⟨rfl,rfl⟩)⟩;clear hP;go_wp2;go_roundw;case rel=>exact ⟨i+1,jC,jE,jI,dC,dE,dI,F,J,by have:=uh HL;omega,by go_num,hP2,hT1,hk1⟩
      case measure=>simp [intOf];have:=uh HL;omega
     ·have KN:=hide (show ¬(F i 0=0∨F i 0=1∨0<F i 10) by omega);have KZ:=hide k0;clear k0 k1;go_upto_region 35 with fail;clear d0 d10 hD k0' k1' k10;have hkeep:Hid (∀x,wd.grownBy x none→x.cell? ⟨B,0,none⟩=some (.int .i64 (s 0))∧x.cell? ⟨B,1,none⟩=some (.int .i64 (s 1))∧x.cell? ⟨B,2,none⟩=some (.int .i64 (s 2))∧x.cell? ⟨B,3,none⟩=some (.int .i64 (s 3))∧x.cell? ⟨B,4,none⟩=some (.slice (some ⟨jC,0,none⟩) 384 dC)∧x.cell? ⟨B,5,none⟩=some (.slice (some ⟨jE,0,none⟩) 32 dE)∧x.cell? ⟨B,6,none⟩=some (.slice (some ⟨jI,0,none⟩) 40 dI)∧x.cell? ⟨B,7,none⟩=some (.int .i64 (g 0))∧x.cell? ⟨B,8,none⟩=some (.int .i64 (g 1))∧x.cell? ⟨B,9,none⟩=some (.int .i64 (g 2))∧x.cell? ⟨B,10,none⟩=some (.int .i64 (g 3))):=fun x hx=>((uh hT1).on hx).hand.hold.box.eleven;have hd:=hide (gd1 (World.grownBy.refl wd none));have cm:Hid (∀x,wd.grownBy x none→Calls Tryz.prog 47 #[.agg #[.int .i64 (s 0),.int .i64 (s 1),.int .i64 (s 2),.int .i64 (s 3),.slice (some ⟨jC,0,none⟩) 384 dC,.slice (some ⟨jE,0,none⟩) 32 dE,.slice (some ⟨jI,0,none⟩) 40 dI,.int .i64 (g 0),.int .i64 (g 1),.int .i64 (g 2),.int .i64 (g 3)],.int .i64 (i:Int)] x (Md.Says x (Md.IsMonster s c F (i:Int)))):=fun x hx=>refMonster_any s g c F J jC jE jI dC dE dI (i:Int) x ((uh hT1).on hx).hand.hold.lists (uh hSF).fit.cells (uh hT1).hand.cap (uh hSF).good.fine;have ct:Hid (∀x u,wd.grownBy x none→Calls Tryz.prog 44 #[.agg #[.int .i64 (s 0),.int .i64 (s 1),.int .i64 (s 2),.int .i64 (s 3),.slice (some ⟨jC,0,none⟩) 384 dC,.slice (some ⟨jE,0,none⟩) 32 dE,.slice (some ⟨jI,0,none⟩) 40 dI,.int .i64 (g 0),.int .i64 (g 1),.int .i64 (g 2),.int .i64 (g 3)],.int .i64 (i:Int),.int .i64 u,.bool true] x (Cr.Back x jC jE jI s g c (Cr.act s c F J i u true).1 (Cr.act s c F J i u true).2)):=fun x u hx=>refAct_any s g c F J jC jE jI dC dE dI i u true x ((uh hT1).on hx).hand.hold.lists (uh hT1).hand.cap (uh hT1).hand.hold.cE (uh hT1).hand.hold.cI (uh hT1).hand.hold.eI (uh hSF) (uh HL) (uh KZ);refine wp_region_till (h:=6) (S:=fun x=>x.cell? ⟨B,0,none⟩=some (.int .i64 (s 0))∧x.cell? ⟨B,1,none⟩=some (.int .i64 (s 1))∧x.cell? ⟨B,2,none⟩=some (.int .i64 (s 2))∧x.cell? ⟨B,3,none⟩=some (.int .i64 (s 3))∧x.cell? ⟨B,4,none⟩=some (.slice (some ⟨jC,0,none⟩) 384 dC)∧x.cell? ⟨B,5,none⟩=some (.slice (some ⟨jE,0,none⟩) 32 dE)∧x.cell? ⟨B,6,none⟩=some (.slice (some ⟨jI,0,none⟩) 40 dI)∧x.cell? ⟨B,7,none⟩=some (.int .i64 (g 0))∧x.cell? ⟨B,8,none⟩=some (.int .i64 (g 1))∧x.cell? ⟨B,9,none⟩=some (.int .i64 (g 2))∧x.cell? ⟨B,10,none⟩=some (.int .i64 (g 3))) (by kernel_rfl) ?_;have hS0:=uh hkeep _ (uh hd);refine wtj 0 (v:=?_) [6] rfl (by kernel_rfl) (fun _ _ _ h=>h) hS0 ⟨by rfl,?_⟩ ?_;rotate_left
      ·intro x hSx;try dsimp only at hSx
       go_simp;try with_reducible rfl
      simp only [Act.put];refine wtj 1 (v:=?_) [6] rfl (by kernel_rfl) (fun _ _ _ h=>h) hS0 ⟨by rfl,?_⟩ ?_;rotate_left
      ·intro x hSx;try dsimp only at hSx
       go_simp;try with_reducible rfl
      simp only [Act.put];refine wtj 2 (v:=?_) [6] rfl (by kernel_rfl) (fun _ _ _ h=>h) hS0 ⟨by rfl,?_⟩ ?_;rotate_left
      ·intro x hSx;try dsimp only at hSx
       go_simp;try with_reducible rfl
      simp only [Act.put];refine wtj 3 (v:=?_) [6] rfl (by kernel_rfl) (fun _ _ _ h=>h) hS0 ⟨by rfl,?_⟩ ?_;rotate_left
      ·intro x hSx;try dsimp only at hSx
       go_simp;try with_reducible rfl
      simp only [Act.put];refine wto (j:=4) (by kernel_rfl) rfl (fun K hK=>?_);go_simp;refine (uh cm _ (uh hd)).mono ?_;rintro e0 w4 ⟨u,hu,rfl,hg4⟩;have hG4:=hide (gtr (uh hd) hg4);have hS4:=uh hkeep _ (uh hG4);have HU:=hide hu;clear hg4 hS0 hu;try go_simp
      refine hK.out _ _ (fun _=>uh hkeep _ (uh hG4)) ?_;clear hK K;refine wto (j:=5) (by kernel_rfl) rfl (fun K hK=>?_);go_simp;refine (uh ct _ u (uh hG4)).mono ?_;rintro e0 w5 ⟨qC,qE,qI,rC,rE,rI,rfl,hcap,l1,l2,l3,n1,n2,n3,hL,hg5⟩;have hG5:=hide (gtr (uh hG4) hg5);have hS5:=uh hkeep _ (uh hG5);have hT2:Hid (Cr.Turn v (((((((((((w5.setCell ⟨B,0,none⟩ (.int .i64 (s 0))).setCell ⟨B,1,none⟩ (.int .i64 (s 1))).setCell ⟨B,2,none⟩ (.int .i64 (s 2))).setCell ⟨B,3,none⟩ (.int .i64 (s 3))).setCell ⟨B,4,none⟩ (.slice (some ⟨qC,0,none⟩) 384 rC)).setCell ⟨B,5,none⟩ (.slice (some ⟨qE,0,none⟩) 32 rE)).setCell ⟨B,6,none⟩ (.slice (some ⟨qI,0,none⟩) 40 rI)).setCell ⟨B,7,none⟩ (.int .i64 (g 0))).setCell ⟨B,8,none⟩ (.int .i64 (g 1))).setCell ⟨B,9,none⟩ (.int .i64 (g 2))).setCell ⟨B,10,none⟩ (.int .i64 (g 3))) B A R qC qE qI rC rE rI how inp sp s g c (Cr.act s c F J i u true).1 (Cr.act s c F J i u true).2):=(((uh hT1).on (uh hG4)).fresh (uh hk1) hcap l1 l2 l3 n1 n2 n3 hL hg5).1;have hk2:Hid (B<k∧A<k∧R<k∧v.heap.size≤k∧k≤qE∧k≤qI):=(((uh hT1).on (uh hG4)).fresh (s':=s) (g':=g) (dC:=rC) (dI:=rI) (uh hk1) hcap l1 l2 l3 n1 n2 n3 hL hg5).2.2;have f5:=((uh hT1).on (uh hG5)).hand.hold.box.free;clear hcap l1 l2 l3 n1 n2 n3 hL hg5 hS4;try unfold Gd.world
      try go_simp
      refine hK.out _ _ (fun _=>uh hkeep _ (uh hG5)) ?_;clear hK K;refine wto (j:=6) (by kernel_rfl) rfl (fun K hK=>?_);go_simp;refine hK.out _ _ (fun hx=>absurd (hx.symm.trans (by kernel_rfl)) Bool.false_ne_true) ?_;clear hK K;refine wpTill_done (by kernel_rfl) ?_ _;have hP2:Hid (Cr.ProwlTo s c (i+1) E I (Cr.act s c F J i u true).1 (Cr.act s c F J i u true).2):=⟨F,J,uh hP,(show Cr.Prowls s c i F J (Cr.act s c F J i u true).1 (Cr.act s c F J i u true).2 by unfold Cr.Prowls;rw [if_neg (uh KN)];exact ⟨u,uh HU,rfl,rfl⟩)⟩;clear hkeep hS5 hT1 hP;go_wp2;go_roundw;case rel=>exact ⟨i+1,qC,qE,qI,rC,rE,rI,_,_,by have:=uh HL;omega,by go_num,hP2,hT2,hk2⟩
      case measure=>simp [intOf];have:=uh HL;omega
  ·obtain rfl:i=32:=by omega
   have hge:¬((32:Nat):Int)<32:=by omega
   clear hlt hi;go_wp2_with fail;exact uh hK0 _ _ (turn_rat (uh hT0) (uh hk1) (uh hSF) (uh HF).2.2 (uh HF).1 (uh HF).2.1 had left Q (fun T e y h1 h2=>uh hQ' F J T e y (uh hP) h1 h2))


open Go.RowKit

theorem Cr.act_three {x:World} {A:Nat} {how inp:Nat→Int} {sp:Nat→Bool} (h:Lie x A 63 12 (Cr.actF how inp sp)) {t:Nat} (ht:t<4):x.cell? ⟨A,t*3,none⟩=some (.int .i64 (how t))∧x.cell? ⟨A,t*3+1,none⟩=some (.int .i64 (inp t))∧x.cell? ⟨A,t*3+2,none⟩=some (.bool (sp t)):=by
 rcases (show t=0∨t=1∨t=2∨t=3 by omega) with rfl|rfl|rfl|rfl
 ·exact ⟨h.cell (c:=0) (by omega),h.cell (c:=1) (by omega),h.cell (c:=2) (by omega)⟩
 ·exact ⟨h.cell (c:=3) (by omega),h.cell (c:=4) (by omega),h.cell (c:=5) (by omega)⟩
 ·exact ⟨h.cell (c:=6) (by omega),h.cell (c:=7) (by omega),h.cell (c:=8) (by omega)⟩
 ·exact ⟨h.cell (c:=9) (by omega),h.cell (c:=10) (by omega),h.cell (c:=11) (by omega)⟩

set_option maxRecDepth 16000 in
set_option maxHeartbeats 6400000 in
theorem turn_seats {v x:World} {B A R gC gE gI cC cE cI k:Nat} {how inp:Nat→Int} {sp:Nat→Bool} {s g c:Nat→Int} {E I:Nat→Nat→Int} (hT:Cr.Turn v x B A R gC gE gI cC cE cI how inp sp s g c E I) (hk:B<k∧A<k∧R<k∧v.heap.size≤k∧k≤gE∧k≤gI) (hS:Cr.Sane c E I) (hG:Cr.Gold g) (hFl:Nv.Floor c) (f1:1≤s 2) (f3:s 2≤3) (had:Bool) (Q:Ending→World→Prop) (hQ:∀m F J T e y,Cr.MovedTo s c how inp 4 ⟨g,E,I,false⟩ m→Cr.ProwlTo s c 32 m.E m.I F J→Cr.Ends s m.g c (Cr.rats s c (Ft.ailE F J 32).1) (Ft.ailE F J 32).2 had m.left T→Gd.Worlds v T.s T.g T.c T.E T.I e y→Q e y) {t0 t1 t6 t7 t8 t9 Aa Ab Ac Ad Ae Af Ag Ah Ai Aj Ak Al Am Ao Ap Aq Ar As Au Av Aw Ax Ay Az AA AB AC AD AE AF AG AH AI AJ AK AL AM AN AO AP AQ AR AS AT AU AV AW AX AY AZ A0 A1 A2 A3 A4 A5 A6 A7 A8 A9 Ba Bb Bc Bd Be Bf Bg Bh Bi Bj Bk Bl Bm Bn Bo Bp Bq Br Bs Bt Bu Bv Bw Bx Bz BA BB BC BD BE BF BG BH BI BJ BK BL BM BN BO BP BQ BR BS BT BU BV BW BX BY BZ B0 B1 B2 B3 B4 B5 B6 B7 B8 B9 Ca Cb Cc Cd Ce Cf Cg Ch Ci Cj Ck Cl Cm Cn Co Cp Cq Cs Ct Cu Cv Cw Cx Cy Cz CA CB CC CD CE CF CG CH CI CJ CK CL CM CN CO CP CQ CR CS CT CU CV CW CX CY CZ C0 C1 C2 C3 C4 C5 C6 C7 C8 C9 Da Db Dc Dd De Df Dg Dh Di Dj Dk Dl Dm Dn Dp Dq Dr Ds Dt Du Dv Dw Dx Dy Dz DA DB DC DD DE DF DG DH DI DJ DK DL:Value} :
  Code.wp Tryz.prog ((Tryz.f24.body.map (cdrop 7)).getD .skip) (bodyPost Tryz.prog Tryz.f24 Q) ⟨#[t0,t1,.pointer (some ⟨B,0,none⟩),.pointer (some ⟨A,0,none⟩),.pointer (some ⟨R,0,none⟩),.bool had,t6,t7,t8,t9,Aa,Ab,Ac,Ad,Ae,Af,Ag,Ah,Ai,Aj,Ak,Al,Am,Ao,Ap,Aq,Ar,As,Au,Av,Aw,Ax,Ay,Az,AA,AB,AC,AD,AE,AF,AG,AH,AI,AJ,AK,AL,AM,AN,AO,AP,AQ,AR,AS,AT,AU,AV,AW,AX,AY,AZ,A0,A1,A2,A3,A4,A5,A6,A7,A8,A9,Ba,Bb,Bc,Bd,Be,Bf,Bg,Bh,Bi,Bj,Bk,Bl,Bm,Bn,Bo,Bp,Bq,Br,Bs,Bt,Bu,Bv,Bw,Bx,Bz,BA,BB,BC,BD,BE,BF,BG,BH,BI,BJ,BK,BL,BM,BN,BO,BP,BQ,BR,BS,BT,BU,BV,BW,BX,BY,BZ,B0,B1,B2,B3,B4,B5,B6,B7,B8,B9,Ca,Cb,Cc,Cd,Ce,Cf,Cg,Ch,Ci,Cj,Ck,Cl,Cm,Cn,Co,Cp,Cq,Cs,Ct,Cu,Cv,Cw,Cx,Cy,Cz,CA,CB,CC,CD,CE,CF,CG,CH,CI,CJ,CK,CL,CM,CN,CO,CP,CQ,CR,CS,CT,CU,CV,CW,CX,CY,CZ,C0,C1,C2,C3,C4,C5,C6,C7,C8,C9,Da,Db,Dc,Dd,De,Df,Dg,Dh,Di,Dj,Dk,Dl,Dm,Dn,Dp,Dq,Dr,Ds,Dt,Du,Dv,Dw,Dx,Dy,Dz,DA,DB,DC,DD,DE,DF,DG,DH,DI,DJ,DK,DL],[]⟩ x:=by
 conv=>arg 2;whnf
 have hT':=hide hT;have hQ':=hide hQ;have hk':=hide hk;have hS':=hide (And.intro hS hG);have HF:=hide (And.intro f1 (And.intro f3 hFl));clear hT hQ hk hS hG f1 f3 hFl;go_wp2_with fail
 go_loopw [9,10] (fun v9 v10 wr=>∃(t jC jE jI dC dE dI:Nat) (m:Cr.M),t≤4∧v9=.bool m.left∧v10=.int .i64 (t:Int)∧Hid (Cr.MovedTo s c how inp t ⟨g,E,I,false⟩ m)∧Hid (Cr.Turn v wr B A R jC jE jI dC dE dI how inp sp s m.g c m.E m.I)∧Hid (B<k∧A<k∧R<k∧v.heap.size≤k∧k≤jE∧k≤jI)) (fun _ v10 _=>10 - (intOf v10).toNat)
 case atStart=>exact ⟨0,gC,gE,gI,cC,cE,cI,⟨g,E,I,false⟩,by omega,rfl,rfl,rfl,hT',hk'⟩
 case round =>
  clear hT' hk';rename_i hKK;have hK0:=hide hKK;clear hKK;obtain ⟨t,jC,jE,jI,dC,dE,dI,⟨G,F,J,lf⟩,ht,rfl,rfl,hM,hT0,hk1⟩:=hrel;have hMF:Hid (Cr.Sane c F J∧Cr.Gold G):=Cr.MFit.movedTo (m:=⟨g,E,I,false⟩) (n:=⟨G,F,J,lf⟩) (uh hS') (uh hM);try dsimp only at hT0 ⊢
  by_cases hlt:t<4
  ·have hlt':(t:Int)<4:=by omega
   have HL:=hide hlt;have y5:=(uh hT0).hand.hold.box.eleven.2.2.2.2.2.1;have ch:=hide (refHero7_any jE dE F (t:Int) wr (uh hT0).hand.hold.lists.own);obtain ⟨z,hz⟩:∃z,Gd.hero F (t:Int)=z:=⟨_,rfl⟩;rw [hz] at ch;have HZ:=hide hz;clear hlt ht hz;go_wp2_with fail;refine (uh ch).mono ?_;rintro e w1 ⟨rfl,hg⟩;have hT1:=hide ((uh hT0).on hg);clear hg ch y5 hT0;by_cases h0:z<0
   ·have H0:=hide h0;have hM2:Hid (Cr.MovedTo s c how inp (t+1) ⟨g,E,I,false⟩ ⟨G,F,J,lf⟩):=⟨⟨G,F,J,lf⟩,uh hM,(show Cr.Moved s c (t:Int) (how t) (inp t) ⟨G,F,J,lf⟩ ⟨G,F,J,lf⟩ by unfold Cr.Moved;rw [if_pos (.inl (show Gd.hero F (t:Int)<0 by rw [uh HZ];exact uh H0))])⟩;clear hM;go_wp2;go_roundw;case rel=>exact ⟨t+1,jC,jE,jI,dC,dE,dI,⟨G,F,J,lf⟩,by have:=uh HL;omega,rfl,by go_num,hM2,hT1,hk1⟩
    case measure=>simp [intOf];have:=uh HL;omega
   ·have hz0:0≤Gd.hero F (t:Int):=by rw [uh HZ];omega
    obtain ⟨p,hp,hpe,hp2,hp1⟩:=Gd.hero_pos hz0;obtain rfl:z=(p:Int):=by rw [←uh HZ];exact hpe
    have HP:Hid (p<32∧F p 0≠0):=⟨hp,by omega⟩;have hp':(p:Int)<32:=by omega
    have y5:=(uh hT1).hand.hold.box.eleven.2.2.2.2.2.1;have q10:=((uh hT1).hand.hold.lists.own.ents.row hp).2.2.2.2.2.2.2.2.2.2;obtain ⟨xa,xb,xc⟩:=Cr.act_three (uh hT1).acts (uh HL);clear hz0 hp hpe hp2 hp1 h0;by_cases hst:F p 10 > 0
    ·have HST:=hide hst;have hM2:Hid (Cr.MovedTo s c how inp (t+1) ⟨g,E,I,false⟩ ⟨G,F,J,lf⟩):=⟨⟨G,F,J,lf⟩,uh hM,(show Cr.Moved s c (t:Int) (how t) (inp t) ⟨G,F,J,lf⟩ ⟨G,F,J,lf⟩ by unfold Cr.Moved;rw [if_pos (.inr (.inl (show 0<F (Gd.hero F (t:Int)).toNat 10 by rw [uh HZ,Int.toNat_natCast];exact uh HST)))])⟩;clear hM;go_wp2;go_roundw;case rel=>exact ⟨t+1,jC,jE,jI,dC,dE,dI,⟨G,F,J,lf⟩,by have:=uh HL;omega,rfl,by go_num,hM2,hT1,hk1⟩
     case measure=>simp [intOf];have:=uh HL;omega
    ·have HST:=hide hst;have hM1:Hid (¬(how t≠1∧how t≠2)→∀u,(if how t=2 then Md.IsRobot c F J (t:Int) u else u=inp t)→Cr.MovedTo s c how inp (t+1) ⟨g,E,I,false⟩ (Cr.does s c ⟨G,F,J,lf⟩ (t:Int) p u)):=fun hh u hu=>⟨⟨G,F,J,lf⟩,uh hM,(show Cr.Moved s c (t:Int) (how t) (inp t) ⟨G,F,J,lf⟩ (Cr.does s c ⟨G,F,J,lf⟩ (t:Int) p u) by
      unfold Cr.Moved;rw [if_neg (show ¬(Gd.hero F (t:Int)<0∨0<F (Gd.hero F (t:Int)).toNat 10∨(how t≠1∧how t≠2)) by rw [uh HZ,Int.toNat_natCast];have:=uh HST;omega)];refine ⟨u,hu,?_⟩;show _=Cr.does s c ⟨G,F,J,lf⟩ (t:Int) (Gd.hero F (t:Int)).toNat u;rw [uh HZ,Int.toNat_natCast])⟩
     by_cases w1h:how t=1
     ·have hM1':Hid (∀u,u=inp t→Cr.MovedTo s c how inp (t+1) ⟨g,E,I,false⟩ (Cr.does s c ⟨G,F,J,lf⟩ (t:Int) p u)):=fun u hu=>uh hM1 (by omega) u (by rw [if_neg (by omega)];exact hu);rw [w1h] at xa;clear hM1 w1h;have hM1:=hM1';clear hM1';obtain ⟨u,hu⟩:∃u,inp t=u:=⟨_,rfl⟩;rw [hu] at xb;have HUI:=hide hu;clear hu;go_upto_region 26 with fail;clear xa xb xc q10 y5;have hFi:=hide ((uh hMF).1.fine (uh hMF).2);by_cases u1:u≥1∧u≤4
      ·obtain ⟨u1,u4⟩:=u1;obtain ⟨b0,b1,b2,b3,b4,b5,b6,b7,b8,b9,b10⟩:=(uh hT1).hand.hold.box.eleven;have hM2:Hid (Cr.MovedTo s c how inp (t+1) ⟨g,E,I,false⟩ ⟨G,(Cr.act s c F J p u false).1,(Cr.act s c F J p u false).2,lf⟩):=by
        have h:=uh hM1 u ((uh HUI).symm);rw [show Cr.does s c ⟨G,F,J,lf⟩ (t:Int) p u=⟨G,(Cr.act s c F J p u false).1,(Cr.act s c F J p u false).2,lf⟩ from by unfold Cr.does;rw [if_pos ⟨u1,u4⟩]] at h;exact h
       have ct:=hide (refAct_any s G c F J jC jE jI dC dE dI p u false w1 (uh hT1).hand.hold.lists (uh hT1).hand.cap (uh hT1).hand.hold.cE (uh hT1).hand.hold.cI (uh hT1).hand.hold.eI (uh hMF).1 (uh HP).1 (uh HP).2);unfold Gd.world at ct;clear hM1 hM;go_wp2_with fail;refine (uh ct).mono ?_;rintro e w5 ⟨qC,qE,qI,rC,rE,rI,rfl,hcap,l1,l2,l3,n1,n2,n3,hL,hg⟩;have hf:=(uh hT1).fresh (uh hk1) (s':=s) (g':=G) (dC:=rC) (dI:=rI) hcap l1 l2 l3 n1 n2 n3 hL hg;have hT2:Hid (Cr.Turn v (((((((((((w5.setCell ⟨B,0,none⟩ (.int .i64 (s 0))).setCell ⟨B,1,none⟩ (.int .i64 (s 1))).setCell ⟨B,2,none⟩ (.int .i64 (s 2))).setCell ⟨B,3,none⟩ (.int .i64 (s 3))).setCell ⟨B,4,none⟩ (.slice (some ⟨qC,0,none⟩) 384 rC)).setCell ⟨B,5,none⟩ (.slice (some ⟨qE,0,none⟩) 32 rE)).setCell ⟨B,6,none⟩ (.slice (some ⟨qI,0,none⟩) 40 rI)).setCell ⟨B,7,none⟩ (.int .i64 (G 0))).setCell ⟨B,8,none⟩ (.int .i64 (G 1))).setCell ⟨B,9,none⟩ (.int .i64 (G 2))).setCell ⟨B,10,none⟩ (.int .i64 (G 3))) B A R qC qE qI rC rE rI how inp sp s G c (Cr.act s c F J p u false).1 (Cr.act s c F J p u false).2):=hf.1;have hk2:=hide hf.2.2;have hb2:=hide hf.2.1;clear hf hcap l1 l2 l3 n1 n2 n3 hL hg ct b0 b1 b2 b3 b4 b5 b6 b7 b8 b9 b10 hT1 hk1;obtain ⟨b0,b1,b2,b3,b4,b5,b6,b7,b8,b9,b10⟩:=(uh hb2).eleven;have fB:=(uh hb2).free;clear hb2;unfold Gd.world;go_wp2;go_roundw;case rel=>exact ⟨t+1,qC,qE,qI,rC,rE,rI,⟨G,(Cr.act s c F J p u false).1,(Cr.act s c F J p u false).2,lf⟩,by have:=uh HL;omega,rfl,by go_num,hM2,hT2,hk2⟩
       case measure=>simp [intOf];have:=uh HL;omega
      ·have hn4:¬(1≤u∧u≤4):=u1;have HN4:=hide hn4;by_cases u9:u=9
       ·subst u9;have hM3:Hid (∀b:Bool,b=(lf || decide (Gr.at 384 c (F p 3) (F p 4)=4))→Cr.MovedTo s c how inp (t+1) ⟨g,E,I,false⟩ ⟨G,F,J,b⟩):=fun b hb=>by
         have h:=uh hM1 9 ((uh HUI).symm);rw [show Cr.does s c ⟨G,F,J,lf⟩ (t:Int) p 9=⟨G,F,J,b⟩ from by unfold Cr.does;rw [if_neg (by omega),if_pos rfl,hb]] at h;exact h
        clear hM1 hM u1 hn4 HN4 hFi;have b4:=(uh hT1).hand.hold.box.eleven.2.2.2.2.1;have b5:=(uh hT1).hand.hold.box.eleven.2.2.2.2.2.1;have p3:=((uh hT1).hand.hold.lists.own.ents.row (uh HP).1).2.2.2.1;have p4:=((uh hT1).hand.hold.lists.own.ents.row (uh HP).1).2.2.2.2.1;have cz:=hide (fun z (hz:Gd.Lists z jC jE jI c F J)=>refAt_any z.heap.size (some ⟨jC,0,none⟩) 384 dC c (F p 3) (F p 4) z hz.vec (uh hMF).1.fit.cells);obtain ⟨a,ha⟩:∃a,Gr.at 384 c (F p 3) (F p 4)=a:=⟨_,rfl⟩;rw [ha] at cz hM3;clear ha;cases lf
        ·by_cases a4:a=4
         ·subst a4;go_upto_region 29 with fail;go_quiet (first | (go_at_call 45;refine Calls.quiet_of_same (uh cz _ ?_);exact (uh hT1).hand.hold.lists.on (gdw (World.grownBy.refl _ none) _)) | fail);have hT2:=hide ((uh hT1).on (gdw (World.grownBy.refl w1 none) nq));have hM2:=hide (uh hM3 true (by simp));clear hM3 hT1 b4 b5 p3 p4 cz;generalize w1.drewN nq=wq at hT2 ⊢;go_wp2;go_roundw;case rel=>exact ⟨t+1,jC,jE,jI,dC,dE,dI,⟨G,F,J,true⟩,by have:=uh HL;omega,rfl,by go_num,hM2,hT2,hk1⟩
          case measure=>simp [intOf];have:=uh HL;omega
         ·have a4':(a == 4)=false:=by simp [a4]
          have HA4:=hide a4;clear a4;go_upto_region 29 with fail;go_quiet (first | (go_at_call 45;refine Calls.quiet_of_same (uh cz _ ?_);exact (uh hT1).hand.hold.lists.on (gdw (World.grownBy.refl _ none) _)) | fail);have hT2:=hide ((uh hT1).on (gdw (World.grownBy.refl w1 none) nq));have hM2:=hide (uh hM3 false (by have:=uh HA4;simp [this]));clear hM3 hT1 b4 b5 p3 p4 cz;generalize w1.drewN nq=wq at hT2 ⊢;go_wp2;go_roundw;case rel=>exact ⟨t+1,jC,jE,jI,dC,dE,dI,⟨G,F,J,false⟩,by have:=uh HL;omega,rfl,by go_num,hM2,hT2,hk1⟩
          case measure=>simp [intOf];have:=uh HL;omega
        ·clear cz;go_upto_region 29 with fail;go_quiet (fail);have hT2:=hide ((uh hT1).on (gdw (World.grownBy.refl w1 none) nq));have hM2:=hide (uh hM3 true (by simp));clear hM3 hT1 b4 b5 p3 p4;generalize w1.drewN nq=wq at hT2 ⊢;go_wp2;go_roundw;case rel=>exact ⟨t+1,jC,jE,jI,dC,dE,dI,⟨G,F,J,true⟩,by have:=uh HL;omega,rfl,by go_num,hM2,hT2,hk1⟩
         case measure=>simp [intOf];have:=uh HL;omega
       ·have u9':(u == 9)=false:=by simp [u9]
        have HN9:=hide u9;by_cases ul:u≥1
        ·have ug:¬u≤4:=by omega
         clear u1 hn4 u9;obtain ⟨b0,b1,b2,b3,b4,b5,b6,b7,b8,b9,b10⟩:=(uh hT1).hand.hold.box.eleven;have hM2:Hid (Cr.MovedTo s c how inp (t+1) ⟨g,E,I,false⟩ ⟨(Gd.nextG c G F J (t:Int) u),(Gd.nextE F J (t:Int) u),(Gd.nextI c G F J (t:Int) u),lf⟩):=by
          have h:=uh hM1 u ((uh HUI).symm);rw [show Cr.does s c ⟨G,F,J,lf⟩ (t:Int) p u=⟨(Gd.nextG c G F J (t:Int) u),(Gd.nextE F J (t:Int) u),(Gd.nextI c G F J (t:Int) u),lf⟩ from by unfold Cr.does;rw [if_neg (uh HN4),if_neg (uh HN9)]] at h;exact h
         have ct:=hide (refDo_any s G c F J jC jE jI dC dE dI (t:Int) u w1 (uh hT1).hand.hold.lists (uh hFi));unfold Gd.world at ct;clear hM1 hM;go_wp2_with fail;refine (uh ct).mono ?_;rintro e w5 ⟨qC,qE,qI,rC,rE,rI,rfl,hcap,l1,l2,l3,n1,n2,n3,hL,hg⟩;have hf:=(uh hT1).fresh (uh hk1) (s':=s) (g':=(Gd.nextG c G F J (t:Int) u)) (dC:=rC) (dI:=rI) hcap (.inr l1) (.inr l2) (.inr l3) n1 n2 n3 hL hg;have hT2:Hid (Cr.Turn v (((((((((((w5.setCell ⟨B,0,none⟩ (.int .i64 (s 0))).setCell ⟨B,1,none⟩ (.int .i64 (s 1))).setCell ⟨B,2,none⟩ (.int .i64 (s 2))).setCell ⟨B,3,none⟩ (.int .i64 (s 3))).setCell ⟨B,4,none⟩ (.slice (some ⟨qC,0,none⟩) 384 rC)).setCell ⟨B,5,none⟩ (.slice (some ⟨qE,0,none⟩) 32 rE)).setCell ⟨B,6,none⟩ (.slice (some ⟨qI,0,none⟩) 40 rI)).setCell ⟨B,7,none⟩ (.int .i64 ((Gd.nextG c G F J (t:Int) u) 0))).setCell ⟨B,8,none⟩ (.int .i64 ((Gd.nextG c G F J (t:Int) u) 1))).setCell ⟨B,9,none⟩ (.int .i64 ((Gd.nextG c G F J (t:Int) u) 2))).setCell ⟨B,10,none⟩ (.int .i64 ((Gd.nextG c G F J (t:Int) u) 3))) B A R qC qE qI rC rE rI how inp sp s (Gd.nextG c G F J (t:Int) u) c (Gd.nextE F J (t:Int) u) (Gd.nextI c G F J (t:Int) u)):=hf.1;have hk2:=hide hf.2.2;have hb2:=hide hf.2.1;clear hf hcap l1 l2 l3 n1 n2 n3 hL hg ct b0 b1 b2 b3 b4 b5 b6 b7 b8 b9 b10 hT1 hk1;obtain ⟨b0,b1,b2,b3,b4,b5,b6,b7,b8,b9,b10⟩:=(uh hb2).eleven;have fB:=(uh hb2).free;clear hb2;unfold Gd.world;go_wp2;go_roundw;case rel=>exact ⟨t+1,qC,qE,qI,rC,rE,rI,⟨(Gd.nextG c G F J (t:Int) u),(Gd.nextE F J (t:Int) u),(Gd.nextI c G F J (t:Int) u),lf⟩,by have:=uh HL;omega,rfl,by go_num,hM2,hT2,hk2⟩
         case measure=>simp [intOf];have:=uh HL;omega
        ·clear u1 hn4 u9;obtain ⟨b0,b1,b2,b3,b4,b5,b6,b7,b8,b9,b10⟩:=(uh hT1).hand.hold.box.eleven;have hM2:Hid (Cr.MovedTo s c how inp (t+1) ⟨g,E,I,false⟩ ⟨(Gd.nextG c G F J (t:Int) u),(Gd.nextE F J (t:Int) u),(Gd.nextI c G F J (t:Int) u),lf⟩):=by
          have h:=uh hM1 u ((uh HUI).symm);rw [show Cr.does s c ⟨G,F,J,lf⟩ (t:Int) p u=⟨(Gd.nextG c G F J (t:Int) u),(Gd.nextE F J (t:Int) u),(Gd.nextI c G F J (t:Int) u),lf⟩ from by unfold Cr.does;rw [if_neg (uh HN4),if_neg (uh HN9)]] at h;exact h
         have ct:=hide (refDo_any s G c F J jC jE jI dC dE dI (t:Int) u w1 (uh hT1).hand.hold.lists (uh hFi));unfold Gd.world at ct;clear hM1 hM;go_wp2_with fail;refine (uh ct).mono ?_;rintro e w5 ⟨qC,qE,qI,rC,rE,rI,rfl,hcap,l1,l2,l3,n1,n2,n3,hL,hg⟩;have hf:=(uh hT1).fresh (uh hk1) (s':=s) (g':=(Gd.nextG c G F J (t:Int) u)) (dC:=rC) (dI:=rI) hcap (.inr l1) (.inr l2) (.inr l3) n1 n2 n3 hL hg;have hT2:Hid (Cr.Turn v (((((((((((w5.setCell ⟨B,0,none⟩ (.int .i64 (s 0))).setCell ⟨B,1,none⟩ (.int .i64 (s 1))).setCell ⟨B,2,none⟩ (.int .i64 (s 2))).setCell ⟨B,3,none⟩ (.int .i64 (s 3))).setCell ⟨B,4,none⟩ (.slice (some ⟨qC,0,none⟩) 384 rC)).setCell ⟨B,5,none⟩ (.slice (some ⟨qE,0,none⟩) 32 rE)).setCell ⟨B,6,none⟩ (.slice (some ⟨qI,0,none⟩) 40 rI)).setCell ⟨B,7,none⟩ (.int .i64 ((Gd.nextG c G F J (t:Int) u) 0))).setCell ⟨B,8,none⟩ (.int .i64 ((Gd.nextG c G F J (t:Int) u) 1))).setCell ⟨B,9,none⟩ (.int .i64 ((Gd.nextG c G F J (t:Int) u) 2))).setCell ⟨B,10,none⟩ (.int .i64 ((Gd.nextG c G F J (t:Int) u) 3))) B A R qC qE qI rC rE rI how inp sp s (Gd.nextG c G F J (t:Int) u) c (Gd.nextE F J (t:Int) u) (Gd.nextI c G F J (t:Int) u)):=hf.1;have hk2:=hide hf.2.2;have hb2:=hide hf.2.1;clear hf hcap l1 l2 l3 n1 n2 n3 hL hg ct b0 b1 b2 b3 b4 b5 b6 b7 b8 b9 b10 hT1 hk1;obtain ⟨b0,b1,b2,b3,b4,b5,b6,b7,b8,b9,b10⟩:=(uh hb2).eleven;have fB:=(uh hb2).free;clear hb2;unfold Gd.world;go_wp2;go_roundw;case rel=>exact ⟨t+1,qC,qE,qI,rC,rE,rI,⟨(Gd.nextG c G F J (t:Int) u),(Gd.nextE F J (t:Int) u),(Gd.nextI c G F J (t:Int) u),lf⟩,by have:=uh HL;omega,rfl,by go_num,hM2,hT2,hk2⟩
         case measure=>simp [intOf];have:=uh HL;omega
     ·by_cases w2h:how t=2
      ·have hM1':Hid (∀u,Md.IsRobot c F J (t:Int) u→Cr.MovedTo s c how inp (t+1) ⟨g,E,I,false⟩ (Cr.does s c ⟨G,F,J,lf⟩ (t:Int) p u)):=fun u hu=>uh hM1 (by omega) u (by rw [if_pos w2h];exact hu);rw [w2h] at xa;clear hM1 w1h w2h;have hM1:=hM1';clear hM1';obtain ⟨b0,b1,b2,b3,b4,b5,b6,b7,b8,b9,b10⟩:=(uh hT1).hand.hold.box.eleven;have cr:=hide (refRobot_any s G c F J jC jE jI dC dE dI (t:Int) w1 (uh hT1).hand.hold.lists (uh hMF).1.fit.cells (uh hT1).hand.cap (uh hMF).1.good.fine);unfold Gd.world at cr;go_wp2_with fail;refine (uh cr).mono ?_;rintro e w2 ⟨u,hu,rfl,hg⟩;have hT2:=hide ((uh hT1).on hg);have HUI:=hide hu;clear b0 b1 b2 b3 b4 b5 b6 b7 b8 b9 b10 cr hT1 hg hu xa xb xc q10 y5;have hT1:=hT2;clear hT2;go_upto_region 26 with fail;have hFi:=hide ((uh hMF).1.fine (uh hMF).2);by_cases u1:u≥1∧u≤4
       ·obtain ⟨u1,u4⟩:=u1;obtain ⟨b0,b1,b2,b3,b4,b5,b6,b7,b8,b9,b10⟩:=(uh hT1).hand.hold.box.eleven;have hM2:Hid (Cr.MovedTo s c how inp (t+1) ⟨g,E,I,false⟩ ⟨G,(Cr.act s c F J p u false).1,(Cr.act s c F J p u false).2,lf⟩):=by
         have h:=uh hM1 u (uh HUI);rw [show Cr.does s c ⟨G,F,J,lf⟩ (t:Int) p u=⟨G,(Cr.act s c F J p u false).1,(Cr.act s c F J p u false).2,lf⟩ from by unfold Cr.does;rw [if_pos ⟨u1,u4⟩]] at h;exact h
        have ct:=hide (refAct_any s G c F J jC jE jI dC dE dI p u false w2 (uh hT1).hand.hold.lists (uh hT1).hand.cap (uh hT1).hand.hold.cE (uh hT1).hand.hold.cI (uh hT1).hand.hold.eI (uh hMF).1 (uh HP).1 (uh HP).2);unfold Gd.world at ct;clear hM1 hM;go_wp2_with fail;refine (uh ct).mono ?_;rintro e w5 ⟨qC,qE,qI,rC,rE,rI,rfl,hcap,l1,l2,l3,n1,n2,n3,hL,hg⟩;have hf:=(uh hT1).fresh (uh hk1) (s':=s) (g':=G) (dC:=rC) (dI:=rI) hcap l1 l2 l3 n1 n2 n3 hL hg;have hT2:Hid (Cr.Turn v (((((((((((w5.setCell ⟨B,0,none⟩ (.int .i64 (s 0))).setCell ⟨B,1,none⟩ (.int .i64 (s 1))).setCell ⟨B,2,none⟩ (.int .i64 (s 2))).setCell ⟨B,3,none⟩ (.int .i64 (s 3))).setCell ⟨B,4,none⟩ (.slice (some ⟨qC,0,none⟩) 384 rC)).setCell ⟨B,5,none⟩ (.slice (some ⟨qE,0,none⟩) 32 rE)).setCell ⟨B,6,none⟩ (.slice (some ⟨qI,0,none⟩) 40 rI)).setCell ⟨B,7,none⟩ (.int .i64 (G 0))).setCell ⟨B,8,none⟩ (.int .i64 (G 1))).setCell ⟨B,9,none⟩ (.int .i64 (G 2))).setCell ⟨B,10,none⟩ (.int .i64 (G 3))) B A R qC qE qI rC rE rI how inp sp s G c (Cr.act s c F J p u false).1 (Cr.act s c F J p u false).2):=hf.1;have hk2:=hide hf.2.2;have hb2:=hide hf.2.1;clear hf hcap l1 l2 l3 n1 n2 n3 hL hg ct b0 b1 b2 b3 b4 b5 b6 b7 b8 b9 b10 hT1 hk1;obtain ⟨b0,b1,b2,b3,b4,b5,b6,b7,b8,b9,b10⟩:=(uh hb2).eleven;have fB:=(uh hb2).free;clear hb2;unfold Gd.world;go_wp2;go_roundw;case rel=>exact ⟨t+1,qC,qE,qI,rC,rE,rI,⟨G,(Cr.act s c F J p u false).1,(Cr.act s c F J p u false).2,lf⟩,by have:=uh HL;omega,rfl,by go_num,hM2,hT2,hk2⟩
        case measure=>simp [intOf];have:=uh HL;omega
       ·have hn4:¬(1≤u∧u≤4):=u1;have HN4:=hide hn4;by_cases u9:u=9
        ·subst u9;have hM3:Hid (∀b:Bool,b=(lf || decide (Gr.at 384 c (F p 3) (F p 4)=4))→Cr.MovedTo s c how inp (t+1) ⟨g,E,I,false⟩ ⟨G,F,J,b⟩):=fun b hb=>by
          have h:=uh hM1 9 (uh HUI);rw [show Cr.does s c ⟨G,F,J,lf⟩ (t:Int) p 9=⟨G,F,J,b⟩ from by unfold Cr.does;rw [if_neg (by omega),if_pos rfl,hb]] at h;exact h
         clear hM1 hM u1 hn4 HN4 hFi;have b4:=(uh hT1).hand.hold.box.eleven.2.2.2.2.1;have b5:=(uh hT1).hand.hold.box.eleven.2.2.2.2.2.1;have p3:=((uh hT1).hand.hold.lists.own.ents.row (uh HP).1).2.2.2.1;have p4:=((uh hT1).hand.hold.lists.own.ents.row (uh HP).1).2.2.2.2.1;have cz:=hide (fun z (hz:Gd.Lists z jC jE jI c F J)=>refAt_any z.heap.size (some ⟨jC,0,none⟩) 384 dC c (F p 3) (F p 4) z hz.vec (uh hMF).1.fit.cells);obtain ⟨a,ha⟩:∃a,Gr.at 384 c (F p 3) (F p 4)=a:=⟨_,rfl⟩;rw [ha] at cz hM3;clear ha;cases lf
         ·by_cases a4:a=4
          ·subst a4;go_upto_region 29 with fail;go_quiet (first | (go_at_call 45;refine Calls.quiet_of_same (uh cz _ ?_);exact (uh hT1).hand.hold.lists.on (gdw (World.grownBy.refl _ none) _)) | fail);have hT2:=hide ((uh hT1).on (gdw (World.grownBy.refl w2 none) nq));have hM2:=hide (uh hM3 true (by simp));clear hM3 hT1 b4 b5 p3 p4 cz;generalize w2.drewN nq=wq at hT2 ⊢;go_wp2;go_roundw;case rel=>exact ⟨t+1,jC,jE,jI,dC,dE,dI,⟨G,F,J,true⟩,by have:=uh HL;omega,rfl,by go_num,hM2,hT2,hk1⟩
           case measure=>simp [intOf];have:=uh HL;omega
          ·have a4':(a == 4)=false:=by simp [a4]
           have HA4:=hide a4;clear a4;go_upto_region 29 with fail;go_quiet (first | (go_at_call 45;refine Calls.quiet_of_same (uh cz _ ?_);exact (uh hT1).hand.hold.lists.on (gdw (World.grownBy.refl _ none) _)) | fail);have hT2:=hide ((uh hT1).on (gdw (World.grownBy.refl w2 none) nq));have hM2:=hide (uh hM3 false (by have:=uh HA4;simp [this]));clear hM3 hT1 b4 b5 p3 p4 cz;generalize w2.drewN nq=wq at hT2 ⊢;go_wp2;go_roundw;case rel=>exact ⟨t+1,jC,jE,jI,dC,dE,dI,⟨G,F,J,false⟩,by have:=uh HL;omega,rfl,by go_num,hM2,hT2,hk1⟩
           case measure=>simp [intOf];have:=uh HL;omega
         ·clear cz;go_upto_region 29 with fail;go_quiet (fail);have hT2:=hide ((uh hT1).on (gdw (World.grownBy.refl w2 none) nq));have hM2:=hide (uh hM3 true (by simp));clear hM3 hT1 b4 b5 p3 p4;generalize w2.drewN nq=wq at hT2 ⊢;go_wp2;go_roundw;case rel=>exact ⟨t+1,jC,jE,jI,dC,dE,dI,⟨G,F,J,true⟩,by have:=uh HL;omega,rfl,by go_num,hM2,hT2,hk1⟩
          case measure=>simp [intOf];have:=uh HL;omega
        ·have u9':(u == 9)=false:=by simp [u9]
         have HN9:=hide u9;by_cases ul:u≥1
         ·have ug:¬u≤4:=by omega
          clear u1 hn4 u9;obtain ⟨b0,b1,b2,b3,b4,b5,b6,b7,b8,b9,b10⟩:=(uh hT1).hand.hold.box.eleven;have hM2:Hid (Cr.MovedTo s c how inp (t+1) ⟨g,E,I,false⟩ ⟨(Gd.nextG c G F J (t:Int) u),(Gd.nextE F J (t:Int) u),(Gd.nextI c G F J (t:Int) u),lf⟩):=by
           have h:=uh hM1 u (uh HUI);rw [show Cr.does s c ⟨G,F,J,lf⟩ (t:Int) p u=⟨(Gd.nextG c G F J (t:Int) u),(Gd.nextE F J (t:Int) u),(Gd.nextI c G F J (t:Int) u),lf⟩ from by unfold Cr.does;rw [if_neg (uh HN4),if_neg (uh HN9)]] at h;exact h
          have ct:=hide (refDo_any s G c F J jC jE jI dC dE dI (t:Int) u w2 (uh hT1).hand.hold.lists (uh hFi));unfold Gd.world at ct;clear hM1 hM;go_wp2_with fail;refine (uh ct).mono ?_;rintro e w5 ⟨qC,qE,qI,rC,rE,rI,rfl,hcap,l1,l2,l3,n1,n2,n3,hL,hg⟩;have hf:=(uh hT1).fresh (uh hk1) (s':=s) (g':=(Gd.nextG c G F J (t:Int) u)) (dC:=rC) (dI:=rI) hcap (.inr l1) (.inr l2) (.inr l3) n1 n2 n3 hL hg;have hT2:Hid (Cr.Turn v (((((((((((w5.setCell ⟨B,0,none⟩ (.int .i64 (s 0))).setCell ⟨B,1,none⟩ (.int .i64 (s 1))).setCell ⟨B,2,none⟩ (.int .i64 (s 2))).setCell ⟨B,3,none⟩ (.int .i64 (s 3))).setCell ⟨B,4,none⟩ (.slice (some ⟨qC,0,none⟩) 384 rC)).setCell ⟨B,5,none⟩ (.slice (some ⟨qE,0,none⟩) 32 rE)).setCell ⟨B,6,none⟩ (.slice (some ⟨qI,0,none⟩) 40 rI)).setCell ⟨B,7,none⟩ (.int .i64 ((Gd.nextG c G F J (t:Int) u) 0))).setCell ⟨B,8,none⟩ (.int .i64 ((Gd.nextG c G F J (t:Int) u) 1))).setCell ⟨B,9,none⟩ (.int .i64 ((Gd.nextG c G F J (t:Int) u) 2))).setCell ⟨B,10,none⟩ (.int .i64 ((Gd.nextG c G F J (t:Int) u) 3))) B A R qC qE qI rC rE rI how inp sp s (Gd.nextG c G F J (t:Int) u) c (Gd.nextE F J (t:Int) u) (Gd.nextI c G F J (t:Int) u)):=hf.1;have hk2:=hide hf.2.2;have hb2:=hide hf.2.1;clear hf hcap l1 l2 l3 n1 n2 n3 hL hg ct b0 b1 b2 b3 b4 b5 b6 b7 b8 b9 b10 hT1 hk1;obtain ⟨b0,b1,b2,b3,b4,b5,b6,b7,b8,b9,b10⟩:=(uh hb2).eleven;have fB:=(uh hb2).free;clear hb2;unfold Gd.world;go_wp2;go_roundw;case rel=>exact ⟨t+1,qC,qE,qI,rC,rE,rI,⟨(Gd.nextG c G F J (t:Int) u),(Gd.nextE F J (t:Int) u),(Gd.nextI c G F J (t:Int) u),lf⟩,by have:=uh HL;omega,rfl,by go_num,hM2,hT2,hk2⟩
          case measure=>simp [intOf];have:=uh HL;omega
         ·clear u1 hn4 u9;obtain ⟨b0,b1,b2,b3,b4,b5,b6,b7,b8,b9,b10⟩:=(uh hT1).hand.hold.box.eleven;have hM2:Hid (Cr.MovedTo s c how inp (t+1) ⟨g,E,I,false⟩ ⟨(Gd.nextG c G F J (t:Int) u),(Gd.nextE F J (t:Int) u),(Gd.nextI c G F J (t:Int) u),lf⟩):=by
           have h:=uh hM1 u (uh HUI);rw [show Cr.does s c ⟨G,F,J,lf⟩ (t:Int) p u=⟨(Gd.nextG c G F J (t:Int) u),(Gd.nextE F J (t:Int) u),(Gd.nextI c G F J (t:Int) u),lf⟩ from by unfold Cr.does;rw [if_neg (uh HN4),if_neg (uh HN9)]] at h;exact h
          have ct:=hide (refDo_any s G c F J jC jE jI dC dE dI (t:Int) u w2 (uh hT1).hand.hold.lists (uh hFi));unfold Gd.world at ct;clear hM1 hM;go_wp2_with fail;refine (uh ct).mono ?_;rintro e w5 ⟨qC,qE,qI,rC,rE,rI,rfl,hcap,l1,l2,l3,n1,n2,n3,hL,hg⟩;have hf:=(uh hT1).fresh (uh hk1) (s':=s) (g':=(Gd.nextG c G F J (t:Int) u)) (dC:=rC) (dI:=rI) hcap (.inr l1) (.inr l2) (.inr l3) n1 n2 n3 hL hg;have hT2:Hid (Cr.Turn v (((((((((((w5.setCell ⟨B,0,none⟩ (.int .i64 (s 0))).setCell ⟨B,1,none⟩ (.int .i64 (s 1))).setCell ⟨B,2,none⟩ (.int .i64 (s 2))).setCell ⟨B,3,none⟩ (.int .i64 (s 3))).setCell ⟨B,4,none⟩ (.slice (some ⟨qC,0,none⟩) 384 rC)).setCell ⟨B,5,none⟩ (.slice (some ⟨qE,0,none⟩) 32 rE)).setCell ⟨B,6,none⟩ (.slice (some ⟨qI,0,none⟩) 40 rI)).setCell ⟨B,7,none⟩ (.int .i64 ((Gd.nextG c G F J (t:Int) u) 0))).setCell ⟨B,8,none⟩ (.int .i64 ((Gd.nextG c G F J (t:Int) u) 1))).setCell ⟨B,9,none⟩ (.int .i64 ((Gd.nextG c G F J (t:Int) u) 2))).setCell ⟨B,10,none⟩ (.int .i64 ((Gd.nextG c G F J (t:Int) u) 3))) B A R qC qE qI rC rE rI how inp sp s (Gd.nextG c G F J (t:Int) u) c (Gd.nextE F J (t:Int) u) (Gd.nextI c G F J (t:Int) u)):=hf.1;have hk2:=hide hf.2.2;have hb2:=hide hf.2.1;clear hf hcap l1 l2 l3 n1 n2 n3 hL hg ct b0 b1 b2 b3 b4 b5 b6 b7 b8 b9 b10 hT1 hk1;obtain ⟨b0,b1,b2,b3,b4,b5,b6,b7,b8,b9,b10⟩:=(uh hb2).eleven;have fB:=(uh hb2).free;clear hb2;unfold Gd.world;go_wp2;go_roundw;case rel=>exact ⟨t+1,qC,qE,qI,rC,rE,rI,⟨(Gd.nextG c G F J (t:Int) u),(Gd.nextE F J (t:Int) u),(Gd.nextI c G F J (t:Int) u),lf⟩,by have:=uh HL;omega,rfl,by go_num,hM2,hT2,hk2⟩
          case measure=>simp [intOf];have:=uh HL;omega
      ·have HH:=hide (And.intro w1h w2h);have w1':(how t != 1)=true:=by simp [w1h]
       have w2':(how t != 2)=true:=by simp [w2h]
       have hM2:Hid (Cr.MovedTo s c how inp (t+1) ⟨g,E,I,false⟩ ⟨G,F,J,lf⟩):=⟨⟨G,F,J,lf⟩,uh hM,(show Cr.Moved s c (t:Int) (how t) (inp t) ⟨G,F,J,lf⟩ ⟨G,F,J,lf⟩ by unfold Cr.Moved;rw [if_pos (.inr (.inr (uh HH)))])⟩;clear hM;go_wp2;go_roundw;case rel=>exact ⟨t+1,jC,jE,jI,dC,dE,dI,⟨G,F,J,lf⟩,by have:=uh HL;omega,rfl,by go_num,hM2,hT1,hk1⟩
       case measure=>simp [intOf];have:=uh HL;omega
  ·obtain rfl:t=4:=by omega
   have hge:¬((4:Nat):Int)<4:=by omega
   clear hlt ht;go_wp2_with fail;exact uh hK0 _ _ (turn_hunt (uh hT0) (uh hk1) (uh hMF).1 (uh HF).2.2 (uh HF).1 (uh HF).2.1 had lf Q (fun F' J' T e y h0 h1 h2=>uh hQ' ⟨G,F,J,lf⟩ F' J' T e y (uh hM) h0 h1 h2))


open Go.RowKit

theorem Lie.over11 {x:World} {Q:Nat} {T:TypeId} {F:Nat→Value} (h:Lie x Q T 11 F) (o:Nat→Int):Lie (x.setCells Q 0 (En.cells o).toList) Q T 11 (Ints o):=by
 refine (h.stores 0 _).congr fun j hj=>?_;show (if 0≤j∧j<0+11 then (En.cells o).toList[j - 0]?.getD undef else F j)=_;rw [if_pos (by omega)];rcases (show j=0∨j=1∨j=2∨j=3∨j=4∨j=5∨j=6∨j=7∨j=8∨j=9∨j=10 by omega) with rfl|rfl|rfl|rfl|rfl|rfl|rfl|rfl|rfl|rfl|rfl <;> rfl

theorem Cr.Turn.asides {v x:World} {B A R gC gE gI cC cE cI D:Nat} {how inp:Nat→Int} {sp:Nat→Bool} {s g c:Nat→Int} {E I:Nat→Nat→Int} (h:Cr.Turn v x B A R gC gE gI cC cE cI how inp sp s g c E I) (hD:v.heap.size≤D) (n:B<D∧A<D∧R<D∧gC<D∧gE<D∧gI<D) (us:List Value):Cr.Turn v (x.setCells D 0 us) B A R gC gE gI cC cE cI how inp sp s g c E I:=by
 have hh:=h.hand.hold;exact ⟨⟨⟨hh.box.others (by omega) _ _,⟨hh.lists.cells.others (by omega) _ _,hh.lists.ents.others (by omega) _ _,hh.lists.items.others (by omega) _ _⟩,hh.bC,hh.bE,hh.bI,hh.cE,hh.cI,hh.eI⟩,h.hand.lB,h.hand.cap,own_sets hD _ 0 x h.hand.grown⟩,h.acts.others (by omega) _ _,h.res.others (by omega) _ _,h.bR,h.lR,h.lC,h.lE,h.lI⟩

set_option maxRecDepth 16000 in
set_option maxHeartbeats 6400000 in
theorem turn_come {v x:World} {B A R gC gE gI cC cE cI k:Nat} {how inp:Nat→Int} {sp:Nat→Bool} {s g c:Nat→Int} {E I:Nat→Nat→Int} (hT:Cr.Turn v x B A R gC gE gI cC cE cI how inp sp s g c E I) (hk:B<k∧A<k∧R<k∧v.heap.size≤k∧k≤gE∧k≤gI) (hS:Cr.Sane c E I) (hG:Cr.Gold g) (hFl:Nv.Floor c) (f1:1≤s 2) (f3:s 2≤3) (Q:Ending→World→Prop) (hQ:∀U m F J T e y,Cr.ComesTo c sp 4 E U→Cr.MovedTo s c how inp 4 ⟨g,U,I,false⟩ m→Cr.ProwlTo s c 32 m.E m.I F J→Cr.Ends s m.g c (Cr.rats s c (Ft.ailE F J 32).1) (Ft.ailE F J 32).2 (Cr.manned E || Cr.manned U) m.left T→Gd.Worlds v T.s T.g T.c T.E T.I e y→Q e y) {t0 t1 t5 t6 t7 t8 t9 Aa Ab Ac Ad Ae Af Ag Ah Ai Aj Ak Al Am Ao Ap Aq Ar As Au Av Aw Ax Ay Az AA AB AC AD AE AF AG AH AI AJ AK AL AM AN AO AP AQ AR AS AT AU AV AW AX AY AZ A0 A1 A2 A3 A4 A5 A6 A7 A8 A9 Ba Bb Bc Bd Be Bf Bg Bh Bi Bj Bk Bl Bm Bn Bo Bp Bq Br Bs Bt Bu Bv Bw Bx Bz BA BB BC BD BE BF BG BH BI BJ BK BL BM BN BO BP BQ BR BS BT BU BV BW BX BY BZ B0 B1 B2 B3 B4 B5 B6 B7 B8 B9 Ca Cb Cc Cd Ce Cf Cg Ch Ci Cj Ck Cl Cm Cn Co Cp Cq Cs Ct Cu Cv Cw Cx Cy Cz CA CB CC CD CE CF CG CH CI CJ CK CL CM CN CO CP CQ CR CS CT CU CV CW CX CY CZ C0 C1 C2 C3 C4 C5 C6 C7 C8 C9 Da Db Dc Dd De Df Dg Dh Di Dj Dk Dl Dm Dn Dp Dq Dr Ds Dt Du Dv Dw Dx Dy Dz DA DB DC DD DE DF DG DH DI DJ DK DL:Value} :
  Code.wp Tryz.prog ((Tryz.f24.body.map (cdrop 4)).getD .skip) (bodyPost Tryz.prog Tryz.f24 Q) ⟨#[t0,t1,.pointer (some ⟨B,0,none⟩),.pointer (some ⟨A,0,none⟩),.pointer (some ⟨R,0,none⟩),t5,t6,t7,t8,t9,Aa,Ab,Ac,Ad,Ae,Af,Ag,Ah,Ai,Aj,Ak,Al,Am,Ao,Ap,Aq,Ar,As,Au,Av,Aw,Ax,Ay,Az,AA,AB,AC,AD,AE,AF,AG,AH,AI,AJ,AK,AL,AM,AN,AO,AP,AQ,AR,AS,AT,AU,AV,AW,AX,AY,AZ,A0,A1,A2,A3,A4,A5,A6,A7,A8,A9,Ba,Bb,Bc,Bd,Be,Bf,Bg,Bh,Bi,Bj,Bk,Bl,Bm,Bn,Bo,Bp,Bq,Br,Bs,Bt,Bu,Bv,Bw,Bx,Bz,BA,BB,BC,BD,BE,BF,BG,BH,BI,BJ,BK,BL,BM,BN,BO,BP,BQ,BR,BS,BT,BU,BV,BW,BX,BY,BZ,B0,B1,B2,B3,B4,B5,B6,B7,B8,B9,Ca,Cb,Cc,Cd,Ce,Cf,Cg,Ch,Ci,Cj,Ck,Cl,Cm,Cn,Co,Cp,Cq,Cs,Ct,Cu,Cv,Cw,Cx,Cy,Cz,CA,CB,CC,CD,CE,CF,CG,CH,CI,CJ,CK,CL,CM,CN,CO,CP,CQ,CR,CS,CT,CU,CV,CW,CX,CY,CZ,C0,C1,C2,C3,C4,C5,C6,C7,C8,C9,Da,Db,Dc,Dd,De,Df,Dg,Dh,Di,Dj,Dk,Dl,Dm,Dn,Dp,Dq,Dr,Ds,Dt,Du,Dv,Dw,Dx,Dy,Dz,DA,DB,DC,DD,DE,DF,DG,DH,DI,DJ,DK,DL],[]⟩ x:=by
 conv=>arg 2;whnf
 obtain ⟨b0,b1,b2,b3,b4,b5,b6,b7,b8,b9,b10⟩:=hT.hand.hold.box.eleven;have cm:=hide (refSome_any s g c E I gC gE gI cC cE cI x hT.hand.hold.lists);have hT':=hide hT;have hQ':=hide hQ;have hk':=hide hk;have hS':=hide (And.intro hS hG);have HF:=hide (And.intro f1 (And.intro f3 hFl));obtain ⟨m1,hm1⟩:∃b,Cr.manned E=b:=⟨_,rfl⟩;rw [hm1] at cm;have HM1:=hide hm1;clear hT hQ hk hS hG f1 f3 hFl hm1;unfold Gd.world at cm;go_wp2_with fail;refine (uh cm).mono ?_;rintro e w1 ⟨rfl,hg⟩;have hT1:=hide ((uh hT').on hg);clear hg cm b0 b1 b2 b3 b4 b5 b6 b7 b8 b9 b10 hT';go_wp2_with fail
 go_loopw [6] (fun v6 wr=>∃(t jE dE:Nat) (F:Nat→Nat→Int),t≤4∧v6=.int .i64 (t:Int)∧Hid (Cr.ComesTo c sp t E F)∧Hid (Cr.Turn v wr B A R gC jE gI cC dE cI how inp sp s g c F I)∧Hid (B<k∧A<k∧R<k∧v.heap.size≤k∧k≤jE∧k≤gI)) (fun v6 _=>10 - (intOf v6).toNat)
 case atStart=>exact ⟨0,gE,cE,E,by omega,rfl,rfl,hT1,hk'⟩
 case round =>
  clear hT1 hk';rename_i hKK;have hK0:=hide hKK;clear hKK;obtain ⟨t,jE,dE,F,ht,rfl,hC,hT1,hk1⟩:=hrel;have hSF:=hide ((uh hS').1.comesTo ht (uh hC));by_cases hlt:t<4
  ·have hlt':(t:Int)<4:=by omega
   have HL:=hide hlt;obtain ⟨xa,xb,xc⟩:=Cr.act_three (uh hT1).acts hlt;obtain ⟨b,hb⟩:∃b,sp t=b:=⟨_,rfl⟩;rw [hb] at xc;have HB:=hide hb;clear hlt ht hb;cases b
   ·clear xa xb;have hC2:Hid (Cr.ComesTo c sp (t+1) E F):=⟨F,uh hC,(show Cr.Comes c (t:Int) (sp t) F F by unfold Cr.Comes;rw [if_neg (fun h=>by rw [uh HB] at h;cases h.1)])⟩;clear hC;go_wp2;go_roundw;case rel=>exact ⟨t+1,jE,dE,F,by have:=uh HL;omega,by go_num,hC2,hT1,hk1⟩
    case measure=>simp [intOf];have:=uh HL;omega
   ·have y5:=(uh hT1).hand.hold.box.eleven.2.2.2.2.2.1;have ch:=hide (refHero7_any jE dE F (t:Int) wr (uh hT1).hand.hold.lists.own);obtain ⟨z,hz⟩:∃z,Gd.hero F (t:Int)=z:=⟨_,rfl⟩;rw [hz] at ch;have HZ:=hide hz;clear hz xa xb;go_wp2_with fail;refine (uh ch).mono ?_;rintro e w2 ⟨rfl,hg⟩;have hT2:=hide ((uh hT1).on hg);clear hg ch y5 xc hT1;by_cases h0:z<0
    ·have H0:=hide h0;have hcom:Hid (∀v G,Nv.IsSpot c F 32 (Gr.find 384 c 3 % 24) (Gr.find 384 c 3 / 24) v→((v<0∧G=F)∨∃q:Nat,v=(q:Int)∧G=Cr.join F (Cr.one 1 (t:Int) q))→Cr.ComesTo c sp (t+1) E G):=fun v G h1 h2=>⟨F,uh hC,(show Cr.Comes c (t:Int) (sp t) F G by unfold Cr.Comes;rw [if_pos ⟨uh HB,by rw [uh HZ];exact uh H0⟩];exact ⟨v,h1,h2⟩)⟩;obtain ⟨st,hst⟩:∃st,En.stats 1=st:=⟨_,rfl⟩;have cst:=hide (entRefStats_any 1 w2);rw [hst] at cst;have HST:=hide hst;clear hst hC;unfold En.cells at cst;go_wp2_with fail;refine (uh cst).mono ?_;rintro e w3 ⟨rfl,hg⟩;have hg3:=hide (gtr hg (World.grownBy_alloc w3 (.cells (En.cells st) 70) none));have hD:=hide (Lie.born w3 st 70);have hlow:=hide ((uh hT2).on hg).low;have hT3:=hide ((uh hT2).on (uh hg3));clear hg hg3 cst hT2;unfold En.cells at hD hT3;go_upto_region 11 with fail;obtain ⟨D,hDe⟩:∃D,w3.heap.size=D:=⟨_,rfl⟩;rw [hDe] at hD hlow ⊢;generalize w3.alloc (.cells #[.int .i64 (st 0),.int .i64 (st 1),.int .i64 (st 2),.int .i64 (st 3),.int .i64 (st 4),.int .i64 (st 5),.int .i64 (st 6),.int .i64 (st 7),.int .i64 (st 8),.int .i64 (st 9),.int .i64 (st 10)] 70)=wd at hD hT3 ⊢;clear hDe w3;have z2:=(uh hD).ent.2.2.1;have zf:=(uh hD).free;have hD2:=hide ((uh hD).upd 2 (t:Int));have hT4:=hide ((uh hT3).aside (D:=D) (o:=2) (uh hlow).1 (by have:=uh hlow;omega) (by have:=uh hlow;omega) (by have:=uh hlow;omega) (by have:=uh hlow;omega) (by have:=uh hlow;omega) (by have:=uh hlow;omega) (.int .i64 (t:Int)));clear hT3 hD;go_upto_region 12 with fail;generalize wd.setCell ⟨D,2,none⟩ (.int .i64 (t:Int))=we at hD2 hT4 ⊢;clear z2 zf;obtain ⟨p,hp⟩:∃p,En.upd st 2 (t:Int)=p:=⟨_,rfl⟩;rw [hp] at hD2;have hpq:Hid (∀q:Nat,En.upd (En.upd p 3 ((q:Int) % 24)) 4 ((q:Int) / 24)=Cr.one 1 (t:Int) q):=fun q=>by rw [←hp,←uh HST];rfl
     clear hp;obtain ⟨b0,b1,b2,b3,b4,b5,b6,b7,b8,b9,b10⟩:=(uh hT4).hand.hold.box.eleven;obtain ⟨z0,z1,z2,z3,z4,z5,z6,z7,z8,z9,z10⟩:=(uh hD2).ent;have chr:=hide (refHero10_any s g c F I p gC jE gI cC dE cI we (uh hT4).hand.hold.lists (uh HF).2.2);unfold Gd.world En.cells at chr;go_wp2_with fail;refine (uh chr).mono ?_;rintro e w5 ⟨⟨v',hv',hcase⟩,hg⟩;have hT5:=hide ((uh hT4).on hg);have hD5:=hide ((uh hD2).on hg);have HV:=hide hv';clear hg chr b0 b1 b2 b3 b4 b5 b6 b7 b8 b9 b10 z0 z1 z2 z3 z4 z5 z6 z7 z8 z9 z10 hT4 hD2 hv';rcases hcase with ⟨hv0,rfl⟩|⟨q,hvq,rfl⟩
     ·have hC2:=hide (uh hcom v' F (uh HV) (.inl ⟨hv0,rfl⟩));obtain ⟨z0,z1,z2,z3,z4,z5,z6,z7,z8,z9,z10⟩:=(uh hD5).ent;have zf:=(uh hD5).free;have hT6:Hid (Cr.Turn v (((((((((((w5.setCell ⟨D,0,none⟩ (.int .i64 (p 0))).setCell ⟨D,1,none⟩ (.int .i64 (p 1))).setCell ⟨D,2,none⟩ (.int .i64 (p 2))).setCell ⟨D,3,none⟩ (.int .i64 (p 3))).setCell ⟨D,4,none⟩ (.int .i64 (p 4))).setCell ⟨D,5,none⟩ (.int .i64 (p 5))).setCell ⟨D,6,none⟩ (.int .i64 (p 6))).setCell ⟨D,7,none⟩ (.int .i64 (p 7))).setCell ⟨D,8,none⟩ (.int .i64 (p 8))).setCell ⟨D,9,none⟩ (.int .i64 (p 9))).setCell ⟨D,10,none⟩ (.int .i64 (p 10))) B A R gC jE gI cC dE cI how inp sp s g c F I):=(uh hT5).asides (D:=D) (uh hlow).1 (uh hlow).2 (En.cells p).toList;clear hv0 hcom hT5 hD5;unfold En.cells;go_wp2;go_roundw;case rel=>exact ⟨t+1,jE,dE,F,by have:=uh HL;omega,by go_num,hC2,hT6,hk1⟩
      case measure=>simp [intOf];have:=uh HL;omega
     ·obtain ⟨o,ho⟩:∃o,Cr.one 1 (t:Int) q=o:=⟨_,rfl⟩;have hC2:=hide (uh hcom v' (Cr.join F o) (uh HV) (.inr ⟨q,hvq,by rw [ho]⟩));rw [uh hpq q,ho];have HO1:Hid (1≤o 0∧o 0≤4):=by
       show _∧_;rw [←ho,(Cr.one_at 1 (t:Int) q).1 (by omega) (by omega)];omega
      obtain ⟨z0,z1,z2,z3,z4,z5,z6,z7,z8,z9,z10⟩:=(uh hD5).ent;have zf:=(uh hD5).free;have hT6:Hid (Cr.Turn v (((((((((((w5.setCell ⟨D,0,none⟩ (.int .i64 (o 0))).setCell ⟨D,1,none⟩ (.int .i64 (o 1))).setCell ⟨D,2,none⟩ (.int .i64 (o 2))).setCell ⟨D,3,none⟩ (.int .i64 (o 3))).setCell ⟨D,4,none⟩ (.int .i64 (o 4))).setCell ⟨D,5,none⟩ (.int .i64 (o 5))).setCell ⟨D,6,none⟩ (.int .i64 (o 6))).setCell ⟨D,7,none⟩ (.int .i64 (o 7))).setCell ⟨D,8,none⟩ (.int .i64 (o 8))).setCell ⟨D,9,none⟩ (.int .i64 (o 9))).setCell ⟨D,10,none⟩ (.int .i64 (o 10))) B A R gC jE gI cC dE cI how inp sp s g c F I):=(uh hT5).asides (D:=D) (uh hlow).1 (uh hlow).2 (En.cells o).toList;have hD6:Hid (Lie ((((((((((((w5.setCell ⟨D,0,none⟩ (.int .i64 (o 0))).setCell ⟨D,1,none⟩ (.int .i64 (o 1))).setCell ⟨D,2,none⟩ (.int .i64 (o 2))).setCell ⟨D,3,none⟩ (.int .i64 (o 3))).setCell ⟨D,4,none⟩ (.int .i64 (o 4))).setCell ⟨D,5,none⟩ (.int .i64 (o 5))).setCell ⟨D,6,none⟩ (.int .i64 (o 6))).setCell ⟨D,7,none⟩ (.int .i64 (o 7))).setCell ⟨D,8,none⟩ (.int .i64 (o 8))).setCell ⟨D,9,none⟩ (.int .i64 (o 9))).setCell ⟨D,10,none⟩ (.int .i64 (o 10)))) D 70 11 (Ints o)):=Lie.over11 (uh hD5) o;clear hvq hcom hT5 hD5 ho;unfold En.cells;go_upto_region 14 with fail;generalize (((((((((((w5.setCell ⟨D,0,none⟩ (.int .i64 (o 0))).setCell ⟨D,1,none⟩ (.int .i64 (o 1))).setCell ⟨D,2,none⟩ (.int .i64 (o 2))).setCell ⟨D,3,none⟩ (.int .i64 (o 3))).setCell ⟨D,4,none⟩ (.int .i64 (o 4))).setCell ⟨D,5,none⟩ (.int .i64 (o 5))).setCell ⟨D,6,none⟩ (.int .i64 (o 6))).setCell ⟨D,7,none⟩ (.int .i64 (o 7))).setCell ⟨D,8,none⟩ (.int .i64 (o 8))).setCell ⟨D,9,none⟩ (.int .i64 (o 9))).setCell ⟨D,10,none⟩ (.int .i64 (o 10)))=w6 at hT6 hD6 ⊢;clear z0 z1 z2 z3 z4 z5 z6 z7 z8 z9 z10 zf;obtain ⟨z0,z1,z2,z3,z4,z5,z6,z7,z8,z9,z10⟩:=(uh hD6).ent;have b5:=(uh hT6).hand.hold.box.eleven.2.2.2.2.2.1;have csp:=hide (refSpawned_any jE dE F o w6 (uh hT6).hand.hold.lists.own (uh hT6).hand.cap (uh hSF).good.gens (uh HO1));unfold En.cells at csp;go_wp2_with fail;refine (uh csp).mono ?_;rintro e w7 ⟨jG,dG,rfl,hcap,hj,hown,hg⟩;have hT7:Hid (Cr.Turn v (w7.setCell ⟨B,5,none⟩ (.slice (some ⟨jG,0,none⟩) 32 dG)) B A R gC jG gI cC dG cI how inp sp s g c (Cr.join F o) I):=(uh hT6).folk hcap hj hown hg;have hk7:Hid (B<k∧A<k∧R<k∧v.heap.size≤k∧k≤jG∧k≤gI):=by
       have k:=uh hk1;have q:=(uh hT6).low;show _∧_∧_∧_∧_∧_;omega
      have b5':=((uh hT6).on hg).hand.hold.box.eleven.2.2.2.2.2.1;have fB:=((uh hT6).on hg).hand.hold.box.free;clear hcap hj hown hg csp b5 z0 z1 z2 z3 z4 z5 z6 z7 z8 z9 z10 hT6 hD6;go_wp2;go_roundw;case rel=>exact ⟨t+1,jG,dG,Cr.join F o,by have:=uh HL;omega,by go_num,hC2,hT7,hk7⟩
      case measure=>simp [intOf];have:=uh HL;omega
    ·have H0:=hide h0;have hC2:Hid (Cr.ComesTo c sp (t+1) E F):=⟨F,uh hC,(show Cr.Comes c (t:Int) (sp t) F F by unfold Cr.Comes;rw [if_neg (fun h=>by have h2:=h.2;rw [uh HZ] at h2;exact uh H0 h2)])⟩;clear hC;go_wp2;go_roundw;case rel=>exact ⟨t+1,jE,dE,F,by have:=uh HL;omega,by go_num,hC2,hT2,hk1⟩
     case measure=>simp [intOf];have:=uh HL;omega
  ·obtain rfl:t=4:=by omega
   have hge:¬((4:Nat):Int)<4:=by omega
   clear hlt ht;have hQ2:Hid (∀b:Bool,b=(m1 || Cr.manned F)→∀m F' J T e y,Cr.MovedTo s c how inp 4 ⟨g,F,I,false⟩ m→Cr.ProwlTo s c 32 m.E m.I F' J→Cr.Ends s m.g c (Cr.rats s c (Ft.ailE F' J 32).1) (Ft.ailE F' J 32).2 b m.left T→Gd.Worlds v T.s T.g T.c T.E T.I e y→Q e y):=fun b hb m F' J T e y h1 h2 h3 h4=>uh hQ' F m F' J T e y (uh hC) h1 h2 (by rw [uh HM1,←hb];exact h3) h4;clear hQ';go_wp2_with fail;refine uh hK0 _ _ ?_;go_upto_region 15 with fail;rename_i K3 h3;have hK3:=hide h3;clear h3;cases m1
   ·obtain ⟨b0,b1,b2,b3,b4,b5,b6,b7,b8,b9,b10⟩:=(uh hT1).hand.hold.box.eleven;have cm:=hide (refSome_any s g c F I gC jE gI cC dE cI wr (uh hT1).hand.hold.lists);obtain ⟨m2,hm2⟩:∃b,Cr.manned F=b:=⟨_,rfl⟩;rw [hm2] at cm hQ2;clear hm2;unfold Gd.world at cm;go_wp2_with fail;refine (uh cm).mono ?_;rintro e w8 ⟨rfl,hg⟩;have hT8:=hide ((uh hT1).on hg);clear hg cm b0 b1 b2 b3 b4 b5 b6 b7 b8 b9 b10 hT1;go_wp2_with fail;exact uh hK3 _ _ (turn_seats (uh hT8) (uh hk1) (uh hSF) (uh hS').2 (uh HF).2.2 (uh HF).1 (uh HF).2.1 m2 Q (uh hQ2 m2 (by simp)))
   ·go_wp2_with fail;exact uh hK3 _ _ (turn_seats (uh hT1) (uh hk1) (uh hSF) (uh hS').2 (uh HF).2.2 (uh HF).1 (uh HF).2.1 true Q (uh hQ2 true (by simp)))


open Go.RowKit

theorem Cr.turn_new {v x x':World} {B A R gC gE gI cC cE cI jC jE jI dC dE dI:Nat} {how inp:Nat→Int} {sp:Nat→Bool} {s g c:Nat→Int} {E I:Nat→Nat→Int} (hB:Lie x B 30 11 (Gd.box s gC gE gI cC cE cI g)) (hA:Lie x A 63 12 (Cr.actF how inp sp)) (hR:Lie x R 30 11 (fun j=>#[.int .i64 0,.int .i64 0,.int .i64 0,.int .i64 0,.slice none 0 0,.slice none 0 0,.slice none 0 0,.int .i64 0,.int .i64 0,.int .i64 0,Value.int .i64 0][j]?.getD undef)) (bR:B≠R) (lB:v.heap.size≤B) (lR:v.heap.size≤R) (hvx:v.grownBy x none) (hcap:32≤dE) (l1:x.heap.size≤jC) (l2:x.heap.size≤jE) (l3:x.heap.size≤jI) (n1:jC≠jE) (n2:jC≠jI) (n3:jE≠jI) (hL:Gd.Lists x' jC jE jI c E I) (hg:x.grownBy x' none) :
  Cr.Turn v (x'.setCells B 0 (Gd.world s jC jE jI dC dE dI g).toList) B A R jC jE jI dC dE dI how inp sp s g c E I:=by
 have q1:=(hB.on hg).type_ne hL.cells (by decide);have q2:=(hB.on hg).type_ne hL.ents (by decide);have q3:=(hB.on hg).type_ne hL.items (by decide);have k:=hvx.size;exact ⟨⟨⟨(hB.on hg).whole s g jC jE jI dC dE dI,⟨hL.cells.others q1 _ _,hL.ents.others q2 _ _,hL.items.others q3 _ _⟩,q1,q2,q3,n1,n2,n3⟩,lB,hcap,own_sets lB _ 0 x' (gtr hvx hg)⟩,(hA.on hg).others (hB.type_ne hA (by decide)) _ _,(hR.on hg).others bR _ _,bR,lR,by omega,by omega,by omega⟩

set_option maxRecDepth 16000 in
set_option maxHeartbeats 6400000 in
theorem refStep_any (s g c:Nat→Int) (E I:Nat→Nat→Int) (gC gE gI cC cE cI:Nat) (how inp:Nat→Int) (sp:Nat→Bool) (w:World) (hL:Gd.Lists w gC gE gI c E I) (hG:Cr.Good ⟨s,g,c,E,I⟩) (h1:-9223372036854775808≤s 1) (h2:s 1<9223372036854775807) :
  Calls Tryz.prog 24 #[.agg (Gd.world s gC gE gI cC cE cI g),.agg #[.int .i64 (how 0),.int .i64 (inp 0),.bool (sp 0),.int .i64 (how 1),.int .i64 (inp 1),.bool (sp 1),.int .i64 (how 2),.int .i64 (inp 2),.bool (sp 2),.int .i64 (how 3),.int .i64 (inp 3),.bool (sp 3)]] w fun e w'=>∃T,Cr.IsStep how inp sp ⟨s,g,c,E,I⟩ T∧Gd.Worlds w T.s T.g T.c T.E T.I e w':=by
 obtain ⟨wa,hwa⟩:∃wa,wa=w.alloc (.cells (Gd.world s gC gE gI cC cE cI g) 30):=⟨_,rfl⟩;obtain ⟨wb,hwb⟩:∃wb,wb=wa.alloc (.cells #[.int .i64 (how 0),.int .i64 (inp 0),.bool (sp 0),.int .i64 (how 1),.int .i64 (inp 1),.bool (sp 1),.int .i64 (how 2),.int .i64 (inp 2),.bool (sp 2),.int .i64 (how 3),.int .i64 (inp 3),.bool (sp 3)] 63):=⟨_,rfl⟩;obtain ⟨w0,hw0⟩:∃w0,w0=wb.alloc (.cells #[.int .i64 0,.int .i64 0,.int .i64 0,.int .i64 0,.slice none 0 0,.slice none 0 0,.slice none 0 0,.int .i64 0,.int .i64 0,.int .i64 0,.int .i64 0] 30):=⟨_,rfl⟩;have ga:w.grownBy wa none:=by rw [hwa];exact World.grownBy_alloc _ _ _
 have gb:wa.grownBy wb none:=by rw [hwb];exact World.grownBy_alloc _ _ _
 have g0:wb.grownBy w0 none:=by rw [hw0];exact World.grownBy_alloc _ _ _
 have sa:wa.heap.size=w.heap.size+1:=by rw [hwa];simp
 have sb:wb.heap.size=w.heap.size+1+1:=by rw [hwb,←sa];simp
 have s0:w0.heap.size=w.heap.size+3:=by rw [hw0,show w.heap.size+3=w.heap.size+1+1+1 from rfl,←sb];simp
 have hB:Hid (Lie w0 w.heap.size 30 11 (Gd.box s gC gE gI cC cE cI g)):=by
  have h:Lie wa w.heap.size 30 11 (Gd.box s gC gE gI cC cE cI g):=by rw [hwa];exact (Arr.world (heap_alloc_new w _)).lie
  exact (h.on gb).on g0
 have hA:Hid (Lie w0 (w.heap.size+1) 63 12 (Cr.actF how inp sp)):=by
  have h:Lie wb wa.heap.size 63 12 (Cr.actF how inp sp):=by rw [hwb];exact Cr.acts_lie (h:=how) (i:=inp) (b:=sp) (heap_alloc_new wa _)
  rw [sa] at h;exact h.on g0
 have hR:Hid (Lie w0 (w.heap.size+1+1) 30 11 (fun j=>#[.int .i64 0,.int .i64 0,.int .i64 0,.int .i64 0,.slice none 0 0,.slice none 0 0,.slice none 0 0,.int .i64 0,.int .i64 0,.int .i64 0,Value.int .i64 0][j]?.getD undef)):=by
  have h:Lie w0 wb.heap.size 30 11 (fun j=>#[.int .i64 0,.int .i64 0,.int .i64 0,.int .i64 0,.slice none 0 0,.slice none 0 0,.slice none 0 0,.int .i64 0,.int .i64 0,.int .i64 0,Value.int .i64 0][j]?.getD undef):=by rw [hw0];exact (Arr.lit (heap_alloc_new wb _)).lie
  rw [sb] at h;exact h
 have hgr:=hide (gtr ga (gtr gb g0));have ct:=hide (refTwin_any s g c E I gC gE gI cC cE cI w0 (hL.on (uh hgr)));have hG':=hide hG;have S0:=hide s0;have t1:IntKind.i64.wrap (s 1+1)=s 1+1:=by rw [IntKind.wrap_i64];omega
 rw [hwa] at hwb;rw [hwb] at hw0;clear hL hG h1 h2 ga gb g0 sa sb s0 hwa hwb;unfold Gd.world at hw0 ct ⊢;go_enter Tryz.func24,Tryz.ntmps24;go_upto_region 1 with fail;rw [←hw0];clear hw0;obtain ⟨B,hBe⟩:∃B,w.heap.size=B:=⟨_,rfl⟩;obtain ⟨A,hAe⟩:∃A,w.heap.size+1=A:=⟨_,rfl⟩;obtain ⟨R,hRe⟩:∃R,w.heap.size+1+1=R:=⟨_,rfl⟩;have HS:Hid (w.heap.size=B∧w.heap.size+1=A∧w.heap.size+1+1=R):=⟨hBe,hAe,hRe⟩;rw [hRe] at hR ⊢;rw [hAe] at hA ⊢;rw [hBe] at hB ⊢;clear hBe hAe hRe;obtain ⟨b0,b1,b2,b3,b4,b5,b6,b7,b8,b9,b10⟩:=(uh hB).eleven;go_wp2_with fail;refine (uh ct).mono ?_;rintro e w1 ⟨jC,jE,jI,dC,dE,dI,rfl,hcap,l1,l2,l3,n1,n2,n3,hL,hg⟩;have hT1:Hid (Cr.Turn w (((((((((((w1.setCell ⟨B,0,none⟩ (.int .i64 (s 0))).setCell ⟨B,1,none⟩ (.int .i64 (s 1))).setCell ⟨B,2,none⟩ (.int .i64 (s 2))).setCell ⟨B,3,none⟩ (.int .i64 (s 3))).setCell ⟨B,4,none⟩ (.slice (some ⟨jC,0,none⟩) 384 dC)).setCell ⟨B,5,none⟩ (.slice (some ⟨jE,0,none⟩) 32 dE)).setCell ⟨B,6,none⟩ (.slice (some ⟨jI,0,none⟩) 40 dI)).setCell ⟨B,7,none⟩ (.int .i64 (g 0))).setCell ⟨B,8,none⟩ (.int .i64 (g 1))).setCell ⟨B,9,none⟩ (.int .i64 (g 2))).setCell ⟨B,10,none⟩ (.int .i64 (g 3))) B A R jC jE jI dC dE dI how inp sp s g c E I):=Cr.turn_new (uh hB) (uh hA) (uh hR) (by have:=uh HS;omega) (by have:=uh HS;omega) (by have:=uh HS;omega) (uh hgr) hcap l1 l2 l3 n1 n2 n3 hL hg;have hk1:Hid (B<w.heap.size+3∧A<w.heap.size+3∧R<w.heap.size+3∧w.heap.size≤w.heap.size+3∧w.heap.size+3≤jE∧w.heap.size+3≤jI):=by
  have a:=uh HS;have b:=uh S0;show _∧_∧_∧_∧_∧_;omega
 have hb1:=hide ((uh hB).on hg);clear hcap l1 l2 l3 n1 n2 n3 hL hg ct b0 b1 b2 b3 b4 b5 b6 b7 b8 b9 b10 hB hA hR hgr HS S0;obtain ⟨b0,b1,b2,b3,b4,b5,b6,b7,b8,b9,b10⟩:=(uh hb1).eleven;have fB:=(uh hb1).free;clear hb1;unfold Gd.world;go_upto_region 2 with fail;generalize (((((((((((w1.setCell ⟨B,0,none⟩ (.int .i64 (s 0))).setCell ⟨B,1,none⟩ (.int .i64 (s 1))).setCell ⟨B,2,none⟩ (.int .i64 (s 2))).setCell ⟨B,3,none⟩ (.int .i64 (s 3))).setCell ⟨B,4,none⟩ (.slice (some ⟨jC,0,none⟩) 384 dC)).setCell ⟨B,5,none⟩ (.slice (some ⟨jE,0,none⟩) 32 dE)).setCell ⟨B,6,none⟩ (.slice (some ⟨jI,0,none⟩) 40 dI)).setCell ⟨B,7,none⟩ (.int .i64 (g 0))).setCell ⟨B,8,none⟩ (.int .i64 (g 1))).setCell ⟨B,9,none⟩ (.int .i64 (g 2))).setCell ⟨B,10,none⟩ (.int .i64 (g 3)))=w2 at hT1 ⊢;clear b0 b1 b2 b3 b4 b5 b6 b7 b8 b9 b10 fB w1 w0;have b1:=(uh hT1).hand.hold.box.eleven.2.1;have fB:=(uh hT1).hand.hold.box.free;have hT2:=hide ((uh hT1).num 1 (by omega) (s 1+1));clear hT1;go_upto_region 3 with fail;generalize w2.setCell ⟨B,1,none⟩ (.int .i64 (s 1+1))=w3 at hT2 ⊢;clear b1 fB w2;rename_i K1 h1 K2 h2;have hK0:=hide h1;clear h1;obtain ⟨b0,b1,b2,b3,b4,b5,b6,b7,b8,b9,b10⟩:=(uh hT2).hand.hold.box.eleven;have e3:(Cr.num s 1 (s 1+1)) 3=s 3:=if_neg (by omega);have e2:(Cr.num s 1 (s 1+1)) 2=s 2:=if_neg (by omega);rw [e3] at b3;by_cases h0:s 3=0
 ·rw [h0] at b3;have H0:=hide h0;have hQ:Hid (∀U m F J T e y,Cr.ComesTo c sp 4 E U→Cr.MovedTo (Cr.num s 1 (s 1+1)) c how inp 4 ⟨g,U,I,false⟩ m→Cr.ProwlTo (Cr.num s 1 (s 1+1)) c 32 m.E m.I F J→Cr.Ends (Cr.num s 1 (s 1+1)) m.g c (Cr.rats (Cr.num s 1 (s 1+1)) c (Ft.ailE F J 32).1) (Ft.ailE F J 32).2 (Cr.manned E || Cr.manned U) m.left T→Gd.Worlds w T.s T.g T.c T.E T.I e y→∃T,Cr.IsStep how inp sp ⟨s,g,c,E,I⟩ T∧Gd.Worlds w T.s T.g T.c T.E T.I e y):=fun U m F J T e y h1 h2 h3 h4 h5=>⟨T,by unfold Cr.IsStep;rw [if_neg (fun h=>h (uh H0))];exact ⟨U,m,F,J,h1,h2,h3,h4⟩,h5⟩;have f1:=(uh hG').f1;have f3:=(uh hG').f3;have F13:Hid (1≤(Cr.num s 1 (s 1+1)) 2∧(Cr.num s 1 (s 1+1)) 2≤3):=by
   rw [e2];exact ⟨f1,f3⟩
  clear h0 f1 f3 e2 e3;go_wp2_with fail;exact uh hK0 _ _ (turn_come (uh hT2) (uh hk1) (uh hG').sane (uh hG').gold (uh hG').floor (uh F13).1 (uh F13).2 _ (uh hQ))
 ·have h0':(s 3 != 0)=true:=by simp [h0]
  have hst:Hid (Cr.IsStep how inp sp ⟨s,g,c,E,I⟩ ⟨(Cr.num s 1 (s 1+1)),g,c,E,I⟩):=by
   show Cr.IsStep _ _ _ _ _;unfold Cr.IsStep;rw [if_pos h0]
  have b3':=(uh hT2).hand.hold.box.eleven.2.2.2.1;rw [e3] at b3';obtain ⟨z0,z1,z2,z3,z4,z5,z6,z7,z8,z9,z10⟩:=Gd.res_cells (uh hT2).res;have fz:=(uh hT2).res.free;have hfo:Hid (∀l,∃T,Cr.IsStep how inp sp ⟨s,g,c,E,I⟩ T∧Gd.Worlds w T.s T.g T.c T.E T.I (.returned (.agg (Gd.world (Cr.num s 1 (s 1+1)) jC jE jI dC dE dI g))) (w3.setCells R 0 l)):=fun l=>⟨_,uh hst,(uh hT2).worlds l⟩;clear hst hT2 e2 h0 hK0;obtain ⟨q,hq⟩:∃q,(Cr.num s 1 (s 1+1))=q:=⟨_,rfl⟩;rw [hq] at hfo e3 b0 b1 b2;rw [←e3] at b3 b3' h0';clear hq e3;go_wp2;refine bodyPost_ret (v:=.agg (Gd.world q jC jE jI dC dE dI g)) (by simp [results,Tryz.results24,go_sem,Gd.world,z0,z1,z2,z3,z4,z5,z6,z7,z8,z9,z10]) rfl ?_;exact uh hfo [_,_,_,_,_,_,_,_,_,_,_]


open Go.RowKit

set_option maxHeartbeats 400000 in
theorem within11_any (a n:Int) (w:World) (hn:0<n) (hn2:n≤4611686018427387904) :
  Calls Tryz.prog 23 #[.int .i64 a,.int .i64 n] w fun e w'=>e=.returned (.int .i64 (a % n))∧w'=w:=by
 have t1:=Int.tmod_lt_of_pos a (b:=n) hn;have t2:=Int.lt_tmod_of_pos a (b:=n) hn;have hn0:(n == 0)=false:=by simp;omega
 by_cases h:a.tmod n<0
 ·have ha:¬0≤a:=by
   intro h0;have:=Int.tmod_nonneg n h0;omega
  have hd:=hide (Gr.within_neg a n hn h);go_enter Tryz.func23,Tryz.ntmps23;go_wp2;go_ret;exact ⟨rti (uh hd),rfl⟩
 ·have hd:=hide (Gr.within_pos a n hn h);by_cases ha:0≤a
  ·have e:a.tmod n=a % n:=Int.tmod_eq_emod_of_nonneg ha;have h':¬a % n<0:=by rw [←e];exact h
   clear h t1 t2 e;go_enter Tryz.func23,Tryz.ntmps23;go_wp2;go_ret;exact ⟨rfl,rfl⟩
  ·go_enter Tryz.func23,Tryz.ntmps23;go_wp2;go_ret;exact ⟨rti (uh hd),rfl⟩

def Sn.Page (x:World) (seed:Int) (k:Nat) (cs:List Value):Prop :=
 ∃(S:Cr.W) (gC gE gI cC cE cI:Nat),cs=(Gd.world S.s gC gE gI cC cE cI S.g).toList∧Gd.Lists x gC gE gI S.c S.E S.I∧32≤cE∧Cr.Good S∧S.s 0=seed∧S.s 1=(k:Int)

theorem Sn.Page.len {x:World} {seed:Int} {k:Nat} {cs:List Value} (h:Sn.Page x seed k cs):cs.length=11:=by
 obtain ⟨S,gC,gE,gI,cC,cE,cI,rfl,_⟩:=h;rfl

theorem Sn.Page.grown {x y:World} {seed:Int} {k:Nat} {cs:List Value} {r:Option Nat} (h:Sn.Page x seed k cs) (hg:x.grownBy y r) (hr:∀n,r=some n→∃m F,Lie x n 30 m F):Sn.Page y seed k cs:=by
 obtain ⟨S,gC,gE,gI,cC,cE,cI,hc,hL,h1,h2,h3,h4⟩:=h;have key:∀(G:Nat) (T:TypeId) (m:Nat) (F:Nat→Value),T≠30→Lie x G T m F→r≠some G:=fun G T m F hT hl e=>by
  obtain ⟨m',F',hw⟩:=hr G e;exact hl.type_ne hw hT rfl
 exact ⟨S,gC,gE,gI,cC,cE,cI,hc,⟨hL.cells.grown hg (key _ _ _ _ (by decide) hL.cells),hL.ents.grown hg (key _ _ _ _ (by decide) hL.ents),hL.items.grown hg (key _ _ _ _ (by decide) hL.items)⟩,h1,h2,h3,h4⟩

structure Sn.Book (w x:World) (base:Nat) (v:Value) (seed:Int) (L:List (List Value)):Prop where
 own:x.ownsRow base 30 11 v L.length L.flatten
 page:∀(k:Nat) (cs:List Value),L[k]?=some cs→Sn.Page x seed k cs

theorem Sn.own_lie {x:World} {base n:Nat} {v:Value} {xs:List Value} (h:x.ownsRow base 30 11 v n xs):∀k,v.ownBlock=some k→∃m F,Lie x k 30 m F:=by
 intro k hk;rcases h.2 with ⟨rfl,_⟩|⟨g,cap,cur,rfl,_,hg,_⟩
 ·simp [Value.ownBlock] at hk
 ·simp [Value.ownBlock] at hk;subst hk;exact ⟨_,_,(Arr.lit hg).lie⟩

theorem Sn.Book.on {w x y:World} {base:Nat} {v:Value} {seed:Int} {L:List (List Value)} (h:Sn.Book w x base v seed L) (hg:x.grownBy y none):Sn.Book w y base v seed L :=
 ⟨h.own.kept hg (by cases v.ownBlock <;> simp),fun k cs hk=>(h.page k cs hk).grown hg (fun n e=>by cases e)⟩

theorem Sn.Book.over {w x:World} {base T m:Nat} {v:Value} {seed:Int} {L:List (List Value)} {F:Nat→Value} (h:Sn.Book w x base v seed L) (hT:Lie x T 30 m F) (hb:T<base) (vs:List Value):Sn.Book w (x.setCells T 0 vs) base v seed L:=by
 have r:=gss (g:=T) vs 0 x (World.grownBy.refl _ _);refine ⟨h.own.kept r ?_,fun k cs hk=>(h.page k cs hk).grown r (fun n e=>by cases e;exact ⟨m,F,hT⟩)⟩;by_cases e:v.ownBlock=some T
 ·have:=(h.own.lt T e).1;omega
 ·exact .inr e

theorem Sn.Book.more {w x y x':World} {base:Nat} {v v':Value} {seed:Int} {L:List (List Value)} {cs:List Value} (h:Sn.Book w x base v seed L) (hxy:x.grownBy y none) (hp:Sn.Page x seed L.length cs) (hown:x'.ownsRow base 30 11 v' (L.length+1) (L.flatten ++ cs)) (hg:y.grownBy x' v.ownBlock):Sn.Book w x' base v' seed (L ++ [cs]):=by
 have hy:=h.on hxy;refine ⟨by rw [List.length_append,List.flatten_append];simpa using hown,fun k c hk=>?_⟩;by_cases hlt:k<L.length
 ·rw [List.getElem?_append_left hlt] at hk;exact (hy.page k c hk).grown hg (Sn.own_lie hy.own)
 ·rw [List.getElem?_append_right (by omega)] at hk;have hk0:k - L.length=0:=by
   have:=(List.getElem?_eq_some_iff.1 hk).1;simpa using this
  rw [hk0] at hk;simp at hk;subst hk;obtain rfl:k=L.length:=by
   have hl:=hlt;omega
  exact (hp.grown hxy (fun n e=>by cases e)).grown hg (Sn.own_lie hy.own)

theorem info_world:(Tryz.prog.info? 30).map (fun i=>(i.zero,i.size,i.bytes))=some (some (.agg #[.int .i64 0,.int .i64 0,.int .i64 0,.int .i64 0,.slice none 0 0,.slice none 0 0,.slice none 0 0,.int .i64 0,.int .i64 0,.int .i64 0,.int .i64 0]),11,136):=by kernel_rfl

def Sn.Tells11 (w:World) (seed:Int) (e:Ending) (w':World):Prop:=∃v base L,e=.returned v∧w.heap.size≤base∧0<L.length∧L.length≤31∧Sn.Book w w' base v seed L∧w.grownBy w' none

def Sn.TellsL (w:World) (seed:Int) (len:Nat) (e:Ending) (w':World):Prop:=∃v base L,e=.returned v∧w.heap.size≤base∧L.length=min len 30+1∧Sn.Book w w' base v seed L∧w.grownBy w' none

structure Sn.Tale (w x:World) (T gC gE gI cC cE cI:Nat) (S:Cr.W) (v:Value) (seed:Int) (L:List (List Value)):Prop where
 law:Gd.Law w x T gC gE gI cC cE cI S.s S.g S.c S.E S.I
 book:Sn.Book w x (T+1) v seed L
 good:Cr.Good S
 s0:S.s 0=seed
 s1:S.s 1+1=(L.length:Int)

theorem Sn.Tale.on {w x y:World} {T gC gE gI cC cE cI:Nat} {S:Cr.W} {v:Value} {seed:Int} {L:List (List Value)} (h:Sn.Tale w x T gC gE gI cC cE cI S v seed L) (hg:x.grownBy y none):Sn.Tale w y T gC gE gI cC cE cI S v seed L :=
 ⟨h.law.on hg,h.book.on hg,h.good,h.s0,h.s1⟩

theorem Sn.law_grown {w x y:World} {T gC gE gI cC cE cI n:Nat} {s g c:Nat→Int} {E I:Nat→Nat→Int} {v:Value} {zs:List Value} (h:Gd.Law w x T gC gE gI cC cE cI s g c E I) (ho:x.ownsRow (T+1) 30 11 v n zs) (hg:x.grownBy y v.ownBlock):Gd.Law w y T gC gE gI cC cE cI s g c E I:=by
 have hh:=h.hold;have hT:v.ownBlock≠some T:=fun e=>by
  have:=(ho.lt T e).1;omega
 have key:∀(G:Nat) (U:TypeId) (m:Nat) (F:Nat→Value),U≠30→Lie x G U m F→v.ownBlock≠some G:=fun G U m F hU hl e=>by
  obtain ⟨m',F',hw⟩:=Sn.own_lie ho G e;exact hl.type_ne hw hU rfl
 exact ⟨⟨hh.box.grown hg hT,⟨hh.lists.cells.grown hg (key _ _ _ _ (by decide) hh.lists.cells),hh.lists.ents.grown hg (key _ _ _ _ (by decide) hh.lists.ents),hh.lists.items.grown hg (key _ _ _ _ (by decide) hh.lists.items)⟩,hh.bC,hh.bE,hh.bI,hh.cE,hh.cI,hh.eI⟩,h.lT,h.lE,h.lI,h.cap,gow h.grown hg (fun k e=>by have:=(ho.lt k e).1;have:=h.lT;omega)⟩

theorem Sn.Tale.aside {w x:World} {T A m gC gE gI cC cE cI:Nat} {S:Cr.W} {v:Value} {seed:Int} {L:List (List Value)} {F:Nat→Value} (h:Sn.Tale w x T gC gE gI cC cE cI S v seed L) (hA:Lie x A 63 m F) (lA:w.heap.size≤A) (i j k:Nat) (a b c:Value):Sn.Tale w (((x.setCell ⟨A,i,none⟩ a).setCell ⟨A,j,none⟩ b).setCell ⟨A,k,none⟩ c) T gC gE gI cC cE cI S v seed L:=by
 have key:∀(y:World) (i:Nat) (a:Value),Sn.Tale w y T gC gE gI cC cE cI S v seed L→(∃G,Lie y A 63 m G)→Sn.Tale w (y.setCell ⟨A,i,none⟩ a) T gC gE gI cC cE cI S v seed L∧∃G,Lie (y.setCell ⟨A,i,none⟩ a) A 63 m G:=fun y i a h ⟨G,hG⟩=>by
  have hh:=h.law.hold;have n0:=hG.type_ne hh.box (by decide);have r:=gs0 y A i a;refine ⟨⟨⟨⟨hh.box.other n0 _ _,⟨hh.lists.cells.other (hG.type_ne hh.lists.cells (by decide)) _ _,hh.lists.ents.other (hG.type_ne hh.lists.ents (by decide)) _ _,hh.lists.items.other (hG.type_ne hh.lists.items (by decide)) _ _⟩,hh.bC,hh.bE,hh.bI,hh.cE,hh.cI,hh.eI⟩,h.law.lT,h.law.lE,h.law.lI,h.law.cap,gsr h.law.grown ⟨A,i,none⟩ lA a⟩,⟨h.book.own.kept r ?_,fun q cs hq=>?_⟩,h.good,h.s0,h.s1⟩,_,hG.store i a⟩
  ·by_cases e:v.ownBlock=some A
   ·obtain ⟨m',F',hw⟩:=Sn.own_lie h.book.own A e;exact absurd rfl (hG.type_ne hw (by decide))
   ·exact .inr e
  ·obtain ⟨S',qC,qE,qI,kC,kE,kI,hc,hL,h1,h2,h3,h4⟩:=h.book.page q cs hq;exact ⟨S',qC,qE,qI,kC,kE,kI,hc,⟨hL.cells.other (hG.type_ne hL.cells (by decide)) _ _,hL.ents.other (hG.type_ne hL.ents (by decide)) _ _,hL.items.other (hG.type_ne hL.items (by decide)) _ _⟩,h1,h2,h3,h4⟩
 obtain ⟨h1,g1⟩:=key x i a h ⟨F,hA⟩;obtain ⟨h2,g2⟩:=key _ j b h1 g1;exact (key _ k c h2 g2).1

set_option maxRecDepth 16000 in
set_option maxHeartbeats 12800000 in
theorem story_len (seed:Int) (a:Option Addr) (len cap:Nat) (V:Nat→Option Addr × Nat × Nat) (z:Nat→Nat→Int) (w:World) (hC:Cr.Came w a len V z) :
  Calls Tryz.prog 8 #[.int .i64 seed,.slice a len cap] w (Sn.TellsL w seed len):=by
 have hC':=hide hC;have hm1:Hid (len≤maxLen):=hC.1;have cn:=hide (fun x=>refNew_any seed x);obtain ⟨i0,hi,hz0,hz1,hz2⟩:=info_parts info_world;clear hC;go_enter Tryz.func8,Tryz.ntmps8;go_wp2_with fail;refine (uh cn _).mono ?_;rintro e w1 ⟨S0,hN,gC,gE,gI,cC,cE,cI,rfl,hcap,l1,l2,l3,n1,n2,n3,hL,hg1⟩;have hLw:=hide (Gd.law_new (s:=S0.s) (g:=S0.g) (cC:=cC) (cI:=cI) (World.grownBy.refl w none) hcap l1 l2 l3 n1 n2 n3 hL hg1);have hGo:=hide hN.good;have hHd:=hide hN.head;clear cn hcap l1 l2 l3 n1 n2 n3 hL hg1 hN;unfold Gd.world at hLw ⊢;go_upto_region 2 with fail;obtain ⟨T,hTe⟩:∃T,w1.heap.size=T:=⟨_,rfl⟩;have hTs:Hid ((w1.alloc (.cells #[.int .i64 (S0.s 0),.int .i64 (S0.s 1),.int .i64 (S0.s 2),.int .i64 (S0.s 3),.slice (some ⟨gC,0,none⟩) 384 cC,.slice (some ⟨gE,0,none⟩) 32 cE,.slice (some ⟨gI,0,none⟩) 40 cI,.int .i64 (S0.g 0),.int .i64 (S0.g 1),.int .i64 (S0.g 2),.int .i64 (S0.g 3)] 30)).heap.size=T+1):=by show _=_;rw [←hTe];simp
 rw [hTe] at hLw ⊢;clear hTe;generalize w1.alloc (.cells #[.int .i64 (S0.s 0),.int .i64 (S0.s 1),.int .i64 (S0.s 2),.int .i64 (S0.s 3),.slice (some ⟨gC,0,none⟩) 384 cC,.slice (some ⟨gE,0,none⟩) 32 cE,.slice (some ⟨gI,0,none⟩) 40 cI,.int .i64 (S0.g 0),.int .i64 (S0.g 1),.int .i64 (S0.g 2),.int .i64 (S0.g 3)] 30)=w2 at hLw hTs ⊢;obtain ⟨b0,b1,b2,b3,b4,b5,b6,b7,b8,b9,b10⟩:=(uh hLw).eleven;obtain ⟨w3,hw3⟩:∃w3,w3=w2.alloc (.cells #[.int .i64 (S0.s 0),.int .i64 (S0.s 1),.int .i64 (S0.s 2),.int .i64 (S0.s 3),.slice (some ⟨gC,0,none⟩) 384 cC,.slice (some ⟨gE,0,none⟩) 32 cE,.slice (some ⟨gI,0,none⟩) 40 cI,.int .i64 (S0.g 0),.int .i64 (S0.g 1),.int .i64 (S0.g 2),.int .i64 (S0.g 3)] 30):=⟨_,rfl⟩;have hg3:w2.grownBy w3 none:=by rw [hw3];exact World.grownBy_alloc _ _ _
 have hT0:Hid (Sn.Tale w w3 T gC gE gI cC cE cI S0 (.slice (some ⟨T+1,0,none⟩) 1 1) seed [(Gd.world S0.s gC gE gI cC cE cI S0.g).toList]):=by
  refine ⟨(uh hLw).on hg3,⟨?_,fun k cs hk=>?_⟩,uh hGo,(uh hHd).1,by have:=(uh hHd).2;show S0.s 1+1=1;omega⟩
  ·rw [hw3];have h:=World.ownsRow_lit (base:=T+1) (e:=30) (size:=11) w2 #[.int .i64 (S0.s 0),.int .i64 (S0.s 1),.int .i64 (S0.s 2),.int .i64 (S0.s 3),.slice (some ⟨gC,0,none⟩) 384 cC,.slice (some ⟨gE,0,none⟩) 32 cE,.slice (some ⟨gI,0,none⟩) 40 cI,.int .i64 (S0.g 0),.int .i64 (S0.g 1),.int .i64 (S0.g 2),.int .i64 (S0.g 3)] 1 (by rw [uh hTs];exact Nat.le_refl _) (by decide) rfl;rw [uh hTs] at h;exact h
  ·have hk0:k=0:=by
    have:=(List.getElem?_eq_some_iff.1 hk).1;simpa using this
   subst hk0;simp at hk;subst hk;exact ⟨S0,gC,gE,gI,cC,cE,cI,rfl,(uh hLw).hold.lists.on hg3,(uh hLw).cap,uh hGo,(uh hHd).1,by rw [(uh hHd).2];rfl⟩
 go_upto_region 3 with fail;rw [←hw3,uh hTs];clear hw3 hg3 hLw hGo hHd hTs b0 b1 b2 b3 b4 b5 b6 b7 b8 b9 b10 w1 w2;go_wp2_with fail
 go_loopw [6,7,8,9] (fun v6 v7 v8 v9 wr=>∃(i:Nat) (S:Cr.W) (gC gE gI cC cE cI:Nat) (L:List (List Value)),i≤30∧v7=.int .i64 (i:Int)∧Hid (L.length=i+1∧i≤len)∧Hid (Sn.Tale w wr T gC gE gI cC cE cI S v6 seed L)) (fun _ v7 _ _ _=>60 - (intOf v7).toNat)
 case atStart=>exact ⟨0,S0,gC,gE,gI,cC,cE,cI,[(Gd.world S0.s gC gE gI cC cE cI S0.g).toList],by omega,rfl,⟨rfl,Nat.zero_le _⟩,hT0⟩
 case round =>
  clear hT0;obtain ⟨i,S,gC,gE,gI,cC,cE,cI,L,hi30,rfl,hLl,hX⟩:=hrel;have hgr:=hide (uh hX).law.grown;by_cases hlen:i<len;case neg =>
   have hge:¬(i:Int)<(len:Int):=by omega
   have hf:Hid (Sn.TellsL w seed len (.returned u6) wr):=⟨u6,T+1,L,rfl,by have:=(uh hX).law.lT;omega,by have:=uh hLl;omega,(uh hX).book,uh hgr⟩;clear hX;go_wp2;go_ret;exact uh hf
  by_cases hlt:i<30;case neg =>
   have hge:¬(i:Int)<30:=by omega
   have hlen':(i:Int)<(len:Int):=by omega
   have hf:Hid (Sn.TellsL w seed len (.returned u6) wr):=⟨u6,T+1,L,rfl,by have:=(uh hX).law.lT;omega,by have:=uh hLl;omega,(uh hX).book,uh hgr⟩;clear hX;go_wp2;go_ret;exact uh hf
  have hlt':(i:Int)<30:=by omega
  have hlen':(i:Int)<(len:Int):=by omega
  have HL:=hide hlt;have HLEN:=hide hlen;clear hlt hlen hi30;go_upto_region 7 with fail;obtain ⟨wd,hwd⟩:∃wd,wd=wr.alloc (.cells (Cr.acts (fun _=>0) (fun _=>0) (fun _=>false)) 63):=⟨_,rfl⟩;have hgd:wr.grownBy wd none:=by rw [hwd];exact World.grownBy_alloc _ _ _
  have hA0:Hid (Lie wd wr.heap.size 63 12 (Cr.actF (fun _=>0) (fun _=>0) (fun _=>false))):=by
   show Lie wd _ _ _ _;rw [hwd];exact Cr.acts_lie (heap_alloc_new wr _)
  have hX1:=hide ((uh hX).on hgd);have lA:Hid (w.heap.size≤wr.heap.size):=(uh hgr).size;unfold Cr.acts at hwd;rw [←hwd];obtain ⟨A,hAe⟩:∃A,wr.heap.size=A:=⟨_,rfl⟩;rw [hAe] at hA0 lA ⊢;clear hwd hgd hX hAe hgr;obtain ⟨b,o,rfl,hbb,hcel,hmx,hzz⟩:=(uh hC').2 i (uh HLEN);obtain ⟨ra,rn,rk,hV⟩:∃ra rn rk,V i=(ra,rn,rk):=⟨_,_,_,rfl⟩;rw [hV] at hcel hzz hmx;dsimp only at hcel hzz hmx;have hrow:Hid (∀x,w.grownBy x none→x.cell? ⟨b,o+i,none⟩=some (.slice ra rn rk)):=fun x hx=>(gce hx b _ hbb (by simp)).trans hcel;have hnum:Hid (Cr.Nums w ra rn (z i)):=hzz;have hmx':=hide hmx;generalize z i=zi at hnum;clear hV hbb hcel hmx hzz;clear wr;go_upto_block 2 with fail
  go_cut [9] from 24 to 66 (fun v9 wx=>∃how inp sp,Hid (Sn.Tale w wx T gC gE gI cC cE cI S u6 seed L∧Lie wx A 63 12 (Cr.actF how inp sp)))
  case first =>
   go_wp2_with fail
   go_loopw [9] (fun v9 wr=>∃(t:Nat) (how inp:Nat→Int) (sp:Nat→Bool),t≤4∧v9=.int .i64 (t:Int)∧Hid (Sn.Tale w wr T gC gE gI cC cE cI S u6 seed L∧Lie wr A 63 12 (Cr.actF how inp sp))) (fun v9 _=>10 - (intOf v9).toNat)
   case atStart=>exact ⟨0,_,_,_,by omega,rfl,uh hX1,uh hA0⟩
   case round =>
    clear hX1 hA0;obtain ⟨t,how,inp,sp,ht,rfl,hX⟩:=hrel;have r0:=uh hrow wr (uh hX).1.law.grown;by_cases ht4:t<4;case pos =>
     have ht4':(t:Int)<4:=by omega
     by_cases htn:t<rn;case pos =>
      have htn':(t:Int)<(rn:Int):=by omega
      have TL:=hide ht4;obtain ⟨rb,ro,rfl,hrb,hru,u1,u2⟩:=uh hnum t htn;obtain ⟨u,hue⟩:∃u,zi t=u:=⟨_,rfl⟩;rw [hue] at hru u1 u2;have hm2:(rn:Int)≤9223372036854775807:=by have:=uh hmx';unfold maxLen at this;omega
      have t1:=Cr.quo_wrap u1 u2 (n:=3) (by omega);have t2:=Cr.quo_wrap u1 u2 (n:=33) (by omega);have c1:=hide (fun x=>within11_any u 3 x (by omega) (by omega));have c2:=hide (fun x=>within11_any (u.tdiv 3) 11 x (by omega) (by omega));have c3:=hide (fun x=>within11_any (u.tdiv 33) 3 x (by omega) (by omega));have hks:Hid (∀x,w.grownBy x none→x.cell? ⟨b,o+i,none⟩=some (.slice (some ⟨rb,ro,none⟩) rn rk)∧x.cell? ⟨rb,ro+t,none⟩=some (.int .i64 u)):=fun x hx=>⟨uh hrow x hx,(gce hx rb _ hrb (by simp)).trans hru⟩;have hS0:=uh hks wr.drew (gd1 (uh hX).1.law.grown);have hXd:=hide (And.intro ((uh hX).1.on (gd1 (World.grownBy.refl wr none))) ((uh hX).2.on (gd1 (World.grownBy.refl wr none))));have fA:=(uh hX).2.free;have z0:=(uh hX).2.cell (c:=t*3) (by omega);have z1:=(uh hX).2.cell (c:=t*3+1) (by omega);have z2:=(uh hX).2.cell (c:=t*3+2) (by omega);have hX2:Hid (Sn.Tale w (((wr.drew.setCell ⟨A,t*3,none⟩ (.int .i64 (u % 3))).setCell ⟨A,t*3+1,none⟩ (.int .i64 (u.tdiv 3 % 11))).setCell ⟨A,t*3+2,none⟩ (.bool (u.tdiv 33 % 3 == 0))) T gC gE gI cC cE cI S u6 seed L∧Lie (((wr.drew.setCell ⟨A,t*3,none⟩ (.int .i64 (u % 3))).setCell ⟨A,t*3+1,none⟩ (.int .i64 (u.tdiv 3 % 11))).setCell ⟨A,t*3+2,none⟩ (.bool (u.tdiv 33 % 3 == 0))) A 63 12 (Cr.actF (fun k=>if k=t then u % 3 else how k) (fun k=>if k=t then u.tdiv 3 % 11 else inp k) (fun k=>if k=t then u.tdiv 33 % 3 == 0 else sp k))):=⟨(uh hXd).1.aside (uh hXd).2 (uh lA) _ _ _ _ _ _,Cr.acts_put (uh hXd).2 _ _ _⟩;clear ht htn ht4 hrb hru u1 u2 hue;go_upto_region 10 with fail;clear hX r0 hXd;refine wp_region_till (h:=30) (S:=fun x=>x.cell? ⟨b,o+i,none⟩=some (.slice (some ⟨rb,ro,none⟩) rn rk)∧x.cell? ⟨rb,ro+t,none⟩=some (.int .i64 u)) (by kernel_rfl) ?_;refine wtj 0 (v:=?_) [30] rfl (by kernel_rfl) (fun _ _ _ h=>h) hS0 ⟨by rfl,?_⟩ ?_;rotate_left
      ·intro x hSx;try dsimp only at hSx
       go_simp;try with_reducible rfl
      simp only [Act.put];refine wtj 1 (v:=?_) [30] rfl (by kernel_rfl) (fun _ _ _ h=>h) hS0 ⟨by rfl,?_⟩ ?_;rotate_left
      ·intro x hSx;try dsimp only at hSx
       go_simp;try with_reducible rfl
      simp only [Act.put];refine wtj 2 (v:=?_) [30] rfl (by kernel_rfl) (fun _ _ _ h=>h) hS0 ⟨by rfl,?_⟩ ?_;rotate_left
      ·intro x hSx;try dsimp only at hSx
       go_simp;try with_reducible rfl
      simp only [Act.put];refine wtj 3 (v:=?_) [30] rfl (by kernel_rfl) (fun _ _ _ h=>h) hS0 ⟨by rfl,?_⟩ ?_;rotate_left
      ·intro x hSx;try dsimp only at hSx
       go_simp;try with_reducible rfl
      simp only [Act.put];refine wtj 4 (v:=?_) [30] rfl (by kernel_rfl) (fun _ _ _ h=>h) hS0 ⟨by rfl,?_⟩ ?_;rotate_left
      ·intro x hSx;try dsimp only at hSx
       go_simp;try with_reducible rfl
      simp only [Act.put];refine wtj 5 (v:=?_) [30] rfl (by kernel_rfl) (fun _ _ _ h=>h) hS0 ⟨by rfl,?_⟩ ?_;rotate_left
      ·intro x hSx;try dsimp only at hSx
       go_simp;try with_reducible rfl
      simp only [Act.put];refine wtj 6 (v:=?_) [30] rfl (by kernel_rfl) (fun _ _ _ h=>h) hS0 ⟨by rfl,?_⟩ ?_;rotate_left
      ·intro x hSx;try dsimp only at hSx
       go_simp;try with_reducible rfl
      simp only [Act.put];refine wtj 7 (v:=?_) [30] rfl (by kernel_rfl) (fun _ _ _ h=>h) hS0 ⟨by rfl,?_⟩ ?_;rotate_left
      ·intro x hSx;try dsimp only at hSx
       go_simp;try with_reducible rfl
      simp only [Act.put];refine wtj 9 (v:=?_) [30] rfl (by kernel_rfl) (fun _ _ _ h=>h) hS0 ⟨by rfl,?_⟩ ?_;rotate_left
      ·intro x hSx;try dsimp only at hSx
       go_simp;try with_reducible rfl
      simp only [Act.put];refine wtj 10 (v:=?_) [30] rfl (by kernel_rfl) (fun _ _ _ h=>h) hS0 ⟨by rfl,?_⟩ ?_;rotate_left
      ·intro x hSx;try dsimp only at hSx
       go_simp;try with_reducible rfl
      simp only [Act.put];refine wtj 11 (v:=?_) [30] rfl (by kernel_rfl) (fun _ _ _ h=>h) hS0 ⟨by rfl,?_⟩ ?_;rotate_left
      ·intro x hSx;try dsimp only at hSx
       go_simp;try with_reducible rfl
      simp only [Act.put];refine wtj 12 (v:=?_) [30] rfl (by kernel_rfl) (fun _ _ _ h=>h) hS0 ⟨by rfl,?_⟩ ?_;rotate_left
      ·intro x hSx;try dsimp only at hSx
       go_simp;try with_reducible rfl
      simp only [Act.put];refine wtj 13 (v:=?_) [30] rfl (by kernel_rfl) (fun _ _ _ h=>h) hS0 ⟨by rfl,?_⟩ ?_;rotate_left
      ·intro x hSx;try dsimp only at hSx
       go_simp;try with_reducible rfl
      simp only [Act.put];refine wtj 14 (v:=?_) [30] rfl (by kernel_rfl) (fun _ _ _ h=>h) hS0 ⟨by rfl,?_⟩ ?_;rotate_left
      ·intro x hSx;try dsimp only at hSx
       go_simp;try with_reducible rfl
      simp only [Act.put];refine wtj 15 (v:=?_) [30] rfl (by kernel_rfl) (fun _ _ _ h=>h) hS0 ⟨by rfl,?_⟩ ?_;rotate_left
      ·intro x hSx;try dsimp only at hSx
       go_simp;try with_reducible rfl
      simp only [Act.put];refine wtj 16 (v:=?_) [30] rfl (by kernel_rfl) (fun _ _ _ h=>h) hS0 ⟨by rfl,?_⟩ ?_;rotate_left
      ·intro x hSx;try dsimp only at hSx
       go_simp;try with_reducible rfl
      simp only [Act.put];refine wtj 18 (v:=?_) [30] rfl (by kernel_rfl) (fun _ _ _ h=>h) hS0 ⟨by rfl,?_⟩ ?_;rotate_left
      ·intro x hSx;try dsimp only at hSx
       go_simp;try with_reducible rfl
      simp only [Act.put];refine wtj 19 (v:=?_) [30] rfl (by kernel_rfl) (fun _ _ _ h=>h) hS0 ⟨by rfl,?_⟩ ?_;rotate_left
      ·intro x hSx;try dsimp only at hSx
       go_simp;try with_reducible rfl
      simp only [Act.put];refine wtj 20 (v:=?_) [30] rfl (by kernel_rfl) (fun _ _ _ h=>h) hS0 ⟨by rfl,?_⟩ ?_;rotate_left
      ·intro x hSx;try dsimp only at hSx
       go_simp;try with_reducible rfl
      simp only [Act.put];refine wtj 21 (v:=?_) [30] rfl (by kernel_rfl) (fun _ _ _ h=>h) hS0 ⟨by rfl,?_⟩ ?_;rotate_left
      ·intro x hSx;try dsimp only at hSx
       go_simp;try with_reducible rfl
      simp only [Act.put];refine wtj 22 (v:=?_) [30] rfl (by kernel_rfl) (fun _ _ _ h=>h) hS0 ⟨by rfl,?_⟩ ?_;rotate_left
      ·intro x hSx;try dsimp only at hSx
       go_simp;try with_reducible rfl
      simp only [Act.put];refine wtj 23 (v:=?_) [30] rfl (by kernel_rfl) (fun _ _ _ h=>h) hS0 ⟨by rfl,?_⟩ ?_;rotate_left
      ·intro x hSx;try dsimp only at hSx
       go_simp;try with_reducible rfl
      simp only [Act.put];refine wtj 24 (v:=?_) [30] rfl (by kernel_rfl) (fun _ _ _ h=>h) hS0 ⟨by rfl,?_⟩ ?_;rotate_left
      ·intro x hSx;try dsimp only at hSx
       go_simp;try with_reducible rfl
      simp only [Act.put];refine wtj 25 (v:=?_) [30] rfl (by kernel_rfl) (fun _ _ _ h=>h) hS0 ⟨by rfl,?_⟩ ?_;rotate_left
      ·intro x hSx;try dsimp only at hSx
       go_simp;try with_reducible rfl
      simp only [Act.put];refine wto (j:=8) (by kernel_rfl) rfl (fun K hK=>?_);go_simp;refine (uh c1 _).mono ?_;rintro e0 wq ⟨rfl,hy⟩;subst wq;try go_simp
      refine hK.out _ _ (fun _=>hS0) ?_;clear hK K;refine wto (j:=17) (by kernel_rfl) rfl (fun K hK=>?_);go_simp;refine (uh c2 _).mono ?_;rintro e0 wq ⟨rfl,hy⟩;subst wq;try go_simp
      refine hK.out _ _ (fun _=>hS0) ?_;clear hK K;refine wto (j:=26) (by kernel_rfl) rfl (fun K hK=>?_);go_simp;refine (uh c3 _).mono ?_;rintro e0 wq ⟨rfl,hy⟩;subst wq;try go_simp
      refine hK.out _ _ (fun _=>hS0) ?_;clear hK K;refine wtj 27 (v:=?_) [30] rfl (by kernel_rfl) (fun _ _ _ h=>h) hS0 ⟨by rfl,?_⟩ ?_;rotate_left
      ·intro x hSx;try dsimp only at hSx
       go_simp;try with_reducible rfl
      simp only [Act.put];refine wtj 28 (v:=?_) [30] rfl (by kernel_rfl) (fun _ _ _ h=>h) hS0 ⟨by rfl,?_⟩ ?_;rotate_left
      ·intro x hSx;try dsimp only at hSx
       go_simp;try with_reducible rfl
      simp only [Act.put];refine wtj 29 (v:=?_) [30] rfl (by kernel_rfl) (fun _ _ _ h=>h) hS0 ⟨by rfl,?_⟩ ?_;rotate_left
      ·intro x hSx;try dsimp only at hSx
       go_simp;try with_reducible rfl
      simp only [Act.put];refine wto (j:=30) (by kernel_rfl) rfl (fun K hK=>?_);go_simp;refine hK.out _ _ (fun hx=>absurd (hx.symm.trans (by kernel_rfl)) Bool.false_ne_true) ?_;clear hK K;refine wpTill_done (by kernel_rfl) ?_ _;go_wp2;go_roundw;case rel=>exact ⟨t+1,_,_,_,by have:=uh TL;omega,by go_num,hX2⟩
      case measure=>simp [intOf];have:=uh TL;omega
     case neg =>
      have htn':¬(t:Int)<(rn:Int):=by omega
      clear ht ht4 htn;go_wp2;go_meet;exact ⟨_,_,_,hX⟩
    case neg =>
     have ht4':¬(t:Int)<4:=by omega
     clear ht ht4;go_wp2;go_meet;exact ⟨_,_,_,hX⟩
  case rest =>
  obtain ⟨how,inp,sp,hX⟩:=hcut;clear hX1 hA0 hrow hnum hmx';obtain ⟨b0,b1,b2,b3,b4,b5,b6,b7,b8,b9,b10⟩:=(uh hX).1.law.eleven;obtain ⟨x0,x1,x2,x3,x4,x5,x6,x7,x8,x9,x10,x11⟩:=Cr.acts_cells (uh hX).2;have cs:=hide (refStep_any S.s S.g S.c S.E S.I gC gE gI cC cE cI how inp sp wc (uh hX).1.law.hold.lists (uh hX).1.good (by have:=(uh hX).1.s1;omega) (by have:=(uh hX).1.s1;have:=uh hLl;have:=uh HL;omega));unfold Gd.world at cs;go_wp2_with fail;refine (uh cs).mono ?_;rintro e wu ⟨U,hU,aC,aE,aI,bC,bE,bI,rfl,hcap,l1,l2,l3,n1,n2,n3,hL,hg⟩;have hX2:Hid (Gd.Law w (((((((((((wu.setCell ⟨T,0,none⟩ (.int .i64 (U.s 0))).setCell ⟨T,1,none⟩ (.int .i64 (U.s 1))).setCell ⟨T,2,none⟩ (.int .i64 (U.s 2))).setCell ⟨T,3,none⟩ (.int .i64 (U.s 3))).setCell ⟨T,4,none⟩ (.slice (some ⟨aC,0,none⟩) 384 bC)).setCell ⟨T,5,none⟩ (.slice (some ⟨aE,0,none⟩) 32 bE)).setCell ⟨T,6,none⟩ (.slice (some ⟨aI,0,none⟩) 40 bI)).setCell ⟨T,7,none⟩ (.int .i64 (U.g 0))).setCell ⟨T,8,none⟩ (.int .i64 (U.g 1))).setCell ⟨T,9,none⟩ (.int .i64 (U.g 2))).setCell ⟨T,10,none⟩ (.int .i64 (U.g 3))) T aC aE aI bC bE bI U.s U.g U.c U.E U.I∧Sn.Book w (((((((((((wu.setCell ⟨T,0,none⟩ (.int .i64 (U.s 0))).setCell ⟨T,1,none⟩ (.int .i64 (U.s 1))).setCell ⟨T,2,none⟩ (.int .i64 (U.s 2))).setCell ⟨T,3,none⟩ (.int .i64 (U.s 3))).setCell ⟨T,4,none⟩ (.slice (some ⟨aC,0,none⟩) 384 bC)).setCell ⟨T,5,none⟩ (.slice (some ⟨aE,0,none⟩) 32 bE)).setCell ⟨T,6,none⟩ (.slice (some ⟨aI,0,none⟩) 40 bI)).setCell ⟨T,7,none⟩ (.int .i64 (U.g 0))).setCell ⟨T,8,none⟩ (.int .i64 (U.g 1))).setCell ⟨T,9,none⟩ (.int .i64 (U.g 2))).setCell ⟨T,10,none⟩ (.int .i64 (U.g 3))) (T+1) u6 seed L):=⟨(uh hX).1.law.over hcap l1 l2 l3 n1 n2 n3 hL hg,((uh hX).1.book.on hg).over ((uh hX).1.law.hold.box.on hg) (by omega) (Gd.world U.s aC aE aI bC bE bI U.g).toList⟩;have hGU:=hide (hU.good (uh hX).1.good);have hss:Hid (S.s 0=seed∧S.s 1+1=(L.length:Int)):=⟨(uh hX).1.s0,(uh hX).1.s1⟩;have fT:=((uh hX).1.law.hold.box.on hg).free;obtain ⟨y0,y1,y2,y3,y4,y5,y6,y7,y8,y9,y10⟩:=((uh hX).1.law.hold.box.on hg).eleven;clear hcap l1 l2 l3 n1 n2 n3 hL hg cs b0 b1 b2 b3 b4 b5 b6 b7 b8 b9 b10 x0 x1 x2 x3 x4 x5 x6 x7 x8 x9 x10 x11 hX hU;unfold Gd.world;go_upto_region 12 with fail;generalize (((((((((((wu.setCell ⟨T,0,none⟩ (.int .i64 (U.s 0))).setCell ⟨T,1,none⟩ (.int .i64 (U.s 1))).setCell ⟨T,2,none⟩ (.int .i64 (U.s 2))).setCell ⟨T,3,none⟩ (.int .i64 (U.s 3))).setCell ⟨T,4,none⟩ (.slice (some ⟨aC,0,none⟩) 384 bC)).setCell ⟨T,5,none⟩ (.slice (some ⟨aE,0,none⟩) 32 bE)).setCell ⟨T,6,none⟩ (.slice (some ⟨aI,0,none⟩) 40 bI)).setCell ⟨T,7,none⟩ (.int .i64 (U.g 0))).setCell ⟨T,8,none⟩ (.int .i64 (U.g 1))).setCell ⟨T,9,none⟩ (.int .i64 (U.g 2))).setCell ⟨T,10,none⟩ (.int .i64 (U.g 3)))=wg at hX2 ⊢;clear y0 y1 y2 y3 y4 y5 y6 y7 y8 y9 y10 fT wu wc;obtain ⟨b0,b1,b2,b3,b4,b5,b6,b7,b8,b9,b10⟩:=(uh hX2).1.eleven;go_wp2_with (at_builtin;refine wpList_append_own _ rfl _ _ 35 rfl (T+1) 30 i0 (.agg #[.int .i64 0,.int .i64 0,.int .i64 0,.int .i64 0,.slice none 0 0,.slice none 0 0,.slice none 0 0,.int .i64 0,.int .i64 0,.int .i64 0,.int .i64 0]) 11 136 Tryz.underlying35 hi hz0 hz1 hz2 rfl (by decide) _ _ _ rfl ((uh hX2).2.own.alloc _) ⟨wg.heap.size,0,none⟩ 1 1 (#[.int .i64 (U.s 0),.int .i64 (U.s 1),.int .i64 (U.s 2),.int .i64 (U.s 3),.slice (some ⟨aC,0,none⟩) 384 bC,.slice (some ⟨aE,0,none⟩) 32 bE,.slice (some ⟨aI,0,none⟩) 40 bI,.int .i64 (U.g 0),.int .i64 (U.g 1),.int .i64 (U.g 2),.int .i64 (U.g 3)]:Array Value).toList rfl rfl (Sn.news wg _ _ _ rfl) ?_ ?_ ?_ ?_ ?_)
  ·exact ⟨rfl,rfl,rfl,rfl,rfl,rfl,rfl,rfl,rfl,rfl,rfl⟩
  ·have:=uh hLl;have:=uh HL;unfold maxLen;omega
  ·have:=uh hLl;have:=uh HL;omega
  ·have:=(uh hX2).1.hold.box.lt;simp;omega
  intro v8 w8 hown hgrow _;have hX3:Hid (Sn.Tale w w8 T aC aE aI bC bE bI U v8 seed (L ++ [(Gd.world U.s aC aE aI bC bE bI U.g).toList])):=by
   have hs:=uh hss;have hG:=uh hGU;refine ⟨Sn.law_grown ((uh hX2).1.on (World.grownBy_alloc _ _ _)) ((uh hX2).2.own.alloc _) hgrow,(uh hX2).2.more (World.grownBy_alloc _ _ _) ⟨U,aC,aE,aI,bC,bE,bI,rfl,(uh hX2).1.hold.lists,(uh hX2).1.cap,hG.1,hG.2.1.trans hs.1,by rw [hG.2.2.1];exact hs.2⟩ hown hgrow,hG.1,hG.2.1.trans hs.1,?_⟩;rw [List.length_append,hG.2.2.1];simp;have:=hs.2;omega
  have hL3:Hid ((L ++ [(Gd.world U.s aC aE aI bC bE bI U.g).toList]).length=i+1+1∧i+1≤len):=by
   refine ⟨?_,uh HLEN⟩;rw [List.length_append,(uh hLl).1];rfl
  clear hown hgrow hX2 b0 b1 b2 b3 b4 b5 b6 b7 b8 b9 b10 hss hGU;go_wp2;go_roundw;case rel=>exact ⟨i+1,U,aC,aE,aI,bC,bE,bI,_,by have:=uh HL;omega,by go_num,hL3,hX3⟩
  case measure=>simp [intOf];have:=uh HL;omega

theorem story_any (seed:Int) (a:Option Addr) (len cap:Nat) (V:Nat→Option Addr × Nat × Nat) (z:Nat→Nat→Int) (w:World) (hC:Cr.Came w a len V z) :
  Calls Tryz.prog 8 #[.int .i64 seed,.slice a len cap] w (Sn.Tells11 w seed) :=
 (story_len seed a len cap V z w hC).mono fun e w' ⟨v,base,L,h1,h2,h3,h4,h5⟩=>⟨v,base,L,h1,h2,by omega,by omega,h4,h5⟩


open Go.RowKit

theorem Sn.sameW_yes (s g c:Nat→Int) (E I:Nat→Nat→Int):Sn.sameW s s g g c c E E I I=true:=by
 unfold Sn.sameW;rw [(Sn.sameH_iff s s g g).2 ⟨fun _ _=>rfl,fun _ _=>rfl⟩,Sn.allB_yes (fun k _=>by simp),Sn.allB_yes (fun k _=>(Sn.sameE_iff _ _).2 fun _ _=>rfl),Sn.allB_yes (fun k _=>(Sn.sameI_iff _ _).2 fun _ _=>rfl)];rfl

theorem Sn.flat_at {m:Nat}:∀(L:List (List Value)),(∀cs∈L,cs.length=m)→∀(k j:Nat) (cs:List Value),L[k]?=some cs→j<m→L.flatten[k*m+j]?=cs[j]?
 | [],_,k,j,cs,h,_=>by simp at h
 | a :: L,hL,k,j,cs,h,hj=>by
  have ha:a.length=m:=hL a (by simp);cases k with
  | zero =>
   simp at h;subst h;rw [Nat.zero_mul,Nat.zero_add,List.flatten_cons,List.getElem?_append_left (by omega)]
  | succ k =>
   have h':L[k]?=some cs:=by simpa using h
   rw [List.flatten_cons,List.getElem?_append_right (by rw [ha,Nat.succ_mul];omega),show (k+1)*m+j - a.length=k*m+j by rw [ha,Nat.succ_mul];omega];exact Sn.flat_at L (fun c hc=>hL c (by simp [hc])) k j cs h' hj

theorem Sn.Book.at {w x:World} {base:Nat} {v:Value} {seed:Int} {L:List (List Value)} (h:Sn.Book w x base v seed L) {k:Nat} (hk:k<L.length) :
  ∃q cap,v=.slice (some ⟨q,0,none⟩) L.length cap∧base≤q∧L.length≤cap∧∃(S:Cr.W) (gC gE gI cC cE cI:Nat),(∀j,j<11→x.cell? ⟨q,k*11+j,none⟩=some (Gd.box S.s gC gE gI cC cE cI S.g j))∧Gd.Lists x gC gE gI S.c S.E S.I∧32≤cE∧Cr.Good S∧S.s 0=seed∧S.s 1=(k:Int):=by
 obtain ⟨hlen,hv⟩:=h.own;rcases hv with ⟨-,h0⟩|⟨q,cap,cur,rfl,hb,hq,hcap,hm,hs,ht⟩
 ·omega
 obtain ⟨cs,hcs⟩:∃cs,L[k]?=some cs:=⟨_,List.getElem?_eq_getElem hk⟩;have hp:=h.page k cs hcs;obtain ⟨S,gC,gE,gI,cC,cE,cI,rfl,hL,h1,h2,h3,h4⟩:=hp;refine ⟨q,cap,rfl,hb,hcap,S,gC,gE,gI,cC,cE,cI,fun j hj=>?_,hL,h1,h2,h3,h4⟩;have hall:∀cs∈L,cs.length=11:=fun cs hc=>by
  obtain ⟨i,hi⟩:=List.getElem?_of_mem hc;exact (h.page i cs hi).len
 have hf:=Sn.flat_at L hall k j _ hcs hj;have he:(Gd.world S.s gC gE gI cC cE cI S.g).toList[j]?=some (Gd.box S.s gC gE gI cC cE cI S.g j):=by
  rcases (show j=0∨j=1∨j=2∨j=3∨j=4∨j=5∨j=6∨j=7∨j=8∨j=9∨j=10 by omega) with rfl|rfl|rfl|rfl|rfl|rfl|rfl|rfl|rfl|rfl|rfl <;> rfl
 rw [he] at hf;have:=h.own.cells (g:=q) rfl (k*11+j) _ hf
 rwa [Go.WideShapes.add_plain,Nat.zero_add] at this

end Go.Proofs.YtldgbkjceildfaaGreat
