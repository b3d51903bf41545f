import Derived.Test.YtepppmepilffcaaGreatPw27
import Derived.Test.YtepppmepilffcaaGreatPw34
namespace Go.Proofs.YtepppmepilffcaaGreat
open Go.RowKit

theorem Cr.Turn.past {v x x':World} {B A R gC gE gI cC cE cI jC jE jI dC dE dI k:Nat} {how inp:Nat→Int} {sp:Nat→Bool} {s g c s' g' c':Nat→Int} {E I F J:Nat→Nat→Int} (h:Cr.Turn v x B A R gC gE gI cC cE cI how inp sp s g c E I) (hk:B<k∧A<k∧R<k∧v.heap.size≤k∧k≤gE∧k≤gI) (hcap:32≤dE) (l1:(trim x k).heap.size≤jC) (l2:(trim x k).heap.size≤jE) (l3:(trim x k).heap.size≤jI) (n1:jC≠jE) (n2:jC≠jI) (n3:jE≠jI) (hL:Gd.Lists x' jC jE jI c' F J) (hg:(trim x k).grownBy x' none) :
  Cr.Turn v (x'.setCells B 0 (Gd.world s' jC jE jI dC dE dI g').toList) B A R jC jE jI dC dE dI how inp sp s' g' c' F J∧Lie x' B 31 11 (Gd.box s gC gE gI cC cE cI g)∧k≤jE∧k≤jI:=by
 obtain ⟨k1,k2,k3,k4,k5,k6⟩:=hk
 have hx:k≤x.heap.size:=Nat.le_trans k5 (Nat.le_of_lt h.hand.hold.lists.ents.lt)
 rw [trim_size x hx] at l1 l2 l3
 have hb:=(h.hand.hold.box.trim k1).on hg
 exact ⟨h.over hcap (.inr (by omega)) (.inr (by omega)) (.inr (by omega)) n1 n2 n3 hL hb ((h.acts.trim k2).on hg) ((h.res.trim k3).on hg) (gtr (grown_trim h.hand.grown k4 hx) hg),hb,l2,l3⟩

set_option maxRecDepth 16000 in
set_option maxHeartbeats 6400000 in
theorem turn_end {v x:World} {B A R gC gE gI cC cE cI k:Nat} {how inp:Nat→Int} {sp:Nat→Bool} {s g c:Nat→Int} {E I:Nat→Nat→Int} (hT:Cr.Turn v x B A R gC gE gI cC cE cI how inp sp s g c E I) (hk:B<k∧A<k∧R<k∧v.heap.size≤k∧k≤gE∧k≤gI) (hS:Cr.Sane c E I) (f1:1≤s 2) (f3:s 2≤3) (had left:Bool) (Q:Ending→World→Prop) (hQ:∀T e y,Cr.Ends s g c E I had left T→Gd.Worlds v T.s T.g T.c T.E T.I e y→Q e y) {t0 t1 t6 t7 t8 Aa Ab Ac Ad Ae Af Ag Ah Ai Aj Ak Al Am Ao Ap Aq Ar As Au Av Aw Ax Ay Az AA AB AC AD AE AF AG AH AI AJ AK AL AM AN AO AP AQ AR AS AT AU AV AW AX AY AZ A0 A1 A2 A3 A4 A5 A6 A7 A8 A9 Ba Bb Bc Bd Be Bf Bg Bh Bi Bj Bk Bl Bm Bn Bo Bp Bq Br Bs Bt Bu Bv Bw Bx Bz BA BB BC BD BE BF BG BH BI BJ BK BL BM BN BO BP BQ BR BS BT BU BV BW BX BY BZ B0 B1 B2 B3 B4 B5 B6 B7 B8 B9 Ca Cb Cc Cd Ce Cf Cg Ch Ci Cj Ck Cl Cm Cn Co Cp Cq Cs Ct Cu Cv Cw Cx Cy Cz CA CB CC CD CE CF CG CH CI CJ CK CL CM CN CO CP CQ CR CS CT CU CV CW CX CY CZ C0 C1 C2 C3 C4 C5 C6 C7 C8 C9 Da Db Dc Dd De Df Dg Dh Di Dj Dk Dl Dm Dn Dp Dq Dr Ds Dt Du Dv Dw Dx Dy Dz DA DB DC DD DE DF DG DH DI DJ DK DL:Value} :
  Code.wp Tryz.prog ((Tryz.f22.body.map (cdrop 12)).getD .skip) (bodyPost Tryz.prog Tryz.f22 Q) ⟨#[t0,t1,.pointer (some ⟨B,0,none⟩),.pointer (some ⟨A,0,none⟩),.pointer (some ⟨R,0,none⟩),.bool had,t6,t7,t8,.bool left,Aa,Ab,Ac,Ad,Ae,Af,Ag,Ah,Ai,Aj,Ak,Al,Am,Ao,Ap,Aq,Ar,As,Au,Av,Aw,Ax,Ay,Az,AA,AB,AC,AD,AE,AF,AG,AH,AI,AJ,AK,AL,AM,AN,AO,AP,AQ,AR,AS,AT,AU,AV,AW,AX,AY,AZ,A0,A1,A2,A3,A4,A5,A6,A7,A8,A9,Ba,Bb,Bc,Bd,Be,Bf,Bg,Bh,Bi,Bj,Bk,Bl,Bm,Bn,Bo,Bp,Bq,Br,Bs,Bt,Bu,Bv,Bw,Bx,Bz,BA,BB,BC,BD,BE,BF,BG,BH,BI,BJ,BK,BL,BM,BN,BO,BP,BQ,BR,BS,BT,BU,BV,BW,BX,BY,BZ,B0,B1,B2,B3,B4,B5,B6,B7,B8,B9,Ca,Cb,Cc,Cd,Ce,Cf,Cg,Ch,Ci,Cj,Ck,Cl,Cm,Cn,Co,Cp,Cq,Cs,Ct,Cu,Cv,Cw,Cx,Cy,Cz,CA,CB,CC,CD,CE,CF,CG,CH,CI,CJ,CK,CL,CM,CN,CO,CP,CQ,CR,CS,CT,CU,CV,CW,CX,CY,CZ,C0,C1,C2,C3,C4,C5,C6,C7,C8,C9,Da,Db,Dc,Dd,De,Df,Dg,Dh,Di,Dj,Dk,Dl,Dm,Dn,Dp,Dq,Dr,Ds,Dt,Du,Dv,Dw,Dx,Dy,Dz,DA,DB,DC,DD,DE,DF,DG,DH,DI,DJ,DK,DL],[]⟩ x:=by
 conv=>arg 2;whnf
 have hT':=hide hT
 have hQ':=hide hQ
 have hk':=hide hk
 have hS':=hide hS
 have HF:=hide (And.intro f1 f3)
 clear hT hQ hk hS f1 f3
 obtain ⟨b0,b1,b2,b3,b4,b5,b6,b7,b8,b9,b10⟩:=(uh hT').hand.hold.box.eleven
 have cm:=hide (refSome_any s g c E I gC gE gI cC cE cI x (uh hT').hand.hold.lists)
 unfold Gd.world at cm
 go_wp2_with fail
 refine (uh cm).mono ?_
 rintro e w1 ⟨rfl,hg⟩
 have hT1:=hide ((uh hT').on hg)
 clear hg cm b0 b1 b2 b3 b4 b5 b6 b7 b8 b9 b10 hT'
 obtain ⟨mn,hmn⟩:∃mn,Cr.manned E=mn:=⟨_,rfl⟩
 rw [hmn]
 have HM:=hide hmn
 clear hmn
 obtain ⟨b0,b1,b2,b3,b4,b5,b6,b7,b8,b9,b10⟩:=(uh hT1).hand.hold.box.eleven
 have fB:=(uh hT1).hand.hold.box.free
 cases mn
 ·cases had
  ·have he:Hid (Cr.Ends s g c E I false left ⟨s,g,c,E,I⟩):=by show Cr.Ends _ _ _ _ _ _ _ _;unfold Cr.Ends;rw [if_pos (uh HM)];rfl
   go_upto_region 50 with fail
   generalize w1=wc at hT1 ⊢
   clear fB b0 b1 b2 b3 b4 b5 b6 b7 b8 b9 b10
   obtain ⟨b0,b1,b2,b3,b4,b5,b6,b7,b8,b9,b10⟩:=(uh hT1).hand.hold.box.eleven
   obtain ⟨z0,z1,z2,z3,z4,z5,z6,z7,z8,z9,z10⟩:=Gd.res_cells (uh hT1).res
   have fz:=(uh hT1).res.free
   have hfo:Hid (∀l,Q (.returned (.agg (Gd.world s gC gE gI cC cE cI g))) (wc.setCells R 0 l)):=fun l=>uh hQ' _ _ _ (uh he) ((uh hT1).worlds l)
   clear hQ' he hT1
   go_wp2
   refine bodyPost_ret (v:=.agg (Gd.world s gC gE gI cC cE cI g)) (by simp [results,Tryz.results22,go_sem,Gd.world,z0,z1,z2,z3,z4,z5,z6,z7,z8,z9,z10]) rfl ?_
   exact uh hfo [_,_,_,_,_,_,_,_,_,_,_]
  ·have he:Hid (Cr.Ends s g c E I true left ⟨Cr.num s 3 2,g,c,E,I⟩):=by show Cr.Ends _ _ _ _ _ _ _ _;unfold Cr.Ends;rw [if_pos (uh HM)];rfl
   have hT2:=hide ((uh hT1).num 3 (by omega) 2)
   go_upto_region 50 with fail
   generalize (w1.setCell ⟨B,3,none⟩ (.int .i64 2))=wc at hT2 ⊢
   clear fB b0 b1 b2 b3 b4 b5 b6 b7 b8 b9 b10
   obtain ⟨b0,b1,b2,b3,b4,b5,b6,b7,b8,b9,b10⟩:=(uh hT2).hand.hold.box.eleven
   obtain ⟨z0,z1,z2,z3,z4,z5,z6,z7,z8,z9,z10⟩:=Gd.res_cells (uh hT2).res
   have fz:=(uh hT2).res.free
   have hfo:Hid (∀l,Q (.returned (.agg (Gd.world (Cr.num s 3 2) gC gE gI cC cE cI g))) (wc.setCells R 0 l)):=fun l=>uh hQ' _ _ _ (uh he) ((uh hT2).worlds l)
   clear hQ' he hT2
   go_wp2
   refine bodyPost_ret (v:=.agg (Gd.world (Cr.num s 3 2) gC gE gI cC cE cI g)) (by simp [results,Tryz.results22,go_sem,Gd.world,z0,z1,z2,z3,z4,z5,z6,z7,z8,z9,z10]) rfl ?_
   exact uh hfo [_,_,_,_,_,_,_,_,_,_,_]
 ·cases left
  ·have he:Hid (Cr.Ends s g c E I had false ⟨s,g,c,E,I⟩):=by show Cr.Ends _ _ _ _ _ _ _ _;unfold Cr.Ends;rw [uh HM,if_neg (fun h=>by cases h),if_neg (fun h=>by cases h)]
   go_upto_region 50 with fail
   generalize w1=wc at hT1 ⊢
   clear fB b0 b1 b2 b3 b4 b5 b6 b7 b8 b9 b10
   obtain ⟨b0,b1,b2,b3,b4,b5,b6,b7,b8,b9,b10⟩:=(uh hT1).hand.hold.box.eleven
   obtain ⟨z0,z1,z2,z3,z4,z5,z6,z7,z8,z9,z10⟩:=Gd.res_cells (uh hT1).res
   have fz:=(uh hT1).res.free
   have hfo:Hid (∀l,Q (.returned (.agg (Gd.world s gC gE gI cC cE cI g))) (wc.setCells R 0 l)):=fun l=>uh hQ' _ _ _ (uh he) ((uh hT1).worlds l)
   clear hQ' he hT1
   go_wp2
   refine bodyPost_ret (v:=.agg (Gd.world s gC gE gI cC cE cI g)) (by simp [results,Tryz.results22,go_sem,Gd.world,z0,z1,z2,z3,z4,z5,z6,z7,z8,z9,z10]) rfl ?_
   exact uh hfo [_,_,_,_,_,_,_,_,_,_,_]
  ·by_cases h3:s 2=3
   ·have he:Hid (Cr.Ends s g c E I had true ⟨Cr.num s 3 1,g,c,E,I⟩):=by show Cr.Ends _ _ _ _ _ _ _ _;unfold Cr.Ends;rw [uh HM,if_neg (fun h=>by cases h),if_pos rfl,if_pos h3]
    have hT2:=hide ((uh hT1).num 3 (by omega) 1)
    rw [h3] at b2
    clear h3
    go_upto_region 50 with fail
    generalize (w1.setCell ⟨B,3,none⟩ (.int .i64 1))=wc at hT2 ⊢
    clear fB b0 b1 b2 b3 b4 b5 b6 b7 b8 b9 b10
    obtain ⟨b0,b1,b2,b3,b4,b5,b6,b7,b8,b9,b10⟩:=(uh hT2).hand.hold.box.eleven
    obtain ⟨z0,z1,z2,z3,z4,z5,z6,z7,z8,z9,z10⟩:=Gd.res_cells (uh hT2).res
    have fz:=(uh hT2).res.free
    have hfo:Hid (∀l,Q (.returned (.agg (Gd.world (Cr.num s 3 1) gC gE gI cC cE cI g))) (wc.setCells R 0 l)):=fun l=>uh hQ' _ _ _ (uh he) ((uh hT2).worlds l)
    clear hQ' he hT2
    go_wp2
    refine bodyPost_ret (v:=.agg (Gd.world (Cr.num s 3 1) gC gE gI cC cE cI g)) (by simp [results,Tryz.results22,go_sem,Gd.world,z0,z1,z2,z3,z4,z5,z6,z7,z8,z9,z10]) rfl ?_
    exact uh hfo [_,_,_,_,_,_,_,_,_,_,_]
   ·have he:Hid (∀T,Cr.Below s g E I T→Cr.Ends s g c E I had true T):=fun T hT=>by unfold Cr.Ends;rw [uh HM,if_neg (fun h=>by cases h),if_pos rfl,if_neg h3];exact hT
    have h3':(s 2 == 3)=false:=by simp [h3]
    have hh:=(uh hT1).hand.hold
    obtain ⟨k1,k2,k3,k4,k5,k6⟩:=uh hk'
    have hx:k≤w1.heap.size:=Nat.le_trans k5 (Nat.le_of_lt hh.lists.ents.lt)
    have cb:=hide (refBelow_any (trim w1 k) s g c E I gC gE gI cC cE cI w1 (trim_grown w1 hx) (by rw [trim_size w1 hx];exact k5) (by rw [trim_size w1 hx];exact k6) hh.lists (uh hT1).hand.cap hh.cE hh.cI hh.eI (uh hS') (uh HF).1 (by have:=(uh HF).2;omega))
    clear k1 k2 k3 k4 k5 k6 hx hh h3
    unfold Gd.world at cb
    go_wp2_with fail
    refine (uh cb).mono ?_
    rintro e w2 ⟨T,hB,jC,jE,jI,dC,dE,dI,rfl,hcap,l1,l2,l3,n1,n2,n3,hL,hg⟩
    obtain ⟨hT2,hb2,-,-⟩:=(uh hT1).past (uh hk') (s':=T.s) (g':=T.g) (dC:=dC) (dI:=dI) hcap l1 l2 l3 n1 n2 n3 hL hg
    have hT2':Hid (Cr.Turn v (((((((((((w2.setCell ⟨B,0,none⟩ (.int .i64 (T.s 0))).setCell ⟨B,1,none⟩ (.int .i64 (T.s 1))).setCell ⟨B,2,none⟩ (.int .i64 (T.s 2))).setCell ⟨B,3,none⟩ (.int .i64 (T.s 3))).setCell ⟨B,4,none⟩ (.slice (some ⟨jC,0,none⟩) 384 dC)).setCell ⟨B,5,none⟩ (.slice (some ⟨jE,0,none⟩) 32 dE)).setCell ⟨B,6,none⟩ (.slice (some ⟨jI,0,none⟩) 40 dI)).setCell ⟨B,7,none⟩ (.int .i64 (T.g 0))).setCell ⟨B,8,none⟩ (.int .i64 (T.g 1))).setCell ⟨B,9,none⟩ (.int .i64 (T.g 2))).setCell ⟨B,10,none⟩ (.int .i64 (T.g 3))) B A R jC jE jI dC dE dI how inp sp T.s T.g T.c T.E T.I):=hT2
    have heT:=hide (uh he T hB)
    clear b0 b1 b2 b3 b4 b5 b6 b7 b8 b9 b10 fB cb hcap l1 l2 l3 n1 n2 n3 hL hg hT2 hB he hT1
    obtain ⟨b0,b1,b2,b3,b4,b5,b6,b7,b8,b9,b10⟩:=hb2.eleven
    have fB:=hb2.free
    clear hb2
    unfold Gd.world
    go_upto_region 50 with fail
    generalize (((((((((((w2.setCell ⟨B,0,none⟩ (.int .i64 (T.s 0))).setCell ⟨B,1,none⟩ (.int .i64 (T.s 1))).setCell ⟨B,2,none⟩ (.int .i64 (T.s 2))).setCell ⟨B,3,none⟩ (.int .i64 (T.s 3))).setCell ⟨B,4,none⟩ (.slice (some ⟨jC,0,none⟩) 384 dC)).setCell ⟨B,5,none⟩ (.slice (some ⟨jE,0,none⟩) 32 dE)).setCell ⟨B,6,none⟩ (.slice (some ⟨jI,0,none⟩) 40 dI)).setCell ⟨B,7,none⟩ (.int .i64 (T.g 0))).setCell ⟨B,8,none⟩ (.int .i64 (T.g 1))).setCell ⟨B,9,none⟩ (.int .i64 (T.g 2))).setCell ⟨B,10,none⟩ (.int .i64 (T.g 3)))=wc at hT2' ⊢
    clear fB b0 b1 b2 b3 b4 b5 b6 b7 b8 b9 b10
    obtain ⟨b0,b1,b2,b3,b4,b5,b6,b7,b8,b9,b10⟩:=(uh hT2').hand.hold.box.eleven
    obtain ⟨z0,z1,z2,z3,z4,z5,z6,z7,z8,z9,z10⟩:=Gd.res_cells (uh hT2').res
    have fz:=(uh hT2').res.free
    have hfo:Hid (∀l,Q (.returned (.agg (Gd.world T.s jC jE jI dC dE dI T.g))) (wc.setCells R 0 l)):=fun l=>uh hQ' _ _ _ (uh heT) ((uh hT2').worlds l)
    clear hQ' heT hT2'
    go_wp2
    refine bodyPost_ret (v:=.agg (Gd.world T.s jC jE jI dC dE dI T.g)) (by simp [results,Tryz.results22,go_sem,Gd.world,z0,z1,z2,z3,z4,z5,z6,z7,z8,z9,z10]) rfl ?_
    exact uh hfo [_,_,_,_,_,_,_,_,_,_,_]


open Go.RowKit

theorem Cr.Turn.aside {v x:World} {B A R gC gE gI cC cE cI D o:Nat} {how inp:Nat→Int} {sp:Nat→Bool} {s g c:Nat→Int} {E I:Nat→Nat→Int} (h:Cr.Turn v x B A R gC gE gI cC cE cI how inp sp s g c E I) (hD:v.heap.size≤D) (n0:D≠B) (n1:D≠A) (n2:D≠R) (n3:D≠gC) (n4:D≠gE) (n5:D≠gI) (u:Value):Cr.Turn v (x.setCell ⟨D,o,none⟩ u) B A R gC gE gI cC cE cI how inp sp s g c E I:=by
 have hh:=h.hand.hold
 exact ⟨⟨⟨hh.box.other n0 _ _,⟨hh.lists.cells.other n3 _ _,hh.lists.ents.other n4 _ _,hh.lists.items.other n5 _ _⟩,hh.bC,hh.bE,hh.bI,hh.cE,hh.cI,hh.eI⟩,h.hand.lB,h.hand.cap,gsr h.hand.grown ⟨D,o,none⟩ hD _⟩,h.acts.other n1 _ _,h.res.other n2 _ _,h.bR,h.lR,h.lC,h.lE,h.lI⟩

theorem Cr.Turn.fresh {v x x':World} {B A R gC gE gI cC cE cI jC jE jI dC dE dI k:Nat} {how inp:Nat→Int} {sp:Nat→Bool} {s g c s' g' c':Nat→Int} {E I F J:Nat→Nat→Int} (h:Cr.Turn v x B A R gC gE gI cC cE cI how inp sp s g c E I) (hk:B<k∧A<k∧R<k∧v.heap.size≤k∧k≤gE∧k≤gI) (hcap:32≤dE) (l1:jC=gC∨x.heap.size≤jC) (l2:jE=gE∨x.heap.size≤jE) (l3:jI=gI∨x.heap.size≤jI) (n1:jC≠jE) (n2:jC≠jI) (n3:jE≠jI) (hL:Gd.Lists x' jC jE jI c' F J) (hg:x.grownBy x' none) :
  Cr.Turn v (x'.setCells B 0 (Gd.world s' jC jE jI dC dE dI g').toList) B A R jC jE jI dC dE dI how inp sp s' g' c' F J∧Lie x' B 31 11 (Gd.box s gC gE gI cC cE cI g)∧B<k∧A<k∧R<k∧v.heap.size≤k∧k≤jE∧k≤jI:=by
 obtain ⟨k1,k2,k3,k4,k5,k6⟩:=hk
 have q1:=h.hand.hold.lists.ents.lt
 have q2:=h.hand.grown.size
 have hb:=h.hand.hold.box.on hg
 exact ⟨h.over hcap (l1.imp id (by omega)) (l2.imp id (by omega)) (l3.imp id (by omega)) n1 n2 n3 hL hb (h.acts.on hg) (h.res.on hg) (gtr h.hand.grown hg),hb,k1,k2,k3,k4,by omega,by omega⟩

theorem Cr.Turn.low {v x:World} {B A R gC gE gI cC cE cI:Nat} {how inp:Nat→Int} {sp:Nat→Bool} {s g c:Nat→Int} {E I:Nat→Nat→Int} (h:Cr.Turn v x B A R gC gE gI cC cE cI how inp sp s g c E I):v.heap.size≤x.heap.size∧B<x.heap.size∧A<x.heap.size∧R<x.heap.size∧gC<x.heap.size∧gE<x.heap.size∧gI<x.heap.size :=
 ⟨h.hand.grown.size,h.hand.hold.box.lt,h.acts.lt,h.res.lt,h.hand.hold.lists.cells.lt,h.hand.hold.lists.ents.lt,h.hand.hold.lists.items.lt⟩

theorem Cr.rat_row (u:Nat):Cr.one 2 0 u=En.upd (En.upd (En.stats 2) 3 ((u:Int) % 24)) 4 ((u:Int) / 24):=by
 unfold Cr.one
 rw [show En.upd (En.stats 2) 2 0=En.stats 2 from funext fun j=>by unfold En.upd;by_cases e:j=2;rw [if_pos e,e];rfl;rw [if_neg e]]

set_option maxRecDepth 16000 in
set_option maxHeartbeats 6400000 in
theorem turn_rat {v x:World} {B A R gC gE gI cC cE cI k:Nat} {how inp:Nat→Int} {sp:Nat→Bool} {s g c:Nat→Int} {E I:Nat→Nat→Int} (hT:Cr.Turn v x B A R gC gE gI cC cE cI how inp sp s g c E I) (hk:B<k∧A<k∧R<k∧v.heap.size≤k∧k≤gE∧k≤gI) (hS:Cr.Sane c E I) (hFl:Nv.Floor c) (f1:1≤s 2) (f3:s 2≤3) (had left:Bool) (Q:Ending→World→Prop) (hQ:∀T e y,Cr.Ends s g c (Cr.rats s c (Ft.ailE E I 32).1) (Ft.ailE E I 32).2 had left T→Gd.Worlds v T.s T.g T.c T.E T.I e y→Q e y) {t0 t1 t6 t7 t8 Aa Ab Ac Ad Ae Af Ag Ah Ai Aj Ak Al Am Ao Ap Aq Ar As Au Av Aw Ax Ay Az AA AB AC AD AE AF AG AH AI AJ AK AL AM AN AO AP AQ AR AS AT AU AV AW AX AY AZ A0 A1 A2 A3 A4 A5 A6 A7 A8 A9 Ba Bb Bc Bd Be Bf Bg Bh Bi Bj Bk Bl Bm Bn Bo Bp Bq Br Bs Bt Bu Bv Bw Bx Bz BA BB BC BD BE BF BG BH BI BJ BK BL BM BN BO BP BQ BR BS BT BU BV BW BX BY BZ B0 B1 B2 B3 B4 B5 B6 B7 B8 B9 Ca Cb Cc Cd Ce Cf Cg Ch Ci Cj Ck Cl Cm Cn Co Cp Cq Cs Ct Cu Cv Cw Cx Cy Cz CA CB CC CD CE CF CG CH CI CJ CK CL CM CN CO CP CQ CR CS CT CU CV CW CX CY CZ C0 C1 C2 C3 C4 C5 C6 C7 C8 C9 Da Db Dc Dd De Df Dg Dh Di Dj Dk Dl Dm Dn Dp Dq Dr Ds Dt Du Dv Dw Dx Dy Dz DA DB DC DD DE DF DG DH DI DJ DK DL:Value} :
  Code.wp Tryz.prog ((Tryz.f22.body.map (cdrop 10)).getD .skip) (bodyPost Tryz.prog Tryz.f22 Q) ⟨#[t0,t1,.pointer (some ⟨B,0,none⟩),.pointer (some ⟨A,0,none⟩),.pointer (some ⟨R,0,none⟩),.bool had,t6,t7,t8,.bool left,Aa,Ab,Ac,Ad,Ae,Af,Ag,Ah,Ai,Aj,Ak,Al,Am,Ao,Ap,Aq,Ar,As,Au,Av,Aw,Ax,Ay,Az,AA,AB,AC,AD,AE,AF,AG,AH,AI,AJ,AK,AL,AM,AN,AO,AP,AQ,AR,AS,AT,AU,AV,AW,AX,AY,AZ,A0,A1,A2,A3,A4,A5,A6,A7,A8,A9,Ba,Bb,Bc,Bd,Be,Bf,Bg,Bh,Bi,Bj,Bk,Bl,Bm,Bn,Bo,Bp,Bq,Br,Bs,Bt,Bu,Bv,Bw,Bx,Bz,BA,BB,BC,BD,BE,BF,BG,BH,BI,BJ,BK,BL,BM,BN,BO,BP,BQ,BR,BS,BT,BU,BV,BW,BX,BY,BZ,B0,B1,B2,B3,B4,B5,B6,B7,B8,B9,Ca,Cb,Cc,Cd,Ce,Cf,Cg,Ch,Ci,Cj,Ck,Cl,Cm,Cn,Co,Cp,Cq,Cs,Ct,Cu,Cv,Cw,Cx,Cy,Cz,CA,CB,CC,CD,CE,CF,CG,CH,CI,CJ,CK,CL,CM,CN,CO,CP,CQ,CR,CS,CT,CU,CV,CW,CX,CY,CZ,C0,C1,C2,C3,C4,C5,C6,C7,C8,C9,Da,Db,Dc,Dd,De,Df,Dg,Dh,Di,Dj,Dk,Dl,Dm,Dn,Dp,Dq,Dr,Ds,Dt,Du,Dv,Dw,Dx,Dy,Dz,DA,DB,DC,DD,DE,DF,DG,DH,DI,DJ,DK,DL],[]⟩ x:=by
 conv=>arg 2;whnf
 obtain ⟨b0,b1,b2,b3,b4,b5,b6,b7,b8,b9,b10⟩:=hT.hand.hold.box.eleven
 have ca:=hide (refAil8_any s g c E I gC gE gI cC cE cI x hT.hand.hold.lists hS.fit)
 obtain ⟨F,hF⟩:∃F,(Ft.ailE E I 32).1=F:=⟨_,rfl⟩
 obtain ⟨J,hJ⟩:∃J,(Ft.ailE E I 32).2=J:=⟨_,rfl⟩
 have hSF:=hide hS.ail
 rw [hF,hJ] at ca hQ hSF
 clear hF hJ
 have hT':=hide hT
 have hQ':=hide hQ
 have hk':=hide hk
 have HF:=hide (And.intro f1 f3)
 obtain ⟨u,hu,hfu,hcu,_⟩:=Cr.up_stair hFl
 have HU:=hide (And.intro hu (And.intro hfu hcu))
 have HC:=hide hS.fit.cells
 clear hT hQ hk f1 f3 hS hFl hu hfu hcu
 unfold Gd.world at ca
 go_wp2_with fail
 refine (uh ca).mono ?_
 rintro e w1 ⟨mC,mE,mI,pC,pE,pI,rfl,hcap,l1,l2,l3,n1,n2,n3,hL,hg⟩
 have hf:=(uh hT').fresh (uh hk') (s':=s) (g':=g) (dC:=pC) (dI:=pI) hcap (.inr l1) (.inr l2) (.inr l3) n1 n2 n3 hL hg
 have hT1:Hid (Cr.Turn v (((((((((((w1.setCell ⟨B,0,none⟩ (.int .i64 (s 0))).setCell ⟨B,1,none⟩ (.int .i64 (s 1))).setCell ⟨B,2,none⟩ (.int .i64 (s 2))).setCell ⟨B,3,none⟩ (.int .i64 (s 3))).setCell ⟨B,4,none⟩ (.slice (some ⟨mC,0,none⟩) 384 pC)).setCell ⟨B,5,none⟩ (.slice (some ⟨mE,0,none⟩) 32 pE)).setCell ⟨B,6,none⟩ (.slice (some ⟨mI,0,none⟩) 40 pI)).setCell ⟨B,7,none⟩ (.int .i64 (g 0))).setCell ⟨B,8,none⟩ (.int .i64 (g 1))).setCell ⟨B,9,none⟩ (.int .i64 (g 2))).setCell ⟨B,10,none⟩ (.int .i64 (g 3))) B A R mC mE mI pC pE pI how inp sp s g c F J):=hf.1
 have hk1:=hide hf.2.2
 have hb1:=hide hf.2.1
 clear hf hcap l1 l2 l3 n1 n2 n3 hL hg ca b0 b1 b2 b3 b4 b5 b6 b7 b8 b9 b10 hT' hk'
 obtain ⟨b0,b1,b2,b3,b4,b5,b6,b7,b8,b9,b10⟩:=(uh hb1).eleven
 have fB:=(uh hb1).free
 clear hb1
 unfold Gd.world
 go_upto_region 37 with fail
 generalize (((((((((((w1.setCell ⟨B,0,none⟩ (.int .i64 (s 0))).setCell ⟨B,1,none⟩ (.int .i64 (s 1))).setCell ⟨B,2,none⟩ (.int .i64 (s 2))).setCell ⟨B,3,none⟩ (.int .i64 (s 3))).setCell ⟨B,4,none⟩ (.slice (some ⟨mC,0,none⟩) 384 pC)).setCell ⟨B,5,none⟩ (.slice (some ⟨mE,0,none⟩) 32 pE)).setCell ⟨B,6,none⟩ (.slice (some ⟨mI,0,none⟩) 40 pI)).setCell ⟨B,7,none⟩ (.int .i64 (g 0))).setCell ⟨B,8,none⟩ (.int .i64 (g 1))).setCell ⟨B,9,none⟩ (.int .i64 (g 2))).setCell ⟨B,10,none⟩ (.int .i64 (g 3)))=w2 at hT1 ⊢
 clear b0 b1 b2 b3 b4 b5 b6 b7 b8 b9 b10 fB
 rename_i K1 h1 K2 h2
 have hK0:=hide h1
 clear h1
 have b1:=(uh hT1).hand.hold.box.eleven.2.1
 by_cases h16:s 1 % 16=0
 ·have e1:(s 1).tmod 16=0:=(Cr.rem16 (s 1)).2 h16
  have H16:=hide h16
  clear h16
  have b4:=(uh hT1).hand.hold.box.eleven.2.2.2.2.1
  have b5:=(uh hT1).hand.hold.box.eleven.2.2.2.2.2.1
  have cf:=hide (refFind_any w2.heap.size (some ⟨mC,0,none⟩) 384 pC c 3 w2 (uh hT1).hand.hold.lists.vec (uh HC))
  rw [(uh HU).2.1] at cf
  have cz:=hide (entRefAt_same mE 32 pE F ((u:Int) % 24) ((u:Int) / 24) w2 (uh hT1).hand.hold.lists.own.ents)
  obtain ⟨z,hz⟩:∃z,En.first (En.atQ F ((u:Int) % 24) ((u:Int) / 24)) 32=z:=⟨_,rfl⟩
  rw [hz] at cz
  have HZ:=hide hz
  have t4:IntKind.i64.wrap ((u:Int) / 24)=(u:Int) / 24:=by rw [IntKind.wrap_i64];have:=(uh HU).1;omega
  clear hz
  go_wp2_with fail
  refine (uh cf).mono ?_
  rintro e wy ⟨rfl,hy⟩
  subst wy
  clear cf b4 e1
  go_wp2_with fail
  refine (uh cz).mono ?_
  rintro e wy ⟨rfl,hy⟩
  subst wy
  clear cz b5
  by_cases hz0:z<0
  ·have hr:Cr.rats s c F=Cr.join F (Cr.one 2 0 u):=by
    unfold Cr.rats
    rw [(uh HU).2.1,if_pos ⟨uh H16,by rw [uh HZ];exact hz0⟩,Int.toNat_natCast]
   have hSr:Hid (Cr.Sane c (Cr.rats s c F) J):=by
    show Cr.Sane _ _ _
    rw [hr]
    exact (uh hSF).join (by omega) (by omega) (uh HU).1 ⟨by rw [(uh HU).2.2];rfl,by rw [uh HZ];exact hz0⟩ (.inr ⟨by omega,rfl⟩)
   obtain ⟨st,hst⟩:∃st,En.stats 2=st:=⟨_,rfl⟩
   have cst:=hide (entRefStats_any 2 w2)
   rw [hst] at cst
   have hro:Hid (En.upd (En.upd st 3 ((u:Int) % 24)) 4 ((u:Int) / 24)=Cr.one 2 0 u):=by
    show _=_
    rw [Cr.rat_row,hst]
   rw [hr] at hQ' hSr
   clear hst hr
   obtain ⟨o,ho⟩:∃o,Cr.one 2 0 u=o:=⟨_,rfl⟩
   have HO1:Hid (1≤o 0∧o 0≤4):=by
    show _∧_
    rw [←ho,(Cr.one_at 2 0 u).1 (by omega) (by omega)]
    omega
   rw [ho] at hQ' hSr hro
   clear ho
   unfold En.cells at cst
   go_wp2_with fail
   refine (uh cst).mono ?_
   rintro e w3 ⟨rfl,hg⟩
   have hg3:=hide (gtr hg (World.grownBy_alloc w3 (.cells (En.cells st) 61) none))
   have hD:=hide (Lie.born w3 st 61)
   have hlow:=hide ((uh hT1).on hg).low
   have hT3:=hide ((uh hT1).on (uh hg3))
   clear hg hg3 cst hT1
   unfold En.cells at hD hT3
   go_upto_region 41 with fail
   obtain ⟨D,hDe⟩:∃D,w3.heap.size=D:=⟨_,rfl⟩
   rw [hDe] at hD hlow ⊢
   generalize w3.alloc (.cells #[.int .i64 (st 0),.int .i64 (st 1),.int .i64 (st 2),.int .i64 (st 3),.int .i64 (st 4),.int .i64 (st 5),.int .i64 (st 6),.int .i64 (st 7),.int .i64 (st 8),.int .i64 (st 9),.int .i64 (st 10)] 61)=wd at hD hT3 ⊢
   clear hDe w3
   obtain ⟨z0,z1,z2,z3,z4,z5,z6,z7,z8,z9,z10⟩:=(uh hD).ent
   have zf:=(uh hD).free
   have hD2:=hide (((uh hD).upd 3 ((u:Int) % 24)).upd 4 ((u:Int) / 24))
   rw [uh hro] at hD2
   have hT4:=hide (((uh hT3).aside (D:=D) (o:=3) (uh hlow).1 (by have:=uh hlow;omega) (by have:=uh hlow;omega) (by have:=uh hlow;omega) (by have:=uh hlow;omega) (by have:=uh hlow;omega) (by have:=uh hlow;omega) (.int .i64 ((u:Int) % 24))).aside (D:=D) (o:=4) (uh hlow).1 (by have:=uh hlow;omega) (by have:=uh hlow;omega) (by have:=uh hlow;omega) (by have:=uh hlow;omega) (by have:=uh hlow;omega) (by have:=uh hlow;omega) (.int .i64 ((u:Int) / 24)))
   clear hT3 hD hro
   go_upto_region 42 with fail
   generalize (wd.setCell ⟨D,3,none⟩ (.int .i64 ((u:Int) % 24))).setCell ⟨D,4,none⟩ (.int .i64 ((u:Int) / 24))=we at hD2 hT4 ⊢
   clear z0 z1 z2 z3 z4 z5 z6 z7 z8 z9 z10 zf t4
   obtain ⟨z0,z1,z2,z3,z4,z5,z6,z7,z8,z9,z10⟩:=(uh hD2).ent
   have b5:=(uh hT4).hand.hold.box.eleven.2.2.2.2.2.1
   have csp:=hide (refSpawned_any mE pE F o we (uh hT4).hand.hold.lists.own (uh hT4).hand.cap (uh hSF).good.gens (uh HO1))
   unfold En.cells at csp
   go_wp2_with fail
   refine (uh csp).mono ?_
   rintro e w5 ⟨jE,dE,rfl,hcap,hj,hown,hg⟩
   have hT5:Hid (Cr.Turn v (w5.setCell ⟨B,5,none⟩ (.slice (some ⟨jE,0,none⟩) 32 dE)) B A R mC jE mI pC dE pI how inp sp s g c (Cr.join F o) J):=(uh hT4).folk hcap hj hown hg
   have hk5:Hid (B<k∧A<k∧R<k∧v.heap.size≤k∧k≤jE∧k≤mI):=by
    have k:=uh hk1
    have q:=(uh hT4).low
    show _∧_∧_∧_∧_∧_
    omega
   have b5':=((uh hT4).on hg).hand.hold.box.eleven.2.2.2.2.2.1
   have fB:=((uh hT4).on hg).hand.hold.box.free
   clear hcap hj hown hg csp b5 z0 z1 z2 z3 z4 z5 z6 z7 z8 z9 z10 hT4 hD2 hz0
   go_wp2_with fail
   exact uh hK0 _ _ (turn_end (uh hT5) (uh hk5) (uh hSr) (uh HF).1 (uh HF).2 had left Q (uh hQ'))
  ·have hr:Cr.rats s c F=F:=by
    unfold Cr.rats
    rw [(uh HU).2.1,if_neg (fun h=>by have h2:=h.2;rw [uh HZ] at h2;exact hz0 h2)]
   rw [hr] at hQ'
   clear hr t4
   go_wp2_with fail
   exact uh hK0 _ _ (turn_end (uh hT1) (uh hk1) (uh hSF) (uh HF).1 (uh HF).2 had left Q (uh hQ'))
 ·have hr:Cr.rats s c F=F:=by
   unfold Cr.rats
   rw [if_neg (fun h=>h16 h.1)]
  rw [hr] at hQ'
  have e1:((s 1).tmod 16 == 0)=false:=by
   have:¬(s 1).tmod 16=0:=fun h=>h16 ((Cr.rem16 (s 1)).1 h)
   simp [this]
  have e2:(s 1 % 16 == 0)=false:=by simpa using h16
  clear hr h16
  go_wp2_with fail
  exact uh hK0 _ _ (turn_end (uh hT1) (uh hk1) (uh hSF) (uh HF).1 (uh HF).2 had left Q (uh hQ'))

end Go.Proofs.YtepppmepilffcaaGreat
