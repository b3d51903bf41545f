import Derived.Test.YtapgkgbpekkdjaaPart33
import Derived.Test.YtapgkgbpekkdjaaPart31
namespace Go.Proofs.Ytapgkgbpekkdjaa
open Go.RowKit

def Gd.folk (st:Int) (kc:Nat) (h:Int):Nat→Int
 | 0=>1
 | 2=>st
 | 3=>(kc:Int) % 24
 | 4=>(kc:Int) / 24
 | 5=>1+h
 | 6=>20
 | 7=>5
 | 8=>1
 | _=>0

theorem folk_cells {x:World} {X:Nat} {T:TypeId} {st h:Int} {kc:Nat} (hA:Lie x X T 11 (Ints (Gd.folk st kc h))) :
  x.cell? ⟨X,0,none⟩=some (.int .i64 1)∧x.cell? ⟨X,1,none⟩=some (.int .i64 0)∧x.cell? ⟨X,2,none⟩=some (.int .i64 st)∧x.cell? ⟨X,3,none⟩=some (.int .i64 ((kc:Int) % 24))∧x.cell? ⟨X,4,none⟩=some (.int .i64 ((kc:Int) / 24))∧x.cell? ⟨X,5,none⟩=some (.int .i64 (1+h))∧x.cell? ⟨X,6,none⟩=some (.int .i64 20)∧x.cell? ⟨X,7,none⟩=some (.int .i64 5)∧x.cell? ⟨X,8,none⟩=some (.int .i64 1)∧x.cell? ⟨X,9,none⟩=some (.int .i64 0)∧x.cell? ⟨X,10,none⟩=some (.int .i64 0) :=
 ⟨hA.cell (by omega),hA.cell (by omega),hA.cell (by omega),hA.cell (by omega),hA.cell (by omega),hA.cell (by omega),hA.cell (by omega),hA.cell (by omega),hA.cell (by omega),hA.cell (by omega),hA.cell (by omega)⟩

theorem folk_made {x:World} {X:Nat} {T:TypeId} {st h:Int} {kc:Nat} (hA:Lie x X T 11 (fun j=>#[.int .i64 1,.int .i64 0,.int .i64 0,.int .i64 0,.int .i64 0,.int .i64 20,.int .i64 20,.int .i64 5,.int .i64 1,.int .i64 0,Value.int .i64 0][j]?.getD undef)) :
    Lie ((((x.setCell ⟨X,2,none⟩ (.int .i64 st)).setCell ⟨X,3,none⟩ (.int .i64 ((kc:Int) % 24))).setCell ⟨X,4,none⟩ (.int .i64 ((kc:Int) / 24))).setCell ⟨X,5,none⟩ (.int .i64 (1+h))) X T 11 (Ints (Gd.folk st kc h)) :=
  ((((hA.store 2 _).store 3 _).store 4 _).store 5 _).congr fun j hj=>by
    rcases (show j=0∨j=1∨j=2∨j=3∨j=4∨j=5∨j=6∨j=7∨j=8∨j=9∨j=10 by omega) with rfl | rfl | rfl | rfl | rfl | rfl | rfl | rfl | rfl | rfl | rfl <;> rfl

theorem Gd.Laid.ents {w x y:World} {R B gC gE gI:Nat} {s g c:Nat→Int} {E I F:Nat→Nat→Int} (h:Gd.Laid w x R B gC gE gI s g c E I) (hg:x.grownBy y (some gE)) (hE:Lie y gE 45 352 (En.flat F)):Gd.Laid w y R B gC gE gI s g c F I:=by
 have h1:=h.lE
 have h2:=h.at_
 exact { h with hold:=h.hold.ents hg hE,res:=h.res.grown hg (by simp;omega),grown:=gow h.grown hg (fun n e=>by cases e;omega) }

theorem Gd.Laid.gold {w x:World} {R B gC gE gI:Nat} {s g c:Nat→Int} {E I:Nat→Nat→Int} (h:Gd.Laid w x R B gC gE gI s g c E I) (k:Nat) (hk:k<4) (v:Int):Gd.Laid w (x.setCell ⟨B,7+k,none⟩ (.int .i64 v)) R B gC gE gI s (Gd.give g k v) c E I:=by
 have h1:=h.lB
 have h2:=h.at_
 have r:=gs0 x B (7+k) (.int .i64 v)
 exact { h with hold:=h.hold.gold k hk v,res:=h.res.grown r (by simp;omega),grown:=gow h.grown r (fun n e=>by cases e;omega) }

set_option maxRecDepth 100000 in
set_option maxHeartbeats 12800000 in
theorem world_born (sn:Nat) (hsn:sn<4) (at_ gold:Int) (kc:Nat) (hkc:kc<384) (s c:Nat→Int) (hkw:Gr.walkB (c kc)=true) (aL:Option Addr) (nL cL:Nat) (M:Nat→Nat→Int) (R B gC gE gI ob oo L cO:Nat) (O:Nat→Nat) (hL0:0<L) (hL4:L≤384) (hOw:∀i,i<L→O i<384∧Gr.walkB (c (O i))=true) (w x:World)
  (hM:Gd.Some w aL (min nL 20) M) (hX:Gd.Laid w x R B gC gE gI s (fun _=>0) c (fun _ _=>0) (fun _ _=>0)) (hO:Gd.Open x ob oo L O B gE gI) (Q:Ending→World→Prop) (hQ:∀e w',Gd.Tells w s (Gd.give (fun _=>0) sn (gold % 1000)) c (En.put (fun _ _=>0) (at_ % 32).toNat (Gd.folk (sn:Int) kc (at_ % 20))) kc nL M e w'→Q e w') {t0 t1 t6 t7 t8 t9 Aa Ab Ac Ad Ae Af Ag Ah Ai Aj Ak Al Am Ao Ap Aq Ar As Au Av Aw Ax Ay Az AA AB AC AD AE AF AG AH AI AJ AK AL AM AN AO AP AQ AR AS AT AU AV AW AX AY AZ A0 A1 A2 A3 A4 A5 A6 A7 A8 A9 Ba Bb Bc Bd Be Bf Bg Bh Bi Bj Bk Bl Bm Bn Bo Bp Bq Br Bs Bt Bu Bv Bw Bx Bz BA BB BC BD BE BF BG BH BI BJ BK BL BM BN BO BP BQ BR BS BT BU BV BW BX BY BZ B0 B1 B2 B3 B4 B5 B6 B7 B8 B9 Ca Cb Cc Cd Ce Cf Cg Ch Ci Cj Ck Cl Cm Cn Co Cp Cq Cs Ct Cu Cv Cw Cx Cy Cz CA CB CC CD CE CF CG CH CI CJ CK CL CM CN CO CP CQ CR CS CT CU CV CW CX CY CZ C0 C1 C2 C3 C4 C5 C6 C7 C8 C9 Da Db Dc Dd De Df Dg Dh Di Dj Dk Dl Dm Dn Dp Dq Dr Ds Dt Du Dv Dw Dx Dy Dz DA DB DC DD DE:Value} :
  Code.wp Try.prog ((Try.f18.body.map (cdrop 8)).getD .skip) (bodyPost Try.prog Try.f18 Q) ⟨#[t0,t1,.int .i64 (sn:Int),.int .i64 at_,.slice aL nL cL,.int .i64 gold,t6,t7,t8,t9,Aa,Ab,.pointer (some ⟨R,0,none⟩),.pointer (some ⟨B,0,none⟩),.slice (some ⟨ob,oo,none⟩) L cO,Ac,.int .i64 (kc:Int),Ad,Ae,Af,Ag,Ah,Ai,Aj,Ak,Al,Am,Ao,Ap,Aq,Ar,As,Au,Av,Aw,Ax,Ay,Az,AA,AB,AC,AD,AE,AF,AG,AH,AI,AJ,AK,AL,AM,AN,AO,AP,AQ,AR,AS,AT,AU,AV,AW,AX,AY,AZ,A0,A1,A2,A3,A4,A5,A6,A7,A8,A9,Ba,Bb,Bc,Bd,Be,Bf,Bg,Bh,Bi,Bj,Bk,Bl,Bm,Bn,Bo,Bp,Bq,Br,Bs,Bt,Bu,Bv,Bw,Bx,Bz,BA,BB,BC,BD,BE,BF,BG,BH,BI,BJ,BK,BL,BM,BN,BO,BP,BQ,BR,BS,BT,BU,BV,BW,BX,BY,BZ,B0,B1,B2,B3,B4,B5,B6,B7,B8,B9,Ca,Cb,Cc,Cd,Ce,Cf,Cg,Ch,Ci,Cj,Ck,Cl,Cm,Cn,Co,Cp,Cq,Cs,Ct,Cu,Cv,Cw,Cx,Cy,Cz,CA,CB,CC,CD,CE,CF,CG,CH,CI,CJ,CK,CL,CM,CN,CO,CP,CQ,CR,CS,CT,CU,CV,CW,CX,CY,CZ,C0,C1,C2,C3,C4,C5,C6,C7,C8,C9,Da,Db,Dc,Dd,De,Df,Dg,Dh,Di,Dj,Dk,Dl,Dm,Dn,Dp,Dq,Dr,Ds,Dt,Du,Dv,Dw,Dx,Dy,Dz,DA,DB,DC,DD,DE],[]⟩ x:=by
 conv=>arg 2;whnf
 have hX':=hide hX
 have hO':=hide hO
 have hM':=hide hM
 have hOw':=hide hOw
 obtain ⟨h20,e20⟩:∃v,at_ % 20=v:=⟨_,rfl⟩
 obtain ⟨r,er⟩:∃r:Nat,(at_ % 32).toNat=r:=⟨_,rfl⟩
 obtain ⟨gd,egd⟩:∃v,gold % 1000=v:=⟨_,rfl⟩
 have i32:at_ % 32=(r:Int):=by omega
 have r32:(r:Int)<32:=by omega
 have b20:0≤h20:=by omega
 have b20':h20<20:=by omega
 rw [e20,er,egd] at hQ
 have hQ':=hide hQ
 have c20:Hid (∀wq,Calls Try.prog 44 #[.int .i64 at_,.int .i64 20] wq fun e w'=>e=.returned (.int .i64 h20)∧w'=wq):=fun wq=>by
  have h:=within7_any at_ 20 wq (by omega) (by omega)
  rw [e20] at h
  exact h
 have c32:Hid (∀wq,Calls Try.prog 44 #[.int .i64 at_,.int .i64 32] wq fun e w'=>e=.returned (.int .i64 (r:Int))∧w'=wq):=fun wq=>by
  have h:=within7_any at_ 32 wq (by omega) (by omega)
  rw [i32] at h
  exact h
 have cgd:Hid (∀wq,Calls Try.prog 44 #[.int .i64 gold,.int .i64 1000] wq fun e w'=>e=.returned (.int .i64 gd)∧w'=wq):=fun wq=>by
  have h:=within7_any gold 1000 wq (by omega) (by omega)
  rw [egd] at h
  exact h
 have cst:Hid (Calls Try.prog 22 #[.int .i64 1] x fun e w'=>e=.returned (.agg #[.int .i64 1,.int .i64 0,.int .i64 0,.int .i64 0,.int .i64 0,.int .i64 20,.int .i64 20,.int .i64 5,.int .i64 1,.int .i64 0,.int .i64 0])∧x.grownBy w' none):=entRefStats_any 1 x
 have hrr:Hid (r<32):=by
  show r<32
  omega
 have hkc':=hide hkc
 have hq1:(kc:Int).tmod 24=(kc:Int) % 24:=Int.tmod_eq_emod_of_nonneg (by omega)
 have hq2:(kc:Int).tdiv 24=(kc:Int) / 24:=Int.tdiv_eq_ediv_of_nonneg (by omega)
 clear hX hO hM hOw hQ e20 er egd i32 hkc
 go_wp2_with fail
 refine (uh cst).mono ?_
 rintro e w1 ⟨rfl,hg1⟩
 have hX1:=hide ((uh hX').on hg1)
 have hO1:=hide ((uh hO').on hg1)
 clear cst hX' hO' hg1
 go_upto_region 14 with fail
 have hN0:=(Arr.lit (heap_alloc_new w1 (.cells #[.int .i64 1,.int .i64 0,.int .i64 0,.int .i64 0,.int .i64 0,.int .i64 20,.int .i64 20,.int .i64 5,.int .i64 1,.int .i64 0,.int .i64 0] 45))).lie
 have hgN:=World.grownBy_alloc w1 (.cells #[.int .i64 1,.int .i64 0,.int .i64 0,.int .i64 0,.int .i64 0,.int .i64 20,.int .i64 20,.int .i64 5,.int .i64 1,.int .i64 0,.int .i64 0] 45) none
 obtain ⟨X,hXe⟩:∃X,w1.heap.size=X:=⟨_,rfl⟩
 have hXn:Hid (w1.heap.size≤X):=Nat.le_of_eq hXe
 rw [hXe] at hN0 ⊢
 generalize w1.alloc (.cells #[.int .i64 1,.int .i64 0,.int .i64 0,.int .i64 0,.int .i64 0,.int .i64 20,.int .i64 20,.int .i64 5,.int .i64 1,.int .i64 0,.int .i64 0] 45)=w2 at hN0 hgN ⊢
 have hN:=hide hN0
 have hg2:=hide hgN
 have y6:w2.cell? ⟨X,6,none⟩=some (.int .i64 20):=(uh hN).cell (by show (6:Nat)<11;omega)
 have y2:w2.cell? ⟨X,2,none⟩=some (.int .i64 0):=(uh hN).cell (by show (2:Nat)<11;omega)
 have y3:w2.cell? ⟨X,3,none⟩=some (.int .i64 0):=(uh hN).cell (by show (3:Nat)<11;omega)
 have y4:w2.cell? ⟨X,4,none⟩=some (.int .i64 0):=(uh hN).cell (by show (4:Nat)<11;omega)
 have y5:w2.cell? ⟨X,5,none⟩=some (.int .i64 20):=(uh hN).cell (by show (5:Nat)<11;omega)
 have fX:=(uh hN).free
 have hk3:(kc:Int)<384:=by
  have:=uh hkc'
  omega
 clear hXe hN0 hgN
 go_wp2_with fail
 refine (uh c20 _).mono ?_
 rintro e wy ⟨rfl,hy⟩
 subst wy
 go_upto_region 15 with fail
 have hN3:=hide (folk_made (st:=(sn:Int)) (h:=h20) (kc:=kc) (uh hN))
 have hg3:Hid (w1.grownBy ((((w2.setCell ⟨X,2,none⟩ (.int .i64 (sn:Int))).setCell ⟨X,3,none⟩ (.int .i64 ((kc:Int) % 24))).setCell ⟨X,4,none⟩ (.int .i64 ((kc:Int) / 24))).setCell ⟨X,5,none⟩ (.int .i64 (1+h20))) none):=gow (uh hg2) (gss (g:=X) [.int .i64 (sn:Int),.int .i64 ((kc:Int) % 24),.int .i64 ((kc:Int) / 24),.int .i64 (1+h20)] 2 w2 (World.grownBy.refl _ _)) (fun n e=>by cases e;exact uh hXn)
 generalize (((w2.setCell ⟨X,2,none⟩ (.int .i64 (sn:Int))).setCell ⟨X,3,none⟩ (.int .i64 ((kc:Int) % 24))).setCell ⟨X,4,none⟩ (.int .i64 ((kc:Int) / 24))).setCell ⟨X,5,none⟩ (.int .i64 (1+h20))=w3 at hN3 hg3 ⊢
 have hX3:=hide ((uh hX1).on (uh hg3))
 have hO3:=hide ((uh hO1).on (uh hg3))
 have hne:X≠gE:=by
  have h1:=(uh hX1).hold.lists.ents.lt
  have h2:=uh hXn
  omega
 have hne2:gE≠X:=hne.symm
 have hb1:B≠gE:=(uh hX1).hold.bE
 have hb2:gE≠B:=hb1.symm
 clear y2 y3 y4 y5 y6 fX hX1 hO1 hN hg2 hg3 hXn hq1 hq2 c20 hk3
 obtain ⟨z0,z1,z2,z3,z4,z5,z6,z7,z8,z9,z10⟩:=folk_cells (uh hN3)
 have b5:=(uh hX3).hold.box.eleven.2.2.2.2.2.1
 have fE:=(uh hX3).hold.lists.ents.free
 have hrow:Hid (∀j,j<11→w3.cell? ⟨gE,r*11+j,none⟩=some (.int .i64 0)):=fun j hj=>(uh hX3).hold.lists.ents.cell (by have:=uh hrr;omega)
 have r0:=uh hrow 0 (by omega)
 have r1:=uh hrow 1 (by omega)
 have r2:=uh hrow 2 (by omega)
 have r3:=uh hrow 3 (by omega)
 have r4:=uh hrow 4 (by omega)
 have r5:=uh hrow 5 (by omega)
 have r6:=uh hrow 6 (by omega)
 have r7:=uh hrow 7 (by omega)
 have r8:=uh hrow 8 (by omega)
 have r9:=uh hrow 9 (by omega)
 have r10:=uh hrow 10 (by omega)
 rw [Nat.add_zero] at r0
 clear hrow
 go_cut [] from 21 (fun wx=>Hid (Lie wx gE 45 352 (En.flat (En.put (fun _ _=>0) r (Gd.folk (sn:Int) kc h20))))∧Hid (w3.grownBy wx (some gE)))
 case first =>
  have hst:Hid (∀y:World,Own y gE 32 (fun _ _=>0)→Lie (y.setCells gE (r*11) (En.cells (Gd.folk (sn:Int) kc h20)).toList) gE 45 352 (En.flat (En.put (fun _ _=>0) r (Gd.folk (sn:Int) kc h20)))):=fun y hy=>(hy.store r (Gd.folk (sn:Int) kc h20)).lie (by omega)
  have hstg:Hid (∀y:World,w3.grownBy y none→w3.grownBy (y.setCells gE (r*11) (En.cells (Gd.folk (sn:Int) kc h20)).toList) (some gE)):=fun y hy=>gss _ _ y (grown_some hy)
  go_region_held3 (fun x=>x.cell? ⟨B,5,none⟩=some (.slice (some ⟨gE,0,none⟩) 32 32)∧x.cell? ⟨X,0,none⟩=some (.int .i64 1)∧x.cell? ⟨X,1,none⟩=some (.int .i64 0)∧x.cell? ⟨X,2,none⟩=some (.int .i64 (sn:Int))∧x.cell? ⟨X,3,none⟩=some (.int .i64 ((kc:Int) % 24))∧x.cell? ⟨X,4,none⟩=some (.int .i64 ((kc:Int) / 24))∧x.cell? ⟨X,5,none⟩=some (.int .i64 (1+h20))∧x.cell? ⟨X,6,none⟩=some (.int .i64 20)∧x.cell? ⟨X,7,none⟩=some (.int .i64 5)∧x.cell? ⟨X,8,none⟩=some (.int .i64 1)∧x.cell? ⟨X,9,none⟩=some (.int .i64 0)∧x.cell? ⟨X,10,none⟩=some (.int .i64 0)) (go_keep) (first | (go_at_call 44;refine (uh c32 _).mono ?_;rintro e wy ⟨rfl,hy⟩;subst wy))
  all_goals
   go_wp2_with fail
   go_meet
   first
    | exact ⟨(uh hst w3 (uh hX3).hold.lists.own).on (gd1 (World.grownBy.refl _ _)),gd1 (uh hstg w3 (World.grownBy.refl _ _))⟩
    | exact ⟨uh hst _ ((uh hX3).on (gd1 (World.grownBy.refl _ _))).hold.lists.own,uh hstg _ (gd1 (World.grownBy.refl _ _))⟩
 case rest =>
  obtain ⟨hEn,hgn⟩:=hcut
  have hX4:=hide ((uh hX3).ents (uh hgn) (uh hEn))
  have hO4:=hide ((uh hO3).grown (uh hgn) (by simpa using (uh hO3).nE.symm))
  clear hEn hgn hX3 hO3 hN3 hne hne2 hb1 hb2 c32 b5 fE r0 r1 r2 r3 r4 r5 r6 r7 r8 r9 r10 z0 z1 z2 z3 z4 z5 z6 z7 z8 z9 z10 r32 b20 b20'
  go_upto_region 16 with fail
  rename_i hKK
  have hK0:=hide hKK
  clear hKK
  have fB:=(uh hX4).hold.box.free
  have q7:wc.cell? ⟨B,7+sn,none⟩=some (.int .i64 0):=by rw [(uh hX4).hold.box.cell (show 7+sn<11 by omega),Gd.box_gold _ _ _ _ _ _ _ _ _ hsn]
  have hs4:(sn:Int)<4:=by omega
  have hX5:=hide ((uh hX4).gold sn hsn gd)
  have hO5:=hide ((uh hO4).grown (gs0 wc B (7+sn) (.int .i64 gd)) (by simpa using (uh hO4).nB.symm))
  go_wp2_with fail
  refine (uh cgd _).mono ?_
  rintro e wy ⟨rfl,hy⟩
  subst wy
  go_wp2_with fail
  exact uh hK0 _ _ (world_items (sn:Int) (by omega) (by omega) kc (uh hkc') s _ c _ hkw aL nL cL M R B gC gE gI ob oo L cO O hL0 hL4 (uh hOw') w _ (uh hM') (uh hX5) (uh hO5) Q (uh hQ'))


open Go.RowKit

theorem Gr.findFrom_pos (c:Nat→Int) (v:Int):∀(n m:Nat),0≤Gr.findFrom c v n m→∃k:Nat,m≤k∧k<m+n∧Gr.findFrom c v n m=(k:Int)∧c k=v
 | 0,m,h=>by simp [Gr.findFrom] at h
 | n+1,m,h=>by
  unfold Gr.findFrom at h ⊢
  by_cases e:c m=v
  ·rw [if_pos e]
   exact ⟨m,Nat.le_refl _,by omega,rfl,e⟩
  ·rw [if_neg e] at h ⊢
   obtain ⟨k,h1,h2,h3,h4⟩:=Gr.findFrom_pos c v n (m+1) h
   exact ⟨k,by omega,by omega,h3,h4⟩

theorem Gr.find_pos {c:Nat→Int} {v:Int} (h:0≤Gr.find 384 c v):∃k:Nat,k<384∧Gr.find 384 c v=(k:Int)∧c k=v:=by
 obtain ⟨k,_,h2,h3,h4⟩:=Gr.findFrom_pos c v _ _ h
 exact ⟨k,by omega,h3,h4⟩

set_option maxRecDepth 100000 in
set_option maxHeartbeats 12800000 in
theorem world_seat (seat at_ gold:Int) (s c:Nat→Int) (h5:∀i,0≤c i∧c i≤5) (aL:Option Addr) (nL cL:Nat) (M:Nat→Nat→Int) (R B gC gE gI ob oo L cO:Nat) (O:Nat→Nat) (hL0:0<L) (hL4:L≤384) (hOw:∀i,i<L→O i<384∧Gr.walkB (c (O i))=true) (w x:World)
  (hM:Gd.Some w aL (min nL 20) M) (hX:Gd.Laid w x R B gC gE gI s (fun _=>0) c (fun _ _=>0) (fun _ _=>0)) (hO:Gd.Open x ob oo L O B gE gI) (Q:Ending→World→Prop) (hQ:∀kc:Nat,kc<384→Gr.walkB (c kc)=true→(at_.tmod 3=0→0≤Gr.find 384 c 5→Gr.find 384 c 5=(kc:Int))→∀e w',Gd.Tells w s (Gd.give (fun _=>0) (seat % 4).toNat (gold % 1000)) c (En.put (fun _ _=>0) (at_ % 32).toNat (Gd.folk (seat % 4) kc (at_ % 20))) kc nL M e w'→Q e w') {t0 t1 t6 t7 t8 t9 Aa Ab Ac Ad Ae Af Ag Ah Ai Aj Ak Al Am Ao Ap Aq Ar As Au Av Aw Ax Ay Az AA AB AC AD AE AF AG AH AI AJ AK AL AM AN AO AP AQ AR AS AT AU AV AW AX AY AZ A0 A1 A2 A3 A4 A5 A6 A7 A8 A9 Ba Bb Bc Bd Be Bf Bg Bh Bi Bj Bk Bl Bm Bn Bo Bp Bq Br Bs Bt Bu Bv Bw Bx Bz BA BB BC BD BE BF BG BH BI BJ BK BL BM BN BO BP BQ BR BS BT BU BV BW BX BY BZ B0 B1 B2 B3 B4 B5 B6 B7 B8 B9 Ca Cb Cc Cd Ce Cf Cg Ch Ci Cj Ck Cl Cm Cn Co Cp Cq Cs Ct Cu Cv Cw Cx Cy Cz CA CB CC CD CE CF CG CH CI CJ CK CL CM CN CO CP CQ CR CS CT CU CV CW CX CY CZ C0 C1 C2 C3 C4 C5 C6 C7 C8 C9 Da Db Dc Dd De Df Dg Dh Di Dj Dk Dl Dm Dn Dp Dq Dr Ds Dt Du Dv Dw Dx Dy Dz DA DB DC DD DE DF:Value} :
  Code.wp Try.prog ((Try.f18.body.map (cdrop 5)).getD .skip) (bodyPost Try.prog Try.f18 Q) ⟨#[t0,t1,.int .i64 seat,.int .i64 at_,.slice aL nL cL,.int .i64 gold,t6,t7,t8,t9,Aa,Ab,.pointer (some ⟨R,0,none⟩),.pointer (some ⟨B,0,none⟩),.slice (some ⟨ob,oo,none⟩) L cO,Ac,Ad,Ae,Af,Ag,Ah,Ai,Aj,Ak,Al,Am,Ao,Ap,Aq,Ar,As,Au,Av,Aw,Ax,Ay,Az,AA,AB,AC,AD,AE,AF,AG,AH,AI,AJ,AK,AL,AM,AN,AO,AP,AQ,AR,AS,AT,AU,AV,AW,AX,AY,AZ,A0,A1,A2,A3,A4,A5,A6,A7,A8,A9,Ba,Bb,Bc,Bd,Be,Bf,Bg,Bh,Bi,Bj,Bk,Bl,Bm,Bn,Bo,Bp,Bq,Br,Bs,Bt,Bu,Bv,Bw,Bx,Bz,BA,BB,BC,BD,BE,BF,BG,BH,BI,BJ,BK,BL,BM,BN,BO,BP,BQ,BR,BS,BT,BU,BV,BW,BX,BY,BZ,B0,B1,B2,B3,B4,B5,B6,B7,B8,B9,Ca,Cb,Cc,Cd,Ce,Cf,Cg,Ch,Ci,Cj,Ck,Cl,Cm,Cn,Co,Cp,Cq,Cs,Ct,Cu,Cv,Cw,Cx,Cy,Cz,CA,CB,CC,CD,CE,CF,CG,CH,CI,CJ,CK,CL,CM,CN,CO,CP,CQ,CR,CS,CT,CU,CV,CW,CX,CY,CZ,C0,C1,C2,C3,C4,C5,C6,C7,C8,C9,Da,Db,Dc,Dd,De,Df,Dg,Dh,Di,Dj,Dk,Dl,Dm,Dn,Dp,Dq,Dr,Ds,Dt,Du,Dv,Dw,Dx,Dy,Dz,DA,DB,DC,DD,DE,DF],[]⟩ x:=by
 conv=>arg 2;whnf
 obtain ⟨sn,hsn⟩:∃sn:Nat,seat % 4=(sn:Int):=⟨(seat % 4).toNat,by omega⟩
 have hsn4:sn<4:=by omega
 rw [hsn,Int.toNat_natCast] at hQ
 have cS:Hid (∀wq,Calls Try.prog 44 #[.int .i64 seat,.int .i64 4] wq fun e w'=>e=.returned (.int .i64 (sn:Int))∧w'=wq):=fun wq=>by
  have h:=within7_any seat 4 wq (by omega) (by omega)
  rw [hsn] at h
  exact h
 obtain ⟨J,hJ⟩:∃J:Nat,at_ % (L:Int)=(J:Int):=⟨(at_ % (L:Int)).toNat,(Int.toNat_of_nonneg (Int.emod_nonneg _ (by omega))).symm⟩
 have hJL:J<L:=by
  have:=Int.emod_lt_of_pos at_ (b:=(L:Int)) (by omega)
  omega
 have cJ:Hid (∀wq,Calls Try.prog 44 #[.int .i64 at_,.int .i64 (L:Int)] wq fun e w'=>e=.returned (.int .i64 (J:Int))∧w'=wq):=fun wq=>by
  have h:=within7_any at_ (L:Int) wq (by omega) (by omega)
  rw [hJ] at h
  exact h
 have qJ:=hO.cell J hJL
 have hqw0:=hOw J hJL
 obtain ⟨q,hq⟩:∃q,O J=q:=⟨_,rfl⟩
 rw [hq] at qJ hqw0
 have hqw:=hide hqw0
 have hJi:(J:Int)<(L:Int):=by omega
 have b4:=hX.hold.box.eleven.2.2.2.2.1
 have cF:=hide (refFind_any x.heap.size (some ⟨gC,0,none⟩) 384 384 c 5 x hX.hold.lists.vec (fun i=>⟨(h5 i).1,by have:=(h5 i).2;omega⟩))
 have hfp:=@Gr.find_pos c 5
 obtain ⟨f,hf⟩:∃f,Gr.find 384 c 5=f:=⟨_,rfl⟩
 rw [hf] at cF hQ hfp
 have hX':=hide hX
 have hO':=hide hO
 have hM':=hide hM
 have hOw':=hide hOw
 have hQ':=hide hQ
 have hfp':=hide hfp
 clear hX hO hM hOw hQ hq hqw0 hJ hf hsn hfp hJL
 go_wp2_with fail
 refine (uh cS _).mono ?_
 rintro e wy ⟨rfl,hy⟩
 subst wy
 go_wp2_with fail
 refine (uh cJ _).mono ?_
 rintro e wy ⟨rfl,hy⟩
 subst wy
 clear cS cJ
 go_upto_region 11 with fail
 rename_i K1 h1 K2 h2
 have hK0:=hide h1
 clear h1
 by_cases h3:at_.tmod 3=0
 ·go_wp2_with fail
  refine (uh cF).mono ?_
  rintro e wy ⟨rfl,hy⟩
  subst wy
  by_cases hpos:0≤f
  ·obtain ⟨kc,hk,rfl,hc⟩:=uh hfp' hpos
   have hkw:Hid (Gr.walkB (c kc)=true):=by
    show Gr.walkB (c kc)=true
    rw [hc]
    rfl
   have hk':=hide hk
   clear hfp' hc hk
   go_wp2_with fail
   refine (uh cF).mono ?_
   rintro e wy ⟨rfl,hy⟩
   subst wy
   go_wp2_with fail
   exact uh hK0 _ _ (world_born sn hsn4 at_ gold kc (uh hk') s c (uh hkw) aL nL cL M R B gC gE gI ob oo L cO O hL0 hL4 (uh hOw') w _ (uh hM') (uh hX') (uh hO') Q (uh hQ' kc (uh hk') (uh hkw) (fun _ _=>rfl)))
  ·have hneg:¬0≤f:=hpos
   clear hfp'
   go_wp2_with fail
   exact uh hK0 _ _ (world_born sn hsn4 at_ gold q (uh hqw).1 s c (uh hqw).2 aL nL cL M R B gC gE gI ob oo L cO O hL0 hL4 (uh hOw') w _ (uh hM') (uh hX') (uh hO') Q (uh hQ' q (uh hqw).1 (uh hqw).2 (fun _ h=>absurd h (by omega))))
 ·have h3':(at_.tmod 3 == 0)=false:=by simp [h3]
  have h3h:=hide h3
  clear h3
  go_wp2_with fail
  exact uh hK0 _ _ (world_born sn hsn4 at_ gold q (uh hqw).1 s c (uh hqw).2 aL nL cL M R B gC gE gI ob oo L cO O hL0 hL4 (uh hOw') w x (uh hM') (uh hX') (uh hO') Q (uh hQ' q (uh hqw).1 (uh hqw).2 (fun h _=>absurd h (uh h3h))))


open Go.RowKit

theorem Gd.those_at {p:Nat→Bool} {n i:Nat} (hi:i<(Gn.those p n).length):∃a,(Gn.those p n)[i]?=some a∧a<n∧p a=true:=by
 refine ⟨(Gn.those p n)[i],List.getElem?_eq_getElem hi,?_⟩
 have h:=List.getElem_mem hi
 unfold Gn.those at h
 rw [List.mem_filter,List.mem_range] at h
 exact h

theorem Gd.those_pos {p:Nat→Bool} {n i:Nat} (hi:i<n) (h:p i=true):0<(Gn.those p n).length:=by
 refine List.length_pos_of_mem (a:=i) ?_
 unfold Gn.those
 rw [List.mem_filter,List.mem_range]
 exact ⟨hi,h⟩

theorem Gd.own_open {w:World} {base:Nat} {v:Value} {l:List Nat} (h:Lst w base v l) (hp:0<l.length) :
  ∃g cap,v=.slice (some ⟨g,0,none⟩) l.length cap∧base≤g∧g<w.heap.size∧∀i,i<l.length→w.cell? ⟨g,0+i,none⟩=some (.int .i64 (((l[i]?.getD 0:Nat)):Int)):=by
 have h':w.ownsRow base 3 1 v l.length ((natInts l).map (Value.int .i64)):=h
 rcases h'.2 with ⟨_,hl⟩ | ⟨g,cap,cur,hv,hb,hg,_,_,_,_⟩
 ·omega
 ·subst hv
  refine ⟨g,cap,rfl,hb,lt_of_block hg,fun i hi=>?_⟩
  rw [Nat.zero_add,h'.cellAt i (by omega),List.getElem?_map]
  unfold natInts
  rw [List.getElem?_map,List.getElem?_eq_getElem hi]
  rfl

set_option maxRecDepth 100000 in
set_option maxHeartbeats 12800000 in
theorem world_open (seat at_ gold:Int) (s c:Nat→Int) (h5:∀i,0≤c i∧c i≤5) (hsome:∃i,i<384∧c i≠0) (aL:Option Addr) (nL cL:Nat) (M:Nat→Nat→Int) (R B gC gE gI:Nat) (w x:World)
  (hM:Gd.Some w aL (min nL 20) M) (hX:Gd.Laid w x R B gC gE gI s (fun _=>0) c (fun _ _=>0) (fun _ _=>0)) (Q:Ending→World→Prop) (hQ:∀kc:Nat,kc<384→Gr.walkB (c kc)=true→(at_.tmod 3=0→0≤Gr.find 384 c 5→Gr.find 384 c 5=(kc:Int))→∀e w',Gd.Tells w s (Gd.give (fun _=>0) (seat % 4).toNat (gold % 1000)) c (En.put (fun _ _=>0) (at_ % 32).toNat (Gd.folk (seat % 4) kc (at_ % 20))) kc nL M e w'→Q e w') (t0 t1 t6 t7 t8 t9 Aa Ab Ac Ad Ae Af Ag Ah Ai Aj Ak Al Am Ao Ap Aq Ar As Au Av Aw Ax Ay Az AA AB AC AD AE AF AG AH AI AJ AK AL AM AN AO AP AQ AR AS AT AU AV AW AX AY AZ A0 A1 A2 A3 A4 A5 A6 A7 A8 A9 Ba Bb Bc Bd Be Bf Bg Bh Bi Bj Bk Bl Bm Bn Bo Bp Bq Br Bs Bt Bu Bv Bw Bx Bz BA BB BC BD BE BF BG BH BI BJ BK BL BM BN BO BP BQ BR BS BT BU BV BW BX BY BZ B0 B1 B2 B3 B4 B5 B6 B7 B8 B9 Ca Cb Cc Cd Ce Cf Cg Ch Ci Cj Ck Cl Cm Cn Co Cp Cq Cs Ct Cu Cv Cw Cx Cy Cz CA CB CC CD CE CF CG CH CI CJ CK CL CM CN CO CP CQ CR CS CT CU CV CW CX CY CZ C0 C1 C2 C3 C4 C5 C6 C7 C8 C9 Da Db Dc Dd De Df Dg Dh Di Dj Dk Dl Dm Dn Dp Dq Dr Ds Dt Du Dv Dw Dx Dy Dz DA DB DC DD DE DF DG:Value) :
  Code.wp Try.prog ((Try.f18.body.map (cdrop 3)).getD .skip) (bodyPost Try.prog Try.f18 Q) ⟨#[t0,t1,.int .i64 seat,.int .i64 at_,.slice aL nL cL,.int .i64 gold,t6,t7,t8,t9,Aa,Ab,.pointer (some ⟨R,0,none⟩),.pointer (some ⟨B,0,none⟩),Ac,Ad,Ae,Af,Ag,Ah,Ai,Aj,Ak,Al,Am,Ao,Ap,Aq,Ar,As,Au,Av,Aw,Ax,Ay,Az,AA,AB,AC,AD,AE,AF,AG,AH,AI,AJ,AK,AL,AM,AN,AO,AP,AQ,AR,AS,AT,AU,AV,AW,AX,AY,AZ,A0,A1,A2,A3,A4,A5,A6,A7,A8,A9,Ba,Bb,Bc,Bd,Be,Bf,Bg,Bh,Bi,Bj,Bk,Bl,Bm,Bn,Bo,Bp,Bq,Br,Bs,Bt,Bu,Bv,Bw,Bx,Bz,BA,BB,BC,BD,BE,BF,BG,BH,BI,BJ,BK,BL,BM,BN,BO,BP,BQ,BR,BS,BT,BU,BV,BW,BX,BY,BZ,B0,B1,B2,B3,B4,B5,B6,B7,B8,B9,Ca,Cb,Cc,Cd,Ce,Cf,Cg,Ch,Ci,Cj,Ck,Cl,Cm,Cn,Co,Cp,Cq,Cs,Ct,Cu,Cv,Cw,Cx,Cy,Cz,CA,CB,CC,CD,CE,CF,CG,CH,CI,CJ,CK,CL,CM,CN,CO,CP,CQ,CR,CS,CT,CU,CV,CW,CX,CY,CZ,C0,C1,C2,C3,C4,C5,C6,C7,C8,C9,Da,Db,Dc,Dd,De,Df,Dg,Dh,Di,Dj,Dk,Dl,Dm,Dn,Dp,Dq,Dr,Ds,Dt,Du,Dv,Dw,Dx,Dy,Dz,DA,DB,DC,DD,DE,DF,DG],[]⟩ x:=by
 conv=>arg 2;whnf
 obtain ⟨i0,hi,hz0,hz1,hz2⟩:=info_parts info_int
 have hX':=hide hX
 have hM':=hide hM
 have hQ':=hide hQ
 have h5':=hide h5
 have hsome':=hide hsome
 clear hX hM hQ h5 hsome
 go_wp2_with fail
 go_loopw [14,15] (fun v i wr=>∃k:Nat,k≤384∧i=.int .i64 (k:Int)∧Hid (Lst wr x.heap.size v (Gn.those (fun i=>Gr.walkB (c i)) k))∧Hid (x.grownBy wr none)) (fun _ i _=>400 - (intOf i).toNat)
 case atStart=>exact ⟨0,by omega,rfl,World.ownsRow_nil _ _ _ _,World.grownBy.refl _ _⟩
 case round =>
  obtain ⟨k,hk,rfl,hown1,hg1⟩:=hrel
  have hsz:=(uh hg1).size
  have hln:=Gn.those_len (fun i=>Gr.walkB (c i)) k
  have hXr:=hide ((uh hX').on (uh hg1))
  by_cases hlt:k<384
  ·have q1:wr.cell? ⟨gC,k,none⟩=some (.int .u8 (c k)):=(uh hXr).hold.lists.cells.cell hlt
   have b4:=(uh hXr).hold.box.eleven.2.2.2.2.1
   have qb:0≤c k∧c k≤5:=uh h5' k
   obtain ⟨qb1,qb2⟩:=qb
   have cK:=hide (fun wq=>refWalk_any (c k) wq)
   have hlt':(k:Int)<384:=by omega
   have HL:=hide hlt
   clear hlt hk hX' hXr
   by_cases hq:Gr.walkB (c k)=true
   ·have hyes:=hide (Gn.those_yes (p:=fun i=>Gr.walkB (c i)) hq)
    rw [hq] at cK
    obtain ⟨l,hl⟩:∃l,l=Gn.those (fun i=>Gr.walkB (c i)) k:=⟨_,rfl⟩
    rw [←hl] at hown1 hln hyes
    clear hl hq
    go_wp2_with fail
    refine (uh cK _).mono ?_
    rintro e wy ⟨rfl,hy⟩
    subst hy
    go_wp2_with (at_builtin;refine wpList_append_own _ rfl _ _ 22 rfl x.heap.size 3 i0 (.int .i64 0) 1 8 Try.underlying22 hi hz0 hz1 hz2 rfl (by decide) _ _ _ rfl ((uh hown1).alloc _) ⟨wy.heap.size,0,none⟩ 1 1 [.int .i64 (k:Int)] rfl rfl ?_ ?_ ?_ ?_ ?_ ?_)
    ·exact one_at _ _ _ _ rfl
    ·intro u hu;simp at hu;subst hu;rfl
    ·unfold maxLen;omega
    ·omega
    ·simp;omega
    intro v' w1 hown' hgrow _
    rw [natInts_more] at hown'
    have hown2:Hid (Lst w1 x.heap.size v' (Gn.those (fun i=>Gr.walkB (c i)) (k+1))):=by
     rw [uh hyes]
     show w1.ownsRow _ _ _ _ _ _
     rw [List.length_append]
     exact hown'
    have hg2:=hide (gow (gal (uh hg1) _) hgrow (fun n e=>((uh hown1).lt n e).1))
    clear hown' hgrow hown1 hg1
    go_wp2
    go_roundw
    case rel=>exact ⟨k+1,by have:=uh HL;omega,by go_num,hown2,hg2⟩
    case measure=>simp [intOf];omega
   ·rw [Bool.not_eq_true] at hq
    have hno:=hide (Gn.those_no (p:=fun i=>Gr.walkB (c i)) hq)
    rw [hq] at cK
    clear hq
    go_wp2_with fail
    refine (uh cK _).mono ?_
    rintro e wy ⟨rfl,hy⟩
    subst hy
    go_wp2
    go_roundw
    case rel=>exact ⟨k+1,by have:=uh HL;omega,by go_num,by show Lst _ _ _ _;rw [uh hno];exact uh hown1,hg1⟩
    case measure=>simp [intOf];omega
  ·have hge:¬(k:Int)<384:=by omega
   obtain rfl:k=384:=by omega
   obtain ⟨xw,hxw,hxc⟩:=uh hsome'
   have hnz:∀j,Gr.walkB (c j)=true↔c j≠0:=fun j=>Gn.walk_nz (uh h5' j)
   have hpos:=Gd.those_pos (p:=fun i=>Gr.walkB (c i)) hxw ((hnz xw).2 hxc)
   obtain ⟨ob,ocap,hov,hlo,hhi,hcs⟩:=Gd.own_open (uh hown1) hpos
   subst hov
   have hOp:Hid (Gd.Open wr ob 0 (Gn.those (fun i=>Gr.walkB (c i)) 384).length (fun i=>(Gn.those (fun i=>Gr.walkB (c i)) 384)[i]?.getD 0) B gE gI):=by
    have l1:=(uh hX').hold.box.lt
    have l2:=(uh hX').hold.lists.ents.lt
    have l3:=(uh hX').hold.lists.items.lt
    exact ⟨hcs,hhi,by omega,by omega,by omega⟩
   have hOw:Hid (∀i,i<(Gn.those (fun i=>Gr.walkB (c i)) 384).length→(Gn.those (fun i=>Gr.walkB (c i)) 384)[i]?.getD 0<384∧Gr.walkB (c ((Gn.those (fun i=>Gr.walkB (c i)) 384)[i]?.getD 0))=true):=fun i hi=>by
    obtain ⟨a,h1,h2,h3⟩:=Gd.those_at hi
    rw [h1]
    exact ⟨h2,h3⟩
   obtain ⟨L,hL⟩:∃L,L=(Gn.those (fun i=>Gr.walkB (c i)) 384).length:=⟨_,rfl⟩
   rw [←hL] at hln hpos hOp hOw ⊢
   rename_i hKK
   have hK0:=hide hKK
   clear hKK hnz hxc hxw hlo hhi hcs hown1 hL hlt hk hsz
   go_wp2_with fail
   exact uh hK0 _ _ (world_seat seat at_ gold s c (uh h5') aL nL cL M R B gC gE gI ob 0 L ocap _ hpos hln (uh hOw) w wr (uh hM') (uh hXr) (uh hOp) Q (uh hQ'))


open Go.RowKit

def Gd.Told (w:World) (seed fl seat at_ gold:Int) (nL:Nat) (M:Nat→Nat→Int) (e:Ending) (w':World):Prop :=
 ∃(c:Nat→Int) (kc:Nat),Nv.Floor c∧kc<384∧Gr.walkB (c kc)=true∧(at_.tmod 3=0→0≤Gr.find 384 c 5→Gr.find 384 c 5=(kc:Int))∧Gd.Tells w (Gd.head seed fl) (Gd.give (fun _=>0) (seat % 4).toNat (gold % 1000)) c (En.put (fun _ _=>0) (at_ % 32).toNat (Gd.folk (seat % 4) kc (at_ % 20))) kc nL M e w'

theorem Gd.Begun.laid {w w0 x:World} {B gC gE gI:Nat} {seed fl:Int} {c:Nat→Int} (h:Gd.Begun w0 x B gC gE gI seed fl c) (hg:w.grownBy w0 none) (hs:w0.heap.size=w.heap.size+1)
  (hr:Lie w0 w.heap.size 29 11 (fun j=>#[.int .i64 0,.int .i64 0,.int .i64 0,.int .i64 0,.slice none 0 0,.slice none 0 0,.slice none 0 0,.int .i64 0,.int .i64 0,.int .i64 0,Value.int .i64 0][j]?.getD undef)):Gd.Laid w x w.heap.size B gC gE gI (Gd.head seed fl) (fun _=>0) c (fun _ _=>0) (fun _ _=>0):=by
 have h1:=h.lB
 have h2:=h.lC
 have h3:=h.lE
 have h4:=h.lI
 exact ⟨h.hold,rfl,by omega,by omega,by omega,by omega,hr.on h.grown,gtr hg h.grown⟩

set_option maxRecDepth 100000 in
set_option maxHeartbeats 12800000 in
theorem world_any (seed floor seat at_ gold:Int) (aL:Option Addr) (nL cL:Nat) (M:Nat→Nat→Int) (w:World) (hM:Gd.Some w aL (min nL 20) M) :
  Calls Try.prog 18 #[.int .i64 seed,.int .i64 floor,.int .i64 seat,.int .i64 at_,.slice aL nL cL,.int .i64 gold] w (Gd.Told w seed (1+floor % 3) seat at_ gold nL M):=by
 have cf:=hide (within7_any floor 3 (w.alloc (.cells #[.int .i64 0,.int .i64 0,.int .i64 0,.int .i64 0,.slice none 0 0,.slice none 0 0,.slice none 0 0,.int .i64 0,.int .i64 0,.int .i64 0,.int .i64 0] 29)) (by omega) (by omega))
 obtain ⟨fl,hfl⟩:∃fl,floor % 3=fl:=⟨_,rfl⟩
 have f0:0≤fl:=by omega
 have f3:fl<3:=by omega
 rw [hfl] at cf ⊢
 have hM':=hide hM
 clear hfl hM
 go_enter Try.func18,Try.ntmps18
 go_wp2_with fail
 refine (uh cf).mono ?_
 rintro e w1 ⟨rfl,hw1⟩
 subst w1
 clear cf
 go_upto_region 2 with fail
 rename_i hKK
 have hK0:=hide hKK
 clear hKK
 have hr:=hide (Arr.lit (heap_alloc_new w (.cells #[.int .i64 0,.int .i64 0,.int .i64 0,.int .i64 0,.slice none 0 0,.slice none 0 0,.slice none 0 0,.int .i64 0,.int .i64 0,.int .i64 0,.int .i64 0] 29))).lie
 have hg0:=hide (World.grownBy_alloc w (.cells #[.int .i64 0,.int .i64 0,.int .i64 0,.int .i64 0,.slice none 0 0,.slice none 0 0,.slice none 0 0,.int .i64 0,.int .i64 0,.int .i64 0,.int .i64 0] 29) none)
 have hs:Hid ((w.alloc (.cells #[.int .i64 0,.int .i64 0,.int .i64 0,.int .i64 0,.slice none 0 0,.slice none 0 0,.slice none 0 0,.int .i64 0,.int .i64 0,.int .i64 0,.int .i64 0] 29)).heap.size=w.heap.size+1):=by
  show _=_
  simp
 generalize w.alloc (.cells #[.int .i64 0,.int .i64 0,.int .i64 0,.int .i64 0,.slice none 0 0,.slice none 0 0,.slice none 0 0,.int .i64 0,.int .i64 0,.int .i64 0,.int .i64 0] 29)=w0 at hr hg0 hs ⊢
 refine wp_region_any (by kernel_rfl) ?_
 change wpAny _ _ _ _ _ _ _ (World.drew _)
 refine wpAny_take (i:=0) (v:=?_) rfl (by kernel_rfl) (by kernel_rfl) (by kernel_rfl) (fun _ _ _ h=>h) (Or.inl ⟨by rfl,?_⟩) ?_
 rotate_left
 ·intro w
  go_simp
  with_reducible rfl
 refine wpAny_take (i:=1) (v:=?_) rfl (by kernel_rfl) (by kernel_rfl) (by kernel_rfl) (fun _ _ _ h=>h) (Or.inl ⟨by rfl,?_⟩) ?_
 rotate_left
 ·intro w
  go_simp
  with_reducible rfl
 refine wpAny_take (i:=2) (v:=?_) rfl (by kernel_rfl) (by kernel_rfl) (by kernel_rfl) (fun _ _ _ h=>h) (Or.inl ⟨by rfl,?_⟩) ?_
 rotate_left
 ·intro w
  go_simp
  with_reducible rfl
 refine wpAny_take (i:=3) (v:=?_) rfl (by kernel_rfl) (by kernel_rfl) (by kernel_rfl) (fun _ _ _ h=>h) (Or.inl ⟨by rfl,?_⟩) ?_
 rotate_left
 ·intro w
  go_simp
  with_reducible rfl
 refine lots_N seed (1+fl) (by omega) (by omega) w0 w0.drew (gd1 (World.grownBy.refl _ _)) _ (fun _ d _ _ _ h=>by cases d <;> exact h) ?_
 intro c B G gE gI w1 u13 u24 u25 u26 u27 u28 u29 u30 u31 u32 hu hF hBg
 subst hu
 exact uh hK0 _ _ (world_open seat at_ gold (Gd.head seed (1+fl)) c hF.five hF.some aL nL cL M w.heap.size B G gE gI w w1 (uh hM') (hBg.laid (uh hg0) (uh hs) (uh hr)) (Gd.Told w seed (1+fl) seat at_ gold nL M) (fun kc h1 h2 h3 e w' ht=>⟨c,kc,hF,h1,h2,h3,ht⟩) _ _ _ _ _ _ _ _ _ _ _ _ _ _ _ _ _ _ _ _ _ _ _ _ _ _ _ _ _ _ _ _ _ _ _ _ _ _ _ _ _ _ _ _ _ _ _ _ _ _ _ _ _ _ _ _ _ _ _ _ _ _ _ _ _ _ _ _ _ _ _ _ _ _ _ _ _ _ _ _ _ _ _ _ _ _ _ _ _ _ _ _ _ _ _ _ _ _ _ _ _ _ _ _ _ _ _ _ _ _ _ _ _ _ _ _ _ _ _ _ _ _ _ _ _ _ _ _ _ _ _ _ _ _ _ _ _ _ _ _ _ _ _ _ _ _ _ _ _ _ _ _ _ _ _ _ _ _ _ _ _ _ _ _ _ _ _ _ _ _ _ _ _ _ _ _ _ _ _ _ _ _ _ _ _ _ _ _ _ _ _ _ _ _ _ _ _ _ _ _ _ _ _ _ _ _ _ _ _ _ _ _ _ _ _ _ _ _ _ _)


open Go.RowKit

structure Gd.Law (w x:World) (T gC gE gI cC cE cI:Nat) (s g c:Nat→Int) (E I:Nat→Nat→Int):Prop where
 hold:Gd.Hold x T gC gE gI cC cE cI s g c E I
 lT:w.heap.size≤T
 lE:w.heap.size≤gE
 lI:w.heap.size≤gI
 cap:32≤cE
 grown:w.grownBy x none

theorem Gd.Law.on {w x y:World} {T gC gE gI cC cE cI:Nat} {s g c:Nat→Int} {E I:Nat→Nat→Int} (h:Gd.Law w x T gC gE gI cC cE cI s g c E I) (hg:x.grownBy y none):Gd.Law w y T gC gE gI cC cE cI s g c E I :=
 { h with hold:=h.hold.on hg,grown:=gtr h.grown hg }

theorem Gd.law_new {w x x':World} {gC gE gI cC cE cI:Nat} {s g c:Nat→Int} {E I:Nat→Nat→Int} (hgx:w.grownBy x none) (hcap:32≤cE) (l1:x.heap.size≤gC) (l2:x.heap.size≤gE) (l3:x.heap.size≤gI) (n1:gC≠gE) (n2:gC≠gI) (n3:gE≠gI) (hL:Gd.Lists x' gC gE gI c E I) (hg:x.grownBy x' none) :
  Gd.Law w (x'.alloc (.cells (Gd.world s gC gE gI cC cE cI g) 29)) x'.heap.size gC gE gI cC cE cI s g c E I:=by
 have h1:=hL.cells.lt
 have h2:=hL.ents.lt
 have h3:=hL.items.lt
 have h4:=hgx.size
 have h5:=hg.size
 have _:=l1
 exact ⟨⟨(Arr.world (heap_alloc_new x' _)).lie,hL.on (World.grownBy_alloc _ _ _),by omega,by omega,by omega,n1,n2,n3⟩,by omega,by omega,by omega,hcap,gtr hgx (gal hg _)⟩

theorem Gd.Law.eleven {w x:World} {T gC gE gI cC cE cI:Nat} {s g c:Nat→Int} {E I:Nat→Nat→Int} (h:Gd.Law w x T gC gE gI cC cE cI s g c E I):x.cell? ⟨T,0,none⟩=some (.int .i64 (s 0))∧x.cell? ⟨T,1,none⟩=some (.int .i64 (s 1))∧x.cell? ⟨T,2,none⟩=some (.int .i64 (s 2))∧x.cell? ⟨T,3,none⟩=some (.int .i64 (s 3))∧x.cell? ⟨T,4,none⟩=some (.slice (some ⟨gC,0,none⟩) 384 cC)∧x.cell? ⟨T,5,none⟩=some (.slice (some ⟨gE,0,none⟩) 32 cE)∧x.cell? ⟨T,6,none⟩=some (.slice (some ⟨gI,0,none⟩) 40 cI)∧x.cell? ⟨T,7,none⟩=some (.int .i64 (g 0))∧x.cell? ⟨T,8,none⟩=some (.int .i64 (g 1))∧x.cell? ⟨T,9,none⟩=some (.int .i64 (g 2))∧x.cell? ⟨T,10,none⟩=some (.int .i64 (g 3)) :=
 h.hold.box.eleven

end Go.Proofs.Ytapgkgbpekkdjaa
