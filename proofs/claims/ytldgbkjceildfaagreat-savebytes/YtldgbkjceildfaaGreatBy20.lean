import Derived.Test.YtldgbkjceildfaaGreatBy19
import Derived.Test.YtldgbkjceildfaaGreatBy17
namespace Go.Proofs.YtldgbkjceildfaaGreat
open Go.RowKit

def Gd.wornK (I:Nat→Nat→Int) (seat kd:Int):Nat→Bool
 | 0=>false
 | k+1=>Gd.wornK I seat kd k || (decide (I k 1=3∧I k 2=seat) && decide (I k 0=kd))

theorem Gd.worn_iff (I:Nat→Nat→Int) (seat kd:Int):∀k,Gd.wornK I seat kd k=true↔∃j,j<k∧I j 1=3∧I j 2=seat∧I j 0=kd
  | 0=>by simp [Gd.wornK]
  | k + 1 => by
      unfold Gd.wornK
      rw [Bool.or_eq_true,Gd.worn_iff I seat kd k,Bool.and_eq_true,decide_eq_true_eq,decide_eq_true_eq]
      constructor
      · rintro (⟨j,hj,h⟩ | ⟨⟨h1,h2⟩,h3⟩)
        · exact ⟨j,by omega,h⟩
        · exact ⟨k,by omega,h1,h2,h3⟩
      · rintro ⟨j,hj,h1,h2,h3⟩
        by_cases e:j=k
        · rw [e] at h1 h2 h3
          exact .inr ⟨⟨h1,h2⟩,h3⟩
        · exact .inl ⟨j,by omega,h1,h2,h3⟩

theorem Gd.worn_at {c:Nat→Int} {I:Nat→Nat→Int} (h:Gd.Ok c 40 I) (seat b:Int):Gd.wornK I seat (b+2) 40=decide (0≤Gd.find I 40 3 seat b):=by
 apply Bool.eq_iff_iff.2;rw [Gd.worn_iff,decide_eq_true_eq];constructor
 ·rintro ⟨j,hj,h1,h2,h3⟩;rcases Gd.find_cases I 40 3 seat b with ⟨_,hno⟩|⟨k,_,e,_⟩
  ·obtain ⟨_,_,hp⟩:=h.of hj (by omega);exact absurd ⟨h1,h2,by omega⟩ (hno j hj)
  ·omega
 ·intro h0;obtain ⟨k,hk,_,h1,h2,h3⟩:=Gd.find_pos h0;obtain ⟨_,_,hp⟩:=h.of hk (by omega);exact ⟨k,hk,h1,h2,by omega⟩

def Gd.three (b:Bool):Int:=if b=true then 3 else 0
def Gd.two (b:Bool):Int:=if b=true then 2 else 0


open Go.RowKit

set_option maxHeartbeats 6400000 in
theorem refSweep_any (s g c:Nat→Int) (E I:Nat→Nat→Int) (gC gE gI cC cE cI:Nat) (seat:Int) (w:World) (hL:Gd.Lists w gC gE gI c E I) :
  Calls Tryz.prog 104 #[.agg (Gd.world s gC gE gI cC cE cI g),.int .i64 seat] w (Gd.Worlds w s g c E (Gd.sweep I seat)):=by
 obtain ⟨w0,hw0,hbox,hres,hg0,hsz⟩:=Gd.boxes w gC gE gI cC cE cI s g;have ca:=refTwin_any s g c E I gC gE gI cC cE cI w0 (hL.on hg0);obtain ⟨b0,b1,b2,b3,b4,b5,b6,b7,b8,b9,b10⟩:=hbox.eleven;have hbx:=hide hbox;have hrs:=hide hres;have hg0':=hide hg0;have hsz':=hide hsz;have ca':=hide ca;have hfB:=hbox.free;clear hL ca hbox hres hg0 hsz;unfold Gd.world at hw0 ca' ⊢;go_enter Tryz.func104,Tryz.ntmps104;go_upto_region 1 with fail;rw [←hw0];clear hw0;obtain ⟨B,hB⟩:∃B,w.heap.size=B:=⟨_,rfl⟩;rw [hB] at hbx hrs hsz' b0 b1 b2 b3 b4 b5 b6 b7 b8 b9 b10 ⊢;have hB':=hide hB;rw [hB] at hfB;clear hB
 go_cut [] from 6 (fun wx=>∃g1 g2 g3 c1 c2 c3,Hid (Gd.Boxed w wx B g1 g2 g3 c1 c2 c3 s g c E I))
 case first =>
  go_wp2_with fail;refine (uh ca').mono ?_;rintro e w1 ⟨g1,g2,g3,c1,c2,c3,rfl,hcap,l1,l2,l3,n1,n2,n3,hL1,hg1⟩;obtain ⟨y0,y1,y2,y3,y4,y5,y6,y7,y8,y9,y10⟩:=((uh hbx).on hg1).eleven;have fB:=((uh hbx).on hg1).free;have fin:Hid (Gd.Boxed w (w1.setCells B 0 (Gd.world s g1 g2 g3 c1 c2 c3 g).toList) B g1 g2 g3 c1 c2 c3 s g c E I):=by
   have r:=gss (g:=B) (Gd.world s g1 g2 g3 c1 c2 c3 g).toList 0 w1 (World.grownBy.refl _ _);have hB:=uh hB';have hs:=uh hsz';exact ⟨⟨((uh hbx).on hg1).whole s g g1 g2 g3 c1 c2 c3,⟨hL1.cells.grown r (by simp;omega),hL1.ents.grown r (by simp;omega),hL1.items.grown r (by simp;omega)⟩,by omega,by omega,by omega,n1,n2,n3⟩,hB,by omega,by omega,by omega,hcap,((uh hrs).on hg1).grown r (by simp),own_sets (by omega) _ 0 w1 (gtr (uh hg0') hg1)⟩
  unfold Gd.world at fin ⊢;clear hcap l1 l2 l3 n1 n2 n3 hL1 hg1 b0 b1 b2 b3 b4 b5 b6 b7 b8 b9 b10 hfB ca';go_wp2_with fail;go_meet;exact ⟨g1,g2,g3,c1,c2,c3,fin⟩
 case rest =>
  obtain ⟨g1,g2,g3,c1,c2,c3,hX⟩:=hcut;clear b0 b1 b2 b3 b4 b5 b6 b7 b8 b9 b10 hfB ca' hbx hrs hg0' hsz' hB';clear w0;have q6:=(uh hX).hold.box.eleven.2.2.2.2.2.2.1;go_wp2_with fail
  go_loopw [5] (fun i wr=>∃k:Nat,k≤40∧i=.int .i64 (k:Int)∧Hid (Gd.Boxed w wr B g1 g2 g3 c1 c2 c3 s g c E (Gd.sweepTo I seat k))) (fun i _=>200 - (intOf i).toNat)
  case atStart=>exact ⟨0,by omega,rfl,(uh hX).same (fun i _=>if_neg (by omega))⟩
  case round =>
   clear q6 hX;obtain ⟨k,hk,rfl,hB⟩:=hrel;have q6:=(uh hB).hold.box.eleven.2.2.2.2.2.2.1;by_cases hlt:k<40
   ·have hlt':(k:Int)<40:=by omega
    have hrow:=(uh hB).hold.lists.its.row hlt;rw [show Gd.sweepTo I seat k k=I k from if_neg (by omega)] at hrow;obtain ⟨u0,u1,u2,u3⟩:=hrow;have HL:=hide hlt;have fI:=(uh hB).hold.lists.items.free;have lI:=(uh hB).hold.lists.items.lt;have lB:=(uh hB).hold.box.lt;by_cases hc:(I k 1=2∨I k 1=3)∧I k 2=seat
    ·have he:=hide (Gd.sweep_yes hc);obtain ⟨hc1,hc2⟩:=hc;rcases hc1 with hc1|hc1;all_goals
      go_wp2;go_roundw;case rel=>exact ⟨k+1,by have:=uh HL;omega,by go_num,by
       show Gd.Boxed _ _ _ _ _ _ _ _ _ _ _ _ _ _;rw [uh he];exact (uh hB).put k 0 0 0 0⟩
      case measure=>simp [intOf];omega
    ·have he:=hide (Gd.sweep_no hc);by_cases w2:I k 1=2
     ·have hs:¬I k 2=seat:=fun h=>hc ⟨.inl w2,h⟩;have ms:(I k 2 == seat)=false:=by simp [hs]
      clear hc;go_wp2;go_roundw;case rel=>exact ⟨k+1,by have:=uh HL;omega,by go_num,by
       show Gd.Boxed _ _ _ _ _ _ _ _ _ _ _ _ _ _;rw [uh he];exact uh hB⟩
      case measure=>simp [intOf];omega
     ·have m1:(I k 1 == 2)=false:=by simp [w2]
      by_cases w3:I k 1=3
      ·have hs:¬I k 2=seat:=fun h=>hc ⟨.inr w3,h⟩;have ms:(I k 2 == seat)=false:=by simp [hs]
       clear hc;go_wp2;go_roundw;case rel=>exact ⟨k+1,by have:=uh HL;omega,by go_num,by
        show Gd.Boxed _ _ _ _ _ _ _ _ _ _ _ _ _ _;rw [uh he];exact uh hB⟩
       case measure=>simp [intOf];omega
      ·have m2:(I k 1 == 3)=false:=by simp [w3]
       clear hc;go_wp2;go_roundw;case rel=>exact ⟨k+1,by have:=uh HL;omega,by go_num,by
        show Gd.Boxed _ _ _ _ _ _ _ _ _ _ _ _ _ _;rw [uh he];exact uh hB⟩
       case measure=>simp [intOf];omega
   ·have hge:¬(k:Int)<40:=by omega
    have hBf:=(uh hB).same (J:=Gd.sweep I seat) (fun i hi=>by show _=if i<k then _ else _;rw [if_pos (by omega)]);clear hB;have hbx:=hide hBf;obtain ⟨b0,b1,b2,b3,b4,b5,b6,b7,b8,b9,b10⟩:=(uh hbx).hold.box.eleven;have fz:=(uh hbx).res.free;obtain ⟨z0,z1,z2,z3,z4,z5,z6,z7,z8,z9,z10⟩:=Gd.res_cells (uh hbx).res;have hfin:=hide (fun vs=>(uh hbx).worlds vs);go_wp2;refine bodyPost_ret (v:=.agg (Gd.world s g1 g2 g3 c1 c2 c3 g)) (by simp [results,Tryz.results104,go_sem,Gd.world,z0,z1,z2,z3,z4,z5,z6,z7,z8,z9,z10]) rfl ?_;exact uh hfin [_,_,_,_,_,_,_,_,_,_,_]

theorem Gd.three_at (z:Int):Gd.three (decide (0≤z))=if 0≤z then 3 else 0:=by
 unfold Gd.three;by_cases h:0≤z <;> simp [h]

theorem Gd.two_at (z:Int):Gd.two (decide (0≤z))=if 0≤z then 2 else 0:=by
 unfold Gd.two;by_cases h:0≤z <;> simp [h]

set_option maxHeartbeats 6400000 in
theorem refBonus_any (s g c:Nat→Int) (E I:Nat→Nat→Int) (gC gE gI cC cE cI:Nat) (seat:Int) (w:World) (hL:Gd.Lists w gC gE gI c E I) :
  Calls Tryz.prog 99 #[.agg (Gd.world s gC gE gI cC cE cI g),.int .i64 seat] w (Says w (.tuple #[.int .i64 (Gd.three (decide (0≤Gd.find I 40 3 seat 0))),.int .i64 (Gd.two (decide (0≤Gd.find I 40 3 seat 1)))])):=by
 obtain ⟨w0,hw0⟩:∃w0,w0=w.alloc (.cells (Gd.world s gC gE gI cC cE cI g) 30):=⟨_,rfl⟩;have hbox:Lie w0 w.heap.size 30 11 (Gd.box s gC gE gI cC cE cI g):=by rw [hw0];exact (Arr.world (heap_alloc_new w _)).lie
 have hg0:w.grownBy w0 none:=by rw [hw0];exact World.grownBy_alloc _ _ _
 have hL0:=hL.on hg0;obtain ⟨B,hB⟩:∃B,w.heap.size=B:=⟨_,rfl⟩;rw [hB] at hbox;have hg0':=hide hg0;obtain ⟨_,_,_,_,_,_,b6,_⟩:=hbox.eleven;have c1:=refIn7_same gI 40 cI I 3 seat 0 w0 hL0.its;have c2:=refIn7_same gI 40 cI I 3 seat 1 w0 hL0.its;obtain ⟨f,hf⟩:∃f,Gd.find I 40 3 seat 0=f:=⟨_,rfl⟩;obtain ⟨d,hd⟩:∃d,Gd.find I 40 3 seat 1=d:=⟨_,rfl⟩;rw [hf] at c1 ⊢;rw [hd] at c2 ⊢;rw [Gd.three_at,Gd.two_at];have c1':=hide c1;have c2':=hide c2;clear hL hbox hg0 hL0 c1 c2 hf hd;unfold Gd.world at hw0 ⊢;by_cases h1:0≤f
 ·by_cases h2:0≤d
  ·rw [if_pos h1,if_pos h2];go_enter Tryz.func99,Tryz.ntmps99;go_upto_region 1 with fail;rw [←hw0];clear hw0 hB;go_wp2_with fail;refine (uh c1').mono ?_;rintro e wy ⟨rfl,hw⟩;subst wy;go_wp2_with fail;refine (uh c2').mono ?_;rintro e wy ⟨rfl,hw⟩;subst wy;go_wp2;refine bodyPost_ret (v:=.tuple #[.int .i64 3,.int .i64 2]) (by simp [results,Tryz.results99,go_sem]) rfl ?_;exact ⟨rfl,uh hg0'⟩
  ·rw [if_pos h1,if_neg h2];go_enter Tryz.func99,Tryz.ntmps99;go_upto_region 1 with fail;rw [←hw0];clear hw0 hB;go_wp2_with fail;refine (uh c1').mono ?_;rintro e wy ⟨rfl,hw⟩;subst wy;go_wp2_with fail;refine (uh c2').mono ?_;rintro e wy ⟨rfl,hw⟩;subst wy;go_wp2;refine bodyPost_ret (v:=.tuple #[.int .i64 3,.int .i64 0]) (by simp [results,Tryz.results99,go_sem]) rfl ?_;exact ⟨rfl,uh hg0'⟩
 ·by_cases h2:0≤d
  ·rw [if_neg h1,if_pos h2];go_enter Tryz.func99,Tryz.ntmps99;go_upto_region 1 with fail;rw [←hw0];clear hw0 hB;go_wp2_with fail;refine (uh c1').mono ?_;rintro e wy ⟨rfl,hw⟩;subst wy;go_wp2_with fail;refine (uh c2').mono ?_;rintro e wy ⟨rfl,hw⟩;subst wy;go_wp2;refine bodyPost_ret (v:=.tuple #[.int .i64 0,.int .i64 2]) (by simp [results,Tryz.results99,go_sem]) rfl ?_;exact ⟨rfl,uh hg0'⟩
  ·rw [if_neg h1,if_neg h2];go_enter Tryz.func99,Tryz.ntmps99;go_upto_region 1 with fail;rw [←hw0];clear hw0 hB;go_wp2_with fail;refine (uh c1').mono ?_;rintro e wy ⟨rfl,hw⟩;subst wy;go_wp2_with fail;refine (uh c2').mono ?_;rintro e wy ⟨rfl,hw⟩;subst wy;go_wp2;refine bodyPost_ret (v:=.tuple #[.int .i64 0,.int .i64 0]) (by simp [results,Tryz.results99,go_sem]) rfl ?_;exact ⟨rfl,uh hg0'⟩


open Go.RowKit

def Md.Fine (E:Nat→Nat→Int):Prop:=∀k,k<32→E k 0≠0→0≤E k 3∧E k 3<24∧0≤E k 4∧E k 4<16∧0≤E k 6∧E k 6≤20

def Md.who (E:Nat→Nat→Int) (x y:Int) (d:Nat):Int:=En.first (En.atQ E (x+(Fx.way (d:Int)).1) (y+(Fx.way (d:Int)).2)) 32

def Md.foe (E:Nat→Nat→Int) (x y:Int) (d:Nat):Bool:=decide (0≤Md.who E x y d) && !(decide (E (Md.who E x y d).toNat 0=1))

def Md.robotAt (c:Nat→Int) (E I:Nat→Nat→Int) (seat:Int) (k:Nat) (v:Int):Prop :=
 if E k 5≤E k 6 / 3∧0≤Gd.has I 40 seat 1 1 then v=6
 else if Nv.wayFrom (Md.foe E (E k 3) (E k 4)) 4 1≠0 then v=Nv.wayFrom (Md.foe E (E k 3) (E k 4)) 4 1
 else if 0≤Gd.find I 40 1 (E k 3) (E k 4)∧(I (Gd.find I 40 1 (E k 3) (E k 4)).toNat 0=4∨0≤Gd.slot I 40 seat) then v=5
 else if Gr.at 384 c (E k 3) (E k 4)=4 then v=9
 else Nv.IsToward c (fun _=>Gr.find 384 c 4) 1 E 32 (E k 3) (E k 4) v

def Md.IsRobot (c:Nat→Int) (E I:Nat→Nat→Int) (seat v:Int):Prop :=
 if Gd.hero E seat<0 then v=0 else Md.robotAt c E I seat (Gd.hero E seat).toNat v

theorem Md.hero_row {E:Nat→Nat→Int} {seat:Int} (h:¬Gd.hero E seat<0):∃k:Nat,k<32∧Gd.hero E seat=(k:Int)∧E k 0=1∧E k 2=seat:=by
 unfold Gd.hero at h ⊢;rcases En.first_cases (En.heroQ E seat) 32 with ⟨he,_⟩|⟨k,hk,he,hq,_⟩
 ·omega
 ·simp only [En.heroQ,Bool.and_eq_true,decide_eq_true_eq] at hq;exact ⟨k,hk,he,hq.1,hq.2⟩

theorem Md.who_row {E:Nat→Nat→Int} {x y:Int} {d:Nat}:Md.who E x y d=-1∨∃j:Nat,j<32∧Md.who E x y d=(j:Int):=by
 unfold Md.who;rcases En.first_cases (En.atQ E (x+(Fx.way (d:Int)).1) (y+(Fx.way (d:Int)).2)) 32 with ⟨he,_⟩|⟨j,hj,he,_⟩
 ·exact .inl he
 ·exact .inr ⟨j,hj,he⟩

theorem Md.way_small (d:Nat):-1≤(Fx.way (d:Int)).1∧(Fx.way (d:Int)).1≤1∧-1≤(Fx.way (d:Int)).2∧(Fx.way (d:Int)).2≤1:=by
 unfold Fx.way;split
 ·simp
 ·split
  ·simp
  ·split
   ·simp
   ·split <;> simp


open Go.RowKit

theorem Lie.copied (x:World) (e:Nat→Int) (T:TypeId):Lie (x.alloc (.cells (En.cells e) T)) x.heap.size T 11 (Ints e) :=
 Lie.congr (m:=11) (Arr.lit (heap_alloc_new x (.cells (En.cells e) T))).lie fun j hj=>by
  rcases (show j=0∨j=1∨j=2∨j=3∨j=4∨j=5∨j=6∨j=7∨j=8∨j=9∨j=10 by omega) with rfl|rfl|rfl|rfl|rfl|rfl|rfl|rfl|rfl|rfl|rfl <;> rfl

structure Gd.Shown (w x:World) (B gC gE gI cC cE cI:Nat) (s g c:Nat→Int) (E I:Nat→Nat→Int):Prop where
 box:Lie x B 30 11 (Gd.box s gC gE gI cC cE cI g)
 lists:Gd.Lists x gC gE gI c E I
 grown:w.grownBy x none

theorem Gd.Shown.on {w x y:World} {B gC gE gI cC cE cI:Nat} {s g c:Nat→Int} {E I:Nat→Nat→Int} (h:Gd.Shown w x B gC gE gI cC cE cI s g c E I) (hg:x.grownBy y none):Gd.Shown w y B gC gE gI cC cE cI s g c E I :=
 ⟨h.box.on hg,h.lists.on hg,gtr h.grown hg⟩

def Md.Says (w:World) (p:Int→Prop) (e:Ending) (w':World):Prop:=∃v,p v∧e=.returned (.int .i64 v)∧w.grownBy w' none

theorem Md.find_bd (f:Nat→Int) (kind:Int):∀(n k:Nat),-1≤Gr.findFrom f kind n k∧Gr.findFrom f kind n k≤(k:Int)+n
 | 0,k=>by unfold Gr.findFrom;omega
 | n+1,k=>by
  unfold Gr.findFrom;have:=Md.find_bd f kind n (k+1);split <;> omega

set_option maxRecDepth 8000 in
set_option maxHeartbeats 12800000 in
theorem refRobot_any (s g c:Nat→Int) (E I:Nat→Nat→Int) (gC gE gI cC cE cI:Nat) (seat:Int) (w:World) (hL:Gd.Lists w gC gE gI c E I) (hc:∀i,0≤c i∧c i≤255) (hcE:32≤cE) (hE:Md.Fine E) :
  Calls Tryz.prog 43 #[.agg (Gd.world s gC gE gI cC cE cI g),.int .i64 seat] w (Md.Says w (Md.IsRobot c E I seat)):=by
 obtain ⟨w0,hw0⟩:∃w0,w0=w.alloc (.cells (Gd.world s gC gE gI cC cE cI g) 30):=⟨_,rfl⟩;have hg0:w.grownBy w0 none:=by rw [hw0];exact World.grownBy_alloc _ _ _
 have hO:Hid (Gd.Shown w w0 w.heap.size gC gE gI cC cE cI s g c E I):=by
  refine ⟨?_,hL.on hg0,hg0⟩;rw [hw0];exact (Arr.world (heap_alloc_new w _)).lie
 have hc':=hide hc;have hcE':=hide hcE;have hE':=hide hE;have hdef:Hid (∀v,Md.IsRobot c E I seat v↔if Gd.hero E seat<0 then v=0 else Md.robotAt c E I seat (Gd.hero E seat).toNat v):=fun v=>Iff.rfl;have ch:=hide (refHero7_any gE cE E seat w0 (uh hO).lists.own);have hrow:=hide (@Md.hero_row E seat);obtain ⟨h,hh⟩:∃h,Gd.hero E seat=h:=⟨_,rfl⟩;rw [hh] at ch hdef hrow;clear hL hc hcE hE hg0 hh;unfold Gd.world at hw0 ⊢;go_enter Tryz.func43,Tryz.ntmps43;go_upto_region 1 with fail;rw [←hw0];clear hw0;obtain ⟨B,hB⟩:∃B,w.heap.size=B:=⟨_,rfl⟩;rw [hB] at hO ⊢;clear hB;have q5:=(uh hO).box.eleven.2.2.2.2.2.1;go_wp2_with fail;refine (uh ch).mono ?_;rintro e w1 ⟨rfl,hg1⟩;have hO1:=hide ((uh hO).on hg1);clear q5 ch hg1 hO;by_cases hneg:h<0
 ·have hfin:Hid (Md.Says w (Md.IsRobot c E I seat) (.returned (.int .i64 0)) w1):=⟨0,(uh hdef 0).2 (by rw [if_pos hneg]),rfl,(uh hO1).grown⟩;go_wp2;go_ret;exact uh hfin
 obtain ⟨k,hk,rfl,hk0,-⟩:=uh hrow (by omega);have hto:Hid (∀v,Md.robotAt c E I seat k v→Md.IsRobot c E I seat v):=fun v hv=>(uh hdef v).2 (by
  rw [if_neg (by omega),Int.toNat_natCast];exact hv)
 obtain ⟨x0,x9,y0,y9,m0,m9⟩:=uh hE' k hk (by omega);have hk':(k:Int)<32:=by omega
 have HK:=hide hk;have q5:=(uh hO1).box.eleven.2.2.2.2.2.1;obtain ⟨u0,u1,u2,u3,u4,u5,u6,u7,u8,u9,u10⟩:=(uh hO1).lists.own.ents.row hk;have hQ:=hide (Lie.copied w1 (E k) 70);have hO2:=hide ((uh hO1).on (World.grownBy_alloc w1 (.cells (En.cells (E k)) 70) none));clear hk hk0 hneg hrow hE' hdef;unfold En.cells at hQ hO2;go_upto_region 5 with fail;obtain ⟨Q,hQe⟩:∃Q,w1.heap.size=Q:=⟨_,rfl⟩;rw [hQe] at hQ ⊢;generalize w1.alloc (.cells #[.int .i64 (E k 0),.int .i64 (E k 1),.int .i64 (E k 2),.int .i64 (E k 3),.int .i64 (E k 4),.int .i64 (E k 5),.int .i64 (E k 6),.int .i64 (E k 7),.int .i64 (E k 8),.int .i64 (E k 9),.int .i64 (E k 10)] 70)=w2 at hQ hO2 ⊢;clear hQe q5 u0 u1 u2 u3 u4 u5 u6 u7 u8 u9 u10 hO1;have q4:=(uh hO2).box.eleven.2.2.2.2.1;have q5:=(uh hO2).box.eleven.2.2.2.2.2.1;have q6:=(uh hO2).box.eleven.2.2.2.2.2.2.1;have z3:w2.cell? ⟨Q,3,none⟩=some (.int .i64 (E k 3)):=(uh hQ).cell (c:=3) (by omega);have z4:w2.cell? ⟨Q,4,none⟩=some (.int .i64 (E k 4)):=(uh hQ).cell (c:=4) (by omega);have z5:w2.cell? ⟨Q,5,none⟩=some (.int .i64 (E k 5)):=(uh hQ).cell (c:=5) (by omega);have z6:w2.cell? ⟨Q,6,none⟩=some (.int .i64 (E k 6)):=(uh hQ).cell (c:=6) (by omega);have hat:Hid (∀v,Md.robotAt c E I seat k v↔if E k 5≤E k 6 / 3∧0≤Gd.has I 40 seat 1 1 then v=6 else if Nv.wayFrom (Md.foe E (E k 3) (E k 4)) 4 1≠0 then v=Nv.wayFrom (Md.foe E (E k 3) (E k 4)) 4 1 else if 0≤Gd.find I 40 1 (E k 3) (E k 4)∧(I (Gd.find I 40 1 (E k 3) (E k 4)).toNat 0=4∨0≤Gd.slot I 40 seat) then v=5 else if Gr.at 384 c (E k 3) (E k 4)=4 then v=9 else Nv.IsToward c (fun _=>Gr.find 384 c 4) 1 E 32 (E k 3) (E k 4) v):=fun v=>Iff.rfl;have cP:=hide (refPotion_same gI 40 cI I seat w2 (uh hO2).lists.its);obtain ⟨P,hP⟩:∃P,Gd.has I 40 seat 1 1=P:=⟨_,rfl⟩;rw [hP] at cP hat;clear hP;obtain ⟨p,hp⟩:∃p:Bool,decide (E k 5≤E k 6 / 3∧0≤P)=p:=⟨_,rfl⟩
 go_cut [35] from 12 to 34 (fun va wx=>va=.bool p∧wx=w2)
 case first =>
  have hd:(E k 6).tdiv 3=E k 6 / 3:=Int.tdiv_eq_ediv_of_nonneg m0;by_cases h1:E k 5≤E k 6 / 3
  ·by_cases h2:0≤P
   ·obtain rfl:p=true:=by rw [←hp];simp [h1,h2]
    go_wp2_with fail;refine (uh cP).mono ?_;rintro e wy ⟨rfl,hy⟩;subst wy;go_wp2_with fail;go_meet;exact ⟨rfl,rfl⟩
   ·obtain rfl:p=false:=by rw [←hp];simp [h2]
    go_wp2_with fail;refine (uh cP).mono ?_;rintro e wy ⟨rfl,hy⟩;subst wy;go_wp2_with fail;go_meet;exact ⟨by simp [h2],rfl⟩
  ·obtain rfl:p=false:=by rw [←hp];simp [h1]
   go_wp2_with fail;go_meet;exact ⟨rfl,rfl⟩
 case rest =>
  obtain ⟨rfl,hwe⟩:=hcut;subst hwe;clear z5 z6 cP m0 m9;cases p
  rotate_left
  ·have hfin:Hid (Md.Says w (Md.IsRobot c E I seat) (.returned (.int .i64 6)) wc):=⟨6,uh hto 6 ((uh hat 6).2 (by rw [if_pos (by simpa using hp)])),rfl,(uh hO2).grown⟩;clear hp;go_wp2;go_ret;exact uh hfin
  have hat2:Hid (∀v,(if Nv.wayFrom (Md.foe E (E k 3) (E k 4)) 4 1≠0 then v=Nv.wayFrom (Md.foe E (E k 3) (E k 4)) 4 1 else if 0≤Gd.find I 40 1 (E k 3) (E k 4)∧(I (Gd.find I 40 1 (E k 3) (E k 4)).toNat 0=4∨0≤Gd.slot I 40 seat) then v=5 else if Gr.at 384 c (E k 3) (E k 4)=4 then v=9 else Nv.IsToward c (fun _=>Gr.find 384 c 4) 1 E 32 (E k 3) (E k 4) v)→Md.IsRobot c E I seat v):=fun v hv=>uh hto v ((uh hat v).2 (by rw [if_neg (by simpa using hp)];exact hv));clear hp hat hto;obtain ⟨x,hx⟩:∃x,E k 3=x:=⟨_,rfl⟩;obtain ⟨y,hy⟩:∃y,E k 4=y:=⟨_,rfl⟩;rw [hx] at z3 x0 x9 hat2;rw [hy] at z4 y0 y9 hat2;have hQ3:Hid (∀z,wc.grownBy z none→z.cell? ⟨Q,3,none⟩=some (.int .i64 x)∧z.cell? ⟨Q,4,none⟩=some (.int .i64 y)):=fun z hz=>by
   have h3:=((uh hQ).on hz).cell (c:=3) (by omega);have h4:=((uh hQ).on hz).cell (c:=4) (by omega);rw [←hx,←hy];exact ⟨h3,h4⟩
  clear hx hy hQ;go_wp2_with fail
  go_loopw [7,8,9,10] (fun v7 v8 v9 v10 wr=>∃d:Nat,1≤d∧d≤5∧v7=.int .i64 (d:Int)∧wr=wc∧Hid (∀j,1≤j→j<d→Md.foe E x y j=false)) (fun v7 _ _ _ _=>10 - (intOf v7).toNat)
  case atStart=>exact ⟨1,by omega,by omega,rfl,rfl,fun j h1 h2=>by omega⟩
  case round =>
   obtain ⟨d,hd1,hd5,rfl,hwe,hno⟩:=hrel;subst hwe;by_cases hlt:d≤4
   ·have hlt':(d:Int)≤4:=by omega
    have HD:=hide (show 1≤d∧d≤4 from ⟨hd1,hlt⟩);have cw:=hide (fun wq=>refWay_any (d:Int) wq);obtain ⟨s1,s2,s3,s4⟩:=Md.way_small d;have ca:=hide (entRefAt_same gE 32 cE E (x+(Fx.way (d:Int)).1) (y+(Fx.way (d:Int)).2) wr (uh hO2).lists.own.ents);have hwho:=hide (@Md.who_row E x y d);have hfd:Hid (Md.foe E x y d=(decide (0≤Md.who E x y d) && !(decide (E (Md.who E x y d).toNat 0=1)))):=rfl;have hwd:Hid (Md.who E x y d=En.first (En.atQ E (x+(Fx.way (d:Int)).1) (y+(Fx.way (d:Int)).2)) 32):=rfl;rw [←uh hwd] at ca;obtain ⟨dx,hdx⟩:∃z,(Fx.way (d:Int)).1=z:=⟨_,rfl⟩;obtain ⟨dy,hdy⟩:∃z,(Fx.way (d:Int)).2=z:=⟨_,rfl⟩;obtain ⟨h,hh⟩:∃z,Md.who E x y d=z:=⟨_,rfl⟩;rw [hdx] at s1 s2 cw ca;rw [hdy] at s3 s4 cw ca;rw [hh] at ca hwho hfd;clear hdx hdy hh hwd hd1 hd5 hlt;have w1:IntKind.i64.wrap (x+dx)=x+dx:=by rw [IntKind.wrap_i64];omega
    have w2:IntKind.i64.wrap (y+dy)=y+dy:=by rw [IntKind.wrap_i64];omega
    go_wp2_with fail;refine (uh cw _).mono ?_;rintro e wy ⟨rfl,hy⟩;subst wy;go_wp2_with fail;refine (uh ca).mono ?_;rintro e wy ⟨rfl,hy⟩;subst wy;clear ca cw;rcases uh hwho with rfl|⟨j,hj,rfl⟩
    ·have hf:Hid (Md.foe E x y d=false):=(show Md.foe E x y d=false by rw [uh hfd];rfl);clear hfd hwho;go_wp2;go_roundw;case rel=>exact ⟨d+1,by omega,by have:=uh HD;omega,by go_num,by first | rfl | trivial,fun j h1 h2=>by
      by_cases e:j=d
      ·rw [e];exact uh hf
      ·exact uh hno j h1 (by omega)⟩
     case measure=>simp [intOf];have:=uh HD;omega
    ·have u0:=((uh hO2).lists.own.ents.row hj).1;have hj':(j:Int)<32:=by omega
     rw [Int.toNat_natCast] at hfd;by_cases h1:E j 0=1
     ·have hf:Hid (Md.foe E x y d=false):=(show Md.foe E x y d=false by rw [uh hfd,h1];simp);rw [h1] at u0;clear hfd hwho h1 hj;go_wp2;go_roundw;case rel=>exact ⟨d+1,by omega,by have:=uh HD;omega,by go_num,by first | rfl | trivial,fun j h1 h2=>by
       by_cases e:j=d
       ·rw [e];exact uh hf
       ·exact uh hno j h1 (by omega)⟩
      case measure=>simp [intOf];have:=uh HD;omega
     ·have hf:Hid (Md.foe E x y d=true):=(show Md.foe E x y d=true by rw [uh hfd];simp [h1]);have h1':(E j 0 == 1)=false:=by simpa using h1
      have hw:Hid (Nv.wayFrom (Md.foe E x y) 4 1=(d:Int)):=Nv.way_hit 4 d 1 (uh hno) (uh hf) (uh HD).1 (by have:=(uh HD).2;omega);have hfin:Hid (Md.Says w (Md.IsRobot c E I seat) (.returned (.int .i64 (d:Int))) wr):=⟨(d:Int),uh hat2 _ (by rw [uh hw,if_pos (by have:=(uh HD).1;omega)]),rfl,(uh hO2).grown⟩;clear hfd hwho h1 hj hw hf;go_wp2;go_ret;exact uh hfin
   ·obtain rfl:d=5:=by omega
    have hge:¬((5:Nat):Int)≤4:=by omega
    have hw:Hid (Nv.wayFrom (Md.foe E x y) 4 1=0):=Nv.way_none 4 1 fun j h1 h2=>uh hno j h1 (by omega);have hat3:Hid (∀v,(if 0≤Gd.find I 40 1 x y∧(I (Gd.find I 40 1 x y).toNat 0=4∨0≤Gd.slot I 40 seat) then v=5 else if Gr.at 384 c x y=4 then v=9 else Nv.IsToward c (fun _=>Gr.find 384 c 4) 1 E 32 x y v)→Md.IsRobot c E I seat v):=fun v hv=>uh hat2 v (by rw [uh hw,if_neg (by simp)];exact hv);clear hlt hd1 hd5 hno hw hat2;have ci:=hide (refIn7_same gI 40 cI I 1 x y wr (uh hO2).lists.its);have cs:=hide (refSlot_same gI 40 cI I seat wr (uh hO2).lists.its);have hfc:=hide (Gd.find_cases I 40 1 x y);obtain ⟨f,hf⟩:∃f,Gd.find I 40 1 x y=f:=⟨_,rfl⟩;obtain ⟨S,hS⟩:∃S,Gd.slot I 40 seat=S:=⟨_,rfl⟩;rw [hf] at ci hat3 hfc;rw [hS] at cs hat3;clear hf hS;obtain ⟨p,hp⟩:∃p:Bool,decide (0≤f∧(I f.toNat 0=4∨0≤S))=p:=⟨_,rfl⟩;go_wp2_with fail;refine (uh ci).mono ?_;rintro e wy ⟨rfl,hy⟩;subst wy;clear ci;go_upto_region 15 with fail
    go_cut [92] from 36 to 91 (fun va wx=>va=.bool p∧wx=wr)
    case first =>
     rcases uh hfc with ⟨rfl,-⟩|⟨j,hj,rfl,-⟩
     ·obtain rfl:p=false:=by rw [←hp];simp
      clear hp hfc;go_wp2_with fail;go_meet;exact ⟨rfl,rfl⟩
     ·have v0:=((uh hO2).lists.its.row hj).1;have hj':(j:Int)<40:=by omega
      rw [Int.toNat_natCast] at hp;clear hfc hj;by_cases h4:I j 0=4
      ·obtain rfl:p=true:=by rw [←hp];simp [h4]
       rw [h4] at v0;clear hp h4;go_wp2_with fail;go_meet;exact ⟨rfl,rfl⟩
      ·have h4':(I j 0 == 4)=false:=by simpa using h4
       by_cases h5:0≤S
       ·obtain rfl:p=true:=by rw [←hp];simp [h5]
        clear hp h4;go_wp2_with fail;refine (uh cs).mono ?_;rintro e wy ⟨rfl,hy⟩;subst wy;go_wp2_with fail;go_meet;exact ⟨by first | rfl | simp [h5],rfl⟩
       ·obtain rfl:p=false:=by rw [←hp];simp [h4,h5]
        clear hp h4;go_wp2_with fail;refine (uh cs).mono ?_;rintro e wy ⟨rfl,hy⟩;subst wy;go_wp2_with fail;go_meet;exact ⟨by first | rfl | simp [h5],rfl⟩
    case rest =>
     obtain ⟨rfl,hwe⟩:=hcut;subst hwe;clear cs hfc;cases p
     rotate_left
     ·have hfin:Hid (Md.Says w (Md.IsRobot c E I seat) (.returned (.int .i64 5)) wc):=⟨5,uh hat3 5 (by rw [if_pos (by simpa using hp)]),rfl,(uh hO2).grown⟩;clear hp;go_wp2;go_ret;exact uh hfin
     have hat4:Hid (∀v,(if Gr.at 384 c x y=4 then v=9 else Nv.IsToward c (fun _=>Gr.find 384 c 4) 1 E 32 x y v)→Md.IsRobot c E I seat v):=fun v hv=>uh hat3 v (by rw [if_neg (by simpa using hp)];exact hv);have cg:=hide (refAt_any wc.heap.size (some ⟨gC,0,none⟩) 384 cC c x y wc (uh hO2).lists.vec (uh hc'));obtain ⟨a,ha⟩:∃a,Gr.at 384 c x y=a:=⟨_,rfl⟩;rw [ha] at cg hat4;clear hp hat3 ha;go_wp2_with fail;refine (uh cg).mono ?_;rintro e wy ⟨rfl,hy⟩;subst wy;clear cg;by_cases h4:a=4
     ·have hfin:Hid (Md.Says w (Md.IsRobot c E I seat) (.returned (.int .i64 9)) wc):=⟨9,uh hat4 9 (by rw [if_pos h4]),rfl,(uh hO2).grown⟩;subst h4;go_wp2;go_ret;exact uh hfin
     have h4':(a == 4)=false:=by simpa using h4
     have hat5:Hid (∀v,Nv.IsToward c (fun _=>Gr.find 384 c 4) 1 E 32 x y v→Md.IsRobot c E I seat v):=fun v hv=>uh hat4 v (by rw [if_neg h4];exact hv);clear h4 hat4;have cf:=hide (fun z (hz:wc.grownBy z none)=>refFind_any z.heap.size (some ⟨gC,0,none⟩) 384 cC c 4 z ((uh hO2).lists.on hz).vec (uh hc'));have hfb:=Md.find_bd c 4 384 0;obtain ⟨F,hF⟩:∃F,Gr.find 384 c 4=F:=⟨_,rfl⟩;have hfb':-1≤F∧F≤384:=by rw [←hF];exact hfb
     rw [hF] at cf hat5;have hgz:=hide (gd1 (World.grownBy_alloc wc (.cells #[.int .i64 F] 3) none));have ct:Hid (∀b,b=wc.heap.size→Calls Tryz.prog 73 #[.slice (some ⟨gC,0,none⟩) 384 cC,.slice (some ⟨gE,0,none⟩) 32 cE,.int .i64 x,.int .i64 y,.slice (some ⟨b,0,none⟩) 1 1] (wc.alloc (.cells #[.int .i64 F] 3)).drew (Nv.SaysToward (wc.alloc (.cells #[.int .i64 F] 3)).drew c (fun _=>F) 1 E 32 x y)):=fun b hb=>by
      subst hb;have hL:=(uh hO2).lists.on (uh hgz);exact refToward_any (some ⟨gC,0,none⟩) (some ⟨wc.heap.size,0,none⟩) cC gE 32 cE 1 1 c (fun _=>F) E x y _ hL.vec (uh hc') hL.own.ents (uh hcE') (Nv.one_row wc F 3) (fun _=>by omega)
     have hdr:=hide (gd1 (World.grownBy.refl wc none));have hkeep:Hid (∀z,wc.grownBy z none→(z.cell? ⟨B,4,none⟩=some (.slice (some ⟨gC,0,none⟩) 384 cC)∧z.cell? ⟨B,5,none⟩=some (.slice (some ⟨gE,0,none⟩) 32 cE)∧z.cell? ⟨Q,3,none⟩=some (.int .i64 x)∧z.cell? ⟨Q,4,none⟩=some (.int .i64 y))):=fun z hz=>⟨((uh hO2).on hz).box.eleven.2.2.2.2.1,((uh hO2).on hz).box.eleven.2.2.2.2.2.1,(uh hQ3 z hz).1,(uh hQ3 z hz).2⟩;have hS0:=uh hkeep wc (World.grownBy.refl _ none);clear hfb hF hfb';go_upto_region 19 with fail
     go_region_held3 (fun z=>z.cell? ⟨B,4,none⟩=some (.slice (some ⟨gC,0,none⟩) 384 cC)∧z.cell? ⟨B,5,none⟩=some (.slice (some ⟨gE,0,none⟩) 32 cE)∧z.cell? ⟨Q,3,none⟩=some (.int .i64 x)∧z.cell? ⟨Q,4,none⟩=some (.int .i64 y)) (go_keep) (first
      | (go_at_call 49;refine (uh cf _ (uh hdr)).mono ?_;rintro e wy ⟨rfl,hy⟩;subst wy)
      | (go_at_call 73;refine (uh ct _ rfl).mono ?_;rintro e w4 ⟨v,hv,rfl,hg⟩;have hg4:=hide (gtr (uh hgz) hg);have hv':=hide hv;have hS1:=uh hkeep _ (uh hg4);clear hg hv))
     have hfin:Hid (Md.Says w (Md.IsRobot c E I seat) (.returned (.int .i64 v)) w4):=⟨v,uh hat5 v (uh hv'),rfl,gtr (uh hO2).grown (uh hg4)⟩;clear hS0 hS1;go_wp2;go_ret;exact uh hfin


open Go.RowKit

theorem Nv.goes (x0 x1 d:Int) (h3:-9223372036854775808≤x1) (h4:x1≤9223372036854775807) (d1:-1≤d) (d2:d≤1):(x1 == wrap64 (x0+d))=decide (d=wrap64 (x1 - x0)):=by
 have key:x1=wrap64 (x0+d)↔d=wrap64 (x1 - x0):=by unfold wrap64;omega
 by_cases h:d=wrap64 (x1 - x0)
 ·rw [decide_eq_true h,beq_iff_eq];exact key.2 h
 ·rw [decide_eq_false h,beq_eq_false_iff_ne];exact fun e=>h (key.1 e)

set_option maxHeartbeats 800000 in
theorem refBeside_any (x0 y0 x1 y1:Int) (w:World) (a3:-9223372036854775808≤x1) (a4:x1≤9223372036854775807) (b3:-9223372036854775808≤y1) (b4:y1≤9223372036854775807) :
  Calls Tryz.prog 80 #[.int .i64 x0,.int .i64 y0,.int .i64 x1,.int .i64 y1] w fun e w'=>e=.returned (.int .i64 (Nv.beside (wrap64 (x1 - x0)) (wrap64 (y1 - y0))))∧w'=w:=by
 obtain ⟨DX,hx⟩:∃D,D=wrap64 (x1 - x0):=⟨_,rfl⟩;obtain ⟨DY,hy⟩:∃D,D=wrap64 (y1 - y0):=⟨_,rfl⟩;have gx:Hid (∀d,-1≤d→d≤1→(x1 == wrap64 (x0+d))=decide (d=DX)):=fun d h1 h2=>by rw [hx];exact Nv.goes x0 x1 d a3 a4 h1 h2
 have gy:Hid (∀d,-1≤d→d≤1→(y1 == wrap64 (y0+d))=decide (d=DY)):=fun d h1 h2=>by rw [hy];exact Nv.goes y0 y1 d b3 b4 h1 h2
 rw [←hx,←hy];clear hx hy a3 a4 b3 b4;go_enter Tryz.func80,Tryz.ntmps80;go_wp2_with fail
 go_loop [9] (fun i=>∃k:Nat,1≤k∧k≤5∧i=.int .i64 (k:Int)∧∀j:Nat,1≤j→j<k→¬((Fx.way (j:Int)).1=DX∧(Fx.way (j:Int)).2=DY)) (fun i=>5 - (intOf i).toNat)
 case atStart=>exact ⟨1,by omega,by omega,rfl,fun j h1 h2=>by omega⟩
 case round =>
  obtain ⟨k,h1,h5,rfl,hno⟩:=hrel;have hno':=hide hno;clear hno;by_cases hlt:k≤4
  ·have hlt':(k:Int)≤4:=by omega
   have HL:=hide hlt;have H1:=hide h1;clear hlt h1 h5;have hwb:=Fx.way_bd (k:Int);have k1:=uh gx _ hwb.1 hwb.2.1;have k2:=uh gy _ hwb.2.2.1 hwb.2.2.2;have cw:=hide (refWay_any (k:Int) w);have hq0:Hid (∀p:Prop,((Fx.way (k:Int)).1=DX∧(Fx.way (k:Int)).2=DY→p)→((Fx.way (k:Int)).1=DX→¬(Fx.way (k:Int)).2=DY→p)→(¬(Fx.way (k:Int)).1=DX→p)→p):=fun p hp hq hr=>by
    by_cases u:(Fx.way (k:Int)).1=DX
    ·by_cases v:(Fx.way (k:Int)).2=DY
     ·exact hp ⟨u,v⟩
     ·exact hq u v
    ·exact hr u
   have hh:Hid ((Fx.way (k:Int)).1=DX∧(Fx.way (k:Int)).2=DY→Nv.beside DX DY=(k:Int)):=fun h=>Nv.from_hit 4 k 1 (uh hno') h (uh H1) (by have:=uh HL;omega);have hm:Hid (¬((Fx.way (k:Int)).1=DX∧(Fx.way (k:Int)).2=DY)→∀j:Nat,1≤j→j<k+1→¬((Fx.way (j:Int)).1=DX∧(Fx.way (j:Int)).2=DY)):=fun h j h1 h2=>by
    by_cases e:j=k
    ·rw [e];exact h
    ·exact uh hno' j h1 (by omega)
   generalize (Fx.way (k:Int)).1=u at *
   generalize (Fx.way (k:Int)).2=v at *
   have bu:=hwb.1;have bu2:=hwb.2.1;have bv:=hwb.2.2.1;have bv2:=hwb.2.2.2;clear hwb;refine uh hq0 _ ?_ ?_ ?_
   ·intro hq;rw [decide_eq_true hq.1] at k1;rw [decide_eq_true hq.2] at k2;have he:=hide (uh hh hq);clear hq hq0 hm hh bu bu2 bv bv2;go_wp2_with fail;refine (uh cw).mono ?_;rintro e w1 ⟨rfl,rfl⟩;go_wp2;go_ret;exact ⟨rti (uh he).symm,rfl⟩
   ·intro hu hv;rw [decide_eq_true hu] at k1;rw [decide_eq_false hv] at k2;have he:=hide (uh hm (fun h=>hv h.2));clear hu hv hq0 hm hh bu bu2 bv bv2;go_wp2_with fail;refine (uh cw).mono ?_;rintro e w1 ⟨rfl,rfl⟩;go_wp2;go_round;case rel=>exact ⟨k+1,by have:=uh H1;omega,by have:=uh HL;omega,by go_num,uh he⟩
    case measure=>have:=uh HL;simp [intOf];omega
   ·intro hu;rw [decide_eq_false hu] at k1;have he:=hide (uh hm (fun h=>hu h.1));clear hu hq0 hm hh k2 bu bu2 bv bv2;go_wp2_with fail;refine (uh cw).mono ?_;rintro e w1 ⟨rfl,rfl⟩;go_wp2;go_round;case rel=>exact ⟨k+1,by have:=uh H1;omega,by have:=uh HL;omega,by go_num,uh he⟩
    case measure=>have:=uh HL;simp [intOf];omega
  ·have hge:¬(k:Int)≤4:=by omega
   have he:Hid (Nv.beside DX DY=0):=Nv.from_none 4 1 fun j h1 h2=>uh hno' j h1 (by omega);go_wp2;go_ret;exact ⟨rti (uh he).symm,rfl⟩


open Go.RowKit

structure Md.Good (c:Nat→Int) (E I:Nat→Nat→Int):Prop where
 fine:Md.Fine E
 gens:En.Gens 32 E
 words:Nv.Words 32 E
 ok:Gd.Ok c 40 I

theorem Md.good_of {c:Nat→Int} {E I:Nat→Nat→Int} (hE:Md.Fine E) (hz:∀k,k<32→(0≤E k 1∧E k 1≤255)∧(E k 0=0→E k 3=0∧E k 4=0)) (hok:Gd.Ok c 40 I):Md.Good c E I :=
 ⟨hE,fun k hk=>(hz k hk).1,fun k hk=>by
  by_cases k0:E k 0=0
  ·have:=(hz k hk).2 k0;omega
  ·have:=hE k hk k0;omega,hok⟩


open Go.RowKit

namespace Gn

def nzs (c:Nat→Int):Nat→Nat
 | 0=>0
 | n+1=>nzs c n+if c n=0 then 0 else 1

theorem nzs_mono (c:Nat→Int) {m n:Nat} (h:m≤n):nzs c m≤nzs c n:=by
 induction n with
 | zero =>
  obtain rfl:m=0:=by omega
  exact Nat.le_refl _
 | succ n ih =>
  by_cases e:m=n+1
  ·rw [e];exact Nat.le_refl _
  ·have:=ih (by omega);rw [nzs];omega

theorem nzs_three (c:Nat→Int) (a:Nat) (h0:c a≠0) (h1:c (a+1)≠0) (h2:c (a+2)≠0):nzs c (a+3)=nzs c a+3:=by
 rw [show a+3=a+2+1 by omega,nzs,show a+2=a+1+1 by omega,nzs,nzs,if_neg h0,if_neg h1,if_neg h2]

theorem Facts.six {d:Dice} (hd:Fair d) {c F:Nat→Int} {far:Nat} (h:Facts d c F far):6≤nzs c 384:=by
 have hb:=room_bd hd 0;obtain ⟨a,ha⟩:∃a:Nat,ry d 0*24+rx d 0=(a:Int):=⟨(ry d 0*24+rx d 0).toNat,by omega⟩;have hin:∀x y:Int,0≤x→x<3→0≤y→y<2→c ((ry d 0+y)*24+(rx d 0+x)).toNat≠0:=by
  intro x y h1 h2 h3 h4;exact (h.nz _).2 ((dug_nz d 5 _).2 (.inl ⟨0,by omega,inRoom_at hd (by omega) (by omega) (by omega) (by omega)⟩))
 have e:∀x y:Int,∀n:Nat,(a:Int)+y*24+x=(n:Int)→((ry d 0+y)*24+(rx d 0+x)).toNat=n:=by
  intro x y n hn;omega
 have h00:=hin 0 0 (by omega) (by omega) (by omega) (by omega);have h10:=hin 1 0 (by omega) (by omega) (by omega) (by omega);have h20:=hin 2 0 (by omega) (by omega) (by omega) (by omega);have h01:=hin 0 1 (by omega) (by omega) (by omega) (by omega);have h11:=hin 1 1 (by omega) (by omega) (by omega) (by omega);have h21:=hin 2 1 (by omega) (by omega) (by omega) (by omega);rw [e 0 0 a (by omega)] at h00;rw [e 1 0 (a+1) (by omega)] at h10;rw [e 2 0 (a+2) (by omega)] at h20;rw [e 0 1 (a+24) (by omega)] at h01;rw [e 1 1 (a+24+1) (by omega)] at h11;rw [e 2 1 (a+24+2) (by omega)] at h21;have n1:=nzs_three c a h00 h10 h20;have n2:=nzs_three c (a+24) h01 h11 h21;have m1:=nzs_mono c (show a+3≤a+24 by omega);have m2:=nzs_mono c (show a+24+3≤384 by omega);omega

end Gn


open Go.RowKit

theorem Gd.ent_box (w:World) (e:Nat→Int):(w.alloc (.cells (En.cells e) 70)).cell? ⟨w.heap.size,3,none⟩=some (.int .i64 (e 3))∧(w.alloc (.cells (En.cells e) 70)).cell? ⟨w.heap.size,4,none⟩=some (.int .i64 (e 4))∧(w.alloc (.cells (En.cells e) 70)).cell? ⟨w.heap.size,5,none⟩=some (.int .i64 (e 5))∧(w.alloc (.cells (En.cells e) 70)).cell? ⟨w.heap.size,6,none⟩=some (.int .i64 (e 6)):=by
 have h:=Arr.lit (heap_alloc_new w (.cells (En.cells e) 70));exact ⟨h.cell (i:=3) (by show 3<11;omega),h.cell (i:=4) (by show 4<11;omega),h.cell (i:=5) (by show 5<11;omega),h.cell (i:=6) (by show 6<11;omega)⟩

theorem Gd.ent_far {w x:World} {B gC gE gI cC cE cI:Nat} {s g c:Nat→Int} {E I:Nat→Nat→Int} (h:Gd.Boxed w x B gC gE gI cC cE cI s g c E I):x.heap.size≠gE∧x.heap.size≠gI∧x.heap.size≠B:=by
 have h1:=h.hold.lists.ents.lt;have h2:=h.hold.lists.items.lt;have h3:=h.hold.box.lt;exact ⟨by omega,by omega,by omega⟩

theorem Gd.Boxed.items {w x y:World} {B gC gE gI cC cE cI:Nat} {s g c:Nat→Int} {E I J:Nat→Nat→Int} (h:Gd.Boxed w x B gC gE gI cC cE cI s g c E I) (hg:x.grownBy y (some gI)) (hI:Lie y gI 72 160 (Gd.flat J)):Gd.Boxed w y B gC gE gI cC cE cI s g c E J:=by
 have h1:=h.at_;have h2:=h.lI;exact { h with hold:=h.hold.items hg hI,res:=h.res.grown hg (by simp;omega),grown:=gow h.grown hg (fun n e=>by cases e;omega) }

theorem Gd.Boxed.ents {w x y:World} {B gC gE gI cC cE cI:Nat} {s g c:Nat→Int} {E I F:Nat→Nat→Int} (h:Gd.Boxed w x B gC gE gI cC cE cI s g c E I) (hg:x.grownBy y (some gE)) (hE:Lie y gE 70 352 (En.flat F)):Gd.Boxed w y B gC gE gI cC cE cI s g c F I:=by
 have h1:=h.at_;have h2:=h.lE;exact { h with hold:=h.hold.ents hg hE,res:=h.res.grown hg (by simp;omega),grown:=gow h.grown hg (fun n e=>by cases e;omega) }

theorem Gd.Boxed.gold {w x:World} {B gC gE gI cC cE cI:Nat} {s g c:Nat→Int} {E I:Nat→Nat→Int} (h:Gd.Boxed w x B gC gE gI cC cE cI s g c E I) (t:Nat) (ht:t<4) (v:Int):Gd.Boxed w (x.setCell ⟨B,7+t,none⟩ (.int .i64 v)) B gC gE gI cC cE cI s (Gd.give g t v) c E I:=by
 have h1:=h.at_;exact { h with hold:=h.hold.gold t ht v,res:=h.res.other (by omega) _ _,grown:=gsr h.grown ⟨B,7+t,none⟩ (by show w.heap.size≤B;omega) _ }

theorem Gd.Boxed.stat {w x:World} {B gC gE gI cC cE cI:Nat} {s g c:Nat→Int} {E I:Nat→Nat→Int} (h:Gd.Boxed w x B gC gE gI cC cE cI s g c E I) (k j:Nat) (hj:j<11) (v:Int):Gd.Boxed w (x.setCell ⟨gE,k*11+j,none⟩ (.int .i64 v)) B gC gE gI cC cE cI s g c (Gd.set E k j v) I :=
 h.ents (gs0 x gE (k*11+j) (.int .i64 v)) (h.hold.lists.ents.stat k j hj v)

theorem Gd.Boxed.heals {w x:World} {B gC gE gI cC cE cI:Nat} {s g c:Nat→Int} {E I:Nat→Nat→Int} (h:Gd.Boxed w x B gC gE gI cC cE cI s g c E I) (k m:Nat) (v:Int) (hv:v=min (E k 5+6) (E k 6)):Gd.Boxed w ((((((x.setCell ⟨gI,m*4,none⟩ (.int .i64 0)).setCell ⟨gI,m*4+1,none⟩ (.int .i64 0)).setCell ⟨gI,m*4+2,none⟩ (.int .i64 0)).setCell ⟨gI,m*4+3,none⟩ (.int .i64 0)).setCell ⟨gE,k*11+5,none⟩ (.int .i64 v)).setCell ⟨gE,k*11+9,none⟩ (.int .i64 0)) B gC gE gI cC cE cI s g c (Gd.heal E k) (En.put I m Gd.gone):=by
 rw [←Gd.row_gone];unfold Gd.heal;rw [←hv];exact ((h.put m 0 0 0 0).stat k 5 (by omega) v).stat k 9 (by omega) 0

theorem Gd.Boxed.move3 {w x:World} {B gC gE gI cC cE cI:Nat} {s g c:Nat→Int} {E I:Nat→Nat→Int} (h:Gd.Boxed w x B gC gE gI cC cE cI s g c E I) (m:Nat) (a b d:Int):Gd.Boxed w (((x.setCell ⟨gI,m*4+1,none⟩ (.int .i64 a)).setCell ⟨gI,m*4+2,none⟩ (.int .i64 b)).setCell ⟨gI,m*4+3,none⟩ (.int .i64 d)) B gC gE gI cC cE cI s g c E (En.put I m (Gd.row (I m 0) a b d)):=by
 refine h.items (gst (gst (gst (World.grownBy.refl _ _) _ _) _ _) _ _) ((((h.hold.lists.items.field m 1 (by omega) a).field m 2 (by omega) b).field m 3 (by omega) d).congr fun q hq=>?_);unfold Gd.flat Gd.set;by_cases e:q / 4=m
 ·rw [e,En.put_same];rcases (show q % 4=0∨q % 4=1∨q % 4=2∨q % 4=3 by omega) with e4|e4|e4|e4 <;> rw [e4] <;> simp [Gd.row]
 ·rw [En.put_other e];simp [e]

theorem Gd.Boxed.move2 {w x:World} {B gC gE gI cC cE cI:Nat} {s g c:Nat→Int} {E I:Nat→Nat→Int} (h:Gd.Boxed w x B gC gE gI cC cE cI s g c E I) (m:Nat) (a d:Int):Gd.Boxed w ((x.setCell ⟨gI,m*4+1,none⟩ (.int .i64 a)).setCell ⟨gI,m*4+3,none⟩ (.int .i64 d)) B gC gE gI cC cE cI s g c E (En.put I m (Gd.row (I m 0) a (I m 2) d)):=by
 refine h.items (gst (gst (World.grownBy.refl _ _) _ _) _ _) (((h.hold.lists.items.field m 1 (by omega) a).field m 3 (by omega) d).congr fun q hq=>?_);unfold Gd.flat Gd.set;by_cases e:q / 4=m
 ·rw [e,En.put_same];rcases (show q % 4=0∨q % 4=1∨q % 4=2∨q % 4=3 by omega) with e4|e4|e4|e4 <;> rw [e4] <;> simp [Gd.row]
 ·rw [En.put_other e];simp [e]

end Go.Proofs.YtldgbkjceildfaaGreat
