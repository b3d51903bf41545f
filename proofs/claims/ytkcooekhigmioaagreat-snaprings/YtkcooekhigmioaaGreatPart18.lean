import Derived.Test.YtkcooekhigmioaaGreatPart13
import Derived.Test.YtkcooekhigmioaaGreatPart16
import Derived.Test.YtkcooekhigmioaaGreatPart14
namespace Go.Proofs.YtkcooekhigmioaaGreat
open Go.RowKit

def Nv.num (x y:Int):Int:=if Gr.inB x y=true then y*24+x else -1

def Nv.besideFrom (dx dy:Int):Nat→Nat→Int
 | 0,_=>0
 | m+1,k=>if (Fx.way (k:Int)).1=dx∧(Fx.way (k:Int)).2=dy then (k:Int) else Nv.besideFrom dx dy m (k+1)

def Nv.beside (dx dy:Int):Int:=Nv.besideFrom dx dy 4 1

theorem wrap64_id (n:Int) (h:-9223372036854775808≤n∧n≤9223372036854775807):wrap64 n=n:=by unfold wrap64;omega

theorem Nv.from_hit {dx dy:Int}:∀(m k i:Nat),(∀j,i≤j→j<k→¬((Fx.way (j:Int)).1=dx∧(Fx.way (j:Int)).2=dy))→((Fx.way (k:Int)).1=dx∧(Fx.way (k:Int)).2=dy)→i≤k→k<i+m→Nv.besideFrom dx dy m i=(k:Int)
  | 0,k,i,_,_,h1,h2=>by omega
  | m + 1, k, i, hno, hk, h1, h2 => by
      unfold Nv.besideFrom
      by_cases e:i=k
      · rw [e,if_pos hk]
      · rw [if_neg (hno i (Nat.le_refl _) (by omega)),Nv.from_hit m k (i+1) (fun j hj1 hj2=>hno j (by omega) hj2) hk (by omega) (by omega)]

theorem Nv.from_none {dx dy:Int}:∀(m i:Nat),(∀j,i≤j→j<i+m→¬((Fx.way (j:Int)).1=dx∧(Fx.way (j:Int)).2=dy))→Nv.besideFrom dx dy m i=0
  | 0,_,_=>rfl
  | m + 1, i, hno => by
      unfold Nv.besideFrom
      rw [if_neg (hno i (Nat.le_refl _) (by omega)),Nv.from_none m (i+1) (fun j hj1 hj2=>hno j (by omega) (by omega))]


open Go.RowKit

def Gd.wornK (I:Nat→Nat→Int) (seat kd:Int):Nat→Bool
 | 0=>false
 | k+1=>Gd.wornK I seat kd k || (decide (I k 1=3∧I k 2=seat) && decide (I k 0=kd))

theorem Gd.worn_iff (I:Nat→Nat→Int) (seat kd:Int):∀k,Gd.wornK I seat kd k=true↔∃j,j<k∧I j 1=3∧I j 2=seat∧I j 0=kd
  | 0=>by simp [Gd.wornK]
  | k + 1 => by
      unfold Gd.wornK
      rw [Bool.or_eq_true,Gd.worn_iff I seat kd k,Bool.and_eq_true,decide_eq_true_eq,decide_eq_true_eq]
      constructor
      · rintro (⟨j,hj,h⟩ | ⟨⟨h1,h2⟩,h3⟩)
        · exact ⟨j,by omega,h⟩
        · exact ⟨k,by omega,h1,h2,h3⟩
      · rintro ⟨j,hj,h1,h2,h3⟩
        by_cases e:j=k
        · rw [e] at h1 h2 h3
          exact .inr ⟨⟨h1,h2⟩,h3⟩
        · exact .inl ⟨j,by omega,h1,h2,h3⟩

theorem Gd.worn_at {c:Nat→Int} {I:Nat→Nat→Int} (h:Gd.Ok c 40 I) (seat b:Int):Gd.wornK I seat (b+2) 40=decide (0≤Gd.find I 40 3 seat b):=by
 apply Bool.eq_iff_iff.2
 rw [Gd.worn_iff,decide_eq_true_eq]
 constructor
 ·rintro ⟨j,hj,h1,h2,h3⟩
  rcases Gd.find_cases I 40 3 seat b with ⟨_,hno⟩ | ⟨k,_,e,_⟩
  ·obtain ⟨_,_,hp⟩:=h.of hj (by omega)
   exact absurd ⟨h1,h2,by omega⟩ (hno j hj)
  ·omega
 ·intro h0
  obtain ⟨k,hk,_,h1,h2,h3⟩:=Gd.find_pos h0
  obtain ⟨_,_,hp⟩:=h.of hk (by omega)
  exact ⟨k,hk,h1,h2,by omega⟩

def Gd.three (b:Bool):Int:=if b=true then 3 else 0
def Gd.two (b:Bool):Int:=if b=true then 2 else 0


open Go.RowKit

set_option maxHeartbeats 6400000 in
theorem refSweep_any (s g c:Nat→Int) (E I:Nat→Nat→Int) (gC gE gI cC cE cI:Nat) (seat:Int) (w:World) (hL:Gd.Lists w gC gE gI c E I) :
  Calls Tryz.prog 120 #[.agg (Gd.world s gC gE gI cC cE cI g),.int .i64 seat] w (Gd.Worlds w s g c E (Gd.sweep I seat)):=by
 obtain ⟨w0,hw0,hbox,hres,hg0,hsz⟩:=Gd.boxes w gC gE gI cC cE cI s g
 have ca:=refTwin_any s g c E I gC gE gI cC cE cI w0 (hL.on hg0)
 obtain ⟨b0,b1,b2,b3,b4,b5,b6,b7,b8,b9,b10⟩:=hbox.eleven
 have hbx:=hide hbox
 have hrs:=hide hres
 have hg0':=hide hg0
 have hsz':=hide hsz
 have ca':=hide ca
 have hfB:=hbox.free
 clear hL ca hbox hres hg0 hsz
 unfold Gd.world at hw0 ca' ⊢
 go_enter Tryz.func120,Tryz.ntmps120
 go_upto_region 1 with fail
 rw [←hw0]
 clear hw0
 obtain ⟨B,hB⟩:∃B,w.heap.size=B:=⟨_,rfl⟩
 rw [hB] at hbx hrs hsz' b0 b1 b2 b3 b4 b5 b6 b7 b8 b9 b10 ⊢
 have hB':=hide hB
 rw [hB] at hfB
 clear hB
 go_cut [] from 6 (fun wx=>∃g1 g2 g3 c1 c2 c3,Hid (Gd.Boxed w wx B g1 g2 g3 c1 c2 c3 s g c E I))
 case first =>
  go_wp2_with fail
  refine (uh ca').mono ?_
  rintro e w1 ⟨g1,g2,g3,c1,c2,c3,rfl,hcap,l1,l2,l3,n1,n2,n3,hL1,hg1⟩
  obtain ⟨y0,y1,y2,y3,y4,y5,y6,y7,y8,y9,y10⟩:=((uh hbx).on hg1).eleven
  have fB:=((uh hbx).on hg1).free
  have fin:Hid (Gd.Boxed w (w1.setCells B 0 (Gd.world s g1 g2 g3 c1 c2 c3 g).toList) B g1 g2 g3 c1 c2 c3 s g c E I):=by
   have r:=gss (g:=B) (Gd.world s g1 g2 g3 c1 c2 c3 g).toList 0 w1 (World.grownBy.refl _ _)
   have hB:=uh hB'
   have hs:=uh hsz'
   exact ⟨⟨((uh hbx).on hg1).whole s g g1 g2 g3 c1 c2 c3,⟨hL1.cells.grown r (by simp;omega),hL1.ents.grown r (by simp;omega),hL1.items.grown r (by simp;omega)⟩,by omega,by omega,by omega,n1,n2,n3⟩,hB,by omega,by omega,by omega,hcap,((uh hrs).on hg1).grown r (by simp),own_sets (by omega) _ 0 w1 (gtr (uh hg0') hg1)⟩
  unfold Gd.world at fin ⊢
  clear hcap l1 l2 l3 n1 n2 n3 hL1 hg1 b0 b1 b2 b3 b4 b5 b6 b7 b8 b9 b10 hfB ca'
  go_wp2_with fail
  go_meet
  exact ⟨g1,g2,g3,c1,c2,c3,fin⟩
 case rest =>
  obtain ⟨g1,g2,g3,c1,c2,c3,hX⟩:=hcut
  clear b0 b1 b2 b3 b4 b5 b6 b7 b8 b9 b10 hfB ca' hbx hrs hg0' hsz' hB'
  clear w0
  have q6:=(uh hX).hold.box.eleven.2.2.2.2.2.2.1
  go_wp2_with fail
  go_loopw [5] (fun i wr=>∃k:Nat,k≤40∧i=.int .i64 (k:Int)∧Hid (Gd.Boxed w wr B g1 g2 g3 c1 c2 c3 s g c E (Gd.sweepTo I seat k))) (fun i _=>200 - (intOf i).toNat)
  case atStart=>exact ⟨0,by omega,rfl,(uh hX).same (fun i _=>if_neg (by omega))⟩
  case round =>
   clear q6 hX
   obtain ⟨k,hk,rfl,hB⟩:=hrel
   have q6:=(uh hB).hold.box.eleven.2.2.2.2.2.2.1
   by_cases hlt:k<40
   ·have hlt':(k:Int)<40:=by omega
    have hrow:=(uh hB).hold.lists.its.row hlt
    rw [show Gd.sweepTo I seat k k=I k from if_neg (by omega)] at hrow
    obtain ⟨u0,u1,u2,u3⟩:=hrow
    have HL:=hide hlt
    have fI:=(uh hB).hold.lists.items.free
    have lI:=(uh hB).hold.lists.items.lt
    have lB:=(uh hB).hold.box.lt
    by_cases hc:(I k 1=2∨I k 1=3)∧I k 2=seat
    ·have he:=hide (Gd.sweep_yes hc)
     obtain ⟨hc1,hc2⟩:=hc
     rcases hc1 with hc1 | hc1
     all_goals
      go_wp2
      go_roundw
      case rel=>exact ⟨k+1,by have:=uh HL;omega,by go_num,by
       show Gd.Boxed _ _ _ _ _ _ _ _ _ _ _ _ _ _
       rw [uh he]
       exact (uh hB).put k 0 0 0 0⟩
      case measure=>simp [intOf];omega
    ·have he:=hide (Gd.sweep_no hc)
     by_cases w2:I k 1=2
     ·have hs:¬I k 2=seat:=fun h=>hc ⟨.inl w2,h⟩
      have ms:(I k 2 == seat)=false:=by simp [hs]
      clear hc
      go_wp2
      go_roundw
      case rel=>exact ⟨k+1,by have:=uh HL;omega,by go_num,by
       show Gd.Boxed _ _ _ _ _ _ _ _ _ _ _ _ _ _
       rw [uh he]
       exact uh hB⟩
      case measure=>simp [intOf];omega
     ·have m1:(I k 1 == 2)=false:=by simp [w2]
      by_cases w3:I k 1=3
      ·have hs:¬I k 2=seat:=fun h=>hc ⟨.inr w3,h⟩
       have ms:(I k 2 == seat)=false:=by simp [hs]
       clear hc
       go_wp2
       go_roundw
       case rel=>exact ⟨k+1,by have:=uh HL;omega,by go_num,by
        show Gd.Boxed _ _ _ _ _ _ _ _ _ _ _ _ _ _
        rw [uh he]
        exact uh hB⟩
       case measure=>simp [intOf];omega
      ·have m2:(I k 1 == 3)=false:=by simp [w3]
       clear hc
       go_wp2
       go_roundw
       case rel=>exact ⟨k+1,by have:=uh HL;omega,by go_num,by
        show Gd.Boxed _ _ _ _ _ _ _ _ _ _ _ _ _ _
        rw [uh he]
        exact uh hB⟩
       case measure=>simp [intOf];omega
   ·have hge:¬(k:Int)<40:=by omega
    have hBf:=(uh hB).same (J:=Gd.sweep I seat) (fun i hi=>by show _=if i<k then _ else _;rw [if_pos (by omega)])
    clear hB
    have hbx:=hide hBf
    obtain ⟨b0,b1,b2,b3,b4,b5,b6,b7,b8,b9,b10⟩:=(uh hbx).hold.box.eleven
    have fz:=(uh hbx).res.free
    obtain ⟨z0,z1,z2,z3,z4,z5,z6,z7,z8,z9,z10⟩:=Gd.res_cells (uh hbx).res
    have hfin:=hide (fun vs=>(uh hbx).worlds vs)
    go_wp2
    refine bodyPost_ret (v:=.agg (Gd.world s g1 g2 g3 c1 c2 c3 g)) (by simp [results,Tryz.results120,go_sem,Gd.world,z0,z1,z2,z3,z4,z5,z6,z7,z8,z9,z10]) rfl ?_
    exact uh hfin [_,_,_,_,_,_,_,_,_,_,_]

theorem Gd.three_at (z:Int):Gd.three (decide (0≤z))=if 0≤z then 3 else 0:=by
 unfold Gd.three
 by_cases h:0≤z <;> simp [h]

theorem Gd.two_at (z:Int):Gd.two (decide (0≤z))=if 0≤z then 2 else 0:=by
 unfold Gd.two
 by_cases h:0≤z <;> simp [h]

set_option maxHeartbeats 6400000 in
theorem refBonus_any (s g c:Nat→Int) (E I:Nat→Nat→Int) (gC gE gI cC cE cI:Nat) (seat:Int) (w:World) (hL:Gd.Lists w gC gE gI c E I) :
  Calls Tryz.prog 115 #[.agg (Gd.world s gC gE gI cC cE cI g),.int .i64 seat] w (Says w (.tuple #[.int .i64 (Gd.three (decide (0≤Gd.find I 40 3 seat 0))),.int .i64 (Gd.two (decide (0≤Gd.find I 40 3 seat 1)))])):=by
 obtain ⟨w0,hw0⟩:∃w0,w0=w.alloc (.cells (Gd.world s gC gE gI cC cE cI g) 31):=⟨_,rfl⟩
 have hbox:Lie w0 w.heap.size 31 11 (Gd.box s gC gE gI cC cE cI g):=by rw [hw0];exact (Arr.world (heap_alloc_new w _)).lie
 have hg0:w.grownBy w0 none:=by rw [hw0];exact World.grownBy_alloc _ _ _
 have hL0:=hL.on hg0
 obtain ⟨B,hB⟩:∃B,w.heap.size=B:=⟨_,rfl⟩
 rw [hB] at hbox
 have hg0':=hide hg0
 obtain ⟨_,_,_,_,_,_,b6,_⟩:=hbox.eleven
 have c1:=refIn7_same gI 40 cI I 3 seat 0 w0 hL0.its
 have c2:=refIn7_same gI 40 cI I 3 seat 1 w0 hL0.its
 obtain ⟨f,hf⟩:∃f,Gd.find I 40 3 seat 0=f:=⟨_,rfl⟩
 obtain ⟨d,hd⟩:∃d,Gd.find I 40 3 seat 1=d:=⟨_,rfl⟩
 rw [hf] at c1 ⊢
 rw [hd] at c2 ⊢
 rw [Gd.three_at,Gd.two_at]
 have c1':=hide c1
 have c2':=hide c2
 clear hL hbox hg0 hL0 c1 c2 hf hd
 unfold Gd.world at hw0 ⊢
 by_cases h1:0≤f
 ·by_cases h2:0≤d
  ·rw [if_pos h1,if_pos h2]
   go_enter Tryz.func115,Tryz.ntmps115
   go_upto_region 1 with fail
   rw [←hw0]
   clear hw0 hB
   go_wp2_with fail
   refine (uh c1').mono ?_
   rintro e wy ⟨rfl,hw⟩
   subst wy
   go_wp2_with fail
   refine (uh c2').mono ?_
   rintro e wy ⟨rfl,hw⟩
   subst wy
   go_wp2
   refine bodyPost_ret (v:=.tuple #[.int .i64 3,.int .i64 2]) (by simp [results,Tryz.results115,go_sem]) rfl ?_
   exact ⟨rfl,uh hg0'⟩
  ·rw [if_pos h1,if_neg h2]
   go_enter Tryz.func115,Tryz.ntmps115
   go_upto_region 1 with fail
   rw [←hw0]
   clear hw0 hB
   go_wp2_with fail
   refine (uh c1').mono ?_
   rintro e wy ⟨rfl,hw⟩
   subst wy
   go_wp2_with fail
   refine (uh c2').mono ?_
   rintro e wy ⟨rfl,hw⟩
   subst wy
   go_wp2
   refine bodyPost_ret (v:=.tuple #[.int .i64 3,.int .i64 0]) (by simp [results,Tryz.results115,go_sem]) rfl ?_
   exact ⟨rfl,uh hg0'⟩
 ·by_cases h2:0≤d
  ·rw [if_neg h1,if_pos h2]
   go_enter Tryz.func115,Tryz.ntmps115
   go_upto_region 1 with fail
   rw [←hw0]
   clear hw0 hB
   go_wp2_with fail
   refine (uh c1').mono ?_
   rintro e wy ⟨rfl,hw⟩
   subst wy
   go_wp2_with fail
   refine (uh c2').mono ?_
   rintro e wy ⟨rfl,hw⟩
   subst wy
   go_wp2
   refine bodyPost_ret (v:=.tuple #[.int .i64 0,.int .i64 2]) (by simp [results,Tryz.results115,go_sem]) rfl ?_
   exact ⟨rfl,uh hg0'⟩
  ·rw [if_neg h1,if_neg h2]
   go_enter Tryz.func115,Tryz.ntmps115
   go_upto_region 1 with fail
   rw [←hw0]
   clear hw0 hB
   go_wp2_with fail
   refine (uh c1').mono ?_
   rintro e wy ⟨rfl,hw⟩
   subst wy
   go_wp2_with fail
   refine (uh c2').mono ?_
   rintro e wy ⟨rfl,hw⟩
   subst wy
   go_wp2
   refine bodyPost_ret (v:=.tuple #[.int .i64 0,.int .i64 0]) (by simp [results,Tryz.results115,go_sem]) rfl ?_
   exact ⟨rfl,uh hg0'⟩


open Go.RowKit

theorem Nv.goes (x0 x1 d:Int) (h3:-9223372036854775808≤x1) (h4:x1≤9223372036854775807) (d1:-1≤d) (d2:d≤1):(x1 == wrap64 (x0+d))=decide (d=wrap64 (x1 - x0)):=by
 have key:x1=wrap64 (x0+d)↔d=wrap64 (x1 - x0):=by unfold wrap64;omega
 by_cases h:d=wrap64 (x1 - x0)
 ·rw [decide_eq_true h,beq_iff_eq];exact key.2 h
 ·rw [decide_eq_false h,beq_eq_false_iff_ne];exact fun e=>h (key.1 e)

set_option maxHeartbeats 800000 in
theorem refBeside_any (x0 y0 x1 y1:Int) (w:World) (a3:-9223372036854775808≤x1) (a4:x1≤9223372036854775807) (b3:-9223372036854775808≤y1) (b4:y1≤9223372036854775807) :
  Calls Tryz.prog 101 #[.int .i64 x0,.int .i64 y0,.int .i64 x1,.int .i64 y1] w fun e w'=>e=.returned (.int .i64 (Nv.beside (wrap64 (x1 - x0)) (wrap64 (y1 - y0))))∧w'=w:=by
 obtain ⟨DX,hx⟩:∃D,D=wrap64 (x1 - x0):=⟨_,rfl⟩
 obtain ⟨DY,hy⟩:∃D,D=wrap64 (y1 - y0):=⟨_,rfl⟩
 have gx:Hid (∀d,-1≤d→d≤1→(x1 == wrap64 (x0+d))=decide (d=DX)):=fun d h1 h2=>by rw [hx];exact Nv.goes x0 x1 d a3 a4 h1 h2
 have gy:Hid (∀d,-1≤d→d≤1→(y1 == wrap64 (y0+d))=decide (d=DY)):=fun d h1 h2=>by rw [hy];exact Nv.goes y0 y1 d b3 b4 h1 h2
 rw [←hx,←hy]
 clear hx hy a3 a4 b3 b4
 go_enter Tryz.func101,Tryz.ntmps101
 go_wp2_with fail
 go_loop [9] (fun i=>∃k:Nat,1≤k∧k≤5∧i=.int .i64 (k:Int)∧∀j:Nat,1≤j→j<k→¬((Fx.way (j:Int)).1=DX∧(Fx.way (j:Int)).2=DY)) (fun i=>5 - (intOf i).toNat)
 case atStart=>exact ⟨1,by omega,by omega,rfl,fun j h1 h2=>by omega⟩
 case round =>
  obtain ⟨k,h1,h5,rfl,hno⟩:=hrel
  have hno':=hide hno
  clear hno
  by_cases hlt:k≤4
  ·have hlt':(k:Int)≤4:=by omega
   have HL:=hide hlt
   have H1:=hide h1
   clear hlt h1 h5
   have hwb:=Fx.way_bd (k:Int)
   have k1:=uh gx _ hwb.1 hwb.2.1
   have k2:=uh gy _ hwb.2.2.1 hwb.2.2.2
   have cw:=hide (refWay_any (k:Int) w)
   have hq0:Hid (∀p:Prop,((Fx.way (k:Int)).1=DX∧(Fx.way (k:Int)).2=DY→p)→((Fx.way (k:Int)).1=DX→¬(Fx.way (k:Int)).2=DY→p)→(¬(Fx.way (k:Int)).1=DX→p)→p):=fun p hp hq hr=>by
    by_cases u:(Fx.way (k:Int)).1=DX
    ·by_cases v:(Fx.way (k:Int)).2=DY
     ·exact hp ⟨u,v⟩
     ·exact hq u v
    ·exact hr u
   have hh:Hid ((Fx.way (k:Int)).1=DX∧(Fx.way (k:Int)).2=DY→Nv.beside DX DY=(k:Int)):=fun h=>Nv.from_hit 4 k 1 (uh hno') h (uh H1) (by have:=uh HL;omega)
   have hm:Hid (¬((Fx.way (k:Int)).1=DX∧(Fx.way (k:Int)).2=DY)→∀j:Nat,1≤j→j<k+1→¬((Fx.way (j:Int)).1=DX∧(Fx.way (j:Int)).2=DY)):=fun h j h1 h2=>by
    by_cases e:j=k
    ·rw [e];exact h
    ·exact uh hno' j h1 (by omega)
   generalize (Fx.way (k:Int)).1=u at *
   generalize (Fx.way (k:Int)).2=v at *
   have bu:=hwb.1
   have bu2:=hwb.2.1
   have bv:=hwb.2.2.1
   have bv2:=hwb.2.2.2
   clear hwb
   refine uh hq0 _ ?_ ?_ ?_
   ·intro hq
    rw [decide_eq_true hq.1] at k1
    rw [decide_eq_true hq.2] at k2
    have he:=hide (uh hh hq)
    clear hq hq0 hm hh bu bu2 bv bv2
    go_wp2_with fail
    refine (uh cw).mono ?_
    rintro e w1 ⟨rfl,rfl⟩
    go_wp2
    go_ret
    exact ⟨rti (uh he).symm,rfl⟩
   ·intro hu hv
    rw [decide_eq_true hu] at k1
    rw [decide_eq_false hv] at k2
    have he:=hide (uh hm (fun h=>hv h.2))
    clear hu hv hq0 hm hh bu bu2 bv bv2
    go_wp2_with fail
    refine (uh cw).mono ?_
    rintro e w1 ⟨rfl,rfl⟩
    go_wp2
    go_round
    case rel=>exact ⟨k+1,by have:=uh H1;omega,by have:=uh HL;omega,by go_num,uh he⟩
    case measure=>have:=uh HL;simp [intOf];omega
   ·intro hu
    rw [decide_eq_false hu] at k1
    have he:=hide (uh hm (fun h=>hu h.1))
    clear hu hq0 hm hh k2 bu bu2 bv bv2
    go_wp2_with fail
    refine (uh cw).mono ?_
    rintro e w1 ⟨rfl,rfl⟩
    go_wp2
    go_round
    case rel=>exact ⟨k+1,by have:=uh H1;omega,by have:=uh HL;omega,by go_num,uh he⟩
    case measure=>have:=uh HL;simp [intOf];omega
  ·have hge:¬(k:Int)≤4:=by omega
   have he:Hid (Nv.beside DX DY=0):=Nv.from_none 4 1 fun j h1 h2=>uh hno' j h1 (by omega)
   go_wp2
   go_ret
   exact ⟨rti (uh he).symm,rfl⟩


open Go.RowKit

theorem dice_of (s f:Int):∃d:Gn.Dice,(∀a b n,Gn.D s f a b n=d a b n)∧Gn.Fair d:=⟨fun a b n=>Gn.D s f a b n,fun _ _ _=>rfl,fun a b n h=>Gn.D_bd s f a b n h⟩


open Go.RowKit

def Gd.goneQ (J:Nat→Nat→Int):Nat→Bool:=fun i=>Gd.zeroB (J i 0) (J i 1) (J i 2) (J i 3)

def Gd.lay (I M:Nat→Nat→Int):Nat→Nat→Nat→Int
 | 0=>I
 | m+1=>if 0≤En.first (Gd.goneQ (Gd.lay I M m)) 40 then En.put (Gd.lay I M m) (En.first (Gd.goneQ (Gd.lay I M m)) 40).toNat (Gd.row (M m 0) (M m 1) (M m 2) (M m 3)) else Gd.lay I M m

theorem Gd.lay_none {I M:Nat→Nat→Int} {m:Nat} (h:∀j,j<40→Gd.goneQ (Gd.lay I M m) j=false):Gd.lay I M (m+1)=Gd.lay I M m:=by
 show (if _ then _ else _)=_
 rw [En.first_none h,if_neg (by omega)]

theorem Gd.lay_some {I M:Nat→Nat→Int} {m r:Nat} (hno:∀j,j<r→Gd.goneQ (Gd.lay I M m) j=false) (hr:Gd.goneQ (Gd.lay I M m) r=true) (h40:r<40):Gd.lay I M (m+1)=En.put (Gd.lay I M m) r (Gd.row (M m 0) (M m 1) (M m 2) (M m 3)):=by
 show (if _ then _ else _)=_
 rw [En.first_hit hno hr h40,if_pos (by omega),Int.toNat_natCast]

def Gd.Some (w:World) (a:Option Addr) (n:Nat) (M:Nat→Nat→Int):Prop:=n≤100∧(n=0∨∃b o,a=some ⟨b,o,none⟩∧Its w b o n M)

theorem Gd.Some.on {w w':World} {a:Option Addr} {n:Nat} {M:Nat→Nat→Int} (h:Gd.Some w a n M) (hg:w.grownBy w' none):Gd.Some w' a n M:=by
 obtain ⟨h1,h0 | ⟨b,o,h2,h3⟩⟩:=h
 ·exact ⟨h1,.inl h0⟩
 ·exact ⟨h1,.inr ⟨b,o,h2,h3.on hg⟩⟩

theorem Gd.Some.row {w:World} {a:Option Addr} {n:Nat} {M:Nat→Nat→Int} (h:Gd.Some w a n M) {k:Nat} (hk:k<n):∃b o,a=some ⟨b,o,none⟩∧b<w.heap.size∧w.cell? ⟨b,o+k*4,none⟩=some (.int .i64 (M k 0))∧w.cell? ⟨b,o+k*4+1,none⟩=some (.int .i64 (M k 1))∧w.cell? ⟨b,o+k*4+2,none⟩=some (.int .i64 (M k 2))∧w.cell? ⟨b,o+k*4+3,none⟩=some (.int .i64 (M k 3)):=by
 obtain ⟨_,h0 | ⟨b,o,h2,h3⟩⟩:=h
 ·omega
 ·exact ⟨b,o,h2,h3.2.1,h3.2.2 k 0 hk (by omega),h3.2.2 k 1 hk (by omega),h3.2.2 k 2 hk (by omega),h3.2.2 k 3 hk (by omega)⟩

def Gd.Gives40 (w:World) (J:Nat→Nat→Int) (e:Ending) (w':World):Prop :=
 ∃g cap,e=.returned (.slice (some ⟨g,0,none⟩) 40 cap)∧w.heap.size≤g∧Lie w' g 72 160 (Gd.flat J)∧w.grownBy w' none

end Go.Proofs.YtkcooekhigmioaaGreat
