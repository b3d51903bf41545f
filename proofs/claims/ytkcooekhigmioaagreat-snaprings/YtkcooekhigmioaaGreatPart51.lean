import Derived.Test.YtkcooekhigmioaaGreatPart44
import Derived.Test.YtkcooekhigmioaaGreatPart45
import Derived.Test.YtkcooekhigmioaaGreatPart46
import Derived.Test.YtkcooekhigmioaaGreatPart47
import Derived.Test.YtkcooekhigmioaaGreatPart48
import Derived.Test.YtkcooekhigmioaaGreatPart49
import Derived.Test.YtkcooekhigmioaaGreatPart50
import Derived.Test.YtkcooekhigmioaaGreatPart39
import Derived.Test.YtkcooekhigmioaaGreatPart28
namespace Go.Proofs.YtkcooekhigmioaaGreat
open Go.RowKit

set_option maxRecDepth 8000 in
set_option maxHeartbeats 12800000 in
theorem refDo_none (s g c:Nat→Int) (E I:Nat→Nat→Int) (gC gE gI cC cE cI:Nat) (seat input:Int) (w:World) (hL:Gd.Lists w gC gE gI c E I) (hno:¬(0≤seat∧seat<4∧0≤Gd.hero E seat)) :
  Calls Tryz.prog 62 #[.agg (Gd.world s gC gE gI cC cE cI g),.int .i64 seat,.int .i64 input] w (Gd.Worlds w s g c E I):=by
 obtain ⟨w0,hw0,hbox,hres,hg0,hsz⟩:=Gd.boxes w gC gE gI cC cE cI s g
 have ca':=hide (refTwin_any s g c E I gC gE gI cC cE cI w0 (hL.on hg0))
 obtain ⟨b0,b1,b2,b3,b4,b5,b6,b7,b8,b9,b10⟩:=hbox.eleven
 have hbx:=hide hbox
 have hrs:=hide hres
 have hg0':=hide hg0
 have hsz':=hide hsz
 have hfB:=hbox.free
 have hno':=hide hno
 clear hL hbox hres hg0 hsz hno
 unfold Gd.world at hw0 ca' ⊢
 go_enter Tryz.func62,Tryz.ntmps62
 go_upto_region 1 with fail
 rw [←hw0]
 clear hw0
 obtain ⟨B,hB⟩:∃B,w.heap.size=B:=⟨_,rfl⟩
 rw [hB] at hbx hrs hsz' b0 b1 b2 b3 b4 b5 b6 b7 b8 b9 b10 ⊢
 have hB':=hide hB
 rw [hB] at hfB
 clear hB
 go_cut [] from 7 (fun wx=>∃g1 g2 g3 c1 c2 c3,Hid (Gd.Boxed w wx B g1 g2 g3 c1 c2 c3 s g c E I))
 case first =>
  go_wp2_with fail
  refine (uh ca').mono ?_
  rintro e w1 ⟨g1,g2,g3,c1,c2,c3,rfl,hcap,l1,l2,l3,n1,n2,n3,hL1,hg1⟩
  obtain ⟨y0,y1,y2,y3,y4,y5,y6,y7,y8,y9,y10⟩:=((uh hbx).on hg1).eleven
  have fB:=((uh hbx).on hg1).free
  have fin:Hid (Gd.Boxed w (w1.setCells B 0 (Gd.world s g1 g2 g3 c1 c2 c3 g).toList) B g1 g2 g3 c1 c2 c3 s g c E I):=Gd.Boxed.new (uh hbx) (uh hrs) (uh hg0') (uh hB') (uh hsz') hcap l1 l2 l3 n1 n2 n3 hL1 hg1
  unfold Gd.world at fin ⊢
  clear hcap l1 l2 l3 n1 n2 n3 hL1 hg1 b0 b1 b2 b3 b4 b5 b6 b7 b8 b9 b10 hfB ca'
  go_wp2_with fail
  go_meet
  exact ⟨g1,g2,g3,c1,c2,c3,fin⟩
 case rest =>
  obtain ⟨g1,g2,g3,c1,c2,c3,hX⟩:=hcut
  clear b0 b1 b2 b3 b4 b5 b6 b7 b8 b9 b10 hfB ca' hbx hrs hg0' hsz' hB'
  clear w0
  have b5:=(uh hX).hold.box.eleven.2.2.2.2.2.1
  have ch:=refHero7_any g2 c2 E seat wc (uh hX).hold.lists.own
  obtain ⟨h,hh⟩:∃h,Gd.hero E seat=h:=⟨_,rfl⟩
  rw [hh] at ch hno'
  have ch':=hide ch
  clear ch hh
  go_wp2_with fail
  refine (uh ch').mono ?_
  rintro e w2 ⟨rfl,hg2⟩
  have hbx:=hide ((uh hX).on hg2)
  clear hg2 ch' b5 hX
  obtain ⟨b0,b1,b2,b3,b4,b5,b6,b7,b8,b9,b10⟩:=(uh hbx).hold.box.eleven
  have fz:=(uh hbx).res.free
  obtain ⟨z0,z1,z2,z3,z4,z5,z6,z7,z8,z9,z10⟩:=Gd.res_cells (uh hbx).res
  have hfin:=hide (fun vs=>(uh hbx).worlds vs)
  have hn:=uh hno'
  clear hno'
  by_cases h0:h<0
  ·clear hn
   go_wp2
   refine bodyPost_ret (v:=.agg (Gd.world s g1 g2 g3 c1 c2 c3 g)) (by simp [results,Tryz.results62,go_sem,Gd.world,z0,z1,z2,z3,z4,z5,z6,z7,z8,z9,z10]) rfl ?_
   exact uh hfin [_,_,_,_,_,_,_,_,_,_,_]
  ·by_cases h1:seat<0
   ·clear hn
    go_wp2
    refine bodyPost_ret (v:=.agg (Gd.world s g1 g2 g3 c1 c2 c3 g)) (by simp [results,Tryz.results62,go_sem,Gd.world,z0,z1,z2,z3,z4,z5,z6,z7,z8,z9,z10]) rfl ?_
    exact uh hfin [_,_,_,_,_,_,_,_,_,_,_]
   ·have h2:¬seat<4:=by omega
    clear hn
    go_wp2
    refine bodyPost_ret (v:=.agg (Gd.world s g1 g2 g3 c1 c2 c3 g)) (by simp [results,Tryz.results62,go_sem,Gd.world,z0,z1,z2,z3,z4,z5,z6,z7,z8,z9,z10]) rfl ?_
    exact uh hfin [_,_,_,_,_,_,_,_,_,_,_]

theorem refDo_any (s g c:Nat→Int) (E I:Nat→Nat→Int) (gC gE gI cC cE cI:Nat) (seat input:Int) (w:World) (hL:Gd.Lists w gC gE gI c E I) (F:Gd.Fine c g E I) :
  Calls Tryz.prog 62 #[.agg (Gd.world s gC gE gI cC cE cI g),.int .i64 seat,.int .i64 input] w (Gd.Worlds w s (Gd.nextG c g E I seat input) c (Gd.nextE E I seat input) (Gd.nextI c g E I seat input)):=by
 unfold Gd.nextG Gd.nextE Gd.nextI
 by_cases hc:0≤seat∧seat<4∧0≤Gd.hero E seat
 ·obtain ⟨s0,s4,h0⟩:=hc
  obtain ⟨t,rfl⟩:∃t:Nat,seat=(t:Int):=⟨seat.toNat,by omega⟩
  obtain ⟨k,hk,hh,he,_⟩:=Gd.hero_pos h0
  have hc:0≤(t:Int)∧(t:Int)<4∧0≤Gd.hero E (t:Int):=⟨s0,s4,h0⟩
  rw [if_pos hc,if_pos hc,if_pos hc,hh,Int.toNat_natCast,Int.toNat_natCast]
  exact Gd.does (input:=input) F (by omega) hk (fun a b d e f h=>refDo_one s g c E I gC gE gI cC cE cI t k w hL (by omega) hk hh input F.cells fun _ p0 _ _=>p0 a b d e f h) (fun a b d=>refDo_one s g c E I gC gE gI cC cE cI t k w hL (by omega) hk hh input F.cells fun _ _ p1 _=>p1 a b d) (fun a b d e f h i=>refDo_one s g c E I gC gE gI cC cE cI t k w hL (by omega) hk hh input F.cells fun _ _ _ p2=>p2 a b d e f h i) (fun a b d e f h i j=>refDo_two s g c E I gC gE gI cC cE cI t k w hL (by omega) hk hh input F.cells fun _ p0 _ _=>p0 a b d e f h i j) (fun a b d e f h i j=>refDo_two s g c E I gC gE gI cC cE cI t k w hL (by omega) hk hh input F.cells fun _ _ p1 _=>p1 a b d e f h i j) (fun a b d=>refDo_two s g c E I gC gE gI cC cE cI t k w hL (by omega) hk hh input F.cells fun _ _ _ p2=>p2 a b d) (fun a b d e f h i=>refDo_three s g c E I gC gE gI cC cE cI t k w hL (by omega) hk hh input F.cells fun _ p0 _ _=>p0 a b d e f h i) (fun a b d=>refDo_three s g c E I gC gE gI cC cE cI t k w hL (by omega) hk hh input F.cells fun _ _ p1 _=>p1 a b d) (fun a b d e f h i j=>refDo_four s g c E I gC gE gI cC cE cI t k w hL (by omega) hk hh input F.cells fun _ p0 _ _=>p0 a b d e f h i j) (fun a b d e f h i j l m n=>refDo_four s g c E I gC gE gI cC cE cI t k w hL (by omega) hk hh input F.cells fun _ _ p1 _=>p1 a b d e f h i j l m n) (fun a b d=>refDo_three s g c E I gC gE gI cC cE cI t k w hL (by omega) hk hh input F.cells fun _ _ _ p2=>p2 a b d) (fun a b d e f h=>refDo_four s g c E I gC gE gI cC cE cI t k w hL (by omega) hk hh input F.cells fun _ _ _ p2=>p2 a b d e f h) (fun a b d e f h=>refDo_five s g c E I gC gE gI cC cE cI t k w hL (by omega) hk hh input F.cells fun _ p0 _=>p0 a b d e f h) (fun a b d=>refDo_five s g c E I gC gE gI cC cE cI t k w hL (by omega) hk hh input F.cells fun _ _ p1=>p1 a b d) (fun a b d e=>refDo_six s g c E I gC gE gI cC cE cI t k w hL (by omega) hk hh input F.cells fun _ p0 _=>p0 a b d e) (fun a b d e f=>refDo_six s g c E I gC gE gI cC cE cI t k w hL (by omega) hk hh input F.cells fun _ _ p1=>p1 a b d e f) (fun a b d e f h i=>refDo_seven s g c E I gC gE gI cC cE cI t k w hL (by omega) hk hh input F.cells fun _ p0 _=>p0 a b d e f h i) (fun a b d e f h i j l m=>refDo_seven s g c E I gC gE gI cC cE cI t k w hL (by omega) hk hh input F.cells fun _ _ p1=>p1 a b d e f h i j l m)
 ·rw [if_neg hc,if_neg hc,if_neg hc]
  exact refDo_none s g c E I gC gE gI cC cE cI seat input w hL hc


open Go.RowKit

set_option maxRecDepth 16000 in
set_option maxHeartbeats 12800000 in
theorem same7_two (s t g h c d:Nat→Int) (E F I J:Nat→Nat→Int) (gC gE gI cC cE cI jC jE jI dC dE dI:Nat) (w:World) (hL:Gd.Lists w gC gE gI c E I) (hL2:Gd.Lists w jC jE jI d F J) (hc:∀i,0≤c i∧c i≤255) (hd:∀i,0≤d i∧d i≤255) :
  Calls Tryz.prog 15 #[.agg (Gd.world s gC gE gI cC cE cI g),.agg (Gd.world t jC jE jI dC dE dI h)] w (Says w (.bool (Sn.sameW s t g h c d E F I J))):=by
 obtain ⟨W0,hW⟩:∃W,W=(w.alloc (.cells (Gd.world s gC gE gI cC cE cI g) 31)).alloc (.cells (Gd.world t jC jE jI dC dE dI h) 31):=⟨_,rfl⟩
 have hg:w.grownBy W0 none:=by rw [hW];exact gal (World.grownBy_alloc _ _ _) _
 have x1:Lie W0 w.heap.size 31 11 (Gd.box s gC gE gI cC cE cI g):=by
  rw [hW]
  exact ((Arr.world (heap_alloc_new w _)).alloc _).lie
 have x2:Lie W0 (w.heap.size+1) 31 11 (Gd.box t jC jE jI dC dE dI h):=by
  rw [hW]
  have hh:=heap_alloc_new (w.alloc (.cells (Gd.world s gC gE gI cC cE cI g) 31)) (.cells (Gd.world t jC jE jI dC dE dI h) 31)
  rw [show (w.alloc (.cells (Gd.world s gC gE gI cC cE cI g) 31)).heap.size=w.heap.size+1 by simp] at hh
  exact (Arr.world hh).lie
 obtain ⟨B,hB⟩:∃B,w.heap.size=B:=⟨_,rfl⟩
 rw [hB] at x1 x2
 have x1':=hide x1
 have x2':=hide x2
 have hL':=hide (hL.on hg)
 have hL2':=hide (hL2.on hg)
 have hg':=hide hg
 have t1:=(uh hL').cells.text (cap:=cC)
 have t2:=(uh hL2').cells.text (cap:=dC)
 obtain ⟨X,hX⟩:∃T,Gd.text c=T:=⟨_,rfl⟩
 obtain ⟨Y,hY⟩:∃T,Gd.text d=T:=⟨_,rfl⟩
 obtain ⟨k1,e1⟩:∃k,Sn.allB (fun i=>c i == d i) 384=k:=⟨_,rfl⟩
 have hXY:(X.toList == Y.toList)=k1:=by rw [←hX,←hY,←e1];exact Sn.text_ne hc hd
 rw [hX] at t1
 rw [hY] at t2
 obtain ⟨a0,a1,a2,a3,a4,a5,a6,a7,a8,a9,a10⟩:=x1.eleven
 obtain ⟨b0,b1,b2,b3,b4,b5,b6,b7,b8,b9,b10⟩:=x2.eleven
 have keep:Hid (∀x,W0.grownBy x none→(x.cell? ⟨B,5,none⟩=some (.slice (some ⟨gE,0,none⟩) 32 cE)∧x.cell? ⟨B,6,none⟩=some (.slice (some ⟨gI,0,none⟩) 40 cI)∧x.cell? ⟨B+1,5,none⟩=some (.slice (some ⟨jE,0,none⟩) 32 dE)∧x.cell? ⟨B+1,6,none⟩=some (.slice (some ⟨jI,0,none⟩) 40 dI))):=fun x h =>
  ⟨((uh x1').on h).eleven.2.2.2.2.2.1,((uh x1').on h).eleven.2.2.2.2.2.2.1,((uh x2').on h).eleven.2.2.2.2.2.1,((uh x2').on h).eleven.2.2.2.2.2.2.1⟩
 have hgold:=fun wx=>run_ne_gold g h wx
 obtain ⟨D,hD⟩:∃D,Says w (.bool (Sn.sameW s t g h c d E F I J))=D:=⟨_,rfl⟩
 have hyes:Hid (∀x,W0.grownBy x none→Sn.sameW s t g h c d E F I J=true→D (.returned (.bool true)) x):=fun x hx e=>by
  rw [←hD,e]
  exact ⟨rfl,gtr (uh hg') hx⟩
 have hno:Hid (∀x,W0.grownBy x none→Sn.sameW s t g h c d E F I J=false→D (.returned (.bool false)) x):=fun x hx e=>by
  rw [←hD,e]
  exact ⟨rfl,gtr (uh hg') hx⟩
 have hW4:Hid (∀j,j<4→s j≠t j→Sn.sameW s t g h c d E F I J=false):=fun j hj hn=>by
  unfold Sn.sameW
  rw [Sn.sameH_no_s hj hn]
  rfl
 have hWg:Hid (Sn.sameG g h=false→Sn.sameW s t g h c d E F I J=false):=fun e=>by
  unfold Sn.sameW Sn.sameH
  rw [e]
  simp
 have hWc:Hid (k1=false→Sn.sameW s t g h c d E F I J=false):=fun e=>by
  unfold Sn.sameW
  rw [e1,e]
  simp
 have hWe:Hid (∀k,k<32→Sn.sameE (E k) (F k)=false→Sn.sameW s t g h c d E F I J=false):=fun k hk e=>by
  unfold Sn.sameW
  rw [Sn.allB_no (q:=fun i=>Sn.sameE (E i) (F i)) (k:=k) e hk]
  simp
 have hWi:Hid (∀k,k<40→Sn.sameI (I k) (J k)=false→Sn.sameW s t g h c d E F I J=false):=fun k hk e=>by
  unfold Sn.sameW
  rw [Sn.allB_no (q:=fun i=>Sn.sameI (I i) (J i)) (k:=k) e hk]
  simp
 have hWy:Hid ((∀j,j<4→s j=t j)→Sn.sameG g h=true→k1=true→(∀k,k<32→Sn.sameE (E k) (F k)=true)→(∀k,k<40→Sn.sameI (I k) (J k)=true)→Sn.sameW s t g h c d E F I J=true):=fun h1 h2 h3 h4 h5=>by
  unfold Sn.sameW
  rw [(Sn.sameH_iff s t g h).2 ⟨h1,(Sn.sameG_iff g h).1 h2⟩,e1,h3,Sn.allB_yes (q:=fun i=>Sn.sameE (E i) (F i)) fun k hk=>h4 k hk,Sn.allB_yes (q:=fun i=>Sn.sameI (I i) (J i)) fun k hk=>h5 k hk]
  rfl
 rw [hD]
 obtain ⟨m,hm⟩:∃m,Sn.sameG g h=m:=⟨_,rfl⟩
 rw [hm] at hgold hWg hWy
 clear hL hL2 hg hX hY x1 x2 e1 hD hm hc hd
 unfold Gd.world at hW ⊢
 go_enter Tryz.func15,Tryz.ntmps15
 go_upto_region 1 with fail
 rw [←hW]
 clear hW hB
 by_cases q0:s 0=t 0
 ·have r0:(s 0 != t 0)=false:=by simp [q0]
  clear q0
  by_cases q1:s 1=t 1
  ·have r1:(s 1 != t 1)=false:=by simp [q1]
   clear q1
   by_cases q2:s 2=t 2
   ·have r2:(s 2 != t 2)=false:=by simp [q2]
    clear q2
    by_cases q3:s 3=t 3
    ·have r3:(s 3 != t 3)=false:=by simp [q3]
     clear q3
     have HS:Hid (∀j,j<4→s j=t j):=fun j hj=>by
      have e0:s 0=t 0:=by simpa using r0
      have e1:s 1=t 1:=by simpa using r1
      have e2:s 2=t 2:=by simpa using r2
      have e3:s 3=t 3:=by simpa using r3
      rcases (show j=0∨j=1∨j=2∨j=3 by omega) with rfl | rfl | rfl | rfl <;> assumption
     cases m with
     | false =>
      have hn:=hide (uh hno W0 (World.grownBy.refl _ _) (uh hWg rfl))
      go_wp2
      exact uh hn
     | true =>
      cases k1 with
      | false =>
       have hn:=hide (uh hno W0 (World.grownBy.refl _ _) (uh hWc rfl))
       have hXY':(X.toList == Y.toList)=false:=hXY
       clear hXY
       go_wp2
       exact uh hn
      | true =>
       have hXY':(X.toList == Y.toList)=true:=hXY
       clear hXY
       have hW5:=hide (uh hWy (uh HS) rfl rfl)
       clear hWy hWg hWc hW4
       go_wp2_with fail
       go_loopw [5] (fun vi wr=>∃k:Nat,k≤32∧vi=.int .i64 (k:Int)∧Hid (∀i,i<k→Sn.sameE (E i) (F i)=true)∧W0.grownBy wr none) (fun vi _=>200 - (intOf vi).toNat)
       case atStart=>exact ⟨0,by omega,rfl,fun i hi=>absurd hi (by omega),World.grownBy.refl _ _⟩
       case round =>
        clear hgold t1 t2 a0 a1 a2 a3 a4 a5 a6 a7 a8 a9 a10 b0 b1 b2 b3 b4 b5 b6 b7 b8 b9 b10 hXY' r0 r1 r2 r3
        obtain ⟨k,hk,rfl,hall,hgr⟩:=hrel
        have hgr':=hide hgr
        obtain ⟨k1,k2,k3,k4⟩:=uh keep wr hgr
        clear hgr
        by_cases hlt:k<32
        ·have hlt':(k:Int)<32:=by omega
         obtain ⟨u0,u1,u2,u3,u4,u5,u6,u7,u8,u9,u10⟩:=((uh hL').on (uh hgr')).own.ents.row hlt
         obtain ⟨s0,s1,s2,s3,s4,s5,s6,s7,s8,s9,s10⟩:=((uh hL2').on (uh hgr')).own.ents.row hlt
         have hdr:Hid (∀m,W0.grownBy (wr.drewN m) none):=fun m=>gdw (uh hgr') m
         have hcmp:∀wx:World,(binOp .neq 70 (.agg #[.int .i64 (E k 0),.int .i64 (E k 1),.int .i64 (E k 2),.int .i64 (E k 3),.int .i64 (E k 4),.int .i64 (E k 5),.int .i64 (E k 6),.int .i64 (E k 7),.int .i64 (E k 8),.int .i64 (E k 9),.int .i64 (E k 10)]) (.agg #[.int .i64 (F k 0),.int .i64 (F k 1),.int .i64 (F k 2),.int .i64 (F k 3),.int .i64 (F k 4),.int .i64 (F k 5),.int .i64 (F k 6),.int .i64 (F k 7),.int .i64 (F k 8),.int .i64 (F k 9),.int .i64 (F k 10)])).run Tryz.prog wx=.ok (.bool (!Sn.sameE (E k) (F k))) wx:=fun wx=>run_ne_ent (E k) (F k) wx
         obtain ⟨p,hp⟩:∃p,Sn.sameE (E k) (F k)=p:=⟨_,rfl⟩
         have HP:=hide hp
         rw [hp] at hcmp
         have HL:=hide hlt
         clear hlt hp
         cases p with
         | true =>
          have hall2:Hid (∀i,i<k+1→Sn.sameE (E i) (F i)=true):=fun i hi=>by
           by_cases e:i=k
           ·rw [e];exact uh HP
           ·exact uh hall i (by omega)
          go_wp2_with fail
          go_quiet (fail)
          go_wp2
          go_roundw
          case rel=>exact ⟨k+1,by have:=uh HL;omega,by go_num,hall2,uh hdr _⟩
          case measure=>simp [intOf];have:=uh HL;omega
         | false =>
          have hn:=hide (fun m=>uh hno _ (uh hdr m) (uh hWe k (uh HL) (uh HP)))
          go_wp2_with fail
          go_quiet (fail)
          go_wp2
          exact uh hn _
        ·have hge:¬(k:Int)<32:=by omega
         have hallE:Hid (∀i,i<32→Sn.sameE (E i) (F i)=true):=fun i hi=>uh hall i (by omega)
         have hW6:=hide (uh hW5 (uh hallE))
         clear hlt
         go_wp2_with fail
         go_loopw [6] (fun vi wr=>∃k:Nat,k≤40∧vi=.int .i64 (k:Int)∧Hid (∀i,i<k→Sn.sameI (I i) (J i)=true)∧W0.grownBy wr none) (fun vi _=>200 - (intOf vi).toNat)
         case atStart=>exact ⟨0,by omega,rfl,fun i hi=>absurd hi (by omega),uh hgr'⟩
         case round =>
          clear k1 k2 k3 k4 hge hgr' hall hallE hk
          obtain ⟨k,hk,rfl,hall,hgr⟩:=hrel
          have hgr':=hide hgr
          obtain ⟨k1,k2,k3,k4⟩:=uh keep wr hgr
          clear hgr
          by_cases hlt:k<40
          ·have hlt':(k:Int)<40:=by omega
           obtain ⟨u0,u1,u2,u3⟩:=((uh hL').on (uh hgr')).its.row hlt
           obtain ⟨s0,s1,s2,s3⟩:=((uh hL2').on (uh hgr')).its.row hlt
           have hdr:Hid (∀m,W0.grownBy (wr.drewN m) none):=fun m=>gdw (uh hgr') m
           have hcmp:∀wx:World,(binOp .neq 72 (.agg #[.int .i64 (I k 0),.int .i64 (I k 1),.int .i64 (I k 2),.int .i64 (I k 3)]) (.agg #[.int .i64 (J k 0),.int .i64 (J k 1),.int .i64 (J k 2),.int .i64 (J k 3)])).run Tryz.prog wx=.ok (.bool (!Sn.sameI (I k) (J k))) wx:=fun wx=>run_ne_item (I k 0) (I k 1) (I k 2) (I k 3) (J k 0) (J k 1) (J k 2) (J k 3) wx
           obtain ⟨p,hp⟩:∃p,Sn.sameI (I k) (J k)=p:=⟨_,rfl⟩
           have HP:=hide hp
           rw [hp] at hcmp
           have HL:=hide hlt
           clear hlt hp
           cases p with
           | true =>
            have hall2:Hid (∀i,i<k+1→Sn.sameI (I i) (J i)=true):=fun i hi=>by
             by_cases e:i=k
             ·rw [e];exact uh HP
             ·exact uh hall i (by omega)
            go_wp2_with fail
            go_quiet (fail)
            go_wp2
            go_roundw
            case rel=>exact ⟨k+1,by have:=uh HL;omega,by go_num,hall2,uh hdr _⟩
            case measure=>simp [intOf];have:=uh HL;omega
           | false =>
            have hn:=hide (fun m=>uh hno _ (uh hdr m) (uh hWi k (uh HL) (uh HP)))
            go_wp2_with fail
            go_quiet (fail)
            go_wp2
            exact uh hn _
          ·have hge:¬(k:Int)<40:=by omega
           have hfin:=hide (uh hyes _ (uh hgr') (uh hW6 fun i hi=>uh hall i (by omega)))
           clear hlt hk
           go_wp2
           exact uh hfin
    ·have r3:(s 3 != t 3)=true:=by simp [q3]
     have hn:=hide (uh hno W0 (World.grownBy.refl _ _) (uh hW4 3 (by omega) q3))
     clear q3
     go_wp2
     exact uh hn
   ·have r2:(s 2 != t 2)=true:=by simp [q2]
    have hn:=hide (uh hno W0 (World.grownBy.refl _ _) (uh hW4 2 (by omega) q2))
    clear q2
    go_wp2
    exact uh hn
  ·have r1:(s 1 != t 1)=true:=by simp [q1]
   have hn:=hide (uh hno W0 (World.grownBy.refl _ _) (uh hW4 1 (by omega) q1))
   clear q1
   go_wp2
   exact uh hn
 ·have r0:(s 0 != t 0)=true:=by simp [q0]
  have hn:=hide (uh hno W0 (World.grownBy.refl _ _) (uh hW4 0 (by omega) q0))
  clear q0
  go_wp2
  exact uh hn

end Go.Proofs.YtkcooekhigmioaaGreat
