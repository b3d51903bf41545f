import Derived.Test.YtepppmepilffcaaGreatPart46
import Derived.Test.YtepppmepilffcaaGreatPart47
import Derived.Test.YtepppmepilffcaaGreatPart48
import Derived.Test.YtepppmepilffcaaGreatPart49
import Derived.Test.YtepppmepilffcaaGreatPart50
import Derived.Test.YtepppmepilffcaaGreatPart51
import Derived.Test.YtepppmepilffcaaGreatPart52
namespace Go.Proofs.YtepppmepilffcaaGreat
open Go.RowKit

set_option maxRecDepth 8000 in
set_option maxHeartbeats 12800000 in
theorem refDo_none (s g c:Nat→Int) (E I:Nat→Nat→Int) (gC gE gI cC cE cI:Nat) (seat input:Int) (w:World) (hL:Gd.Lists w gC gE gI c E I) (hno:¬(0≤seat∧seat<4∧0≤Gd.hero E seat)) :
  Calls Tryz.prog 52 #[.agg (Gd.world s gC gE gI cC cE cI g),.int .i64 seat,.int .i64 input] w (Gd.Worlds w s g c E I):=by
 obtain ⟨w0,hw0,hbox,hres,hg0,hsz⟩:=Gd.boxes w gC gE gI cC cE cI s g
 have ca':=hide (refTwin_any s g c E I gC gE gI cC cE cI w0 (hL.on hg0))
 obtain ⟨b0,b1,b2,b3,b4,b5,b6,b7,b8,b9,b10⟩:=hbox.eleven
 have hbx:=hide hbox
 have hrs:=hide hres
 have hg0':=hide hg0
 have hsz':=hide hsz
 have hfB:=hbox.free
 have hno':=hide hno
 clear hL hbox hres hg0 hsz hno
 unfold Gd.world at hw0 ca' ⊢
 go_enter Tryz.func52,Tryz.ntmps52
 go_upto_region 1 with fail
 rw [←hw0]
 clear hw0
 obtain ⟨B,hB⟩:∃B,w.heap.size=B:=⟨_,rfl⟩
 rw [hB] at hbx hrs hsz' b0 b1 b2 b3 b4 b5 b6 b7 b8 b9 b10 ⊢
 have hB':=hide hB
 rw [hB] at hfB
 clear hB
 go_cut [] from 7 (fun wx=>∃g1 g2 g3 c1 c2 c3,Hid (Gd.Boxed w wx B g1 g2 g3 c1 c2 c3 s g c E I))
 case first =>
  go_wp2_with fail
  refine (uh ca').mono ?_
  rintro e w1 ⟨g1,g2,g3,c1,c2,c3,rfl,hcap,l1,l2,l3,n1,n2,n3,hL1,hg1⟩
  obtain ⟨y0,y1,y2,y3,y4,y5,y6,y7,y8,y9,y10⟩:=((uh hbx).on hg1).eleven
  have fB:=((uh hbx).on hg1).free
  have fin:Hid (Gd.Boxed w (w1.setCells B 0 (Gd.world s g1 g2 g3 c1 c2 c3 g).toList) B g1 g2 g3 c1 c2 c3 s g c E I):=Gd.Boxed.new (uh hbx) (uh hrs) (uh hg0') (uh hB') (uh hsz') hcap l1 l2 l3 n1 n2 n3 hL1 hg1
  unfold Gd.world at fin ⊢
  clear hcap l1 l2 l3 n1 n2 n3 hL1 hg1 b0 b1 b2 b3 b4 b5 b6 b7 b8 b9 b10 hfB ca'
  go_wp2_with fail
  go_meet
  exact ⟨g1,g2,g3,c1,c2,c3,fin⟩
 case rest =>
  obtain ⟨g1,g2,g3,c1,c2,c3,hX⟩:=hcut
  clear b0 b1 b2 b3 b4 b5 b6 b7 b8 b9 b10 hfB ca' hbx hrs hg0' hsz' hB'
  clear w0
  have b5:=(uh hX).hold.box.eleven.2.2.2.2.2.1
  have ch:=refHero7_any g2 c2 E seat wc (uh hX).hold.lists.own
  obtain ⟨h,hh⟩:∃h,Gd.hero E seat=h:=⟨_,rfl⟩
  rw [hh] at ch hno'
  have ch':=hide ch
  clear ch hh
  go_wp2_with fail
  refine (uh ch').mono ?_
  rintro e w2 ⟨rfl,hg2⟩
  have hbx:=hide ((uh hX).on hg2)
  clear hg2 ch' b5 hX
  obtain ⟨b0,b1,b2,b3,b4,b5,b6,b7,b8,b9,b10⟩:=(uh hbx).hold.box.eleven
  have fz:=(uh hbx).res.free
  obtain ⟨z0,z1,z2,z3,z4,z5,z6,z7,z8,z9,z10⟩:=Gd.res_cells (uh hbx).res
  have hfin:=hide (fun vs=>(uh hbx).worlds vs)
  have hn:=uh hno'
  clear hno'
  by_cases h0:h<0
  ·clear hn
   go_wp2
   refine bodyPost_ret (v:=.agg (Gd.world s g1 g2 g3 c1 c2 c3 g)) (by simp [results,Tryz.results52,go_sem,Gd.world,z0,z1,z2,z3,z4,z5,z6,z7,z8,z9,z10]) rfl ?_
   exact uh hfin [_,_,_,_,_,_,_,_,_,_,_]
  ·by_cases h1:seat<0
   ·clear hn
    go_wp2
    refine bodyPost_ret (v:=.agg (Gd.world s g1 g2 g3 c1 c2 c3 g)) (by simp [results,Tryz.results52,go_sem,Gd.world,z0,z1,z2,z3,z4,z5,z6,z7,z8,z9,z10]) rfl ?_
    exact uh hfin [_,_,_,_,_,_,_,_,_,_,_]
   ·have h2:¬seat<4:=by omega
    clear hn
    go_wp2
    refine bodyPost_ret (v:=.agg (Gd.world s g1 g2 g3 c1 c2 c3 g)) (by simp [results,Tryz.results52,go_sem,Gd.world,z0,z1,z2,z3,z4,z5,z6,z7,z8,z9,z10]) rfl ?_
    exact uh hfin [_,_,_,_,_,_,_,_,_,_,_]

theorem refDo_any (s g c:Nat→Int) (E I:Nat→Nat→Int) (gC gE gI cC cE cI:Nat) (seat input:Int) (w:World) (hL:Gd.Lists w gC gE gI c E I) (F:Gd.Fine c g E I) :
  Calls Tryz.prog 52 #[.agg (Gd.world s gC gE gI cC cE cI g),.int .i64 seat,.int .i64 input] w (Gd.Worlds w s (Gd.nextG c g E I seat input) c (Gd.nextE E I seat input) (Gd.nextI c g E I seat input)):=by
 unfold Gd.nextG Gd.nextE Gd.nextI
 by_cases hc:0≤seat∧seat<4∧0≤Gd.hero E seat
 ·obtain ⟨s0,s4,h0⟩:=hc
  obtain ⟨t,rfl⟩:∃t:Nat,seat=(t:Int):=⟨seat.toNat,by omega⟩
  obtain ⟨k,hk,hh,he,_⟩:=Gd.hero_pos h0
  have hc:0≤(t:Int)∧(t:Int)<4∧0≤Gd.hero E (t:Int):=⟨s0,s4,h0⟩
  rw [if_pos hc,if_pos hc,if_pos hc,hh,Int.toNat_natCast,Int.toNat_natCast]
  exact Gd.does (input:=input) F (by omega) hk (fun a b d e f h=>refDo_one s g c E I gC gE gI cC cE cI t k w hL (by omega) hk hh input F.cells fun _ p0 _ _=>p0 a b d e f h) (fun a b d=>refDo_one s g c E I gC gE gI cC cE cI t k w hL (by omega) hk hh input F.cells fun _ _ p1 _=>p1 a b d) (fun a b d e f h i=>refDo_one s g c E I gC gE gI cC cE cI t k w hL (by omega) hk hh input F.cells fun _ _ _ p2=>p2 a b d e f h i) (fun a b d e f h i j=>refDo_two s g c E I gC gE gI cC cE cI t k w hL (by omega) hk hh input F.cells fun _ p0 _ _=>p0 a b d e f h i j) (fun a b d e f h i j=>refDo_two s g c E I gC gE gI cC cE cI t k w hL (by omega) hk hh input F.cells fun _ _ p1 _=>p1 a b d e f h i j) (fun a b d=>refDo_two s g c E I gC gE gI cC cE cI t k w hL (by omega) hk hh input F.cells fun _ _ _ p2=>p2 a b d) (fun a b d e f h i=>refDo_three s g c E I gC gE gI cC cE cI t k w hL (by omega) hk hh input F.cells fun _ p0 _ _=>p0 a b d e f h i) (fun a b d=>refDo_three s g c E I gC gE gI cC cE cI t k w hL (by omega) hk hh input F.cells fun _ _ p1 _=>p1 a b d) (fun a b d e f h i j=>refDo_four s g c E I gC gE gI cC cE cI t k w hL (by omega) hk hh input F.cells fun _ p0 _ _=>p0 a b d e f h i j) (fun a b d e f h i j l m n=>refDo_four s g c E I gC gE gI cC cE cI t k w hL (by omega) hk hh input F.cells fun _ _ p1 _=>p1 a b d e f h i j l m n) (fun a b d=>refDo_three s g c E I gC gE gI cC cE cI t k w hL (by omega) hk hh input F.cells fun _ _ _ p2=>p2 a b d) (fun a b d e f h=>refDo_four s g c E I gC gE gI cC cE cI t k w hL (by omega) hk hh input F.cells fun _ _ _ p2=>p2 a b d e f h) (fun a b d e f h=>refDo_five s g c E I gC gE gI cC cE cI t k w hL (by omega) hk hh input F.cells fun _ p0 _=>p0 a b d e f h) (fun a b d=>refDo_five s g c E I gC gE gI cC cE cI t k w hL (by omega) hk hh input F.cells fun _ _ p1=>p1 a b d) (fun a b d e=>refDo_six s g c E I gC gE gI cC cE cI t k w hL (by omega) hk hh input F.cells fun _ p0 _=>p0 a b d e) (fun a b d e f=>refDo_six s g c E I gC gE gI cC cE cI t k w hL (by omega) hk hh input F.cells fun _ _ p1=>p1 a b d e f) (fun a b d e f h i=>refDo_seven s g c E I gC gE gI cC cE cI t k w hL (by omega) hk hh input F.cells fun _ p0 _=>p0 a b d e f h i) (fun a b d e f h i j l m=>refDo_seven s g c E I gC gE gI cC cE cI t k w hL (by omega) hk hh input F.cells fun _ _ p1=>p1 a b d e f h i j l m)
 ·rw [if_neg hc,if_neg hc,if_neg hc]
  exact refDo_none s g c E I gC gE gI cC cE cI seat input w hL hc

end Go.Proofs.YtepppmepilffcaaGreat
