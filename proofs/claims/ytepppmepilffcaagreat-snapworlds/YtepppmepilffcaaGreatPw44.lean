import Derived.Test.YtepppmepilffcaaGreatPw37
import Derived.Test.YtepppmepilffcaaGreatPw38
import Derived.Test.YtepppmepilffcaaGreatPw39
import Derived.Test.YtepppmepilffcaaGreatPw40
import Derived.Test.YtepppmepilffcaaGreatPw41
import Derived.Test.YtepppmepilffcaaGreatPw42
import Derived.Test.YtepppmepilffcaaGreatPw43
import Derived.Test.YtepppmepilffcaaGreatPw25
namespace Go.Proofs.YtepppmepilffcaaGreat
open Go.RowKit

set_option maxRecDepth 8000 in
set_option maxHeartbeats 12800000 in
theorem refDo_none (s g c:Nat→Int) (E I:Nat→Nat→Int) (gC gE gI cC cE cI:Nat) (seat input:Int) (w:World) (hL:Gd.Lists w gC gE gI c E I) (hno:¬(0≤seat∧seat<4∧0≤Gd.hero E seat)) :
  Calls Tryz.prog 52 #[.agg (Gd.world s gC gE gI cC cE cI g),.int .i64 seat,.int .i64 input] w (Gd.Worlds w s g c E I):=by
 obtain ⟨w0,hw0,hbox,hres,hg0,hsz⟩:=Gd.boxes w gC gE gI cC cE cI s g
 have ca':=hide (refTwin_any s g c E I gC gE gI cC cE cI w0 (hL.on hg0))
 obtain ⟨b0,b1,b2,b3,b4,b5,b6,b7,b8,b9,b10⟩:=hbox.eleven
 have hbx:=hide hbox
 have hrs:=hide hres
 have hg0':=hide hg0
 have hsz':=hide hsz
 have hfB:=hbox.free
 have hno':=hide hno
 clear hL hbox hres hg0 hsz hno
 unfold Gd.world at hw0 ca' ⊢
 go_enter Tryz.func52,Tryz.ntmps52
 go_upto_region 1 with fail
 rw [←hw0]
 clear hw0
 obtain ⟨B,hB⟩:∃B,w.heap.size=B:=⟨_,rfl⟩
 rw [hB] at hbx hrs hsz' b0 b1 b2 b3 b4 b5 b6 b7 b8 b9 b10 ⊢
 have hB':=hide hB
 rw [hB] at hfB
 clear hB
 go_cut [] from 7 (fun wx=>∃g1 g2 g3 c1 c2 c3,Hid (Gd.Boxed w wx B g1 g2 g3 c1 c2 c3 s g c E I))
 case first =>
  go_wp2_with fail
  refine (uh ca').mono ?_
  rintro e w1 ⟨g1,g2,g3,c1,c2,c3,rfl,hcap,l1,l2,l3,n1,n2,n3,hL1,hg1⟩
  obtain ⟨y0,y1,y2,y3,y4,y5,y6,y7,y8,y9,y10⟩:=((uh hbx).on hg1).eleven
  have fB:=((uh hbx).on hg1).free
  have fin:Hid (Gd.Boxed w (w1.setCells B 0 (Gd.world s g1 g2 g3 c1 c2 c3 g).toList) B g1 g2 g3 c1 c2 c3 s g c E I):=Gd.Boxed.new (uh hbx) (uh hrs) (uh hg0') (uh hB') (uh hsz') hcap l1 l2 l3 n1 n2 n3 hL1 hg1
  unfold Gd.world at fin ⊢
  clear hcap l1 l2 l3 n1 n2 n3 hL1 hg1 b0 b1 b2 b3 b4 b5 b6 b7 b8 b9 b10 hfB ca'
  go_wp2_with fail
  go_meet
  exact ⟨g1,g2,g3,c1,c2,c3,fin⟩
 case rest =>
  obtain ⟨g1,g2,g3,c1,c2,c3,hX⟩:=hcut
  clear b0 b1 b2 b3 b4 b5 b6 b7 b8 b9 b10 hfB ca' hbx hrs hg0' hsz' hB'
  clear w0
  have b5:=(uh hX).hold.box.eleven.2.2.2.2.2.1
  have ch:=refHero7_any g2 c2 E seat wc (uh hX).hold.lists.own
  obtain ⟨h,hh⟩:∃h,Gd.hero E seat=h:=⟨_,rfl⟩
  rw [hh] at ch hno'
  have ch':=hide ch
  clear ch hh
  go_wp2_with fail
  refine (uh ch').mono ?_
  rintro e w2 ⟨rfl,hg2⟩
  have hbx:=hide ((uh hX).on hg2)
  clear hg2 ch' b5 hX
  obtain ⟨b0,b1,b2,b3,b4,b5,b6,b7,b8,b9,b10⟩:=(uh hbx).hold.box.eleven
  have fz:=(uh hbx).res.free
  obtain ⟨z0,z1,z2,z3,z4,z5,z6,z7,z8,z9,z10⟩:=Gd.res_cells (uh hbx).res
  have hfin:=hide (fun vs=>(uh hbx).worlds vs)
  have hn:=uh hno'
  clear hno'
  by_cases h0:h<0
  ·clear hn
   go_wp2
   refine bodyPost_ret (v:=.agg (Gd.world s g1 g2 g3 c1 c2 c3 g)) (by simp [results,Tryz.results52,go_sem,Gd.world,z0,z1,z2,z3,z4,z5,z6,z7,z8,z9,z10]) rfl ?_
   exact uh hfin [_,_,_,_,_,_,_,_,_,_,_]
  ·by_cases h1:seat<0
   ·clear hn
    go_wp2
    refine bodyPost_ret (v:=.agg (Gd.world s g1 g2 g3 c1 c2 c3 g)) (by simp [results,Tryz.results52,go_sem,Gd.world,z0,z1,z2,z3,z4,z5,z6,z7,z8,z9,z10]) rfl ?_
    exact uh hfin [_,_,_,_,_,_,_,_,_,_,_]
   ·have h2:¬seat<4:=by omega
    clear hn
    go_wp2
    refine bodyPost_ret (v:=.agg (Gd.world s g1 g2 g3 c1 c2 c3 g)) (by simp [results,Tryz.results52,go_sem,Gd.world,z0,z1,z2,z3,z4,z5,z6,z7,z8,z9,z10]) rfl ?_
    exact uh hfin [_,_,_,_,_,_,_,_,_,_,_]

theorem refDo_any (s g c:Nat→Int) (E I:Nat→Nat→Int) (gC gE gI cC cE cI:Nat) (seat input:Int) (w:World) (hL:Gd.Lists w gC gE gI c E I) (F:Gd.Fine c g E I) :
  Calls Tryz.prog 52 #[.agg (Gd.world s gC gE gI cC cE cI g),.int .i64 seat,.int .i64 input] w (Gd.Worlds w s (Gd.nextG c g E I seat input) c (Gd.nextE E I seat input) (Gd.nextI c g E I seat input)):=by
 unfold Gd.nextG Gd.nextE Gd.nextI
 by_cases hc:0≤seat∧seat<4∧0≤Gd.hero E seat
 ·obtain ⟨s0,s4,h0⟩:=hc
  obtain ⟨t,rfl⟩:∃t:Nat,seat=(t:Int):=⟨seat.toNat,by omega⟩
  obtain ⟨k,hk,hh,he,_⟩:=Gd.hero_pos h0
  have hc:0≤(t:Int)∧(t:Int)<4∧0≤Gd.hero E (t:Int):=⟨s0,s4,h0⟩
  rw [if_pos hc,if_pos hc,if_pos hc,hh,Int.toNat_natCast,Int.toNat_natCast]
  exact Gd.does (input:=input) F (by omega) hk (fun a b d e f h=>refDo_one s g c E I gC gE gI cC cE cI t k w hL (by omega) hk hh input F.cells fun _ p0 _ _=>p0 a b d e f h) (fun a b d=>refDo_one s g c E I gC gE gI cC cE cI t k w hL (by omega) hk hh input F.cells fun _ _ p1 _=>p1 a b d) (fun a b d e f h i=>refDo_one s g c E I gC gE gI cC cE cI t k w hL (by omega) hk hh input F.cells fun _ _ _ p2=>p2 a b d e f h i) (fun a b d e f h i j=>refDo_two s g c E I gC gE gI cC cE cI t k w hL (by omega) hk hh input F.cells fun _ p0 _ _=>p0 a b d e f h i j) (fun a b d e f h i j=>refDo_two s g c E I gC gE gI cC cE cI t k w hL (by omega) hk hh input F.cells fun _ _ p1 _=>p1 a b d e f h i j) (fun a b d=>refDo_two s g c E I gC gE gI cC cE cI t k w hL (by omega) hk hh input F.cells fun _ _ _ p2=>p2 a b d) (fun a b d e f h i=>refDo_three s g c E I gC gE gI cC cE cI t k w hL (by omega) hk hh input F.cells fun _ p0 _ _=>p0 a b d e f h i) (fun a b d=>refDo_three s g c E I gC gE gI cC cE cI t k w hL (by omega) hk hh input F.cells fun _ _ p1 _=>p1 a b d) (fun a b d e f h i j=>refDo_four s g c E I gC gE gI cC cE cI t k w hL (by omega) hk hh input F.cells fun _ p0 _ _=>p0 a b d e f h i j) (fun a b d e f h i j l m n=>refDo_four s g c E I gC gE gI cC cE cI t k w hL (by omega) hk hh input F.cells fun _ _ p1 _=>p1 a b d e f h i j l m n) (fun a b d=>refDo_three s g c E I gC gE gI cC cE cI t k w hL (by omega) hk hh input F.cells fun _ _ _ p2=>p2 a b d) (fun a b d e f h=>refDo_four s g c E I gC gE gI cC cE cI t k w hL (by omega) hk hh input F.cells fun _ _ _ p2=>p2 a b d e f h) (fun a b d e f h=>refDo_five s g c E I gC gE gI cC cE cI t k w hL (by omega) hk hh input F.cells fun _ p0 _=>p0 a b d e f h) (fun a b d=>refDo_five s g c E I gC gE gI cC cE cI t k w hL (by omega) hk hh input F.cells fun _ _ p1=>p1 a b d) (fun a b d e=>refDo_six s g c E I gC gE gI cC cE cI t k w hL (by omega) hk hh input F.cells fun _ p0 _=>p0 a b d e) (fun a b d e f=>refDo_six s g c E I gC gE gI cC cE cI t k w hL (by omega) hk hh input F.cells fun _ _ p1=>p1 a b d e f) (fun a b d e f h i=>refDo_seven s g c E I gC gE gI cC cE cI t k w hL (by omega) hk hh input F.cells fun _ p0 _=>p0 a b d e f h i) (fun a b d e f h i j l m=>refDo_seven s g c E I gC gE gI cC cE cI t k w hL (by omega) hk hh input F.cells fun _ _ p1=>p1 a b d e f h i j l m)
 ·rw [if_neg hc,if_neg hc,if_neg hc]
  exact refDo_none s g c E I gC gE gI cC cE cI seat input w hL hc

end Go.Proofs.YtepppmepilffcaaGreat

namespace Go.Proofs.YtepppmepilffcaaGreat
open Go.RowKit Go.ChangeShapes Go.WideShapes

theorem Cr.wf_bound {n:Int} (h:(Lit.int .i64 n).wf=true):-9223372036854775808≤n∧n≤9223372036854775807:=by
 simp only [Lit.wf,Bool.and_eq_true,decide_eq_true_eq,show IntKind.i64.min=-9223372036854775808 from by decide,show IntKind.i64.max=9223372036854775807 from by decide] at h
 exact h

theorem open_row {H:Type} {enc:TypeId × Value→H} {w:World} {base:Nat} {sp:Nat→Bool} {held:Bool} {fuel:Nat} {a:Option Addr} {len cap:Nat} {x:DataW H × List MemPlace} (h:DataW.trod enc Tryz.prog w base sp held fuel 47 [.slice a len cap]=some x):∃z,len≤maxLen∧Cr.Nums w a len z:=by
 rcases Go.Deep.open_slice Tryz.underlying47 h with ⟨hcs,_⟩ | ⟨a',len',cap',m,n,D,Pl,hcs,_,hl,hm,hmm,_,hx⟩
 ·simp only [List.cons.injEq,Value.slice.injEq,and_true] at hcs
  obtain ⟨rfl,rfl,rfl⟩:=hcs
  exact ⟨fun _=>0,Nat.zero_le _,fun i hi=>absurd hi (Nat.not_lt_zero i)⟩
 ·simp only [List.cons.injEq,Value.slice.injEq,and_true] at hcs
  obtain ⟨rfl,rfl,rfl⟩:=hcs
  have hc1:Tryz.prog.cellsOf 3=1:=by kernel_rfl
  rw [hc1] at hx
  have hlm:len≤m:=by rw [hmm];split <;> omega
  obtain ⟨z,hz⟩:∃z:Nat→Int,∀i,i<len→w.cell? (a'.add (i*1))=some (.int .i64 (z i))∧(Lit.int .i64 (z i)).wf=true:=by
   refine Go.Deep.choose_lt (α:=Int) (p:=fun i e=>w.cell? (a'.add (i*1))=some (.int .i64 e)∧(Lit.int .i64 e).wf=true) fun i hi=>?_
   obtain ⟨cs',h1,h2⟩:=hx i (by omega)
   obtain ⟨_,hlen,hcell⟩:=World.cells?_some h1
   obtain ⟨e,rfl,_,hw⟩:=DataW.trod_int Tryz.underlying3 h2
   have h0:=hcell 0 (by omega)
   exact ⟨e,by simpa [Addr.add] using h0,hw⟩
  refine ⟨z,Nat.le_trans hl hm,fun i hi=>?_⟩
  obtain ⟨b,off,spot⟩:=a'
  have hc0:=(hz i hi).1
  have hspot:spot=none:=by simpa [Addr.add] using World.cell?_spot (hz 0 (by omega)).1
  subst hspot
  rw [add_plain,Nat.mul_one] at hc0
  have hb:=Go.block_lt_of_cell hc0
  exact ⟨b,off,rfl,hb,hc0,Cr.wf_bound (hz i hi).2⟩

def Cr.Came (w:World) (a:Option Addr) (len:Nat) (V:Nat→Option Addr × Nat × Nat) (z:Nat→Nat→Int):Prop :=
 len≤maxLen∧∀i,i<len→∃b o,a=some ⟨b,o,none⟩∧b<w.heap.size∧w.cell? ⟨b,o+i,none⟩=some (.slice (V i).1 (V i).2.1 (V i).2.2)∧(V i).2.1≤maxLen∧Cr.Nums w (V i).1 (V i).2.1 (z i)

theorem Cr.Came.on {w w':World} {a:Option Addr} {len:Nat} {V:Nat→Option Addr × Nat × Nat} {z:Nat→Nat→Int} (h:Cr.Came w a len V z) (hg:w.grownBy w' none):Cr.Came w' a len V z :=
 ⟨h.1,fun i hi=>by
  obtain ⟨b,o,ha,hb,hc,hn,hz⟩:=h.2 i hi
  exact ⟨b,o,ha,Nat.lt_of_lt_of_le hb hg.size,(gce hg b _ hb (by simp)).trans hc,hn,hz.on hg⟩⟩

theorem open_rows {H:Type} {enc:TypeId × Value→H} {w:World} {base:Nat} {sp:Nat→Bool} {held:Bool} {fuel:Nat} {a:Option Addr} {len cap:Nat} {x:DataW H × List MemPlace} (h:DataW.trod enc Tryz.prog w base sp held fuel 22 [.slice a len cap]=some x):∃V z,Cr.Came w a len V z:=by
 rcases Go.Deep.open_slice Tryz.underlying22 h with ⟨hcs,_⟩ | ⟨a',len',cap',m,n,D,Pl,hcs,_,hl,hm,hmm,_,hx⟩
 ·simp only [List.cons.injEq,Value.slice.injEq,and_true] at hcs
  obtain ⟨rfl,rfl,rfl⟩:=hcs
  exact ⟨fun _=>(none,0,0),fun _ _=>0,Nat.zero_le _,fun i hi=>absurd hi (Nat.not_lt_zero i)⟩
 ·simp only [List.cons.injEq,Value.slice.injEq,and_true] at hcs
  obtain ⟨rfl,rfl,rfl⟩:=hcs
  have hc1:Tryz.prog.cellsOf 47=1:=by kernel_rfl
  rw [hc1] at hx
  have hlm:len≤m:=by rw [hmm];split <;> omega
  obtain ⟨q,hq⟩:∃q:Nat→(Option Addr × Nat × Nat) × (Nat→Int),∀i,i<len→w.cell? (a'.add (i*1))=some (.slice (q i).1.1 (q i).1.2.1 (q i).1.2.2)∧(q i).1.2.1≤maxLen∧Cr.Nums w (q i).1.1 (q i).1.2.1 (q i).2:=by
   refine Go.Deep.choose_lt (α:=(Option Addr × Nat × Nat) × (Nat→Int)) (p:=fun i e=>w.cell? (a'.add (i*1))=some (.slice e.1.1 e.1.2.1 e.1.2.2)∧e.1.2.1≤maxLen∧Cr.Nums w e.1.1 e.1.2.1 e.2) fun i hi=>?_
   obtain ⟨cs',h1,h2⟩:=hx i (by omega)
   obtain ⟨_,hlen,hcell⟩:=World.cells?_some h1
   have h0:=hcell 0 (by omega)
   obtain ⟨r,l,k,rfl⟩:∃r l k,cs'=[.slice r l k]:=by
    rcases Go.Deep.open_slice Tryz.underlying47 h2 with ⟨hcs,_⟩ | ⟨a2,len2,cap2,_,_,_,_,hcs,_⟩
    ·exact ⟨none,0,0,hcs⟩
    ·exact ⟨some a2,len2,cap2,hcs⟩
   obtain ⟨z,hz1,hz2⟩:=open_row h2
   exact ⟨((r,l,k),z),by simpa [Addr.add] using h0,hz1,hz2⟩
  refine ⟨fun i=>(q i).1,fun i=>(q i).2,Nat.le_trans hl hm,fun i hi=>?_⟩
  obtain ⟨b,off,spot⟩:=a'
  have hc0:=(hq i hi).1
  have hspot:spot=none:=by simpa [Addr.add] using World.cell?_spot (hq 0 (by omega)).1
  subst hspot
  rw [add_plain,Nat.mul_one] at hc0
  exact ⟨b,off,rfl,Go.block_lt_of_cell hc0,hc0,(hq i hi).2.1,(hq i hi).2.2⟩

end Go.Proofs.YtepppmepilffcaaGreat
