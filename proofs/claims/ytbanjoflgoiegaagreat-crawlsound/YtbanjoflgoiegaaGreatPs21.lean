import Derived.Test.YtbanjoflgoiegaaGreatPs20
namespace Go.Proofs.YtbanjoflgoiegaaGreat
open Go.RowKit

theorem Gd.BoxW.put {w x:World} {B gC gE gI cC cE cI:Nat} {s g c:Nat→Int} {E I:Nat→Nat→Int} (h:Gd.BoxW w x B gC gE gI cC cE cI s g c E I) (m:Nat) (a b d e:Int):Gd.BoxW w ((((x.setCell ⟨gI,m*4,none⟩ (.int .i64 a)).setCell ⟨gI,m*4+1,none⟩ (.int .i64 b)).setCell ⟨gI,m*4+2,none⟩ (.int .i64 d)).setCell ⟨gI,m*4+3,none⟩ (.int .i64 e)) B gC gE gI cC cE cI s g c E (En.put I m (Gd.row a b d e)):=by
 have h1:=h.lI
 have h2:=h.at_
 have r:=grown_put4 (World.grownBy.refl x (some gI)) m (.int .i64 a) (.int .i64 b) (.int .i64 d) (.int .i64 e)
 exact { h with hold:=h.hold.put m a b d e,res:=h.res.grown r (by simp;omega),grown:=gow h.grown r (fun n e=>by cases e;omega) }

theorem Gd.BoxW.same {w x:World} {B gC gE gI cC cE cI:Nat} {s g c:Nat→Int} {E I J:Nat→Nat→Int} (h:Gd.BoxW w x B gC gE gI cC cE cI s g c E I) (he:∀i,i<40→J i=I i):Gd.BoxW w x B gC gE gI cC cE cI s g c E J :=
 { h with hold:={ h.hold with lists:={ h.hold.lists with items:=h.hold.lists.items.congr fun q hq=>by unfold Gd.flat;rw [he (q / 4) (by omega)] } } }

def Gd.sweepTo (I:Nat→Nat→Int) (seat:Int) (k:Nat):Nat→Nat→Int:=fun i=>if i<k then Gd.sweep I seat i else I i

theorem Gd.sweep_yes {I:Nat→Nat→Int} {seat:Int} {k:Nat} (h:(I k 1=2∨I k 1=3)∧I k 2=seat):Gd.sweepTo I seat (k+1)=En.put (Gd.sweepTo I seat k) k (Gd.row 0 0 0 0):=by
 funext i
 unfold Gd.sweepTo En.put
 by_cases e:i=k
 ·rw [if_pos (by omega),if_pos e,e,Gd.row_gone]
  unfold Gd.sweep
  rw [if_pos h]
 ·rw [if_neg e]
  show _=if i<k then _ else _
  by_cases e2:i<k
  ·rw [if_pos (by omega),if_pos e2]
  ·rw [if_neg (by omega),if_neg e2]

theorem Gd.sweep_no {I:Nat→Nat→Int} {seat:Int} {k:Nat} (h:¬((I k 1=2∨I k 1=3)∧I k 2=seat)):Gd.sweepTo I seat (k+1)=Gd.sweepTo I seat k:=by
 funext i
 unfold Gd.sweepTo
 by_cases e:i=k
 ·rw [if_pos (by omega),if_neg (by omega),e]
  unfold Gd.sweep
  rw [if_neg h]
 ·by_cases e2:i<k
  ·rw [if_pos (by omega),if_pos e2]
  ·rw [if_neg (by omega),if_neg e2]

set_option maxHeartbeats 6400000 in
theorem sweep_wide (s g c:Nat→Int) (E I:Nat→Nat→Int) (gC gE gI cC cE cI:Nat) (seat:Int) (w:World) (hL:Gd.Lists w gC gE gI c E I) :
  Calls Tryz.prog 171 #[.agg (Gd.world s gC gE gI cC cE cI g),.int .i64 seat] w (Gd.WorldsW w s g c E (Gd.sweep I seat)):=by
 obtain ⟨w0,hw0,hbox,hres,hg0,hsz⟩:=Gd.boxes w gC gE gI cC cE cI s g
 have ca:=apart_wide s g c E I gC gE gI cC cE cI w0 (hL.on hg0)
 obtain ⟨b0,b1,b2,b3,b4,b5,b6,b7,b8,b9,b10⟩:=hbox.eleven
 have hbx:=hide hbox
 have hrs:=hide hres
 have hg0':=hide hg0
 have hsz':=hide hsz
 have ca':=hide ca
 have hfB:=hbox.free
 clear hL ca hbox hres hg0 hsz
 unfold Gd.world at hw0 ca' ⊢
 go_enter Tryz.func171,Tryz.ntmps171
 go_upto_region 1 with fail
 rw [←hw0]
 clear hw0
 obtain ⟨B,hB⟩:∃B,w.heap.size=B:=⟨_,rfl⟩
 rw [hB] at hbx hrs hsz' b0 b1 b2 b3 b4 b5 b6 b7 b8 b9 b10 ⊢
 have hB':=hide hB
 rw [hB] at hfB
 clear hB
 go_cut [] from 7 (fun wx=>∃g1 g2 g3 c1 c2 c3,Hid (Gd.BoxW w wx B g1 g2 g3 c1 c2 c3 s g c E I))
 case first =>
  go_wp2_with fail
  refine (uh ca').mono ?_
  rintro e w1 ⟨g1,g2,g3,c1,c2,c3,rfl,hcap,l1,l2,l3,n1,n2,n3,hL1,hg1⟩
  obtain ⟨y0,y1,y2,y3,y4,y5,y6,y7,y8,y9,y10⟩:=((uh hbx).on hg1).eleven
  have fB:=((uh hbx).on hg1).free
  have fin:Hid (Gd.BoxW w (w1.setCells B 0 (Gd.world s g1 g2 g3 c1 c2 c3 g).toList) B g1 g2 g3 c1 c2 c3 s g c E I):=by
   have r:=gss (g:=B) (Gd.world s g1 g2 g3 c1 c2 c3 g).toList 0 w1 (World.grownBy.refl _ _)
   have hB:=uh hB'
   have hs:=uh hsz'
   exact ⟨⟨((uh hbx).on hg1).whole s g g1 g2 g3 c1 c2 c3,⟨hL1.cells.grown r (by simp;omega),hL1.ents.grown r (by simp;omega),hL1.items.grown r (by simp;omega)⟩,by omega,by omega,by omega,n1,n2,n3⟩,hB,by omega,by omega,by omega,hcap,((uh hrs).on hg1).grown r (by simp),own_sets (by omega) _ 0 w1 (gtr (uh hg0') hg1)⟩
  unfold Gd.world at fin ⊢
  clear hcap l1 l2 l3 n1 n2 n3 hL1 hg1 b0 b1 b2 b3 b4 b5 b6 b7 b8 b9 b10 hfB ca'
  go_wp2_with fail
  go_meet
  exact ⟨g1,g2,g3,c1,c2,c3,fin⟩
 case rest =>
  obtain ⟨g1,g2,g3,c1,c2,c3,hX⟩:=hcut
  clear b0 b1 b2 b3 b4 b5 b6 b7 b8 b9 b10 hfB ca' hbx hrs hg0' hsz' hB'
  clear w0
  have q6:=(uh hX).hold.box.eleven.2.2.2.2.2.2.1
  go_wp2_with fail
  go_loopw [12] (fun i wr=>∃k:Nat,k≤40∧i=.int .i64 (k:Int)∧Hid (Gd.BoxW w wr B g1 g2 g3 c1 c2 c3 s g c E (Gd.sweepTo I seat k))) (fun i _=>200 - (intOf i).toNat)
  case atStart=>exact ⟨0,by omega,rfl,(uh hX).same (fun i _=>if_neg (by omega))⟩
  case round =>
   clear q6 hX
   obtain ⟨k,hk,rfl,hB⟩:=hrel
   by_cases hlt:k<40
   ·have hlt':(k:Int)<40:=by omega
    have hrow:=(uh hB).hold.lists.its.row hlt
    rw [show Gd.sweepTo I seat k k=I k from if_neg (by omega)] at hrow
    obtain ⟨u0,u1,u2,u3⟩:=hrow
    have HL:=hide hlt
    have hnx:=hide (fun (o:Obj)=>(uh hB).on (World.grownBy_alloc wr o none))
    have q6:=(uh hB).hold.box.eleven.2.2.2.2.2.2.1
    have fI:=(uh hB).hold.lists.items.free
    have lI:=(uh hB).hold.lists.items.lt
    have lB:=(uh hB).hold.box.lt
    by_cases hc:(I k 1=2∨I k 1=3)∧I k 2=seat
    ·have he:=hide (Gd.sweep_yes hc)
     obtain ⟨hc1,hc2⟩:=hc
     rcases hc1 with hc1 | hc1
     all_goals
      go_wp2
      go_roundw
      case rel=>exact ⟨k+1,by have:=uh HL;omega,by go_num,by
       show Gd.BoxW _ _ _ _ _ _ _ _ _ _ _ _ _ _
       rw [uh he]
       exact ((uh hB).put k 0 0 0 0).on (World.grownBy_alloc _ _ _)⟩
      case measure=>simp [intOf];omega
    ·have he:=hide (Gd.sweep_no hc)
     by_cases hc2:I k 2=seat
     ·have n1:¬I k 1=2:=fun h=>hc ⟨.inl h,hc2⟩
      have n2:¬I k 1=3:=fun h=>hc ⟨.inr h,hc2⟩
      have m1:(I k 1 == 2)=false:=by simp [n1]
      have m2:(I k 1 == 3)=false:=by simp [n2]
      clear hc
      go_wp2
      go_roundw
      case rel=>exact ⟨k+1,by have:=uh HL;omega,by go_num,by
       show Gd.BoxW _ _ _ _ _ _ _ _ _ _ _ _ _ _
       rw [uh he]
       exact uh hnx _⟩
      case measure=>simp [intOf];omega
     ·have m2:(I k 2 == seat)=false:=by simp [hc2]
      clear hc
      go_wp2
      go_roundw
      case rel=>exact ⟨k+1,by have:=uh HL;omega,by go_num,by
       show Gd.BoxW _ _ _ _ _ _ _ _ _ _ _ _ _ _
       rw [uh he]
       exact uh hnx _⟩
      case measure=>simp [intOf];omega
   ·have hge:¬(k:Int)<40:=by omega
    have hBf:=(uh hB).same (J:=Gd.sweep I seat) (fun i hi=>by show _=if i<k then _ else _;rw [if_pos (by omega)])
    clear hB
    have hbx:=hide hBf
    obtain ⟨b0,b1,b2,b3,b4,b5,b6,b7,b8,b9,b10⟩:=(uh hbx).hold.box.eleven
    have fz:=(uh hbx).res.free
    obtain ⟨z0,z1,z2,z3,z4,z5,z6,z7,z8,z9,z10⟩:=Gd.res_cells (uh hbx).res
    have hfin:=hide (fun vs=>(uh hbx).worlds vs)
    go_wp2
    refine bodyPost_ret (v:=.agg (Gd.world s g1 g2 g3 c1 c2 c3 g)) (by simp [results,Tryz.results171,go_sem,Gd.world,z0,z1,z2,z3,z4,z5,z6,z7,z8,z9,z10]) rfl ?_
    exact uh hfin [_,_,_,_,_,_,_,_,_,_,_]

end Go.Proofs.YtbanjoflgoiegaaGreat
