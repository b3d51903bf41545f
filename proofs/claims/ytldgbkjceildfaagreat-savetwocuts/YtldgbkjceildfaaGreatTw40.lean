import Derived.Test.YtldgbkjceildfaaGreatTw28
import Derived.Test.YtldgbkjceildfaaGreatTw30
namespace Go.Proofs.YtldgbkjceildfaaGreat
open Go.RowKit

def trim (x:World) (k:Nat):World:={ x with heap:=x.heap.extract 0 k }

theorem trim_at (x:World) {k b:Nat} (hb:b<k):(trim x k).heap[b]?=x.heap[b]?:=by
 show (x.heap.extract 0 k)[b]?=x.heap[b]?
 rw [Array.getElem?_extract]
 split
 ·rw [Nat.zero_add]
 ·rename_i h
  rw [Array.getElem?_eq_none (by omega)]

theorem trim_size (x:World) {k:Nat} (hk:k≤x.heap.size):(trim x k).heap.size=k:=by
 show (x.heap.extract 0 k).size=k
 rw [Array.size_extract]
 omega

theorem trim_grown (x:World) {k:Nat} (hk:k≤x.heap.size):(trim x k).grownBy x none :=
 ⟨rfl,rfl,rfl,by rw [trim_size x hk];exact hk,fun b hb _=>(trim_at x (by rw [trim_size x hk] at hb;exact hb)).symm⟩

theorem grown_trim {v x:World} {k:Nat} (h:v.grownBy x none) (h1:v.heap.size≤k) (hk:k≤x.heap.size):v.grownBy (trim x k) none:=by
 obtain ⟨a,b,c,d,e⟩:=h
 exact ⟨a,b,c,by rw [trim_size x hk];exact h1,fun i hi hn=>(trim_at x (by omega)).trans (e i hi hn)⟩

theorem Lie.trim {x:World} {g k:Nat} {T:TypeId} {m:Nat} {F:Nat→Value} (h:Lie x g T m F) (hg:g<k):Lie (trim x k) g T m F:=by
 obtain ⟨M,G,⟨cur,hc,h1,h2⟩,h3,h4⟩:=h
 exact ⟨M,G,⟨cur,(trim_at x hg).trans hc,h1,h2⟩,h3,h4⟩


open Go.RowKit

set_option maxRecDepth 8000 in
set_option maxHeartbeats 6400000 in
theorem refAil8_any (s g c:Nat→Int) (E I:Nat→Nat→Int) (gC gE gI cC cE cI:Nat) (w:World) (hL:Gd.Lists w gC gE gI c E I) (hF:Ft.Fit c E I) :
  Calls Tryz.prog 48 #[.agg (Gd.world s gC gE gI cC cE cI g)] w (Gd.Worlds w s g c (Ft.ailE E I 32).1 (Ft.ailE E I 32).2):=by
 have hFm:=hide (fun m hm=>hF.ail m hm)
 clear hF
 obtain ⟨w0,hw0,hbox,hres,hg0,hsz⟩:=Gd.boxes w gC gE gI cC cE cI s g
 have ca':=hide (refTwin_any s g c E I gC gE gI cC cE cI w0 (hL.on hg0))
 obtain ⟨b0,b1,b2,b3,b4,b5,b6,b7,b8,b9,b10⟩:=hbox.eleven
 have hbx:=hide hbox
 have hrs:=hide hres
 have hg0':=hide hg0
 have hsz':=hide hsz
 have hfB:=hbox.free
 clear hL hbox hres hg0 hsz
 unfold Gd.world at hw0 ca' ⊢
 go_enter Tryz.func48,Tryz.ntmps48
 go_upto_region 1 with fail
 rw [←hw0]
 clear hw0
 obtain ⟨B,hB⟩:∃B,w.heap.size=B:=⟨_,rfl⟩
 rw [hB] at hbx hrs hsz' b0 b1 b2 b3 b4 b5 b6 b7 b8 b9 b10 ⊢
 have hB':=hide hB
 rw [hB] at hfB
 clear hB
 go_cut [] from 4 (fun wx=>∃g1 g2 g3 c1 c2 c3,Hid (Gd.Boxed w wx B g1 g2 g3 c1 c2 c3 s g c E I))
 case first =>
  go_wp2_with fail
  refine (uh ca').mono ?_
  rintro e w1 ⟨g1,g2,g3,c1,c2,c3,rfl,hcap,l1,l2,l3,n1,n2,n3,hL1,hg1⟩
  obtain ⟨y0,y1,y2,y3,y4,y5,y6,y7,y8,y9,y10⟩:=((uh hbx).on hg1).eleven
  have fB:=((uh hbx).on hg1).free
  have fin:Hid (Gd.Boxed w (w1.setCells B 0 (Gd.world s g1 g2 g3 c1 c2 c3 g).toList) B g1 g2 g3 c1 c2 c3 s g c E I):=by
   have r:=gss (g:=B) (Gd.world s g1 g2 g3 c1 c2 c3 g).toList 0 w1 (World.grownBy.refl _ _)
   have hB:=uh hB'
   have hs:=uh hsz'
   exact ⟨⟨((uh hbx).on hg1).whole s g g1 g2 g3 c1 c2 c3,⟨hL1.cells.grown r (by simp;omega),hL1.ents.grown r (by simp;omega),hL1.items.grown r (by simp;omega)⟩,by omega,by omega,by omega,n1,n2,n3⟩,hB,by omega,by omega,by omega,hcap,((uh hrs).on hg1).grown r (by simp),own_sets (by omega) _ 0 w1 (gtr (uh hg0') hg1)⟩
  unfold Gd.world at fin ⊢
  clear hcap l1 l2 l3 n1 n2 n3 hL1 hg1 b0 b1 b2 b3 b4 b5 b6 b7 b8 b9 b10 hfB ca'
  go_wp2_with fail
  go_meet
  exact ⟨g1,g2,g3,c1,c2,c3,fin⟩
 case rest =>
  obtain ⟨g1,g2,g3,c1,c2,c3,hX⟩:=hcut
  clear b0 b1 b2 b3 b4 b5 b6 b7 b8 b9 b10 hfB ca' hbx hrs hg0' hsz' hB'
  clear w0
  have b5:=(uh hX).hold.box.eleven.2.2.2.2.2.1
  go_wp2_with fail
  go_loopw [3] (fun vk wr=>∃(k h1 h2 h3 d1 d2 d3:Nat),k≤32∧vk=.int .i64 (k:Int)∧Hid (Gd.Boxed w wr B h1 h2 h3 d1 d2 d3 s g c (Ft.ailE E I k).1 (Ft.ailE E I k).2)) (fun vk _=>40 - (intOf vk).toNat)
  case atStart=>exact ⟨0,g1,g2,g3,c1,c2,c3,by omega,rfl,hX⟩
  case round =>
   clear hX b5
   obtain ⟨k,h1,h2,h3,d1,d2,d3,hk,rfl,hX⟩:=hrel
   by_cases hlt:k<32
   ·have hlt':(k:Int)<32:=by omega
    have HK:=hide hlt
    obtain ⟨b0,b1,b2,b3,b4,b5,b6,b7,b8,b9,b10⟩:=(uh hX).hold.box.eleven
    have hFk:=hide (uh hFm k hk)
    have hnx:Hid (Ft.ailE E I (k+1)=if (Ft.ailE E I k).1 k 0≠0 then (Ft.oneE (Ft.ailE E I k).1 k,Ft.oneI (Ft.ailE E I k).1 (Ft.ailE E I k).2 k) else Ft.ailE E I k):=rfl
    obtain ⟨P,hP⟩:∃P,Ft.ailE E I k=P:=⟨_,rfl⟩
    obtain ⟨E2,I2⟩:=P
    rw [hP] at hX hFk hnx
    have ct:=refThere8_any s g c E2 I2 h1 h2 h3 d1 d2 d3 (k:Int) wr (uh hX).hold.lists
    rw [Ft.there_at hlt] at ct
    unfold Gd.world at ct
    by_cases hz:E2 k 0=0
    ·rw [decide_eq_false (by simpa using hz)] at ct
     rw [if_neg (by simpa using hz)] at hnx
     have ct':=hide ct
     clear ct hz hP hlt hk
     go_wp2_with fail
     refine (uh ct').mono ?_
     rintro e wy ⟨rfl,hg⟩
     have hY:=hide ((uh hX).on hg)
     clear ct' b0 b1 b2 b3 b4 b5 b6 b7 b8 b9 b10 hg
     go_wp2
     go_roundw
     case rel=>exact ⟨k+1,h1,h2,h3,d1,d2,d3,by have:=uh HK;omega,by go_num,by rw [uh hnx];exact hY⟩
     case measure=>simp [intOf];have:=uh HK;omega
    ·rw [decide_eq_true hz] at ct
     rw [if_pos hz] at hnx
     have hFk2:Ft.Fit c E2 I2:=uh hFk
     have hT:=(hFk2.rows k hlt).taken hz
     have hs9:Ft.stunE E2 k k 9=E2 k 9:=Ft.stun_other E2 k 9 (by omega)
     have hs0:Ft.stunE E2 k k 0≠0:=by rw [Ft.stun_other E2 k 0 (by omega)];exact hz
     have hFs:=hide (hFk2.stun hlt hz)
     have hFp:Hid (0<E2 k 9→Ft.Fit c (Ft.poisE (Ft.stunE E2 k) k) I2):=fun hp=>(uh hFs).stat hlt hs0 (.inl rfl) (by rw [hs9];omega) (by rw [hs9];omega)
     have hp0:Hid (Ft.poisE (Ft.stunE E2 k) k k 0≠0):=by
      show Ft.poisE (Ft.stunE E2 k) k k 0≠0
      unfold Ft.poisE
      rw [Gd.set_other (by omega)]
      exact hs0
     have hth:Hid (Ft.there (Ft.poisE (Ft.stunE E2 k) k) (k:Int)=true∧(1:Int)≤1):=⟨(Ft.there_at hlt).trans (by simpa using uh hp0),by omega⟩
     have hhE:Hid (Ft.hE (Ft.poisE (Ft.stunE E2 k) k) (k:Int) 1=Ft.hurtE (Ft.poisE (Ft.stunE E2 k) k) k 1):=by
      show _=_
      unfold Ft.hE
      rw [if_pos (uh hth),Int.toNat_natCast]
     have hhI:Hid (Ft.hI (Ft.poisE (Ft.stunE E2 k) k) I2 (k:Int) 1=Ft.hurtI (Ft.poisE (Ft.stunE E2 k) k) I2 k 1):=by
      show _=_
      unfold Ft.hI
      rw [if_pos (uh hth),Int.toNat_natCast]
     have ct':=hide ct
     have t10:0≤E2 k 10:=by omega
     have t109:E2 k 10≤9:=by omega
     have t9:0≤E2 k 9:=by omega
     have t99:E2 k 9≤9:=by omega
     have HS9:=hide hs9
     clear ct hz hP hlt hk hT hFk hFk2 hs9 hs0 hp0 hth
     go_wp2_with fail
     refine (uh ct').mono ?_
     rintro e wy ⟨rfl,hg⟩
     have hY:=hide ((uh hX).on hg)
     clear ct' b0 b1 b2 b3 b4 b5 b6 b7 b8 b9 b10 hg hX
     have b5:=(uh hY).hold.box.eleven.2.2.2.2.2.1
     have u10:=((uh hY).hold.lists.own.ents.row (uh HK)).2.2.2.2.2.2.2.2.2.2
     have fE:=(uh hY).hold.lists.ents.free
     go_upto_if 23 with fail
     go_cut [] from 23 to 32 (fun wx=>Hid (Gd.Boxed w wx B h1 h2 h3 d1 d2 d3 s g c (Ft.stunE E2 k) I2))
     case first =>
      by_cases hp:0<E2 k 10
      ·have hst:Hid (Gd.Boxed w (wy.setCell ⟨h2,k*11+10,none⟩ (.int .i64 (E2 k 10 - 1))) B h1 h2 h3 d1 d2 d3 s g c (Ft.stunE E2 k) I2):=by
        show Gd.Boxed _ _ _ _ _ _ _ _ _ _ _ _ _ _
        unfold Ft.stunE
        rw [if_pos hp]
        exact (uh hY).stat k 10 (by omega) (E2 k 10 - 1)
       go_wp2_with fail
       go_meet
       exact hst
      ·have hst:Hid (Gd.Boxed w wy B h1 h2 h3 d1 d2 d3 s g c (Ft.stunE E2 k) I2):=by
        show Gd.Boxed _ _ _ _ _ _ _ _ _ _ _ _ _ _
        unfold Ft.stunE
        rw [if_neg hp]
        exact uh hY
       go_wp2_with fail
       go_meet
       exact hst
     case rest =>
      clear hY b5 u10 fE
      have hY:=hide (uh hcut)
      clear hcut
      have b5:=(uh hY).hold.box.eleven.2.2.2.2.2.1
      have u9:=((uh hY).hold.lists.own.ents.row (uh HK)).2.2.2.2.2.2.2.2.2.1
      rw [uh HS9] at u9
      have fE:=(uh hY).hold.lists.ents.free
      by_cases hp:0<E2 k 9
      ·have hn2:Hid (Ft.ailE E I (k+1)=(Ft.hurtE (Ft.poisE (Ft.stunE E2 k) k) k 1,Ft.hurtI (Ft.poisE (Ft.stunE E2 k) k) I2 k 1)):=by
        show _=_
        rw [uh hnx]
        unfold Ft.oneE Ft.oneI
        rw [if_pos hp,if_pos hp]
       have hst:Hid (Gd.Boxed w (wc.setCell ⟨h2,k*11+9,none⟩ (.int .i64 (E2 k 9 - 1))) B h1 h2 h3 d1 d2 d3 s g c (Ft.poisE (Ft.stunE E2 k) k) I2):=by
        have h:=(uh hY).stat k 9 (by omega) (E2 k 9 - 1)
        show Gd.Boxed _ _ _ _ _ _ _ _ _ _ _ _ _ _
        unfold Ft.poisE
        rw [uh HS9]
        exact h
       have hFq:=hide (uh hFp hp)
       clear hnx hFp
       go_upto_region 10 with fail
       generalize wc.setCell ⟨h2,k*11+9,none⟩ (.int .i64 (E2 k 9 - 1))=wz at hst ⊢
       clear hY b5 u9 fE
       have ch:=hide (refHurt8_any s g c (Ft.poisE (Ft.stunE E2 k) k) I2 h1 h2 h3 d1 d2 d3 (k:Int) 1 wz (uh hst).hold.lists (uh hFq))
       rw [uh hhE,uh hhI] at ch
       obtain ⟨b0,b1,b2,b3,b4,b5,b6,b7,b8,b9,b10⟩:=(uh hst).hold.box.eleven
       unfold Gd.world at ch
       go_wp2_with fail
       refine (uh ch).mono ?_
       rintro e w6 ⟨jC,jE,jI,dC,dE,dI,rfl,hcap,l1,l2,l3,n1,n2,n3,hL,hg⟩
       obtain ⟨y0,y1,y2,y3,y4,y5,y6,y7,y8,y9,y10⟩:=((uh hst).on hg).hold.box.eleven
       have fB:=((uh hst).on hg).hold.box.free
       have hZ:Hid (Gd.Boxed w (((((((((((w6.setCell ⟨B,0,none⟩ (.int .i64 (s 0))).setCell ⟨B,1,none⟩ (.int .i64 (s 1))).setCell ⟨B,2,none⟩ (.int .i64 (s 2))).setCell ⟨B,3,none⟩ (.int .i64 (s 3))).setCell ⟨B,4,none⟩ (.slice (some ⟨jC,0,none⟩) 384 dC)).setCell ⟨B,5,none⟩ (.slice (some ⟨jE,0,none⟩) 32 dE)).setCell ⟨B,6,none⟩ (.slice (some ⟨jI,0,none⟩) 40 dI)).setCell ⟨B,7,none⟩ (.int .i64 (g 0))).setCell ⟨B,8,none⟩ (.int .i64 (g 1))).setCell ⟨B,9,none⟩ (.int .i64 (g 2))).setCell ⟨B,10,none⟩ (.int .i64 (g 3))) B jC jE jI dC dE dI s g c (Ft.ailE E I (k+1)).1 (Ft.ailE E I (k+1)).2):=by
        show Gd.Boxed _ _ _ _ _ _ _ _ _ _ _ _ _ _
        rw [uh hn2]
        exact (uh hst).over (s':=s) (g':=g) (dC:=dC) (dI:=dI) hcap l1 l2 l3 n1 n2 n3 hL hg
       clear hcap l1 l2 l3 n1 n2 n3 hL hg ch b0 b1 b2 b3 b4 b5 b6 b7 b8 b9 b10 hst hn2
       unfold Gd.world
       go_wp2
       go_roundw
       case rel=>exact ⟨k+1,jC,jE,jI,dC,dE,dI,by have:=uh HK;omega,by go_num,hZ⟩
       case measure=>simp [intOf];have:=uh HK;omega
      ·have hn2:Hid (Ft.ailE E I (k+1)=(Ft.stunE E2 k,I2)):=by
        show _=_
        rw [uh hnx]
        unfold Ft.oneE Ft.oneI
        rw [if_neg hp,if_neg hp]
       clear hnx
       go_wp2
       go_roundw
       case rel=>exact ⟨k+1,h1,h2,h3,d1,d2,d3,by have:=uh HK;omega,by go_num,by rw [uh hn2];exact hY⟩
       case measure=>simp [intOf];have:=uh HK;omega
   ·obtain rfl:k=32:=by omega
    have hge:¬((32:Nat):Int)<32:=by omega
    clear hlt hk hFm
    obtain ⟨b0,b1,b2,b3,b4,b5,b6,b7,b8,b9,b10⟩:=(uh hX).hold.box.eleven
    have fz:=(uh hX).res.free
    obtain ⟨z0,z1,z2,z3,z4,z5,z6,z7,z8,z9,z10⟩:=Gd.res_cells (uh hX).res
    have hfin:=hide (fun vs=>(uh hX).worlds vs)
    go_wp2
    refine bodyPost_ret (v:=.agg (Gd.world s h1 h2 h3 d1 d2 d3 g)) (by simp [results,Tryz.results48,go_sem,Gd.world,z0,z1,z2,z3,z4,z5,z6,z7,z8,z9,z10]) rfl ?_
    exact uh hfin [_,_,_,_,_,_,_,_,_,_,_]


open Go.RowKit

theorem Cr.rem16 (a:Int):(a.tmod 16=0)↔(a % 16=0):=⟨fun h=>Int.emod_eq_zero_of_dvd (Int.dvd_of_tmod_eq_zero h),fun h=>Int.tmod_eq_zero_of_dvd (Int.dvd_of_emod_eq_zero h)⟩

end Go.Proofs.YtldgbkjceildfaaGreat
