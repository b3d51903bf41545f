import Derived.Test.YtldgbkjceildfaaGreatBy26
import Derived.Test.YtldgbkjceildfaaGreatBy35
import Derived.Test.YtldgbkjceildfaaGreatBy49
import Derived.Test.YtldgbkjceildfaaGreatBy50
import Derived.Test.YtldgbkjceildfaaGreatBy51
import Derived.Test.YtldgbkjceildfaaGreatBy52
import Derived.Test.YtldgbkjceildfaaGreatBy45
import Derived.Test.YtldgbkjceildfaaGreatBy46
import Derived.Test.YtldgbkjceildfaaGreatBy47
import Derived.Test.YtldgbkjceildfaaGreatBy48
namespace Go.Proofs.YtldgbkjceildfaaGreat
open Go.RowKit

set_option maxRecDepth 8000 in
set_option maxHeartbeats 12800000 in
theorem refBelow_any (v:World) (s g c0:Nat→Int) (E I:Nat→Nat→Int) (gC gE gI cC cE cI:Nat) (w:World) (hvw:v.grownBy w none) (hvE:v.heap.size≤gE) (hvI:v.heap.size≤gI) (hL:Gd.Lists w gC gE gI c0 E I) (hcE:32≤cE) (n1:gC≠gE) (n2:gC≠gI) (n3:gE≠gI) (hS:Cr.Sane c0 E I) (hf1:1≤s 2) (hf2:s 2≤2) :
  Calls Tryz.prog 51 #[.agg (Gd.world s gC gE gI cC cE cI g)] w fun e w'=>∃T,Cr.Below s g E I T∧Gd.Worlds v T.s T.g T.c T.E T.I e w':=by
 obtain ⟨wz,hwz⟩:∃wz,wz=w.alloc (.cells (Gd.world s gC gE gI cC cE cI g) 30):=⟨_,rfl⟩
 obtain ⟨w0,hw0⟩:∃w0,w0=wz.alloc (.cells #[.int .i64 0,.int .i64 0,.int .i64 0,.int .i64 0,.slice none 0 0,.slice none 0 0,.slice none 0 0,.int .i64 0,.int .i64 0,.int .i64 0,.int .i64 0] 30):=⟨_,rfl⟩
 have hgz:w.grownBy wz none:=by rw [hwz];exact World.grownBy_alloc _ _ _
 have hg0:wz.grownBy w0 none:=by rw [hw0];exact World.grownBy_alloc _ _ _
 have hg1:=gtr hgz hg0
 have sz:wz.heap.size=w.heap.size+1:=by rw [hwz];simp
 obtain ⟨B,hB⟩:∃B,w.heap.size=B:=⟨_,rfl⟩
 rw [hB] at sz
 have hbox:Lie w0 B 30 11 (Gd.box s gC gE gI cC cE cI g):=by
  refine Lie.on ?_ hg0
  rw [hwz,←hB]
  exact (Arr.world (heap_alloc_new w _)).lie
 have hres:Hid (Lie w0 (B+1) 30 11 (fun j=>#[.int .i64 0,.int .i64 0,.int .i64 0,.int .i64 0,.slice none 0 0,.slice none 0 0,.slice none 0 0,.int .i64 0,.int .i64 0,.int .i64 0,Value.int .i64 0][j]?.getD undef)):=by
  rw [hw0,←sz]
  exact (Arr.lit (heap_alloc_new wz _)).lie
 have hvs:v.heap.size≤B:=by rw [←hB];exact hvw.size
 have hhand:Hid (Cr.Hand v w0 B gC gE gI cC cE cI s g c0 E I):=by
  have q1:=hL.cells.lt
  have q2:=hL.ents.lt
  have q3:=hL.items.lt
  exact ⟨⟨hbox,hL.on hg1,by omega,by omega,by omega,n1,n2,n3⟩,hvs,hcE,gtr hvw hg1⟩
 have hvI':=hide hvI
 have hvE':=hide hvE
 have hvs':=hide hvs
 have hS':=hide hS
 have hBw:=hide hB
 obtain ⟨b0,b1,b2,b3,b4,b5,b6,b7,b8,b9,b10⟩:=hbox.eleven
 have fB:=hbox.free
 have cm:=hide (fun z=>refMake10_any (s 0) (s 2+1) (by omega) (by omega) z)
 clear hL hcE n1 n2 n3 hS hvw hvI hvE hgz hg0 hg1 sz hbox hvs
 unfold Gd.world at hwz ⊢
 rw [hwz] at hw0
 clear hwz
 go_enter Tryz.func51,Tryz.ntmps51
 go_upto_region 1 with fail
 rw [←hw0]
 clear hw0 hB
 obtain ⟨f,hf⟩:∃f,s 2+1=f:=⟨_,rfl⟩
 rw [hf] at cm
 have wf:IntKind.i64.wrap (s 2+1)=f:=by rw [IntKind.wrap_i64];omega
 go_wp2_with fail
 have hh2:=hide ((uh hhand).num 2 (by omega) f)
 have hr2:=hide ((uh hres).other (p:=B) (by omega) 2 (.int .i64 f))
 generalize w0.setCell ⟨B,2,none⟩ (.int .i64 f)=wa at hh2 hr2 ⊢
 refine (uh cm wa).mono ?_
 rintro e w1 ⟨c,es,is,G,nE,nI,kE,kI,aE,aI,hlev,rfl,lG,hA,-,-,hnI,hg1,hMI⟩
 have hlev':=hide hlev
 have hnI':=hide hnI
 obtain ⟨L,hLz⟩:∃L,w1.heap.size=L:=⟨_,rfl⟩
 have hga:w1.grownBy (w1.alloc (.cells #[.slice (some ⟨G,0,none⟩) 384 384,.slice aE nE kE,.slice aI nI kI] 85)) none:=World.grownBy_alloc _ _ _
 have hlv:Hid (Lie (w1.alloc (.cells #[.slice (some ⟨G,0,none⟩) 384 384,.slice aE nE kE,.slice aI nI kI] 85)) L 85 3 (fun j=>#[.slice (some ⟨G,0,none⟩) 384 384,.slice aE nE kE,Value.slice aI nI kI][j]?.getD undef)):=by
  rw [←hLz]
  exact (Arr.lit (heap_alloc_new w1 _)).lie
 have lG':=hide lG
 have hGv:Hid (v.heap.size≤G):=Nat.le_trans (uh hh2).grown.size lG
 have hA':=hide (hA.on hga)
 have hMI':=hide hMI
 have hg2:=hide (gtr hg1 hga)
 have hsm:Hid (Cr.Same wa.heap.size w1 (w1.alloc (.cells #[.slice (some ⟨G,0,none⟩) 384 384,.slice aE nE kE,.slice aI nI kI] 85))):=Cr.Same.on ⟨Nat.le_refl _,fun _ _ _=>rfl⟩ hga
 clear hlev hnI lG hA hMI hg1 hga cm b0 b1 b2 b3 b4 b5 b6 b7 b8 b9 b10 fB wf hhand hres
 go_upto_region 3 with fail
 generalize (w1.alloc (.cells #[.slice (some ⟨G,0,none⟩) 384 384,.slice aE nE kE,.slice aI nI kI] 85))=w2 at hlv hA' hg2 hsm ⊢
 clear hLz
 have l0:w2.cell? ⟨L,0,none⟩=some (.slice (some ⟨G,0,none⟩) 384 384):=(uh hlv).cell (c:=0) (by omega)
 have b4:=((uh hh2).on (uh hg2)).hold.box.eleven.2.2.2.2.1
 have fB:=((uh hh2).on (uh hg2)).hold.box.free
 have hK0:Hid (Cr.Sink wa.heap.size w1 v (w2.setCell ⟨B,4,none⟩ (.slice (some ⟨G,0,none⟩) 384 384)) B L G gE gI gE 384 cE cI (fun j=>#[.slice (some ⟨G,0,none⟩) 384 384,.slice aE nE kE,Value.slice aI nI kI][j]?.getD undef) (Cr.num s 2 f) g c E (Cr.keptTo I 0) E):=by
  have hd:=(uh hh2).ground (dC:=384) (uh lG') (uh hA') (uh hg2)
  have hb2:=((uh hh2).on (uh hg2)).hold.box
  rw [Cr.keptTo_zero]
  exact ⟨hd,(uh hlv).other (hb2.type_ne (uh hlv) (by decide)) _ _,((uh hr2).on (uh hg2)).other (by omega) _ _,hd.hold.lists.ents,(uh hsm).set (.inl (uh hh2).hold.box.lt) _ _,(uh hh2).hold.box.lt,(uh hh2).hold.lists.items.lt⟩
 obtain ⟨lo,hlo⟩:∃lo,wa.heap.size=lo:=⟨_,rfl⟩
 rw [hlo] at hK0 hMI'
 go_upto_region 4 with fail
 generalize (w2.setCell ⟨B,4,none⟩ (.slice (some ⟨G,0,none⟩) 384 384))=w3 at hK0 ⊢
 clear l0 b4 fB hlv hA' hg2 hsm hlo hh2 hr2 lG'
 obtain ⟨lev,hlv⟩:∃lev:Nat→Value,(fun j=>#[.slice (some ⟨G,0,none⟩) 384 384,.slice aE nE kE,Value.slice aI nI kI][j]?.getD undef)=lev:=⟨_,rfl⟩
 rw [hlv] at hK0
 have lvs:Hid (lev 0=.slice (some ⟨G,0,none⟩) 384 384∧lev 1=.slice aE nE kE∧lev 2=.slice aI nI kI):=(show lev 0=.slice (some ⟨G,0,none⟩) 384 384∧lev 1=.slice aE nE kE∧lev 2=.slice aI nI kI by rw [←hlv];exact ⟨rfl,rfl,rfl⟩)
 clear hlv
 go_wp2_with fail
 go_loopw [4] (fun v4 wr=>∃i:Nat,i≤40∧v4=.int .i64 (i:Int)∧Hid (Cr.Sink lo w1 v wr B L G gE gI gE 384 cE cI lev (Cr.num s 2 f) g c E (Cr.keptTo I i) E)) (fun v4 _=>50 - (intOf v4).toNat)
 case atStart=>exact ⟨0,by omega,rfl,hK0⟩
 case round =>
  clear hK0
  obtain ⟨i,hi,rfl,hK⟩:=hrel
  have b6:=(uh hK).hand.hold.box.eleven.2.2.2.2.2.2.1
  by_cases hlt:i<40
  ·have hlt':(i:Int)<40:=by omega
   have HL:=hide hlt
   have r1:wr.cell? ⟨gI,i*4+1,none⟩=some (.int .i64 (I i 1)):=by
    have h:=(uh hK).hand.hold.lists.its.2.2 i 1 hlt (by omega)
    rw [Nat.zero_add,Cr.keptTo_at] at h
    exact h
   clear hlt hi
   by_cases h1:I i 1=1
   ·have hput:=hide ((uh hK).item (uh hvI') i (fun _=>0))
    rw [Cr.keptTo_go (I:=I) (n:=i) (by omega)] at hput
    obtain ⟨y0,y1,y2,y3⟩:=(uh hK).hand.hold.lists.its.row (uh HL)
    have fI:=(uh hK).hand.hold.lists.items.free
    rw [h1] at r1
    clear h1
    go_wp2
    go_roundw
    case rel=>exact ⟨i+1,by have:=uh HL;omega,by go_num,hput⟩
    case measure=>simp [intOf];have:=uh HL;omega
   ·by_cases h4:I i 1=4
    ·have hput:=hide ((uh hK).item (uh hvI') i (fun _=>0))
     rw [Cr.keptTo_go (I:=I) (n:=i) (by omega)] at hput
     obtain ⟨y0,y1,y2,y3⟩:=(uh hK).hand.hold.lists.its.row (uh HL)
     have fI:=(uh hK).hand.hold.lists.items.free
     have e1:(I i 1 == 1)=false:=by simpa using h1
     rw [h4] at r1
     rw [h4] at e1
     clear h1 h4
     go_wp2
     go_roundw
     case rel=>exact ⟨i+1,by have:=uh HL;omega,by go_num,hput⟩
     case measure=>simp [intOf];have:=uh HL;omega
    ·have hst:=hide (Cr.keptTo_stay (I:=I) (n:=i) (by omega))
     rw [uh hst] at hK
     have e1:(I i 1 == 1)=false:=by simpa using h1
     have e4:(I i 1 == 4)=false:=by simpa using h4
     clear h1 h4 hst
     go_wp2
     go_roundw
     case rel=>exact ⟨i+1,by have:=uh HL;omega,by go_num,hK⟩
     case measure=>simp [intOf];have:=uh HL;omega
  ·obtain rfl:i=40:=by omega
   have hge:¬((40:Nat):Int)<40:=by omega
   have b5:=(uh hK).hand.hold.box.eleven.2.2.2.2.2.1
   have hK1:Hid (Cr.Sink lo w1 v wr B L G gE gI gE 384 cE cI lev (Cr.num s 2 f) g c (Cr.bareTo E 0) (Cr.kept I) E):=by
    have h:=uh hK
    have hi':Lie wr gI 72 160 (Gd.flat (Cr.kept I)):=h.hand.hold.lists.items.congr fun j hj=>by
     unfold Gd.flat Cr.keptTo
     rw [if_pos (by omega)]
    rw [Cr.bareTo_zero]
    exact ⟨⟨⟨h.hand.hold.box,⟨h.hand.hold.lists.cells,h.hand.hold.lists.ents,hi'⟩,h.hand.hold.bC,h.hand.hold.bE,h.hand.hold.bI,h.hand.hold.cE,h.hand.hold.cI,h.hand.hold.eI⟩,h.hand.lB,h.hand.cap,h.hand.grown⟩,h.lev,h.res,h.old,h.same,h.bLo,h.iLo⟩
   clear hlt hi hK
   go_wp2_with fail
   go_loopw [6] (fun v6 wr=>∃(i jE dE:Nat),i≤32∧v6=.int .i64 (i:Int)∧Hid (v.heap.size≤jE)∧Hid (Cr.Sink lo w1 v wr B L G jE gI gE 384 dE cI lev (Cr.num s 2 f) g c (Cr.bareTo E i) (Cr.kept I) E)) (fun v6 _=>50 - (intOf v6).toNat)
   case atStart=>exact ⟨0,gE,cE,by omega,rfl,hvE',hK1⟩
   case round =>
    clear hK1 b5 b6
    obtain ⟨i,jE,dE,hi,rfl,hvj,hK⟩:=hrel
    by_cases hlt:i<32
    ·have hlt':(i:Int)<32:=by omega
     have HL:=hide hlt
     have b5:=(uh hK).hand.hold.box.eleven.2.2.2.2.2.1
     have cf:=hide (refFree_in jE 32 dE i (Cr.bareTo E i) _ (uh hK).hand.hold.lists.own.ents hlt)
     rw [Cr.bareTo_go] at cf
     clear hlt hi
     go_wp2_with fail
     refine (uh cf).mono ?_
     rintro e w4 ⟨j2,d2,rfl,hj2,hc2,-,ho2,hg2⟩
     have hv2:Hid (v.heap.size≤j2):=Nat.le_trans (uh hK).hand.grown.size hj2
     have hn2:=hide ((uh hK).folk hc2 (.inr hj2) ho2 hg2)
     have y5:=((uh hK).on hg2).hand.hold.box.eleven.2.2.2.2.2.1
     have fB:=((uh hK).on hg2).hand.hold.box.free
     clear hj2 hc2 ho2 hg2 cf b5 hK
     go_wp2
     go_roundw
     case rel=>exact ⟨i+1,j2,d2,by have:=uh HL;omega,by go_num,hv2,hn2⟩
     case measure=>simp [intOf];have:=uh HL;omega
    ·obtain rfl:i=32:=by omega
     have hge:¬((32:Nat):Int)<32:=by omega
     have hK1:Hid (Cr.Sink lo w1 v wr B L G jE gI gE 384 dE cI lev (Cr.num s 2 f) g c (Cr.bare E) (Cr.kept I) E):=by
      have h:=uh hK
      have hi':Lie wr jE 70 352 (En.flat (Cr.bare E)):=h.hand.hold.lists.ents.congr fun j hj=>by
       unfold En.flat Cr.bareTo
       rw [if_pos (by omega)]
      exact ⟨⟨⟨h.hand.hold.box,⟨h.hand.hold.lists.cells,hi',h.hand.hold.lists.items⟩,h.hand.hold.bC,h.hand.hold.bE,h.hand.hold.bI,h.hand.hold.cE,h.hand.hold.cI,h.hand.hold.eI⟩,h.hand.lB,h.hand.cap,h.hand.grown⟩,h.lev,h.res,h.old,h.same,h.bLo,h.iLo⟩
     clear hlt hi hK
     go_wp2_with fail
     obtain ⟨S,hSn⟩:∃S,Cr.num s 2 f=S:=⟨_,rfl⟩
     rw [hSn] at hK1
     have hSn':=hide hSn
     clear hSn
     go_loopw [7] (fun v7 wr=>∃(t jE dE:Nat) (F:Nat→Nat→Int),t≤4∧v7=.int .i64 (t:Int)∧Hid (v.heap.size≤jE)∧Hid (Cr.LandTo c E t (Cr.bare E) F)∧Hid (Cr.Sink lo w1 v wr B L G jE gI gE 384 dE cI lev S g c F (Cr.kept I) E)) (fun v7 _=>10 - (intOf v7).toNat)
     case atStart=>exact ⟨0,jE,dE,Cr.bare E,by omega,rfl,hvj,rfl,hK1⟩
     case round =>
      clear hK1 hvj
      obtain ⟨t,jE,dE,F,ht,rfl,hvj,hT,hK⟩:=hrel
      by_cases hlt:t<4
      ·have hlt':(t:Int)<4:=by omega
       have HL:=hide hlt
       have ch:=hide (refHero7_any gE cE E (t:Int) wr ((uh hK).old.own (by omega) (by omega)))
       obtain ⟨z,hz⟩:∃z,Gd.hero E (t:Int)=z:=⟨_,rfl⟩
       rw [hz] at ch
       have hz':=hide hz
       have hzr:Hid (z<32):=(show z<32 by rw [←hz];rcases En.first_cases (En.heroQ E (t:Int)) 32 with ⟨h,_⟩ | ⟨q,hq,h,_⟩ <;> (unfold Gd.hero;omega))
       clear hlt ht hz
       go_wp2_with fail
       refine (uh ch).mono ?_
       rintro e w4 ⟨rfl,hg4⟩
       have hK2:=hide ((uh hK).on hg4)
       clear hg4 ch hK
       by_cases h0:z<0
       ·have hT2:Hid (Cr.LandTo c E (t+1) (Cr.bare E) F):=⟨F,uh hT,(show Cr.Lands c E (t:Int) F F by unfold Cr.Lands;rw [uh hz',if_pos h0])⟩
        clear hzr hz'
        go_wp2
        go_roundw
        case rel=>exact ⟨t+1,jE,dE,F,by have:=uh HL;omega,by go_num,hvj,hT2,hK2⟩
        case measure=>simp [intOf];have:=uh HL;omega
       ·obtain ⟨k,rfl⟩:∃k:Nat,z=(k:Int):=⟨z.toNat,by omega⟩
        have hk:k<32:=by have:=uh hzr;omega
        have HK:=hide hk
        have hk':(k:Int)<32:=by omega
        have hk0:(k:Int)≥0:=by omega
        have hlands:Hid (∀(q:Int) (e:Nat→Int),Nv.IsSpot c F 32 (Gr.find 384 c 3 % 24) (Gr.find 384 c 3 / 24) q→e=(if q<0 then E k else En.upd (En.upd (E k) 3 (q % 24)) 4 (q / 24))→Cr.LandTo c E (t+1) (Cr.bare E) (En.put F k e)):=fun q e h1 h2=>⟨F,uh hT,(show Cr.Lands c E (t:Int) F (En.put F k e) by unfold Cr.Lands;rw [uh hz',if_neg h0,Int.toNat_natCast];exact ⟨q,h1,by rw [h2]⟩)⟩
        have hkeep:Hid (∀x,w4.grownBy x none→((x.cell? ⟨B,0,none⟩=some (.int .i64 (S 0))∧x.cell? ⟨B,1,none⟩=some (.int .i64 (S 1))∧x.cell? ⟨B,2,none⟩=some (.int .i64 (S 2))∧x.cell? ⟨B,3,none⟩=some (.int .i64 (S 3))∧x.cell? ⟨B,4,none⟩=some (.slice (some ⟨G,0,none⟩) 384 384)∧x.cell? ⟨B,5,none⟩=some (.slice (some ⟨jE,0,none⟩) 32 dE)∧x.cell? ⟨B,6,none⟩=some (.slice (some ⟨gI,0,none⟩) 40 cI)∧x.cell? ⟨B,7,none⟩=some (.int .i64 (g 0))∧x.cell? ⟨B,8,none⟩=some (.int .i64 (g 1))∧x.cell? ⟨B,9,none⟩=some (.int .i64 (g 2))∧x.cell? ⟨B,10,none⟩=some (.int .i64 (g 3)))∧(x.cell? ⟨gE,k*11,none⟩=some (.int .i64 (E k 0))∧x.cell? ⟨gE,k*11+1,none⟩=some (.int .i64 (E k 1))∧x.cell? ⟨gE,k*11+2,none⟩=some (.int .i64 (E k 2))∧x.cell? ⟨gE,k*11+3,none⟩=some (.int .i64 (E k 3))∧x.cell? ⟨gE,k*11+4,none⟩=some (.int .i64 (E k 4))∧x.cell? ⟨gE,k*11+5,none⟩=some (.int .i64 (E k 5))∧x.cell? ⟨gE,k*11+6,none⟩=some (.int .i64 (E k 6))∧x.cell? ⟨gE,k*11+7,none⟩=some (.int .i64 (E k 7))∧x.cell? ⟨gE,k*11+8,none⟩=some (.int .i64 (E k 8))∧x.cell? ⟨gE,k*11+9,none⟩=some (.int .i64 (E k 9))∧x.cell? ⟨gE,k*11+10,none⟩=some (.int .i64 (E k 10))))):=fun x hx=>⟨((uh hK2).on hx).hand.hold.box.eleven,(((uh hK2).on hx).old.own (n:=32) (by omega) (by omega)).ents.row (uh HK)⟩
        have hch:Hid (∀x,w4.grownBy x none→Calls Tryz.prog 41 #[.agg #[.int .i64 (S 0),.int .i64 (S 1),.int .i64 (S 2),.int .i64 (S 3),.slice (some ⟨G,0,none⟩) 384 384,.slice (some ⟨jE,0,none⟩) 32 dE,.slice (some ⟨gI,0,none⟩) 40 cI,.int .i64 (g 0),.int .i64 (g 1),.int .i64 (g 2),.int .i64 (g 3)],.agg #[.int .i64 (E k 0),.int .i64 (E k 1),.int .i64 (E k 2),.int .i64 (E k 3),.int .i64 (E k 4),.int .i64 (E k 5),.int .i64 (E k 6),.int .i64 (E k 7),.int .i64 (E k 8),.int .i64 (E k 9),.int .i64 (E k 10)]] x fun e y=>∃(p:Nat→Int) (ok:Bool),e=.returned (.tuple #[.agg #[.int .i64 (p 0),.int .i64 (p 1),.int .i64 (p 2),.int .i64 (p 3),.int .i64 (p 4),.int .i64 (p 5),.int .i64 (p 6),.int .i64 (p 7),.int .i64 (p 8),.int .i64 (p 9),.int .i64 (p 10)],.bool ok])∧Hid (∃q,Nv.IsSpot c F 32 (Gr.find 384 c 3 % 24) (Gr.find 384 c 3 / 24) q∧p=if q<0 then E k else En.upd (En.upd (E k) 3 (q % 24)) 4 (q / 24))∧Hid (w4.grownBy y none)∧Hid (x.grownBy y none)):=fun x hx=>(refHero10_any S g c F (Cr.kept I) (E k) G jE gI 384 dE cI x ((uh hK2).on hx).hand.hold.lists (uh hlev').floor).mono fun e y h=>by
         obtain ⟨p,ok,he,hp,hg⟩:=h.whole
         exact ⟨p,ok,he,hp,gtr hx hg,hg⟩
        have hd0:=hide (gd1 (World.grownBy.refl w4 none))
        have hd1:=hide (gd1 (World.grownBy_alloc w4 (.cells #[.int .i64 0,.int .i64 0,.int .i64 0,.int .i64 0,.int .i64 0,.int .i64 0,.int .i64 0,.int .i64 0,.int .i64 0,.int .i64 0,.int .i64 0] 70) none))
        have hZ:Hid (Lie (w4.alloc (.cells #[.int .i64 0,.int .i64 0,.int .i64 0,.int .i64 0,.int .i64 0,.int .i64 0,.int .i64 0,.int .i64 0,.int .i64 0,.int .i64 0,.int .i64 0] 70)).drew w4.heap.size 70 11 (Ints (fun _=>0))):=(Lie.copied w4 (fun _=>0) _).on (gd1 (World.grownBy.refl _ none))
        clear h0 hzr hz' hT hk
        go_upto_region 19 with fail
        go_cut [9,10] from 73 to 81 (fun va vb wx=>∃Q,va=.pointer (some ⟨Q,0,none⟩)∧Hid (∃p:Nat→Int,(∃q,Nv.IsSpot c F 32 (Gr.find 384 c 3 % 24) (Gr.find 384 c 3 / 24) q∧p=if q<0 then E k else En.upd (En.upd (E k) 3 (q % 24)) 4 (q / 24))∧Lie wx Q 70 11 (Ints p)∧w4.grownBy wx none∧w4.heap.size≤Q))
        case first =>
         have hS0:=uh hkeep _ (uh hd0)
         go_region_held3 (fun x=>(x.cell? ⟨B,0,none⟩=some (.int .i64 (S 0))∧x.cell? ⟨B,1,none⟩=some (.int .i64 (S 1))∧x.cell? ⟨B,2,none⟩=some (.int .i64 (S 2))∧x.cell? ⟨B,3,none⟩=some (.int .i64 (S 3))∧x.cell? ⟨B,4,none⟩=some (.slice (some ⟨G,0,none⟩) 384 384)∧x.cell? ⟨B,5,none⟩=some (.slice (some ⟨jE,0,none⟩) 32 dE)∧x.cell? ⟨B,6,none⟩=some (.slice (some ⟨gI,0,none⟩) 40 cI)∧x.cell? ⟨B,7,none⟩=some (.int .i64 (g 0))∧x.cell? ⟨B,8,none⟩=some (.int .i64 (g 1))∧x.cell? ⟨B,9,none⟩=some (.int .i64 (g 2))∧x.cell? ⟨B,10,none⟩=some (.int .i64 (g 3)))∧(x.cell? ⟨gE,k*11,none⟩=some (.int .i64 (E k 0))∧x.cell? ⟨gE,k*11+1,none⟩=some (.int .i64 (E k 1))∧x.cell? ⟨gE,k*11+2,none⟩=some (.int .i64 (E k 2))∧x.cell? ⟨gE,k*11+3,none⟩=some (.int .i64 (E k 3))∧x.cell? ⟨gE,k*11+4,none⟩=some (.int .i64 (E k 4))∧x.cell? ⟨gE,k*11+5,none⟩=some (.int .i64 (E k 5))∧x.cell? ⟨gE,k*11+6,none⟩=some (.int .i64 (E k 6))∧x.cell? ⟨gE,k*11+7,none⟩=some (.int .i64 (E k 7))∧x.cell? ⟨gE,k*11+8,none⟩=some (.int .i64 (E k 8))∧x.cell? ⟨gE,k*11+9,none⟩=some (.int .i64 (E k 9))∧x.cell? ⟨gE,k*11+10,none⟩=some (.int .i64 (E k 10)))) (with_reducible (refine uh hkeep _ ?_;repeat' (first | exact World.grownBy.refl _ _ | exact uh hg5 | refine gd1 ?_ | refine gal ?_ _ | refine gsr ?_ _ (Nat.le_refl _) _))) (first
          | (go_at_call 41;with_reducible refine (uh hch _ (uh hd0)).mono ?_;rintro e w5 ⟨p,ok,rfl,hp,hg5,hy5⟩)
          | (go_at_call 41;with_reducible refine (uh hch _ (uh hd1)).mono ?_;rintro e w5 ⟨p,ok,rfl,hp,hg5,hy5⟩;have hZ5:=hide ((uh hZ).on (uh hy5));obtain ⟨c0,c1,c2,c3,c4,c5,c6,c7,c8,c9,c10⟩:=(uh hZ5).ent;have fz:=(uh hZ5).free))
         all_goals (go_wp2_with fail;go_meet)
         ·exact ⟨_,rfl,p,uh hp,Lie.copied w5 p _,gal (uh hg5) _,(uh hg5).size⟩
         ·exact ⟨_,rfl,p,uh hp,Cr.laid (uh hZ5) p,own_sets (g:=w4.heap.size) (Nat.le_refl _) [_,_,_,_,_,_,_,_,_,_,_] 0 _ (uh hg5),Nat.le_refl _⟩
        case rest =>
         clear hkeep hch hd0 hd1 hZ
         obtain ⟨Q,rfl,hQ⟩:=hcut
         obtain ⟨p,⟨q,hq1,hq2⟩,hQl,hg5,lQ⟩:=uh hQ
         have hT2:=hide (uh hlands q p hq1 hq2)
         have hQ2:=hide hQl
         have hK3:=hide ((uh hK2).on hg5)
         clear hQ hq1 hq2 hQl hg5 lQ hlands hK2
         have b5:=(uh hK3).hand.hold.box.eleven.2.2.2.2.2.1
         have a5:=((uh hK3).on (World.grownBy_alloc wc (.cells #[] 70) none)).hand.hold.box.eleven.2.2.2.2.2.1
         obtain ⟨i0,hi,hz0,hz1,hz2⟩:=info_parts info_ent
         go_wp2_with (at_builtin;refine wpList_append_own _ rfl _ _ 26 rfl wc.heap.size 70 i0 (.agg #[.int .i64 0,.int .i64 0,.int .i64 0,.int .i64 0,.int .i64 0,.int .i64 0,.int .i64 0,.int .i64 0,.int .i64 0,.int .i64 0,.int .i64 0]) 11 88 Tryz.underlying26 hi hz0 hz1 hz2 rfl (by decide) _ 0 [] rfl (World.ownsRow_made _ _ _ (Nat.le_refl _) (by decide) (by simp)) ⟨jE,0,none⟩ 32 dE (En.list 32 F) rfl (En.list_len 32 F) (En.flat_src (uh hK3).hand.hold.lists.own.ents (World.grownBy_alloc _ _ _)) En.list_one ?c4 ?c5 ?c6 ?_)
         case c4=>unfold maxLen;omega
         case c5=>omega
         try (case c6=>simp)
         intro v' w6 hown hgrow hnil
         obtain ⟨j6,d6,rfl,hlo6,hnc6,hcm6,hown6⟩:=Own.of_append hown hnil (by omega)
         have hg6:=gow (World.grownBy_alloc wc (.cells #[] 70) none) hgrow (by intro m hm;simp [Value.ownBlock] at hm;omega)
         have hlo7:wc.heap.size≤j6:=hlo6
         have y5:=((uh hK3).on hg6).hand.hold.box.eleven.2.2.2.2.2.1
         have fB:=((uh hK3).on hg6).hand.hold.box.free
         have hK4:=hide ((uh hK3).folk hnc6 (.inr hlo7) hown6 hg6)
         have hQB:=(uh hK3).hand.hold.box.type_ne (uh hQ2) (by decide)
         have hQ3:=hide (((uh hQ2).on hg6).other hQB 5 (.slice (some ⟨j6,0,none⟩) 32 d6))
         have hQj:Hid (Q≠j6):=(show Q≠j6 by have:=(uh hQ2).lt;omega)
         have hjg:Hid (v.heap.size≤j6∧j6≠gE∧w1.heap.size≤j6):=⟨Nat.le_trans (uh hK3).hand.grown.size hlo7,(show j6≠gE by have:=(uh hK3).old.lt;omega),Nat.le_trans (uh hK3).same.1 hlo7⟩
         clear hown hgrow hnil hlo6 hnc6 hcm6 hown6 hg6 hlo7 a5 b5 hi hz0 hz1 hz2 hQB hK3 hQ2
         go_upto_region 21 with fail
         generalize w6.setCell ⟨B,5,none⟩ (.slice (some ⟨j6,0,none⟩) 32 d6)=w7 at hK4 hQ3 ⊢
         clear y5 fB
         have b5:=(uh hK4).hand.hold.box.eleven.2.2.2.2.2.1
         obtain ⟨p0,p1,p2,p3,p4,p5,p6,p7,p8,p9,p10⟩:=(uh hQ3).ent
         obtain ⟨r0,r1,r2,r3,r4,r5,r6,r7,r8,r9,r10⟩:=(uh hK4).hand.hold.lists.own.ents.row (uh HK)
         have fE:=(uh hK4).hand.hold.lists.ents.free
         have hK5:=hide ((uh hK4).ent (uh hjg).1 (uh hjg).2.1 (uh hjg).2.2 k p)
         clear hK4 hQ3
         go_wp2
         go_roundw
         case rel=>exact ⟨t+1,j6,d6,En.put F k p,by have:=uh HL;omega,by go_num,(uh hjg).1,hT2,hK5⟩
         case measure=>simp [intOf];have:=uh HL;omega
      ·obtain rfl:t=4:=by omega
       have hge:¬((4:Nat):Int)<4:=by omega
       obtain ⟨b0,b1,b2,b3,b4,b5,b6,b7,b8,b9,b10⟩:=(uh hK).hand.hold.box.eleven
       have l0:wr.cell? ⟨L,0,none⟩=some (.slice (some ⟨G,0,none⟩) 384 384):=((uh hK).lev.cell (c:=0) (by omega)).trans (by rw [(uh lvs).1])
       have l1:wr.cell? ⟨L,1,none⟩=some (.slice aE nE kE):=((uh hK).lev.cell (c:=1) (by omega)).trans (by rw [(uh lvs).2.1])
       have l2:wr.cell? ⟨L,2,none⟩=some (.slice aI nI kI):=((uh hK).lev.cell (c:=2) (by omega)).trans (by rw [(uh lvs).2.2])
       have hsane:Hid (Cr.Sane c F (Cr.stockI (Cr.kept I) is)):=by
        have hl:=uh hlev'
        have hc8:∀i,0≤c i∧c i≤255:=fun i=>⟨(hl.floor.five i).1,by have:=(hl.floor.five i).2;omega⟩
        obtain ⟨hk,hk1⟩:=Cr.kept_ok (c':=c) (uh hS').fit.ok
        exact (Cr.landing (uh hS') hl.floor hl.four (by omega) (Cr.bare_sane hc8 (hl.lay hk hk1) (uh hS').good.gens) (fun k _ k0=>absurd rfl k0) (uh hT)).1
       have cs:=hide (refStock_any S g c F (Cr.kept I) (Cr.stockI (Cr.kept I) is) G jE gI 384 dE cI G nE nI kE kI aE aI es is wr (uh hK).hand.hold.lists (uh hK).hand.cap (uh hK).hand.hold.cE (uh hK).hand.hold.cI (uh hK).hand.hold.eI (uh hsane) (uh hMI' wr (uh hK).same).1 ((uh hlev').mons (by omega)) (uh hMI' wr (uh hK).same).2 (uh hnI'))
       unfold Gd.world at cs
       clear hlt ht hsane
       go_wp2_with fail
       refine (uh cs).mono ?_
       rintro e w8 ⟨jC,j8,jI,dC,d8,dI,rfl,hcap,m1,m2,m3,n1,n2,n3,hL,hg⟩
       have hr8:=hide ((uh hK).res.on hg)
       have fz:=(uh hr8).free
       obtain ⟨z0,z1,z2,z3,z4,z5,z6,z7,z8,z9,z10⟩:=Gd.res_cells (uh hr8)
       have hfo:Hid (∀vs,∃T,Cr.Below s g E I T∧Gd.Worlds v T.s T.g T.c T.E T.I (.returned (.agg (Gd.world S jC j8 jI dC d8 dI g))) (w8.setCells (B+1) 0 vs)):=fun vs=>by
        have k1:=(uh hK).hand.grown.size
        have k2:=uh hGv
        have k3:=uh hvj
        have k4:=uh hvI'
        have q1:=(uh hr8).type_ne hL.cells (by decide)
        have q2:=(uh hr8).type_ne hL.ents (by decide)
        have q3:=(uh hr8).type_ne hL.items (by decide)
        have r:=gss (g:=B+1) vs 0 w8 (World.grownBy.refl _ _)
        refine ⟨⟨S,g,c,Cr.stockE F es,Cr.stockI (Cr.kept I) is⟩,⟨c,es,is,F,by rw [hf];exact uh hlev',uh hT,by rw [hf,uh hSn']⟩,jC,j8,jI,dC,d8,dI,rfl,hcap,by omega,by omega,by omega,n1,n2,n3,⟨hL.cells.grown r (by simpa using q1),hL.ents.grown r (by simpa using q2),hL.items.grown r (by simpa using q3)⟩,?_⟩
        exact own_sets (by have:=uh hvs';omega) _ 0 w8 (gtr (uh hK).hand.grown hg)
       clear hcap m1 m2 m3 n1 n2 n3 hL hg cs b0 b1 b2 b3 b4 b5 b6 b7 b8 b9 b10 l0 l1 l2
       unfold Gd.world
       go_wp2
       refine bodyPost_ret (v:=.agg (Gd.world S jC j8 jI dC d8 dI g)) (by simp [results,Tryz.results51,go_sem,Gd.world,z0,z1,z2,z3,z4,z5,z6,z7,z8,z9,z10]) rfl ?_
       exact uh hfo [_,_,_,_,_,_,_,_,_,_,_]


open Go.RowKit

structure Cr.Turn (v x:World) (B A R gC gE gI cC cE cI:Nat) (how inp:Nat→Int) (sp:Nat→Bool) (s g c:Nat→Int) (E I:Nat→Nat→Int):Prop where
 hand:Cr.Hand v x B gC gE gI cC cE cI s g c E I
 acts:Lie x A 63 12 (Cr.actF how inp sp)
 res:Lie x R 30 11 (fun j=>#[.int .i64 0,.int .i64 0,.int .i64 0,.int .i64 0,.slice none 0 0,.slice none 0 0,.slice none 0 0,.int .i64 0,.int .i64 0,.int .i64 0,Value.int .i64 0][j]?.getD undef)
 bR:B≠R
 lR:v.heap.size≤R
 lC:v.heap.size≤gC
 lE:v.heap.size≤gE
 lI:v.heap.size≤gI

theorem Cr.Turn.on {v x y:World} {B A R gC gE gI cC cE cI:Nat} {how inp:Nat→Int} {sp:Nat→Bool} {s g c:Nat→Int} {E I:Nat→Nat→Int} (h:Cr.Turn v x B A R gC gE gI cC cE cI how inp sp s g c E I) (hg:x.grownBy y none):Cr.Turn v y B A R gC gE gI cC cE cI how inp sp s g c E I :=
 ⟨h.hand.on hg,h.acts.on hg,h.res.on hg,h.bR,h.lR,h.lC,h.lE,h.lI⟩

theorem Cr.Turn.num {v x:World} {B A R gC gE gI cC cE cI:Nat} {how inp:Nat→Int} {sp:Nat→Bool} {s g c:Nat→Int} {E I:Nat→Nat→Int} (h:Cr.Turn v x B A R gC gE gI cC cE cI how inp sp s g c E I) (k:Nat) (hk:k<4) (u:Int):Cr.Turn v (x.setCell ⟨B,k,none⟩ (.int .i64 u)) B A R gC gE gI cC cE cI how inp sp (Cr.num s k u) g c E I :=
 ⟨h.hand.num k hk u,h.acts.other (h.hand.hold.box.type_ne h.acts (by decide)) _ _,h.res.other h.bR _ _,h.bR,h.lR,h.lC,h.lE,h.lI⟩

theorem Cr.Turn.folk {v x x':World} {B A R gC gE gI cC cE cI jE dE:Nat} {how inp:Nat→Int} {sp:Nat→Bool} {s g c:Nat→Int} {E I F:Nat→Nat→Int} (h:Cr.Turn v x B A R gC gE gI cC cE cI how inp sp s g c E I) (hcap:32≤dE) (hj:jE=gE∨x.heap.size≤jE) (hO:Own x' jE 32 F) (hg:x.grownBy x' none) :
  Cr.Turn v (x'.setCell ⟨B,5,none⟩ (.slice (some ⟨jE,0,none⟩) 32 dE)) B A R gC jE gI cC dE cI how inp sp s g c F I:=by
 have hs:=h.hand.grown.size
 have hl:=h.lE
 exact ⟨h.hand.folk hcap hj hO hg,(h.acts.on hg).other (h.hand.hold.box.type_ne h.acts (by decide)) _ _,(h.res.on hg).other h.bR _ _,h.bR,h.lR,h.lC,by omega,h.lI⟩

theorem Cr.Turn.over {v x x':World} {B A R gC gE gI cC cE cI jC jE jI dC dE dI:Nat} {how inp:Nat→Int} {sp:Nat→Bool} {s g c s' g' c':Nat→Int} {E I F J:Nat→Nat→Int} (h:Cr.Turn v x B A R gC gE gI cC cE cI how inp sp s g c E I) (hcap:32≤dE) (l1:jC=gC∨v.heap.size≤jC) (l2:jE=gE∨v.heap.size≤jE) (l3:jI=gI∨v.heap.size≤jI) (n1:jC≠jE) (n2:jC≠jI) (n3:jE≠jI) (hL:Gd.Lists x' jC jE jI c' F J) (hb:Lie x' B 30 11 (Gd.box s gC gE gI cC cE cI g)) (ha:Lie x' A 63 12 (Cr.actF how inp sp)) (hr:Lie x' R 30 11 (fun j=>#[.int .i64 0,.int .i64 0,.int .i64 0,.int .i64 0,.slice none 0 0,.slice none 0 0,.slice none 0 0,.int .i64 0,.int .i64 0,.int .i64 0,Value.int .i64 0][j]?.getD undef)) (hg:v.grownBy x' none) :
  Cr.Turn v (x'.setCells B 0 (Gd.world s' jC jE jI dC dE dI g').toList) B A R jC jE jI dC dE dI how inp sp s' g' c' F J:=by
 have q1:=hb.type_ne hL.cells (by decide)
 have q2:=hb.type_ne hL.ents (by decide)
 have q3:=hb.type_ne hL.items (by decide)
 have k1:=h.lC
 have k2:=h.lE
 have k3:=h.lI
 exact ⟨⟨⟨hb.whole s' g' jC jE jI dC dE dI,⟨hL.cells.others q1 _ _,hL.ents.others q2 _ _,hL.items.others q3 _ _⟩,q1,q2,q3,n1,n2,n3⟩,h.hand.lB,hcap,own_sets h.hand.lB _ 0 x' hg⟩,ha.others (hb.type_ne ha (by decide)) _ _,hr.others h.bR _ _,h.bR,h.lR,by omega,by omega,by omega⟩

theorem Cr.Turn.worlds {v x:World} {B A R gC gE gI cC cE cI:Nat} {how inp:Nat→Int} {sp:Nat→Bool} {s g c:Nat→Int} {E I:Nat→Nat→Int} (h:Cr.Turn v x B A R gC gE gI cC cE cI how inp sp s g c E I) (vs:List Value):Gd.Worlds v s g c E I (.returned (.agg (Gd.world s gC gE gI cC cE cI g))) (x.setCells R 0 vs):=by
 have hh:=h.hand.hold
 have q1:=h.res.type_ne hh.lists.cells (by decide)
 have q2:=h.res.type_ne hh.lists.ents (by decide)
 have q3:=h.res.type_ne hh.lists.items (by decide)
 exact ⟨gC,gE,gI,cC,cE,cI,rfl,h.hand.cap,h.lC,h.lE,h.lI,hh.cE,hh.cI,hh.eI,⟨hh.lists.cells.others q1 _ _,hh.lists.ents.others q2 _ _,hh.lists.items.others q3 _ _⟩,own_sets h.lR _ 0 x h.hand.grown⟩


open Go.RowKit

theorem Cr.Turn.past {v x x':World} {B A R gC gE gI cC cE cI jC jE jI dC dE dI k:Nat} {how inp:Nat→Int} {sp:Nat→Bool} {s g c s' g' c':Nat→Int} {E I F J:Nat→Nat→Int} (h:Cr.Turn v x B A R gC gE gI cC cE cI how inp sp s g c E I) (hk:B<k∧A<k∧R<k∧v.heap.size≤k∧k≤gE∧k≤gI) (hcap:32≤dE) (l1:(trim x k).heap.size≤jC) (l2:(trim x k).heap.size≤jE) (l3:(trim x k).heap.size≤jI) (n1:jC≠jE) (n2:jC≠jI) (n3:jE≠jI) (hL:Gd.Lists x' jC jE jI c' F J) (hg:(trim x k).grownBy x' none) :
  Cr.Turn v (x'.setCells B 0 (Gd.world s' jC jE jI dC dE dI g').toList) B A R jC jE jI dC dE dI how inp sp s' g' c' F J∧Lie x' B 30 11 (Gd.box s gC gE gI cC cE cI g)∧k≤jE∧k≤jI:=by
 obtain ⟨k1,k2,k3,k4,k5,k6⟩:=hk
 have hx:k≤x.heap.size:=Nat.le_trans k5 (Nat.le_of_lt h.hand.hold.lists.ents.lt)
 rw [trim_size x hx] at l1 l2 l3
 have hb:=(h.hand.hold.box.trim k1).on hg
 exact ⟨h.over hcap (.inr (by omega)) (.inr (by omega)) (.inr (by omega)) n1 n2 n3 hL hb ((h.acts.trim k2).on hg) ((h.res.trim k3).on hg) (gtr (grown_trim h.hand.grown k4 hx) hg),hb,l2,l3⟩

set_option maxRecDepth 16000 in
set_option maxHeartbeats 6400000 in
theorem turn_end {v x:World} {B A R gC gE gI cC cE cI k:Nat} {how inp:Nat→Int} {sp:Nat→Bool} {s g c:Nat→Int} {E I:Nat→Nat→Int} (hT:Cr.Turn v x B A R gC gE gI cC cE cI how inp sp s g c E I) (hk:B<k∧A<k∧R<k∧v.heap.size≤k∧k≤gE∧k≤gI) (hS:Cr.Sane c E I) (f1:1≤s 2) (f3:s 2≤3) (had left:Bool) (Q:Ending→World→Prop) (hQ:∀T e y,Cr.Ends s g c E I had left T→Gd.Worlds v T.s T.g T.c T.E T.I e y→Q e y) {t0 t1 t6 t7 t8 Aa Ab Ac Ad Ae Af Ag Ah Ai Aj Ak Al Am Ao Ap Aq Ar As Au Av Aw Ax Ay Az AA AB AC AD AE AF AG AH AI AJ AK AL AM AN AO AP AQ AR AS AT AU AV AW AX AY AZ A0 A1 A2 A3 A4 A5 A6 A7 A8 A9 Ba Bb Bc Bd Be Bf Bg Bh Bi Bj Bk Bl Bm Bn Bo Bp Bq Br Bs Bt Bu Bv Bw Bx Bz BA BB BC BD BE BF BG BH BI BJ BK BL BM BN BO BP BQ BR BS BT BU BV BW BX BY BZ B0 B1 B2 B3 B4 B5 B6 B7 B8 B9 Ca Cb Cc Cd Ce Cf Cg Ch Ci Cj Ck Cl Cm Cn Co Cp Cq Cs Ct Cu Cv Cw Cx Cy Cz CA CB CC CD CE CF CG CH CI CJ CK CL CM CN CO CP CQ CR CS CT CU CV CW CX CY CZ C0 C1 C2 C3 C4 C5 C6 C7 C8 C9 Da Db Dc Dd De Df Dg Dh Di Dj Dk Dl Dm Dn Dp Dq Dr Ds Dt Du Dv Dw Dx Dy Dz DA DB DC DD DE DF DG DH DI DJ DK DL:Value} :
  Code.wp Tryz.prog ((Tryz.f24.body.map (cdrop 12)).getD .skip) (bodyPost Tryz.prog Tryz.f24 Q) ⟨#[t0,t1,.pointer (some ⟨B,0,none⟩),.pointer (some ⟨A,0,none⟩),.pointer (some ⟨R,0,none⟩),.bool had,t6,t7,t8,.bool left,Aa,Ab,Ac,Ad,Ae,Af,Ag,Ah,Ai,Aj,Ak,Al,Am,Ao,Ap,Aq,Ar,As,Au,Av,Aw,Ax,Ay,Az,AA,AB,AC,AD,AE,AF,AG,AH,AI,AJ,AK,AL,AM,AN,AO,AP,AQ,AR,AS,AT,AU,AV,AW,AX,AY,AZ,A0,A1,A2,A3,A4,A5,A6,A7,A8,A9,Ba,Bb,Bc,Bd,Be,Bf,Bg,Bh,Bi,Bj,Bk,Bl,Bm,Bn,Bo,Bp,Bq,Br,Bs,Bt,Bu,Bv,Bw,Bx,Bz,BA,BB,BC,BD,BE,BF,BG,BH,BI,BJ,BK,BL,BM,BN,BO,BP,BQ,BR,BS,BT,BU,BV,BW,BX,BY,BZ,B0,B1,B2,B3,B4,B5,B6,B7,B8,B9,Ca,Cb,Cc,Cd,Ce,Cf,Cg,Ch,Ci,Cj,Ck,Cl,Cm,Cn,Co,Cp,Cq,Cs,Ct,Cu,Cv,Cw,Cx,Cy,Cz,CA,CB,CC,CD,CE,CF,CG,CH,CI,CJ,CK,CL,CM,CN,CO,CP,CQ,CR,CS,CT,CU,CV,CW,CX,CY,CZ,C0,C1,C2,C3,C4,C5,C6,C7,C8,C9,Da,Db,Dc,Dd,De,Df,Dg,Dh,Di,Dj,Dk,Dl,Dm,Dn,Dp,Dq,Dr,Ds,Dt,Du,Dv,Dw,Dx,Dy,Dz,DA,DB,DC,DD,DE,DF,DG,DH,DI,DJ,DK,DL],[]⟩ x:=by
 conv=>arg 2;whnf
 have hT':=hide hT
 have hQ':=hide hQ
 have hk':=hide hk
 have hS':=hide hS
 have HF:=hide (And.intro f1 f3)
 clear hT hQ hk hS f1 f3
 obtain ⟨b0,b1,b2,b3,b4,b5,b6,b7,b8,b9,b10⟩:=(uh hT').hand.hold.box.eleven
 have cm:=hide (refSome_any s g c E I gC gE gI cC cE cI x (uh hT').hand.hold.lists)
 unfold Gd.world at cm
 go_wp2_with fail
 refine (uh cm).mono ?_
 rintro e w1 ⟨rfl,hg⟩
 have hT1:=hide ((uh hT').on hg)
 clear hg cm b0 b1 b2 b3 b4 b5 b6 b7 b8 b9 b10 hT'
 obtain ⟨mn,hmn⟩:∃mn,Cr.manned E=mn:=⟨_,rfl⟩
 rw [hmn]
 have HM:=hide hmn
 clear hmn
 obtain ⟨b0,b1,b2,b3,b4,b5,b6,b7,b8,b9,b10⟩:=(uh hT1).hand.hold.box.eleven
 have fB:=(uh hT1).hand.hold.box.free
 cases mn
 ·cases had
  ·have he:Hid (Cr.Ends s g c E I false left ⟨s,g,c,E,I⟩):=by show Cr.Ends _ _ _ _ _ _ _ _;unfold Cr.Ends;rw [if_pos (uh HM)];rfl
   go_upto_region 50 with fail
   generalize w1=wc at hT1 ⊢
   clear fB b0 b1 b2 b3 b4 b5 b6 b7 b8 b9 b10
   obtain ⟨b0,b1,b2,b3,b4,b5,b6,b7,b8,b9,b10⟩:=(uh hT1).hand.hold.box.eleven
   obtain ⟨z0,z1,z2,z3,z4,z5,z6,z7,z8,z9,z10⟩:=Gd.res_cells (uh hT1).res
   have fz:=(uh hT1).res.free
   have hfo:Hid (∀l,Q (.returned (.agg (Gd.world s gC gE gI cC cE cI g))) (wc.setCells R 0 l)):=fun l=>uh hQ' _ _ _ (uh he) ((uh hT1).worlds l)
   clear hQ' he hT1
   go_wp2
   refine bodyPost_ret (v:=.agg (Gd.world s gC gE gI cC cE cI g)) (by simp [results,Tryz.results24,go_sem,Gd.world,z0,z1,z2,z3,z4,z5,z6,z7,z8,z9,z10]) rfl ?_
   exact uh hfo [_,_,_,_,_,_,_,_,_,_,_]
  ·have he:Hid (Cr.Ends s g c E I true left ⟨Cr.num s 3 2,g,c,E,I⟩):=by show Cr.Ends _ _ _ _ _ _ _ _;unfold Cr.Ends;rw [if_pos (uh HM)];rfl
   have hT2:=hide ((uh hT1).num 3 (by omega) 2)
   go_upto_region 50 with fail
   generalize (w1.setCell ⟨B,3,none⟩ (.int .i64 2))=wc at hT2 ⊢
   clear fB b0 b1 b2 b3 b4 b5 b6 b7 b8 b9 b10
   obtain ⟨b0,b1,b2,b3,b4,b5,b6,b7,b8,b9,b10⟩:=(uh hT2).hand.hold.box.eleven
   obtain ⟨z0,z1,z2,z3,z4,z5,z6,z7,z8,z9,z10⟩:=Gd.res_cells (uh hT2).res
   have fz:=(uh hT2).res.free
   have hfo:Hid (∀l,Q (.returned (.agg (Gd.world (Cr.num s 3 2) gC gE gI cC cE cI g))) (wc.setCells R 0 l)):=fun l=>uh hQ' _ _ _ (uh he) ((uh hT2).worlds l)
   clear hQ' he hT2
   go_wp2
   refine bodyPost_ret (v:=.agg (Gd.world (Cr.num s 3 2) gC gE gI cC cE cI g)) (by simp [results,Tryz.results24,go_sem,Gd.world,z0,z1,z2,z3,z4,z5,z6,z7,z8,z9,z10]) rfl ?_
   exact uh hfo [_,_,_,_,_,_,_,_,_,_,_]
 ·cases left
  ·have he:Hid (Cr.Ends s g c E I had false ⟨s,g,c,E,I⟩):=by show Cr.Ends _ _ _ _ _ _ _ _;unfold Cr.Ends;rw [uh HM,if_neg (fun h=>by cases h),if_neg (fun h=>by cases h)]
   go_upto_region 50 with fail
   generalize w1=wc at hT1 ⊢
   clear fB b0 b1 b2 b3 b4 b5 b6 b7 b8 b9 b10
   obtain ⟨b0,b1,b2,b3,b4,b5,b6,b7,b8,b9,b10⟩:=(uh hT1).hand.hold.box.eleven
   obtain ⟨z0,z1,z2,z3,z4,z5,z6,z7,z8,z9,z10⟩:=Gd.res_cells (uh hT1).res
   have fz:=(uh hT1).res.free
   have hfo:Hid (∀l,Q (.returned (.agg (Gd.world s gC gE gI cC cE cI g))) (wc.setCells R 0 l)):=fun l=>uh hQ' _ _ _ (uh he) ((uh hT1).worlds l)
   clear hQ' he hT1
   go_wp2
   refine bodyPost_ret (v:=.agg (Gd.world s gC gE gI cC cE cI g)) (by simp [results,Tryz.results24,go_sem,Gd.world,z0,z1,z2,z3,z4,z5,z6,z7,z8,z9,z10]) rfl ?_
   exact uh hfo [_,_,_,_,_,_,_,_,_,_,_]
  ·by_cases h3:s 2=3
   ·have he:Hid (Cr.Ends s g c E I had true ⟨Cr.num s 3 1,g,c,E,I⟩):=by show Cr.Ends _ _ _ _ _ _ _ _;unfold Cr.Ends;rw [uh HM,if_neg (fun h=>by cases h),if_pos rfl,if_pos h3]
    have hT2:=hide ((uh hT1).num 3 (by omega) 1)
    rw [h3] at b2
    clear h3
    go_upto_region 50 with fail
    generalize (w1.setCell ⟨B,3,none⟩ (.int .i64 1))=wc at hT2 ⊢
    clear fB b0 b1 b2 b3 b4 b5 b6 b7 b8 b9 b10
    obtain ⟨b0,b1,b2,b3,b4,b5,b6,b7,b8,b9,b10⟩:=(uh hT2).hand.hold.box.eleven
    obtain ⟨z0,z1,z2,z3,z4,z5,z6,z7,z8,z9,z10⟩:=Gd.res_cells (uh hT2).res
    have fz:=(uh hT2).res.free
    have hfo:Hid (∀l,Q (.returned (.agg (Gd.world (Cr.num s 3 1) gC gE gI cC cE cI g))) (wc.setCells R 0 l)):=fun l=>uh hQ' _ _ _ (uh he) ((uh hT2).worlds l)
    clear hQ' he hT2
    go_wp2
    refine bodyPost_ret (v:=.agg (Gd.world (Cr.num s 3 1) gC gE gI cC cE cI g)) (by simp [results,Tryz.results24,go_sem,Gd.world,z0,z1,z2,z3,z4,z5,z6,z7,z8,z9,z10]) rfl ?_
    exact uh hfo [_,_,_,_,_,_,_,_,_,_,_]
   ·have he:Hid (∀T,Cr.Below s g E I T→Cr.Ends s g c E I had true T):=fun T hT=>by unfold Cr.Ends;rw [uh HM,if_neg (fun h=>by cases h),if_pos rfl,if_neg h3];exact hT
    have h3':(s 2 == 3)=false:=by simp [h3]
    have hh:=(uh hT1).hand.hold
    obtain ⟨k1,k2,k3,k4,k5,k6⟩:=uh hk'
    have hx:k≤w1.heap.size:=Nat.le_trans k5 (Nat.le_of_lt hh.lists.ents.lt)
    have cb:=hide (refBelow_any (trim w1 k) s g c E I gC gE gI cC cE cI w1 (trim_grown w1 hx) (by rw [trim_size w1 hx];exact k5) (by rw [trim_size w1 hx];exact k6) hh.lists (uh hT1).hand.cap hh.cE hh.cI hh.eI (uh hS') (uh HF).1 (by have:=(uh HF).2;omega))
    clear k1 k2 k3 k4 k5 k6 hx hh h3
    unfold Gd.world at cb
    go_wp2_with fail
    refine (uh cb).mono ?_
    rintro e w2 ⟨T,hB,jC,jE,jI,dC,dE,dI,rfl,hcap,l1,l2,l3,n1,n2,n3,hL,hg⟩
    obtain ⟨hT2,hb2,-,-⟩:=(uh hT1).past (uh hk') (s':=T.s) (g':=T.g) (dC:=dC) (dI:=dI) hcap l1 l2 l3 n1 n2 n3 hL hg
    have hT2':Hid (Cr.Turn v (((((((((((w2.setCell ⟨B,0,none⟩ (.int .i64 (T.s 0))).setCell ⟨B,1,none⟩ (.int .i64 (T.s 1))).setCell ⟨B,2,none⟩ (.int .i64 (T.s 2))).setCell ⟨B,3,none⟩ (.int .i64 (T.s 3))).setCell ⟨B,4,none⟩ (.slice (some ⟨jC,0,none⟩) 384 dC)).setCell ⟨B,5,none⟩ (.slice (some ⟨jE,0,none⟩) 32 dE)).setCell ⟨B,6,none⟩ (.slice (some ⟨jI,0,none⟩) 40 dI)).setCell ⟨B,7,none⟩ (.int .i64 (T.g 0))).setCell ⟨B,8,none⟩ (.int .i64 (T.g 1))).setCell ⟨B,9,none⟩ (.int .i64 (T.g 2))).setCell ⟨B,10,none⟩ (.int .i64 (T.g 3))) B A R jC jE jI dC dE dI how inp sp T.s T.g T.c T.E T.I):=hT2
    have heT:=hide (uh he T hB)
    clear b0 b1 b2 b3 b4 b5 b6 b7 b8 b9 b10 fB cb hcap l1 l2 l3 n1 n2 n3 hL hg hT2 hB he hT1
    obtain ⟨b0,b1,b2,b3,b4,b5,b6,b7,b8,b9,b10⟩:=hb2.eleven
    have fB:=hb2.free
    clear hb2
    unfold Gd.world
    go_upto_region 50 with fail
    generalize (((((((((((w2.setCell ⟨B,0,none⟩ (.int .i64 (T.s 0))).setCell ⟨B,1,none⟩ (.int .i64 (T.s 1))).setCell ⟨B,2,none⟩ (.int .i64 (T.s 2))).setCell ⟨B,3,none⟩ (.int .i64 (T.s 3))).setCell ⟨B,4,none⟩ (.slice (some ⟨jC,0,none⟩) 384 dC)).setCell ⟨B,5,none⟩ (.slice (some ⟨jE,0,none⟩) 32 dE)).setCell ⟨B,6,none⟩ (.slice (some ⟨jI,0,none⟩) 40 dI)).setCell ⟨B,7,none⟩ (.int .i64 (T.g 0))).setCell ⟨B,8,none⟩ (.int .i64 (T.g 1))).setCell ⟨B,9,none⟩ (.int .i64 (T.g 2))).setCell ⟨B,10,none⟩ (.int .i64 (T.g 3)))=wc at hT2' ⊢
    clear fB b0 b1 b2 b3 b4 b5 b6 b7 b8 b9 b10
    obtain ⟨b0,b1,b2,b3,b4,b5,b6,b7,b8,b9,b10⟩:=(uh hT2').hand.hold.box.eleven
    obtain ⟨z0,z1,z2,z3,z4,z5,z6,z7,z8,z9,z10⟩:=Gd.res_cells (uh hT2').res
    have fz:=(uh hT2').res.free
    have hfo:Hid (∀l,Q (.returned (.agg (Gd.world T.s jC jE jI dC dE dI T.g))) (wc.setCells R 0 l)):=fun l=>uh hQ' _ _ _ (uh heT) ((uh hT2').worlds l)
    clear hQ' heT hT2'
    go_wp2
    refine bodyPost_ret (v:=.agg (Gd.world T.s jC jE jI dC dE dI T.g)) (by simp [results,Tryz.results24,go_sem,Gd.world,z0,z1,z2,z3,z4,z5,z6,z7,z8,z9,z10]) rfl ?_
    exact uh hfo [_,_,_,_,_,_,_,_,_,_,_]


open Go.RowKit

theorem Cr.Turn.aside {v x:World} {B A R gC gE gI cC cE cI D o:Nat} {how inp:Nat→Int} {sp:Nat→Bool} {s g c:Nat→Int} {E I:Nat→Nat→Int} (h:Cr.Turn v x B A R gC gE gI cC cE cI how inp sp s g c E I) (hD:v.heap.size≤D) (n0:D≠B) (n1:D≠A) (n2:D≠R) (n3:D≠gC) (n4:D≠gE) (n5:D≠gI) (u:Value):Cr.Turn v (x.setCell ⟨D,o,none⟩ u) B A R gC gE gI cC cE cI how inp sp s g c E I:=by
 have hh:=h.hand.hold
 exact ⟨⟨⟨hh.box.other n0 _ _,⟨hh.lists.cells.other n3 _ _,hh.lists.ents.other n4 _ _,hh.lists.items.other n5 _ _⟩,hh.bC,hh.bE,hh.bI,hh.cE,hh.cI,hh.eI⟩,h.hand.lB,h.hand.cap,gsr h.hand.grown ⟨D,o,none⟩ hD _⟩,h.acts.other n1 _ _,h.res.other n2 _ _,h.bR,h.lR,h.lC,h.lE,h.lI⟩

theorem Cr.Turn.fresh {v x x':World} {B A R gC gE gI cC cE cI jC jE jI dC dE dI k:Nat} {how inp:Nat→Int} {sp:Nat→Bool} {s g c s' g' c':Nat→Int} {E I F J:Nat→Nat→Int} (h:Cr.Turn v x B A R gC gE gI cC cE cI how inp sp s g c E I) (hk:B<k∧A<k∧R<k∧v.heap.size≤k∧k≤gE∧k≤gI) (hcap:32≤dE) (l1:jC=gC∨x.heap.size≤jC) (l2:jE=gE∨x.heap.size≤jE) (l3:jI=gI∨x.heap.size≤jI) (n1:jC≠jE) (n2:jC≠jI) (n3:jE≠jI) (hL:Gd.Lists x' jC jE jI c' F J) (hg:x.grownBy x' none) :
  Cr.Turn v (x'.setCells B 0 (Gd.world s' jC jE jI dC dE dI g').toList) B A R jC jE jI dC dE dI how inp sp s' g' c' F J∧Lie x' B 30 11 (Gd.box s gC gE gI cC cE cI g)∧B<k∧A<k∧R<k∧v.heap.size≤k∧k≤jE∧k≤jI:=by
 obtain ⟨k1,k2,k3,k4,k5,k6⟩:=hk
 have q1:=h.hand.hold.lists.ents.lt
 have q2:=h.hand.grown.size
 have hb:=h.hand.hold.box.on hg
 exact ⟨h.over hcap (l1.imp id (by omega)) (l2.imp id (by omega)) (l3.imp id (by omega)) n1 n2 n3 hL hb (h.acts.on hg) (h.res.on hg) (gtr h.hand.grown hg),hb,k1,k2,k3,k4,by omega,by omega⟩

theorem Cr.Turn.low {v x:World} {B A R gC gE gI cC cE cI:Nat} {how inp:Nat→Int} {sp:Nat→Bool} {s g c:Nat→Int} {E I:Nat→Nat→Int} (h:Cr.Turn v x B A R gC gE gI cC cE cI how inp sp s g c E I):v.heap.size≤x.heap.size∧B<x.heap.size∧A<x.heap.size∧R<x.heap.size∧gC<x.heap.size∧gE<x.heap.size∧gI<x.heap.size :=
 ⟨h.hand.grown.size,h.hand.hold.box.lt,h.acts.lt,h.res.lt,h.hand.hold.lists.cells.lt,h.hand.hold.lists.ents.lt,h.hand.hold.lists.items.lt⟩

theorem Cr.rat_row (u:Nat):Cr.one 2 0 u=En.upd (En.upd (En.stats 2) 3 ((u:Int) % 24)) 4 ((u:Int) / 24):=by
 unfold Cr.one
 rw [show En.upd (En.stats 2) 2 0=En.stats 2 from funext fun j=>by unfold En.upd;by_cases e:j=2;rw [if_pos e,e];rfl;rw [if_neg e]]

set_option maxRecDepth 16000 in
set_option maxHeartbeats 6400000 in
theorem turn_rat {v x:World} {B A R gC gE gI cC cE cI k:Nat} {how inp:Nat→Int} {sp:Nat→Bool} {s g c:Nat→Int} {E I:Nat→Nat→Int} (hT:Cr.Turn v x B A R gC gE gI cC cE cI how inp sp s g c E I) (hk:B<k∧A<k∧R<k∧v.heap.size≤k∧k≤gE∧k≤gI) (hS:Cr.Sane c E I) (hFl:Nv.Floor c) (f1:1≤s 2) (f3:s 2≤3) (had left:Bool) (Q:Ending→World→Prop) (hQ:∀T e y,Cr.Ends s g c (Cr.rats s c (Ft.ailE E I 32).1) (Ft.ailE E I 32).2 had left T→Gd.Worlds v T.s T.g T.c T.E T.I e y→Q e y) {t0 t1 t6 t7 t8 Aa Ab Ac Ad Ae Af Ag Ah Ai Aj Ak Al Am Ao Ap Aq Ar As Au Av Aw Ax Ay Az AA AB AC AD AE AF AG AH AI AJ AK AL AM AN AO AP AQ AR AS AT AU AV AW AX AY AZ A0 A1 A2 A3 A4 A5 A6 A7 A8 A9 Ba Bb Bc Bd Be Bf Bg Bh Bi Bj Bk Bl Bm Bn Bo Bp Bq Br Bs Bt Bu Bv Bw Bx Bz BA BB BC BD BE BF BG BH BI BJ BK BL BM BN BO BP BQ BR BS BT BU BV BW BX BY BZ B0 B1 B2 B3 B4 B5 B6 B7 B8 B9 Ca Cb Cc Cd Ce Cf Cg Ch Ci Cj Ck Cl Cm Cn Co Cp Cq Cs Ct Cu Cv Cw Cx Cy Cz CA CB CC CD CE CF CG CH CI CJ CK CL CM CN CO CP CQ CR CS CT CU CV CW CX CY CZ C0 C1 C2 C3 C4 C5 C6 C7 C8 C9 Da Db Dc Dd De Df Dg Dh Di Dj Dk Dl Dm Dn Dp Dq Dr Ds Dt Du Dv Dw Dx Dy Dz DA DB DC DD DE DF DG DH DI DJ DK DL:Value} :
  Code.wp Tryz.prog ((Tryz.f24.body.map (cdrop 10)).getD .skip) (bodyPost Tryz.prog Tryz.f24 Q) ⟨#[t0,t1,.pointer (some ⟨B,0,none⟩),.pointer (some ⟨A,0,none⟩),.pointer (some ⟨R,0,none⟩),.bool had,t6,t7,t8,.bool left,Aa,Ab,Ac,Ad,Ae,Af,Ag,Ah,Ai,Aj,Ak,Al,Am,Ao,Ap,Aq,Ar,As,Au,Av,Aw,Ax,Ay,Az,AA,AB,AC,AD,AE,AF,AG,AH,AI,AJ,AK,AL,AM,AN,AO,AP,AQ,AR,AS,AT,AU,AV,AW,AX,AY,AZ,A0,A1,A2,A3,A4,A5,A6,A7,A8,A9,Ba,Bb,Bc,Bd,Be,Bf,Bg,Bh,Bi,Bj,Bk,Bl,Bm,Bn,Bo,Bp,Bq,Br,Bs,Bt,Bu,Bv,Bw,Bx,Bz,BA,BB,BC,BD,BE,BF,BG,BH,BI,BJ,BK,BL,BM,BN,BO,BP,BQ,BR,BS,BT,BU,BV,BW,BX,BY,BZ,B0,B1,B2,B3,B4,B5,B6,B7,B8,B9,Ca,Cb,Cc,Cd,Ce,Cf,Cg,Ch,Ci,Cj,Ck,Cl,Cm,Cn,Co,Cp,Cq,Cs,Ct,Cu,Cv,Cw,Cx,Cy,Cz,CA,CB,CC,CD,CE,CF,CG,CH,CI,CJ,CK,CL,CM,CN,CO,CP,CQ,CR,CS,CT,CU,CV,CW,CX,CY,CZ,C0,C1,C2,C3,C4,C5,C6,C7,C8,C9,Da,Db,Dc,Dd,De,Df,Dg,Dh,Di,Dj,Dk,Dl,Dm,Dn,Dp,Dq,Dr,Ds,Dt,Du,Dv,Dw,Dx,Dy,Dz,DA,DB,DC,DD,DE,DF,DG,DH,DI,DJ,DK,DL],[]⟩ x:=by
 conv=>arg 2;whnf
 obtain ⟨b0,b1,b2,b3,b4,b5,b6,b7,b8,b9,b10⟩:=hT.hand.hold.box.eleven
 have ca:=hide (refAil8_any s g c E I gC gE gI cC cE cI x hT.hand.hold.lists hS.fit)
 obtain ⟨F,hF⟩:∃F,(Ft.ailE E I 32).1=F:=⟨_,rfl⟩
 obtain ⟨J,hJ⟩:∃J,(Ft.ailE E I 32).2=J:=⟨_,rfl⟩
 have hSF:=hide hS.ail
 rw [hF,hJ] at ca hQ hSF
 clear hF hJ
 have hT':=hide hT
 have hQ':=hide hQ
 have hk':=hide hk
 have HF:=hide (And.intro f1 f3)
 obtain ⟨u,hu,hfu,hcu,_⟩:=Cr.up_stair hFl
 have HU:=hide (And.intro hu (And.intro hfu hcu))
 have HC:=hide hS.fit.cells
 clear hT hQ hk f1 f3 hS hFl hu hfu hcu
 unfold Gd.world at ca
 go_wp2_with fail
 refine (uh ca).mono ?_
 rintro e w1 ⟨mC,mE,mI,pC,pE,pI,rfl,hcap,l1,l2,l3,n1,n2,n3,hL,hg⟩
 have hf:=(uh hT').fresh (uh hk') (s':=s) (g':=g) (dC:=pC) (dI:=pI) hcap (.inr l1) (.inr l2) (.inr l3) n1 n2 n3 hL hg
 have hT1:Hid (Cr.Turn v (((((((((((w1.setCell ⟨B,0,none⟩ (.int .i64 (s 0))).setCell ⟨B,1,none⟩ (.int .i64 (s 1))).setCell ⟨B,2,none⟩ (.int .i64 (s 2))).setCell ⟨B,3,none⟩ (.int .i64 (s 3))).setCell ⟨B,4,none⟩ (.slice (some ⟨mC,0,none⟩) 384 pC)).setCell ⟨B,5,none⟩ (.slice (some ⟨mE,0,none⟩) 32 pE)).setCell ⟨B,6,none⟩ (.slice (some ⟨mI,0,none⟩) 40 pI)).setCell ⟨B,7,none⟩ (.int .i64 (g 0))).setCell ⟨B,8,none⟩ (.int .i64 (g 1))).setCell ⟨B,9,none⟩ (.int .i64 (g 2))).setCell ⟨B,10,none⟩ (.int .i64 (g 3))) B A R mC mE mI pC pE pI how inp sp s g c F J):=hf.1
 have hk1:=hide hf.2.2
 have hb1:=hide hf.2.1
 clear hf hcap l1 l2 l3 n1 n2 n3 hL hg ca b0 b1 b2 b3 b4 b5 b6 b7 b8 b9 b10 hT' hk'
 obtain ⟨b0,b1,b2,b3,b4,b5,b6,b7,b8,b9,b10⟩:=(uh hb1).eleven
 have fB:=(uh hb1).free
 clear hb1
 unfold Gd.world
 go_upto_region 37 with fail
 generalize (((((((((((w1.setCell ⟨B,0,none⟩ (.int .i64 (s 0))).setCell ⟨B,1,none⟩ (.int .i64 (s 1))).setCell ⟨B,2,none⟩ (.int .i64 (s 2))).setCell ⟨B,3,none⟩ (.int .i64 (s 3))).setCell ⟨B,4,none⟩ (.slice (some ⟨mC,0,none⟩) 384 pC)).setCell ⟨B,5,none⟩ (.slice (some ⟨mE,0,none⟩) 32 pE)).setCell ⟨B,6,none⟩ (.slice (some ⟨mI,0,none⟩) 40 pI)).setCell ⟨B,7,none⟩ (.int .i64 (g 0))).setCell ⟨B,8,none⟩ (.int .i64 (g 1))).setCell ⟨B,9,none⟩ (.int .i64 (g 2))).setCell ⟨B,10,none⟩ (.int .i64 (g 3)))=w2 at hT1 ⊢
 clear b0 b1 b2 b3 b4 b5 b6 b7 b8 b9 b10 fB
 rename_i K1 h1 K2 h2
 have hK0:=hide h1
 clear h1
 have b1:=(uh hT1).hand.hold.box.eleven.2.1
 by_cases h16:s 1 % 16=0
 ·have e1:(s 1).tmod 16=0:=(Cr.rem16 (s 1)).2 h16
  have H16:=hide h16
  clear h16
  have b4:=(uh hT1).hand.hold.box.eleven.2.2.2.2.1
  have b5:=(uh hT1).hand.hold.box.eleven.2.2.2.2.2.1
  have cf:=hide (refFind_any w2.heap.size (some ⟨mC,0,none⟩) 384 pC c 3 w2 (uh hT1).hand.hold.lists.vec (uh HC))
  rw [(uh HU).2.1] at cf
  have cz:=hide (entRefAt_same mE 32 pE F ((u:Int) % 24) ((u:Int) / 24) w2 (uh hT1).hand.hold.lists.own.ents)
  obtain ⟨z,hz⟩:∃z,En.first (En.atQ F ((u:Int) % 24) ((u:Int) / 24)) 32=z:=⟨_,rfl⟩
  rw [hz] at cz
  have HZ:=hide hz
  have t4:IntKind.i64.wrap ((u:Int) / 24)=(u:Int) / 24:=by rw [IntKind.wrap_i64];have:=(uh HU).1;omega
  clear hz
  go_wp2_with fail
  refine (uh cf).mono ?_
  rintro e wy ⟨rfl,hy⟩
  subst wy
  clear cf b4 e1
  go_wp2_with fail
  refine (uh cz).mono ?_
  rintro e wy ⟨rfl,hy⟩
  subst wy
  clear cz b5
  by_cases hz0:z<0
  ·have hr:Cr.rats s c F=Cr.join F (Cr.one 2 0 u):=by
    unfold Cr.rats
    rw [(uh HU).2.1,if_pos ⟨uh H16,by rw [uh HZ];exact hz0⟩,Int.toNat_natCast]
   have hSr:Hid (Cr.Sane c (Cr.rats s c F) J):=by
    show Cr.Sane _ _ _
    rw [hr]
    exact (uh hSF).join (by omega) (by omega) (uh HU).1 ⟨by rw [(uh HU).2.2];rfl,by rw [uh HZ];exact hz0⟩ (.inr ⟨by omega,rfl⟩)
   obtain ⟨st,hst⟩:∃st,En.stats 2=st:=⟨_,rfl⟩
   have cst:=hide (entRefStats_any 2 w2)
   rw [hst] at cst
   have hro:Hid (En.upd (En.upd st 3 ((u:Int) % 24)) 4 ((u:Int) / 24)=Cr.one 2 0 u):=by
    show _=_
    rw [Cr.rat_row,hst]
   rw [hr] at hQ' hSr
   clear hst hr
   obtain ⟨o,ho⟩:∃o,Cr.one 2 0 u=o:=⟨_,rfl⟩
   have HO1:Hid (1≤o 0∧o 0≤4):=by
    show _∧_
    rw [←ho,(Cr.one_at 2 0 u).1 (by omega) (by omega)]
    omega
   rw [ho] at hQ' hSr hro
   clear ho
   unfold En.cells at cst
   go_wp2_with fail
   refine (uh cst).mono ?_
   rintro e w3 ⟨rfl,hg⟩
   have hg3:=hide (gtr hg (World.grownBy_alloc w3 (.cells (En.cells st) 70) none))
   have hD:=hide (Lie.born w3 st 70)
   have hlow:=hide ((uh hT1).on hg).low
   have hT3:=hide ((uh hT1).on (uh hg3))
   clear hg hg3 cst hT1
   unfold En.cells at hD hT3
   go_upto_region 41 with fail
   obtain ⟨D,hDe⟩:∃D,w3.heap.size=D:=⟨_,rfl⟩
   rw [hDe] at hD hlow ⊢
   generalize w3.alloc (.cells #[.int .i64 (st 0),.int .i64 (st 1),.int .i64 (st 2),.int .i64 (st 3),.int .i64 (st 4),.int .i64 (st 5),.int .i64 (st 6),.int .i64 (st 7),.int .i64 (st 8),.int .i64 (st 9),.int .i64 (st 10)] 70)=wd at hD hT3 ⊢
   clear hDe w3
   obtain ⟨z0,z1,z2,z3,z4,z5,z6,z7,z8,z9,z10⟩:=(uh hD).ent
   have zf:=(uh hD).free
   have hD2:=hide (((uh hD).upd 3 ((u:Int) % 24)).upd 4 ((u:Int) / 24))
   rw [uh hro] at hD2
   have hT4:=hide (((uh hT3).aside (D:=D) (o:=3) (uh hlow).1 (by have:=uh hlow;omega) (by have:=uh hlow;omega) (by have:=uh hlow;omega) (by have:=uh hlow;omega) (by have:=uh hlow;omega) (by have:=uh hlow;omega) (.int .i64 ((u:Int) % 24))).aside (D:=D) (o:=4) (uh hlow).1 (by have:=uh hlow;omega) (by have:=uh hlow;omega) (by have:=uh hlow;omega) (by have:=uh hlow;omega) (by have:=uh hlow;omega) (by have:=uh hlow;omega) (.int .i64 ((u:Int) / 24)))
   clear hT3 hD hro
   go_upto_region 42 with fail
   generalize (wd.setCell ⟨D,3,none⟩ (.int .i64 ((u:Int) % 24))).setCell ⟨D,4,none⟩ (.int .i64 ((u:Int) / 24))=we at hD2 hT4 ⊢
   clear z0 z1 z2 z3 z4 z5 z6 z7 z8 z9 z10 zf t4
   obtain ⟨z0,z1,z2,z3,z4,z5,z6,z7,z8,z9,z10⟩:=(uh hD2).ent
   have b5:=(uh hT4).hand.hold.box.eleven.2.2.2.2.2.1
   have csp:=hide (refSpawned_any mE pE F o we (uh hT4).hand.hold.lists.own (uh hT4).hand.cap (uh hSF).good.gens (uh HO1))
   unfold En.cells at csp
   go_wp2_with fail
   refine (uh csp).mono ?_
   rintro e w5 ⟨jE,dE,rfl,hcap,hj,hown,hg⟩
   have hT5:Hid (Cr.Turn v (w5.setCell ⟨B,5,none⟩ (.slice (some ⟨jE,0,none⟩) 32 dE)) B A R mC jE mI pC dE pI how inp sp s g c (Cr.join F o) J):=(uh hT4).folk hcap hj hown hg
   have hk5:Hid (B<k∧A<k∧R<k∧v.heap.size≤k∧k≤jE∧k≤mI):=by
    have k:=uh hk1
    have q:=(uh hT4).low
    show _∧_∧_∧_∧_∧_
    omega
   have b5':=((uh hT4).on hg).hand.hold.box.eleven.2.2.2.2.2.1
   have fB:=((uh hT4).on hg).hand.hold.box.free
   clear hcap hj hown hg csp b5 z0 z1 z2 z3 z4 z5 z6 z7 z8 z9 z10 hT4 hD2 hz0
   go_wp2_with fail
   exact uh hK0 _ _ (turn_end (uh hT5) (uh hk5) (uh hSr) (uh HF).1 (uh HF).2 had left Q (uh hQ'))
  ·have hr:Cr.rats s c F=F:=by
    unfold Cr.rats
    rw [(uh HU).2.1,if_neg (fun h=>by have h2:=h.2;rw [uh HZ] at h2;exact hz0 h2)]
   rw [hr] at hQ'
   clear hr t4
   go_wp2_with fail
   exact uh hK0 _ _ (turn_end (uh hT1) (uh hk1) (uh hSF) (uh HF).1 (uh HF).2 had left Q (uh hQ'))
 ·have hr:Cr.rats s c F=F:=by
   unfold Cr.rats
   rw [if_neg (fun h=>h16 h.1)]
  rw [hr] at hQ'
  have e1:((s 1).tmod 16 == 0)=false:=by
   have:¬(s 1).tmod 16=0:=fun h=>h16 ((Cr.rem16 (s 1)).1 h)
   simp [this]
  have e2:(s 1 % 16 == 0)=false:=by simpa using h16
  clear hr h16
  go_wp2_with fail
  exact uh hK0 _ _ (turn_end (uh hT1) (uh hk1) (uh hSF) (uh HF).1 (uh HF).2 had left Q (uh hQ'))


open Go.RowKit

set_option maxRecDepth 16000 in
set_option maxHeartbeats 6400000 in
theorem turn_hunt {v x:World} {B A R gC gE gI cC cE cI k:Nat} {how inp:Nat→Int} {sp:Nat→Bool} {s g c:Nat→Int} {E I:Nat→Nat→Int} (hT:Cr.Turn v x B A R gC gE gI cC cE cI how inp sp s g c E I) (hk:B<k∧A<k∧R<k∧v.heap.size≤k∧k≤gE∧k≤gI) (hS:Cr.Sane c E I) (hFl:Nv.Floor c) (f1:1≤s 2) (f3:s 2≤3) (had left:Bool) (Q:Ending→World→Prop) (hQ:∀F J T e y,Cr.ProwlTo s c 32 E I F J→Cr.Ends s g c (Cr.rats s c (Ft.ailE F J 32).1) (Ft.ailE F J 32).2 had left T→Gd.Worlds v T.s T.g T.c T.E T.I e y→Q e y) {t0 t1 t6 t7 t8 Aa Ab Ac Ad Ae Af Ag Ah Ai Aj Ak Al Am Ao Ap Aq Ar As Au Av Aw Ax Ay Az AA AB AC AD AE AF AG AH AI AJ AK AL AM AN AO AP AQ AR AS AT AU AV AW AX AY AZ A0 A1 A2 A3 A4 A5 A6 A7 A8 A9 Ba Bb Bc Bd Be Bf Bg Bh Bi Bj Bk Bl Bm Bn Bo Bp Bq Br Bs Bt Bu Bv Bw Bx Bz BA BB BC BD BE BF BG BH BI BJ BK BL BM BN BO BP BQ BR BS BT BU BV BW BX BY BZ B0 B1 B2 B3 B4 B5 B6 B7 B8 B9 Ca Cb Cc Cd Ce Cf Cg Ch Ci Cj Ck Cl Cm Cn Co Cp Cq Cs Ct Cu Cv Cw Cx Cy Cz CA CB CC CD CE CF CG CH CI CJ CK CL CM CN CO CP CQ CR CS CT CU CV CW CX CY CZ C0 C1 C2 C3 C4 C5 C6 C7 C8 C9 Da Db Dc Dd De Df Dg Dh Di Dj Dk Dl Dm Dn Dp Dq Dr Ds Dt Du Dv Dw Dx Dy Dz DA DB DC DD DE DF DG DH DI DJ DK DL:Value} :
  Code.wp Tryz.prog ((Tryz.f24.body.map (cdrop 9)).getD .skip) (bodyPost Tryz.prog Tryz.f24 Q) ⟨#[t0,t1,.pointer (some ⟨B,0,none⟩),.pointer (some ⟨A,0,none⟩),.pointer (some ⟨R,0,none⟩),.bool had,t6,t7,t8,.bool left,Aa,Ab,Ac,Ad,Ae,Af,Ag,Ah,Ai,Aj,Ak,Al,Am,Ao,Ap,Aq,Ar,As,Au,Av,Aw,Ax,Ay,Az,AA,AB,AC,AD,AE,AF,AG,AH,AI,AJ,AK,AL,AM,AN,AO,AP,AQ,AR,AS,AT,AU,AV,AW,AX,AY,AZ,A0,A1,A2,A3,A4,A5,A6,A7,A8,A9,Ba,Bb,Bc,Bd,Be,Bf,Bg,Bh,Bi,Bj,Bk,Bl,Bm,Bn,Bo,Bp,Bq,Br,Bs,Bt,Bu,Bv,Bw,Bx,Bz,BA,BB,BC,BD,BE,BF,BG,BH,BI,BJ,BK,BL,BM,BN,BO,BP,BQ,BR,BS,BT,BU,BV,BW,BX,BY,BZ,B0,B1,B2,B3,B4,B5,B6,B7,B8,B9,Ca,Cb,Cc,Cd,Ce,Cf,Cg,Ch,Ci,Cj,Ck,Cl,Cm,Cn,Co,Cp,Cq,Cs,Ct,Cu,Cv,Cw,Cx,Cy,Cz,CA,CB,CC,CD,CE,CF,CG,CH,CI,CJ,CK,CL,CM,CN,CO,CP,CQ,CR,CS,CT,CU,CV,CW,CX,CY,CZ,C0,C1,C2,C3,C4,C5,C6,C7,C8,C9,Da,Db,Dc,Dd,De,Df,Dg,Dh,Di,Dj,Dk,Dl,Dm,Dn,Dp,Dq,Dr,Ds,Dt,Du,Dv,Dw,Dx,Dy,Dz,DA,DB,DC,DD,DE,DF,DG,DH,DI,DJ,DK,DL],[]⟩ x:=by
 conv=>arg 2;whnf
 have hT':=hide hT
 have hQ':=hide hQ
 have hk':=hide hk
 have hS':=hide hS
 have HF:=hide (And.intro f1 (And.intro f3 hFl))
 clear hT hQ hk hS f1 f3 hFl
 go_wp2_with fail
 go_loopw [13] (fun v13 wr=>∃(i jC jE jI dC dE dI:Nat) (F J:Nat→Nat→Int),i≤32∧v13=.int .i64 (i:Int)∧Hid (Cr.ProwlTo s c i E I F J)∧Hid (Cr.Turn v wr B A R jC jE jI dC dE dI how inp sp s g c F J)∧Hid (B<k∧A<k∧R<k∧v.heap.size≤k∧k≤jE∧k≤jI)) (fun v13 _=>40 - (intOf v13).toNat)
 case atStart=>exact ⟨0,gC,gE,gI,cC,cE,cI,E,I,by omega,rfl,⟨rfl,rfl⟩,hT',hk'⟩
 case round =>
  clear hT' hk'
  rename_i hKK
  have hK0:=hide hKK
  clear hKK
  obtain ⟨i,jC,jE,jI,dC,dE,dI,F,J,hi,rfl,hP,hT0,hk1⟩:=hrel
  have hSF:=hide ((uh hS').prowlTo hi (uh hP))
  have y5:=(uh hT0).hand.hold.box.eleven.2.2.2.2.2.1
  by_cases hlt:i<32
  ·have hlt':(i:Int)<32:=by omega
   have HL:=hide hlt
   obtain ⟨r0,r1,r2,r3,r4,r5,r6,r7,r8,r9,r10⟩:=(uh hT0).hand.hold.lists.own.ents.row hlt
   obtain ⟨wd,hwd⟩:∃wd,wd=wr.alloc (.cells (En.cells (F i)) 70):=⟨_,rfl⟩
   have hT1:=hide ((uh hT0).on (show wr.grownBy wd none by rw [hwd];exact World.grownBy_alloc _ _ _))
   have hD:Hid (Lie wd wr.heap.size 70 11 (Ints (F i))):=by rw [hwd];exact Lie.born wr (F i) 70
   clear hlt hi hT0
   unfold En.cells at hwd
   go_upto_region 34 with fail
   rw [←hwd]
   clear hwd y5 r0 r1 r2 r3 r4 r5 r6 r7 r8 r9 r10
   obtain ⟨D,hDe⟩:∃D,wr.heap.size=D:=⟨_,rfl⟩
   rw [hDe] at hD ⊢
   clear hDe
   clear wr
   have d0:=(uh hD).ent.1
   have d10:=(uh hD).ent.2.2.2.2.2.2.2.2.2.2
   by_cases k0:F i 0=0
   ·have K0:=hide k0
    rw [k0] at d0
    clear k0
    have hP2:Hid (Cr.ProwlTo s c (i+1) E I F J):=⟨F,J,uh hP,(show Cr.Prowls s c i F J F J by unfold Cr.Prowls;rw [if_pos (.inl (uh K0))];exact ⟨rfl,rfl⟩)⟩
    clear hP
    go_wp2
    go_roundw
    case rel=>exact ⟨i+1,jC,jE,jI,dC,dE,dI,F,J,by have:=uh HL;omega,by go_num,hP2,hT1,hk1⟩
    case measure=>simp [intOf];have:=uh HL;omega
   ·by_cases k1:F i 0=1
    ·have K1:=hide k1
     rw [k1] at d0
     clear k0 k1
     have hP2:Hid (Cr.ProwlTo s c (i+1) E I F J):=⟨F,J,uh hP,(show Cr.Prowls s c i F J F J by unfold Cr.Prowls;rw [if_pos (.inr (.inl (uh K1)))];exact ⟨rfl,rfl⟩)⟩
     clear hP
     go_wp2
     go_roundw
     case rel=>exact ⟨i+1,jC,jE,jI,dC,dE,dI,F,J,by have:=uh HL;omega,by go_num,hP2,hT1,hk1⟩
     case measure=>simp [intOf];have:=uh HL;omega
    ·have k0':(F i 0 == 0)=false:=by simp [k0]
     have k1':(F i 0 == 1)=false:=by simp [k1]
     by_cases k10:F i 10 > 0
     ·have K10:=hide k10
      clear k0 k1
      have hP2:Hid (Cr.ProwlTo s c (i+1) E I F J):=⟨F,J,uh hP,(show Cr.Prowls s c i F J F J by unfold Cr.Prowls;rw [if_pos (.inr (.inr (uh K10)))];exact ⟨rfl,rfl⟩)⟩
      clear hP
      go_wp2
      go_roundw
      case rel=>exact ⟨i+1,jC,jE,jI,dC,dE,dI,F,J,by have:=uh HL;omega,by go_num,hP2,hT1,hk1⟩
      case measure=>simp [intOf];have:=uh HL;omega
     ·have KN:=hide (show ¬(F i 0=0∨F i 0=1∨0<F i 10) by omega)
      have KZ:=hide k0
      clear k0 k1
      go_upto_region 35 with fail
      clear d0 d10 hD k0' k1' k10
      have hkeep:Hid (∀x,wd.grownBy x none→x.cell? ⟨B,0,none⟩=some (.int .i64 (s 0))∧x.cell? ⟨B,1,none⟩=some (.int .i64 (s 1))∧x.cell? ⟨B,2,none⟩=some (.int .i64 (s 2))∧x.cell? ⟨B,3,none⟩=some (.int .i64 (s 3))∧x.cell? ⟨B,4,none⟩=some (.slice (some ⟨jC,0,none⟩) 384 dC)∧x.cell? ⟨B,5,none⟩=some (.slice (some ⟨jE,0,none⟩) 32 dE)∧x.cell? ⟨B,6,none⟩=some (.slice (some ⟨jI,0,none⟩) 40 dI)∧x.cell? ⟨B,7,none⟩=some (.int .i64 (g 0))∧x.cell? ⟨B,8,none⟩=some (.int .i64 (g 1))∧x.cell? ⟨B,9,none⟩=some (.int .i64 (g 2))∧x.cell? ⟨B,10,none⟩=some (.int .i64 (g 3))):=fun x hx=>((uh hT1).on hx).hand.hold.box.eleven
      have hd:=hide (gd1 (World.grownBy.refl wd none))
      have cm:Hid (∀x,wd.grownBy x none→Calls Tryz.prog 47 #[.agg #[.int .i64 (s 0),.int .i64 (s 1),.int .i64 (s 2),.int .i64 (s 3),.slice (some ⟨jC,0,none⟩) 384 dC,.slice (some ⟨jE,0,none⟩) 32 dE,.slice (some ⟨jI,0,none⟩) 40 dI,.int .i64 (g 0),.int .i64 (g 1),.int .i64 (g 2),.int .i64 (g 3)],.int .i64 (i:Int)] x (Md.Says x (Md.IsMonster s c F (i:Int)))):=fun x hx=>refMonster_any s g c F J jC jE jI dC dE dI (i:Int) x ((uh hT1).on hx).hand.hold.lists (uh hSF).fit.cells (uh hT1).hand.cap (uh hSF).good.fine
      have ct:Hid (∀x u,wd.grownBy x none→Calls Tryz.prog 44 #[.agg #[.int .i64 (s 0),.int .i64 (s 1),.int .i64 (s 2),.int .i64 (s 3),.slice (some ⟨jC,0,none⟩) 384 dC,.slice (some ⟨jE,0,none⟩) 32 dE,.slice (some ⟨jI,0,none⟩) 40 dI,.int .i64 (g 0),.int .i64 (g 1),.int .i64 (g 2),.int .i64 (g 3)],.int .i64 (i:Int),.int .i64 u,.bool true] x (Cr.Back x jC jE jI s g c (Cr.act s c F J i u true).1 (Cr.act s c F J i u true).2)):=fun x u hx=>refAct_any s g c F J jC jE jI dC dE dI i u true x ((uh hT1).on hx).hand.hold.lists (uh hT1).hand.cap (uh hT1).hand.hold.cE (uh hT1).hand.hold.cI (uh hT1).hand.hold.eI (uh hSF) (uh HL) (uh KZ)
      refine wp_region_till (h:=6) (S:=fun x=>x.cell? ⟨B,0,none⟩=some (.int .i64 (s 0))∧x.cell? ⟨B,1,none⟩=some (.int .i64 (s 1))∧x.cell? ⟨B,2,none⟩=some (.int .i64 (s 2))∧x.cell? ⟨B,3,none⟩=some (.int .i64 (s 3))∧x.cell? ⟨B,4,none⟩=some (.slice (some ⟨jC,0,none⟩) 384 dC)∧x.cell? ⟨B,5,none⟩=some (.slice (some ⟨jE,0,none⟩) 32 dE)∧x.cell? ⟨B,6,none⟩=some (.slice (some ⟨jI,0,none⟩) 40 dI)∧x.cell? ⟨B,7,none⟩=some (.int .i64 (g 0))∧x.cell? ⟨B,8,none⟩=some (.int .i64 (g 1))∧x.cell? ⟨B,9,none⟩=some (.int .i64 (g 2))∧x.cell? ⟨B,10,none⟩=some (.int .i64 (g 3))) (by kernel_rfl) ?_
      have hS0:=uh hkeep _ (uh hd)
      refine wtk (i:=0) (v:=?_) [6] rfl (by kernel_rfl) (by kernel_rfl) (by kernel_rfl) (by kernel_rfl) (fun _ _ _ h=>h) hS0 (Or.inl ⟨by rfl,?_⟩) ?_
      rotate_left
      ·intro x hSx
       try dsimp only at hSx
       go_simp
       try with_reducible rfl
      simp only [Act.put]
      refine wtk (i:=1) (v:=?_) [6] rfl (by kernel_rfl) (by kernel_rfl) (by kernel_rfl) (by kernel_rfl) (fun _ _ _ h=>h) hS0 (Or.inl ⟨by rfl,?_⟩) ?_
      rotate_left
      ·intro x hSx
       try dsimp only at hSx
       go_simp
       try with_reducible rfl
      simp only [Act.put]
      refine wtk (i:=2) (v:=?_) [6] rfl (by kernel_rfl) (by kernel_rfl) (by kernel_rfl) (by kernel_rfl) (fun _ _ _ h=>h) hS0 (Or.inl ⟨by rfl,?_⟩) ?_
      rotate_left
      ·intro x hSx
       try dsimp only at hSx
       go_simp
       try with_reducible rfl
      simp only [Act.put]
      refine wtk (i:=3) (v:=?_) [6] rfl (by kernel_rfl) (by kernel_rfl) (by kernel_rfl) (by kernel_rfl) (fun _ _ _ h=>h) hS0 (Or.inl ⟨by rfl,?_⟩) ?_
      rotate_left
      ·intro x hSx
       try dsimp only at hSx
       go_simp
       try with_reducible rfl
      simp only [Act.put]
      refine wto (j:=4) (by kernel_rfl) rfl (fun K hK=>?_)
      go_simp
      refine (uh cm _ (uh hd)).mono ?_
      rintro e0 w4 ⟨u,hu,rfl,hg4⟩
      have hG4:=hide (gtr (uh hd) hg4)
      have hS4:=uh hkeep _ (uh hG4)
      have HU:=hide hu
      clear hg4 hS0 hu
      try go_simp
      refine hK.out _ _ (fun _=>uh hkeep _ (uh hG4)) ?_
      clear hK K
      refine wto (j:=5) (by kernel_rfl) rfl (fun K hK=>?_)
      go_simp
      refine (uh ct _ u (uh hG4)).mono ?_
      rintro e0 w5 ⟨qC,qE,qI,rC,rE,rI,rfl,hcap,l1,l2,l3,n1,n2,n3,hL,hg5⟩
      have hG5:=hide (gtr (uh hG4) hg5)
      have hS5:=uh hkeep _ (uh hG5)
      have hT2:Hid (Cr.Turn v (((((((((((w5.setCell ⟨B,0,none⟩ (.int .i64 (s 0))).setCell ⟨B,1,none⟩ (.int .i64 (s 1))).setCell ⟨B,2,none⟩ (.int .i64 (s 2))).setCell ⟨B,3,none⟩ (.int .i64 (s 3))).setCell ⟨B,4,none⟩ (.slice (some ⟨qC,0,none⟩) 384 rC)).setCell ⟨B,5,none⟩ (.slice (some ⟨qE,0,none⟩) 32 rE)).setCell ⟨B,6,none⟩ (.slice (some ⟨qI,0,none⟩) 40 rI)).setCell ⟨B,7,none⟩ (.int .i64 (g 0))).setCell ⟨B,8,none⟩ (.int .i64 (g 1))).setCell ⟨B,9,none⟩ (.int .i64 (g 2))).setCell ⟨B,10,none⟩ (.int .i64 (g 3))) B A R qC qE qI rC rE rI how inp sp s g c (Cr.act s c F J i u true).1 (Cr.act s c F J i u true).2):=(((uh hT1).on (uh hG4)).fresh (uh hk1) hcap l1 l2 l3 n1 n2 n3 hL hg5).1
      have hk2:Hid (B<k∧A<k∧R<k∧v.heap.size≤k∧k≤qE∧k≤qI):=(((uh hT1).on (uh hG4)).fresh (s':=s) (g':=g) (dC:=rC) (dI:=rI) (uh hk1) hcap l1 l2 l3 n1 n2 n3 hL hg5).2.2
      have f5:=((uh hT1).on (uh hG5)).hand.hold.box.free
      clear hcap l1 l2 l3 n1 n2 n3 hL hg5 hS4
      try unfold Gd.world
      try go_simp
      refine hK.out _ _ (fun _=>uh hkeep _ (uh hG5)) ?_
      clear hK K
      refine wto (j:=6) (by kernel_rfl) rfl (fun K hK=>?_)
      go_simp
      refine hK.out _ _ (fun hx=>absurd (hx.symm.trans (by kernel_rfl)) Bool.false_ne_true) ?_
      clear hK K
      refine wpTill_done (by kernel_rfl) ?_ _
      have hP2:Hid (Cr.ProwlTo s c (i+1) E I (Cr.act s c F J i u true).1 (Cr.act s c F J i u true).2):=⟨F,J,uh hP,(show Cr.Prowls s c i F J (Cr.act s c F J i u true).1 (Cr.act s c F J i u true).2 by unfold Cr.Prowls;rw [if_neg (uh KN)];exact ⟨u,uh HU,rfl,rfl⟩)⟩
      clear hkeep hS5 hT1 hP
      go_wp2
      go_roundw
      case rel=>exact ⟨i+1,qC,qE,qI,rC,rE,rI,_,_,by have:=uh HL;omega,by go_num,hP2,hT2,hk2⟩
      case measure=>simp [intOf];have:=uh HL;omega
  ·obtain rfl:i=32:=by omega
   have hge:¬((32:Nat):Int)<32:=by omega
   clear hlt hi
   go_wp2_with fail
   exact uh hK0 _ _ (turn_rat (uh hT0) (uh hk1) (uh hSF) (uh HF).2.2 (uh HF).1 (uh HF).2.1 had left Q (fun T e y h1 h2=>uh hQ' F J T e y (uh hP) h1 h2))


open Go.RowKit

set_option maxRecDepth 8000 in
set_option maxHeartbeats 12800000 in
theorem refDo_none (s g c:Nat→Int) (E I:Nat→Nat→Int) (gC gE gI cC cE cI:Nat) (seat input:Int) (w:World) (hL:Gd.Lists w gC gE gI c E I) (hno:¬(0≤seat∧seat<4∧0≤Gd.hero E seat)) :
  Calls Tryz.prog 46 #[.agg (Gd.world s gC gE gI cC cE cI g),.int .i64 seat,.int .i64 input] w (Gd.Worlds w s g c E I):=by
 obtain ⟨w0,hw0,hbox,hres,hg0,hsz⟩:=Gd.boxes w gC gE gI cC cE cI s g
 have ca':=hide (refTwin_any s g c E I gC gE gI cC cE cI w0 (hL.on hg0))
 obtain ⟨b0,b1,b2,b3,b4,b5,b6,b7,b8,b9,b10⟩:=hbox.eleven
 have hbx:=hide hbox
 have hrs:=hide hres
 have hg0':=hide hg0
 have hsz':=hide hsz
 have hfB:=hbox.free
 have hno':=hide hno
 clear hL hbox hres hg0 hsz hno
 unfold Gd.world at hw0 ca' ⊢
 go_enter Tryz.func46,Tryz.ntmps46
 go_upto_region 1 with fail
 rw [←hw0]
 clear hw0
 obtain ⟨B,hB⟩:∃B,w.heap.size=B:=⟨_,rfl⟩
 rw [hB] at hbx hrs hsz' b0 b1 b2 b3 b4 b5 b6 b7 b8 b9 b10 ⊢
 have hB':=hide hB
 rw [hB] at hfB
 clear hB
 go_cut [] from 7 (fun wx=>∃g1 g2 g3 c1 c2 c3,Hid (Gd.Boxed w wx B g1 g2 g3 c1 c2 c3 s g c E I))
 case first =>
  go_wp2_with fail
  refine (uh ca').mono ?_
  rintro e w1 ⟨g1,g2,g3,c1,c2,c3,rfl,hcap,l1,l2,l3,n1,n2,n3,hL1,hg1⟩
  obtain ⟨y0,y1,y2,y3,y4,y5,y6,y7,y8,y9,y10⟩:=((uh hbx).on hg1).eleven
  have fB:=((uh hbx).on hg1).free
  have fin:Hid (Gd.Boxed w (w1.setCells B 0 (Gd.world s g1 g2 g3 c1 c2 c3 g).toList) B g1 g2 g3 c1 c2 c3 s g c E I):=Gd.Boxed.new (uh hbx) (uh hrs) (uh hg0') (uh hB') (uh hsz') hcap l1 l2 l3 n1 n2 n3 hL1 hg1
  unfold Gd.world at fin ⊢
  clear hcap l1 l2 l3 n1 n2 n3 hL1 hg1 b0 b1 b2 b3 b4 b5 b6 b7 b8 b9 b10 hfB ca'
  go_wp2_with fail
  go_meet
  exact ⟨g1,g2,g3,c1,c2,c3,fin⟩
 case rest =>
  obtain ⟨g1,g2,g3,c1,c2,c3,hX⟩:=hcut
  clear b0 b1 b2 b3 b4 b5 b6 b7 b8 b9 b10 hfB ca' hbx hrs hg0' hsz' hB'
  clear w0
  have b5:=(uh hX).hold.box.eleven.2.2.2.2.2.1
  have ch:=refHero7_any g2 c2 E seat wc (uh hX).hold.lists.own
  obtain ⟨h,hh⟩:∃h,Gd.hero E seat=h:=⟨_,rfl⟩
  rw [hh] at ch hno'
  have ch':=hide ch
  clear ch hh
  go_wp2_with fail
  refine (uh ch').mono ?_
  rintro e w2 ⟨rfl,hg2⟩
  have hbx:=hide ((uh hX).on hg2)
  clear hg2 ch' b5 hX
  obtain ⟨b0,b1,b2,b3,b4,b5,b6,b7,b8,b9,b10⟩:=(uh hbx).hold.box.eleven
  have fz:=(uh hbx).res.free
  obtain ⟨z0,z1,z2,z3,z4,z5,z6,z7,z8,z9,z10⟩:=Gd.res_cells (uh hbx).res
  have hfin:=hide (fun vs=>(uh hbx).worlds vs)
  have hn:=uh hno'
  clear hno'
  by_cases h0:h<0
  ·clear hn
   go_wp2
   refine bodyPost_ret (v:=.agg (Gd.world s g1 g2 g3 c1 c2 c3 g)) (by simp [results,Tryz.results46,go_sem,Gd.world,z0,z1,z2,z3,z4,z5,z6,z7,z8,z9,z10]) rfl ?_
   exact uh hfin [_,_,_,_,_,_,_,_,_,_,_]
  ·by_cases h1:seat<0
   ·clear hn
    go_wp2
    refine bodyPost_ret (v:=.agg (Gd.world s g1 g2 g3 c1 c2 c3 g)) (by simp [results,Tryz.results46,go_sem,Gd.world,z0,z1,z2,z3,z4,z5,z6,z7,z8,z9,z10]) rfl ?_
    exact uh hfin [_,_,_,_,_,_,_,_,_,_,_]
   ·have h2:¬seat<4:=by omega
    clear hn
    go_wp2
    refine bodyPost_ret (v:=.agg (Gd.world s g1 g2 g3 c1 c2 c3 g)) (by simp [results,Tryz.results46,go_sem,Gd.world,z0,z1,z2,z3,z4,z5,z6,z7,z8,z9,z10]) rfl ?_
    exact uh hfin [_,_,_,_,_,_,_,_,_,_,_]

theorem refDo_any (s g c:Nat→Int) (E I:Nat→Nat→Int) (gC gE gI cC cE cI:Nat) (seat input:Int) (w:World) (hL:Gd.Lists w gC gE gI c E I) (F:Gd.Fine c g E I) :
  Calls Tryz.prog 46 #[.agg (Gd.world s gC gE gI cC cE cI g),.int .i64 seat,.int .i64 input] w (Gd.Worlds w s (Gd.nextG c g E I seat input) c (Gd.nextE E I seat input) (Gd.nextI c g E I seat input)):=by
 unfold Gd.nextG Gd.nextE Gd.nextI
 by_cases hc:0≤seat∧seat<4∧0≤Gd.hero E seat
 ·obtain ⟨s0,s4,h0⟩:=hc
  obtain ⟨t,rfl⟩:∃t:Nat,seat=(t:Int):=⟨seat.toNat,by omega⟩
  obtain ⟨k,hk,hh,he,_⟩:=Gd.hero_pos h0
  have hc:0≤(t:Int)∧(t:Int)<4∧0≤Gd.hero E (t:Int):=⟨s0,s4,h0⟩
  rw [if_pos hc,if_pos hc,if_pos hc,hh,Int.toNat_natCast,Int.toNat_natCast]
  exact Gd.does (input:=input) F (by omega) hk (fun a b d e f h=>refDo_one s g c E I gC gE gI cC cE cI t k w hL (by omega) hk hh input F.cells fun _ p0 _ _=>p0 a b d e f h) (fun a b d=>refDo_one s g c E I gC gE gI cC cE cI t k w hL (by omega) hk hh input F.cells fun _ _ p1 _=>p1 a b d) (fun a b d e f h i=>refDo_one s g c E I gC gE gI cC cE cI t k w hL (by omega) hk hh input F.cells fun _ _ _ p2=>p2 a b d e f h i) (fun a b d e f h i j=>refDo_two s g c E I gC gE gI cC cE cI t k w hL (by omega) hk hh input F.cells fun _ p0 _ _=>p0 a b d e f h i j) (fun a b d e f h i j=>refDo_two s g c E I gC gE gI cC cE cI t k w hL (by omega) hk hh input F.cells fun _ _ p1 _=>p1 a b d e f h i j) (fun a b d=>refDo_two s g c E I gC gE gI cC cE cI t k w hL (by omega) hk hh input F.cells fun _ _ _ p2=>p2 a b d) (fun a b d e f h i=>refDo_three s g c E I gC gE gI cC cE cI t k w hL (by omega) hk hh input F.cells fun _ p0 _ _=>p0 a b d e f h i) (fun a b d=>refDo_three s g c E I gC gE gI cC cE cI t k w hL (by omega) hk hh input F.cells fun _ _ p1 _=>p1 a b d) (fun a b d e f h i j=>refDo_four s g c E I gC gE gI cC cE cI t k w hL (by omega) hk hh input F.cells fun _ p0 _ _=>p0 a b d e f h i j) (fun a b d e f h i j l m n=>refDo_four s g c E I gC gE gI cC cE cI t k w hL (by omega) hk hh input F.cells fun _ _ p1 _=>p1 a b d e f h i j l m n) (fun a b d=>refDo_three s g c E I gC gE gI cC cE cI t k w hL (by omega) hk hh input F.cells fun _ _ _ p2=>p2 a b d) (fun a b d e f h=>refDo_four s g c E I gC gE gI cC cE cI t k w hL (by omega) hk hh input F.cells fun _ _ _ p2=>p2 a b d e f h) (fun a b d e f h=>refDo_five s g c E I gC gE gI cC cE cI t k w hL (by omega) hk hh input F.cells fun _ p0 _=>p0 a b d e f h) (fun a b d=>refDo_five s g c E I gC gE gI cC cE cI t k w hL (by omega) hk hh input F.cells fun _ _ p1=>p1 a b d) (fun a b d e=>refDo_six s g c E I gC gE gI cC cE cI t k w hL (by omega) hk hh input F.cells fun _ p0 _=>p0 a b d e) (fun a b d e f=>refDo_six s g c E I gC gE gI cC cE cI t k w hL (by omega) hk hh input F.cells fun _ _ p1=>p1 a b d e f) (fun a b d e f h i=>refDo_seven s g c E I gC gE gI cC cE cI t k w hL (by omega) hk hh input F.cells fun _ p0 _=>p0 a b d e f h i) (fun a b d e f h i j l m=>refDo_seven s g c E I gC gE gI cC cE cI t k w hL (by omega) hk hh input F.cells fun _ _ p1=>p1 a b d e f h i j l m)
 ·rw [if_neg hc,if_neg hc,if_neg hc]
  exact refDo_none s g c E I gC gE gI cC cE cI seat input w hL hc


open Go.RowKit

theorem Cr.act_three {x:World} {A:Nat} {how inp:Nat→Int} {sp:Nat→Bool} (h:Lie x A 63 12 (Cr.actF how inp sp)) {t:Nat} (ht:t<4):x.cell? ⟨A,t*3,none⟩=some (.int .i64 (how t))∧x.cell? ⟨A,t*3+1,none⟩=some (.int .i64 (inp t))∧x.cell? ⟨A,t*3+2,none⟩=some (.bool (sp t)):=by
 rcases (show t=0∨t=1∨t=2∨t=3 by omega) with rfl | rfl | rfl | rfl
 ·exact ⟨h.cell (c:=0) (by omega),h.cell (c:=1) (by omega),h.cell (c:=2) (by omega)⟩
 ·exact ⟨h.cell (c:=3) (by omega),h.cell (c:=4) (by omega),h.cell (c:=5) (by omega)⟩
 ·exact ⟨h.cell (c:=6) (by omega),h.cell (c:=7) (by omega),h.cell (c:=8) (by omega)⟩
 ·exact ⟨h.cell (c:=9) (by omega),h.cell (c:=10) (by omega),h.cell (c:=11) (by omega)⟩

set_option maxRecDepth 16000 in
set_option maxHeartbeats 6400000 in
theorem turn_seats {v x:World} {B A R gC gE gI cC cE cI k:Nat} {how inp:Nat→Int} {sp:Nat→Bool} {s g c:Nat→Int} {E I:Nat→Nat→Int} (hT:Cr.Turn v x B A R gC gE gI cC cE cI how inp sp s g c E I) (hk:B<k∧A<k∧R<k∧v.heap.size≤k∧k≤gE∧k≤gI) (hS:Cr.Sane c E I) (hG:Cr.Gold g) (hFl:Nv.Floor c) (f1:1≤s 2) (f3:s 2≤3) (had:Bool) (Q:Ending→World→Prop) (hQ:∀m F J T e y,Cr.MovedTo s c how inp 4 ⟨g,E,I,false⟩ m→Cr.ProwlTo s c 32 m.E m.I F J→Cr.Ends s m.g c (Cr.rats s c (Ft.ailE F J 32).1) (Ft.ailE F J 32).2 had m.left T→Gd.Worlds v T.s T.g T.c T.E T.I e y→Q e y) {t0 t1 t6 t7 t8 t9 Aa Ab Ac Ad Ae Af Ag Ah Ai Aj Ak Al Am Ao Ap Aq Ar As Au Av Aw Ax Ay Az AA AB AC AD AE AF AG AH AI AJ AK AL AM AN AO AP AQ AR AS AT AU AV AW AX AY AZ A0 A1 A2 A3 A4 A5 A6 A7 A8 A9 Ba Bb Bc Bd Be Bf Bg Bh Bi Bj Bk Bl Bm Bn Bo Bp Bq Br Bs Bt Bu Bv Bw Bx Bz BA BB BC BD BE BF BG BH BI BJ BK BL BM BN BO BP BQ BR BS BT BU BV BW BX BY BZ B0 B1 B2 B3 B4 B5 B6 B7 B8 B9 Ca Cb Cc Cd Ce Cf Cg Ch Ci Cj Ck Cl Cm Cn Co Cp Cq Cs Ct Cu Cv Cw Cx Cy Cz CA CB CC CD CE CF CG CH CI CJ CK CL CM CN CO CP CQ CR CS CT CU CV CW CX CY CZ C0 C1 C2 C3 C4 C5 C6 C7 C8 C9 Da Db Dc Dd De Df Dg Dh Di Dj Dk Dl Dm Dn Dp Dq Dr Ds Dt Du Dv Dw Dx Dy Dz DA DB DC DD DE DF DG DH DI DJ DK DL:Value} :
  Code.wp Tryz.prog ((Tryz.f24.body.map (cdrop 7)).getD .skip) (bodyPost Tryz.prog Tryz.f24 Q) ⟨#[t0,t1,.pointer (some ⟨B,0,none⟩),.pointer (some ⟨A,0,none⟩),.pointer (some ⟨R,0,none⟩),.bool had,t6,t7,t8,t9,Aa,Ab,Ac,Ad,Ae,Af,Ag,Ah,Ai,Aj,Ak,Al,Am,Ao,Ap,Aq,Ar,As,Au,Av,Aw,Ax,Ay,Az,AA,AB,AC,AD,AE,AF,AG,AH,AI,AJ,AK,AL,AM,AN,AO,AP,AQ,AR,AS,AT,AU,AV,AW,AX,AY,AZ,A0,A1,A2,A3,A4,A5,A6,A7,A8,A9,Ba,Bb,Bc,Bd,Be,Bf,Bg,Bh,Bi,Bj,Bk,Bl,Bm,Bn,Bo,Bp,Bq,Br,Bs,Bt,Bu,Bv,Bw,Bx,Bz,BA,BB,BC,BD,BE,BF,BG,BH,BI,BJ,BK,BL,BM,BN,BO,BP,BQ,BR,BS,BT,BU,BV,BW,BX,BY,BZ,B0,B1,B2,B3,B4,B5,B6,B7,B8,B9,Ca,Cb,Cc,Cd,Ce,Cf,Cg,Ch,Ci,Cj,Ck,Cl,Cm,Cn,Co,Cp,Cq,Cs,Ct,Cu,Cv,Cw,Cx,Cy,Cz,CA,CB,CC,CD,CE,CF,CG,CH,CI,CJ,CK,CL,CM,CN,CO,CP,CQ,CR,CS,CT,CU,CV,CW,CX,CY,CZ,C0,C1,C2,C3,C4,C5,C6,C7,C8,C9,Da,Db,Dc,Dd,De,Df,Dg,Dh,Di,Dj,Dk,Dl,Dm,Dn,Dp,Dq,Dr,Ds,Dt,Du,Dv,Dw,Dx,Dy,Dz,DA,DB,DC,DD,DE,DF,DG,DH,DI,DJ,DK,DL],[]⟩ x:=by
 conv=>arg 2;whnf
 have hT':=hide hT
 have hQ':=hide hQ
 have hk':=hide hk
 have hS':=hide (And.intro hS hG)
 have HF:=hide (And.intro f1 (And.intro f3 hFl))
 clear hT hQ hk hS hG f1 f3 hFl
 go_wp2_with fail
 go_loopw [9,10] (fun v9 v10 wr=>∃(t jC jE jI dC dE dI:Nat) (m:Cr.M),t≤4∧v9=.bool m.left∧v10=.int .i64 (t:Int)∧Hid (Cr.MovedTo s c how inp t ⟨g,E,I,false⟩ m)∧Hid (Cr.Turn v wr B A R jC jE jI dC dE dI how inp sp s m.g c m.E m.I)∧Hid (B<k∧A<k∧R<k∧v.heap.size≤k∧k≤jE∧k≤jI)) (fun _ v10 _=>10 - (intOf v10).toNat)
 case atStart=>exact ⟨0,gC,gE,gI,cC,cE,cI,⟨g,E,I,false⟩,by omega,rfl,rfl,rfl,hT',hk'⟩
 case round =>
  clear hT' hk'
  rename_i hKK
  have hK0:=hide hKK
  clear hKK
  obtain ⟨t,jC,jE,jI,dC,dE,dI,⟨G,F,J,lf⟩,ht,rfl,rfl,hM,hT0,hk1⟩:=hrel
  have hMF:Hid (Cr.Sane c F J∧Cr.Gold G):=Cr.MFit.movedTo (m:=⟨g,E,I,false⟩) (n:=⟨G,F,J,lf⟩) (uh hS') (uh hM)
  try dsimp only at hT0 ⊢
  by_cases hlt:t<4
  ·have hlt':(t:Int)<4:=by omega
   have HL:=hide hlt
   have y5:=(uh hT0).hand.hold.box.eleven.2.2.2.2.2.1
   have ch:=hide (refHero7_any jE dE F (t:Int) wr (uh hT0).hand.hold.lists.own)
   obtain ⟨z,hz⟩:∃z,Gd.hero F (t:Int)=z:=⟨_,rfl⟩
   rw [hz] at ch
   have HZ:=hide hz
   clear hlt ht hz
   go_wp2_with fail
   refine (uh ch).mono ?_
   rintro e w1 ⟨rfl,hg⟩
   have hT1:=hide ((uh hT0).on hg)
   clear hg ch y5 hT0
   by_cases h0:z<0
   ·have H0:=hide h0
    have hM2:Hid (Cr.MovedTo s c how inp (t+1) ⟨g,E,I,false⟩ ⟨G,F,J,lf⟩):=⟨⟨G,F,J,lf⟩,uh hM,(show Cr.Moved s c (t:Int) (how t) (inp t) ⟨G,F,J,lf⟩ ⟨G,F,J,lf⟩ by unfold Cr.Moved;rw [if_pos (.inl (show Gd.hero F (t:Int)<0 by rw [uh HZ];exact uh H0))])⟩
    clear hM
    go_wp2
    go_roundw
    case rel=>exact ⟨t+1,jC,jE,jI,dC,dE,dI,⟨G,F,J,lf⟩,by have:=uh HL;omega,rfl,by go_num,hM2,hT1,hk1⟩
    case measure=>simp [intOf];have:=uh HL;omega
   ·have hz0:0≤Gd.hero F (t:Int):=by rw [uh HZ];omega
    obtain ⟨p,hp,hpe,hp2,hp1⟩:=Gd.hero_pos hz0
    obtain rfl:z=(p:Int):=by rw [←uh HZ];exact hpe
    have HP:Hid (p<32∧F p 0≠0):=⟨hp,by omega⟩
    have hp':(p:Int)<32:=by omega
    have y5:=(uh hT1).hand.hold.box.eleven.2.2.2.2.2.1
    have q10:=((uh hT1).hand.hold.lists.own.ents.row hp).2.2.2.2.2.2.2.2.2.2
    obtain ⟨xa,xb,xc⟩:=Cr.act_three (uh hT1).acts (uh HL)
    clear hz0 hp hpe hp2 hp1 h0
    by_cases hst:F p 10 > 0
    ·have HST:=hide hst
     have hM2:Hid (Cr.MovedTo s c how inp (t+1) ⟨g,E,I,false⟩ ⟨G,F,J,lf⟩):=⟨⟨G,F,J,lf⟩,uh hM,(show Cr.Moved s c (t:Int) (how t) (inp t) ⟨G,F,J,lf⟩ ⟨G,F,J,lf⟩ by unfold Cr.Moved;rw [if_pos (.inr (.inl (show 0<F (Gd.hero F (t:Int)).toNat 10 by rw [uh HZ,Int.toNat_natCast];exact uh HST)))])⟩
     clear hM
     go_wp2
     go_roundw
     case rel=>exact ⟨t+1,jC,jE,jI,dC,dE,dI,⟨G,F,J,lf⟩,by have:=uh HL;omega,rfl,by go_num,hM2,hT1,hk1⟩
     case measure=>simp [intOf];have:=uh HL;omega
    ·have HST:=hide hst
     have hM1:Hid (¬(how t≠1∧how t≠2)→∀u,(if how t=2 then Md.IsRobot c F J (t:Int) u else u=inp t)→Cr.MovedTo s c how inp (t+1) ⟨g,E,I,false⟩ (Cr.does s c ⟨G,F,J,lf⟩ (t:Int) p u)):=fun hh u hu=>⟨⟨G,F,J,lf⟩,uh hM,(show Cr.Moved s c (t:Int) (how t) (inp t) ⟨G,F,J,lf⟩ (Cr.does s c ⟨G,F,J,lf⟩ (t:Int) p u) by
      unfold Cr.Moved
      rw [if_neg (show ¬(Gd.hero F (t:Int)<0∨0<F (Gd.hero F (t:Int)).toNat 10∨(how t≠1∧how t≠2)) by rw [uh HZ,Int.toNat_natCast];have:=uh HST;omega)]
      refine ⟨u,hu,?_⟩
      show _=Cr.does s c ⟨G,F,J,lf⟩ (t:Int) (Gd.hero F (t:Int)).toNat u
      rw [uh HZ,Int.toNat_natCast])⟩
     by_cases w1h:how t=1
     ·have hM1':Hid (∀u,u=inp t→Cr.MovedTo s c how inp (t+1) ⟨g,E,I,false⟩ (Cr.does s c ⟨G,F,J,lf⟩ (t:Int) p u)):=fun u hu=>uh hM1 (by omega) u (by rw [if_neg (by omega)];exact hu)
      rw [w1h] at xa
      clear hM1 w1h
      have hM1:=hM1'
      clear hM1'
      obtain ⟨u,hu⟩:∃u,inp t=u:=⟨_,rfl⟩
      rw [hu] at xb
      have HUI:=hide hu
      clear hu
      go_upto_region 26 with fail
      clear xa xb xc q10 y5
      have hFi:=hide ((uh hMF).1.fine (uh hMF).2)
      by_cases u1:u≥1∧u≤4
      ·obtain ⟨u1,u4⟩:=u1
       obtain ⟨b0,b1,b2,b3,b4,b5,b6,b7,b8,b9,b10⟩:=(uh hT1).hand.hold.box.eleven
       have hM2:Hid (Cr.MovedTo s c how inp (t+1) ⟨g,E,I,false⟩ ⟨G,(Cr.act s c F J p u false).1,(Cr.act s c F J p u false).2,lf⟩):=by
        have h:=uh hM1 u ((uh HUI).symm)
        rw [show Cr.does s c ⟨G,F,J,lf⟩ (t:Int) p u=⟨G,(Cr.act s c F J p u false).1,(Cr.act s c F J p u false).2,lf⟩ from by unfold Cr.does;rw [if_pos ⟨u1,u4⟩]] at h
        exact h
       have ct:=hide (refAct_any s G c F J jC jE jI dC dE dI p u false w1 (uh hT1).hand.hold.lists (uh hT1).hand.cap (uh hT1).hand.hold.cE (uh hT1).hand.hold.cI (uh hT1).hand.hold.eI (uh hMF).1 (uh HP).1 (uh HP).2)
       unfold Gd.world at ct
       clear hM1 hM
       go_wp2_with fail
       refine (uh ct).mono ?_
       rintro e w5 ⟨qC,qE,qI,rC,rE,rI,rfl,hcap,l1,l2,l3,n1,n2,n3,hL,hg⟩
       have hf:=(uh hT1).fresh (uh hk1) (s':=s) (g':=G) (dC:=rC) (dI:=rI) hcap l1 l2 l3 n1 n2 n3 hL hg
       have hT2:Hid (Cr.Turn v (((((((((((w5.setCell ⟨B,0,none⟩ (.int .i64 (s 0))).setCell ⟨B,1,none⟩ (.int .i64 (s 1))).setCell ⟨B,2,none⟩ (.int .i64 (s 2))).setCell ⟨B,3,none⟩ (.int .i64 (s 3))).setCell ⟨B,4,none⟩ (.slice (some ⟨qC,0,none⟩) 384 rC)).setCell ⟨B,5,none⟩ (.slice (some ⟨qE,0,none⟩) 32 rE)).setCell ⟨B,6,none⟩ (.slice (some ⟨qI,0,none⟩) 40 rI)).setCell ⟨B,7,none⟩ (.int .i64 (G 0))).setCell ⟨B,8,none⟩ (.int .i64 (G 1))).setCell ⟨B,9,none⟩ (.int .i64 (G 2))).setCell ⟨B,10,none⟩ (.int .i64 (G 3))) B A R qC qE qI rC rE rI how inp sp s G c (Cr.act s c F J p u false).1 (Cr.act s c F J p u false).2):=hf.1
       have hk2:=hide hf.2.2
       have hb2:=hide hf.2.1
       clear hf hcap l1 l2 l3 n1 n2 n3 hL hg ct b0 b1 b2 b3 b4 b5 b6 b7 b8 b9 b10 hT1 hk1
       obtain ⟨b0,b1,b2,b3,b4,b5,b6,b7,b8,b9,b10⟩:=(uh hb2).eleven
       have fB:=(uh hb2).free
       clear hb2
       unfold Gd.world
       go_wp2
       go_roundw
       case rel=>exact ⟨t+1,qC,qE,qI,rC,rE,rI,⟨G,(Cr.act s c F J p u false).1,(Cr.act s c F J p u false).2,lf⟩,by have:=uh HL;omega,rfl,by go_num,hM2,hT2,hk2⟩
       case measure=>simp [intOf];have:=uh HL;omega
      ·have hn4:¬(1≤u∧u≤4):=u1
       have HN4:=hide hn4
       by_cases u9:u=9
       ·subst u9
        have hM3:Hid (∀b:Bool,b=(lf || decide (Gr.at 384 c (F p 3) (F p 4)=4))→Cr.MovedTo s c how inp (t+1) ⟨g,E,I,false⟩ ⟨G,F,J,b⟩):=fun b hb=>by
         have h:=uh hM1 9 ((uh HUI).symm)
         rw [show Cr.does s c ⟨G,F,J,lf⟩ (t:Int) p 9=⟨G,F,J,b⟩ from by unfold Cr.does;rw [if_neg (by omega),if_pos rfl,hb]] at h
         exact h
        clear hM1 hM u1 hn4 HN4 hFi
        have b4:=(uh hT1).hand.hold.box.eleven.2.2.2.2.1
        have b5:=(uh hT1).hand.hold.box.eleven.2.2.2.2.2.1
        have p3:=((uh hT1).hand.hold.lists.own.ents.row (uh HP).1).2.2.2.1
        have p4:=((uh hT1).hand.hold.lists.own.ents.row (uh HP).1).2.2.2.2.1
        have cz:=hide (fun z (hz:Gd.Lists z jC jE jI c F J)=>refAt_any z.heap.size (some ⟨jC,0,none⟩) 384 dC c (F p 3) (F p 4) z hz.vec (uh hMF).1.fit.cells)
        obtain ⟨a,ha⟩:∃a,Gr.at 384 c (F p 3) (F p 4)=a:=⟨_,rfl⟩
        rw [ha] at cz hM3
        clear ha
        cases lf
        ·by_cases a4:a=4
         ·subst a4
          go_upto_region 29 with fail
          go_quiet (first | (go_at_call 45;refine Calls.quiet_of_same (uh cz _ ?_);exact (uh hT1).hand.hold.lists.on (gdw (World.grownBy.refl _ none) _)) | fail)
          have hT2:=hide ((uh hT1).on (gdw (World.grownBy.refl w1 none) nq))
          have hM2:=hide (uh hM3 true (by simp))
          clear hM3 hT1 b4 b5 p3 p4 cz
          generalize w1.drewN nq=wq at hT2 ⊢
          go_wp2
          go_roundw
          case rel=>exact ⟨t+1,jC,jE,jI,dC,dE,dI,⟨G,F,J,true⟩,by have:=uh HL;omega,rfl,by go_num,hM2,hT2,hk1⟩
          case measure=>simp [intOf];have:=uh HL;omega
         ·have a4':(a == 4)=false:=by simp [a4]
          have HA4:=hide a4
          clear a4
          go_upto_region 29 with fail
          go_quiet (first | (go_at_call 45;refine Calls.quiet_of_same (uh cz _ ?_);exact (uh hT1).hand.hold.lists.on (gdw (World.grownBy.refl _ none) _)) | fail)
          have hT2:=hide ((uh hT1).on (gdw (World.grownBy.refl w1 none) nq))
          have hM2:=hide (uh hM3 false (by have:=uh HA4;simp [this]))
          clear hM3 hT1 b4 b5 p3 p4 cz
          generalize w1.drewN nq=wq at hT2 ⊢
          go_wp2
          go_roundw
          case rel=>exact ⟨t+1,jC,jE,jI,dC,dE,dI,⟨G,F,J,false⟩,by have:=uh HL;omega,rfl,by go_num,hM2,hT2,hk1⟩
          case measure=>simp [intOf];have:=uh HL;omega
        ·clear cz
         go_upto_region 29 with fail
         go_quiet (fail)
         have hT2:=hide ((uh hT1).on (gdw (World.grownBy.refl w1 none) nq))
         have hM2:=hide (uh hM3 true (by simp))
         clear hM3 hT1 b4 b5 p3 p4
         generalize w1.drewN nq=wq at hT2 ⊢
         go_wp2
         go_roundw
         case rel=>exact ⟨t+1,jC,jE,jI,dC,dE,dI,⟨G,F,J,true⟩,by have:=uh HL;omega,rfl,by go_num,hM2,hT2,hk1⟩
         case measure=>simp [intOf];have:=uh HL;omega
       ·have u9':(u == 9)=false:=by simp [u9]
        have HN9:=hide u9
        by_cases ul:u≥1
        ·have ug:¬u≤4:=by omega
         clear u1 hn4 u9
         obtain ⟨b0,b1,b2,b3,b4,b5,b6,b7,b8,b9,b10⟩:=(uh hT1).hand.hold.box.eleven
         have hM2:Hid (Cr.MovedTo s c how inp (t+1) ⟨g,E,I,false⟩ ⟨(Gd.nextG c G F J (t:Int) u),(Gd.nextE F J (t:Int) u),(Gd.nextI c G F J (t:Int) u),lf⟩):=by
          have h:=uh hM1 u ((uh HUI).symm)
          rw [show Cr.does s c ⟨G,F,J,lf⟩ (t:Int) p u=⟨(Gd.nextG c G F J (t:Int) u),(Gd.nextE F J (t:Int) u),(Gd.nextI c G F J (t:Int) u),lf⟩ from by unfold Cr.does;rw [if_neg (uh HN4),if_neg (uh HN9)]] at h
          exact h
         have ct:=hide (refDo_any s G c F J jC jE jI dC dE dI (t:Int) u w1 (uh hT1).hand.hold.lists (uh hFi))
         unfold Gd.world at ct
         clear hM1 hM
         go_wp2_with fail
         refine (uh ct).mono ?_
         rintro e w5 ⟨qC,qE,qI,rC,rE,rI,rfl,hcap,l1,l2,l3,n1,n2,n3,hL,hg⟩
         have hf:=(uh hT1).fresh (uh hk1) (s':=s) (g':=(Gd.nextG c G F J (t:Int) u)) (dC:=rC) (dI:=rI) hcap (.inr l1) (.inr l2) (.inr l3) n1 n2 n3 hL hg
         have hT2:Hid (Cr.Turn v (((((((((((w5.setCell ⟨B,0,none⟩ (.int .i64 (s 0))).setCell ⟨B,1,none⟩ (.int .i64 (s 1))).setCell ⟨B,2,none⟩ (.int .i64 (s 2))).setCell ⟨B,3,none⟩ (.int .i64 (s 3))).setCell ⟨B,4,none⟩ (.slice (some ⟨qC,0,none⟩) 384 rC)).setCell ⟨B,5,none⟩ (.slice (some ⟨qE,0,none⟩) 32 rE)).setCell ⟨B,6,none⟩ (.slice (some ⟨qI,0,none⟩) 40 rI)).setCell ⟨B,7,none⟩ (.int .i64 ((Gd.nextG c G F J (t:Int) u) 0))).setCell ⟨B,8,none⟩ (.int .i64 ((Gd.nextG c G F J (t:Int) u) 1))).setCell ⟨B,9,none⟩ (.int .i64 ((Gd.nextG c G F J (t:Int) u) 2))).setCell ⟨B,10,none⟩ (.int .i64 ((Gd.nextG c G F J (t:Int) u) 3))) B A R qC qE qI rC rE rI how inp sp s (Gd.nextG c G F J (t:Int) u) c (Gd.nextE F J (t:Int) u) (Gd.nextI c G F J (t:Int) u)):=hf.1
         have hk2:=hide hf.2.2
         have hb2:=hide hf.2.1
         clear hf hcap l1 l2 l3 n1 n2 n3 hL hg ct b0 b1 b2 b3 b4 b5 b6 b7 b8 b9 b10 hT1 hk1
         obtain ⟨b0,b1,b2,b3,b4,b5,b6,b7,b8,b9,b10⟩:=(uh hb2).eleven
         have fB:=(uh hb2).free
         clear hb2
         unfold Gd.world
         go_wp2
         go_roundw
         case rel=>exact ⟨t+1,qC,qE,qI,rC,rE,rI,⟨(Gd.nextG c G F J (t:Int) u),(Gd.nextE F J (t:Int) u),(Gd.nextI c G F J (t:Int) u),lf⟩,by have:=uh HL;omega,rfl,by go_num,hM2,hT2,hk2⟩
         case measure=>simp [intOf];have:=uh HL;omega
        ·clear u1 hn4 u9
         obtain ⟨b0,b1,b2,b3,b4,b5,b6,b7,b8,b9,b10⟩:=(uh hT1).hand.hold.box.eleven
         have hM2:Hid (Cr.MovedTo s c how inp (t+1) ⟨g,E,I,false⟩ ⟨(Gd.nextG c G F J (t:Int) u),(Gd.nextE F J (t:Int) u),(Gd.nextI c G F J (t:Int) u),lf⟩):=by
          have h:=uh hM1 u ((uh HUI).symm)
          rw [show Cr.does s c ⟨G,F,J,lf⟩ (t:Int) p u=⟨(Gd.nextG c G F J (t:Int) u),(Gd.nextE F J (t:Int) u),(Gd.nextI c G F J (t:Int) u),lf⟩ from by unfold Cr.does;rw [if_neg (uh HN4),if_neg (uh HN9)]] at h
          exact h
         have ct:=hide (refDo_any s G c F J jC jE jI dC dE dI (t:Int) u w1 (uh hT1).hand.hold.lists (uh hFi))
         unfold Gd.world at ct
         clear hM1 hM
         go_wp2_with fail
         refine (uh ct).mono ?_
         rintro e w5 ⟨qC,qE,qI,rC,rE,rI,rfl,hcap,l1,l2,l3,n1,n2,n3,hL,hg⟩
         have hf:=(uh hT1).fresh (uh hk1) (s':=s) (g':=(Gd.nextG c G F J (t:Int) u)) (dC:=rC) (dI:=rI) hcap (.inr l1) (.inr l2) (.inr l3) n1 n2 n3 hL hg
         have hT2:Hid (Cr.Turn v (((((((((((w5.setCell ⟨B,0,none⟩ (.int .i64 (s 0))).setCell ⟨B,1,none⟩ (.int .i64 (s 1))).setCell ⟨B,2,none⟩ (.int .i64 (s 2))).setCell ⟨B,3,none⟩ (.int .i64 (s 3))).setCell ⟨B,4,none⟩ (.slice (some ⟨qC,0,none⟩) 384 rC)).setCell ⟨B,5,none⟩ (.slice (some ⟨qE,0,none⟩) 32 rE)).setCell ⟨B,6,none⟩ (.slice (some ⟨qI,0,none⟩) 40 rI)).setCell ⟨B,7,none⟩ (.int .i64 ((Gd.nextG c G F J (t:Int) u) 0))).setCell ⟨B,8,none⟩ (.int .i64 ((Gd.nextG c G F J (t:Int) u) 1))).setCell ⟨B,9,none⟩ (.int .i64 ((Gd.nextG c G F J (t:Int) u) 2))).setCell ⟨B,10,none⟩ (.int .i64 ((Gd.nextG c G F J (t:Int) u) 3))) B A R qC qE qI rC rE rI how inp sp s (Gd.nextG c G F J (t:Int) u) c (Gd.nextE F J (t:Int) u) (Gd.nextI c G F J (t:Int) u)):=hf.1
         have hk2:=hide hf.2.2
         have hb2:=hide hf.2.1
         clear hf hcap l1 l2 l3 n1 n2 n3 hL hg ct b0 b1 b2 b3 b4 b5 b6 b7 b8 b9 b10 hT1 hk1
         obtain ⟨b0,b1,b2,b3,b4,b5,b6,b7,b8,b9,b10⟩:=(uh hb2).eleven
         have fB:=(uh hb2).free
         clear hb2
         unfold Gd.world
         go_wp2
         go_roundw
         case rel=>exact ⟨t+1,qC,qE,qI,rC,rE,rI,⟨(Gd.nextG c G F J (t:Int) u),(Gd.nextE F J (t:Int) u),(Gd.nextI c G F J (t:Int) u),lf⟩,by have:=uh HL;omega,rfl,by go_num,hM2,hT2,hk2⟩
         case measure=>simp [intOf];have:=uh HL;omega
     ·by_cases w2h:how t=2
      ·have hM1':Hid (∀u,Md.IsRobot c F J (t:Int) u→Cr.MovedTo s c how inp (t+1) ⟨g,E,I,false⟩ (Cr.does s c ⟨G,F,J,lf⟩ (t:Int) p u)):=fun u hu=>uh hM1 (by omega) u (by rw [if_pos w2h];exact hu)
       rw [w2h] at xa
       clear hM1 w1h w2h
       have hM1:=hM1'
       clear hM1'
       obtain ⟨b0,b1,b2,b3,b4,b5,b6,b7,b8,b9,b10⟩:=(uh hT1).hand.hold.box.eleven
       have cr:=hide (refRobot_any s G c F J jC jE jI dC dE dI (t:Int) w1 (uh hT1).hand.hold.lists (uh hMF).1.fit.cells (uh hT1).hand.cap (uh hMF).1.good.fine)
       unfold Gd.world at cr
       go_wp2_with fail
       refine (uh cr).mono ?_
       rintro e w2 ⟨u,hu,rfl,hg⟩
       have hT2:=hide ((uh hT1).on hg)
       have HUI:=hide hu
       clear b0 b1 b2 b3 b4 b5 b6 b7 b8 b9 b10 cr hT1 hg hu xa xb xc q10 y5
       have hT1:=hT2
       clear hT2
       go_upto_region 26 with fail
       have hFi:=hide ((uh hMF).1.fine (uh hMF).2)
       by_cases u1:u≥1∧u≤4
       ·obtain ⟨u1,u4⟩:=u1
        obtain ⟨b0,b1,b2,b3,b4,b5,b6,b7,b8,b9,b10⟩:=(uh hT1).hand.hold.box.eleven
        have hM2:Hid (Cr.MovedTo s c how inp (t+1) ⟨g,E,I,false⟩ ⟨G,(Cr.act s c F J p u false).1,(Cr.act s c F J p u false).2,lf⟩):=by
         have h:=uh hM1 u (uh HUI)
         rw [show Cr.does s c ⟨G,F,J,lf⟩ (t:Int) p u=⟨G,(Cr.act s c F J p u false).1,(Cr.act s c F J p u false).2,lf⟩ from by unfold Cr.does;rw [if_pos ⟨u1,u4⟩]] at h
         exact h
        have ct:=hide (refAct_any s G c F J jC jE jI dC dE dI p u false w2 (uh hT1).hand.hold.lists (uh hT1).hand.cap (uh hT1).hand.hold.cE (uh hT1).hand.hold.cI (uh hT1).hand.hold.eI (uh hMF).1 (uh HP).1 (uh HP).2)
        unfold Gd.world at ct
        clear hM1 hM
        go_wp2_with fail
        refine (uh ct).mono ?_
        rintro e w5 ⟨qC,qE,qI,rC,rE,rI,rfl,hcap,l1,l2,l3,n1,n2,n3,hL,hg⟩
        have hf:=(uh hT1).fresh (uh hk1) (s':=s) (g':=G) (dC:=rC) (dI:=rI) hcap l1 l2 l3 n1 n2 n3 hL hg
        have hT2:Hid (Cr.Turn v (((((((((((w5.setCell ⟨B,0,none⟩ (.int .i64 (s 0))).setCell ⟨B,1,none⟩ (.int .i64 (s 1))).setCell ⟨B,2,none⟩ (.int .i64 (s 2))).setCell ⟨B,3,none⟩ (.int .i64 (s 3))).setCell ⟨B,4,none⟩ (.slice (some ⟨qC,0,none⟩) 384 rC)).setCell ⟨B,5,none⟩ (.slice (some ⟨qE,0,none⟩) 32 rE)).setCell ⟨B,6,none⟩ (.slice (some ⟨qI,0,none⟩) 40 rI)).setCell ⟨B,7,none⟩ (.int .i64 (G 0))).setCell ⟨B,8,none⟩ (.int .i64 (G 1))).setCell ⟨B,9,none⟩ (.int .i64 (G 2))).setCell ⟨B,10,none⟩ (.int .i64 (G 3))) B A R qC qE qI rC rE rI how inp sp s G c (Cr.act s c F J p u false).1 (Cr.act s c F J p u false).2):=hf.1
        have hk2:=hide hf.2.2
        have hb2:=hide hf.2.1
        clear hf hcap l1 l2 l3 n1 n2 n3 hL hg ct b0 b1 b2 b3 b4 b5 b6 b7 b8 b9 b10 hT1 hk1
        obtain ⟨b0,b1,b2,b3,b4,b5,b6,b7,b8,b9,b10⟩:=(uh hb2).eleven
        have fB:=(uh hb2).free
        clear hb2
        unfold Gd.world
        go_wp2
        go_roundw
        case rel=>exact ⟨t+1,qC,qE,qI,rC,rE,rI,⟨G,(Cr.act s c F J p u false).1,(Cr.act s c F J p u false).2,lf⟩,by have:=uh HL;omega,rfl,by go_num,hM2,hT2,hk2⟩
        case measure=>simp [intOf];have:=uh HL;omega
       ·have hn4:¬(1≤u∧u≤4):=u1
        have HN4:=hide hn4
        by_cases u9:u=9
        ·subst u9
         have hM3:Hid (∀b:Bool,b=(lf || decide (Gr.at 384 c (F p 3) (F p 4)=4))→Cr.MovedTo s c how inp (t+1) ⟨g,E,I,false⟩ ⟨G,F,J,b⟩):=fun b hb=>by
          have h:=uh hM1 9 (uh HUI)
          rw [show Cr.does s c ⟨G,F,J,lf⟩ (t:Int) p 9=⟨G,F,J,b⟩ from by unfold Cr.does;rw [if_neg (by omega),if_pos rfl,hb]] at h
          exact h
         clear hM1 hM u1 hn4 HN4 hFi
         have b4:=(uh hT1).hand.hold.box.eleven.2.2.2.2.1
         have b5:=(uh hT1).hand.hold.box.eleven.2.2.2.2.2.1
         have p3:=((uh hT1).hand.hold.lists.own.ents.row (uh HP).1).2.2.2.1
         have p4:=((uh hT1).hand.hold.lists.own.ents.row (uh HP).1).2.2.2.2.1
         have cz:=hide (fun z (hz:Gd.Lists z jC jE jI c F J)=>refAt_any z.heap.size (some ⟨jC,0,none⟩) 384 dC c (F p 3) (F p 4) z hz.vec (uh hMF).1.fit.cells)
         obtain ⟨a,ha⟩:∃a,Gr.at 384 c (F p 3) (F p 4)=a:=⟨_,rfl⟩
         rw [ha] at cz hM3
         clear ha
         cases lf
         ·by_cases a4:a=4
          ·subst a4
           go_upto_region 29 with fail
           go_quiet (first | (go_at_call 45;refine Calls.quiet_of_same (uh cz _ ?_);exact (uh hT1).hand.hold.lists.on (gdw (World.grownBy.refl _ none) _)) | fail)
           have hT2:=hide ((uh hT1).on (gdw (World.grownBy.refl w2 none) nq))
           have hM2:=hide (uh hM3 true (by simp))
           clear hM3 hT1 b4 b5 p3 p4 cz
           generalize w2.drewN nq=wq at hT2 ⊢
           go_wp2
           go_roundw
           case rel=>exact ⟨t+1,jC,jE,jI,dC,dE,dI,⟨G,F,J,true⟩,by have:=uh HL;omega,rfl,by go_num,hM2,hT2,hk1⟩
           case measure=>simp [intOf];have:=uh HL;omega
          ·have a4':(a == 4)=false:=by simp [a4]
           have HA4:=hide a4
           clear a4
           go_upto_region 29 with fail
           go_quiet (first | (go_at_call 45;refine Calls.quiet_of_same (uh cz _ ?_);exact (uh hT1).hand.hold.lists.on (gdw (World.grownBy.refl _ none) _)) | fail)
           have hT2:=hide ((uh hT1).on (gdw (World.grownBy.refl w2 none) nq))
           have hM2:=hide (uh hM3 false (by have:=uh HA4;simp [this]))
           clear hM3 hT1 b4 b5 p3 p4 cz
           generalize w2.drewN nq=wq at hT2 ⊢
           go_wp2
           go_roundw
           case rel=>exact ⟨t+1,jC,jE,jI,dC,dE,dI,⟨G,F,J,false⟩,by have:=uh HL;omega,rfl,by go_num,hM2,hT2,hk1⟩
           case measure=>simp [intOf];have:=uh HL;omega
         ·clear cz
          go_upto_region 29 with fail
          go_quiet (fail)
          have hT2:=hide ((uh hT1).on (gdw (World.grownBy.refl w2 none) nq))
          have hM2:=hide (uh hM3 true (by simp))
          clear hM3 hT1 b4 b5 p3 p4
          generalize w2.drewN nq=wq at hT2 ⊢
          go_wp2
          go_roundw
          case rel=>exact ⟨t+1,jC,jE,jI,dC,dE,dI,⟨G,F,J,true⟩,by have:=uh HL;omega,rfl,by go_num,hM2,hT2,hk1⟩
          case measure=>simp [intOf];have:=uh HL;omega
        ·have u9':(u == 9)=false:=by simp [u9]
         have HN9:=hide u9
         by_cases ul:u≥1
         ·have ug:¬u≤4:=by omega
          clear u1 hn4 u9
          obtain ⟨b0,b1,b2,b3,b4,b5,b6,b7,b8,b9,b10⟩:=(uh hT1).hand.hold.box.eleven
          have hM2:Hid (Cr.MovedTo s c how inp (t+1) ⟨g,E,I,false⟩ ⟨(Gd.nextG c G F J (t:Int) u),(Gd.nextE F J (t:Int) u),(Gd.nextI c G F J (t:Int) u),lf⟩):=by
           have h:=uh hM1 u (uh HUI)
           rw [show Cr.does s c ⟨G,F,J,lf⟩ (t:Int) p u=⟨(Gd.nextG c G F J (t:Int) u),(Gd.nextE F J (t:Int) u),(Gd.nextI c G F J (t:Int) u),lf⟩ from by unfold Cr.does;rw [if_neg (uh HN4),if_neg (uh HN9)]] at h
           exact h
          have ct:=hide (refDo_any s G c F J jC jE jI dC dE dI (t:Int) u w2 (uh hT1).hand.hold.lists (uh hFi))
          unfold Gd.world at ct
          clear hM1 hM
          go_wp2_with fail
          refine (uh ct).mono ?_
          rintro e w5 ⟨qC,qE,qI,rC,rE,rI,rfl,hcap,l1,l2,l3,n1,n2,n3,hL,hg⟩
          have hf:=(uh hT1).fresh (uh hk1) (s':=s) (g':=(Gd.nextG c G F J (t:Int) u)) (dC:=rC) (dI:=rI) hcap (.inr l1) (.inr l2) (.inr l3) n1 n2 n3 hL hg
          have hT2:Hid (Cr.Turn v (((((((((((w5.setCell ⟨B,0,none⟩ (.int .i64 (s 0))).setCell ⟨B,1,none⟩ (.int .i64 (s 1))).setCell ⟨B,2,none⟩ (.int .i64 (s 2))).setCell ⟨B,3,none⟩ (.int .i64 (s 3))).setCell ⟨B,4,none⟩ (.slice (some ⟨qC,0,none⟩) 384 rC)).setCell ⟨B,5,none⟩ (.slice (some ⟨qE,0,none⟩) 32 rE)).setCell ⟨B,6,none⟩ (.slice (some ⟨qI,0,none⟩) 40 rI)).setCell ⟨B,7,none⟩ (.int .i64 ((Gd.nextG c G F J (t:Int) u) 0))).setCell ⟨B,8,none⟩ (.int .i64 ((Gd.nextG c G F J (t:Int) u) 1))).setCell ⟨B,9,none⟩ (.int .i64 ((Gd.nextG c G F J (t:Int) u) 2))).setCell ⟨B,10,none⟩ (.int .i64 ((Gd.nextG c G F J (t:Int) u) 3))) B A R qC qE qI rC rE rI how inp sp s (Gd.nextG c G F J (t:Int) u) c (Gd.nextE F J (t:Int) u) (Gd.nextI c G F J (t:Int) u)):=hf.1
          have hk2:=hide hf.2.2
          have hb2:=hide hf.2.1
          clear hf hcap l1 l2 l3 n1 n2 n3 hL hg ct b0 b1 b2 b3 b4 b5 b6 b7 b8 b9 b10 hT1 hk1
          obtain ⟨b0,b1,b2,b3,b4,b5,b6,b7,b8,b9,b10⟩:=(uh hb2).eleven
          have fB:=(uh hb2).free
          clear hb2
          unfold Gd.world
          go_wp2
          go_roundw
          case rel=>exact ⟨t+1,qC,qE,qI,rC,rE,rI,⟨(Gd.nextG c G F J (t:Int) u),(Gd.nextE F J (t:Int) u),(Gd.nextI c G F J (t:Int) u),lf⟩,by have:=uh HL;omega,rfl,by go_num,hM2,hT2,hk2⟩
          case measure=>simp [intOf];have:=uh HL;omega
         ·clear u1 hn4 u9
          obtain ⟨b0,b1,b2,b3,b4,b5,b6,b7,b8,b9,b10⟩:=(uh hT1).hand.hold.box.eleven
          have hM2:Hid (Cr.MovedTo s c how inp (t+1) ⟨g,E,I,false⟩ ⟨(Gd.nextG c G F J (t:Int) u),(Gd.nextE F J (t:Int) u),(Gd.nextI c G F J (t:Int) u),lf⟩):=by
           have h:=uh hM1 u (uh HUI)
           rw [show Cr.does s c ⟨G,F,J,lf⟩ (t:Int) p u=⟨(Gd.nextG c G F J (t:Int) u),(Gd.nextE F J (t:Int) u),(Gd.nextI c G F J (t:Int) u),lf⟩ from by unfold Cr.does;rw [if_neg (uh HN4),if_neg (uh HN9)]] at h
           exact h
          have ct:=hide (refDo_any s G c F J jC jE jI dC dE dI (t:Int) u w2 (uh hT1).hand.hold.lists (uh hFi))
          unfold Gd.world at ct
          clear hM1 hM
          go_wp2_with fail
          refine (uh ct).mono ?_
          rintro e w5 ⟨qC,qE,qI,rC,rE,rI,rfl,hcap,l1,l2,l3,n1,n2,n3,hL,hg⟩
          have hf:=(uh hT1).fresh (uh hk1) (s':=s) (g':=(Gd.nextG c G F J (t:Int) u)) (dC:=rC) (dI:=rI) hcap (.inr l1) (.inr l2) (.inr l3) n1 n2 n3 hL hg
          have hT2:Hid (Cr.Turn v (((((((((((w5.setCell ⟨B,0,none⟩ (.int .i64 (s 0))).setCell ⟨B,1,none⟩ (.int .i64 (s 1))).setCell ⟨B,2,none⟩ (.int .i64 (s 2))).setCell ⟨B,3,none⟩ (.int .i64 (s 3))).setCell ⟨B,4,none⟩ (.slice (some ⟨qC,0,none⟩) 384 rC)).setCell ⟨B,5,none⟩ (.slice (some ⟨qE,0,none⟩) 32 rE)).setCell ⟨B,6,none⟩ (.slice (some ⟨qI,0,none⟩) 40 rI)).setCell ⟨B,7,none⟩ (.int .i64 ((Gd.nextG c G F J (t:Int) u) 0))).setCell ⟨B,8,none⟩ (.int .i64 ((Gd.nextG c G F J (t:Int) u) 1))).setCell ⟨B,9,none⟩ (.int .i64 ((Gd.nextG c G F J (t:Int) u) 2))).setCell ⟨B,10,none⟩ (.int .i64 ((Gd.nextG c G F J (t:Int) u) 3))) B A R qC qE qI rC rE rI how inp sp s (Gd.nextG c G F J (t:Int) u) c (Gd.nextE F J (t:Int) u) (Gd.nextI c G F J (t:Int) u)):=hf.1
          have hk2:=hide hf.2.2
          have hb2:=hide hf.2.1
          clear hf hcap l1 l2 l3 n1 n2 n3 hL hg ct b0 b1 b2 b3 b4 b5 b6 b7 b8 b9 b10 hT1 hk1
          obtain ⟨b0,b1,b2,b3,b4,b5,b6,b7,b8,b9,b10⟩:=(uh hb2).eleven
          have fB:=(uh hb2).free
          clear hb2
          unfold Gd.world
          go_wp2
          go_roundw
          case rel=>exact ⟨t+1,qC,qE,qI,rC,rE,rI,⟨(Gd.nextG c G F J (t:Int) u),(Gd.nextE F J (t:Int) u),(Gd.nextI c G F J (t:Int) u),lf⟩,by have:=uh HL;omega,rfl,by go_num,hM2,hT2,hk2⟩
          case measure=>simp [intOf];have:=uh HL;omega
      ·have HH:=hide (And.intro w1h w2h)
       have w1':(how t != 1)=true:=by simp [w1h]
       have w2':(how t != 2)=true:=by simp [w2h]
       have hM2:Hid (Cr.MovedTo s c how inp (t+1) ⟨g,E,I,false⟩ ⟨G,F,J,lf⟩):=⟨⟨G,F,J,lf⟩,uh hM,(show Cr.Moved s c (t:Int) (how t) (inp t) ⟨G,F,J,lf⟩ ⟨G,F,J,lf⟩ by unfold Cr.Moved;rw [if_pos (.inr (.inr (uh HH)))])⟩
       clear hM
       go_wp2
       go_roundw
       case rel=>exact ⟨t+1,jC,jE,jI,dC,dE,dI,⟨G,F,J,lf⟩,by have:=uh HL;omega,rfl,by go_num,hM2,hT1,hk1⟩
       case measure=>simp [intOf];have:=uh HL;omega
  ·obtain rfl:t=4:=by omega
   have hge:¬((4:Nat):Int)<4:=by omega
   clear hlt ht
   go_wp2_with fail
   exact uh hK0 _ _ (turn_hunt (uh hT0) (uh hk1) (uh hMF).1 (uh HF).2.2 (uh HF).1 (uh HF).2.1 had lf Q (fun F' J' T e y h0 h1 h2=>uh hQ' ⟨G,F,J,lf⟩ F' J' T e y (uh hM) h0 h1 h2))


open Go.RowKit

theorem Lie.over11 {x:World} {Q:Nat} {T:TypeId} {F:Nat→Value} (h:Lie x Q T 11 F) (o:Nat→Int):Lie (x.setCells Q 0 (En.cells o).toList) Q T 11 (Ints o):=by
 refine (h.stores 0 _).congr fun j hj=>?_
 show (if 0≤j∧j<0+11 then (En.cells o).toList[j - 0]?.getD undef else F j)=_
 rw [if_pos (by omega)]
 rcases (show j=0∨j=1∨j=2∨j=3∨j=4∨j=5∨j=6∨j=7∨j=8∨j=9∨j=10 by omega) with rfl | rfl | rfl | rfl | rfl | rfl | rfl | rfl | rfl | rfl | rfl <;> rfl

theorem Cr.Turn.asides {v x:World} {B A R gC gE gI cC cE cI D:Nat} {how inp:Nat→Int} {sp:Nat→Bool} {s g c:Nat→Int} {E I:Nat→Nat→Int} (h:Cr.Turn v x B A R gC gE gI cC cE cI how inp sp s g c E I) (hD:v.heap.size≤D) (n:B<D∧A<D∧R<D∧gC<D∧gE<D∧gI<D) (us:List Value):Cr.Turn v (x.setCells D 0 us) B A R gC gE gI cC cE cI how inp sp s g c E I:=by
 have hh:=h.hand.hold
 exact ⟨⟨⟨hh.box.others (by omega) _ _,⟨hh.lists.cells.others (by omega) _ _,hh.lists.ents.others (by omega) _ _,hh.lists.items.others (by omega) _ _⟩,hh.bC,hh.bE,hh.bI,hh.cE,hh.cI,hh.eI⟩,h.hand.lB,h.hand.cap,own_sets hD _ 0 x h.hand.grown⟩,h.acts.others (by omega) _ _,h.res.others (by omega) _ _,h.bR,h.lR,h.lC,h.lE,h.lI⟩

set_option maxRecDepth 16000 in
set_option maxHeartbeats 6400000 in
theorem turn_come {v x:World} {B A R gC gE gI cC cE cI k:Nat} {how inp:Nat→Int} {sp:Nat→Bool} {s g c:Nat→Int} {E I:Nat→Nat→Int} (hT:Cr.Turn v x B A R gC gE gI cC cE cI how inp sp s g c E I) (hk:B<k∧A<k∧R<k∧v.heap.size≤k∧k≤gE∧k≤gI) (hS:Cr.Sane c E I) (hG:Cr.Gold g) (hFl:Nv.Floor c) (f1:1≤s 2) (f3:s 2≤3) (Q:Ending→World→Prop) (hQ:∀U m F J T e y,Cr.ComesTo c sp 4 E U→Cr.MovedTo s c how inp 4 ⟨g,U,I,false⟩ m→Cr.ProwlTo s c 32 m.E m.I F J→Cr.Ends s m.g c (Cr.rats s c (Ft.ailE F J 32).1) (Ft.ailE F J 32).2 (Cr.manned E || Cr.manned U) m.left T→Gd.Worlds v T.s T.g T.c T.E T.I e y→Q e y) {t0 t1 t5 t6 t7 t8 t9 Aa Ab Ac Ad Ae Af Ag Ah Ai Aj Ak Al Am Ao Ap Aq Ar As Au Av Aw Ax Ay Az AA AB AC AD AE AF AG AH AI AJ AK AL AM AN AO AP AQ AR AS AT AU AV AW AX AY AZ A0 A1 A2 A3 A4 A5 A6 A7 A8 A9 Ba Bb Bc Bd Be Bf Bg Bh Bi Bj Bk Bl Bm Bn Bo Bp Bq Br Bs Bt Bu Bv Bw Bx Bz BA BB BC BD BE BF BG BH BI BJ BK BL BM BN BO BP BQ BR BS BT BU BV BW BX BY BZ B0 B1 B2 B3 B4 B5 B6 B7 B8 B9 Ca Cb Cc Cd Ce Cf Cg Ch Ci Cj Ck Cl Cm Cn Co Cp Cq Cs Ct Cu Cv Cw Cx Cy Cz CA CB CC CD CE CF CG CH CI CJ CK CL CM CN CO CP CQ CR CS CT CU CV CW CX CY CZ C0 C1 C2 C3 C4 C5 C6 C7 C8 C9 Da Db Dc Dd De Df Dg Dh Di Dj Dk Dl Dm Dn Dp Dq Dr Ds Dt Du Dv Dw Dx Dy Dz DA DB DC DD DE DF DG DH DI DJ DK DL:Value} :
  Code.wp Tryz.prog ((Tryz.f24.body.map (cdrop 4)).getD .skip) (bodyPost Tryz.prog Tryz.f24 Q) ⟨#[t0,t1,.pointer (some ⟨B,0,none⟩),.pointer (some ⟨A,0,none⟩),.pointer (some ⟨R,0,none⟩),t5,t6,t7,t8,t9,Aa,Ab,Ac,Ad,Ae,Af,Ag,Ah,Ai,Aj,Ak,Al,Am,Ao,Ap,Aq,Ar,As,Au,Av,Aw,Ax,Ay,Az,AA,AB,AC,AD,AE,AF,AG,AH,AI,AJ,AK,AL,AM,AN,AO,AP,AQ,AR,AS,AT,AU,AV,AW,AX,AY,AZ,A0,A1,A2,A3,A4,A5,A6,A7,A8,A9,Ba,Bb,Bc,Bd,Be,Bf,Bg,Bh,Bi,Bj,Bk,Bl,Bm,Bn,Bo,Bp,Bq,Br,Bs,Bt,Bu,Bv,Bw,Bx,Bz,BA,BB,BC,BD,BE,BF,BG,BH,BI,BJ,BK,BL,BM,BN,BO,BP,BQ,BR,BS,BT,BU,BV,BW,BX,BY,BZ,B0,B1,B2,B3,B4,B5,B6,B7,B8,B9,Ca,Cb,Cc,Cd,Ce,Cf,Cg,Ch,Ci,Cj,Ck,Cl,Cm,Cn,Co,Cp,Cq,Cs,Ct,Cu,Cv,Cw,Cx,Cy,Cz,CA,CB,CC,CD,CE,CF,CG,CH,CI,CJ,CK,CL,CM,CN,CO,CP,CQ,CR,CS,CT,CU,CV,CW,CX,CY,CZ,C0,C1,C2,C3,C4,C5,C6,C7,C8,C9,Da,Db,Dc,Dd,De,Df,Dg,Dh,Di,Dj,Dk,Dl,Dm,Dn,Dp,Dq,Dr,Ds,Dt,Du,Dv,Dw,Dx,Dy,Dz,DA,DB,DC,DD,DE,DF,DG,DH,DI,DJ,DK,DL],[]⟩ x:=by
 conv=>arg 2;whnf
 obtain ⟨b0,b1,b2,b3,b4,b5,b6,b7,b8,b9,b10⟩:=hT.hand.hold.box.eleven
 have cm:=hide (refSome_any s g c E I gC gE gI cC cE cI x hT.hand.hold.lists)
 have hT':=hide hT
 have hQ':=hide hQ
 have hk':=hide hk
 have hS':=hide (And.intro hS hG)
 have HF:=hide (And.intro f1 (And.intro f3 hFl))
 obtain ⟨m1,hm1⟩:∃b,Cr.manned E=b:=⟨_,rfl⟩
 rw [hm1] at cm
 have HM1:=hide hm1
 clear hT hQ hk hS hG f1 f3 hFl hm1
 unfold Gd.world at cm
 go_wp2_with fail
 refine (uh cm).mono ?_
 rintro e w1 ⟨rfl,hg⟩
 have hT1:=hide ((uh hT').on hg)
 clear hg cm b0 b1 b2 b3 b4 b5 b6 b7 b8 b9 b10 hT'
 go_wp2_with fail
 go_loopw [6] (fun v6 wr=>∃(t jE dE:Nat) (F:Nat→Nat→Int),t≤4∧v6=.int .i64 (t:Int)∧Hid (Cr.ComesTo c sp t E F)∧Hid (Cr.Turn v wr B A R gC jE gI cC dE cI how inp sp s g c F I)∧Hid (B<k∧A<k∧R<k∧v.heap.size≤k∧k≤jE∧k≤gI)) (fun v6 _=>10 - (intOf v6).toNat)
 case atStart=>exact ⟨0,gE,cE,E,by omega,rfl,rfl,hT1,hk'⟩
 case round =>
  clear hT1 hk'
  rename_i hKK
  have hK0:=hide hKK
  clear hKK
  obtain ⟨t,jE,dE,F,ht,rfl,hC,hT1,hk1⟩:=hrel
  have hSF:=hide ((uh hS').1.comesTo ht (uh hC))
  by_cases hlt:t<4
  ·have hlt':(t:Int)<4:=by omega
   have HL:=hide hlt
   obtain ⟨xa,xb,xc⟩:=Cr.act_three (uh hT1).acts hlt
   obtain ⟨b,hb⟩:∃b,sp t=b:=⟨_,rfl⟩
   rw [hb] at xc
   have HB:=hide hb
   clear hlt ht hb
   cases b
   ·clear xa xb
    have hC2:Hid (Cr.ComesTo c sp (t+1) E F):=⟨F,uh hC,(show Cr.Comes c (t:Int) (sp t) F F by unfold Cr.Comes;rw [if_neg (fun h=>by rw [uh HB] at h;cases h.1)])⟩
    clear hC
    go_wp2
    go_roundw
    case rel=>exact ⟨t+1,jE,dE,F,by have:=uh HL;omega,by go_num,hC2,hT1,hk1⟩
    case measure=>simp [intOf];have:=uh HL;omega
   ·have y5:=(uh hT1).hand.hold.box.eleven.2.2.2.2.2.1
    have ch:=hide (refHero7_any jE dE F (t:Int) wr (uh hT1).hand.hold.lists.own)
    obtain ⟨z,hz⟩:∃z,Gd.hero F (t:Int)=z:=⟨_,rfl⟩
    rw [hz] at ch
    have HZ:=hide hz
    clear hz xa xb
    go_wp2_with fail
    refine (uh ch).mono ?_
    rintro e w2 ⟨rfl,hg⟩
    have hT2:=hide ((uh hT1).on hg)
    clear hg ch y5 xc hT1
    by_cases h0:z<0
    ·have H0:=hide h0
     have hcom:Hid (∀v G,Nv.IsSpot c F 32 (Gr.find 384 c 3 % 24) (Gr.find 384 c 3 / 24) v→((v<0∧G=F)∨∃q:Nat,v=(q:Int)∧G=Cr.join F (Cr.one 1 (t:Int) q))→Cr.ComesTo c sp (t+1) E G):=fun v G h1 h2=>⟨F,uh hC,(show Cr.Comes c (t:Int) (sp t) F G by unfold Cr.Comes;rw [if_pos ⟨uh HB,by rw [uh HZ];exact uh H0⟩];exact ⟨v,h1,h2⟩)⟩
     obtain ⟨st,hst⟩:∃st,En.stats 1=st:=⟨_,rfl⟩
     have cst:=hide (entRefStats_any 1 w2)
     rw [hst] at cst
     have HST:=hide hst
     clear hst hC
     unfold En.cells at cst
     go_wp2_with fail
     refine (uh cst).mono ?_
     rintro e w3 ⟨rfl,hg⟩
     have hg3:=hide (gtr hg (World.grownBy_alloc w3 (.cells (En.cells st) 70) none))
     have hD:=hide (Lie.born w3 st 70)
     have hlow:=hide ((uh hT2).on hg).low
     have hT3:=hide ((uh hT2).on (uh hg3))
     clear hg hg3 cst hT2
     unfold En.cells at hD hT3
     go_upto_region 11 with fail
     obtain ⟨D,hDe⟩:∃D,w3.heap.size=D:=⟨_,rfl⟩
     rw [hDe] at hD hlow ⊢
     generalize w3.alloc (.cells #[.int .i64 (st 0),.int .i64 (st 1),.int .i64 (st 2),.int .i64 (st 3),.int .i64 (st 4),.int .i64 (st 5),.int .i64 (st 6),.int .i64 (st 7),.int .i64 (st 8),.int .i64 (st 9),.int .i64 (st 10)] 70)=wd at hD hT3 ⊢
     clear hDe w3
     have z2:=(uh hD).ent.2.2.1
     have zf:=(uh hD).free
     have hD2:=hide ((uh hD).upd 2 (t:Int))
     have hT4:=hide ((uh hT3).aside (D:=D) (o:=2) (uh hlow).1 (by have:=uh hlow;omega) (by have:=uh hlow;omega) (by have:=uh hlow;omega) (by have:=uh hlow;omega) (by have:=uh hlow;omega) (by have:=uh hlow;omega) (.int .i64 (t:Int)))
     clear hT3 hD
     go_upto_region 12 with fail
     generalize wd.setCell ⟨D,2,none⟩ (.int .i64 (t:Int))=we at hD2 hT4 ⊢
     clear z2 zf
     obtain ⟨p,hp⟩:∃p,En.upd st 2 (t:Int)=p:=⟨_,rfl⟩
     rw [hp] at hD2
     have hpq:Hid (∀q:Nat,En.upd (En.upd p 3 ((q:Int) % 24)) 4 ((q:Int) / 24)=Cr.one 1 (t:Int) q):=fun q=>by rw [←hp,←uh HST];rfl
     clear hp
     obtain ⟨b0,b1,b2,b3,b4,b5,b6,b7,b8,b9,b10⟩:=(uh hT4).hand.hold.box.eleven
     obtain ⟨z0,z1,z2,z3,z4,z5,z6,z7,z8,z9,z10⟩:=(uh hD2).ent
     have chr:=hide (refHero10_any s g c F I p gC jE gI cC dE cI we (uh hT4).hand.hold.lists (uh HF).2.2)
     unfold Gd.world En.cells at chr
     go_wp2_with fail
     refine (uh chr).mono ?_
     rintro e w5 ⟨⟨v',hv',hcase⟩,hg⟩
     have hT5:=hide ((uh hT4).on hg)
     have hD5:=hide ((uh hD2).on hg)
     have HV:=hide hv'
     clear hg chr b0 b1 b2 b3 b4 b5 b6 b7 b8 b9 b10 z0 z1 z2 z3 z4 z5 z6 z7 z8 z9 z10 hT4 hD2 hv'
     rcases hcase with ⟨hv0,rfl⟩ | ⟨q,hvq,rfl⟩
     ·have hC2:=hide (uh hcom v' F (uh HV) (.inl ⟨hv0,rfl⟩))
      obtain ⟨z0,z1,z2,z3,z4,z5,z6,z7,z8,z9,z10⟩:=(uh hD5).ent
      have zf:=(uh hD5).free
      have hT6:Hid (Cr.Turn v (((((((((((w5.setCell ⟨D,0,none⟩ (.int .i64 (p 0))).setCell ⟨D,1,none⟩ (.int .i64 (p 1))).setCell ⟨D,2,none⟩ (.int .i64 (p 2))).setCell ⟨D,3,none⟩ (.int .i64 (p 3))).setCell ⟨D,4,none⟩ (.int .i64 (p 4))).setCell ⟨D,5,none⟩ (.int .i64 (p 5))).setCell ⟨D,6,none⟩ (.int .i64 (p 6))).setCell ⟨D,7,none⟩ (.int .i64 (p 7))).setCell ⟨D,8,none⟩ (.int .i64 (p 8))).setCell ⟨D,9,none⟩ (.int .i64 (p 9))).setCell ⟨D,10,none⟩ (.int .i64 (p 10))) B A R gC jE gI cC dE cI how inp sp s g c F I):=(uh hT5).asides (D:=D) (uh hlow).1 (uh hlow).2 (En.cells p).toList
      clear hv0 hcom hT5 hD5
      unfold En.cells
      go_wp2
      go_roundw
      case rel=>exact ⟨t+1,jE,dE,F,by have:=uh HL;omega,by go_num,hC2,hT6,hk1⟩
      case measure=>simp [intOf];have:=uh HL;omega
     ·obtain ⟨o,ho⟩:∃o,Cr.one 1 (t:Int) q=o:=⟨_,rfl⟩
      have hC2:=hide (uh hcom v' (Cr.join F o) (uh HV) (.inr ⟨q,hvq,by rw [ho]⟩))
      rw [uh hpq q,ho]
      have HO1:Hid (1≤o 0∧o 0≤4):=by
       show _∧_
       rw [←ho,(Cr.one_at 1 (t:Int) q).1 (by omega) (by omega)]
       omega
      obtain ⟨z0,z1,z2,z3,z4,z5,z6,z7,z8,z9,z10⟩:=(uh hD5).ent
      have zf:=(uh hD5).free
      have hT6:Hid (Cr.Turn v (((((((((((w5.setCell ⟨D,0,none⟩ (.int .i64 (o 0))).setCell ⟨D,1,none⟩ (.int .i64 (o 1))).setCell ⟨D,2,none⟩ (.int .i64 (o 2))).setCell ⟨D,3,none⟩ (.int .i64 (o 3))).setCell ⟨D,4,none⟩ (.int .i64 (o 4))).setCell ⟨D,5,none⟩ (.int .i64 (o 5))).setCell ⟨D,6,none⟩ (.int .i64 (o 6))).setCell ⟨D,7,none⟩ (.int .i64 (o 7))).setCell ⟨D,8,none⟩ (.int .i64 (o 8))).setCell ⟨D,9,none⟩ (.int .i64 (o 9))).setCell ⟨D,10,none⟩ (.int .i64 (o 10))) B A R gC jE gI cC dE cI how inp sp s g c F I):=(uh hT5).asides (D:=D) (uh hlow).1 (uh hlow).2 (En.cells o).toList
      have hD6:Hid (Lie ((((((((((((w5.setCell ⟨D,0,none⟩ (.int .i64 (o 0))).setCell ⟨D,1,none⟩ (.int .i64 (o 1))).setCell ⟨D,2,none⟩ (.int .i64 (o 2))).setCell ⟨D,3,none⟩ (.int .i64 (o 3))).setCell ⟨D,4,none⟩ (.int .i64 (o 4))).setCell ⟨D,5,none⟩ (.int .i64 (o 5))).setCell ⟨D,6,none⟩ (.int .i64 (o 6))).setCell ⟨D,7,none⟩ (.int .i64 (o 7))).setCell ⟨D,8,none⟩ (.int .i64 (o 8))).setCell ⟨D,9,none⟩ (.int .i64 (o 9))).setCell ⟨D,10,none⟩ (.int .i64 (o 10)))) D 70 11 (Ints o)):=Lie.over11 (uh hD5) o
      clear hvq hcom hT5 hD5 ho
      unfold En.cells
      go_upto_region 14 with fail
      generalize (((((((((((w5.setCell ⟨D,0,none⟩ (.int .i64 (o 0))).setCell ⟨D,1,none⟩ (.int .i64 (o 1))).setCell ⟨D,2,none⟩ (.int .i64 (o 2))).setCell ⟨D,3,none⟩ (.int .i64 (o 3))).setCell ⟨D,4,none⟩ (.int .i64 (o 4))).setCell ⟨D,5,none⟩ (.int .i64 (o 5))).setCell ⟨D,6,none⟩ (.int .i64 (o 6))).setCell ⟨D,7,none⟩ (.int .i64 (o 7))).setCell ⟨D,8,none⟩ (.int .i64 (o 8))).setCell ⟨D,9,none⟩ (.int .i64 (o 9))).setCell ⟨D,10,none⟩ (.int .i64 (o 10)))=w6 at hT6 hD6 ⊢
      clear z0 z1 z2 z3 z4 z5 z6 z7 z8 z9 z10 zf
      obtain ⟨z0,z1,z2,z3,z4,z5,z6,z7,z8,z9,z10⟩:=(uh hD6).ent
      have b5:=(uh hT6).hand.hold.box.eleven.2.2.2.2.2.1
      have csp:=hide (refSpawned_any jE dE F o w6 (uh hT6).hand.hold.lists.own (uh hT6).hand.cap (uh hSF).good.gens (uh HO1))
      unfold En.cells at csp
      go_wp2_with fail
      refine (uh csp).mono ?_
      rintro e w7 ⟨jG,dG,rfl,hcap,hj,hown,hg⟩
      have hT7:Hid (Cr.Turn v (w7.setCell ⟨B,5,none⟩ (.slice (some ⟨jG,0,none⟩) 32 dG)) B A R gC jG gI cC dG cI how inp sp s g c (Cr.join F o) I):=(uh hT6).folk hcap hj hown hg
      have hk7:Hid (B<k∧A<k∧R<k∧v.heap.size≤k∧k≤jG∧k≤gI):=by
       have k:=uh hk1
       have q:=(uh hT6).low
       show _∧_∧_∧_∧_∧_
       omega
      have b5':=((uh hT6).on hg).hand.hold.box.eleven.2.2.2.2.2.1
      have fB:=((uh hT6).on hg).hand.hold.box.free
      clear hcap hj hown hg csp b5 z0 z1 z2 z3 z4 z5 z6 z7 z8 z9 z10 hT6 hD6
      go_wp2
      go_roundw
      case rel=>exact ⟨t+1,jG,dG,Cr.join F o,by have:=uh HL;omega,by go_num,hC2,hT7,hk7⟩
      case measure=>simp [intOf];have:=uh HL;omega
    ·have H0:=hide h0
     have hC2:Hid (Cr.ComesTo c sp (t+1) E F):=⟨F,uh hC,(show Cr.Comes c (t:Int) (sp t) F F by unfold Cr.Comes;rw [if_neg (fun h=>by have h2:=h.2;rw [uh HZ] at h2;exact uh H0 h2)])⟩
     clear hC
     go_wp2
     go_roundw
     case rel=>exact ⟨t+1,jE,dE,F,by have:=uh HL;omega,by go_num,hC2,hT2,hk1⟩
     case measure=>simp [intOf];have:=uh HL;omega
  ·obtain rfl:t=4:=by omega
   have hge:¬((4:Nat):Int)<4:=by omega
   clear hlt ht
   have hQ2:Hid (∀b:Bool,b=(m1 || Cr.manned F)→∀m F' J T e y,Cr.MovedTo s c how inp 4 ⟨g,F,I,false⟩ m→Cr.ProwlTo s c 32 m.E m.I F' J→Cr.Ends s m.g c (Cr.rats s c (Ft.ailE F' J 32).1) (Ft.ailE F' J 32).2 b m.left T→Gd.Worlds v T.s T.g T.c T.E T.I e y→Q e y):=fun b hb m F' J T e y h1 h2 h3 h4=>uh hQ' F m F' J T e y (uh hC) h1 h2 (by rw [uh HM1,←hb];exact h3) h4
   clear hQ'
   go_wp2_with fail
   refine uh hK0 _ _ ?_
   go_upto_region 15 with fail
   rename_i K3 h3
   have hK3:=hide h3
   clear h3
   cases m1
   ·obtain ⟨b0,b1,b2,b3,b4,b5,b6,b7,b8,b9,b10⟩:=(uh hT1).hand.hold.box.eleven
    have cm:=hide (refSome_any s g c F I gC jE gI cC dE cI wr (uh hT1).hand.hold.lists)
    obtain ⟨m2,hm2⟩:∃b,Cr.manned F=b:=⟨_,rfl⟩
    rw [hm2] at cm hQ2
    clear hm2
    unfold Gd.world at cm
    go_wp2_with fail
    refine (uh cm).mono ?_
    rintro e w8 ⟨rfl,hg⟩
    have hT8:=hide ((uh hT1).on hg)
    clear hg cm b0 b1 b2 b3 b4 b5 b6 b7 b8 b9 b10 hT1
    go_wp2_with fail
    exact uh hK3 _ _ (turn_seats (uh hT8) (uh hk1) (uh hSF) (uh hS').2 (uh HF).2.2 (uh HF).1 (uh HF).2.1 m2 Q (uh hQ2 m2 (by simp)))
   ·go_wp2_with fail
    exact uh hK3 _ _ (turn_seats (uh hT1) (uh hk1) (uh hSF) (uh hS').2 (uh HF).2.2 (uh HF).1 (uh HF).2.1 true Q (uh hQ2 true (by simp)))


open Go.RowKit

theorem Cr.turn_new {v x x':World} {B A R gC gE gI cC cE cI jC jE jI dC dE dI:Nat} {how inp:Nat→Int} {sp:Nat→Bool} {s g c:Nat→Int} {E I:Nat→Nat→Int} (hB:Lie x B 30 11 (Gd.box s gC gE gI cC cE cI g)) (hA:Lie x A 63 12 (Cr.actF how inp sp)) (hR:Lie x R 30 11 (fun j=>#[.int .i64 0,.int .i64 0,.int .i64 0,.int .i64 0,.slice none 0 0,.slice none 0 0,.slice none 0 0,.int .i64 0,.int .i64 0,.int .i64 0,Value.int .i64 0][j]?.getD undef)) (bR:B≠R) (lB:v.heap.size≤B) (lR:v.heap.size≤R) (hvx:v.grownBy x none) (hcap:32≤dE) (l1:x.heap.size≤jC) (l2:x.heap.size≤jE) (l3:x.heap.size≤jI) (n1:jC≠jE) (n2:jC≠jI) (n3:jE≠jI) (hL:Gd.Lists x' jC jE jI c E I) (hg:x.grownBy x' none) :
  Cr.Turn v (x'.setCells B 0 (Gd.world s jC jE jI dC dE dI g).toList) B A R jC jE jI dC dE dI how inp sp s g c E I:=by
 have q1:=(hB.on hg).type_ne hL.cells (by decide)
 have q2:=(hB.on hg).type_ne hL.ents (by decide)
 have q3:=(hB.on hg).type_ne hL.items (by decide)
 have k:=hvx.size
 exact ⟨⟨⟨(hB.on hg).whole s g jC jE jI dC dE dI,⟨hL.cells.others q1 _ _,hL.ents.others q2 _ _,hL.items.others q3 _ _⟩,q1,q2,q3,n1,n2,n3⟩,lB,hcap,own_sets lB _ 0 x' (gtr hvx hg)⟩,(hA.on hg).others (hB.type_ne hA (by decide)) _ _,(hR.on hg).others bR _ _,bR,lR,by omega,by omega,by omega⟩

set_option maxRecDepth 16000 in
set_option maxHeartbeats 6400000 in
theorem refStep_any (s g c:Nat→Int) (E I:Nat→Nat→Int) (gC gE gI cC cE cI:Nat) (how inp:Nat→Int) (sp:Nat→Bool) (w:World) (hL:Gd.Lists w gC gE gI c E I) (hG:Cr.Good ⟨s,g,c,E,I⟩) (h1:-9223372036854775808≤s 1) (h2:s 1<9223372036854775807) :
  Calls Tryz.prog 24 #[.agg (Gd.world s gC gE gI cC cE cI g),.agg #[.int .i64 (how 0),.int .i64 (inp 0),.bool (sp 0),.int .i64 (how 1),.int .i64 (inp 1),.bool (sp 1),.int .i64 (how 2),.int .i64 (inp 2),.bool (sp 2),.int .i64 (how 3),.int .i64 (inp 3),.bool (sp 3)]] w fun e w'=>∃T,Cr.IsStep how inp sp ⟨s,g,c,E,I⟩ T∧Gd.Worlds w T.s T.g T.c T.E T.I e w':=by
 obtain ⟨wa,hwa⟩:∃wa,wa=w.alloc (.cells (Gd.world s gC gE gI cC cE cI g) 30):=⟨_,rfl⟩
 obtain ⟨wb,hwb⟩:∃wb,wb=wa.alloc (.cells #[.int .i64 (how 0),.int .i64 (inp 0),.bool (sp 0),.int .i64 (how 1),.int .i64 (inp 1),.bool (sp 1),.int .i64 (how 2),.int .i64 (inp 2),.bool (sp 2),.int .i64 (how 3),.int .i64 (inp 3),.bool (sp 3)] 63):=⟨_,rfl⟩
 obtain ⟨w0,hw0⟩:∃w0,w0=wb.alloc (.cells #[.int .i64 0,.int .i64 0,.int .i64 0,.int .i64 0,.slice none 0 0,.slice none 0 0,.slice none 0 0,.int .i64 0,.int .i64 0,.int .i64 0,.int .i64 0] 30):=⟨_,rfl⟩
 have ga:w.grownBy wa none:=by rw [hwa];exact World.grownBy_alloc _ _ _
 have gb:wa.grownBy wb none:=by rw [hwb];exact World.grownBy_alloc _ _ _
 have g0:wb.grownBy w0 none:=by rw [hw0];exact World.grownBy_alloc _ _ _
 have sa:wa.heap.size=w.heap.size+1:=by rw [hwa];simp
 have sb:wb.heap.size=w.heap.size+1+1:=by rw [hwb,←sa];simp
 have s0:w0.heap.size=w.heap.size+3:=by rw [hw0,show w.heap.size+3=w.heap.size+1+1+1 from rfl,←sb];simp
 have hB:Hid (Lie w0 w.heap.size 30 11 (Gd.box s gC gE gI cC cE cI g)):=by
  have h:Lie wa w.heap.size 30 11 (Gd.box s gC gE gI cC cE cI g):=by rw [hwa];exact (Arr.world (heap_alloc_new w _)).lie
  exact (h.on gb).on g0
 have hA:Hid (Lie w0 (w.heap.size+1) 63 12 (Cr.actF how inp sp)):=by
  have h:Lie wb wa.heap.size 63 12 (Cr.actF how inp sp):=by rw [hwb];exact Cr.acts_lie (h:=how) (i:=inp) (b:=sp) (heap_alloc_new wa _)
  rw [sa] at h
  exact h.on g0
 have hR:Hid (Lie w0 (w.heap.size+1+1) 30 11 (fun j=>#[.int .i64 0,.int .i64 0,.int .i64 0,.int .i64 0,.slice none 0 0,.slice none 0 0,.slice none 0 0,.int .i64 0,.int .i64 0,.int .i64 0,Value.int .i64 0][j]?.getD undef)):=by
  have h:Lie w0 wb.heap.size 30 11 (fun j=>#[.int .i64 0,.int .i64 0,.int .i64 0,.int .i64 0,.slice none 0 0,.slice none 0 0,.slice none 0 0,.int .i64 0,.int .i64 0,.int .i64 0,Value.int .i64 0][j]?.getD undef):=by rw [hw0];exact (Arr.lit (heap_alloc_new wb _)).lie
  rw [sb] at h
  exact h
 have hgr:=hide (gtr ga (gtr gb g0))
 have ct:=hide (refTwin_any s g c E I gC gE gI cC cE cI w0 (hL.on (uh hgr)))
 have hG':=hide hG
 have S0:=hide s0
 have t1:IntKind.i64.wrap (s 1+1)=s 1+1:=by rw [IntKind.wrap_i64];omega
 rw [hwa] at hwb
 rw [hwb] at hw0
 clear hL hG h1 h2 ga gb g0 sa sb s0 hwa hwb
 unfold Gd.world at hw0 ct ⊢
 go_enter Tryz.func24,Tryz.ntmps24
 go_upto_region 1 with fail
 rw [←hw0]
 clear hw0
 obtain ⟨B,hBe⟩:∃B,w.heap.size=B:=⟨_,rfl⟩
 obtain ⟨A,hAe⟩:∃A,w.heap.size+1=A:=⟨_,rfl⟩
 obtain ⟨R,hRe⟩:∃R,w.heap.size+1+1=R:=⟨_,rfl⟩
 have HS:Hid (w.heap.size=B∧w.heap.size+1=A∧w.heap.size+1+1=R):=⟨hBe,hAe,hRe⟩
 rw [hRe] at hR ⊢
 rw [hAe] at hA ⊢
 rw [hBe] at hB ⊢
 clear hBe hAe hRe
 obtain ⟨b0,b1,b2,b3,b4,b5,b6,b7,b8,b9,b10⟩:=(uh hB).eleven
 go_wp2_with fail
 refine (uh ct).mono ?_
 rintro e w1 ⟨jC,jE,jI,dC,dE,dI,rfl,hcap,l1,l2,l3,n1,n2,n3,hL,hg⟩
 have hT1:Hid (Cr.Turn w (((((((((((w1.setCell ⟨B,0,none⟩ (.int .i64 (s 0))).setCell ⟨B,1,none⟩ (.int .i64 (s 1))).setCell ⟨B,2,none⟩ (.int .i64 (s 2))).setCell ⟨B,3,none⟩ (.int .i64 (s 3))).setCell ⟨B,4,none⟩ (.slice (some ⟨jC,0,none⟩) 384 dC)).setCell ⟨B,5,none⟩ (.slice (some ⟨jE,0,none⟩) 32 dE)).setCell ⟨B,6,none⟩ (.slice (some ⟨jI,0,none⟩) 40 dI)).setCell ⟨B,7,none⟩ (.int .i64 (g 0))).setCell ⟨B,8,none⟩ (.int .i64 (g 1))).setCell ⟨B,9,none⟩ (.int .i64 (g 2))).setCell ⟨B,10,none⟩ (.int .i64 (g 3))) B A R jC jE jI dC dE dI how inp sp s g c E I):=Cr.turn_new (uh hB) (uh hA) (uh hR) (by have:=uh HS;omega) (by have:=uh HS;omega) (by have:=uh HS;omega) (uh hgr) hcap l1 l2 l3 n1 n2 n3 hL hg
 have hk1:Hid (B<w.heap.size+3∧A<w.heap.size+3∧R<w.heap.size+3∧w.heap.size≤w.heap.size+3∧w.heap.size+3≤jE∧w.heap.size+3≤jI):=by
  have a:=uh HS
  have b:=uh S0
  show _∧_∧_∧_∧_∧_
  omega
 have hb1:=hide ((uh hB).on hg)
 clear hcap l1 l2 l3 n1 n2 n3 hL hg ct b0 b1 b2 b3 b4 b5 b6 b7 b8 b9 b10 hB hA hR hgr HS S0
 obtain ⟨b0,b1,b2,b3,b4,b5,b6,b7,b8,b9,b10⟩:=(uh hb1).eleven
 have fB:=(uh hb1).free
 clear hb1
 unfold Gd.world
 go_upto_region 2 with fail
 generalize (((((((((((w1.setCell ⟨B,0,none⟩ (.int .i64 (s 0))).setCell ⟨B,1,none⟩ (.int .i64 (s 1))).setCell ⟨B,2,none⟩ (.int .i64 (s 2))).setCell ⟨B,3,none⟩ (.int .i64 (s 3))).setCell ⟨B,4,none⟩ (.slice (some ⟨jC,0,none⟩) 384 dC)).setCell ⟨B,5,none⟩ (.slice (some ⟨jE,0,none⟩) 32 dE)).setCell ⟨B,6,none⟩ (.slice (some ⟨jI,0,none⟩) 40 dI)).setCell ⟨B,7,none⟩ (.int .i64 (g 0))).setCell ⟨B,8,none⟩ (.int .i64 (g 1))).setCell ⟨B,9,none⟩ (.int .i64 (g 2))).setCell ⟨B,10,none⟩ (.int .i64 (g 3)))=w2 at hT1 ⊢
 clear b0 b1 b2 b3 b4 b5 b6 b7 b8 b9 b10 fB w1 w0
 have b1:=(uh hT1).hand.hold.box.eleven.2.1
 have fB:=(uh hT1).hand.hold.box.free
 have hT2:=hide ((uh hT1).num 1 (by omega) (s 1+1))
 clear hT1
 go_upto_region 3 with fail
 generalize w2.setCell ⟨B,1,none⟩ (.int .i64 (s 1+1))=w3 at hT2 ⊢
 clear b1 fB w2
 rename_i K1 h1 K2 h2
 have hK0:=hide h1
 clear h1
 obtain ⟨b0,b1,b2,b3,b4,b5,b6,b7,b8,b9,b10⟩:=(uh hT2).hand.hold.box.eleven
 have e3:(Cr.num s 1 (s 1+1)) 3=s 3:=if_neg (by omega)
 have e2:(Cr.num s 1 (s 1+1)) 2=s 2:=if_neg (by omega)
 rw [e3] at b3
 by_cases h0:s 3=0
 ·rw [h0] at b3
  have H0:=hide h0
  have hQ:Hid (∀U m F J T e y,Cr.ComesTo c sp 4 E U→Cr.MovedTo (Cr.num s 1 (s 1+1)) c how inp 4 ⟨g,U,I,false⟩ m→Cr.ProwlTo (Cr.num s 1 (s 1+1)) c 32 m.E m.I F J→Cr.Ends (Cr.num s 1 (s 1+1)) m.g c (Cr.rats (Cr.num s 1 (s 1+1)) c (Ft.ailE F J 32).1) (Ft.ailE F J 32).2 (Cr.manned E || Cr.manned U) m.left T→Gd.Worlds w T.s T.g T.c T.E T.I e y→∃T,Cr.IsStep how inp sp ⟨s,g,c,E,I⟩ T∧Gd.Worlds w T.s T.g T.c T.E T.I e y):=fun U m F J T e y h1 h2 h3 h4 h5=>⟨T,by unfold Cr.IsStep;rw [if_neg (fun h=>h (uh H0))];exact ⟨U,m,F,J,h1,h2,h3,h4⟩,h5⟩
  have f1:=(uh hG').f1
  have f3:=(uh hG').f3
  have F13:Hid (1≤(Cr.num s 1 (s 1+1)) 2∧(Cr.num s 1 (s 1+1)) 2≤3):=by
   rw [e2]
   exact ⟨f1,f3⟩
  clear h0 f1 f3 e2 e3
  go_wp2_with fail
  exact uh hK0 _ _ (turn_come (uh hT2) (uh hk1) (uh hG').sane (uh hG').gold (uh hG').floor (uh F13).1 (uh F13).2 _ (uh hQ))
 ·have h0':(s 3 != 0)=true:=by simp [h0]
  have hst:Hid (Cr.IsStep how inp sp ⟨s,g,c,E,I⟩ ⟨(Cr.num s 1 (s 1+1)),g,c,E,I⟩):=by
   show Cr.IsStep _ _ _ _ _
   unfold Cr.IsStep
   rw [if_pos h0]
  have b3':=(uh hT2).hand.hold.box.eleven.2.2.2.1
  rw [e3] at b3'
  obtain ⟨z0,z1,z2,z3,z4,z5,z6,z7,z8,z9,z10⟩:=Gd.res_cells (uh hT2).res
  have fz:=(uh hT2).res.free
  have hfo:Hid (∀l,∃T,Cr.IsStep how inp sp ⟨s,g,c,E,I⟩ T∧Gd.Worlds w T.s T.g T.c T.E T.I (.returned (.agg (Gd.world (Cr.num s 1 (s 1+1)) jC jE jI dC dE dI g))) (w3.setCells R 0 l)):=fun l=>⟨_,uh hst,(uh hT2).worlds l⟩
  clear hst hT2 e2 h0 hK0
  obtain ⟨q,hq⟩:∃q,(Cr.num s 1 (s 1+1))=q:=⟨_,rfl⟩
  rw [hq] at hfo e3 b0 b1 b2
  rw [←e3] at b3 b3' h0'
  clear hq e3
  go_wp2
  refine bodyPost_ret (v:=.agg (Gd.world q jC jE jI dC dE dI g)) (by simp [results,Tryz.results24,go_sem,Gd.world,z0,z1,z2,z3,z4,z5,z6,z7,z8,z9,z10]) rfl ?_
  exact uh hfo [_,_,_,_,_,_,_,_,_,_,_]

end Go.Proofs.YtldgbkjceildfaaGreat

namespace Go.Proofs.YtldgbkjceildfaaGreat
open Go.RowKit Go.ChangeShapes Go.WideShapes

theorem Cr.wf_bound {n:Int} (h:(Lit.int .i64 n).wf=true):-9223372036854775808≤n∧n≤9223372036854775807:=by
 simp only [Lit.wf,Bool.and_eq_true,decide_eq_true_eq,show IntKind.i64.min=-9223372036854775808 from by decide,show IntKind.i64.max=9223372036854775807 from by decide] at h
 exact h

theorem open_row {H:Type} {enc:TypeId × Value→H} {w:World} {base:Nat} {sp:Nat→Bool} {held:Bool} {fuel:Nat} {a:Option Addr} {len cap:Nat} {x:DataW H × List MemPlace} (h:DataW.trod enc Tryz.prog w base sp held fuel 23 [.slice a len cap]=some x):∃z,len≤maxLen∧Cr.Nums w a len z:=by
 rcases Go.Deep.open_slice Tryz.underlying23 h with ⟨hcs,_⟩ | ⟨a',len',cap',m,n,D,Pl,hcs,_,hl,hm,hmm,_,hx⟩
 ·simp only [List.cons.injEq,Value.slice.injEq,and_true] at hcs
  obtain ⟨rfl,rfl,rfl⟩:=hcs
  exact ⟨fun _=>0,Nat.zero_le _,fun i hi=>absurd hi (Nat.not_lt_zero i)⟩
 ·simp only [List.cons.injEq,Value.slice.injEq,and_true] at hcs
  obtain ⟨rfl,rfl,rfl⟩:=hcs
  have hc1:Tryz.prog.cellsOf 3=1:=by kernel_rfl
  rw [hc1] at hx
  have hlm:len≤m:=by rw [hmm];split <;> omega
  obtain ⟨z,hz⟩:∃z:Nat→Int,∀i,i<len→w.cell? (a'.add (i*1))=some (.int .i64 (z i))∧(Lit.int .i64 (z i)).wf=true:=by
   refine Go.Deep.choose_lt (α:=Int) (p:=fun i e=>w.cell? (a'.add (i*1))=some (.int .i64 e)∧(Lit.int .i64 e).wf=true) fun i hi=>?_
   obtain ⟨cs',h1,h2⟩:=hx i (by omega)
   obtain ⟨_,hlen,hcell⟩:=World.cells?_some h1
   obtain ⟨e,rfl,_,hw⟩:=DataW.trod_int Tryz.underlying3 h2
   have h0:=hcell 0 (by omega)
   exact ⟨e,by simpa [Addr.add] using h0,hw⟩
  refine ⟨z,Nat.le_trans hl hm,fun i hi=>?_⟩
  obtain ⟨b,off,spot⟩:=a'
  have hc0:=(hz i hi).1
  have hspot:spot=none:=by simpa [Addr.add] using World.cell?_spot (hz 0 (by omega)).1
  subst hspot
  rw [add_plain,Nat.mul_one] at hc0
  have hb:=Go.block_lt_of_cell hc0
  exact ⟨b,off,rfl,hb,hc0,Cr.wf_bound (hz i hi).2⟩

def Cr.Came (w:World) (a:Option Addr) (len:Nat) (V:Nat→Option Addr × Nat × Nat) (z:Nat→Nat→Int):Prop :=
 len≤maxLen∧∀i,i<len→∃b o,a=some ⟨b,o,none⟩∧b<w.heap.size∧w.cell? ⟨b,o+i,none⟩=some (.slice (V i).1 (V i).2.1 (V i).2.2)∧(V i).2.1≤maxLen∧Cr.Nums w (V i).1 (V i).2.1 (z i)

theorem Cr.Came.on {w w':World} {a:Option Addr} {len:Nat} {V:Nat→Option Addr × Nat × Nat} {z:Nat→Nat→Int} (h:Cr.Came w a len V z) (hg:w.grownBy w' none):Cr.Came w' a len V z :=
 ⟨h.1,fun i hi=>by
  obtain ⟨b,o,ha,hb,hc,hn,hz⟩:=h.2 i hi
  exact ⟨b,o,ha,Nat.lt_of_lt_of_le hb hg.size,(gce hg b _ hb (by simp)).trans hc,hn,hz.on hg⟩⟩

theorem open_rows {H:Type} {enc:TypeId × Value→H} {w:World} {base:Nat} {sp:Nat→Bool} {held:Bool} {fuel:Nat} {a:Option Addr} {len cap:Nat} {x:DataW H × List MemPlace} (h:DataW.trod enc Tryz.prog w base sp held fuel 22 [.slice a len cap]=some x):∃V z,Cr.Came w a len V z:=by
 rcases Go.Deep.open_slice Tryz.underlying22 h with ⟨hcs,_⟩ | ⟨a',len',cap',m,n,D,Pl,hcs,_,hl,hm,hmm,_,hx⟩
 ·simp only [List.cons.injEq,Value.slice.injEq,and_true] at hcs
  obtain ⟨rfl,rfl,rfl⟩:=hcs
  exact ⟨fun _=>(none,0,0),fun _ _=>0,Nat.zero_le _,fun i hi=>absurd hi (Nat.not_lt_zero i)⟩
 ·simp only [List.cons.injEq,Value.slice.injEq,and_true] at hcs
  obtain ⟨rfl,rfl,rfl⟩:=hcs
  have hc1:Tryz.prog.cellsOf 23=1:=by kernel_rfl
  rw [hc1] at hx
  have hlm:len≤m:=by rw [hmm];split <;> omega
  obtain ⟨q,hq⟩:∃q:Nat→(Option Addr × Nat × Nat) × (Nat→Int),∀i,i<len→w.cell? (a'.add (i*1))=some (.slice (q i).1.1 (q i).1.2.1 (q i).1.2.2)∧(q i).1.2.1≤maxLen∧Cr.Nums w (q i).1.1 (q i).1.2.1 (q i).2:=by
   refine Go.Deep.choose_lt (α:=(Option Addr × Nat × Nat) × (Nat→Int)) (p:=fun i e=>w.cell? (a'.add (i*1))=some (.slice e.1.1 e.1.2.1 e.1.2.2)∧e.1.2.1≤maxLen∧Cr.Nums w e.1.1 e.1.2.1 e.2) fun i hi=>?_
   obtain ⟨cs',h1,h2⟩:=hx i (by omega)
   obtain ⟨_,hlen,hcell⟩:=World.cells?_some h1
   have h0:=hcell 0 (by omega)
   obtain ⟨r,l,k,rfl⟩:∃r l k,cs'=[.slice r l k]:=by
    rcases Go.Deep.open_slice Tryz.underlying23 h2 with ⟨hcs,_⟩ | ⟨a2,len2,cap2,_,_,_,_,hcs,_⟩
    ·exact ⟨none,0,0,hcs⟩
    ·exact ⟨some a2,len2,cap2,hcs⟩
   obtain ⟨z,hz1,hz2⟩:=open_row h2
   exact ⟨((r,l,k),z),by simpa [Addr.add] using h0,hz1,hz2⟩
  refine ⟨fun i=>(q i).1,fun i=>(q i).2,Nat.le_trans hl hm,fun i hi=>?_⟩
  obtain ⟨b,off,spot⟩:=a'
  have hc0:=(hq i hi).1
  have hspot:spot=none:=by simpa [Addr.add] using World.cell?_spot (hq 0 (by omega)).1
  subst hspot
  rw [add_plain,Nat.mul_one] at hc0
  exact ⟨b,off,rfl,Go.block_lt_of_cell hc0,hc0,(hq i hi).2.1,(hq i hi).2.2⟩

end Go.Proofs.YtldgbkjceildfaaGreat
