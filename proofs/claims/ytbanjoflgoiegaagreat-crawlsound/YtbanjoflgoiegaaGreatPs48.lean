import Derived.Test.YtbanjoflgoiegaaGreatPs39
import Derived.Test.YtbanjoflgoiegaaGreatPs46
namespace Go.Proofs.YtbanjoflgoiegaaGreat
open Go.RowKit

def Cr.HuntTo (v:World) (P:Nat) (how inp:Nat→Int) (sp:Nat→Bool) (met left:Bool) (s g c:Nat→Int) (E I:Nat→Nat→Int) (e:Ending) (x:World):Prop :=
 ∃F J,Cr.ProwlTo s c 32 E I F J∧Cr.Goes v P how inp sp met left s g c F J e x

set_option maxRecDepth 8000 in
set_option maxHeartbeats 6400000 in
theorem cHunt_any (v x:World) (P gC gE gI cC cE cI:Nat) (how inp:Nat→Int) (sp:Nat→Bool) (met left:Bool) (s g c:Nat→Int) (E I:Nat→Nat→Int) (h:Cr.Frm v x P gC gE gI cC cE cI how inp sp met left s g c E I) (hS:Cr.Sane c E I) :
  Calls Tryz.prog 31 #[.pointer (some ⟨P,0,none⟩)] x (Cr.HuntTo v P how inp sp met left s g c E I):=by
 have hF:=hide h
 have hsn:Hid (∀i F J,i≤32→Cr.ProwlTo s c i E I F J→Cr.Sane c F J):=fun i F J hi hp=>hS.prowlTo hi hp
 have b5:=h.eleven.2.2.2.2.2.1
 clear h hS
 go_enter Tryz.func31,Tryz.ntmps31
 go_wp2_with fail
 go_loopw [10] (fun v10 wr=>∃(i g1 g2 g3 c1 c2 c3:Nat) (F J:Nat→Nat→Int),i≤32∧v10=.int .i64 (i:Int)∧Hid (Cr.ProwlTo s c i E I F J)∧Hid (Cr.Frm v wr P g1 g2 g3 c1 c2 c3 how inp sp met left s g c F J)) (fun v10 _=>40 - (intOf v10).toNat)
 case atStart=>exact ⟨0,gC,gE,gI,cC,cE,cI,E,I,by omega,rfl,⟨rfl,rfl⟩,hF⟩
 case round =>
  clear hF b5
  obtain ⟨i,g1,g2,g3,c1,c2,c3,F,J,hi,rfl,hp,hF⟩:=hrel
  by_cases hlt:i<32
  ·have hlt':(i:Int)<32:=by omega
   have HL:=hide hlt
   have hs:=hide (uh hsn i F J hi (uh hp))
   obtain ⟨w0,hw0⟩:∃w0,w0=wr.alloc (.cells (En.cells (F i)) 54):=⟨_,rfl⟩
   have hg0:wr.grownBy w0 none:=by rw [hw0];exact World.grownBy_alloc _ _ _
   have hQ:Hid (Lie w0 wr.heap.size 54 11 (Ints (F i))):=by rw [hw0];exact Lie.copied _ _ _
   have hF0:=hide ((uh hF).on hg0)
   have b5:=(uh hF).eleven.2.2.2.2.2.1
   obtain ⟨r0,r1,r2,r3,r4,r5,r6,r7,r8,r9,r10⟩:=(uh hF).lists.own.ents.row hlt
   have cm:=hide (cIsMonster_any (F i) w0)
   have hskip:Hid ((F i 0=0∨F i 0=1∨0<F i 10)→Cr.ProwlTo s c (i+1) E I F J):=fun h1=>⟨F,J,uh hp,(show Cr.Prowls s c i F J F J by unfold Cr.Prowls;rw [if_pos h1];exact ⟨rfl,rfl⟩)⟩
   have hgo:Hid (∀u,¬(F i 0=0∨F i 0=1∨0<F i 10)→Md.IsMonster s c F (i:Int) u→Cr.ProwlTo s c (i+1) E I (Cr.act s c F J i u true).1 (Cr.act s c F J i u true).2):=fun u h1 h2=>⟨F,J,uh hp,(show Cr.Prowls s c i F J _ _ by unfold Cr.Prowls;rw [if_neg h1];exact ⟨u,h2,rfl,rfl⟩)⟩
   obtain ⟨bm,hbm⟩:∃b,decide (F i 0≠0∧F i 0≠1)=b:=⟨_,rfl⟩
   rw [hbm] at cm
   have hbm':=hide hbm
   unfold En.cells at hw0 cm
   clear hlt hi hg0 hF hbm
   go_upto_region 4 with fail
   rw [←hw0]
   clear hw0 b5 r0 r1 r2 r3 r4 r5 r6 r7 r8 r9 r10
   obtain ⟨Q,hQe⟩:∃Q,wr.heap.size=Q:=⟨_,rfl⟩
   rw [hQe] at hQ ⊢
   clear hQe
   obtain ⟨q0,q1,q2,q3,q4,q5,q6,q7,q8,q9,q10⟩:=(uh hQ).ent
   go_wp2_with fail
   refine (uh cm).mono ?_
   rintro e w1 ⟨rfl,hg1⟩
   have hF1:=hide ((uh hF0).on hg1)
   have hQ1:=hide ((uh hQ).on hg1)
   clear hg1 cm q0 q1 q2 q3 q4 q5 q6 q7 q8 q9 q10 hF0 hQ
   cases bm
   ·have hn':=hide (uh hskip (by
     have h:=of_decide_eq_false (uh hbm')
     by_cases a:F i 0=0
     ·exact .inl a
     ·by_cases b:F i 0=1
      ·exact .inr (.inl b)
      ·exact absurd ⟨a,b⟩ h))
    clear hskip hgo
    go_wp2
    go_roundw
    case rel=>exact ⟨i+1,g1,g2,g3,c1,c2,c3,F,J,by have:=uh HL;omega,by go_num,hn',hF1⟩
    case measure=>simp [intOf];have:=uh HL;omega
   ·have hm:=hide (of_decide_eq_true (uh hbm'))
    have cs:=hide (cIsStunned_any (F i) w1)
    obtain ⟨b,hb⟩:∃b,decide (0<F i 10)=b:=⟨_,rfl⟩
    rw [hb] at cs
    have hb':=hide hb
    unfold En.cells at cs
    clear hb
    obtain ⟨q0,q1,q2,q3,q4,q5,q6,q7,q8,q9,q10⟩:=(uh hQ1).ent
    go_wp2_with fail
    refine (uh cs).mono ?_
    rintro e w2 ⟨rfl,hg2⟩
    have hF2:=hide ((uh hF1).on hg2)
    clear hg2 cs q0 q1 q2 q3 q4 q5 q6 q7 q8 q9 q10 hF1 hQ1
    cases b
    ·have hng:Hid (¬(F i 0=0∨F i 0=1∨0<F i 10)):=(show ¬(F i 0=0∨F i 0=1∨0<F i 10) by
      have h1:=uh hm
      have h2:=of_decide_eq_false (uh hb')
      omega)
     obtain ⟨b0,b1,b2,b3,b4,b5,b6,b7,b8,b9,b10⟩:=(uh hF2).eleven
     have cmo:=hide (mindsMonster_any s g c F J g1 g2 g3 c1 c2 c3 (i:Int) w2 (uh hF2).lists (uh hs).fit.cells (uh hF2).cap.1 (uh hs).good)
     unfold Gd.world at cmo
     clear hskip
     go_wp2_with fail
     refine (uh cmo).mono ?_
     rintro e w3 ⟨u,hu,rfl,hg3⟩
     have hn':=hide (uh hgo u (uh hng) hu)
     have cw:=cWalk_any v w3 P g1 g2 g3 c1 c2 c3 how inp sp met left s g c F J i u ((uh hF2).on hg3) (uh hs) (uh HL) (uh hm).1
     rw [show decide (F i 0≠1)=true from decide_eq_true (uh hm).2] at cw
     have cw':=hide cw
     clear hu hg3 cmo b0 b1 b2 b3 b4 b5 b6 b7 b8 b9 b10 hF2 hgo cw
     go_wp2_with fail
     refine (uh cw').mono ?_
     rintro e w4 ⟨rfl,j1,j2,j3,d1,d2,d3,hF3⟩
     have hF3':=hide hF3
     clear hF3 cw'
     go_wp2
     go_roundw
     case rel=>exact ⟨i+1,j1,j2,j3,d1,d2,d3,_,_,by have:=uh HL;omega,by go_num,hn',hF3'⟩
     case measure=>simp [intOf];have:=uh HL;omega
    ·have hn':=hide (uh hskip (.inr (.inr (of_decide_eq_true (uh hb')))))
     clear hskip hgo
     go_wp2
     go_roundw
     case rel=>exact ⟨i+1,g1,g2,g3,c1,c2,c3,F,J,by have:=uh HL;omega,by go_num,hn',hF2⟩
     case measure=>simp [intOf];have:=uh HL;omega
  ·obtain rfl:i=32:=by omega
   have hge:¬((32:Nat):Int)<32:=by omega
   clear hlt hi
   go_wp2
   go_end0
   exact ⟨F,J,uh hp,rfl,g1,g2,g3,c1,c2,c3,uh hF⟩

end Go.Proofs.YtbanjoflgoiegaaGreat
