import Derived.Test.YtbanjoflgoiegabGreatPf46
import Derived.Test.YtbanjoflgoiegabGreatPf41
import Derived.Test.YtbanjoflgoiegabGreatPf43
namespace Go.Proofs.YtbanjoflgoiegabGreat
open Go.RowKit

theorem Cr.run_act (how inp:Nat→Int) (sp:Nat→Bool) {t:Nat} (ht:t<4) (w:World):(Instr.index 35 (.agg #[.int .i64 (how 0),.int .i64 (inp 0),.bool (sp 0),.int .i64 (how 1),.int .i64 (inp 1),.bool (sp 1),.int .i64 (how 2),.int .i64 (inp 2),.bool (sp 2),.int .i64 (how 3),.int .i64 (inp 3),.bool (sp 3)]) (.int .i64 (t:Int))).run Tryz.prog w=.ok (.agg #[.int .i64 (how t),.int .i64 (inp t),.bool (sp t)]) w:=by
 rcases (show t=0∨t=1∨t=2∨t=3 by omega) with rfl | rfl | rfl | rfl <;> simp [Instr.index,run_underlying Tryz.underlying35,asIntOf,go_sem]

def Cr.ComeTo (v:World) (P:Nat) (how inp:Nat→Int) (sp:Nat→Bool) (left:Bool) (s g c:Nat→Int) (E I:Nat→Nat→Int) (e:Ending) (x:World):Prop :=
 ∃A,Cr.ComesTo c sp 4 E A∧Cr.Goes v P how inp sp (Cr.manned A) left s g c A I e x

set_option maxRecDepth 8000 in
set_option maxHeartbeats 6400000 in
theorem cCome_any (v x:World) (P gC gE gI cC cE cI:Nat) (how inp:Nat→Int) (sp:Nat→Bool) (met left:Bool) (s g c:Nat→Int) (E I:Nat→Nat→Int) (h:Cr.Frm v x P gC gE gI cC cE cI how inp sp met left s g c E I) (hS:Cr.Sane c E I) (hF:Nv.Floor c) :
  Calls Tryz.prog 24 #[.pointer (some ⟨P,0,none⟩)] x (Cr.ComeTo v P how inp sp left s g c E I):=by
 have hh:=hide h
 have hsn:Hid (∀t A,t≤4→Cr.ComesTo c sp t E A→Cr.Sane c A I):=fun t A ht hA=>hS.comesTo ht hA
 have hF':=hide hF
 obtain ⟨a0,a1,a2,a3,a4,a5,a6,a7,a8,a9,a10,a11⟩:=h.twelve
 clear h hS hF
 go_enter Tryz.func24,Tryz.ntmps24
 go_wp2_with fail
 go_loopw [8] (fun v8 wr=>∃(t gE cE:Nat) (A:Nat→Nat→Int),t≤4∧v8=.int .i64 (t:Int)∧Hid (Cr.ComesTo c sp t E A)∧Hid (∃gC gI cC cI,Cr.Frm v wr P gC gE gI cC cE cI how inp sp met left s g c A I)) (fun v8 _=>10 - (intOf v8).toNat)
 case atStart=>exact ⟨0,gE,cE,E,by omega,rfl,rfl,⟨gC,gI,cC,cI,uh hh⟩⟩
 case round =>
  clear hh a0 a1 a2 a3 a4 a5 a6 a7 a8 a9 a10 a11
  obtain ⟨t,gE,cE,A,ht,rfl,hA,hX⟩:=hrel
  obtain ⟨gC,gI,cC,cI,hh⟩:=uh hX
  have hF1:=hide hh
  clear hX hh
  by_cases hlt:t<4
  ·have hlt':(t:Int)<4:=by omega
   have HL:=hide hlt
   have hs:=hide (uh hsn t A ht (uh hA))
   have hix:=Cr.run_act how inp sp hlt wr
   obtain ⟨w0,hw0⟩:∃w0,w0=wr.alloc (.cells #[.int .i64 (how t),.int .i64 (inp t),.bool (sp t)] 33):=⟨_,rfl⟩
   have hg0:wr.grownBy w0 none:=by rw [hw0];exact World.grownBy_alloc _ _ _
   have q2:w0.cell? ⟨wr.heap.size,2,none⟩=some (.bool (sp t)):=by
    rw [hw0]
    exact (Arr.lit (heap_alloc_new wr _)).cell (i:=2) (by show 2<3;omega)
   have hF2:=hide ((uh hF1).on hg0)
   have ch:=hero_any gE 32 cE A (t:Int) w0 (uh hF2).lists.own.ents (uh hF2).cap.1
   change Calls _ _ _ _ (Says w0 (.int .i64 (Gd.hero A (t:Int)))) at ch
   have hskip:Hid (¬(sp t=true∧Gd.hero A (t:Int)<0)→Cr.ComesTo c sp (t+1) E A):=fun hn=>⟨A,uh hA,(show Cr.Comes c (t:Int) (sp t) A A by unfold Cr.Comes;rw [if_neg hn])⟩
   have hgo:Hid (∀F,sp t=true→Cr.Comes c (t:Int) true A F→Cr.ComesTo c sp (t+1) E F):=fun F h1 h2=>⟨A,uh hA,(show Cr.Comes c (t:Int) (sp t) A F by rw [h1];exact h2)⟩
   obtain ⟨z,hz⟩:∃z,Gd.hero A (t:Int)=z:=⟨_,rfl⟩
   rw [hz] at ch hskip
   have ch':=hide ch
   have hz':=hide hz
   clear hlt ht hg0 ch hz hF1
   go_upto_region 3 with fail
   rw [←hw0]
   clear hw0 hix
   obtain ⟨Q,hQe⟩:∃Q,wr.heap.size=Q:=⟨_,rfl⟩
   rw [hQe] at q2 ⊢
   clear hQe
   obtain ⟨b,hb⟩:∃b,sp t=b:=⟨_,rfl⟩
   rw [hb] at q2 hskip hgo ⊢
   clear hb
   cases b
   ·have hn:=hide (uh hskip (fun h=>Bool.false_ne_true h.1))
    clear hskip hgo ch'
    go_wp2
    go_roundw
    case rel=>exact ⟨t+1,gE,cE,A,by have:=uh HL;omega,by go_num,hn,⟨gC,gI,cC,cI,uh hF2⟩⟩
    case measure=>simp [intOf];have:=uh HL;omega
   ·have b5:=(uh hF2).eleven.2.2.2.2.2.1
    have hgo2:=hide (fun F=>uh hgo F rfl)
    have hskip2:Hid (¬z<0→Cr.ComesTo c sp (t+1) E A):=fun hn=>uh hskip (fun h=>hn h.2)
    clear hgo hskip
    go_wp2_with fail
    refine (uh ch').mono ?_
    rintro e w1 ⟨rfl,hg1⟩
    have hF3:=hide ((uh hF2).on hg1)
    clear hg1 ch' b5 q2 hF2
    by_cases h0:z<0
    ·have cb:=hide (cBring_any v w1 P gC gE gI cC cE cI how inp sp met left s g c A I t (uh hF3) (uh hs) (uh hF') (by rw [uh hz'];exact h0))
     clear hskip2
     go_wp2_with fail
     refine (uh cb).mono ?_
     rintro e w2 ⟨F,hco,rfl,j1,j2,j3,d1,d2,d3,hF4⟩
     have hn:=hide (uh hgo2 F hco)
     have hF5:=hide hF4
     clear hco hF4 cb hF3 hgo2
     go_wp2
     go_roundw
     case rel=>exact ⟨t+1,j2,d2,F,by have:=uh HL;omega,by go_num,hn,⟨j1,j3,d1,d3,uh hF5⟩⟩
     case measure=>simp [intOf];have:=uh HL;omega
    ·have hn:=hide (uh hskip2 (by omega))
     clear hskip2 hgo2
     go_wp2
     go_roundw
     case rel=>exact ⟨t+1,gE,cE,A,by have:=uh HL;omega,by go_num,hn,⟨gC,gI,cC,cI,uh hF3⟩⟩
     case measure=>simp [intOf];have:=uh HL;omega
  ·obtain rfl:t=4:=by omega
   have hge:¬((4:Nat):Int)<4:=by omega
   have hs:=hide (uh hsn 4 A (Nat.le_refl _) (uh hA))
   have b5:=(uh hF1).eleven.2.2.2.2.2.1
   have cc:=hide (cContains_any gE cE A wr (uh hF1).lists.own (uh hs).seats)
   obtain ⟨mm,hmm⟩:∃m,Cr.manned A=m:=⟨_,rfl⟩
   rw [hmm] at cc
   have hmm':=hide hmm
   clear hlt ht hmm
   go_wp2_with fail
   refine (uh cc).mono ?_
   rintro e w1 ⟨rfl,hg1⟩
   have hF2:=hide ((uh hF1).on hg1)
   have hst:=hide ((uh hF2).met mm)
   have q:=(uh hF2).words.1
   have fP:=(uh hF2).box.free
   have hfin:Hid (∀e w',Cr.Goes v P how inp sp mm left s g c A I e w'→Cr.ComeTo v P how inp sp left s g c E I e w'):=fun e w' h=>⟨A,uh hA,(show _ by rw [uh hmm'];exact h)⟩
   clear hg1 cc b5 hF1 hF2 hmm'
   go_wp2
   go_end0
   exact uh hfin _ _ ⟨rfl,gC,gE,gI,cC,cE,cI,uh hst⟩


open Go.RowKit

def Cr.HuntTo (v:World) (P:Nat) (how inp:Nat→Int) (sp:Nat→Bool) (met left:Bool) (s g c:Nat→Int) (E I:Nat→Nat→Int) (e:Ending) (x:World):Prop :=
 ∃F J,Cr.ProwlTo s c 32 E I F J∧Cr.Goes v P how inp sp met left s g c F J e x

set_option maxRecDepth 8000 in
set_option maxHeartbeats 6400000 in
theorem cHunt_any (v x:World) (P gC gE gI cC cE cI:Nat) (how inp:Nat→Int) (sp:Nat→Bool) (met left:Bool) (s g c:Nat→Int) (E I:Nat→Nat→Int) (h:Cr.Frm v x P gC gE gI cC cE cI how inp sp met left s g c E I) (hS:Cr.Sane c E I) :
  Calls Tryz.prog 26 #[.pointer (some ⟨P,0,none⟩)] x (Cr.HuntTo v P how inp sp met left s g c E I):=by
 have hF:=hide h
 have hsn:Hid (∀i F J,i≤32→Cr.ProwlTo s c i E I F J→Cr.Sane c F J):=fun i F J hi hp=>hS.prowlTo hi hp
 have b5:=h.eleven.2.2.2.2.2.1
 clear h hS
 go_enter Tryz.func26,Tryz.ntmps26
 go_wp2_with fail
 go_loopw [10] (fun v10 wr=>∃(i g1 g2 g3 c1 c2 c3:Nat) (F J:Nat→Nat→Int),i≤32∧v10=.int .i64 (i:Int)∧Hid (Cr.ProwlTo s c i E I F J)∧Hid (Cr.Frm v wr P g1 g2 g3 c1 c2 c3 how inp sp met left s g c F J)) (fun v10 _=>40 - (intOf v10).toNat)
 case atStart=>exact ⟨0,gC,gE,gI,cC,cE,cI,E,I,by omega,rfl,⟨rfl,rfl⟩,hF⟩
 case round =>
  clear hF b5
  obtain ⟨i,g1,g2,g3,c1,c2,c3,F,J,hi,rfl,hp,hF⟩:=hrel
  by_cases hlt:i<32
  ·have hlt':(i:Int)<32:=by omega
   have HL:=hide hlt
   have hs:=hide (uh hsn i F J hi (uh hp))
   obtain ⟨w0,hw0⟩:∃w0,w0=wr.alloc (.cells (En.cells (F i)) 42):=⟨_,rfl⟩
   have hg0:wr.grownBy w0 none:=by rw [hw0];exact World.grownBy_alloc _ _ _
   have hQ:Hid (Lie w0 wr.heap.size 42 11 (Ints (F i))):=by rw [hw0];exact Lie.copied _ _ _
   have hF0:=hide ((uh hF).on hg0)
   have b5:=(uh hF).eleven.2.2.2.2.2.1
   obtain ⟨r0,r1,r2,r3,r4,r5,r6,r7,r8,r9,r10⟩:=(uh hF).lists.own.ents.row hlt
   have cm:=hide (cIsMonster_any (F i) w0)
   have hskip:Hid ((F i 0=0∨F i 0=1∨0<F i 10)→Cr.ProwlTo s c (i+1) E I F J):=fun h1=>⟨F,J,uh hp,(show Cr.Prowls s c i F J F J by unfold Cr.Prowls;rw [if_pos h1];exact ⟨rfl,rfl⟩)⟩
   have hgo:Hid (∀u,¬(F i 0=0∨F i 0=1∨0<F i 10)→Md.IsMonster s c F (i:Int) u→Cr.ProwlTo s c (i+1) E I (Cr.act s c F J i u true).1 (Cr.act s c F J i u true).2):=fun u h1 h2=>⟨F,J,uh hp,(show Cr.Prowls s c i F J _ _ by unfold Cr.Prowls;rw [if_neg h1];exact ⟨u,h2,rfl,rfl⟩)⟩
   obtain ⟨bm,hbm⟩:∃b,decide (F i 0≠0∧F i 0≠1)=b:=⟨_,rfl⟩
   rw [hbm] at cm
   have hbm':=hide hbm
   unfold En.cells at hw0 cm
   clear hlt hi hg0 hF hbm
   go_upto_region 4 with fail
   rw [←hw0]
   clear hw0 b5 r0 r1 r2 r3 r4 r5 r6 r7 r8 r9 r10
   obtain ⟨Q,hQe⟩:∃Q,wr.heap.size=Q:=⟨_,rfl⟩
   rw [hQe] at hQ ⊢
   clear hQe
   obtain ⟨q0,q1,q2,q3,q4,q5,q6,q7,q8,q9,q10⟩:=(uh hQ).ent
   go_wp2_with fail
   refine (uh cm).mono ?_
   rintro e w1 ⟨rfl,hg1⟩
   have hF1:=hide ((uh hF0).on hg1)
   have hQ1:=hide ((uh hQ).on hg1)
   clear hg1 cm q0 q1 q2 q3 q4 q5 q6 q7 q8 q9 q10 hF0 hQ
   cases bm
   ·have hn':=hide (uh hskip (by
     have h:=of_decide_eq_false (uh hbm')
     by_cases a:F i 0=0
     ·exact .inl a
     ·by_cases b:F i 0=1
      ·exact .inr (.inl b)
      ·exact absurd ⟨a,b⟩ h))
    clear hskip hgo
    go_wp2
    go_roundw
    case rel=>exact ⟨i+1,g1,g2,g3,c1,c2,c3,F,J,by have:=uh HL;omega,by go_num,hn',hF1⟩
    case measure=>simp [intOf];have:=uh HL;omega
   ·have hm:=hide (of_decide_eq_true (uh hbm'))
    have cs:=hide (cIsStunned_any (F i) w1)
    obtain ⟨b,hb⟩:∃b,decide (0<F i 10)=b:=⟨_,rfl⟩
    rw [hb] at cs
    have hb':=hide hb
    unfold En.cells at cs
    clear hb
    obtain ⟨q0,q1,q2,q3,q4,q5,q6,q7,q8,q9,q10⟩:=(uh hQ1).ent
    go_wp2_with fail
    refine (uh cs).mono ?_
    rintro e w2 ⟨rfl,hg2⟩
    have hF2:=hide ((uh hF1).on hg2)
    clear hg2 cs q0 q1 q2 q3 q4 q5 q6 q7 q8 q9 q10 hF1 hQ1
    cases b
    ·have hng:Hid (¬(F i 0=0∨F i 0=1∨0<F i 10)):=(show ¬(F i 0=0∨F i 0=1∨0<F i 10) by
      have h1:=uh hm
      have h2:=of_decide_eq_false (uh hb')
      omega)
     obtain ⟨b0,b1,b2,b3,b4,b5,b6,b7,b8,b9,b10⟩:=(uh hF2).eleven
     have cmo:=hide (mindsMonster_any s g c F J g1 g2 g3 c1 c2 c3 (i:Int) w2 (uh hF2).lists (uh hs).fit.cells (uh hF2).cap.1 (uh hs).good)
     unfold Gd.world at cmo
     clear hskip
     go_wp2_with fail
     refine (uh cmo).mono ?_
     rintro e w3 ⟨u,hu,rfl,hg3⟩
     have hn':=hide (uh hgo u (uh hng) hu)
     have cw:=cWalk_any v w3 P g1 g2 g3 c1 c2 c3 how inp sp met left s g c F J i u ((uh hF2).on hg3) (uh hs) (uh HL) (uh hm).1
     rw [show decide (F i 0≠1)=true from decide_eq_true (uh hm).2] at cw
     have cw':=hide cw
     clear hu hg3 cmo b0 b1 b2 b3 b4 b5 b6 b7 b8 b9 b10 hF2 hgo cw
     go_wp2_with fail
     refine (uh cw').mono ?_
     rintro e w4 ⟨rfl,j1,j2,j3,d1,d2,d3,hF3⟩
     have hF3':=hide hF3
     clear hF3 cw'
     go_wp2
     go_roundw
     case rel=>exact ⟨i+1,j1,j2,j3,d1,d2,d3,_,_,by have:=uh HL;omega,by go_num,hn',hF3'⟩
     case measure=>simp [intOf];have:=uh HL;omega
    ·have hn':=hide (uh hskip (.inr (.inr (of_decide_eq_true (uh hb')))))
     clear hskip hgo
     go_wp2
     go_roundw
     case rel=>exact ⟨i+1,g1,g2,g3,c1,c2,c3,F,J,by have:=uh HL;omega,by go_num,hn',hF2⟩
     case measure=>simp [intOf];have:=uh HL;omega
  ·obtain rfl:i=32:=by omega
   have hge:¬((32:Nat):Int)<32:=by omega
   clear hlt hi
   go_wp2
   go_end0
   exact ⟨F,J,uh hp,rfl,g1,g2,g3,c1,c2,c3,uh hF⟩

end Go.Proofs.YtbanjoflgoiegabGreat
