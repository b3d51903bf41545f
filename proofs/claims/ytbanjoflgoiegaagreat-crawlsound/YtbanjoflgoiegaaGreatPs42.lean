import Derived.Test.YtbanjoflgoiegaaGreatPs41
import Derived.Test.YtbanjoflgoiegaaGreatPs33
namespace Go.Proofs.YtbanjoflgoiegaaGreat
open Go.RowKit

theorem Cr.run_act (how inp:Nat→Int) (sp:Nat→Bool) {t:Nat} (ht:t<4) (w:World):(Instr.index 36 (.agg #[.int .i64 (how 0),.int .i64 (inp 0),.bool (sp 0),.int .i64 (how 1),.int .i64 (inp 1),.bool (sp 1),.int .i64 (how 2),.int .i64 (inp 2),.bool (sp 2),.int .i64 (how 3),.int .i64 (inp 3),.bool (sp 3)]) (.int .i64 (t:Int))).run Tryz.prog w=.ok (.agg #[.int .i64 (how t),.int .i64 (inp t),.bool (sp t)]) w:=by
 rcases (show t=0∨t=1∨t=2∨t=3 by omega) with rfl | rfl | rfl | rfl <;> simp [Instr.index,run_underlying Tryz.underlying36,asIntOf,go_sem]

def Cr.ComeTo (v:World) (P:Nat) (how inp:Nat→Int) (sp:Nat→Bool) (left:Bool) (s g c:Nat→Int) (E I:Nat→Nat→Int) (e:Ending) (x:World):Prop :=
 ∃A,Cr.ComesTo c sp 4 E A∧Cr.Goes v P how inp sp (Cr.manned A) left s g c A I e x

set_option maxRecDepth 8000 in
set_option maxHeartbeats 6400000 in
theorem cCome_any (v x:World) (P gC gE gI cC cE cI:Nat) (how inp:Nat→Int) (sp:Nat→Bool) (met left:Bool) (s g c:Nat→Int) (E I:Nat→Nat→Int) (h:Cr.Frm v x P gC gE gI cC cE cI how inp sp met left s g c E I) (hS:Cr.Sane c E I) (hF:Nv.Floor c) :
  Calls Tryz.prog 29 #[.pointer (some ⟨P,0,none⟩)] x (Cr.ComeTo v P how inp sp left s g c E I):=by
 have hh:=hide h
 have hsn:Hid (∀t A,t≤4→Cr.ComesTo c sp t E A→Cr.Sane c A I):=fun t A ht hA=>hS.comesTo ht hA
 have hF':=hide hF
 obtain ⟨a0,a1,a2,a3,a4,a5,a6,a7,a8,a9,a10,a11⟩:=h.twelve
 clear h hS hF
 go_enter Tryz.func29,Tryz.ntmps29
 go_wp2_with fail
 go_loopw [8] (fun v8 wr=>∃(t gE cE:Nat) (A:Nat→Nat→Int),t≤4∧v8=.int .i64 (t:Int)∧Hid (Cr.ComesTo c sp t E A)∧Hid (∃gC gI cC cI,Cr.Frm v wr P gC gE gI cC cE cI how inp sp met left s g c A I)) (fun v8 _=>10 - (intOf v8).toNat)
 case atStart=>exact ⟨0,gE,cE,E,by omega,rfl,rfl,⟨gC,gI,cC,cI,uh hh⟩⟩
 case round =>
  clear hh a0 a1 a2 a3 a4 a5 a6 a7 a8 a9 a10 a11
  obtain ⟨t,gE,cE,A,ht,rfl,hA,hX⟩:=hrel
  obtain ⟨gC,gI,cC,cI,hh⟩:=uh hX
  have hF1:=hide hh
  clear hX hh
  by_cases hlt:t<4
  ·have hlt':(t:Int)<4:=by omega
   have HL:=hide hlt
   have hs:=hide (uh hsn t A ht (uh hA))
   have hix:=Cr.run_act how inp sp hlt wr
   obtain ⟨w0,hw0⟩:∃w0,w0=wr.alloc (.cells #[.int .i64 (how t),.int .i64 (inp t),.bool (sp t)] 34):=⟨_,rfl⟩
   have hg0:wr.grownBy w0 none:=by rw [hw0];exact World.grownBy_alloc _ _ _
   have q2:w0.cell? ⟨wr.heap.size,2,none⟩=some (.bool (sp t)):=by
    rw [hw0]
    exact (Arr.lit (heap_alloc_new wr _)).cell (i:=2) (by show 2<3;omega)
   have hF2:=hide ((uh hF1).on hg0)
   have ch:=hero_any gE 32 cE A (t:Int) w0 (uh hF2).lists.own.ents (uh hF2).cap.1
   change Calls _ _ _ _ (Says w0 (.int .i64 (Gd.hero A (t:Int)))) at ch
   have hskip:Hid (¬(sp t=true∧Gd.hero A (t:Int)<0)→Cr.ComesTo c sp (t+1) E A):=fun hn=>⟨A,uh hA,(show Cr.Comes c (t:Int) (sp t) A A by unfold Cr.Comes;rw [if_neg hn])⟩
   have hgo:Hid (∀F,sp t=true→Cr.Comes c (t:Int) true A F→Cr.ComesTo c sp (t+1) E F):=fun F h1 h2=>⟨A,uh hA,(show Cr.Comes c (t:Int) (sp t) A F by rw [h1];exact h2)⟩
   obtain ⟨z,hz⟩:∃z,Gd.hero A (t:Int)=z:=⟨_,rfl⟩
   rw [hz] at ch hskip
   have ch':=hide ch
   have hz':=hide hz
   clear hlt ht hg0 ch hz hF1
   go_upto_region 3 with fail
   rw [←hw0]
   clear hw0 hix
   obtain ⟨Q,hQe⟩:∃Q,wr.heap.size=Q:=⟨_,rfl⟩
   rw [hQe] at q2 ⊢
   clear hQe
   obtain ⟨b,hb⟩:∃b,sp t=b:=⟨_,rfl⟩
   rw [hb] at q2 hskip hgo ⊢
   clear hb
   cases b
   ·have hn:=hide (uh hskip (fun h=>Bool.false_ne_true h.1))
    clear hskip hgo ch'
    go_wp2
    go_roundw
    case rel=>exact ⟨t+1,gE,cE,A,by have:=uh HL;omega,by go_num,hn,⟨gC,gI,cC,cI,uh hF2⟩⟩
    case measure=>simp [intOf];have:=uh HL;omega
   ·have b5:=(uh hF2).eleven.2.2.2.2.2.1
    have hgo2:=hide (fun F=>uh hgo F rfl)
    have hskip2:Hid (¬z<0→Cr.ComesTo c sp (t+1) E A):=fun hn=>uh hskip (fun h=>hn h.2)
    clear hgo hskip
    go_wp2_with fail
    refine (uh ch').mono ?_
    rintro e w1 ⟨rfl,hg1⟩
    have hF3:=hide ((uh hF2).on hg1)
    clear hg1 ch' b5 q2 hF2
    by_cases h0:z<0
    ·have cb:=hide (cBring_any v w1 P gC gE gI cC cE cI how inp sp met left s g c A I t (uh hF3) (uh hs) (uh hF') (by rw [uh hz'];exact h0))
     clear hskip2
     go_wp2_with fail
     refine (uh cb).mono ?_
     rintro e w2 ⟨F,hco,rfl,j1,j2,j3,d1,d2,d3,hF4⟩
     have hn:=hide (uh hgo2 F hco)
     have hF5:=hide hF4
     clear hco hF4 cb hF3 hgo2
     go_wp2
     go_roundw
     case rel=>exact ⟨t+1,j2,d2,F,by have:=uh HL;omega,by go_num,hn,⟨j1,j3,d1,d3,uh hF5⟩⟩
     case measure=>simp [intOf];have:=uh HL;omega
    ·have hn:=hide (uh hskip2 (by omega))
     clear hskip2 hgo2
     go_wp2
     go_roundw
     case rel=>exact ⟨t+1,gE,cE,A,by have:=uh HL;omega,by go_num,hn,⟨gC,gI,cC,cI,uh hF3⟩⟩
     case measure=>simp [intOf];have:=uh HL;omega
  ·obtain rfl:t=4:=by omega
   have hge:¬((4:Nat):Int)<4:=by omega
   have hs:=hide (uh hsn 4 A (Nat.le_refl _) (uh hA))
   have b5:=(uh hF1).eleven.2.2.2.2.2.1
   have cc:=hide (cContains_any gE cE A wr (uh hF1).lists.own (uh hs).seats)
   obtain ⟨mm,hmm⟩:∃m,Cr.manned A=m:=⟨_,rfl⟩
   rw [hmm] at cc
   have hmm':=hide hmm
   clear hlt ht hmm
   go_wp2_with fail
   refine (uh cc).mono ?_
   rintro e w1 ⟨rfl,hg1⟩
   have hF2:=hide ((uh hF1).on hg1)
   have hst:=hide ((uh hF2).met mm)
   have q:=(uh hF2).words.1
   have fP:=(uh hF2).box.free
   have hfin:Hid (∀e w',Cr.Goes v P how inp sp mm left s g c A I e w'→Cr.ComeTo v P how inp sp left s g c E I e w'):=fun e w' h=>⟨A,uh hA,(show _ by rw [uh hmm'];exact h)⟩
   clear hg1 cc b5 hF1 hF2 hmm'
   go_wp2
   go_end0
   exact uh hfin _ _ ⟨rfl,gC,gE,gI,cC,cE,cI,uh hst⟩


open Go.RowKit

set_option maxRecDepth 8000 in
set_option maxHeartbeats 12800000 in
theorem mWander_any (s g c:Nat→Int) (E I:Nat→Nat→Int) (gC gE gI cC cE cI k:Nat) (w:World) (hL:Gd.Lists w gC gE gI c E I) (hc:∀i,0≤c i∧c i≤255) (hcE:32≤cE) (hE:Md.Fine E) (hk:k<32) (hk0:E k 0≠0) :
  Calls Tryz.prog 213 #[.agg (Gd.world s gC gE gI cC cE cI g),.int .i64 (k:Int)] w (Says w (.int .i64 (Md.stray s c E k))):=by
 obtain ⟨w0,hw0⟩:∃w0,w0=w.alloc (.cells (Gd.world s gC gE gI cC cE cI g) 30):=⟨_,rfl⟩
 have hg0:w.grownBy w0 none:=by rw [hw0];exact World.grownBy_alloc _ _ _
 have hO:Hid (Gd.Shown w w0 w.heap.size gC gE gI cC cE cI s g c E I):=by
  refine ⟨?_,hL.on hg0,hg0⟩
  rw [hw0]
  exact (Arr.world (heap_alloc_new w _)).lie
 obtain ⟨x0,x9,y0,y9,-,-⟩:=hE k hk hk0
 have hc':=hide hc
 have hcE':=hide hcE
 have HK:=hide hk
 have hk':(k:Int)<32:=by omega
 have hst:Hid (Md.stray s c E k=if (1≤Dc.die 8 (s 0) [s 1,(k:Int),90]∧Dc.die 8 (s 0) [s 1,(k:Int),90]≤4)∧Gr.walkB (Gr.at 384 c (E k 3+(Fx.way (Dc.die 8 (s 0) [s 1,(k:Int),90])).1) (E k 4+(Fx.way (Dc.die 8 (s 0) [s 1,(k:Int),90])).2))=true∧En.first (En.atQ E (E k 3+(Fx.way (Dc.die 8 (s 0) [s 1,(k:Int),90])).1) (E k 4+(Fx.way (Dc.die 8 (s 0) [s 1,(k:Int),90])).2)) 32<0 then Dc.die 8 (s 0) [s 1,(k:Int),90] else 0):=rfl
 have cd:Hid (Calls Tryz.prog 160 #[.int .i64 8,.int .i64 (s 0),.slice (some ⟨w0.heap.size,0,none⟩) 3 3] (w0.alloc (.cells #[.int .i64 (s 1),.int .i64 (k:Int),.int .i64 90] 3)) fun e w'=>e=.returned (.int .i64 (Dc.die 8 (s 0) [s 1,(k:Int),90]))∧w'=w0.alloc (.cells #[.int .i64 (s 1),.int .i64 (k:Int),.int .i64 90] 3)):=die_row 8 (s 0) _ 3 3 _ _ (Row.three w0 (s 1) (k:Int) 90 3) (by omega)
 have hOd:=hide ((uh hO).on (World.grownBy_alloc w0 (.cells #[.int .i64 (s 1),.int .i64 (k:Int),.int .i64 90] 3) none))
 obtain ⟨d,hd⟩:∃d,Dc.die 8 (s 0) [s 1,(k:Int),90]=d:=⟨_,rfl⟩
 rw [hd] at hst cd
 obtain ⟨S,hS⟩:∃S,Md.stray s c E k=S:=⟨_,rfl⟩
 rw [hS] at hst ⊢
 clear hL hc hcE hE hg0 hk hk0 hd hS
 unfold Gd.world at hw0 ⊢
 go_enter Tryz.func213,Tryz.ntmps213
 go_upto_region 1 with fail
 rw [←hw0]
 clear hw0
 obtain ⟨B,hB⟩:∃B,w.heap.size=B:=⟨_,rfl⟩
 rw [hB] at hO hOd ⊢
 clear hB
 have q0:=(uh hO).box.eleven.1
 have q1:=(uh hO).box.eleven.2.1
 go_wp2_with fail
 refine (uh cd).mono ?_
 rintro x wy ⟨rfl,hw⟩
 subst hw
 clear cd q0 q1 hO
 generalize w0.alloc (.cells #[.int .i64 (s 1),.int .i64 (k:Int),.int .i64 90] 3)=w1 at hOd ⊢
 by_cases h1:d<1
 ·have hS0:Hid (S=0):=(show S=0 by rw [uh hst,if_neg (by omega)])
  clear hst
  go_wp2
  go_ret
  exact ⟨rti (uh hS0).symm,(uh hOd).grown⟩
 by_cases h4:d > 4
 ·have hS0:Hid (S=0):=(show S=0 by rw [uh hst,if_neg (by omega)])
  clear hst
  go_wp2
  go_ret
  exact ⟨rti (uh hS0).symm,(uh hOd).grown⟩
 have hd14:=hide (show 1≤d∧d≤4 by omega)
 have wb:=Fx.way_bd d
 have ca:=hide (fun wq=>mAhead_any (E k) d wq x0 x9 y0 y9)
 unfold En.cells at ca
 obtain ⟨X,hX⟩:∃X,E k 3+(Fx.way d).1=X:=⟨_,rfl⟩
 obtain ⟨Y,hY⟩:∃Y,E k 4+(Fx.way d).2=Y:=⟨_,rfl⟩
 have hb:(-1≤X∧X≤24)∧-1≤Y∧Y≤16:=by omega
 rw [hX,hY] at ca hst
 have hb':=hide hb
 clear hX hY wb x0 x9 y0 y9 hb
 have q5:=(uh hOd).box.eleven.2.2.2.2.2.1
 obtain ⟨u0,u1,u2,u3,u4,u5,u6,u7,u8,u9,u10⟩:=(uh hOd).lists.own.ents.row (uh HK)
 go_wp2_with fail
 refine (uh ca _).mono ?_
 rintro x w2 ⟨⟨a,b,rfl,Ra,Rb⟩,hg⟩
 have hO2:=hide ((uh hOd).on hg)
 have cp:Hid (∀wq,Calls Tryz.prog 218 #[.complex .f64 a b] wq fun e w'=>e=.returned (.tuple #[.int .i64 X,.int .i64 Y])∧w'=wq):=fun wq=>mParts_any a b X Y wq Ra Rb (by have:=uh hb';omega) (by have:=uh hb';omega) (by have:=uh hb';omega) (by have:=uh hb';omega)
 clear Ra Rb hg q5 u0 u1 u2 u3 u4 u5 u6 u7 u8 u9 u10 ca hOd
 go_wp2_with fail
 refine (uh cp _).mono ?_
 rintro x wy ⟨rfl,hw⟩
 subst wy
 clear cp
 have q4:=(uh hO2).box.eleven.2.2.2.2.1
 have q5:=(uh hO2).box.eleven.2.2.2.2.2.1
 have cg:=hide (at_any w2.heap.size (some ⟨gC,0,none⟩) 384 cC c X Y w2 (uh hO2).lists.vec (uh hc'))
 have ce:=hide (entAt_any gE 32 cE E X Y w2 (uh hO2).lists.own.ents (uh hcE'))
 obtain ⟨A,hA⟩:∃A,Gr.at 384 c X Y=A:=⟨_,rfl⟩
 obtain ⟨z,hz⟩:∃z,En.first (En.atQ E X Y) 32=z:=⟨_,rfl⟩
 have ck:=hide (fun wq=>walk_any A wq)
 obtain ⟨wk,hwk⟩:∃wk,Gr.walkB A=wk:=⟨_,rfl⟩
 rw [hA] at cg hst
 rw [hz] at ce hst
 rw [hwk] at ck hst
 clear hA hz hwk
 go_wp2_with fail
 refine (uh cg).mono ?_
 rintro x wy ⟨rfl,hw⟩
 subst wy
 go_wp2_with fail
 refine (uh ck _).mono ?_
 rintro x wy ⟨rfl,hw⟩
 subst wy
 clear cg ck
 cases wk
 ·have hS0:Hid (S=0):=(show S=0 by rw [uh hst,if_neg (by simp)])
  clear hst
  go_wp2
  go_ret
  exact ⟨rti (uh hS0).symm,(uh hO2).grown⟩
 go_wp2_with fail
 refine (uh ce).mono ?_
 rintro x w3 ⟨rfl,hg⟩
 have hg3:=hide (gtr (uh hO2).grown hg)
 clear hg ce q4 q5
 by_cases hz0:z<0
 ·have hS0:Hid (S=d):=(show S=d by rw [uh hst,if_pos ⟨uh hd14,by first | rfl | trivial,hz0⟩])
  have hz1:¬z≥0:=by omega
  clear hst
  go_wp2
  go_ret
  exact ⟨rti (uh hS0).symm,uh hg3⟩
 ·have hS0:Hid (S=0):=(show S=0 by rw [uh hst,if_neg (by omega)])
  have hz1:z≥0:=by omega
  clear hst
  go_wp2
  go_ret
  exact ⟨rti (uh hS0).symm,uh hg3⟩

end Go.Proofs.YtbanjoflgoiegaaGreat
