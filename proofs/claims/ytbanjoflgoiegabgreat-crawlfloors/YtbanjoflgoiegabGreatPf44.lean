import Derived.Test.YtbanjoflgoiegabGreatPf41
import Derived.Test.YtbanjoflgoiegabGreatPf43
namespace Go.Proofs.YtbanjoflgoiegabGreat
open Go.RowKit

theorem Cr.next_none {c g:Nat→Int} {E I:Nat→Nat→Int} {t v:Int} (h5:v≠5) (h6:v≠6) (h7:v≠7) (h8:v≠8) (h10:v≠10):Gd.nextG c g E I t v=g∧Gd.nextE E I t v=E∧Gd.nextI c g E I t v=I:=by
 unfold Gd.nextG Gd.nextE Gd.nextI
 by_cases hc:0≤t∧t<4∧0≤Gd.hero E t
 ·rw [if_pos hc,if_pos hc,if_pos hc]
  refine ⟨?_,?_,?_⟩
  ·unfold Gd.goldOf
   rw [if_neg h5,if_neg h10]
   exact Gd.give_same g t.toNat
  ·unfold Gd.entsOf
   rw [if_neg (fun h=>h6 h.1)]
  ·unfold Gd.act
   simp [h5,h6,h7,h8,h10]
 ·rw [if_neg hc,if_neg hc,if_neg hc]
  exact ⟨rfl,rfl,rfl⟩

set_option maxRecDepth 8000 in
set_option maxHeartbeats 12800000 in
theorem cDo_any (v x:World) (P gC gE gI cC cE cI:Nat) (how inp:Nat→Int) (sp:Nat→Bool) (met left:Bool) (s g c:Nat→Int) (E I:Nat→Nat→Int) (t k:Nat) (u:Int) (h:Cr.Frm v x P gC gE gI cC cE cI how inp sp met left s g c E I) (hS:Cr.Sane c E I) (hG:Cr.Gold g) (hk:k<32) (k1:E k 0=1) :
  Calls Tryz.prog 67 #[.pointer (some ⟨P,0,none⟩),.int .i64 (t:Int),.int .i64 (k:Int),.int .i64 u] x (Cr.Goes v P how inp sp met (Cr.does s c ⟨g,E,I,left⟩ (t:Int) k u).left s (Cr.does s c ⟨g,E,I,left⟩ (t:Int) k u).g c (Cr.does s c ⟨g,E,I,left⟩ (t:Int) k u).E (Cr.does s c ⟨g,E,I,left⟩ (t:Int) k u).I):=by
 have hk':(k:Int)<32:=by omega
 have HK:=hide hk
 have hh:=hide h
 have hSa:=hide hS
 have hfine:=hide (hS.fine hG)
 have cw:=hide (cWalk_any v x P gC gE gI cC cE cI how inp sp met left s g c E I k u h hS hk (by omega))
 rw [show decide (E k 0≠1)=false from decide_eq_false (fun h=>h k1)] at cw
 have cd:=hide (do_wide s g c E I gC gE gI cC cE cI (t:Int) u x h.lists (hS.fine hG))
 by_cases h4:1≤u∧u≤4
 ·have hd:Hid ((Cr.does s c ⟨g,E,I,left⟩ (t:Int) k u)=⟨g,(Cr.act s c E I k u false).1,(Cr.act s c E I k u false).2,left⟩):=(show _=_ by unfold Cr.does;rw [if_pos h4])
  rw [uh hd]
  obtain ⟨A,hA⟩:∃A,Cr.act s c E I k u false=A:=⟨_,rfl⟩
  rw [hA] at cw ⊢
  clear hA hd cd h hS hG hk k1 hk' hh hSa hfine
  rcases (show u=1∨u=2∨u=3∨u=4 by omega) with rfl | rfl | rfl | rfl
  all_goals
   clear h4
   go_enter Tryz.func67,Tryz.ntmps67
   go_wp2_with fail
   refine (uh cw).mono ?_
   rintro e w1 ⟨rfl,hfin⟩
   have hfin':=hide hfin
   clear hfin cw
   go_wp2
   go_end0
   exact ⟨rfl,uh hfin'⟩
 ·by_cases h9:u=9
  ·subst h9
   obtain ⟨X,hX⟩:∃X,E k 3=X:=⟨_,rfl⟩
   obtain ⟨Y,hY⟩:∃Y,E k 4=Y:=⟨_,rfl⟩
   have hd:Hid ((Cr.does s c ⟨g,E,I,left⟩ (t:Int) k 9)=⟨g,E,I,left || decide (Gr.at 384 c X Y=4)⟩):=(show _=_ by unfold Cr.does;rw [if_neg (by omega),if_pos rfl,←hX,←hY])
   rw [uh hd]
   have ca:=hide (fun z (hz:Cr.Frm v z P gC gE gI cC cE cI how inp sp met left s g c E I)=>at_any z.heap.size (some ⟨gC,0,none⟩) 384 cC c X Y z hz.lists.vec hS.fit.cells)
   obtain ⟨A,hA⟩:∃A,Gr.at 384 c X Y=A:=⟨_,rfl⟩
   rw [hA] at ca ⊢
   obtain ⟨L2,hL2⟩:∃b,(left || decide (A=4))=b:=⟨_,rfl⟩
   rw [hL2]
   have hL2':=hide hL2
   clear hL2
   obtain ⟨w0,hw0⟩:∃w0,w0=x.alloc (.cells (En.cells (E k)) 42):=⟨_,rfl⟩
   have hg0:x.grownBy w0 none:=by rw [hw0];exact World.grownBy_alloc _ _ _
   have hQ:Lie w0 x.heap.size 42 11 (Ints (E k)):=by rw [hw0];exact Lie.copied _ _ _
   have hF0:=hide (h.on hg0)
   have q3:=hQ.ent.2.2.2.1
   have q4:=hQ.ent.2.2.2.2.1
   rw [hX] at q3
   rw [hY] at q4
   have b5:=h.eleven.2.2.2.2.2.1
   obtain ⟨r0,r1,r2,r3,r4,r5,r6,r7,r8,r9,r10⟩:=h.lists.own.ents.row hk
   clear hX hY hd hA h hS hG hk k1 cw cd h4 hg0 hQ hh hSa hfine
   unfold En.cells at hw0
   go_enter Tryz.func67,Tryz.ntmps67
   go_upto_region 14 with fail
   rw [←hw0]
   clear hw0 b5 r0 r1 r2 r3 r4 r5 r6 r7 r8 r9 r10
   obtain ⟨Q,hQe⟩:∃Q,x.heap.size=Q:=⟨_,rfl⟩
   rw [hQe] at q3 q4 ⊢
   clear hQe
   go_cut [55] from 45 to 55 (fun va wx=>va=.bool (A == 4)∧Hid (Cr.Frm v wx P gC gE gI cC cE cI how inp sp met left s g c E I))
   case first =>
    have b4:=(uh hF0).eleven.2.2.2.2.1
    have ca':=hide (uh ca _ (uh hF0))
    go_quiet (first | (go_at_call 72;refine Calls.quiet_of_same (uh ca _ ?_);exact (uh hF0).on (gdw (World.grownBy.refl _ none) _)) | fail)
    go_wp2_with fail
    go_meet
    exact ⟨rfl,(uh hF0).on (gdw (World.grownBy.refl _ none) _)⟩
   case rest =>
    obtain ⟨rfl,hF1⟩:=hcut
    obtain ⟨b4,hb4⟩:∃b,(A == 4)=b:=⟨_,rfl⟩
    have hL3:(left || b4)=L2:=(show (left || b4)=L2 by rw [←hb4];exact uh hL2')
    rw [hb4]
    clear hF0 ca q3 q4 hb4 hL2'
    cases b4
    ·rw [Bool.or_false] at hL3
     subst hL3
     go_wp2
     go_end0
     exact ⟨rfl,gC,gE,gI,cC,cE,cI,uh hF1⟩
    ·rw [Bool.or_true] at hL3
     subst hL3
     have hst:=hide ((uh hF1).left true)
     have q:=(uh hF1).words.2
     have fP:=(uh hF1).box.free
     clear hF1
     go_wp2
     go_end0
     exact ⟨rfl,gC,gE,gI,cC,cE,cI,uh hst⟩
  ·have hd:Hid ((Cr.does s c ⟨g,E,I,left⟩ (t:Int) k u)=⟨Gd.nextG c g E I (t:Int) u,Gd.nextE E I (t:Int) u,Gd.nextI c g E I (t:Int) u,left⟩):=(show _=_ by unfold Cr.does;rw [if_neg h4,if_neg h9])
   rw [uh hd]
   have hnone:=hide (@Cr.next_none c g E I (t:Int) u)
   obtain ⟨G,hG2⟩:∃G,Gd.nextG c g E I (t:Int) u=G:=⟨_,rfl⟩
   obtain ⟨F,hF2⟩:∃F,Gd.nextE E I (t:Int) u=F:=⟨_,rfl⟩
   obtain ⟨J,hJ2⟩:∃J,Gd.nextI c g E I (t:Int) u=J:=⟨_,rfl⟩
   rw [hG2,hF2,hJ2] at cd hnone
   rw [hG2,hF2,hJ2]
   obtain ⟨b0,b1,b2,b3,b4,b5,b6,b7,b8,b9,b10⟩:=h.eleven
   clear hd hG2 hF2 hJ2 h hS hG hk k1 cw hSa hfine
   by_cases h5:u=5∨u=6∨u=7∨u=8∨u=10
   ·unfold Gd.world at cd
    clear hnone
    rcases h5 with rfl | rfl | rfl | rfl | rfl
    all_goals
     clear h4 h9
     go_enter Tryz.func67,Tryz.ntmps67
     go_wp2_with fail
     refine (uh cd).mono ?_
     rintro e w4 ⟨jC,jE,jI,dC,dE,dI,rfl,hcap,l1,l2,l3,n1,n2,n3,hL,hg⟩
     have hX:Hid (Cr.Frm v (((((((((((w4.setCell ⟨P,0,none⟩ (.int .i64 (s 0))).setCell ⟨P,1,none⟩ (.int .i64 (s 1))).setCell ⟨P,2,none⟩ (.int .i64 (s 2))).setCell ⟨P,3,none⟩ (.int .i64 (s 3))).setCell ⟨P,4,none⟩ (.slice (some ⟨jC,0,none⟩) 384 dC)).setCell ⟨P,5,none⟩ (.slice (some ⟨jE,0,none⟩) 32 dE)).setCell ⟨P,6,none⟩ (.slice (some ⟨jI,0,none⟩) 40 dI)).setCell ⟨P,7,none⟩ (.int .i64 (G 0))).setCell ⟨P,8,none⟩ (.int .i64 (G 1))).setCell ⟨P,9,none⟩ (.int .i64 (G 2))).setCell ⟨P,10,none⟩ (.int .i64 (G 3))) P jC jE jI dC dE dI how inp sp met left s G c F J):=(uh hh).over (s':=s) (g':=G) (dI:=dI) hcap l1 l2 l3 n1 n2 n3 hL hg
     obtain ⟨y0,y1,y2,y3,y4,y5,y6,y7,y8,y9,y10⟩:=((uh hh).on hg).eleven
     have fB:=((uh hh).on hg).box.free
     clear hcap l1 l2 l3 n1 n2 n3 hL hg cd b0 b1 b2 b3 b4 b5 b6 b7 b8 b9 b10 hh
     unfold Gd.world
     go_wp2
     go_end0
     exact ⟨rfl,jC,jE,jI,dC,dE,dI,uh hX⟩
   ·obtain ⟨rfl,rfl,rfl⟩:=uh hnone (by omega) (by omega) (by omega) (by omega) (by omega)
    have v1:(u == 1)=false:=by simp;omega
    have v2:(u == 2)=false:=by simp;omega
    have v3:(u == 3)=false:=by simp;omega
    have v4:(u == 4)=false:=by simp;omega
    have v5:(u == 5)=false:=by simp;omega
    have v6:(u == 6)=false:=by simp;omega
    have v7:(u == 7)=false:=by simp;omega
    have v8:(u == 8)=false:=by simp;omega
    have v9:(u == 9)=false:=by simp;omega
    have v10:(u == 10)=false:=by simp;omega
    clear h4 h9 h5 cd hnone b0 b1 b2 b3 b4 b5 b6 b7 b8 b9 b10
    go_enter Tryz.func67,Tryz.ntmps67
    go_wp2
    go_end0
    exact ⟨rfl,gC,gE,gI,cC,cE,cI,uh hh⟩


open Go.RowKit

def Cr.MoveTo (v:World) (P:Nat) (how inp:Nat→Int) (sp:Nat→Bool) (met:Bool) (s c:Nat→Int) (p:Cr.M→Prop) (e:Ending) (x:World):Prop :=
 ∃n:Cr.M,p n∧Cr.Goes v P how inp sp met n.left s n.g c n.E n.I e x

set_option maxRecDepth 8000 in
set_option maxHeartbeats 6400000 in
theorem cMove_any (v x:World) (P gC gE gI cC cE cI:Nat) (how inp:Nat→Int) (sp:Nat→Bool) (met left:Bool) (s g c:Nat→Int) (E I:Nat→Nat→Int) (t k:Nat) (h:Cr.Frm v x P gC gE gI cC cE cI how inp sp met left s g c E I) (hS:Cr.Sane c E I) (hG:Cr.Gold g) (ht:t<4) (hk:k<32) (hh:Gd.hero E (t:Int)=(k:Int)) (k1:E k 0=1) (hst:¬0<E k 10) :
  Calls Tryz.prog 43 #[.pointer (some ⟨P,0,none⟩),.int .i64 (t:Int),.int .i64 (k:Int)] x (Cr.MoveTo v P how inp sp met s c (Cr.Moved s c (t:Int) (how t) (inp t) ⟨g,E,I,left⟩)):=by
 have ht':(t:Int)<4:=by omega
 have hF:=hide h
 have hSa:=hide hS
 have hGo:=hide hG
 have HK:=hide (And.intro hk k1)
 obtain ⟨a0,a1,-⟩:=h.act ht
 have hyes:Hid (∀u,(how t=1∨how t=2)→(if how t=2 then Md.IsRobot c E I (t:Int) u else u=inp t)→Cr.Moved s c (t:Int) (how t) (inp t) ⟨g,E,I,left⟩ (Cr.does s c ⟨g,E,I,left⟩ (t:Int) k u)):=fun u h1 h2=>(show _ by
  unfold Cr.Moved
  show if Gd.hero E (t:Int)<0∨0<E (Gd.hero E (t:Int)).toNat 10∨(how t≠1∧how t≠2) then _ else _
  rw [hh,Int.toNat_natCast,if_neg (by omega)]
  exact ⟨u,h2,rfl⟩)
 have hnot:Hid (how t≠1→how t≠2→Cr.Moved s c (t:Int) (how t) (inp t) ⟨g,E,I,left⟩ ⟨g,E,I,left⟩):=fun h1 h2=>(show _ by
  unfold Cr.Moved
  show if Gd.hero E (t:Int)<0∨0<E (Gd.hero E (t:Int)).toNat 10∨(how t≠1∧how t≠2) then _ else _
  rw [if_pos (.inr (.inr ⟨h1,h2⟩))])
 have cd:=hide (fun u z (hz:Cr.Frm v z P gC gE gI cC cE cI how inp sp met left s g c E I)=>cDo_any v z P gC gE gI cC cE cI how inp sp met left s g c E I t k u hz hS hG hk k1)
 have cr:=hide (mindsRobot_any s g c E I gC gE gI cC cE cI (t:Int) x h.lists hS.fit.cells h.cap.1 h.cap.2 hS.good)
 obtain ⟨H,hH⟩:∃H,how t=H:=⟨_,rfl⟩
 obtain ⟨N,hN⟩:∃N,inp t=N:=⟨_,rfl⟩
 rw [hH] at a0 hyes hnot
 rw [hN] at a1 hyes hnot
 rw [hH,hN]
 obtain ⟨b0,b1,b2,b3,b4,b5,b6,b7,b8,b9,b10⟩:=h.eleven
 clear h hS hG hk hh k1 hst hH hN ht
 by_cases h2:H=2
 ·subst h2
  unfold Gd.world at cr
  have hy2:Hid (∀u,Md.IsRobot c E I (t:Int) u→Cr.Moved s c (t:Int) 2 N ⟨g,E,I,left⟩ (Cr.does s c ⟨g,E,I,left⟩ (t:Int) k u)):=fun u h=>uh hyes u (.inr rfl) (by rw [if_pos rfl];exact h)
  clear hnot hyes
  go_enter Tryz.func43,Tryz.ntmps43
  go_wp2_with fail
  refine (uh cr).mono ?_
  rintro e w1 ⟨u,hu,rfl,hg⟩
  have hm:=hide (uh hy2 u hu)
  have cd':=hide (uh cd u w1 ((uh hF).on hg))
  clear hu hg cr cd hy2 b0 b1 b2 b3 b4 b5 b6 b7 b8 b9 b10 a0 a1 hF
  go_wp2_with fail
  refine (uh cd').mono ?_
  rintro e w2 ⟨rfl,hfin⟩
  have hfin':=hide hfin
  clear hfin cd'
  go_wp2
  go_end0
  exact ⟨_,uh hm,rfl,uh hfin'⟩
 ·have e2:(H == 2)=false:=by simpa using h2
  by_cases h1:H=1
  ·subst h1
   have hm:=hide (uh hyes N (.inl rfl) (by rw [if_neg (by omega)]))
   have cd':=hide (uh cd N x (uh hF))
   clear cr cd hyes hnot b0 b1 b2 b3 b4 b5 b6 b7 b8 b9 b10 hF h2
   go_enter Tryz.func43,Tryz.ntmps43
   go_wp2_with fail
   refine (uh cd').mono ?_
   rintro e w2 ⟨rfl,hfin⟩
   have hfin':=hide hfin
   clear hfin cd'
   go_wp2
   go_end0
   exact ⟨_,uh hm,rfl,uh hfin'⟩
  ·have e1:(H == 1)=false:=by simpa using h1
   have hm:=hide (uh hnot h1 h2)
   clear cr cd hyes hnot b0 b1 b2 b3 b4 b5 b6 b7 b8 b9 b10 h1 h2
   go_enter Tryz.func43,Tryz.ntmps43
   go_wp2
   go_end0
   exact ⟨_,uh hm,rfl,gC,gE,gI,cC,cE,cI,uh hF⟩

set_option maxRecDepth 8000 in
set_option maxHeartbeats 6400000 in
theorem cAct_any (v x:World) (P gC gE gI cC cE cI:Nat) (how inp:Nat→Int) (sp:Nat→Bool) (met left:Bool) (s g c:Nat→Int) (E I:Nat→Nat→Int) (h:Cr.Frm v x P gC gE gI cC cE cI how inp sp met left s g c E I) (hS:Cr.Sane c E I) (hG:Cr.Gold g) :
  Calls Tryz.prog 25 #[.pointer (some ⟨P,0,none⟩)] x (Cr.MoveTo v P how inp sp met s c (Cr.MovedTo s c how inp 4 ⟨g,E,I,left⟩)):=by
 have hF:=hide h
 have hfit:Hid (∀t n,Cr.MovedTo s c how inp t ⟨g,E,I,left⟩ n→Cr.MFit c n):=fun t n hn=>Cr.MFit.movedTo (m:=⟨g,E,I,left⟩) ⟨hS,hG⟩ hn
 clear h hS hG
 go_enter Tryz.func25,Tryz.ntmps25
 go_wp2_with fail
 go_loopw [4] (fun v4 wr=>∃(t g1 g2 g3 c1 c2 c3:Nat) (m:Cr.M),t≤4∧v4=.int .i64 (t:Int)∧Hid (Cr.MovedTo s c how inp t ⟨g,E,I,left⟩ m)∧Hid (Cr.Frm v wr P g1 g2 g3 c1 c2 c3 how inp sp met m.left s m.g c m.E m.I)) (fun v4 _=>10 - (intOf v4).toNat)
 case atStart=>exact ⟨0,gC,gE,gI,cC,cE,cI,⟨g,E,I,left⟩,by omega,rfl,rfl,hF⟩
 case round =>
  clear hF
  obtain ⟨t,g1,g2,g3,c1,c2,c3,m,ht,rfl,hm,hF⟩:=hrel
  by_cases hlt:t<4
  ·have hlt':(t:Int)<4:=by omega
   have HL:=hide hlt
   have hsn:=hide (uh hfit t m (uh hm))
   obtain ⟨G,E,I,L⟩:=m
   have b5:=(uh hF).eleven.2.2.2.2.2.1
   have ch:=hero_any g2 32 c2 E (t:Int) wr (uh hF).lists.own.ents (uh hF).cap.1
   have hp:=@Gd.hero_pos E (t:Int)
   change Calls _ _ _ _ (Says wr (.int .i64 (Gd.hero E (t:Int)))) at ch
   have hskip:Hid (∀n,(Gd.hero E (t:Int)<0∨0<E (Gd.hero E (t:Int)).toNat 10)→n=⟨G,E,I,L⟩→Cr.MovedTo s c how inp (t+1) _ n):=fun n h1 h2=>⟨_,uh hm,(show Cr.Moved s c (t:Int) (how t) (inp t) ⟨G,E,I,L⟩ n by unfold Cr.Moved;rw [if_pos (by rcases h1 with h | h;exact .inl h;exact .inr (.inl h))];exact h2)⟩
   obtain ⟨z,hz⟩:∃z,Gd.hero E (t:Int)=z:=⟨_,rfl⟩
   rw [hz] at ch hp hskip
   have ch':=hide ch
   have hp':=hide hp
   have hz':=hide hz
   clear hlt ht ch hp hz
   go_upto_region 4 with (go_at_call 38;refine (uh ch').mono ?_;rintro e w1 ⟨rfl,hg1⟩)
   have hF1:=hide ((uh hF).on hg1)
   clear hg1 ch' b5 hF
   by_cases h0:0≤z
   ·obtain ⟨k,hk,rfl,k2,k1⟩:=uh hp' h0
    have hk':(k:Int)<32:=by omega
    have hge:(k:Int)≥0:=by omega
    have HK:=hide hk
    have HK1:=hide k1
    have b5:=(uh hF1).eleven.2.2.2.2.2.1
    obtain ⟨r0,r1,r2,r3,r4,r5,r6,r7,r8,r9,r10⟩:=(uh hF1).lists.own.ents.row hk
    have cs:=hide (cIsStunned_any (E k) w1)
    obtain ⟨b,hb⟩:∃b,decide (0<E k 10)=b:=⟨_,rfl⟩
    rw [hb] at cs
    have hb':=hide hb
    unfold En.cells at cs
    clear hp' h0 hk k1 k2 hb
    go_wp2_with fail
    refine (uh cs).mono ?_
    rintro e w2 ⟨rfl,hg2⟩
    have hF2:=hide ((uh hF1).on hg2)
    clear hg2 cs b5 r0 r1 r2 r3 r4 r5 r6 r7 r8 r9 r10 hF1
    cases b
    ·have cm:=hide (cMove_any v w2 P g1 g2 g3 c1 c2 c3 how inp sp met L s G c E I t k (uh hF2) (uh hsn).1 (uh hsn).2 (uh HL) (uh HK) (uh hz') (uh HK1) (of_decide_eq_false (uh hb')))
     clear hskip
     go_wp2_with fail
     refine (uh cm).mono ?_
     rintro e w3 ⟨n,hn,rfl,j1,j2,j3,d1,d2,d3,hF3⟩
     have hn':Hid (Cr.MovedTo s c how inp (t+1) _ n):=⟨_,uh hm,hn⟩
     have hF3':=hide hF3
     clear hn hF3 cm hF2
     go_wp2
     go_roundw
     case rel=>exact ⟨t+1,j1,j2,j3,d1,d2,d3,n,by have:=uh HL;omega,by go_num,hn',hF3'⟩
     case measure=>simp [intOf];have:=uh HL;omega
    ·have hn':=hide (uh hskip ⟨G,E,I,L⟩ (.inr (by rw [Int.toNat_natCast];exact of_decide_eq_true (uh hb'))) rfl)
     clear hskip
     go_wp2
     go_roundw
     case rel=>exact ⟨t+1,g1,g2,g3,c1,c2,c3,⟨G,E,I,L⟩,by have:=uh HL;omega,by go_num,hn',hF2⟩
     case measure=>simp [intOf];have:=uh HL;omega
   ·have hnge:¬z≥0:=by omega
    have hn':=hide (uh hskip ⟨G,E,I,L⟩ (.inl (by omega)) rfl)
    clear hskip hp' h0
    go_wp2
    go_roundw
    case rel=>exact ⟨t+1,g1,g2,g3,c1,c2,c3,⟨G,E,I,L⟩,by have:=uh HL;omega,by go_num,hn',hF1⟩
    case measure=>simp [intOf];have:=uh HL;omega
  ·obtain rfl:t=4:=by omega
   have hge:¬((4:Nat):Int)<4:=by omega
   clear hlt ht
   go_wp2
   go_end0
   exact ⟨m,uh hm,rfl,g1,g2,g3,c1,c2,c3,uh hF⟩

end Go.Proofs.YtbanjoflgoiegabGreat
