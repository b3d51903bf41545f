import Derived.Test.YtbanjoflgoiegaaGreatPs34
import Derived.Test.YtbanjoflgoiegaaGreatPs35
import Derived.Test.YtbanjoflgoiegaaGreatPs38
import Derived.BigRegion
namespace Go.Proofs.YtbanjoflgoiegaaGreat
open Go.RowKit

theorem Cr.act_walk {s c:Nat→Int} {E I:Nat→Nat→Int} (h:Cr.Sane c E I) {k:Nat} (hk:k<32) (k0:E k 0≠0) (d:Int):Cr.act s c E I k d (decide (E k 0≠1))=(if 0≤Cr.who E k d then (if (decide (E k 0=1) != decide (E (Cr.who E k d).toNat 0=1))=true then (Ft.hitE s E I (k:Int) (Cr.who E k d),Ft.hitI s E I (k:Int) (Cr.who E k d)) else (E,I)) else if Gr.walkB (Gr.at 384 c (E k 3+(Fx.way d).1) (E k 4+(Fx.way d).2))=true then (Cr.go E k (E k 3+(Fx.way d).1) (E k 4+(Fx.way d).2),I) else (E,I)):=by
 unfold Cr.act
 by_cases hd:d<1∨4<d
 ·rw [if_pos hd]
  have hw:Cr.who E k d=(k:Int):=by
   unfold Cr.who
   rw [Fx.way_none d hd]
   show En.first (En.atQ E (E k 3+0) (E k 4+0)) 32=_
   rw [Int.add_zero,Int.add_zero]
   rcases En.first_cases (En.atQ E (E k 3) (E k 4)) 32 with ⟨_,hno⟩ | ⟨j,hj,he,hq,_⟩
   ·have:=hno k hk
    simp [En.atQ,k0] at this
   ·have hq':E j 0≠0∧E j 3=E k 3∧E j 4=E k 4:=by simpa [En.atQ] using hq
    rw [he,h.set.stands.apart j k hj hk hq'.1 k0 hq'.2.1 hq'.2.2]
  rw [hw,if_pos (by omega),Int.toNat_natCast,if_neg (by simp)]
 ·rw [if_neg hd]
  by_cases h0:0≤Cr.who E k d
  ·rw [if_pos h0,if_pos h0]
   by_cases a:E k 0=1
   ·by_cases b:E (Cr.who E k d).toNat 0=1 <;> simp [a,b]
   ·by_cases b:E (Cr.who E k d).toNat 0=1 <;> simp [a,b]
  ·rw [if_neg h0,if_neg h0]

set_option maxRecDepth 8000 in
set_option maxHeartbeats 12800000 in
theorem cWalk_any (v x:World) (P gC gE gI cC cE cI:Nat) (how inp:Nat→Int) (sp:Nat→Bool) (met left:Bool) (s g c:Nat→Int) (E I:Nat→Nat→Int) (k:Nat) (d:Int) (h:Cr.Frm v x P gC gE gI cC cE cI how inp sp met left s g c E I) (hS:Cr.Sane c E I) (hk:k<32) (k0:E k 0≠0) :
  Calls Tryz.prog 75 #[.pointer (some ⟨P,0,none⟩),.int .i64 (k:Int),.int .i64 d] x (Cr.Goes v P how inp sp met left s g c (Cr.act s c E I k d (decide (E k 0≠1))).1 (Cr.act s c E I k d (decide (E k 0≠1))).2):=by
 have hfit:=hide hS.fit
 have HK:=hide hk
 have hk':(k:Int)<32:=by omega
 have k1:=hS.set.stands.on k hk k0
 have wb:=Fx.way_bd d
 rw [Cr.act_walk hS hk k0 d]
 have hwho:Hid (Cr.who E k d=En.first (En.atQ E (E k 3+(Fx.way d).1) (E k 4+(Fx.way d).2)) 32):=rfl
 rw [uh hwho]
 have cw:=hide (fun wq=>way_any d wq)
 have cz:=hide (fun z (hz:Cr.Frm v z P gC gE gI cC cE cI how inp sp met left s g c E I)=>entAt_any gE 32 cE E (E k 3+(Fx.way d).1) (E k 4+(Fx.way d).2) z hz.lists.own.ents hz.cap.1)
 have ca:=hide (fun z (hz:Cr.Frm v z P gC gE gI cC cE cI how inp sp met left s g c E I)=>at_any z.heap.size (some ⟨gC,0,none⟩) 384 cC c (E k 3+(Fx.way d).1) (E k 4+(Fx.way d).2) z hz.lists.vec hS.fit.cells)
 have ck:=hide (fun wq=>walk_any (Gr.at 384 c (E k 3+(Fx.way d).1) (E k 4+(Fx.way d).2)) wq)
 have x1:IntKind.i64.wrap (E k 3+(Fx.way d).1)=E k 3+(Fx.way d).1:=by rw [IntKind.wrap_i64];omega
 have y1:IntKind.i64.wrap (E k 4+(Fx.way d).2)=E k 4+(Fx.way d).2:=by rw [IntKind.wrap_i64];omega
 obtain ⟨z,hz⟩:∃z,En.first (En.atQ E (E k 3+(Fx.way d).1) (E k 4+(Fx.way d).2)) 32=z:=⟨_,rfl⟩
 have hzr:Hid (z=-1∨∃j:Nat,j<32∧z=(j:Int)):=by
  show z=-1∨∃j:Nat,j<32∧z=(j:Int)
  rw [←hz]
  rcases En.first_cases (En.atQ E (E k 3+(Fx.way d).1) (E k 4+(Fx.way d).2)) 32 with ⟨he,_⟩ | ⟨j,hj,he,_⟩
  ·exact .inl he
  ·exact .inr ⟨j,hj,he⟩
 obtain ⟨A,hA⟩:∃A,Gr.at 384 c (E k 3+(Fx.way d).1) (E k 4+(Fx.way d).2)=A:=⟨_,rfl⟩
 obtain ⟨wk,hwk⟩:∃wk,Gr.walkB A=wk:=⟨_,rfl⟩
 rw [hz] at cz ⊢
 rw [hA] at ca ck ⊢
 rw [hwk] at ck ⊢
 obtain ⟨dx,hdx⟩:∃dx,(Fx.way d).1=dx:=⟨_,rfl⟩
 obtain ⟨dy,hdy⟩:∃dy,(Fx.way d).2=dy:=⟨_,rfl⟩
 rw [hdx] at cw cz ca x1 ⊢
 rw [hdy] at cw cz ca y1 ⊢
 obtain ⟨R,hR⟩:∃R,(if 0≤z then (if (decide (E k 0=1) != decide (E z.toNat 0=1))=true then (Ft.hitE s E I (k:Int) z,Ft.hitI s E I (k:Int) z) else (E,I)) else if wk=true then (Cr.go E k (E k 3+dx) (E k 4+dy),I) else (E,I))=R:=⟨_,rfl⟩
 rw [hR]
 have hR':=hide hR
 obtain ⟨w0,hw0⟩:∃w0,w0=x.alloc (.cells (En.cells (E k)) 54):=⟨_,rfl⟩
 have hg0:x.grownBy w0 none:=by rw [hw0];exact World.grownBy_alloc _ _ _
 have hQ:Hid (Lie w0 x.heap.size 54 11 (Ints (E k))):=by rw [hw0];exact Lie.copied _ _ _
 have hF0:=hide (h.on hg0)
 have b5:=h.eleven.2.2.2.2.2.1
 obtain ⟨r0,r1,r2,r3,r4,r5,r6,r7,r8,r9,r10⟩:=h.lists.own.ents.row hk
 clear h hS hk k0 k1 wb hwho hz hA hwk hdx hdy hR hg0
 unfold En.cells at hw0
 go_enter Tryz.func75,Tryz.ntmps75
 go_upto_region 1 with fail
 rw [←hw0]
 clear hw0 b5 r0 r1 r2 r3 r4 r5 r6 r7 r8 r9 r10
 obtain ⟨Q,hQe⟩:∃Q,x.heap.size=Q:=⟨_,rfl⟩
 rw [hQe] at hQ ⊢
 clear hQe
 go_wp2_with fail
 refine (uh cw _).mono ?_
 rintro e wy ⟨rfl,hy⟩
 subst wy
 clear cw
 go_upto_region 2 with fail
 go_cut [9,10] from 25 (fun va vb wx=>va=.int .i64 (E k 3+dx)∧vb=.int .i64 (E k 4+dy)∧Hid (Cr.Frm v wx P gC gE gI cC cE cI how inp sp met left s g c E I)∧Hid (Lie wx Q 54 11 (Ints (E k))))
 case first =>
  have q3:=(uh hQ).ent.2.2.2.1
  have q4:=(uh hQ).ent.2.2.2.2.1
  go_quiet (fail)
  go_wp2_with fail
  go_meet
  exact ⟨rfl,rfl,(uh hF0).on (gdw (World.grownBy.refl _ none) _),(uh hQ).on (gdw (World.grownBy.refl _ none) _)⟩
 case rest =>
  clear hF0 hQ x1 y1
  obtain ⟨rfl,rfl,hF1,hQ⟩:=hcut
  have b5:=(uh hF1).eleven.2.2.2.2.2.1
  have cz':=hide (uh cz _ (uh hF1))
  go_wp2_with fail
  refine (uh cz').mono ?_
  rintro e w1 ⟨rfl,hg1⟩
  have hF2:=hide ((uh hF1).on hg1)
  have hQ2:=hide ((uh hQ).on hg1)
  clear hg1 b5 cz cz' hF1 hQ
  rcases uh hzr with rfl | ⟨j,hj,rfl⟩
  ·have hR2:Hid ((if wk=true then (Cr.go E k (E k 3+dx) (E k 4+dy),I) else (E,I))=R):=(if_neg (by decide)).symm.trans (uh hR')
   have ca':=hide (fun z (hz:Cr.Frm v z P gC gE gI cC cE cI how inp sp met left s g c E I)=>uh ca z hz)
   have hng:decide ((-1:Int)≥0)=false:=by decide
   clear hzr hR' ca
   go_upto_region 4 with fail
   go_cut [41] from 42 (fun va wx=>va=.bool false∧Hid (Cr.Frm v wx P gC gE gI cC cE cI how inp sp met left s g c E I))
   case first =>
    go_quiet (fail)
    go_wp2_with fail
    go_meet
    exact ⟨rfl,(uh hF2).on (gdw (World.grownBy.refl _ none) _)⟩
   case rest =>
    clear hF2 hQ2 hng
    obtain ⟨rfl,hF3⟩:=hcut
    have b4:=(uh hF3).eleven.2.2.2.2.1
    have ca2:=hide (uh ca' _ (uh hF3))
    go_wp2_with fail
    refine (uh ca2).mono ?_
    rintro e wy ⟨rfl,hy⟩
    subst wy
    go_wp2_with fail
    refine (uh ck _).mono ?_
    rintro e wy ⟨rfl,hy⟩
    subst wy
    clear ca' ca2 ck b4
    cases wk
    ·obtain rfl:(E,I)=R:=(show (E,I)=R by rw [←uh hR2,if_neg (by simp)])
     clear hR2
     go_wp2
     go_end0
     exact ⟨rfl,gC,gE,gI,cC,cE,cI,uh hF3⟩
    ·obtain rfl:(Cr.go E k (E k 3+dx) (E k 4+dy),I)=R:=(show (Cr.go E k (E k 3+dx) (E k 4+dy),I)=R by rw [←uh hR2,if_pos rfl])
     clear hR2
     have hgo:Hid (Cr.go E k (E k 3+dx) (E k 4+dy)=Gd.set (Gd.set E k 3 (E k 3+dx)) k 4 (E k 4+dy)):=rfl
     have hfin:Hid (∀wx,Cr.Frm v wx P gC gE gI cC cE cI how inp sp met left s g c (Gd.set (Gd.set E k 3 (E k 3+dx)) k 4 (E k 4+dy)) I→Cr.Goes v P how inp sp met left s g c (Cr.go E k (E k 3+dx) (E k 4+dy),I).1 (Cr.go E k (E k 3+dx) (E k 4+dy),I).2 (.returned (.tuple #[])) wx):=fun wx hx=>⟨rfl,gC,gE,gI,cC,cE,cI,hx⟩
     obtain ⟨X,hXe⟩:∃X,E k 3+dx=X:=⟨_,rfl⟩
     obtain ⟨Y,hYe⟩:∃Y,E k 4+dy=Y:=⟨_,rfl⟩
     rw [hXe,hYe] at hfin
     rw [hXe,hYe]
     have hX':=hide hXe
     have hY':=hide hYe
     clear hXe hYe hgo
     go_upto_region 7 with fail
     have b5:=(uh hF3).eleven.2.2.2.2.2.1
     have fE:=(uh hF3).lists.ents.free
     have r3:=((uh hF3).lists.own.ents.row (uh HK)).2.2.2.1
     have r4:=((uh hF3).lists.own.ents.row (uh HK)).2.2.2.2.1
     have hTE:P≠gE:=(uh hF3).apart.2.1
     have hET:gE≠P:=hTE.symm
     have hst:=hide (((uh hF3).stat k 3 (by omega) X).stat k 4 (by omega) Y)
     have hst':=hide (fun y hy=>uh hfin _ ((uh hst).on (y:=y) hy))
     go_region
     all_goals (go_wp2;go_end0;rw [uh hX',uh hY'];exact uh hst' _ (gd1 (World.grownBy.refl _ none)))
  ·have hj':(j:Int)<32:=by omega
   have hjp:decide ((j:Int)≥0)=true:=by simp
   have hjn:decide ((j:Int)<0)=false:=by simp
   have HJ:=hide hj
   have hR2:Hid ((if (decide (E k 0=1) != decide (E j 0=1))=true then (Ft.hitE s E I (k:Int) (j:Int),Ft.hitI s E I (k:Int) (j:Int)) else (E,I))=R):=(if_pos (Int.natCast_nonneg j)).symm.trans (uh hR')
   have c1:=hide (fun z=>cIsHero_any (E k) z)
   have c2:=hide (fun z=>cIsHero_any (E j) z)
   obtain ⟨bk,hbk⟩:∃b,decide (E k 0=1)=b:=⟨_,rfl⟩
   obtain ⟨bj,hbj⟩:∃b,decide (E j 0=1)=b:=⟨_,rfl⟩
   rw [hbk] at c1 hR2
   rw [hbj] at c2 hR2
   unfold En.cells at c1 c2
   clear hzr hR' ca ck hbk hbj hj
   go_upto_region 4 with fail
   go_cut [41] from 42 (fun va wx=>va=.bool (bk != bj)∧Hid (Cr.Frm v wx P gC gE gI cC cE cI how inp sp met left s g c E I))
   case first =>
    refine wp_region_grown (by kernel_rfl) (by kernel_rfl) ?_
    intro St hN W hI hx
    have q0:=fun σ=>((uh hQ2).on (hI σ)).ent.1
    have q1:=fun σ=>((uh hQ2).on (hI σ)).ent.2.1
    have q2:=fun σ=>((uh hQ2).on (hI σ)).ent.2.2.1
    have q3:=fun σ=>((uh hQ2).on (hI σ)).ent.2.2.2.1
    have q4:=fun σ=>((uh hQ2).on (hI σ)).ent.2.2.2.2.1
    have q5:=fun σ=>((uh hQ2).on (hI σ)).ent.2.2.2.2.2.1
    have q6:=fun σ=>((uh hQ2).on (hI σ)).ent.2.2.2.2.2.2.1
    have q7:=fun σ=>((uh hQ2).on (hI σ)).ent.2.2.2.2.2.2.2.1
    have q8:=fun σ=>((uh hQ2).on (hI σ)).ent.2.2.2.2.2.2.2.2.1
    have q9:=fun σ=>((uh hQ2).on (hI σ)).ent.2.2.2.2.2.2.2.2.2.1
    have q10:=fun σ=>((uh hQ2).on (hI σ)).ent.2.2.2.2.2.2.2.2.2.2
    have b5:=fun σ=>((uh hF2).on (hI σ)).eleven.2.2.2.2.2.1
    have row:=fun σ=>((uh hF2).on (hI σ)).lists.own.ents.row (uh HJ)
    have r0:=fun σ=>(row σ).1
    have r1:=fun σ=>(row σ).2.1
    have r2:=fun σ=>(row σ).2.2.1
    have r3:=fun σ=>(row σ).2.2.2.1
    have r4:=fun σ=>(row σ).2.2.2.2.1
    have r5:=fun σ=>(row σ).2.2.2.2.2.1
    have r6:=fun σ=>(row σ).2.2.2.2.2.2.1
    have r7:=fun σ=>(row σ).2.2.2.2.2.2.2.1
    have r8:=fun σ=>(row σ).2.2.2.2.2.2.2.2.1
    have r9:=fun σ=>(row σ).2.2.2.2.2.2.2.2.2.1
    have r10:=fun σ=>(row σ).2.2.2.2.2.2.2.2.2.2
    have d1:=fun σ=>calls_class hI hx (uh c1 (W σ))
    have d2:=fun σ=>calls_class hI hx (uh c2 (W σ))
    have hI':=hide hI
    clear row hI hx
    repeat (go_big_quiet_step ((go_at_call 71;with_reducible first | exact d1 _ | exact d2 _)))
    refine wpQuiet_nil ?_
    rintro _ ⟨σ,rfl⟩
    have hF3:=hide ((uh hF2).on (uh hI' σ))
    obtain ⟨wq,hwq⟩:∃wq,W σ=wq:=⟨_,rfl⟩
    rw [hwq] at hF3 ⊢
    clear q0 q1 q2 q3 q4 q5 q6 q7 q8 q9 q10 b5 r0 r1 r2 r3 r4 r5 r6 r7 r8 r9 r10 d1 d2 hI' hwq
    clear σ W hN St
    go_wp2_with fail
    go_meet
    exact ⟨rfl,hF3⟩
   case rest =>
    clear hF2 hQ2 c1 c2
    obtain ⟨rfl,hF3⟩:=hcut
    obtain ⟨bb,hbb⟩:∃bb,(bk != bj)=bb:=⟨_,rfl⟩
    rw [hbb] at hR2 ⊢
    clear hbb
    cases bb
    ·obtain rfl:(E,I)=R:=(show (E,I)=R by rw [←uh hR2,if_neg (by simp)])
     clear hR2
     go_wp2
     go_end0
     exact ⟨rfl,gC,gE,gI,cC,cE,cI,uh hF3⟩
    ·obtain rfl:(Ft.hitE s E I (k:Int) (j:Int),Ft.hitI s E I (k:Int) (j:Int))=R:=(show (Ft.hitE s E I (k:Int) (j:Int),Ft.hitI s E I (k:Int) (j:Int))=R by rw [←uh hR2,if_pos rfl])
     clear hR2
     obtain ⟨b0,b1,b2,b3,b4,b5,b6,b7,b8,b9,b10⟩:=(uh hF3).eleven
     have ct:=hide (fightHit_wide s g c E I gC gE gI cC cE cI (k:Int) (j:Int) _ (uh hF3).lists (uh hfit))
     unfold Gd.world at ct
     go_wp2_with fail
     refine (uh ct).mono ?_
     rintro e w4 ⟨jC,jE,jI,dC,dE,dI,rfl,hcap,l1,l2,l3,n1,n2,n3,hL,hg⟩
     have hX:Hid (Cr.Frm v (((((((((((w4.setCell ⟨P,0,none⟩ (.int .i64 (s 0))).setCell ⟨P,1,none⟩ (.int .i64 (s 1))).setCell ⟨P,2,none⟩ (.int .i64 (s 2))).setCell ⟨P,3,none⟩ (.int .i64 (s 3))).setCell ⟨P,4,none⟩ (.slice (some ⟨jC,0,none⟩) 384 dC)).setCell ⟨P,5,none⟩ (.slice (some ⟨jE,0,none⟩) 32 dE)).setCell ⟨P,6,none⟩ (.slice (some ⟨jI,0,none⟩) 40 dI)).setCell ⟨P,7,none⟩ (.int .i64 (g 0))).setCell ⟨P,8,none⟩ (.int .i64 (g 1))).setCell ⟨P,9,none⟩ (.int .i64 (g 2))).setCell ⟨P,10,none⟩ (.int .i64 (g 3))) P jC jE jI dC dE dI how inp sp met left s g c (Ft.hitE s E I (k:Int) (j:Int)) (Ft.hitI s E I (k:Int) (j:Int))):=(uh hF3).over (s':=s) (g':=g) (dI:=dI) hcap l1 l2 l3 n1 n2 n3 hL hg
     obtain ⟨y0,y1,y2,y3,y4,y5,y6,y7,y8,y9,y10⟩:=((uh hF3).on hg).eleven
     have fB:=((uh hF3).on hg).box.free
     clear hcap l1 l2 l3 n1 n2 n3 hL hg ct b0 b1 b2 b3 b4 b5 b6 b7 b8 b9 b10 hF3
     unfold Gd.world
     go_wp2
     go_end0
     exact ⟨rfl,jC,jE,jI,dC,dE,dI,uh hX⟩


open Go.RowKit

theorem Cr.next_none {c g:Nat→Int} {E I:Nat→Nat→Int} {t v:Int} (h5:v≠5) (h6:v≠6) (h7:v≠7) (h8:v≠8) (h10:v≠10):Gd.nextG c g E I t v=g∧Gd.nextE E I t v=E∧Gd.nextI c g E I t v=I:=by
 unfold Gd.nextG Gd.nextE Gd.nextI
 by_cases hc:0≤t∧t<4∧0≤Gd.hero E t
 ·rw [if_pos hc,if_pos hc,if_pos hc]
  refine ⟨?_,?_,?_⟩
  ·unfold Gd.goldOf
   rw [if_neg h5,if_neg h10]
   exact Gd.give_same g t.toNat
  ·unfold Gd.entsOf
   rw [if_neg (fun h=>h6 h.1)]
  ·unfold Gd.act
   simp [h5,h6,h7,h8,h10]
 ·rw [if_neg hc,if_neg hc,if_neg hc]
  exact ⟨rfl,rfl,rfl⟩

set_option maxRecDepth 8000 in
set_option maxHeartbeats 12800000 in
theorem cDo_any (v x:World) (P gC gE gI cC cE cI:Nat) (how inp:Nat→Int) (sp:Nat→Bool) (met left:Bool) (s g c:Nat→Int) (E I:Nat→Nat→Int) (t k:Nat) (u:Int) (h:Cr.Frm v x P gC gE gI cC cE cI how inp sp met left s g c E I) (hS:Cr.Sane c E I) (hG:Cr.Gold g) (hk:k<32) (k1:E k 0=1) :
  Calls Tryz.prog 112 #[.pointer (some ⟨P,0,none⟩),.int .i64 (t:Int),.int .i64 (k:Int),.int .i64 u] x (Cr.Goes v P how inp sp met (Cr.does s c ⟨g,E,I,left⟩ (t:Int) k u).left s (Cr.does s c ⟨g,E,I,left⟩ (t:Int) k u).g c (Cr.does s c ⟨g,E,I,left⟩ (t:Int) k u).E (Cr.does s c ⟨g,E,I,left⟩ (t:Int) k u).I):=by
 have hk':(k:Int)<32:=by omega
 have HK:=hide hk
 have hh:=hide h
 have hSa:=hide hS
 have hfine:=hide (hS.fine hG)
 have cw:=hide (cWalk_any v x P gC gE gI cC cE cI how inp sp met left s g c E I k u h hS hk (by omega))
 rw [show decide (E k 0≠1)=false from decide_eq_false (fun h=>h k1)] at cw
 have cd:=hide (do_wide s g c E I gC gE gI cC cE cI (t:Int) u x h.lists (hS.fine hG))
 by_cases h4:1≤u∧u≤4
 ·have hd:Hid ((Cr.does s c ⟨g,E,I,left⟩ (t:Int) k u)=⟨g,(Cr.act s c E I k u false).1,(Cr.act s c E I k u false).2,left⟩):=(show _=_ by unfold Cr.does;rw [if_pos h4])
  rw [uh hd]
  obtain ⟨A,hA⟩:∃A,Cr.act s c E I k u false=A:=⟨_,rfl⟩
  rw [hA] at cw ⊢
  clear hA hd cd h hS hG hk k1 hk' hh hSa hfine
  rcases (show u=1∨u=2∨u=3∨u=4 by omega) with rfl | rfl | rfl | rfl
  all_goals
   clear h4
   go_enter Tryz.func112,Tryz.ntmps112
   go_wp2_with fail
   refine (uh cw).mono ?_
   rintro e w1 ⟨rfl,hfin⟩
   have hfin':=hide hfin
   clear hfin cw
   go_wp2
   go_end0
   exact ⟨rfl,uh hfin'⟩
 ·by_cases h9:u=9
  ·subst h9
   obtain ⟨X,hX⟩:∃X,E k 3=X:=⟨_,rfl⟩
   obtain ⟨Y,hY⟩:∃Y,E k 4=Y:=⟨_,rfl⟩
   have hd:Hid ((Cr.does s c ⟨g,E,I,left⟩ (t:Int) k 9)=⟨g,E,I,left || decide (Gr.at 384 c X Y=4)⟩):=(show _=_ by unfold Cr.does;rw [if_neg (by omega),if_pos rfl,←hX,←hY])
   rw [uh hd]
   have ca:=hide (fun z (hz:Cr.Frm v z P gC gE gI cC cE cI how inp sp met left s g c E I)=>at_any z.heap.size (some ⟨gC,0,none⟩) 384 cC c X Y z hz.lists.vec hS.fit.cells)
   obtain ⟨A,hA⟩:∃A,Gr.at 384 c X Y=A:=⟨_,rfl⟩
   rw [hA] at ca ⊢
   obtain ⟨L2,hL2⟩:∃b,(left || decide (A=4))=b:=⟨_,rfl⟩
   rw [hL2]
   have hL2':=hide hL2
   clear hL2
   obtain ⟨w0,hw0⟩:∃w0,w0=x.alloc (.cells (En.cells (E k)) 54):=⟨_,rfl⟩
   have hg0:x.grownBy w0 none:=by rw [hw0];exact World.grownBy_alloc _ _ _
   have hQ:Lie w0 x.heap.size 54 11 (Ints (E k)):=by rw [hw0];exact Lie.copied _ _ _
   have hF0:=hide (h.on hg0)
   have q3:=hQ.ent.2.2.2.1
   have q4:=hQ.ent.2.2.2.2.1
   rw [hX] at q3
   rw [hY] at q4
   have b5:=h.eleven.2.2.2.2.2.1
   obtain ⟨r0,r1,r2,r3,r4,r5,r6,r7,r8,r9,r10⟩:=h.lists.own.ents.row hk
   clear hX hY hd hA h hS hG hk k1 cw cd h4 hg0 hQ hh hSa hfine
   unfold En.cells at hw0
   go_enter Tryz.func112,Tryz.ntmps112
   go_upto_region 14 with fail
   rw [←hw0]
   clear hw0 b5 r0 r1 r2 r3 r4 r5 r6 r7 r8 r9 r10
   obtain ⟨Q,hQe⟩:∃Q,x.heap.size=Q:=⟨_,rfl⟩
   rw [hQe] at q3 q4 ⊢
   clear hQe
   go_cut [55] from 45 to 55 (fun va wx=>va=.bool (A == 4)∧Hid (Cr.Frm v wx P gC gE gI cC cE cI how inp sp met left s g c E I))
   case first =>
    have b4:=(uh hF0).eleven.2.2.2.2.1
    have ca':=hide (uh ca _ (uh hF0))
    go_quiet (first | (go_at_call 116;refine Calls.quiet_of_same (uh ca _ ?_);exact (uh hF0).on (gdw (World.grownBy.refl _ none) _)) | fail)
    go_wp2_with fail
    go_meet
    exact ⟨rfl,(uh hF0).on (gdw (World.grownBy.refl _ none) _)⟩
   case rest =>
    obtain ⟨rfl,hF1⟩:=hcut
    obtain ⟨b4,hb4⟩:∃b,(A == 4)=b:=⟨_,rfl⟩
    have hL3:(left || b4)=L2:=(show (left || b4)=L2 by rw [←hb4];exact uh hL2')
    rw [hb4]
    clear hF0 ca q3 q4 hb4 hL2'
    cases b4
    ·rw [Bool.or_false] at hL3
     subst hL3
     go_wp2
     go_end0
     exact ⟨rfl,gC,gE,gI,cC,cE,cI,uh hF1⟩
    ·rw [Bool.or_true] at hL3
     subst hL3
     have hst:=hide ((uh hF1).left true)
     have q:=(uh hF1).words.2
     have fP:=(uh hF1).box.free
     clear hF1
     go_wp2
     go_end0
     exact ⟨rfl,gC,gE,gI,cC,cE,cI,uh hst⟩
  ·have hd:Hid ((Cr.does s c ⟨g,E,I,left⟩ (t:Int) k u)=⟨Gd.nextG c g E I (t:Int) u,Gd.nextE E I (t:Int) u,Gd.nextI c g E I (t:Int) u,left⟩):=(show _=_ by unfold Cr.does;rw [if_neg h4,if_neg h9])
   rw [uh hd]
   have hnone:=hide (@Cr.next_none c g E I (t:Int) u)
   obtain ⟨G,hG2⟩:∃G,Gd.nextG c g E I (t:Int) u=G:=⟨_,rfl⟩
   obtain ⟨F,hF2⟩:∃F,Gd.nextE E I (t:Int) u=F:=⟨_,rfl⟩
   obtain ⟨J,hJ2⟩:∃J,Gd.nextI c g E I (t:Int) u=J:=⟨_,rfl⟩
   rw [hG2,hF2,hJ2] at cd hnone
   rw [hG2,hF2,hJ2]
   obtain ⟨b0,b1,b2,b3,b4,b5,b6,b7,b8,b9,b10⟩:=h.eleven
   clear hd hG2 hF2 hJ2 h hS hG hk k1 cw hSa hfine
   by_cases h5:u=5∨u=6∨u=7∨u=8∨u=10
   ·unfold Gd.world at cd
    clear hnone
    rcases h5 with rfl | rfl | rfl | rfl | rfl
    all_goals
     clear h4 h9
     go_enter Tryz.func112,Tryz.ntmps112
     go_wp2_with fail
     refine (uh cd).mono ?_
     rintro e w4 ⟨jC,jE,jI,dC,dE,dI,rfl,hcap,l1,l2,l3,n1,n2,n3,hL,hg⟩
     have hX:Hid (Cr.Frm v (((((((((((w4.setCell ⟨P,0,none⟩ (.int .i64 (s 0))).setCell ⟨P,1,none⟩ (.int .i64 (s 1))).setCell ⟨P,2,none⟩ (.int .i64 (s 2))).setCell ⟨P,3,none⟩ (.int .i64 (s 3))).setCell ⟨P,4,none⟩ (.slice (some ⟨jC,0,none⟩) 384 dC)).setCell ⟨P,5,none⟩ (.slice (some ⟨jE,0,none⟩) 32 dE)).setCell ⟨P,6,none⟩ (.slice (some ⟨jI,0,none⟩) 40 dI)).setCell ⟨P,7,none⟩ (.int .i64 (G 0))).setCell ⟨P,8,none⟩ (.int .i64 (G 1))).setCell ⟨P,9,none⟩ (.int .i64 (G 2))).setCell ⟨P,10,none⟩ (.int .i64 (G 3))) P jC jE jI dC dE dI how inp sp met left s G c F J):=(uh hh).over (s':=s) (g':=G) (dI:=dI) hcap l1 l2 l3 n1 n2 n3 hL hg
     obtain ⟨y0,y1,y2,y3,y4,y5,y6,y7,y8,y9,y10⟩:=((uh hh).on hg).eleven
     have fB:=((uh hh).on hg).box.free
     clear hcap l1 l2 l3 n1 n2 n3 hL hg cd b0 b1 b2 b3 b4 b5 b6 b7 b8 b9 b10 hh
     unfold Gd.world
     go_wp2
     go_end0
     exact ⟨rfl,jC,jE,jI,dC,dE,dI,uh hX⟩
   ·obtain ⟨rfl,rfl,rfl⟩:=uh hnone (by omega) (by omega) (by omega) (by omega) (by omega)
    have v1:(u == 1)=false:=by simp;omega
    have v2:(u == 2)=false:=by simp;omega
    have v3:(u == 3)=false:=by simp;omega
    have v4:(u == 4)=false:=by simp;omega
    have v5:(u == 5)=false:=by simp;omega
    have v6:(u == 6)=false:=by simp;omega
    have v7:(u == 7)=false:=by simp;omega
    have v8:(u == 8)=false:=by simp;omega
    have v9:(u == 9)=false:=by simp;omega
    have v10:(u == 10)=false:=by simp;omega
    clear h4 h9 h5 cd hnone b0 b1 b2 b3 b4 b5 b6 b7 b8 b9 b10
    go_enter Tryz.func112,Tryz.ntmps112
    go_wp2
    go_end0
    exact ⟨rfl,gC,gE,gI,cC,cE,cI,uh hh⟩

end Go.Proofs.YtbanjoflgoiegaaGreat
