import Derived.Test.YtbanjoflgoiegabGreatPf37
import Derived.Test.YtbanjoflgoiegabGreatPf38
import Derived.Test.YtbanjoflgoiegabGreatPf40
import Derived.BigRegion
namespace Go.Proofs.YtbanjoflgoiegabGreat
open Go.RowKit

theorem Cr.act_walk {s c:Nat→Int} {E I:Nat→Nat→Int} (h:Cr.Sane c E I) {k:Nat} (hk:k<32) (k0:E k 0≠0) (d:Int):Cr.act s c E I k d (decide (E k 0≠1))=(if 0≤Cr.who E k d then (if (decide (E k 0=1) != decide (E (Cr.who E k d).toNat 0=1))=true then (Ft.hitE s E I (k:Int) (Cr.who E k d),Ft.hitI s E I (k:Int) (Cr.who E k d)) else (E,I)) else if Gr.walkB (Gr.at 384 c (E k 3+(Fx.way d).1) (E k 4+(Fx.way d).2))=true then (Cr.go E k (E k 3+(Fx.way d).1) (E k 4+(Fx.way d).2),I) else (E,I)):=by
 unfold Cr.act
 by_cases hd:d<1∨4<d
 ·rw [if_pos hd]
  have hw:Cr.who E k d=(k:Int):=by
   unfold Cr.who
   rw [Fx.way_none d hd]
   show En.first (En.atQ E (E k 3+0) (E k 4+0)) 32=_
   rw [Int.add_zero,Int.add_zero]
   rcases En.first_cases (En.atQ E (E k 3) (E k 4)) 32 with ⟨_,hno⟩ | ⟨j,hj,he,hq,_⟩
   ·have:=hno k hk
    simp [En.atQ,k0] at this
   ·have hq':E j 0≠0∧E j 3=E k 3∧E j 4=E k 4:=by simpa [En.atQ] using hq
    rw [he,h.set.stands.apart j k hj hk hq'.1 k0 hq'.2.1 hq'.2.2]
  rw [hw,if_pos (by omega),Int.toNat_natCast,if_neg (by simp)]
 ·rw [if_neg hd]
  by_cases h0:0≤Cr.who E k d
  ·rw [if_pos h0,if_pos h0]
   by_cases a:E k 0=1
   ·by_cases b:E (Cr.who E k d).toNat 0=1 <;> simp [a,b]
   ·by_cases b:E (Cr.who E k d).toNat 0=1 <;> simp [a,b]
  ·rw [if_neg h0,if_neg h0]

set_option maxRecDepth 8000 in
set_option maxHeartbeats 12800000 in
theorem cWalk_any (v x:World) (P gC gE gI cC cE cI:Nat) (how inp:Nat→Int) (sp:Nat→Bool) (met left:Bool) (s g c:Nat→Int) (E I:Nat→Nat→Int) (k:Nat) (d:Int) (h:Cr.Frm v x P gC gE gI cC cE cI how inp sp met left s g c E I) (hS:Cr.Sane c E I) (hk:k<32) (k0:E k 0≠0) :
  Calls Tryz.prog 45 #[.pointer (some ⟨P,0,none⟩),.int .i64 (k:Int),.int .i64 d] x (Cr.Goes v P how inp sp met left s g c (Cr.act s c E I k d (decide (E k 0≠1))).1 (Cr.act s c E I k d (decide (E k 0≠1))).2):=by
 have hfit:=hide hS.fit
 have HK:=hide hk
 have hk':(k:Int)<32:=by omega
 have k1:=hS.set.stands.on k hk k0
 have wb:=Fx.way_bd d
 rw [Cr.act_walk hS hk k0 d]
 have hwho:Hid (Cr.who E k d=En.first (En.atQ E (E k 3+(Fx.way d).1) (E k 4+(Fx.way d).2)) 32):=rfl
 rw [uh hwho]
 have cw:=hide (fun wq=>way_any d wq)
 have cz:=hide (fun z (hz:Cr.Frm v z P gC gE gI cC cE cI how inp sp met left s g c E I)=>entAt_any gE 32 cE E (E k 3+(Fx.way d).1) (E k 4+(Fx.way d).2) z hz.lists.own.ents hz.cap.1)
 have ca:=hide (fun z (hz:Cr.Frm v z P gC gE gI cC cE cI how inp sp met left s g c E I)=>at_any z.heap.size (some ⟨gC,0,none⟩) 384 cC c (E k 3+(Fx.way d).1) (E k 4+(Fx.way d).2) z hz.lists.vec hS.fit.cells)
 have ck:=hide (fun wq=>walk_any (Gr.at 384 c (E k 3+(Fx.way d).1) (E k 4+(Fx.way d).2)) wq)
 have x1:IntKind.i64.wrap (E k 3+(Fx.way d).1)=E k 3+(Fx.way d).1:=by rw [IntKind.wrap_i64];omega
 have y1:IntKind.i64.wrap (E k 4+(Fx.way d).2)=E k 4+(Fx.way d).2:=by rw [IntKind.wrap_i64];omega
 obtain ⟨z,hz⟩:∃z,En.first (En.atQ E (E k 3+(Fx.way d).1) (E k 4+(Fx.way d).2)) 32=z:=⟨_,rfl⟩
 have hzr:Hid (z=-1∨∃j:Nat,j<32∧z=(j:Int)):=by
  show z=-1∨∃j:Nat,j<32∧z=(j:Int)
  rw [←hz]
  rcases En.first_cases (En.atQ E (E k 3+(Fx.way d).1) (E k 4+(Fx.way d).2)) 32 with ⟨he,_⟩ | ⟨j,hj,he,_⟩
  ·exact .inl he
  ·exact .inr ⟨j,hj,he⟩
 obtain ⟨A,hA⟩:∃A,Gr.at 384 c (E k 3+(Fx.way d).1) (E k 4+(Fx.way d).2)=A:=⟨_,rfl⟩
 obtain ⟨wk,hwk⟩:∃wk,Gr.walkB A=wk:=⟨_,rfl⟩
 rw [hz] at cz ⊢
 rw [hA] at ca ck ⊢
 rw [hwk] at ck ⊢
 obtain ⟨dx,hdx⟩:∃dx,(Fx.way d).1=dx:=⟨_,rfl⟩
 obtain ⟨dy,hdy⟩:∃dy,(Fx.way d).2=dy:=⟨_,rfl⟩
 rw [hdx] at cw cz ca x1 ⊢
 rw [hdy] at cw cz ca y1 ⊢
 obtain ⟨R,hR⟩:∃R,(if 0≤z then (if (decide (E k 0=1) != decide (E z.toNat 0=1))=true then (Ft.hitE s E I (k:Int) z,Ft.hitI s E I (k:Int) z) else (E,I)) else if wk=true then (Cr.go E k (E k 3+dx) (E k 4+dy),I) else (E,I))=R:=⟨_,rfl⟩
 rw [hR]
 have hR':=hide hR
 obtain ⟨w0,hw0⟩:∃w0,w0=x.alloc (.cells (En.cells (E k)) 42):=⟨_,rfl⟩
 have hg0:x.grownBy w0 none:=by rw [hw0];exact World.grownBy_alloc _ _ _
 have hQ:Hid (Lie w0 x.heap.size 42 11 (Ints (E k))):=by rw [hw0];exact Lie.copied _ _ _
 have hF0:=hide (h.on hg0)
 have b5:=h.eleven.2.2.2.2.2.1
 obtain ⟨r0,r1,r2,r3,r4,r5,r6,r7,r8,r9,r10⟩:=h.lists.own.ents.row hk
 clear h hS hk k0 k1 wb hwho hz hA hwk hdx hdy hR hg0
 unfold En.cells at hw0
 go_enter Tryz.func45,Tryz.ntmps45
 go_upto_region 1 with fail
 rw [←hw0]
 clear hw0 b5 r0 r1 r2 r3 r4 r5 r6 r7 r8 r9 r10
 obtain ⟨Q,hQe⟩:∃Q,x.heap.size=Q:=⟨_,rfl⟩
 rw [hQe] at hQ ⊢
 clear hQe
 go_wp2_with fail
 refine (uh cw _).mono ?_
 rintro e wy ⟨rfl,hy⟩
 subst wy
 clear cw
 go_upto_region 2 with fail
 go_cut [9,10] from 25 (fun va vb wx=>va=.int .i64 (E k 3+dx)∧vb=.int .i64 (E k 4+dy)∧Hid (Cr.Frm v wx P gC gE gI cC cE cI how inp sp met left s g c E I)∧Hid (Lie wx Q 42 11 (Ints (E k))))
 case first =>
  have q3:=(uh hQ).ent.2.2.2.1
  have q4:=(uh hQ).ent.2.2.2.2.1
  go_quiet (fail)
  go_wp2_with fail
  go_meet
  exact ⟨rfl,rfl,(uh hF0).on (gdw (World.grownBy.refl _ none) _),(uh hQ).on (gdw (World.grownBy.refl _ none) _)⟩
 case rest =>
  clear hF0 hQ x1 y1
  obtain ⟨rfl,rfl,hF1,hQ⟩:=hcut
  have b5:=(uh hF1).eleven.2.2.2.2.2.1
  have cz':=hide (uh cz _ (uh hF1))
  go_wp2_with fail
  refine (uh cz').mono ?_
  rintro e w1 ⟨rfl,hg1⟩
  have hF2:=hide ((uh hF1).on hg1)
  have hQ2:=hide ((uh hQ).on hg1)
  clear hg1 b5 cz cz' hF1 hQ
  rcases uh hzr with rfl | ⟨j,hj,rfl⟩
  ·have hR2:Hid ((if wk=true then (Cr.go E k (E k 3+dx) (E k 4+dy),I) else (E,I))=R):=(if_neg (by decide)).symm.trans (uh hR')
   have ca':=hide (fun z (hz:Cr.Frm v z P gC gE gI cC cE cI how inp sp met left s g c E I)=>uh ca z hz)
   have hng:decide ((-1:Int)≥0)=false:=by decide
   clear hzr hR' ca
   go_upto_region 4 with fail
   go_cut [41] from 42 (fun va wx=>va=.bool false∧Hid (Cr.Frm v wx P gC gE gI cC cE cI how inp sp met left s g c E I))
   case first =>
    go_quiet (fail)
    go_wp2_with fail
    go_meet
    exact ⟨rfl,(uh hF2).on (gdw (World.grownBy.refl _ none) _)⟩
   case rest =>
    clear hF2 hQ2 hng
    obtain ⟨rfl,hF3⟩:=hcut
    have b4:=(uh hF3).eleven.2.2.2.2.1
    have ca2:=hide (uh ca' _ (uh hF3))
    go_wp2_with fail
    refine (uh ca2).mono ?_
    rintro e wy ⟨rfl,hy⟩
    subst wy
    go_wp2_with fail
    refine (uh ck _).mono ?_
    rintro e wy ⟨rfl,hy⟩
    subst wy
    clear ca' ca2 ck b4
    cases wk
    ·obtain rfl:(E,I)=R:=(show (E,I)=R by rw [←uh hR2,if_neg (by simp)])
     clear hR2
     go_wp2
     go_end0
     exact ⟨rfl,gC,gE,gI,cC,cE,cI,uh hF3⟩
    ·obtain rfl:(Cr.go E k (E k 3+dx) (E k 4+dy),I)=R:=(show (Cr.go E k (E k 3+dx) (E k 4+dy),I)=R by rw [←uh hR2,if_pos rfl])
     clear hR2
     have hgo:Hid (Cr.go E k (E k 3+dx) (E k 4+dy)=Gd.set (Gd.set E k 3 (E k 3+dx)) k 4 (E k 4+dy)):=rfl
     have hfin:Hid (∀wx,Cr.Frm v wx P gC gE gI cC cE cI how inp sp met left s g c (Gd.set (Gd.set E k 3 (E k 3+dx)) k 4 (E k 4+dy)) I→Cr.Goes v P how inp sp met left s g c (Cr.go E k (E k 3+dx) (E k 4+dy),I).1 (Cr.go E k (E k 3+dx) (E k 4+dy),I).2 (.returned (.tuple #[])) wx):=fun wx hx=>⟨rfl,gC,gE,gI,cC,cE,cI,hx⟩
     obtain ⟨X,hXe⟩:∃X,E k 3+dx=X:=⟨_,rfl⟩
     obtain ⟨Y,hYe⟩:∃Y,E k 4+dy=Y:=⟨_,rfl⟩
     rw [hXe,hYe] at hfin
     rw [hXe,hYe]
     have hX':=hide hXe
     have hY':=hide hYe
     clear hXe hYe hgo
     go_upto_region 7 with fail
     have b5:=(uh hF3).eleven.2.2.2.2.2.1
     have fE:=(uh hF3).lists.ents.free
     have r3:=((uh hF3).lists.own.ents.row (uh HK)).2.2.2.1
     have r4:=((uh hF3).lists.own.ents.row (uh HK)).2.2.2.2.1
     have hTE:P≠gE:=(uh hF3).apart.2.1
     have hET:gE≠P:=hTE.symm
     have hst:=hide (((uh hF3).stat k 3 (by omega) X).stat k 4 (by omega) Y)
     have hst':=hide (fun y hy=>uh hfin _ ((uh hst).on (y:=y) hy))
     go_region
     all_goals (go_wp2;go_end0;rw [uh hX',uh hY'];exact uh hst' _ (gd1 (World.grownBy.refl _ none)))
  ·have hj':(j:Int)<32:=by omega
   have hjp:decide ((j:Int)≥0)=true:=by simp
   have hjn:decide ((j:Int)<0)=false:=by simp
   have HJ:=hide hj
   have hR2:Hid ((if (decide (E k 0=1) != decide (E j 0=1))=true then (Ft.hitE s E I (k:Int) (j:Int),Ft.hitI s E I (k:Int) (j:Int)) else (E,I))=R):=(if_pos (Int.natCast_nonneg j)).symm.trans (uh hR')
   have c1:=hide (fun z=>cIsHero_any (E k) z)
   have c2:=hide (fun z=>cIsHero_any (E j) z)
   obtain ⟨bk,hbk⟩:∃b,decide (E k 0=1)=b:=⟨_,rfl⟩
   obtain ⟨bj,hbj⟩:∃b,decide (E j 0=1)=b:=⟨_,rfl⟩
   rw [hbk] at c1 hR2
   rw [hbj] at c2 hR2
   unfold En.cells at c1 c2
   clear hzr hR' ca ck hbk hbj hj
   go_upto_region 4 with fail
   go_cut [41] from 42 (fun va wx=>va=.bool (bk != bj)∧Hid (Cr.Frm v wx P gC gE gI cC cE cI how inp sp met left s g c E I))
   case first =>
    refine wp_region_grown (by kernel_rfl) (by kernel_rfl) ?_
    intro St hN W hI hx
    have q0:=fun σ=>((uh hQ2).on (hI σ)).ent.1
    have q1:=fun σ=>((uh hQ2).on (hI σ)).ent.2.1
    have q2:=fun σ=>((uh hQ2).on (hI σ)).ent.2.2.1
    have q3:=fun σ=>((uh hQ2).on (hI σ)).ent.2.2.2.1
    have q4:=fun σ=>((uh hQ2).on (hI σ)).ent.2.2.2.2.1
    have q5:=fun σ=>((uh hQ2).on (hI σ)).ent.2.2.2.2.2.1
    have q6:=fun σ=>((uh hQ2).on (hI σ)).ent.2.2.2.2.2.2.1
    have q7:=fun σ=>((uh hQ2).on (hI σ)).ent.2.2.2.2.2.2.2.1
    have q8:=fun σ=>((uh hQ2).on (hI σ)).ent.2.2.2.2.2.2.2.2.1
    have q9:=fun σ=>((uh hQ2).on (hI σ)).ent.2.2.2.2.2.2.2.2.2.1
    have q10:=fun σ=>((uh hQ2).on (hI σ)).ent.2.2.2.2.2.2.2.2.2.2
    have b5:=fun σ=>((uh hF2).on (hI σ)).eleven.2.2.2.2.2.1
    have row:=fun σ=>((uh hF2).on (hI σ)).lists.own.ents.row (uh HJ)
    have r0:=fun σ=>(row σ).1
    have r1:=fun σ=>(row σ).2.1
    have r2:=fun σ=>(row σ).2.2.1
    have r3:=fun σ=>(row σ).2.2.2.1
    have r4:=fun σ=>(row σ).2.2.2.2.1
    have r5:=fun σ=>(row σ).2.2.2.2.2.1
    have r6:=fun σ=>(row σ).2.2.2.2.2.2.1
    have r7:=fun σ=>(row σ).2.2.2.2.2.2.2.1
    have r8:=fun σ=>(row σ).2.2.2.2.2.2.2.2.1
    have r9:=fun σ=>(row σ).2.2.2.2.2.2.2.2.2.1
    have r10:=fun σ=>(row σ).2.2.2.2.2.2.2.2.2.2
    have d1:=fun σ=>calls_class hI hx (uh c1 (W σ))
    have d2:=fun σ=>calls_class hI hx (uh c2 (W σ))
    have hI':=hide hI
    clear row hI hx
    repeat (go_big_quiet_step ((go_at_call 41;with_reducible first | exact d1 _ | exact d2 _)))
    refine wpQuiet_nil ?_
    rintro _ ⟨σ,rfl⟩
    have hF3:=hide ((uh hF2).on (uh hI' σ))
    obtain ⟨wq,hwq⟩:∃wq,W σ=wq:=⟨_,rfl⟩
    rw [hwq] at hF3 ⊢
    clear q0 q1 q2 q3 q4 q5 q6 q7 q8 q9 q10 b5 r0 r1 r2 r3 r4 r5 r6 r7 r8 r9 r10 d1 d2 hI' hwq
    clear σ W hN St
    go_wp2_with fail
    go_meet
    exact ⟨rfl,hF3⟩
   case rest =>
    clear hF2 hQ2 c1 c2
    obtain ⟨rfl,hF3⟩:=hcut
    obtain ⟨bb,hbb⟩:∃bb,(bk != bj)=bb:=⟨_,rfl⟩
    rw [hbb] at hR2 ⊢
    clear hbb
    cases bb
    ·obtain rfl:(E,I)=R:=(show (E,I)=R by rw [←uh hR2,if_neg (by simp)])
     clear hR2
     go_wp2
     go_end0
     exact ⟨rfl,gC,gE,gI,cC,cE,cI,uh hF3⟩
    ·obtain rfl:(Ft.hitE s E I (k:Int) (j:Int),Ft.hitI s E I (k:Int) (j:Int))=R:=(show (Ft.hitE s E I (k:Int) (j:Int),Ft.hitI s E I (k:Int) (j:Int))=R by rw [←uh hR2,if_pos rfl])
     clear hR2
     obtain ⟨b0,b1,b2,b3,b4,b5,b6,b7,b8,b9,b10⟩:=(uh hF3).eleven
     have ct:=hide (fightHit_wide s g c E I gC gE gI cC cE cI (k:Int) (j:Int) _ (uh hF3).lists (uh hfit))
     unfold Gd.world at ct
     go_wp2_with fail
     refine (uh ct).mono ?_
     rintro e w4 ⟨jC,jE,jI,dC,dE,dI,rfl,hcap,l1,l2,l3,n1,n2,n3,hL,hg⟩
     have hX:Hid (Cr.Frm v (((((((((((w4.setCell ⟨P,0,none⟩ (.int .i64 (s 0))).setCell ⟨P,1,none⟩ (.int .i64 (s 1))).setCell ⟨P,2,none⟩ (.int .i64 (s 2))).setCell ⟨P,3,none⟩ (.int .i64 (s 3))).setCell ⟨P,4,none⟩ (.slice (some ⟨jC,0,none⟩) 384 dC)).setCell ⟨P,5,none⟩ (.slice (some ⟨jE,0,none⟩) 32 dE)).setCell ⟨P,6,none⟩ (.slice (some ⟨jI,0,none⟩) 40 dI)).setCell ⟨P,7,none⟩ (.int .i64 (g 0))).setCell ⟨P,8,none⟩ (.int .i64 (g 1))).setCell ⟨P,9,none⟩ (.int .i64 (g 2))).setCell ⟨P,10,none⟩ (.int .i64 (g 3))) P jC jE jI dC dE dI how inp sp met left s g c (Ft.hitE s E I (k:Int) (j:Int)) (Ft.hitI s E I (k:Int) (j:Int))):=(uh hF3).over (s':=s) (g':=g) (dI:=dI) hcap l1 l2 l3 n1 n2 n3 hL hg
     obtain ⟨y0,y1,y2,y3,y4,y5,y6,y7,y8,y9,y10⟩:=((uh hF3).on hg).eleven
     have fB:=((uh hF3).on hg).box.free
     clear hcap l1 l2 l3 n1 n2 n3 hL hg ct b0 b1 b2 b3 b4 b5 b6 b7 b8 b9 b10 hF3
     unfold Gd.world
     go_wp2
     go_end0
     exact ⟨rfl,jC,jE,jI,dC,dE,dI,uh hX⟩

end Go.Proofs.YtbanjoflgoiegabGreat
