/-
  CrawlWalk CrawlBring
-/
import Derived.Test.YtbanjoflgoiegabGreatPart36
import Derived.Test.YtbanjoflgoiegabGreatPart40
import Derived.Test.YtbanjoflgoiegabGreatPart43
import Derived.Test.YtbanjoflgoiegabGreatPart23
import Derived.Test.YtbanjoflgoiegabGreatPart28
import Derived.BigQuiet
import Derived.BigRegion
import Derived.Deep.Cut
import Derived.Deep.CutRange
import Derived.Deep.CutBlock
import Derived.Test.YtbanjoflgoiegabGreatPart41
import Derived.Test.YtbanjoflgoiegabGreatPart14
import Derived.Test.YtbanjoflgoiegabGreatPart22
import Derived.Deep.RegionHeld3
namespace Go.Proofs.YtbanjoflgoiegabGreat
open Go.RowKit

theorem Cr.act_walk {s c:Nat→Int} {E I:Nat→Nat→Int} (h:Cr.Sane c E I) {k:Nat} (hk:k<32) (k0:E k 0≠0) (d:Int):Cr.act s c E I k d (decide (E k 0≠1))=(if 0≤Cr.who E k d then (if (decide (E k 0=1) != decide (E (Cr.who E k d).toNat 0=1))=true then (Ft.hitE s E I (k:Int) (Cr.who E k d),Ft.hitI s E I (k:Int) (Cr.who E k d)) else (E,I)) else if Gr.walkB (Gr.at 384 c (E k 3+(Fx.way d).1) (E k 4+(Fx.way d).2))=true then (Cr.go E k (E k 3+(Fx.way d).1) (E k 4+(Fx.way d).2),I) else (E,I)):=by
 unfold Cr.act
 by_cases hd:d<1∨4<d
 ·rw [if_pos hd]
  have hw:Cr.who E k d=(k:Int):=by
   unfold Cr.who
   rw [Fx.way_none d hd]
   show En.first (En.atQ E (E k 3+0) (E k 4+0)) 32=_
   rw [Int.add_zero,Int.add_zero]
   rcases En.first_cases (En.atQ E (E k 3) (E k 4)) 32 with ⟨_,hno⟩ | ⟨j,hj,he,hq,_⟩
   ·have:=hno k hk
    simp [En.atQ,k0] at this
   ·have hq':E j 0≠0∧E j 3=E k 3∧E j 4=E k 4:=by simpa [En.atQ] using hq
    rw [he,h.set.stands.apart j k hj hk hq'.1 k0 hq'.2.1 hq'.2.2]
  rw [hw,if_pos (by omega),Int.toNat_natCast,if_neg (by simp)]
 ·rw [if_neg hd]
  by_cases h0:0≤Cr.who E k d
  ·rw [if_pos h0,if_pos h0]
   by_cases a:E k 0=1
   ·by_cases b:E (Cr.who E k d).toNat 0=1 <;> simp [a,b]
   ·by_cases b:E (Cr.who E k d).toNat 0=1 <;> simp [a,b]
  ·rw [if_neg h0,if_neg h0]

set_option maxRecDepth 8000 in
set_option maxHeartbeats 12800000 in
theorem cWalk_any (v x : World) (P gC gE gI cC cE cI : Nat) (how inp : Nat → Int) (sp : Nat → Bool) (met left : Bool) (s g c : Nat → Int) (E I : Nat → Nat → Int) (k : Nat) (d : Int) (h : Cr.Frm v x P gC gE gI cC cE cI how inp sp met left s g c E I) (hS : Cr.Sane c E I) (hk : k < 32) (k0 : E k 0 ≠ 0) :
    Calls Tryz.prog 45 #[.pointer (some ⟨P,0,none⟩),.int .i64 (k:Int),.int .i64 d] x (Cr.Goes v P how inp sp met left s g c (Cr.act s c E I k d (decide (E k 0≠1))).1 (Cr.act s c E I k d (decide (E k 0≠1))).2):=by
  have hfit:=hide hS.fit
  have HK:=hide hk
  have hk':(k:Int)<32:=by omega
  have k1:=hS.set.stands.on k hk k0
  have wb:=Fx.way_bd d
  rw [Cr.act_walk hS hk k0 d]
  have hwho:Hid (Cr.who E k d=En.first (En.atQ E (E k 3+(Fx.way d).1) (E k 4+(Fx.way d).2)) 32):=rfl
  rw [uh hwho]
  have cw:=hide (fun wq=>way_any d wq)
  have cz:=hide (fun z (hz:Cr.Frm v z P gC gE gI cC cE cI how inp sp met left s g c E I)=>entAt_any gE 32 cE E (E k 3+(Fx.way d).1) (E k 4+(Fx.way d).2) z hz.lists.own.ents hz.cap.1)
  have ca:=hide (fun z (hz:Cr.Frm v z P gC gE gI cC cE cI how inp sp met left s g c E I)=>at_any z.heap.size (some ⟨gC,0,none⟩) 384 cC c (E k 3+(Fx.way d).1) (E k 4+(Fx.way d).2) z hz.lists.vec hS.fit.cells)
  have ck:=hide (fun wq=>walk_any (Gr.at 384 c (E k 3+(Fx.way d).1) (E k 4+(Fx.way d).2)) wq)
  have x1:IntKind.i64.wrap (E k 3+(Fx.way d).1)=E k 3+(Fx.way d).1:=by rw [IntKind.wrap_i64];omega
  have y1:IntKind.i64.wrap (E k 4+(Fx.way d).2)=E k 4+(Fx.way d).2:=by rw [IntKind.wrap_i64];omega
  obtain ⟨z,hz⟩:∃z,En.first (En.atQ E (E k 3+(Fx.way d).1) (E k 4+(Fx.way d).2)) 32=z:=⟨_,rfl⟩
  have hzr:Hid (z=-1∨∃j:Nat,j<32∧z=(j:Int)):=by
    show z=-1∨∃j:Nat,j<32∧z=(j:Int)
    rw [←hz]
    rcases En.first_cases (En.atQ E (E k 3+(Fx.way d).1) (E k 4+(Fx.way d).2)) 32 with ⟨he,_⟩ | ⟨j,hj,he,_⟩
    · exact .inl he
    · exact .inr ⟨j,hj,he⟩
  obtain ⟨A,hA⟩:∃A,Gr.at 384 c (E k 3+(Fx.way d).1) (E k 4+(Fx.way d).2)=A:=⟨_,rfl⟩
  obtain ⟨wk,hwk⟩:∃wk,Gr.walkB A=wk:=⟨_,rfl⟩
  rw [hz] at cz ⊢
  rw [hA] at ca ck ⊢
  rw [hwk] at ck ⊢
  obtain ⟨dx,hdx⟩:∃dx,(Fx.way d).1=dx:=⟨_,rfl⟩
  obtain ⟨dy,hdy⟩:∃dy,(Fx.way d).2=dy:=⟨_,rfl⟩
  rw [hdx] at cw cz ca x1 ⊢
  rw [hdy] at cw cz ca y1 ⊢
  obtain ⟨R,hR⟩:∃R,(if 0≤z then (if (decide (E k 0=1) != decide (E z.toNat 0=1))=true then (Ft.hitE s E I (k:Int) z,Ft.hitI s E I (k:Int) z) else (E,I)) else if wk=true then (Cr.go E k (E k 3+dx) (E k 4+dy),I) else (E,I))=R:=⟨_,rfl⟩
  rw [hR]
  have hR':=hide hR
  obtain ⟨w0,hw0⟩:∃w0,w0=x.alloc (.cells (En.cells (E k)) 42):=⟨_,rfl⟩
  have hg0:x.grownBy w0 none:=by rw [hw0];exact World.grownBy_alloc _ _ _
  have hQ:Hid (Lie w0 x.heap.size 42 11 (Ints (E k))):=by rw [hw0];exact Lie.copied _ _ _
  have hF0:=hide (h.on hg0)
  have b5:=h.eleven.2.2.2.2.2.1
  obtain ⟨r0,r1,r2,r3,r4,r5,r6,r7,r8,r9,r10⟩:=h.lists.own.ents.row hk
  clear h hS hk k0 k1 wb hwho hz hA hwk hdx hdy hR hg0
  unfold En.cells at hw0
  go_enter Tryz.func45,Tryz.ntmps45
  go_upto_region 1 with fail
  rw [←hw0]
  clear hw0 b5 r0 r1 r2 r3 r4 r5 r6 r7 r8 r9 r10
  obtain ⟨Q,hQe⟩:∃Q,x.heap.size=Q:=⟨_,rfl⟩
  rw [hQe] at hQ ⊢
  clear hQe
  go_wp2_with fail
  refine (uh cw _).mono ?_
  rintro e wy ⟨rfl,hy⟩
  subst wy
  clear cw
  go_upto_region 2 with fail
  go_cut [9,10] from 25 (fun va vb wx=>va=.int .i64 (E k 3+dx)∧vb=.int .i64 (E k 4+dy)∧Hid (Cr.Frm v wx P gC gE gI cC cE cI how inp sp met left s g c E I)∧Hid (Lie wx Q 42 11 (Ints (E k))))
  case first =>
    have q3:=(uh hQ).ent.2.2.2.1
    have q4:=(uh hQ).ent.2.2.2.2.1
    go_quiet (fail)
    go_wp2_with fail
    go_meet
    exact ⟨rfl,rfl,(uh hF0).on (gdw (World.grownBy.refl _ none) _),(uh hQ).on (gdw (World.grownBy.refl _ none) _)⟩
  case rest =>
    clear hF0 hQ x1 y1
    obtain ⟨rfl,rfl,hF1,hQ⟩:=hcut
    have b5:=(uh hF1).eleven.2.2.2.2.2.1
    have cz':=hide (uh cz _ (uh hF1))
    go_wp2_with fail
    refine (uh cz').mono ?_
    rintro e w1 ⟨rfl,hg1⟩
    have hF2:=hide ((uh hF1).on hg1)
    have hQ2:=hide ((uh hQ).on hg1)
    clear hg1 b5 cz cz' hF1 hQ
    rcases uh hzr with rfl | ⟨j,hj,rfl⟩
    · have hR2:Hid ((if wk=true then (Cr.go E k (E k 3+dx) (E k 4+dy),I) else (E,I))=R):=(if_neg (by decide)).symm.trans (uh hR')
      have ca':=hide (fun z (hz:Cr.Frm v z P gC gE gI cC cE cI how inp sp met left s g c E I)=>uh ca z hz)
      have hng:decide ((-1:Int)≥0)=false:=by decide
      clear hzr hR' ca
      go_upto_region 4 with fail
      go_cut [41] from 42 (fun va wx=>va=.bool false∧Hid (Cr.Frm v wx P gC gE gI cC cE cI how inp sp met left s g c E I))
      case first =>
        go_quiet (fail)
        go_wp2_with fail
        go_meet
        exact ⟨rfl,(uh hF2).on (gdw (World.grownBy.refl _ none) _)⟩
      case rest =>
        clear hF2 hQ2 hng
        obtain ⟨rfl,hF3⟩:=hcut
        have b4:=(uh hF3).eleven.2.2.2.2.1
        have ca2:=hide (uh ca' _ (uh hF3))
        go_wp2_with fail
        refine (uh ca2).mono ?_
        rintro e wy ⟨rfl,hy⟩
        subst wy
        go_wp2_with fail
        refine (uh ck _).mono ?_
        rintro e wy ⟨rfl,hy⟩
        subst wy
        clear ca' ca2 ck b4
        cases wk
        · obtain rfl:(E,I)=R:=(show (E,I)=R by rw [←uh hR2,if_neg (by simp)])
          clear hR2
          go_wp2
          go_end0
          exact ⟨rfl,gC,gE,gI,cC,cE,cI,uh hF3⟩
        · obtain rfl:(Cr.go E k (E k 3+dx) (E k 4+dy),I)=R:=(show (Cr.go E k (E k 3+dx) (E k 4+dy),I)=R by rw [←uh hR2,if_pos rfl])
          clear hR2
          have hgo:Hid (Cr.go E k (E k 3+dx) (E k 4+dy)=Gd.set (Gd.set E k 3 (E k 3+dx)) k 4 (E k 4+dy)):=rfl
          have hfin:Hid (∀wx,Cr.Frm v wx P gC gE gI cC cE cI how inp sp met left s g c (Gd.set (Gd.set E k 3 (E k 3+dx)) k 4 (E k 4+dy)) I→Cr.Goes v P how inp sp met left s g c (Cr.go E k (E k 3+dx) (E k 4+dy),I).1 (Cr.go E k (E k 3+dx) (E k 4+dy),I).2 (.returned (.tuple #[])) wx):=fun wx hx=>⟨rfl,gC,gE,gI,cC,cE,cI,hx⟩
          obtain ⟨X,hXe⟩:∃X,E k 3+dx=X:=⟨_,rfl⟩
          obtain ⟨Y,hYe⟩:∃Y,E k 4+dy=Y:=⟨_,rfl⟩
          rw [hXe,hYe] at hfin
          rw [hXe,hYe]
          have hX':=hide hXe
          have hY':=hide hYe
          clear hXe hYe hgo
          go_upto_region 7 with fail
          have b5:=(uh hF3).eleven.2.2.2.2.2.1
          have fE:=(uh hF3).lists.ents.free
          have r3:=((uh hF3).lists.own.ents.row (uh HK)).2.2.2.1
          have r4:=((uh hF3).lists.own.ents.row (uh HK)).2.2.2.2.1
          have hTE:P≠gE:=(uh hF3).apart.2.1
          have hET:gE≠P:=hTE.symm
          have hst:=hide (((uh hF3).stat k 3 (by omega) X).stat k 4 (by omega) Y)
          have hst':=hide (fun y hy=>uh hfin _ ((uh hst).on (y:=y) hy))
          go_region
          all_goals (go_wp2;go_end0;rw [uh hX',uh hY'];exact uh hst' _ (gd1 (World.grownBy.refl _ none)))
    · have hj':(j:Int)<32:=by omega
      have hjp:decide ((j:Int)≥0)=true:=by simp
      have hjn:decide ((j:Int)<0)=false:=by simp
      have HJ:=hide hj
      have hR2:Hid ((if (decide (E k 0=1) != decide (E j 0=1))=true then (Ft.hitE s E I (k:Int) (j:Int),Ft.hitI s E I (k:Int) (j:Int)) else (E,I))=R):=(if_pos (Int.natCast_nonneg j)).symm.trans (uh hR')
      have c1:=hide (fun z=>cIsHero_any (E k) z)
      have c2:=hide (fun z=>cIsHero_any (E j) z)
      obtain ⟨bk,hbk⟩:∃b,decide (E k 0=1)=b:=⟨_,rfl⟩
      obtain ⟨bj,hbj⟩:∃b,decide (E j 0=1)=b:=⟨_,rfl⟩
      rw [hbk] at c1 hR2
      rw [hbj] at c2 hR2
      unfold En.cells at c1 c2
      clear hzr hR' ca ck hbk hbj hj
      go_upto_region 4 with fail
      go_cut [41] from 42 (fun va wx=>va=.bool (bk != bj)∧Hid (Cr.Frm v wx P gC gE gI cC cE cI how inp sp met left s g c E I))
      case first =>
        refine wp_region_grown (by kernel_rfl) (by kernel_rfl) ?_
        intro St hN W hI hx
        have q0:=fun σ=>((uh hQ2).on (hI σ)).ent.1
        have q1:=fun σ=>((uh hQ2).on (hI σ)).ent.2.1
        have q2:=fun σ=>((uh hQ2).on (hI σ)).ent.2.2.1
        have q3:=fun σ=>((uh hQ2).on (hI σ)).ent.2.2.2.1
        have q4:=fun σ=>((uh hQ2).on (hI σ)).ent.2.2.2.2.1
        have q5:=fun σ=>((uh hQ2).on (hI σ)).ent.2.2.2.2.2.1
        have q6:=fun σ=>((uh hQ2).on (hI σ)).ent.2.2.2.2.2.2.1
        have q7:=fun σ=>((uh hQ2).on (hI σ)).ent.2.2.2.2.2.2.2.1
        have q8:=fun σ=>((uh hQ2).on (hI σ)).ent.2.2.2.2.2.2.2.2.1
        have q9:=fun σ=>((uh hQ2).on (hI σ)).ent.2.2.2.2.2.2.2.2.2.1
        have q10:=fun σ=>((uh hQ2).on (hI σ)).ent.2.2.2.2.2.2.2.2.2.2
        have b5:=fun σ=>((uh hF2).on (hI σ)).eleven.2.2.2.2.2.1
        have row:=fun σ=>((uh hF2).on (hI σ)).lists.own.ents.row (uh HJ)
        have r0:=fun σ=>(row σ).1
        have r1:=fun σ=>(row σ).2.1
        have r2:=fun σ=>(row σ).2.2.1
        have r3:=fun σ=>(row σ).2.2.2.1
        have r4:=fun σ=>(row σ).2.2.2.2.1
        have r5:=fun σ=>(row σ).2.2.2.2.2.1
        have r6:=fun σ=>(row σ).2.2.2.2.2.2.1
        have r7:=fun σ=>(row σ).2.2.2.2.2.2.2.1
        have r8:=fun σ=>(row σ).2.2.2.2.2.2.2.2.1
        have r9:=fun σ=>(row σ).2.2.2.2.2.2.2.2.2.1
        have r10:=fun σ=>(row σ).2.2.2.2.2.2.2.2.2.2
        have d1:=fun σ=>calls_class hI hx (uh c1 (W σ))
        have d2:=fun σ=>calls_class hI hx (uh c2 (W σ))
        have hI':=hide hI
        clear row hI hx
        repeat (go_big_quiet_step ((go_at_call 41;with_reducible first | exact d1 _ | exact d2 _)))
        refine wpQuiet_nil ?_
        rintro _ ⟨σ,rfl⟩
        have hF3:=hide ((uh hF2).on (uh hI' σ))
        obtain ⟨wq,hwq⟩:∃wq,W σ=wq:=⟨_,rfl⟩
        rw [hwq] at hF3 ⊢
        clear q0 q1 q2 q3 q4 q5 q6 q7 q8 q9 q10 b5 r0 r1 r2 r3 r4 r5 r6 r7 r8 r9 r10 d1 d2 hI' hwq
        clear σ W hN St
        go_wp2_with fail
        go_meet
        exact ⟨rfl,hF3⟩
      case rest =>
        clear hF2 hQ2 c1 c2
        obtain ⟨rfl,hF3⟩:=hcut
        obtain ⟨bb,hbb⟩:∃bb,(bk != bj)=bb:=⟨_,rfl⟩
        rw [hbb] at hR2 ⊢
        clear hbb
        cases bb
        · obtain rfl:(E,I)=R:=(show (E,I)=R by rw [←uh hR2,if_neg (by simp)])
          clear hR2
          go_wp2
          go_end0
          exact ⟨rfl,gC,gE,gI,cC,cE,cI,uh hF3⟩
        · obtain rfl:(Ft.hitE s E I (k:Int) (j:Int),Ft.hitI s E I (k:Int) (j:Int))=R:=(show (Ft.hitE s E I (k:Int) (j:Int),Ft.hitI s E I (k:Int) (j:Int))=R by rw [←uh hR2,if_pos rfl])
          clear hR2
          obtain ⟨b0,b1,b2,b3,b4,b5,b6,b7,b8,b9,b10⟩:=(uh hF3).eleven
          have ct:=hide (fightHit_wide s g c E I gC gE gI cC cE cI (k:Int) (j:Int) _ (uh hF3).lists (uh hfit))
          unfold Gd.world at ct
          go_wp2_with fail
          refine (uh ct).mono ?_
          rintro e w4 ⟨jC,jE,jI,dC,dE,dI,rfl,hcap,l1,l2,l3,n1,n2,n3,hL,hg⟩
          have hX:Hid (Cr.Frm v (((((((((((w4.setCell ⟨P,0,none⟩ (.int .i64 (s 0))).setCell ⟨P,1,none⟩ (.int .i64 (s 1))).setCell ⟨P,2,none⟩ (.int .i64 (s 2))).setCell ⟨P,3,none⟩ (.int .i64 (s 3))).setCell ⟨P,4,none⟩ (.slice (some ⟨jC,0,none⟩) 384 dC)).setCell ⟨P,5,none⟩ (.slice (some ⟨jE,0,none⟩) 32 dE)).setCell ⟨P,6,none⟩ (.slice (some ⟨jI,0,none⟩) 40 dI)).setCell ⟨P,7,none⟩ (.int .i64 (g 0))).setCell ⟨P,8,none⟩ (.int .i64 (g 1))).setCell ⟨P,9,none⟩ (.int .i64 (g 2))).setCell ⟨P,10,none⟩ (.int .i64 (g 3))) P jC jE jI dC dE dI how inp sp met left s g c (Ft.hitE s E I (k:Int) (j:Int)) (Ft.hitI s E I (k:Int) (j:Int))):=(uh hF3).over (s':=s) (g':=g) (dI:=dI) hcap l1 l2 l3 n1 n2 n3 hL hg
          obtain ⟨y0,y1,y2,y3,y4,y5,y6,y7,y8,y9,y10⟩:=((uh hF3).on hg).eleven
          have fB:=((uh hF3).on hg).box.free
          clear hcap l1 l2 l3 n1 n2 n3 hL hg ct b0 b1 b2 b3 b4 b5 b6 b7 b8 b9 b10 hF3
          unfold Gd.world
          go_wp2
          go_end0
          exact ⟨rfl,jC,jE,jI,dC,dE,dI,uh hX⟩


open Go.RowKit

theorem Cr.more_one (w:World) (o:Nat→Int) (ho:1≤o 0∧o 0≤4):Cr.More (w.alloc (.cells (En.cells o) 42)) (some ⟨w.heap.size,0,none⟩) 1 [o]:=by
 refine ⟨rfl,by omega,fun i e he=>?_⟩
 have hi:i=0:=by
  have:=(List.getElem?_eq_some_iff.1 he).1
  simp at this
  omega
 subst hi
 obtain rfl:o=e:=by simpa using he
 have hl:=Lie.copied w o 42
 exact ⟨ho,w.heap.size,rfl,hl.lt,fun j hj=>by rw [Nat.zero_mul,Nat.zero_add];exact hl.cell hj⟩

theorem Cr.join_one {E:Nat→Nat→Int} {o:Nat→Int} (h:En.first (En.atQ E (o 3) (o 4)) 32<0):Cr.joinAll E [o]=Cr.join E o:=if_pos h

def Cr.Brings (v:World) (P:Nat) (how inp:Nat→Int) (sp:Nat→Bool) (met left:Bool) (s g c:Nat→Int) (E I:Nat→Nat→Int) (t:Nat) (e:Ending) (x:World):Prop :=
 ∃F,Cr.Comes c (t:Int) true E F∧Cr.Goes v P how inp sp met left s g c F I e x

set_option maxRecDepth 8000 in
set_option maxHeartbeats 6400000 in
theorem cBring_any (v x : World) (P gC gE gI cC cE cI : Nat) (how inp : Nat → Int) (sp : Nat → Bool) (met left : Bool) (s g c : Nat → Int) (E I : Nat → Nat → Int) (t : Nat) (h : Cr.Frm v x P gC gE gI cC cE cI how inp sp met left s g c E I) (hS : Cr.Sane c E I) (hF : Nv.Floor c) (hno : Gd.hero E (t : Int) < 0) :
    Calls Tryz.prog 39 #[.pointer (some ⟨P,0,none⟩),.int .i64 (t:Int)] x (Cr.Brings v P how inp sp met left s g c E I t):=by
  have hh:=hide h
  have hgens:=hide hS.good.gens
  have hkeep:Hid (∀z,x.grownBy z none→z.cell? ⟨P,4,none⟩=some (.slice (some ⟨gC,0,none⟩) 384 cC)∧z.cell? ⟨P,5,none⟩=some (.slice (some ⟨gE,0,none⟩) 32 cE)):=fun z hz=>⟨((uh hh).on hz).eleven.2.2.2.2.1,((uh hh).on hz).eleven.2.2.2.2.2.1⟩
  have hch:Hid (∀z,x.grownBy z none→Calls Tryz.prog 64 #[.slice (some ⟨gC,0,none⟩) 384 cC,.slice (some ⟨gE,0,none⟩) 32 cE] z fun e y=>∃q,e=.returned (.int .i64 q)∧Hid (Nv.IsSpot c E 32 (Gr.find 384 c 3 % 24) (Gr.find 384 c 3 / 24) q)∧Hid (x.grownBy y none)):=fun z hz=>(cArrival_any (some ⟨gC,0,none⟩) (some ⟨gE,0,none⟩) cC 32 cE c E z ((uh hh).on hz).lists.vec hF h.cap.2 ⟨by omega,h.cap.1,.inr ⟨gE,rfl,((uh hh).on hz).lists.own.ents⟩⟩ hS.good.words).mono fun e y ⟨q,h1,h2,h3⟩=>⟨q,h2,h1,gtr hz h3⟩
  have hdef:Hid (∀q F e w',Nv.IsSpot c E 32 (Gr.find 384 c 3 % 24) (Gr.find 384 c 3 / 24) q→((q<0∧F=E)∨∃p:Nat,q=(p:Int)∧F=Cr.join E (Cr.one 1 (t:Int) p))→Cr.Goes v P how inp sp met left s g c F I e w'→Cr.Brings v P how inp sp met left s g c E I t e w'):=fun q F e w' h1 h2 h3=>⟨F,(show Cr.Comes c (t:Int) true E F by unfold Cr.Comes;rw [if_pos ⟨rfl,hno⟩];exact ⟨q,h1,h2⟩),h3⟩
  clear h hS hF hno
  go_enter Tryz.func39,Tryz.ntmps39
  go_upto_region 0 with fail
  go_cut [4] from 6 (fun v4 wx=>∃q,v4=.int .i64 q∧Hid (Nv.IsSpot c E 32 (Gr.find 384 c 3 % 24) (Gr.find 384 c 3 / 24) q)∧Hid (x.grownBy wx none))
  case first =>
    have hd0:=hide (gd1 (World.grownBy.refl x none))
    have hS0:=uh hkeep _ (uh hd0)
    go_region_held3 (fun z=>z.cell? ⟨P,4,none⟩=some (.slice (some ⟨gC,0,none⟩) 384 cC)∧z.cell? ⟨P,5,none⟩=some (.slice (some ⟨gE,0,none⟩) 32 cE)) (with_reducible (first | exact uh hkeep _ (uh hd0) | exact uh hkeep _ (uh hg1))) (first
      | (go_at_call 64;with_reducible refine (uh hch _ (uh hd0)).mono ?_;rintro e0 w1 ⟨q,rfl,hq,hg1⟩))
    all_goals (go_wp2_with fail;go_meet)
    exact ⟨q,rfl,hq,hg1⟩
  case rest =>
    clear hkeep hch
    obtain ⟨q,rfl,hq,hg⟩:=hcut
    have hF1:=hide ((uh hh).on (uh hg))
    clear hh hg
    by_cases hneg:q<0
    · have hfin:Hid (Cr.Brings v P how inp sp met left s g c E I t (.returned (.tuple #[])) wc):=uh hdef q E _ _ (uh hq) (.inl ⟨hneg,rfl⟩) ⟨rfl,gC,gE,gI,cC,cE,cI,uh hF1⟩
      clear hdef
      go_wp2
      go_end0
      exact uh hfin
    · obtain ⟨p,rfl⟩:∃p:Nat,q=(p:Int):=⟨q.toNat,by omega⟩
      have hroom:=hide (Cr.spot_room (uh hq))
      have hp:=hide (uh hroom).1
      have hdef2:Hid (∀e w',Cr.Goes v P how inp sp met left s g c (Cr.join E (Cr.one 1 (t:Int) p)) I e w'→Cr.Brings v P how inp sp met left s g c E I t e w'):=fun e w' h=>uh hdef (p:Int) _ e w' (uh hq) (.inr ⟨p,rfl,rfl⟩) h
      have hone:Hid (Cr.one 1 (t:Int) p=En.upd (En.upd (En.upd (En.stats 1) 2 (t:Int)) 3 ((p:Int) % 24)) 4 ((p:Int) / 24)):=rfl
      have ho1:Hid (1≤Cr.one 1 (t:Int) p 0∧Cr.one 1 (t:Int) p 0≤4):=(show 1≤Cr.one 1 (t:Int) p 0∧Cr.one 1 (t:Int) p 0≤4 by rw [(Cr.one_at 1 (t:Int) p).1 (by omega) (by omega)];omega)
      have hjo:Hid (Cr.joinAll E [Cr.one 1 (t:Int) p]=Cr.join E (Cr.one 1 (t:Int) p)):=Cr.join_one (by rw [(Cr.one_at 1 (t:Int) p).2.2.1,(Cr.one_at 1 (t:Int) p).2.2.2.1];exact (uh hroom).2.2)
      obtain ⟨o,ho⟩:∃o,Cr.one 1 (t:Int) p=o:=⟨_,rfl⟩
      rw [ho] at hdef2 hone ho1 hjo
      have cst:=hide (entStats_any 1 wc)
      obtain ⟨st,hst⟩:∃st,En.stats 1=st:=⟨_,rfl⟩
      rw [hst] at cst hone
      have hnn:¬(p:Int)<0:=by omega
      clear hdef hq hroom hneg ho hst
      unfold En.cells at cst
      go_wp2_with fail
      refine (uh cst).mono ?_
      rintro e0 w1 ⟨rfl,hg1⟩
      have hF2:=hide ((uh hF1).on hg1)
      obtain ⟨w2,hw2⟩:∃w2,w2=w1.alloc (.cells (En.cells st) 42):=⟨_,rfl⟩
      have hg2:w1.grownBy w2 none:=by rw [hw2];exact World.grownBy_alloc _ _ _
      have hQ:Hid (Lie w2 w1.heap.size 42 11 (Ints st)):=by rw [hw2];exact Lie.copied _ _ _
      have hF3:=hide ((uh hF2).on hg2)
      have lQ:Hid (v.heap.size≤w1.heap.size):=(uh hF2).grown.size
      have nQE:Hid (w1.heap.size≠gC∧w1.heap.size≠gE∧w1.heap.size≠gI):=⟨by have:=(uh hF2).lists.cells.lt;omega,by have:=(uh hF2).lists.ents.lt;omega,by have:=(uh hF2).lists.items.lt;omega⟩
      clear hg1 hg2 cst hF1 hF2
      unfold En.cells at hw2
      go_upto_region 3 with fail
      rw [←hw2]
      clear hw2
      obtain ⟨Q,hQe⟩:∃Q,w1.heap.size=Q:=⟨_,rfl⟩
      rw [hQe] at hQ lQ nQE ⊢
      clear hQe
      have fQ:=(uh hQ).free
      have q2:=(uh hQ).ent.2.2.1
      have hQ3:Hid (Lie (w2.setCell ⟨Q,2,none⟩ (.int .i64 (t:Int))) Q 42 11 (Ints (En.upd st 2 (t:Int)))):=((uh hQ).store 2 (.int .i64 (t:Int))).congr fun j _=>by
        show (if j=2 then Value.int .i64 (t:Int) else .int .i64 (st j))=.int .i64 (if j=2 then (t:Int) else st j)
        split <;> rfl
      have hF4:Hid (Cr.Frm v (w2.setCell ⟨Q,2,none⟩ (.int .i64 (t:Int))) P gC gE gI cC cE cI how inp sp met left s g c E I):=(uh hF3).aside (uh lQ) (uh hQ) (by decide) (uh nQE) 2 _
      clear hF3 hQ
      go_upto_region 4 with fail
      generalize w2.setCell ⟨Q,2,none⟩ (.int .i64 (t:Int))=w3 at hQ3 hF4 ⊢
      clear fQ q2
      have hF3:=hF4
      clear hF4
      obtain ⟨e,he⟩:∃e,En.upd st 2 (t:Int)=e:=⟨_,rfl⟩
      rw [he] at hQ3 hone
      clear he
      have hkeep:Hid (∀x,w3.grownBy x none→x.cell? ⟨P,5,none⟩=some (.slice (some ⟨gE,0,none⟩) 32 cE)∧x.cell? ⟨Q,0,none⟩=some (.int .i64 (e 0))∧x.cell? ⟨Q,1,none⟩=some (.int .i64 (e 1))∧x.cell? ⟨Q,2,none⟩=some (.int .i64 (e 2))∧x.cell? ⟨Q,3,none⟩=some (.int .i64 (e 3))∧x.cell? ⟨Q,4,none⟩=some (.int .i64 (e 4))∧x.cell? ⟨Q,5,none⟩=some (.int .i64 (e 5))∧x.cell? ⟨Q,6,none⟩=some (.int .i64 (e 6))∧x.cell? ⟨Q,7,none⟩=some (.int .i64 (e 7))∧x.cell? ⟨Q,8,none⟩=some (.int .i64 (e 8))∧x.cell? ⟨Q,9,none⟩=some (.int .i64 (e 9))∧x.cell? ⟨Q,10,none⟩=some (.int .i64 (e 10))):=fun x hx=>⟨((uh hF3).on hx).eleven.2.2.2.2.2.1,((uh hQ3).on hx).ent⟩
      have cp:Hid (∀z,w3.grownBy z none→Calls Tryz.prog 50 #[.agg #[.int .i64 (e 0),.int .i64 (e 1),.int .i64 (e 2),.int .i64 (e 3),.int .i64 (e 4),.int .i64 (e 5),.int .i64 (e 6),.int .i64 (e 7),.int .i64 (e 8),.int .i64 (e 9),.int .i64 (e 10)],.int .i64 (p:Int)] z (Says z (.agg #[.int .i64 (o 0),.int .i64 (o 1),.int .i64 (o 2),.int .i64 (o 3),.int .i64 (o 4),.int .i64 (o 5),.int .i64 (o 6),.int .i64 (o 7),.int .i64 (o 8),.int .i64 (o 9),.int .i64 (o 10)]))):=fun z _=>(show Calls Tryz.prog 50 #[.agg (En.cells e),.int .i64 (p:Int)] z (Says z (.agg (En.cells o))) by rw [uh hone];exact cPlaced_any e p (uh hp) z)
      have cj:Hid (∀z,w3.grownBy z none→∀a:Option Addr,Cr.More z a 1 [o]→Calls Tryz.prog 49 #[.slice (some ⟨gE,0,none⟩) 32 cE,.slice a 1 1] z (Cr.OneOf z gE (Cr.join E o))):=fun z hz a hM=>(show Calls Tryz.prog 49 #[.slice (some ⟨gE,0,none⟩) 32 cE,.slice a 1 1] z (Cr.OneOf z gE (Cr.join E o)) by rw [←uh hjo];exact cJoined_any gE cE 1 1 a E [o] z ((uh hF3).on hz).lists.own (uh hF3).cap.1 (uh hgens) hM)
      have hd3:=hide (gd1 (World.grownBy.refl w3 none))
      clear hone hjo hgens hp
      refine wp_region_till (h:=14) (S:=fun x=>x.cell? ⟨P,5,none⟩=some (.slice (some ⟨gE,0,none⟩) 32 cE)∧x.cell? ⟨Q,0,none⟩=some (.int .i64 (e 0))∧x.cell? ⟨Q,1,none⟩=some (.int .i64 (e 1))∧x.cell? ⟨Q,2,none⟩=some (.int .i64 (e 2))∧x.cell? ⟨Q,3,none⟩=some (.int .i64 (e 3))∧x.cell? ⟨Q,4,none⟩=some (.int .i64 (e 4))∧x.cell? ⟨Q,5,none⟩=some (.int .i64 (e 5))∧x.cell? ⟨Q,6,none⟩=some (.int .i64 (e 6))∧x.cell? ⟨Q,7,none⟩=some (.int .i64 (e 7))∧x.cell? ⟨Q,8,none⟩=some (.int .i64 (e 8))∧x.cell? ⟨Q,9,none⟩=some (.int .i64 (e 9))∧x.cell? ⟨Q,10,none⟩=some (.int .i64 (e 10))) (by kernel_rfl) ?_
      have hS0:=uh hkeep _ (uh hd3)
      refine wtk (i:=0) (v:=?_) [14] rfl (by kernel_rfl) (by kernel_rfl) (by kernel_rfl) (by kernel_rfl) (fun _ _ _ h=>h) hS0 (Or.inl ⟨by rfl,?_⟩) ?_
      rotate_left
      · intro x hSx
        try dsimp only at hSx
        go_simp
        try with_reducible rfl
      simp only [Act.put]
      refine wtk (i:=1) (v:=?_) [14] rfl (by kernel_rfl) (by kernel_rfl) (by kernel_rfl) (by kernel_rfl) (fun _ _ _ h=>h) hS0 (Or.inl ⟨by rfl,?_⟩) ?_
      rotate_left
      · intro x hSx
        try dsimp only at hSx
        go_simp
        try with_reducible rfl
      simp only [Act.put]
      refine wtk (i:=2) (v:=?_) [14] rfl (by kernel_rfl) (by kernel_rfl) (by kernel_rfl) (by kernel_rfl) (fun _ _ _ h=>h) hS0 (Or.inl ⟨by rfl,?_⟩) ?_
      rotate_left
      · intro x hSx
        try dsimp only at hSx
        go_simp
        try with_reducible rfl
      simp only [Act.put]
      refine wtk (i:=3) (v:=?_) [14] rfl (by kernel_rfl) (by kernel_rfl) (by kernel_rfl) (by kernel_rfl) (fun _ _ _ h=>h) hS0 (Or.inl ⟨by rfl,?_⟩) ?_
      rotate_left
      · intro x hSx
        try dsimp only at hSx
        go_simp
        try with_reducible rfl
      simp only [Act.put]
      refine wtk (i:=4) (v:=?_) [14] rfl (by kernel_rfl) (by kernel_rfl) (by kernel_rfl) (by kernel_rfl) (fun _ _ _ h=>h) hS0 (Or.inl ⟨by rfl,?_⟩) ?_
      rotate_left
      · intro x hSx
        try dsimp only at hSx
        go_simp
        try with_reducible rfl
      simp only [Act.put]
      refine wtk (i:=5) (v:=?_) [14] rfl (by kernel_rfl) (by kernel_rfl) (by kernel_rfl) (by kernel_rfl) (fun _ _ _ h=>h) hS0 (Or.inl ⟨by rfl,?_⟩) ?_
      rotate_left
      · intro x hSx
        try dsimp only at hSx
        go_simp
        try with_reducible rfl
      simp only [Act.put]
      refine wtk (i:=6) (v:=?_) [14] rfl (by kernel_rfl) (by kernel_rfl) (by kernel_rfl) (by kernel_rfl) (fun _ _ _ h=>h) hS0 (Or.inl ⟨by rfl,?_⟩) ?_
      rotate_left
      · intro x hSx
        try dsimp only at hSx
        go_simp
        try with_reducible rfl
      simp only [Act.put]
      refine wtk (i:=7) (v:=?_) [14] rfl (by kernel_rfl) (by kernel_rfl) (by kernel_rfl) (by kernel_rfl) (fun _ _ _ h=>h) hS0 (Or.inl ⟨by rfl,?_⟩) ?_
      rotate_left
      · intro x hSx
        try dsimp only at hSx
        go_simp
        try with_reducible rfl
      simp only [Act.put]
      refine wto (j:=8) (by kernel_rfl) rfl (fun K hK=>?_)
      go_simp
      refine (uh cp _ (uh hd3)).mono ?_
      rintro e0 w4 ⟨rfl,hg4⟩
      have hG4:=hide (gtr (uh hd3) hg4)
      have hS4:=uh hkeep _ (uh hG4)
      clear hg4
      try go_simp
      refine hK.out _ _ (fun _=>uh hkeep _ (uh hG4)) ?_
      clear hK K
      refine wto (j:=9) (by kernel_rfl) rfl (fun K hK=>?_)
      go_simp
      have hG5:Hid (w3.grownBy (w4.alloc (.cells #[.int .i64 (o 0),.int .i64 (o 1),.int .i64 (o 2),.int .i64 (o 3),.int .i64 (o 4),.int .i64 (o 5),.int .i64 (o 6),.int .i64 (o 7),.int .i64 (o 8),.int .i64 (o 9),.int .i64 (o 10)] 42)) none):=gal (uh hG4) _
      have hS5:=uh hkeep _ (uh hG5)
      have hM:=hide (Cr.more_one w4 o (uh ho1))
      clear hS4
      try go_simp
      refine hK.out _ _ (fun _=>uh hkeep _ (uh hG5)) ?_
      clear hK K
      refine wto (j:=10) (by kernel_rfl) rfl (fun K hK=>?_)
      go_simp
      refine (uh cj _ (uh hG5) _ (uh hM)).mono ?_
      rintro e0 w6 ⟨j6,d6,rfl,hc6,hj6,hown6,hg6⟩
      have hG6:=hide (gtr (uh hG5) hg6)
      have hS6:=uh hkeep _ (uh hG6)
      have hst:=hide ((uh hF3).folk hc6 (hj6.imp id (fun h=>Nat.le_trans (uh hG5).size h)) hown6 (uh hG6))
      have f5:=((uh hF3).on (uh hG6)).box.free
      clear hc6 hj6 hown6 hg6 hS5
      try go_simp
      refine hK.out _ _ (fun _=>uh hkeep _ (uh hG6)) ?_
      clear hK K
      refine wtk (i:=11) (v:=?_) [12,13,14] rfl (by kernel_rfl) (by kernel_rfl) (by kernel_rfl) (by kernel_rfl) (fun _ _ _ h=>h) hS6 (Or.inl ⟨by rfl,?_⟩) ?_
      rotate_left
      · intro x hSx
        try dsimp only at hSx
        go_simp
        try with_reducible rfl
      simp only [Act.put]
      refine wtk (i:=12) (v:=?_) [13,14] rfl (by kernel_rfl) (by kernel_rfl) (by kernel_rfl) (by kernel_rfl) (fun _ _ _ h=>h) hS6 (Or.inl ⟨by rfl,?_⟩) ?_
      rotate_left
      · intro x hSx
        try dsimp only at hSx
        go_simp
        try with_reducible rfl
      simp only [Act.put]
      refine wtk (i:=13) (v:=?_) [14] rfl (by kernel_rfl) (by kernel_rfl) (by kernel_rfl) (by kernel_rfl) (fun _ _ _ h=>h) hS6 (Or.inl ⟨by rfl,?_⟩) ?_
      rotate_left
      · intro x hSx
        try dsimp only at hSx
        go_simp
        try with_reducible rfl
      simp only [Act.put]
      refine wto (j:=14) (by kernel_rfl) rfl (fun K hK=>?_)
      go_simp
      refine hK.out _ _ (fun hx=>absurd (hx.symm.trans (by kernel_rfl)) Bool.false_ne_true) ?_
      clear hK K
      refine wpTill_done (by kernel_rfl) ?_ _
      clear hkeep cp cj hS6 hG4 hG5 hG6 hM
      go_wp2
      go_end0
      exact uh hdef2 _ _ ⟨rfl,gC,j6,gI,cC,d6,cI,uh hst⟩

end Go.Proofs.YtbanjoflgoiegabGreat
