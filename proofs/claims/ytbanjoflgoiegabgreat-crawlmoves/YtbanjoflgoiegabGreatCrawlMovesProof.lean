/-
  A hero alone goes where its input says, if it can; nothing else changes but the frame: for every seed, floor, place and input, at this commit; no condition.
-/
import Derived.Test.YtbanjoflgoiegabGreatRows
import Derived.WalkKit
import Derived.ProofKit
import Derived.OpenShut
import Derived.Test.YtbanjoflgoiegabGreatPart54
import Derived.Test.YtbanjoflgoiegabGreatPart22
import Derived.Test.YtbanjoflgoiegabGreatPart24
import Derived.BigQuiet
import Derived.BigRegion
import Derived.Deep.Cut
import Derived.Deep.CutRange
import Derived.Deep.CutBlock
import Derived.Deep.RegionHeld3
import Derived.Deep.MidRow
import Derived.Below
import Derived.ChangeOld
import Derived.ShutString
namespace Go.Proofs.YtbanjoflgoiegabGreat.crawlMoves
open Go.ChangeShapes Go.WideShapes Go.ChangeAt Go.RowKit
open Go.ChangeMaps (open_string shut_string)
set_option linter.unusedVariables false

theorem own:ownKnob Tryz.prog.godebug=none:=by kernel_rfl

set_option maxRecDepth 16000 in
set_option maxHeartbeats 3200000 in

theorem walk (a0 : Int) (a1 : Int) (a2 : Int) (a3 : Int) (w0 : (Lit.int .i64 a0).wf = true) (w1 : (Lit.int .i64 a1).wf = true) (w2 : (Lit.int .i64 a2).wf = true) (w3 : (Lit.int .i64 a3).wf = true) (w : World) :
    Calls Tryz.prog 3 #[.int .i64 a0,.int .i64 a1,.int .i64 a2,.int .i64 a3] w fun e w'=>e=.returned (.bool true)∧Below w.heap.size w w':=by
  have cW:=hide (fun wq=>within10_any a3 4 wq (by omega) (by omega))
  obtain ⟨m,hm⟩:∃m,a3 % 4=m:=⟨_,rfl⟩
  have m0:Hid (0≤m∧m<4):=(show 0≤m∧m<4 by omega)
  rw [hm] at cW
  have t1:IntKind.i64.wrap (1+m)=1+m:=by rw [IntKind.wrap_i64];omega
  have cY:=hide (fun wq=>refWay_any (1+m) wq)
  obtain ⟨dx,hdx⟩:∃dx,(Fx.way (1+m)).1=dx:=⟨_,rfl⟩
  obtain ⟨dy,hdy⟩:∃dy,(Fx.way (1+m)).2=dy:=⟨_,rfl⟩
  have hdd:Hid (-1≤dx∧dx≤1∧-1≤dy∧dy≤1):=by
    rw [←hdx,←hdy]
    rcases (show m=0∨m=1∨m=2∨m=3 by omega) with h | h | h | h <;> rw [h] <;> exact ⟨by decide,by decide,by decide,by decide⟩
  rw [hdx,hdy] at cY
  have HDX:=hide hdx
  have HDY:=hide hdy
  clear w0 w1 w2 w3 hm hdx hdy
  have ca:=hide (fun wq=>alone_any a0 a1 a2 wq)
  obtain ⟨r,hr⟩:∃r,((1+3*(a2 % 1000)) % 32).toNat=r:=⟨_,rfl⟩
  rw [hr] at ca
  go_enter Tryz.func3,Tryz.ntmps3
  go_wp2_with fail
  refine (known10_any _).mono ?_
  rintro e wk ⟨rfl,hgk⟩
  have hgk':=hide hgk
  clear hgk
  clear hr
  go_wp2_with fail
  refine (uh ca _).mono ?_
  rintro e wa ⟨S,hA,gC,gE,gI,cC,cE,cI,rfl,hcap,l1,l2,l3,n1,n2,n3,hL,hg⟩
  have hW:=hide (Gd.law_new (s:=S.s) (g:=S.g) (cC:=cC) (cI:=cI) (uh hgk') hcap.1 l1 l2 l3 n1 n2 n3 hL hg)
  have hA':=hide hA
  clear hcap l1 l2 l3 n1 n2 n3 hL hg hA ca hgk'
  unfold Gd.world at hW ⊢
  go_upto_region 4 with fail
  obtain ⟨X,hXe⟩:∃X,wa.heap.size=X:=⟨_,rfl⟩
  rw [hXe] at hW ⊢
  clear hXe
  generalize wa.alloc (.cells #[.int .i64 (S.s 0),.int .i64 (S.s 1),.int .i64 (S.s 2),.int .i64 (S.s 3),.slice (some ⟨gC,0,none⟩) 384 cC,.slice (some ⟨gE,0,none⟩) 32 cE,.slice (some ⟨gI,0,none⟩) 40 cI,.int .i64 (S.g 0),.int .i64 (S.g 1),.int .i64 (S.g 2),.int .i64 (S.g 3)] 28)=wv at hW ⊢
  clear wa wk
  have b5:=(uh hW).eleven.2.2.2.2.2.1
  have ch:=hide (refHero7_any gE cE S.E 0 wv (uh hW).hold.lists.own)
  rw [(uh hA').sole.hero] at ch
  go_wp2_with fail
  refine (uh ch).mono ?_
  rintro e wh ⟨rfl,hg⟩
  have hX:=hide ((uh hW).on hg)
  clear hW hg ch b5
  clear wv
  go_wp2_with fail
  refine (uh cW _).mono ?_
  rintro e wy ⟨rfl,hy⟩
  subst wy
  clear cW
  obtain ⟨wd,hwd⟩:∃wd,wd=wh.alloc (.cells #[.int .i64 0,.int .i64 0,.bool false,.int .i64 0,.int .i64 0,.bool false,.int .i64 0,.int .i64 0,.bool false,.int .i64 0,.int .i64 0,.bool false] 35):=⟨_,rfl⟩
  have hgd:wh.grownBy wd none:=by rw [hwd];exact World.grownBy_alloc _ _ _
  have hSc:Hid (Cr.Scene w wd X wh.heap.size gC gE gI cC cE cI (fun _=>0) (fun _=>0) (fun _=>false) S):=by
    refine ⟨(uh hX).on hgd,?_,(uh hX).grown.size⟩
    rw [hwd]
    exact Cr.acts_lie (h:=fun _=>0) (i:=fun _=>0) (b:=fun _=>false) (heap_alloc_new wh _)
  clear hgd hX
  go_upto_region 7 with fail
  rw [←hwd]
  clear hwd
  obtain ⟨A,hAe⟩:∃A,wh.heap.size=A:=⟨_,rfl⟩
  rw [hAe] at hSc ⊢
  clear hAe
  clear wh
  obtain ⟨x0,x1,x2,x3,x4,x5,x6,x7,x8,x9,x10,x11⟩:=(uh hSc).twelve
  have fA:=(uh hSc).acts.free
  have hS4:=hide ((uh hSc).act 0 1 (1+m) false)
  clear hSc
  go_upto_region 8 with fail
  rw [show (0*3:Nat)=0 from rfl,show (0+1:Nat)=1 from rfl,show (0+2:Nat)=2 from rfl] at hS4
  generalize ((wd.setCell ⟨A,0,none⟩ (.int .i64 1)).setCell ⟨A,1,none⟩ (.int .i64 (1+m))).setCell ⟨A,2,none⟩ (.bool false)=wt at hS4 ⊢
  clear x0 x1 x2 x3 x4 x5 x6 x7 x8 x9 x10 x11 fA wd t1
  obtain ⟨b0,b1,b2,b3,b4,b5,b6,b7,b8,b9,b10⟩:=(uh hS4).law.eleven
  obtain ⟨x0,x1,x2,x3,x4,x5,x6,x7,x8,x9,x10,x11⟩:=(uh hS4).twelve
  have v1:=(uh hA').s1
  have cs:=hide ((uh hS4).step (uh hA').good (by omega) (by omega))
  clear v1
  simp only [if_true,Nat.one_ne_zero,if_false,(show ¬(2:Nat)=0 by omega),(show ¬(3:Nat)=0 by omega),ite_self] at x0 x1 x2 x3 x4 x5 x6 x7 x8 x9 x10 x11 cs
  go_wp2_with fail
  refine (uh cs).mono ?_
  rintro e wu ⟨U,hU,jC,jE,jI,dC,dE,dI,rfl,hcap,l1,l2,l3,n1,n2,n3,hL,hg⟩
  have hUe:=Cr.lone_walk hU (uh hA').s3 (uh hA').s1 (uh hA').sole rfl (by have:=uh m0;show 1≤1+m∧1+m≤4;omega) (fun _ _ _=>by first | rfl | simp) (uh hA').e9 (uh hA').e10
  try dsimp only at hUe
  try simp only [if_true] at hUe
  rw [uh HDX,uh HDY] at hUe
  obtain ⟨G,hG⟩:∃G,(if Gr.walkB (Gr.at 384 S.c (S.E r 3+dx) (S.E r 4+dy))=true then (Cr.go S.E r (S.E r 3+dx) (S.E r 4+dy)) else S.E)=G:=⟨_,rfl⟩
  rw [hG] at hUe
  subst hUe
  have HG:=hide hG
  have hW:=hide (Gd.law_new (s:=Cr.num S.s 1 2) (g:=S.g) (cC:=dC) (cI:=dI) (uh hS4).law.grown hcap.1 l1 l2 l3 n1 n2 n3 hL hg)
  have hO:=hide ((uh hS4).law.on (gtr hg (World.grownBy_alloc wu (.cells #[.int .i64 (Cr.num S.s 1 2 0),.int .i64 (Cr.num S.s 1 2 1),.int .i64 (Cr.num S.s 1 2 2),.int .i64 (Cr.num S.s 1 2 3),.slice (some ⟨jC,0,none⟩) 384 dC,.slice (some ⟨jE,0,none⟩) 32 dE,.slice (some ⟨jI,0,none⟩) 40 dI,.int .i64 (S.g 0),.int .i64 (S.g 1),.int .i64 (S.g 2),.int .i64 (S.g 3)] 28) none)))
  have nEE:Hid (gE≠jE):=(show gE≠jE by have:=(uh hS4).law.hold.lists.ents.lt;omega)
  have nXYw:Hid (X≠wu.heap.size):=(show X≠wu.heap.size by have:=(uh hS4).law.hold.box.lt;have:=hg.size;omega)
  clear hcap l1 l2 l3 n1 n2 n3 hL hg hU cs x0 x1 x2 x3 x4 x5 x6 x7 x8 x9 x10 x11 b0 b1 b2 b3 b4 b5 b6 b7 b8 b9 b10 hS4 hG m0 HDX HDY
  unfold Gd.world at hW ⊢
  go_upto_region 9 with fail
  obtain ⟨Y,hYe⟩:∃Y,wu.heap.size=Y:=⟨_,rfl⟩
  rw [hYe] at hW nXYw ⊢
  clear hYe
  generalize wu.alloc (.cells #[.int .i64 (Cr.num S.s 1 2 0),.int .i64 (Cr.num S.s 1 2 1),.int .i64 (Cr.num S.s 1 2 2),.int .i64 (Cr.num S.s 1 2 3),.slice (some ⟨jC,0,none⟩) 384 dC,.slice (some ⟨jE,0,none⟩) 32 dE,.slice (some ⟨jI,0,none⟩) 40 dI,.int .i64 (S.g 0),.int .i64 (S.g 1),.int .i64 (S.g 2),.int .i64 (S.g 3)] 28)=wv at hW hO ⊢
  clear wu wt
  have hY:Hid (Gd.Law w wv Y jC jE jI dC dE dI (Cr.num S.s 1 2) S.g S.c G S.I):=uh hW
  have hX:Hid (Gd.Law w wv X gC gE gI cC cE cI S.s S.g S.c S.E S.I):=uh hO
  have nXY:Hid (X≠Y):=uh nXYw
  clear hW hO nXYw
  go_wp2_with fail
  refine (uh cY _).mono ?_
  rintro e wy ⟨rfl,hy⟩
  subst wy
  clear cY
  have b4:=(uh hX).eleven.2.2.2.2.1
  have b5:=(uh hX).eleven.2.2.2.2.2.1
  have hr32:=(uh hA').sole.lt
  have hk':(r:Int)<32:=by omega
  have r3:=((uh hX).hold.lists.own.ents.row hr32).2.2.2.1
  have r4:=((uh hX).hold.lists.own.ents.row hr32).2.2.2.2.1
  have hon:=(uh hA').good.sane.set.stands.on r hr32 (by rw [(uh hA').sole.one];omega)
  have hdd':=uh hdd
  have t3:IntKind.i64.wrap (S.E r 3+dx)=S.E r 3+dx:=by rw [IntKind.wrap_i64];omega
  have t4:IntKind.i64.wrap (S.E r 4+dy)=S.E r 4+dy:=by rw [IntKind.wrap_i64];omega
  have hc8:=hide (uh hA').good.sane.fit.cells
  have cA:=hide (fun z (hz:Gd.Lists z gC gE gI S.c S.E S.I)=>refAt_any z.heap.size (some ⟨gC,0,none⟩) 384 cC S.c (S.E r 3+dx) (S.E r 4+dy) z hz.vec (uh hc8))
  have cK:=hide (fun z=>refWalk_any (Gr.at 384 S.c (S.E r 3+dx) (S.E r 4+dy)) z)
  have hHG:=uh HG
  clear hr32 hon hdd' hdd hc8
  by_cases hw:Gr.walkB (Gr.at 384 S.c (S.E r 3+dx) (S.E r 4+dy))=true
  · rw [if_pos hw] at hHG
    rw [hw] at cK
    have HG2:=hide hHG
    clear hw hHG HG
    go_upto_region 10 with fail
    go_quiet (first | (go_at_call 14;refine Calls.quiet_of_same (uh cA _ ?_);exact (uh hX).hold.lists.on (gdw (World.grownBy.refl _ none) _)) | (go_at_call 13;exact Calls.quiet_of_same (uh cK _)) | fail)
    have hX1:=hide ((uh hX).on (gdw (World.grownBy.refl wv none) nq))
    have hY1:=hide ((uh hY).on (gdw (World.grownBy.refl wv none) nq))
    clear b4 b5 r3 r4 cA cK hX hY
    generalize wv.drewN nq=wq at hX1 hY1 ⊢
    clear wv
    have b5:=(uh hX1).eleven.2.2.2.2.2.1
    have r3:=((uh hX1).hold.lists.own.ents.row (uh hA').sole.lt).2.2.2.1
    have r4:=((uh hX1).hold.lists.own.ents.row (uh hA').sole.lt).2.2.2.2.1
    have fE:=(uh hX1).hold.lists.ents.free
    have hXE:X≠gE:=(uh hX1).hold.bE
    have hEX:gE≠X:=hXE.symm
    have nY:=((uh hX1).hold.lists.ents.type_ne (uh hY1).hold.box (by decide))
    have nC:=((uh hX1).hold.lists.ents.type_ne (uh hY1).hold.lists.cells (by decide))
    have nI:=((uh hX1).hold.lists.ents.type_ne (uh hY1).hold.lists.items (by decide))
    have hst:Hid ((Gd.Law w ((wq.setCell ⟨gE,r*11+3,none⟩ (.int .i64 (S.E r 3+dx))).setCell ⟨gE,r*11+4,none⟩ (.int .i64 (S.E r 4+dy))) X gC gE gI cC cE cI S.s S.g S.c (Cr.go S.E r (S.E r 3+dx) (S.E r 4+dy)) S.I)∧Gd.Law w ((wq.setCell ⟨gE,r*11+3,none⟩ (.int .i64 (S.E r 3+dx))).setCell ⟨gE,r*11+4,none⟩ (.int .i64 (S.E r 4+dy))) Y jC jE jI dC dE dI (Cr.num S.s 1 2) S.g S.c G S.I) :=
      ⟨((uh hX1).stat r 3 (by omega) (S.E r 3+dx)).stat r 4 (by omega) (S.E r 4+dy),((uh hY1).beside (B:=gE) (o:=r*11+3) (uh hX1).lE nY nC (uh nEE) nI _).beside (B:=gE) (o:=r*11+4) (uh hX1).lE nY nC (uh nEE) nI _⟩
    rw [uh HG2] at hst
    have hS24:Hid ((wq.drew.setCell ⟨gE,r*11+3,none⟩ (.int .i64 (S.E r 3+dx))).cell? ⟨X,5,none⟩=some (.slice (some ⟨gE,0,none⟩) 32 cE)∧(wq.drew.setCell ⟨gE,r*11+3,none⟩ (.int .i64 (S.E r 3+dx))).cell? ⟨gE,r*11+4,none⟩=some (.int .i64 (S.E r 4))):=by
      have k:=((uh hX1).on (gd1 (World.grownBy.refl _ none))).stat r 3 (by omega) (S.E r 3+dx)
      have k4:=(k.hold.lists.own.ents.row (uh hA').sole.lt).2.2.2.2.1
      rw [Gd.set_other (by omega)] at k4
      exact ⟨k.eleven.2.2.2.2.2.1,k4⟩
    clear nY nC nI
    go_upto_region 11 with fail
    go_cut [] from 59 to 85 (fun wx=>Hid ((Gd.Law w wx X gC gE gI cC cE cI S.s S.g S.c G S.I)∧Gd.Law w wx Y jC jE jI dC dE dI (Cr.num S.s 1 2) S.g S.c G S.I))
    case first =>
      have hS0:wq.drew.cell? ⟨X,5,none⟩=some (.slice (some ⟨gE,0,none⟩) 32 cE)∧wq.drew.cell? ⟨gE,r*11+4,none⟩=some (.int .i64 (S.E r 4)):=⟨b5,r4⟩
      have hS1:(wq.drew.setCell ⟨gE,r*11+3,none⟩ (.int .i64 (S.E r 3+dx))).cell? ⟨X,5,none⟩=some (.slice (some ⟨gE,0,none⟩) 32 cE)∧(wq.drew.setCell ⟨gE,r*11+3,none⟩ (.int .i64 (S.E r 3+dx))).cell? ⟨gE,r*11+4,none⟩=some (.int .i64 (S.E r 4)):=uh hS24
      refine wp_region_till (h:=27) (S:=fun x=>x.cell? ⟨X,5,none⟩=some (.slice (some ⟨gE,0,none⟩) 32 cE)∧x.cell? ⟨gE,r*11+4,none⟩=some (.int .i64 (S.E r 4))) (by kernel_rfl) ?_
      refine wtk (i:=0) (v:=?_) [27] rfl (by kernel_rfl) (by kernel_rfl) (by kernel_rfl) (by kernel_rfl) (fun _ _ _ h=>h) hS0 (Or.inl ⟨by rfl,?_⟩) ?_
      rotate_left
      · intro x hSx
        try dsimp only at hSx
        go_simp
        try with_reducible rfl
      simp only [Act.put]
      refine wtk (i:=1) (v:=?_) [27] rfl (by kernel_rfl) (by kernel_rfl) (by kernel_rfl) (by kernel_rfl) (fun _ _ _ h=>h) hS0 (Or.inl ⟨by rfl,?_⟩) ?_
      rotate_left
      · intro x hSx
        try dsimp only at hSx
        go_simp
        try with_reducible rfl
      simp only [Act.put]
      refine wtk (i:=2) (v:=?_) [27] rfl (by kernel_rfl) (by kernel_rfl) (by kernel_rfl) (by kernel_rfl) (fun _ _ _ h=>h) hS0 (Or.inl ⟨by rfl,?_⟩) ?_
      rotate_left
      · intro x hSx
        try dsimp only at hSx
        go_simp
        try with_reducible rfl
      simp only [Act.put]
      refine wtk (i:=3) (v:=?_) [27] rfl (by kernel_rfl) (by kernel_rfl) (by kernel_rfl) (by kernel_rfl) (fun _ _ _ h=>h) hS0 (Or.inl ⟨by rfl,?_⟩) ?_
      rotate_left
      · intro x hSx
        try dsimp only at hSx
        go_simp
        try with_reducible rfl
      simp only [Act.put]
      refine wtk (i:=4) (v:=?_) [27] rfl (by kernel_rfl) (by kernel_rfl) (by kernel_rfl) (by kernel_rfl) (fun _ _ _ h=>h) hS0 (Or.inl ⟨by rfl,?_⟩) ?_
      rotate_left
      · intro x hSx
        try dsimp only at hSx
        go_simp
        try with_reducible rfl
      simp only [Act.put]
      refine wtk (i:=5) (v:=?_) [27] rfl (by kernel_rfl) (by kernel_rfl) (by kernel_rfl) (by kernel_rfl) (fun _ _ _ h=>h) hS0 (Or.inl ⟨by rfl,?_⟩) ?_
      rotate_left
      · intro x hSx
        try dsimp only at hSx
        go_simp
        try with_reducible rfl
      simp only [Act.put]
      refine wtk (i:=6) (v:=?_) [27] rfl (by kernel_rfl) (by kernel_rfl) (by kernel_rfl) (by kernel_rfl) (fun _ _ _ h=>h) hS0 (Or.inl ⟨by rfl,?_⟩) ?_
      rotate_left
      · intro x hSx
        try dsimp only at hSx
        go_simp
        try with_reducible rfl
      simp only [Act.put]
      refine wtk (i:=7) (v:=?_) [27] rfl (by kernel_rfl) (by kernel_rfl) (by kernel_rfl) (by kernel_rfl) (fun _ _ _ h=>h) hS0 (Or.inl ⟨by rfl,?_⟩) ?_
      rotate_left
      · intro x hSx
        try dsimp only at hSx
        go_simp
        try with_reducible rfl
      simp only [Act.put]
      refine wtk (i:=8) (v:=?_) [27] rfl (by kernel_rfl) (by kernel_rfl) (by kernel_rfl) (by kernel_rfl) (fun _ _ _ h=>h) hS0 (Or.inl ⟨by rfl,?_⟩) ?_
      rotate_left
      · intro x hSx
        try dsimp only at hSx
        go_simp
        try with_reducible rfl
      simp only [Act.put]
      refine wtk (i:=9) (v:=?_) [27] rfl (by kernel_rfl) (by kernel_rfl) (by kernel_rfl) (by kernel_rfl) (fun _ _ _ h=>h) hS0 (Or.inl ⟨by rfl,?_⟩) ?_
      rotate_left
      · intro x hSx
        try dsimp only at hSx
        go_simp
        try with_reducible rfl
      simp only [Act.put]
      refine wtk (i:=10) (v:=?_) [27] rfl (by kernel_rfl) (by kernel_rfl) (by kernel_rfl) (by kernel_rfl) (fun _ _ _ h=>h) hS0 (Or.inl ⟨by rfl,?_⟩) ?_
      rotate_left
      · intro x hSx
        try dsimp only at hSx
        go_simp
        try with_reducible rfl
      simp only [Act.put]
      refine wtk (i:=12) (v:=?_) [27] rfl (by kernel_rfl) (by kernel_rfl) (by kernel_rfl) (by kernel_rfl) (fun _ _ _ h=>h) hS0 (Or.inl ⟨by rfl,?_⟩) ?_
      rotate_left
      · intro x hSx
        try dsimp only at hSx
        go_simp
        try with_reducible rfl
      simp only [Act.put]
      refine wtk (i:=14) (v:=?_) [27] rfl (by kernel_rfl) (by kernel_rfl) (by kernel_rfl) (by kernel_rfl) (fun _ _ _ h=>h) hS0 (Or.inl ⟨by rfl,?_⟩) ?_
      rotate_left
      · intro x hSx
        try dsimp only at hSx
        go_simp
        try with_reducible rfl
      simp only [Act.put]
      refine wtk (i:=15) (v:=?_) [27] rfl (by kernel_rfl) (by kernel_rfl) (by kernel_rfl) (by kernel_rfl) (fun _ _ _ h=>h) hS0 (Or.inl ⟨by rfl,?_⟩) ?_
      rotate_left
      · intro x hSx
        try dsimp only at hSx
        go_simp
        try with_reducible rfl
      simp only [Act.put]
      refine wtk (i:=16) (v:=?_) [27] rfl (by kernel_rfl) (by kernel_rfl) (by kernel_rfl) (by kernel_rfl) (fun _ _ _ h=>h) hS0 (Or.inl ⟨by rfl,?_⟩) ?_
      rotate_left
      · intro x hSx
        try dsimp only at hSx
        go_simp
        try with_reducible rfl
      simp only [Act.put]
      refine wtk (i:=17) (v:=?_) [27] rfl (by kernel_rfl) (by kernel_rfl) (by kernel_rfl) (by kernel_rfl) (fun _ _ _ h=>h) hS0 (Or.inl ⟨by rfl,?_⟩) ?_
      rotate_left
      · intro x hSx
        try dsimp only at hSx
        go_simp
        try with_reducible rfl
      simp only [Act.put]
      refine wtk (i:=18) (v:=?_) [27] rfl (by kernel_rfl) (by kernel_rfl) (by kernel_rfl) (by kernel_rfl) (fun _ _ _ h=>h) hS0 (Or.inl ⟨by rfl,?_⟩) ?_
      rotate_left
      · intro x hSx
        try dsimp only at hSx
        go_simp
        try with_reducible rfl
      simp only [Act.put]
      refine wtk (i:=19) (v:=?_) [27] rfl (by kernel_rfl) (by kernel_rfl) (by kernel_rfl) (by kernel_rfl) (fun _ _ _ h=>h) hS0 (Or.inl ⟨by rfl,?_⟩) ?_
      rotate_left
      · intro x hSx
        try dsimp only at hSx
        go_simp
        try with_reducible rfl
      simp only [Act.put]
      refine wtk (i:=20) (v:=?_) [27] rfl (by kernel_rfl) (by kernel_rfl) (by kernel_rfl) (by kernel_rfl) (fun _ _ _ h=>h) hS0 (Or.inl ⟨by rfl,?_⟩) ?_
      rotate_left
      · intro x hSx
        try dsimp only at hSx
        go_simp
        try with_reducible rfl
      simp only [Act.put]
      refine wtk (i:=21) (v:=?_) [27] rfl (by kernel_rfl) (by kernel_rfl) (by kernel_rfl) (by kernel_rfl) (fun _ _ _ h=>h) hS0 (Or.inl ⟨by rfl,?_⟩) ?_
      rotate_left
      · intro x hSx
        try dsimp only at hSx
        go_simp
        try with_reducible rfl
      simp only [Act.put]
      refine wto (j:=11) (by kernel_rfl) rfl (fun K hK=>?_)
      go_simp
      refine hK.out _ _ (fun _=>hS0) ?_
      clear hK K
      refine wtk (i:=13) (v:=?_) [27] rfl (by kernel_rfl) (by kernel_rfl) (by kernel_rfl) (by kernel_rfl) (fun _ _ _ h=>h) hS0 (Or.inl ⟨by rfl,?_⟩) ?_
      rotate_left
      · intro x hSx
        try dsimp only at hSx
        go_simp
        try with_reducible rfl
      simp only [Act.put]
      refine wtk (i:=22) (v:=?_) [27] rfl (by kernel_rfl) (by kernel_rfl) (by kernel_rfl) (by kernel_rfl) (fun _ _ _ h=>h) hS0 (Or.inl ⟨by rfl,?_⟩) ?_
      rotate_left
      · intro x hSx
        try dsimp only at hSx
        go_simp
        try with_reducible rfl
      simp only [Act.put]
      refine wtk (i:=23) (v:=?_) [27] rfl (by kernel_rfl) (by kernel_rfl) (by kernel_rfl) (by kernel_rfl) (fun _ _ _ h=>h) hS0 (Or.inl ⟨by rfl,?_⟩) ?_
      rotate_left
      · intro x hSx
        try dsimp only at hSx
        go_simp
        try with_reducible rfl
      simp only [Act.put]
      refine wto (j:=24) (by kernel_rfl) rfl (fun K hK=>?_)
      go_simp
      refine hK.out _ _ (fun _=>hS1) ?_
      clear hK K
      refine wtk (i:=25) (v:=?_) [26,27] rfl (by kernel_rfl) (by kernel_rfl) (by kernel_rfl) (by kernel_rfl) (fun _ _ _ h=>h) hS1 (Or.inl ⟨by rfl,?_⟩) ?_
      rotate_left
      · intro x hSx
        try dsimp only at hSx
        go_simp
        try with_reducible rfl
      simp only [Act.put]
      refine wtk (i:=26) (v:=?_) [27] rfl (by kernel_rfl) (by kernel_rfl) (by kernel_rfl) (by kernel_rfl) (fun _ _ _ h=>h) hS1 (Or.inl ⟨by rfl,?_⟩) ?_
      rotate_left
      · intro x hSx
        try dsimp only at hSx
        go_simp
        try with_reducible rfl
      simp only [Act.put]
      refine wto (j:=27) (by kernel_rfl) rfl (fun K hK=>?_)
      go_simp
      refine hK.out _ _ (fun hx=>absurd (hx.symm.trans (by kernel_rfl)) Bool.false_ne_true) ?_
      clear hK K
      refine wpTill_done (by kernel_rfl) ?_ _
      · go_wp2_with fail
        go_meet
        exact ⟨(uh hst).1.on (gd1 (World.grownBy.refl _ _)),(uh hst).2.on (gd1 (World.grownBy.refl _ _))⟩
    case rest =>
      have hX:=hide (uh hcut).1
      have hY:=hide (uh hcut).2
      clear hcut hst b5 r3 r4 fE hXE hEX hX1 hY1 t3 t4 hk' hA' HG2 nEE
      have fX:=(uh hX).hold.box.free
      have b1:=(uh hX).eleven.2.1
      have hX3:=hide ((uh hX).num 1 (by omega) 2)
      have hY3:=hide ((uh hY).beside (B:=X) (o:=1) (uh hX).lT (uh nXY) ((uh hX).hold.box.type_ne (uh hY).hold.lists.cells (by decide)) ((uh hX).hold.box.type_ne (uh hY).hold.lists.ents (by decide)) ((uh hX).hold.box.type_ne (uh hY).hold.lists.items (by decide)) (.int .i64 2))
      clear hX hY
      go_upto_region 13 with fail
      generalize wc.setCell ⟨X,1,none⟩ (.int .i64 2)=wz at hX3 hY3 ⊢
      clear b1 fX
      obtain ⟨b0,b1,b2,b3,b4,b5,b6,b7,b8,b9,b10⟩:=(uh hX3).eleven
      obtain ⟨y0,y1,y2,y3,y4,y5,y6,y7,y8,y9,y10⟩:=(uh hY3).eleven
      have cz:=hide (same7_any (Cr.num S.s 1 2) S.g S.c G S.I jC jE jI dC dE dI gC gE gI cC cE cI wz (uh hY3).hold.lists (uh hX3).hold.lists)
      have hgr:=hide (uh hX3).grown
      clear hX3 hY3
      unfold Gd.world at cz
      go_wp2_with fail
      refine (uh cz).mono ?_
      rintro e wq ⟨rfl,hg⟩
      have hg2:=hide (gtr (uh hgr) hg)
      clear hg hgr cz b0 b1 b2 b3 b4 b5 b6 b7 b8 b9 b10 y0 y1 y2 y3 y4 y5 y6 y7 y8 y9 y10
      go_wp2_with fail
      go_ret
      exact ⟨rfl,none_below (uh hg2)⟩
  · rw [if_neg hw] at hHG
    rw [Bool.not_eq_true] at hw
    rw [hw] at cK
    subst hHG
    clear hw HG
    go_upto_region 10 with fail
    go_quiet (first | (go_at_call 14;refine Calls.quiet_of_same (uh cA _ ?_);exact (uh hX).hold.lists.on (gdw (World.grownBy.refl _ none) _)) | (go_at_call 13;exact Calls.quiet_of_same (uh cK _)) | fail)
    have hX1:=hide ((uh hX).on (gdw (World.grownBy.refl wv none) nq))
    have hY1:=hide ((uh hY).on (gdw (World.grownBy.refl wv none) nq))
    clear b4 b5 r3 r4 cA cK hX hY
    generalize wv.drewN nq=wq at hX1 hY1 ⊢
    clear wv
    have hX:=hX1
    have hY:=hY1
    clear hX1 hY1 t3 t4 hk' hA' nEE
    have fX:=(uh hX).hold.box.free
    have b1:=(uh hX).eleven.2.1
    have hX3:=hide ((uh hX).num 1 (by omega) 2)
    have hY3:=hide ((uh hY).beside (B:=X) (o:=1) (uh hX).lT (uh nXY) ((uh hX).hold.box.type_ne (uh hY).hold.lists.cells (by decide)) ((uh hX).hold.box.type_ne (uh hY).hold.lists.ents (by decide)) ((uh hX).hold.box.type_ne (uh hY).hold.lists.items (by decide)) (.int .i64 2))
    clear hX hY
    go_upto_region 13 with fail
    generalize wq.setCell ⟨X,1,none⟩ (.int .i64 2)=wz at hX3 hY3 ⊢
    clear b1 fX
    obtain ⟨b0,b1,b2,b3,b4,b5,b6,b7,b8,b9,b10⟩:=(uh hX3).eleven
    obtain ⟨y0,y1,y2,y3,y4,y5,y6,y7,y8,y9,y10⟩:=(uh hY3).eleven
    have cz:=hide (same7_any (Cr.num S.s 1 2) S.g S.c S.E S.I jC jE jI dC dE dI gC gE gI cC cE cI wz (uh hY3).hold.lists (uh hX3).hold.lists)
    have hgr:=hide (uh hX3).grown
    clear hX3 hY3
    unfold Gd.world at cz
    go_wp2_with fail
    refine (uh cz).mono ?_
    rintro e wq ⟨rfl,hg⟩
    have hg2:=hide (gtr (uh hgr) hg)
    clear hg hgr cz b0 b1 b2 b3 b4 b5 b6 b7 b8 b9 b10 y0 y1 y2 y3 y4 y5 y6 y7 y8 y9 y10
    go_wp2_with fail
    go_ret
    exact ⟨rfl,none_below (uh hg2)⟩

set_option maxRecDepth 100000 in
theorem lifted (os : Os) (started : os.Started) (H : Type) (enc : TypeId × Value → H) :
    ReturnsInHanded {} Tryz.checked os 3 .any (Rows.crawlMovesSpec.pre6 enc Tryz.prog Tryz.f3 Rows.crawlMovesRow.domain false) (Rows.crawlMovesSpec.post enc Tryz.prog Tryz.f3 false true false false):=by
  refine returnsInHanded_of_change (C:=Tryz.checked) own started (by kernel_rfl) Tryz.func3
    (ChangeSpec.witness6 (enc:=enc) (C:=Tryz.checked) false ⟨#[],#[.int .i64 0,.int .i64 0,.int .i64 0,.int .i64 0],[]⟩ 8 (by kernel_rfl) (by kernel_rfl) (by kernel_rfl) (by kernel_rfl)) ?_
  intro W base args ds gs before hval0 hW hcnd _
  have hval:∀(j:Nat) t v,Tryz.f3.params[j]?=some t→args[j]?=some v→Value.okWide Tryz.prog W .any base t v:=hval0
  have hW':=hW
  obtain ⟨p,q,hA0,hV,rfl,hfz,hnd⟩:=hW
  have hA:DataW.TrodAll enc Tryz.prog W 0 (fun _=>true) true Tryz.f3.params.toList args.toList ds p:=hA0
  rw [Tryz.params3] at hA hval
  obtain ⟨v0,vs0,d0,ds0,p0,q0,hargs,rfl,rfl,h0,r0⟩:=trodAll_cons hA
  obtain ⟨v1,vs1,d1,ds1,p1,q1,rfl,rfl,rfl,h1,r1⟩:=trodAll_cons r0
  obtain ⟨v2,vs2,d2,ds2,p2,q2,rfl,rfl,rfl,h2,r2⟩:=trodAll_cons r1
  obtain ⟨v3,vs3,d3,ds3,p3,q3,rfl,rfl,rfl,h3,r3⟩:=trodAll_cons r2
  obtain ⟨rfl,rfl,rfl⟩:=trodAll_nil r3
  obtain rfl:args=#[v0,v1,v2,v3]:=by cases args;simp_all
  obtain ⟨rfl,rfl⟩:=trodVars_none hV
  obtain ⟨a0,rfl,rfl,rfl,w0⟩:=open_int Tryz.underlying2 (hval 0 2 v0 rfl rfl) h0
  obtain ⟨a1,rfl,rfl,rfl,w1⟩:=open_int Tryz.underlying3 (hval 1 3 v1 rfl rfl) h1
  obtain ⟨a2,rfl,rfl,rfl,w2⟩:=open_int Tryz.underlying3 (hval 2 3 v2 rfl rfl) h2
  obtain ⟨a3,rfl,rfl,rfl,w3⟩:=open_int Tryz.underlying3 (hval 3 3 v3 rfl rfl) h3
  clear hA0 hval0
  refine (walk a0 a1 a2 a3 w0 w1 w2 w3 W).mono fun e W' ⟨he,hg⟩=>?_
  subst he
  exact ⟨_,rfl,_,_,_,[],_,[],hW',trodAll_mk1 (shut_bool Tryz.underlying4 _),(trodAll_cons_mk (shut_int Tryz.underlying2 w0) (trodAll_cons_mk (shut_int Tryz.underlying3 w1) (trodAll_cons_mk (shut_int Tryz.underlying3 w2) (trodAll_cons_mk (shut_int Tryz.underlying3 w3) trodAll_mk0)))),rfl,hg.frame _,fun h=>by cases h⟩

theorem over:Rows.crawlMovesRow.holds Tryz.pinned (OpenSpec.ofChange Rows.crawlMovesSpec) :=
 OpenClaim.holds_of_wide 3 Tryz.f3 rfl rfl rfl rfl rfl rfl rfl ⟨rfl,rfl,rfl,rfl,rfl⟩ rfl rfl rfl rfl rfl (by kernel_rfl) Tryz.func3 (by kernel_rfl)
  (of_decide_eq_true (by kernel_rfl)) (by unfold Func.isWrapper;first | (rw [if_pos (by decide +kernel)];kernel_rfl) | (rw [if_neg (by decide +kernel)];exact ⟨rfl,rfl⟩))
  (fun os started H enc _=>lifted os started H enc)

theorem proved:Rows.CrawlMovesSaid :=
 over
#print axioms proved
end Go.Proofs.YtbanjoflgoiegabGreat.crawlMoves
