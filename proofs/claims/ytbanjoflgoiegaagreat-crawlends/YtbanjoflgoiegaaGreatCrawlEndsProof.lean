/-
  A crawl without heroes goes on; once there was one, and all fell, it is lost, and stays so; on the last floor's down stair it is won: for every seed and floor, at this commit; no condition.
-/
import Derived.Test.YtbanjoflgoiegaaGreatRows
import Derived.WalkKit
import Derived.ProofKit
import Derived.OpenShut
import Derived.Test.YtbanjoflgoiegaaGreatPart46
import Derived.Test.YtbanjoflgoiegaaGreatPart55
import Derived.Test.YtbanjoflgoiegaaGreatPart37
import Derived.Test.YtbanjoflgoiegaaGreatPart23
import Derived.BigQuiet
import Derived.BigRegion
import Derived.Deep.Cut
import Derived.Deep.CutRange
import Derived.Deep.CutBlock
import Derived.Deep.RegionHeld3
import Derived.Deep.MidRow
import Derived.Below
import Derived.ChangeOld
import Derived.ShutString
namespace Go.Proofs.YtbanjoflgoiegaaGreat.crawlEnds
open Go.ChangeShapes Go.WideShapes Go.ChangeAt Go.RowKit
open Go.ChangeMaps (open_string shut_string)
set_option linter.unusedVariables false

theorem own:ownKnob Tryz.prog.godebug=none:=by kernel_rfl

set_option maxRecDepth 16000 in
set_option maxHeartbeats 3200000 in

theorem walk (a0 : Int) (a1 : Int) (a2 : Int) (w0 : (Lit.int .i64 a0).wf = true) (w1 : (Lit.int .i64 a1).wf = true) (w2 : (Lit.int .i64 a2).wf = true) (w : World) :
    Calls Tryz.prog 7 #[.int .i64 a0,.int .i64 a1,.int .i64 a2] w fun e w'=>e=.returned (.bool true)∧Below w.heap.size w w':=by
  have cn:=hide (fun wq=>cNew_any a0 wq)
  clear w0 w1 w2
  go_enter Tryz.func7,Tryz.ntmps7
  go_wp2_with fail
  refine (known10_any _).mono ?_
  rintro e wk ⟨rfl,hgk⟩
  have hgk':=hide hgk
  clear hgk
  go_wp2_with fail
  refine (uh cn _).mono ?_
  rintro e wa ⟨S,hN,gC,gE,gI,cC,cE,cI,rfl,hcap,l1,l2,l3,n1,n2,n3,hL,hg⟩
  have hW:=hide (Gd.law_new (s:=S.s) (g:=S.g) (cC:=cC) (cI:=cI) (uh hgk') hcap.1 l1 l2 l3 n1 n2 n3 hL hg)
  have hN':=hide hN
  clear hcap l1 l2 l3 n1 n2 n3 hL hg hN cn hgk'
  unfold Gd.world at hW ⊢
  go_upto_region 4 with fail
  obtain ⟨T,hT⟩:∃T,wa.heap.size=T:=⟨_,rfl⟩
  rw [hT] at hW ⊢
  clear hT
  generalize wa.alloc (.cells #[.int .i64 (S.s 0),.int .i64 (S.s 1),.int .i64 (S.s 2),.int .i64 (S.s 3),.slice (some ⟨gC,0,none⟩) 384 cC,.slice (some ⟨gE,0,none⟩) 32 cE,.slice (some ⟨gI,0,none⟩) 40 cI,.int .i64 (S.g 0),.int .i64 (S.g 1),.int .i64 (S.g 2),.int .i64 (S.g 3)] 30)=wb at hW ⊢
  clear wa wk
  have h0:Hid (Gd.Law w wb T gC gE gI cC cE cI S.s S.g S.c S.E S.I∧Cr.Good S∧S.s 1=((0:Nat):Int)∧S.s 3=0∧Cr.Void S.E):=⟨uh hW,(uh hN').good,(uh hN').frame.2.1,(uh hN').frame.2.2.2,Cr.new_void (uh hN')⟩
  clear hW hN'
  go_wp2_with fail
  go_loopw [8] (fun v8 wr=>∃(i:Nat) (U:Cr.W) (jC jE jI dC dE dI:Nat),i≤5∧v8=.int .i64 (i:Int)∧Hid (Gd.Law w wr T jC jE jI dC dE dI U.s U.g U.c U.E U.I∧Cr.Good U∧U.s 1=(i:Int)∧U.s 3=0∧Cr.Void U.E)) (fun v8 _=>10 - (intOf v8).toNat)
  case atStart=>exact ⟨0,S,gC,gE,gI,cC,cE,cI,by omega,rfl,h0⟩
  case round =>
    clear h0
    obtain ⟨i,U,jC,jE,jI,dC,dE,dI,hi,rfl,hS⟩:=hrel
    obtain ⟨b0,b1,b2,b3,b4,b5,b6,b7,b8,b9,b10⟩:=(uh hS).1.eleven
    by_cases hlt:i<5
    · have hlt':(i:Int)<5:=by omega
      have HL:=hide hlt
      have hu1:=(uh hS).2.2.1
      have cs:=hide (cStep_any U.s U.g U.c U.E U.I jC jE jI dC dE dI (fun _=>0) (fun _=>0) (fun _=>false) wr (uh hS).1.hold.lists (uh hS).2.1 (by omega) (by omega))
      clear hlt hi hu1
      try dsimp only at cs
      go_wp2_with fail
      refine (uh cs).mono ?_
      rintro e wf ⟨V,hV,kC,kE,kI,mC,mE,mI,rfl,hcap,l1,l2,l3,n1,n2,n3,hL,hg⟩
      have hid:=Cr.idle hV (uh hS).2.2.2.1 (uh hS).2.2.2.2 (fun _ _=>⟨by show ¬(0:Int)=1;omega,by show ¬(0:Int)=2;omega⟩) (fun _ _=>rfl)
      have hX:Hid (Gd.Law w (((((((((((wf.setCell ⟨T,0,none⟩ (.int .i64 (V.s 0))).setCell ⟨T,1,none⟩ (.int .i64 (V.s 1))).setCell ⟨T,2,none⟩ (.int .i64 (V.s 2))).setCell ⟨T,3,none⟩ (.int .i64 (V.s 3))).setCell ⟨T,4,none⟩ (.slice (some ⟨kC,0,none⟩) 384 mC)).setCell ⟨T,5,none⟩ (.slice (some ⟨kE,0,none⟩) 32 mE)).setCell ⟨T,6,none⟩ (.slice (some ⟨kI,0,none⟩) 40 mI)).setCell ⟨T,7,none⟩ (.int .i64 (V.g 0))).setCell ⟨T,8,none⟩ (.int .i64 (V.g 1))).setCell ⟨T,9,none⟩ (.int .i64 (V.g 2))).setCell ⟨T,10,none⟩ (.int .i64 (V.g 3))) T kC kE kI mC mE mI V.s V.g V.c V.E V.I∧Cr.Good V∧V.s 1=((i+1:Nat):Int)∧V.s 3=0∧Cr.Void V.E):=⟨(uh hS).1.over (dI:=mI) hcap.1 l1 l2 l3 n1 n2 n3 hL hg,(hV.good (uh hS).2.1).1,by rw [hid.1,Cr.num_at];show U.s 1+1=_;have:=(uh hS).2.2.1;omega,by rw [hid.1];exact (show Cr.num U.s 1 (U.s 1+1) 3=U.s 3 from if_neg (by omega)).trans (uh hS).2.2.2.1,hid.2.2.2⟩
      obtain ⟨y0,y1,y2,y3,y4,y5,y6,y7,y8,y9,y10⟩:=((uh hS).1.on hg).eleven
      have fT:=((uh hS).1.on hg).hold.box.free
      clear hcap l1 l2 l3 n1 n2 n3 hL hg cs b0 b1 b2 b3 b4 b5 b6 b7 b8 b9 b10 hS hV hid
      unfold Gd.world
      go_upto_region 6 with fail
      generalize (((((((((((wf.setCell ⟨T,0,none⟩ (.int .i64 (V.s 0))).setCell ⟨T,1,none⟩ (.int .i64 (V.s 1))).setCell ⟨T,2,none⟩ (.int .i64 (V.s 2))).setCell ⟨T,3,none⟩ (.int .i64 (V.s 3))).setCell ⟨T,4,none⟩ (.slice (some ⟨kC,0,none⟩) 384 mC)).setCell ⟨T,5,none⟩ (.slice (some ⟨kE,0,none⟩) 32 mE)).setCell ⟨T,6,none⟩ (.slice (some ⟨kI,0,none⟩) 40 mI)).setCell ⟨T,7,none⟩ (.int .i64 (V.g 0))).setCell ⟨T,8,none⟩ (.int .i64 (V.g 1))).setCell ⟨T,9,none⟩ (.int .i64 (V.g 2))).setCell ⟨T,10,none⟩ (.int .i64 (V.g 3)))=wg at hX ⊢
      clear y0 y1 y2 y3 y4 y5 y6 y7 y8 y9 y10 fT wf
      go_wp2
      go_roundw
      case rel=>exact ⟨i+1,V,kC,kE,kI,mC,mE,mI,by have:=uh HL;omega,by go_num,hX⟩
      case measure=>simp [intOf];have:=uh HL;omega
    · obtain rfl:i=5:=by omega
      have hge:¬((5:Nat):Int)<5:=by omega
      clear hlt hi
      have hu1:=(uh hS).2.2.1
      have hu3:=(uh hS).2.2.2.1
      rw [hu1,show ((5:Nat):Int)=5 from rfl] at b1
      rw [hu3] at b3
      clear hu1 hu3
      go_upto_region 10 with fail
      clear hge b0 b1 b2 b3 b4 b5 b6 b7 b8 b9 b10
      have cw:=hide (fun wq=>world_lone a0 a1 1 0 wq)
      go_wp2_with fail
      refine (uh cw _).mono ?_
      rintro e wa ⟨c,kc,hkc,hkw,hG,hSo,gC,gE,gI,cC,cE,cI,rfl,hcap,l1,l2,l3,n1,n2,n3,hL,hg⟩
      have hW:=hide (Gd.law_new (cC:=cC) (cI:=cI) (s:=Gd.head a0 (1+a1 % 3)) (g:=Gd.give (fun _=>0) 0 (0 % 1000)) (uh hS).1.grown hcap.1 l1 l2 l3 n1 n2 n3 hL hg)
      have hG':=hide hG
      have hSo':=hide hSo
      have hcC:=hide hcap.2
      obtain ⟨dn,hdn,hfd,hcd⟩:=Cr.down_stair hG.floor
      have HD:=hide (And.intro hdn hcd)
      have HFD:=hide hfd
      clear hcap l1 l2 l3 n1 n2 n3 hL hg hG hSo cw hS hdn hcd hfd hkw hkc
      obtain ⟨vs,hvs⟩:∃vs,Gd.head a0 (1+a1 % 3)=vs:=⟨_,rfl⟩
      have VS:Hid (vs 0=a0∧vs 1=0∧vs 2=1+a1 % 3∧vs 3=0):=by rw [←hvs];exact ⟨rfl,rfl,rfl,rfl⟩
      rw [hvs] at hW hG' ⊢
      clear hvs
      obtain ⟨vg,hvg⟩:∃vg,Gd.give (fun _=>0) 0 (0 % 1000)=vg:=⟨_,rfl⟩
      rw [hvg] at hW hG' ⊢
      clear hvg
      obtain ⟨E,hE⟩:∃E,En.put (fun _ _=>0) ((1:Int) % 32).toNat (Gd.folk 0 kc (1 % 20))=E:=⟨_,rfl⟩
      have EV:Hid (E 1 9=0∧E 1 10=0):=by rw [←hE];exact ⟨rfl,rfl⟩
      rw [hE] at hW hG' hSo'
      clear hE
      have hSo1:Hid (Cr.Sole E 1 0):=uh hSo'
      clear hSo'
      unfold Gd.world at hW ⊢
      go_upto_region 11 with fail
      obtain ⟨X,hXe⟩:∃X,wa.heap.size=X:=⟨_,rfl⟩
      rw [hXe] at hW ⊢
      clear hXe
      generalize wa.alloc (.cells #[.int .i64 (vs 0),.int .i64 (vs 1),.int .i64 (vs 2),.int .i64 (vs 3),.slice (some ⟨gC,0,none⟩) 384 cC,.slice (some ⟨gE,0,none⟩) 32 cE,.slice (some ⟨gI,0,none⟩) 40 cI,.int .i64 (vg 0),.int .i64 (vg 1),.int .i64 (vg 2),.int .i64 (vg 3)] 30)=wv at hW ⊢
      clear wa wr
      have b5:=(uh hW).eleven.2.2.2.2.2.1
      have ch:=hide (refHero7_any gE cE E 0 wv (uh hW).hold.lists.own)
      rw [(uh hSo1).hero] at ch
      go_wp2_with fail
      refine (uh ch).mono ?_
      rintro e wh ⟨rfl,hg⟩
      have hX:=hide ((uh hW).on hg)
      clear hW hg ch b5
      have b4:=(uh hX).eleven.2.2.2.2.1
      have cf:=hide (refFind_any wh.heap.size (some ⟨gC,0,none⟩) 384 cC c 4 wh (uh hX).hold.lists.vec (uh hG').sane.fit.cells)
      rw [uh HFD] at cf
      go_wp2_with fail
      refine (uh cf).mono ?_
      rintro e wy ⟨rfl,hy⟩
      subst wy
      clear cf b4
      have b5:=(uh hX).eleven.2.2.2.2.2.1
      have fE:=(uh hX).hold.lists.ents.free
      have e14:=(uh hX).of 14 (by omega) _ rfl
      have e15:=(uh hX).of 15 (by omega) _ rfl
      have e16:=(uh hX).of 16 (by omega) _ rfl
      have hXE:X≠gE:=(uh hX).hold.bE
      have hEX:gE≠X:=hXE.symm
      obtain ⟨F,hFe⟩:∃F,F=(Gd.set (Cr.go E 1 ((dn:Int) % 24) ((dn:Int) / 24)) 1 5 9):=⟨_,rfl⟩
      have hst:Hid (Gd.Law w (((wh.setCell ⟨gE,14,none⟩ (.int .i64 ((dn:Int) % 24))).setCell ⟨gE,15,none⟩ (.int .i64 ((dn:Int) / 24))).setCell ⟨gE,16,none⟩ (.int .i64 9)) X gC gE gI cC cE cI vs vg c F (fun _ _=>0)):=by
        show Gd.Law _ _ _ _ _ _ _ _ _ _ _ _ _ _
        rw [hFe]
        exact (((uh hX).stat 1 3 (by omega) ((dn:Int) % 24)).stat 1 4 (by omega) ((dn:Int) / 24)).stat 1 5 (by omega) 9
      have hFF:Hid (Cr.Good ⟨vs,vg,c,F,(fun _ _=>0)⟩∧Cr.Sole F 1 0∧F 1 9=0∧F 1 10=0∧Gr.at 384 c (F 1 3) (F 1 4)=4):=by
        show _∧_∧_∧_∧_
        rw [hFe]
        have k:=(uh hSo1).there (uh hG').sane (uh HD).1 (by show Gr.walkB (c dn)=true;rw [(uh HD).2];rfl) (v:=9) (by omega) (by omega)
        refine ⟨⟨k.1,(uh hG').floor,(uh hG').gold,(uh hG').f1,(uh hG').f3,(uh hG').s0,(uh hG').s2⟩,k.2,?_,?_,?_⟩
        · rw [Gd.set_other (by omega),Cr.go_at,if_neg (by omega),if_neg (by omega)]
          exact (uh EV).1
        · rw [Gd.set_other (by omega),Cr.go_at,if_neg (by omega),if_neg (by omega)]
          exact (uh EV).2
        · rw [Gd.set_other (by omega),Gd.set_other (by omega),Cr.go_at,Cr.go_at,if_neg (by omega),if_pos rfl,if_pos rfl]
          have hd:=(uh HD).1
          rw [Gr.at_in (k:=dn) ((Gr.inB_iff _ _).2 (by omega)) (by omega)]
          exact (uh HD).2
      have t1:IntKind.i64.wrap ((dn:Int) / 24)=(dn:Int) / 24:=by rw [IntKind.wrap_i64];have:=(uh HD).1;omega
      clear hFe EV hSo1 HFD hcC
      go_upto_region 13 with fail
      go_cut [] from 43 (fun wx=>Hid (Gd.Law w wx X gC gE gI cC cE cI vs vg c F (fun _ _=>0)))
      case first =>
        go_region_held3 (fun x=>x.cell? ⟨X,5,none⟩=some (.slice (some ⟨gE,0,none⟩) 32 cE)) (go_keep) (fail)
        all_goals
          go_wp2_with fail
          go_meet
          exact (uh hst).on (gd1 (World.grownBy.refl _ _))
      case rest =>
        have hX2:=hide (uh hcut)
        clear hcut hst b5 fE e14 e15 e16 hXE hEX hX t1 HD hG'
        obtain ⟨wd,hwd⟩:∃wd,wd=wc.alloc (.cells #[.int .i64 0,.int .i64 0,.bool false,.int .i64 0,.int .i64 0,.bool false,.int .i64 0,.int .i64 0,.bool false,.int .i64 0,.int .i64 0,.bool false] 36):=⟨_,rfl⟩
        have hgd:wc.grownBy wd none:=by rw [hwd];exact World.grownBy_alloc _ _ _
        have hSc:Hid (Cr.Scene w wd X wc.heap.size gC gE gI cC cE cI (fun _=>0) (fun _=>0) (fun _=>false) ⟨vs,vg,c,F,(fun _ _=>0)⟩):=by
          refine ⟨(uh hX2).on hgd,?_,(uh hX2).grown.size⟩
          rw [hwd]
          exact Cr.acts_lie (h:=fun _=>0) (i:=fun _=>0) (b:=fun _=>false) (heap_alloc_new wc _)
        clear hgd hX2
        go_upto_region 15 with fail
        rw [←hwd]
        clear hwd
        obtain ⟨A,hAe⟩:∃A,wc.heap.size=A:=⟨_,rfl⟩
        rw [hAe] at hSc ⊢
        clear hAe
        clear wc
        obtain ⟨x0,x1,x2,x3,x4,x5,x6,x7,x8,x9,x10,x11⟩:=(uh hSc).twelve
        have fA:=(uh hSc).acts.free
        have hS4:=hide ((uh hSc).act 0 1 9 false)
        clear hSc
        go_upto_region 16 with fail
        rw [show (0*3:Nat)=0 from rfl,show (0+1:Nat)=1 from rfl,show (0+2:Nat)=2 from rfl] at hS4
        generalize ((wd.setCell ⟨A,0,none⟩ (.int .i64 1)).setCell ⟨A,1,none⟩ (.int .i64 9)).setCell ⟨A,2,none⟩ (.bool false)=wt at hS4 ⊢
        clear x0 x1 x2 x3 x4 x5 x6 x7 x8 x9 x10 x11 fA wd
        obtain ⟨b0,b1,b2,b3,b4,b5,b6,b7,b8,b9,b10⟩:=(uh hS4).law.eleven
        obtain ⟨x0,x1,x2,x3,x4,x5,x6,x7,x8,x9,x10,x11⟩:=(uh hS4).twelve
        have v1:=(uh VS).2.1
        have cs:=hide ((uh hS4).step (uh hFF).1 (by show -9223372036854775808≤vs 1;omega) (by show vs 1<9223372036854775807;omega))
        clear v1
        try dsimp only at b0 b1 b2 b3 b4 b5 b6 b7 b8 b9 b10 cs
        simp only [if_true,Nat.one_ne_zero,if_false,(show ¬(2:Nat)=0 by omega),(show ¬(3:Nat)=0 by omega),ite_self] at x0 x1 x2 x3 x4 x5 x6 x7 x8 x9 x10 x11 cs
        go_wp2_with fail
        refine (uh cs).mono ?_
        rintro e wu ⟨U,hU,jC,jE,jI,dC,dE,dI,rfl,hcap,l1,l2,l3,n1,n2,n3,hL,hg⟩
        have hsk:=hide (Cr.sinks hU (hU.good (uh hFF).1).1 (uh VS).2.2.2 (uh VS).2.1 (uh hFF).2.1 rfl rfl (fun _ _ _=>by first | rfl | simp) (uh hFF).2.2.1 (uh hFF).2.2.2.1 (uh hFF).2.2.2.2)
        try dsimp only at hsk
        have hgF:=hide (uh hFF).1
        have sF:=hide (uh hFF).2.1
        have hW:=hide (Gd.law_new (s:=U.s) (g:=U.g) (cC:=dC) (cI:=dI) (uh hS4).law.grown hcap.1 l1 l2 l3 n1 n2 n3 hL hg)
        have hO:=hide ((uh hS4).on (gtr hg (World.grownBy_alloc wu (.cells #[.int .i64 (U.s 0),.int .i64 (U.s 1),.int .i64 (U.s 2),.int .i64 (U.s 3),.slice (some ⟨jC,0,none⟩) 384 dC,.slice (some ⟨jE,0,none⟩) 32 dE,.slice (some ⟨jI,0,none⟩) 40 dI,.int .i64 (U.g 0),.int .i64 (U.g 1),.int .i64 (U.g 2),.int .i64 (U.g 3)] 30) none)))
        clear hcap l1 l2 l3 n1 n2 n3 hL hg hU cs x0 x1 x2 x3 x4 x5 x6 x7 x8 x9 x10 x11 b0 b1 b2 b3 b4 b5 b6 b7 b8 b9 b10 hS4 hFF
        unfold Gd.world at hW ⊢
        go_upto_region 17 with fail
        obtain ⟨Y,hYe⟩:∃Y,wu.heap.size=Y:=⟨_,rfl⟩
        rw [hYe] at hW ⊢
        clear hYe
        generalize wu.alloc (.cells #[.int .i64 (U.s 0),.int .i64 (U.s 1),.int .i64 (U.s 2),.int .i64 (U.s 3),.slice (some ⟨jC,0,none⟩) 384 dC,.slice (some ⟨jE,0,none⟩) 32 dE,.slice (some ⟨jI,0,none⟩) 40 dI,.int .i64 (U.g 0),.int .i64 (U.g 1),.int .i64 (U.g 2),.int .i64 (U.g 3)] 30)=wv at hW hO ⊢
        clear wu wt
        have hY:=hide (uh hW).hold.box
        have lY:=hide (uh hW).lT
        have b2:=(uh hO).law.eleven.2.2.1
        have y2:=(uh hW).eleven.2.2.1
        have y3:=(uh hW).eleven.2.2.2.1
        try dsimp only at b2
        by_cases h3:vs 2=3
        · have k:=uh hsk
          rw [if_pos h3] at k
          rw [h3] at b2
          rw [k.1] at y3
          rw [k.2] at y2
          clear k h3 hsk hW
          have dB:True:=trivial
          go_upto_region 22 with fail
          clear dB
          have b5:=(uh hO).law.eleven.2.2.2.2.2.1
          have fE:=(uh hO).law.hold.lists.ents.free
          have e16:=(uh hO).law.of 16 (by omega) _ rfl
          have e20:=(uh hO).law.of 20 (by omega) _ rfl
          have hXE:X≠gE:=(uh hO).law.hold.bE
          have hEX:gE≠X:=hXE.symm
          have nY:gE≠Y:=((uh hY).type_ne (uh hO).law.hold.lists.ents (by decide)).symm
          obtain ⟨H,hH⟩:∃H,H=Gd.set (Gd.set F 1 5 1) 1 9 1:=⟨_,rfl⟩
          have hst:Hid ((Cr.Scene w ((wv.setCell ⟨gE,16,none⟩ (.int .i64 1)).setCell ⟨gE,20,none⟩ (.int .i64 1)) X A gC gE gI cC cE cI (fun k=>if k=0 then 1 else 0) (fun k=>if k=0 then 9 else 0) (fun k=>if k=0 then false else false) ⟨vs,vg,c,H,(fun _ _=>0)⟩)∧Lie ((wv.setCell ⟨gE,16,none⟩ (.int .i64 1)).setCell ⟨gE,20,none⟩ (.int .i64 1)) Y 30 11 (Gd.box U.s jC jE jI dC dE dI U.g)):=by
            show _∧_
            rw [hH]
            exact ⟨((uh hO).stat 1 5 (by omega) 1).stat 1 9 (by omega) 1,((uh hY).other nY _ _).other nY _ _⟩
          have hHs:Hid (Cr.Good ⟨vs,vg,c,H,(fun _ _=>0)⟩∧Cr.Sole H 1 0∧H 1 5=1∧0<H 1 9):=by
            show _∧_∧_∧_
            rw [hH]
            have k:=(uh sF).hurt (uh hgF).sane (v:=1) (p:=1) (by omega) (by omega) (by omega) (by omega)
            exact ⟨⟨k.1,(uh hgF).floor,(uh hgF).gold,(uh hgF).f1,(uh hgF).f3,(uh hgF).s0,(uh hgF).s2⟩,k.2,by rw [Gd.set_other (by omega),Gd.set_same],by rw [Gd.set_same];omega⟩
          clear hH nY
          go_cut [] from 96 (fun wx=>Hid ((Cr.Scene w wx X A gC gE gI cC cE cI (fun k=>if k=0 then 1 else 0) (fun k=>if k=0 then 9 else 0) (fun k=>if k=0 then false else false) ⟨vs,vg,c,H,(fun _ _=>0)⟩)∧Lie wx Y 30 11 (Gd.box U.s jC jE jI dC dE dI U.g)))
          case first =>
            go_region_held3 (fun x=>x.cell? ⟨X,5,none⟩=some (.slice (some ⟨gE,0,none⟩) 32 cE)) (go_keep) (fail)
            all_goals
              go_wp2_with fail
              go_meet
              exact ⟨(uh hst).1.on (gd1 (World.grownBy.refl _ _)),(uh hst).2.on (gd1 (World.grownBy.refl _ _))⟩
          case rest =>
            clear hst b5 fE e16 e20 hXE hEX hO hY hgF sF
            obtain ⟨b0,b1,b2,b3,b4,b5,b6,b7,b8,b9,b10⟩:=(uh hcut).1.law.eleven
            have v1:=(uh VS).2.1
            have cs:=hide (cStep_any vs vg c H (fun _ _=>0) gC gE gI cC cE cI (fun _=>0) (fun _=>0) (fun _=>false) wc (uh hcut).1.law.hold.lists (uh hHs).1 (by show -9223372036854775808≤vs 1;omega) (by show vs 1<9223372036854775807;omega))
            clear v1
            try dsimp only at cs
            obtain ⟨y0,y1,y2,y3,y4,y5,y6,y7,y8,y9,y10⟩:=(uh hcut).2.eleven
            have fT:=(uh hcut).2.free
            go_wp2_with fail
            refine (uh cs).mono ?_
            rintro e wf ⟨V,hV,kC,kE,kI,mC,mE,mI,rfl,hcap,l1,l2,l3,n1,n2,n3,hL,hg⟩
            have hfe:=Cr.fell hV (uh VS).2.2.2 (uh hHs).2.1 ⟨by show ¬(0:Int)=1;omega,by show ¬(0:Int)=2;omega⟩ (fun _ _ _=>rfl) (uh hHs).2.2.1 (uh hHs).2.2.2
            have hFE:Hid (V.s 1=1∧V.s 3=2∧Gd.hero V.E 0=-1):=by
              refine ⟨?_,?_,?_⟩
              · rw [hfe.1,Cr.num_else _ _ (by omega),Cr.num_at]
                show vs 1+1=1
                rw [(uh VS).2.1]
                rfl
              · rw [hfe.1,Cr.num_at]
              · exact En.first_none (fun j hj=>by have:=hfe.2 j hj;simp [En.heroQ,this])
            have hGV:=hide (hV.good (uh hHs).1).1
            have hS5:Hid (Cr.Scene w (((((((((((wf.setCell ⟨Y,0,none⟩ (.int .i64 (V.s 0))).setCell ⟨Y,1,none⟩ (.int .i64 (V.s 1))).setCell ⟨Y,2,none⟩ (.int .i64 (V.s 2))).setCell ⟨Y,3,none⟩ (.int .i64 (V.s 3))).setCell ⟨Y,4,none⟩ (.slice (some ⟨kC,0,none⟩) 384 mC)).setCell ⟨Y,5,none⟩ (.slice (some ⟨kE,0,none⟩) 32 mE)).setCell ⟨Y,6,none⟩ (.slice (some ⟨kI,0,none⟩) 40 mI)).setCell ⟨Y,7,none⟩ (.int .i64 (V.g 0))).setCell ⟨Y,8,none⟩ (.int .i64 (V.g 1))).setCell ⟨Y,9,none⟩ (.int .i64 (V.g 2))).setCell ⟨Y,10,none⟩ (.int .i64 (V.g 3))) Y A kC kE kI mC mE mI (fun k=>if k=0 then 1 else 0) (fun k=>if k=0 then 9 else 0) (fun k=>if k=0 then false else false) V):=⟨Gd.over_box (dI:=mI) (uh hcut).2 (uh lY) (uh hcut).1.law.grown hcap.1 l1 l2 l3 n1 n2 n3 hL hg,((uh hcut).1.acts.on hg).others ((uh hcut).1.acts.type_ne (uh hcut).2 (by decide)).symm 0 (Gd.world V.s kC kE kI mC mE mI V.g).toList,(uh hcut).1.lA⟩
            have z0:=((uh hcut).2.on hg).eleven
            have fT2:=((uh hcut).2.on hg).free
            obtain ⟨z0,z1,z2,z3,z4,z5,z6,z7,z8,z9,z10⟩:=z0
            clear hcap l1 l2 l3 n1 n2 n3 hL hg cs b0 b1 b2 b3 b4 b5 b6 b7 b8 b9 b10 y0 y1 y2 y3 y4 y5 y6 y7 y8 y9 y10 fT hcut hV hfe hHs
            unfold Gd.world
            go_upto_region 24 with fail
            generalize (((((((((((wf.setCell ⟨Y,0,none⟩ (.int .i64 (V.s 0))).setCell ⟨Y,1,none⟩ (.int .i64 (V.s 1))).setCell ⟨Y,2,none⟩ (.int .i64 (V.s 2))).setCell ⟨Y,3,none⟩ (.int .i64 (V.s 3))).setCell ⟨Y,4,none⟩ (.slice (some ⟨kC,0,none⟩) 384 mC)).setCell ⟨Y,5,none⟩ (.slice (some ⟨kE,0,none⟩) 32 mE)).setCell ⟨Y,6,none⟩ (.slice (some ⟨kI,0,none⟩) 40 mI)).setCell ⟨Y,7,none⟩ (.int .i64 (V.g 0))).setCell ⟨Y,8,none⟩ (.int .i64 (V.g 1))).setCell ⟨Y,9,none⟩ (.int .i64 (V.g 2))).setCell ⟨Y,10,none⟩ (.int .i64 (V.g 3)))=wg at hS5 ⊢
            clear z0 z1 z2 z3 z4 z5 z6 z7 z8 z9 z10 fT2 wf
            obtain ⟨b0,b1,b2,b3,b4,b5,b6,b7,b8,b9,b10⟩:=(uh hS5).law.eleven
            obtain ⟨x0,x1,x2,x3,x4,x5,x6,x7,x8,x9,x10,x11⟩:=(uh hS5).twelve
            have v1:=(uh hFE).1
            have cs:=hide ((uh hS5).step (uh hGV) (by omega) (by omega))
            clear v1
            simp only [if_true,Nat.one_ne_zero,if_false,(show ¬(2:Nat)=0 by omega),(show ¬(3:Nat)=0 by omega),ite_self] at x0 x1 x2 x3 x4 x5 x6 x7 x8 x9 x10 x11 cs
            go_wp2_with fail
            refine (uh cs).mono ?_
            rintro e wu ⟨P,hP,pC,pE,pI,qC,qE,qI,rfl,hcap,l1,l2,l3,n1,n2,n3,hL,hg⟩
            have hPe:=Cr.over_stays hP (by rw [(uh hFE).2.1];omega)
            have hPs:Hid (P.s 1=2∧P.s 3=2):=by
              refine ⟨?_,?_⟩
              · rw [hPe]
                show Cr.num V.s 1 (V.s 1+1) 1=2
                rw [Cr.num_at,(uh hFE).1]
                rfl
              · rw [hPe]
                show Cr.num V.s 1 (V.s 1+1) 3=2
                rw [Cr.num_else _ _ (by omega)]
                exact (uh hFE).2.1
            have hW:=hide (Gd.law_new (s:=P.s) (g:=P.g) (cC:=qC) (cI:=qI) (uh hS5).law.grown hcap.1 l1 l2 l3 n1 n2 n3 hL hg)
            have hO:=hide ((uh hS5).law.on (gtr hg (World.grownBy_alloc wu (.cells #[.int .i64 (P.s 0),.int .i64 (P.s 1),.int .i64 (P.s 2),.int .i64 (P.s 3),.slice (some ⟨pC,0,none⟩) 384 qC,.slice (some ⟨pE,0,none⟩) 32 qE,.slice (some ⟨pI,0,none⟩) 40 qI,.int .i64 (P.g 0),.int .i64 (P.g 1),.int .i64 (P.g 2),.int .i64 (P.g 3)] 30) none)))
            clear hcap l1 l2 l3 n1 n2 n3 hL hg hP hPe cs x0 x1 x2 x3 x4 x5 x6 x7 x8 x9 x10 x11 b0 b1 b2 b3 b4 b5 b6 b7 b8 b9 b10 hS5 hGV
            unfold Gd.world at hW ⊢
            go_upto_region 25 with fail
            obtain ⟨Q,hQe⟩:∃Q,wu.heap.size=Q:=⟨_,rfl⟩
            rw [hQe] at hW ⊢
            clear hQe
            generalize wu.alloc (.cells #[.int .i64 (P.s 0),.int .i64 (P.s 1),.int .i64 (P.s 2),.int .i64 (P.s 3),.slice (some ⟨pC,0,none⟩) 384 qC,.slice (some ⟨pE,0,none⟩) 32 qE,.slice (some ⟨pI,0,none⟩) 40 qI,.int .i64 (P.g 0),.int .i64 (P.g 1),.int .i64 (P.g 2),.int .i64 (P.g 3)] 30)=wz at hW hO ⊢
            clear wu wg
            obtain ⟨b0,b1,b2,b3,b4,b5,b6,b7,b8,b9,b10⟩:=(uh hO).eleven
            obtain ⟨y0,y1,y2,y3,y4,y5,y6,y7,y8,y9,y10⟩:=(uh hW).eleven
            rw [(uh hFE).1] at b1
            rw [(uh hFE).2.1] at b3
            rw [(uh hPs).1] at y1
            rw [(uh hPs).2] at y3
            have ca:=hide (fun z (hz:Gd.Lists z kC kE kI V.c V.E V.I)=>refHero_same kE 32 mE V.E 0 z hz.own.ents)
            have hh0:=(uh hFE).2.2
            unfold Gd.hero at hh0
            rw [hh0] at ca
            clear hh0
            have hgr:=hide (uh hO).grown
            go_wp2_with fail
            refine (uh ca _ (uh hO).hold.lists).mono ?_
            rintro e wy ⟨rfl,hy⟩
            subst wy
            clear ca hO hW
            go_wp2_with fail
            go_ret
            exact ⟨rfl,none_below (uh hgr)⟩
        · have k:=uh hsk
          rw [if_neg h3] at k
          have h3':(vs 2 == 3)=false:=by simp [h3]
          have f3:=(uh hgF).f3
          have f1:=(uh hgF).f1
          try dsimp only at f1 f3
          have t2:IntKind.i64.wrap (vs 2+1)=vs 2+1:=by rw [IntKind.wrap_i64];omega
          rw [k.1] at y3
          rw [k.2.1] at y2
          have y5:=(uh hW).eleven.2.2.2.2.2.1
          have ca:=hide (fun z (hz:Gd.Lists z jC jE jI U.c U.E U.I)=>refHero_same jE 32 dE U.E 0 z hz.own.ents)
          have hh0:=k.2.2
          unfold Gd.hero at hh0
          rw [hh0] at ca
          clear k h3 hsk hh0 f1 f3
          go_wp2_with fail
          refine (uh ca _ (uh hW).hold.lists).mono ?_
          rintro e wy ⟨rfl,hy⟩
          subst wy
          clear ca hW
          have dB:True:=trivial
          go_upto_region 22 with fail
          clear dB
          have b5:=(uh hO).law.eleven.2.2.2.2.2.1
          have fE:=(uh hO).law.hold.lists.ents.free
          have e16:=(uh hO).law.of 16 (by omega) _ rfl
          have e20:=(uh hO).law.of 20 (by omega) _ rfl
          have hXE:X≠gE:=(uh hO).law.hold.bE
          have hEX:gE≠X:=hXE.symm
          have nY:gE≠Y:=((uh hY).type_ne (uh hO).law.hold.lists.ents (by decide)).symm
          obtain ⟨H,hH⟩:∃H,H=Gd.set (Gd.set F 1 5 1) 1 9 1:=⟨_,rfl⟩
          have hst:Hid ((Cr.Scene w ((wv.setCell ⟨gE,16,none⟩ (.int .i64 1)).setCell ⟨gE,20,none⟩ (.int .i64 1)) X A gC gE gI cC cE cI (fun k=>if k=0 then 1 else 0) (fun k=>if k=0 then 9 else 0) (fun k=>if k=0 then false else false) ⟨vs,vg,c,H,(fun _ _=>0)⟩)∧Lie ((wv.setCell ⟨gE,16,none⟩ (.int .i64 1)).setCell ⟨gE,20,none⟩ (.int .i64 1)) Y 30 11 (Gd.box U.s jC jE jI dC dE dI U.g)):=by
            show _∧_
            rw [hH]
            exact ⟨((uh hO).stat 1 5 (by omega) 1).stat 1 9 (by omega) 1,((uh hY).other nY _ _).other nY _ _⟩
          have hHs:Hid (Cr.Good ⟨vs,vg,c,H,(fun _ _=>0)⟩∧Cr.Sole H 1 0∧H 1 5=1∧0<H 1 9):=by
            show _∧_∧_∧_
            rw [hH]
            have k:=(uh sF).hurt (uh hgF).sane (v:=1) (p:=1) (by omega) (by omega) (by omega) (by omega)
            exact ⟨⟨k.1,(uh hgF).floor,(uh hgF).gold,(uh hgF).f1,(uh hgF).f3,(uh hgF).s0,(uh hgF).s2⟩,k.2,by rw [Gd.set_other (by omega),Gd.set_same],by rw [Gd.set_same];omega⟩
          clear hH nY
          go_cut [] from 96 (fun wx=>Hid ((Cr.Scene w wx X A gC gE gI cC cE cI (fun k=>if k=0 then 1 else 0) (fun k=>if k=0 then 9 else 0) (fun k=>if k=0 then false else false) ⟨vs,vg,c,H,(fun _ _=>0)⟩)∧Lie wx Y 30 11 (Gd.box U.s jC jE jI dC dE dI U.g)))
          case first =>
            go_region_held3 (fun x=>x.cell? ⟨X,5,none⟩=some (.slice (some ⟨gE,0,none⟩) 32 cE)) (go_keep) (fail)
            all_goals
              go_wp2_with fail
              go_meet
              exact ⟨(uh hst).1.on (gd1 (World.grownBy.refl _ _)),(uh hst).2.on (gd1 (World.grownBy.refl _ _))⟩
          case rest =>
            clear hst b5 fE e16 e20 hXE hEX hO hY hgF sF
            obtain ⟨b0,b1,b2,b3,b4,b5,b6,b7,b8,b9,b10⟩:=(uh hcut).1.law.eleven
            have v1:=(uh VS).2.1
            have cs:=hide (cStep_any vs vg c H (fun _ _=>0) gC gE gI cC cE cI (fun _=>0) (fun _=>0) (fun _=>false) wc (uh hcut).1.law.hold.lists (uh hHs).1 (by show -9223372036854775808≤vs 1;omega) (by show vs 1<9223372036854775807;omega))
            clear v1
            try dsimp only at cs
            obtain ⟨y0,y1,y2,y3,y4,y5,y6,y7,y8,y9,y10⟩:=(uh hcut).2.eleven
            have fT:=(uh hcut).2.free
            go_wp2_with fail
            refine (uh cs).mono ?_
            rintro e wf ⟨V,hV,kC,kE,kI,mC,mE,mI,rfl,hcap,l1,l2,l3,n1,n2,n3,hL,hg⟩
            have hfe:=Cr.fell hV (uh VS).2.2.2 (uh hHs).2.1 ⟨by show ¬(0:Int)=1;omega,by show ¬(0:Int)=2;omega⟩ (fun _ _ _=>rfl) (uh hHs).2.2.1 (uh hHs).2.2.2
            have hFE:Hid (V.s 1=1∧V.s 3=2∧Gd.hero V.E 0=-1):=by
              refine ⟨?_,?_,?_⟩
              · rw [hfe.1,Cr.num_else _ _ (by omega),Cr.num_at]
                show vs 1+1=1
                rw [(uh VS).2.1]
                rfl
              · rw [hfe.1,Cr.num_at]
              · exact En.first_none (fun j hj=>by have:=hfe.2 j hj;simp [En.heroQ,this])
            have hGV:=hide (hV.good (uh hHs).1).1
            have hS5:Hid (Cr.Scene w (((((((((((wf.setCell ⟨Y,0,none⟩ (.int .i64 (V.s 0))).setCell ⟨Y,1,none⟩ (.int .i64 (V.s 1))).setCell ⟨Y,2,none⟩ (.int .i64 (V.s 2))).setCell ⟨Y,3,none⟩ (.int .i64 (V.s 3))).setCell ⟨Y,4,none⟩ (.slice (some ⟨kC,0,none⟩) 384 mC)).setCell ⟨Y,5,none⟩ (.slice (some ⟨kE,0,none⟩) 32 mE)).setCell ⟨Y,6,none⟩ (.slice (some ⟨kI,0,none⟩) 40 mI)).setCell ⟨Y,7,none⟩ (.int .i64 (V.g 0))).setCell ⟨Y,8,none⟩ (.int .i64 (V.g 1))).setCell ⟨Y,9,none⟩ (.int .i64 (V.g 2))).setCell ⟨Y,10,none⟩ (.int .i64 (V.g 3))) Y A kC kE kI mC mE mI (fun k=>if k=0 then 1 else 0) (fun k=>if k=0 then 9 else 0) (fun k=>if k=0 then false else false) V):=⟨Gd.over_box (dI:=mI) (uh hcut).2 (uh lY) (uh hcut).1.law.grown hcap.1 l1 l2 l3 n1 n2 n3 hL hg,((uh hcut).1.acts.on hg).others ((uh hcut).1.acts.type_ne (uh hcut).2 (by decide)).symm 0 (Gd.world V.s kC kE kI mC mE mI V.g).toList,(uh hcut).1.lA⟩
            have z0:=((uh hcut).2.on hg).eleven
            have fT2:=((uh hcut).2.on hg).free
            obtain ⟨z0,z1,z2,z3,z4,z5,z6,z7,z8,z9,z10⟩:=z0
            clear hcap l1 l2 l3 n1 n2 n3 hL hg cs b0 b1 b2 b3 b4 b5 b6 b7 b8 b9 b10 y0 y1 y2 y3 y4 y5 y6 y7 y8 y9 y10 fT hcut hV hfe hHs
            unfold Gd.world
            go_upto_region 24 with fail
            generalize (((((((((((wf.setCell ⟨Y,0,none⟩ (.int .i64 (V.s 0))).setCell ⟨Y,1,none⟩ (.int .i64 (V.s 1))).setCell ⟨Y,2,none⟩ (.int .i64 (V.s 2))).setCell ⟨Y,3,none⟩ (.int .i64 (V.s 3))).setCell ⟨Y,4,none⟩ (.slice (some ⟨kC,0,none⟩) 384 mC)).setCell ⟨Y,5,none⟩ (.slice (some ⟨kE,0,none⟩) 32 mE)).setCell ⟨Y,6,none⟩ (.slice (some ⟨kI,0,none⟩) 40 mI)).setCell ⟨Y,7,none⟩ (.int .i64 (V.g 0))).setCell ⟨Y,8,none⟩ (.int .i64 (V.g 1))).setCell ⟨Y,9,none⟩ (.int .i64 (V.g 2))).setCell ⟨Y,10,none⟩ (.int .i64 (V.g 3)))=wg at hS5 ⊢
            clear z0 z1 z2 z3 z4 z5 z6 z7 z8 z9 z10 fT2 wf
            obtain ⟨b0,b1,b2,b3,b4,b5,b6,b7,b8,b9,b10⟩:=(uh hS5).law.eleven
            obtain ⟨x0,x1,x2,x3,x4,x5,x6,x7,x8,x9,x10,x11⟩:=(uh hS5).twelve
            have v1:=(uh hFE).1
            have cs:=hide ((uh hS5).step (uh hGV) (by omega) (by omega))
            clear v1
            simp only [if_true,Nat.one_ne_zero,if_false,(show ¬(2:Nat)=0 by omega),(show ¬(3:Nat)=0 by omega),ite_self] at x0 x1 x2 x3 x4 x5 x6 x7 x8 x9 x10 x11 cs
            go_wp2_with fail
            refine (uh cs).mono ?_
            rintro e wu ⟨P,hP,pC,pE,pI,qC,qE,qI,rfl,hcap,l1,l2,l3,n1,n2,n3,hL,hg⟩
            have hPe:=Cr.over_stays hP (by rw [(uh hFE).2.1];omega)
            have hPs:Hid (P.s 1=2∧P.s 3=2):=by
              refine ⟨?_,?_⟩
              · rw [hPe]
                show Cr.num V.s 1 (V.s 1+1) 1=2
                rw [Cr.num_at,(uh hFE).1]
                rfl
              · rw [hPe]
                show Cr.num V.s 1 (V.s 1+1) 3=2
                rw [Cr.num_else _ _ (by omega)]
                exact (uh hFE).2.1
            have hW:=hide (Gd.law_new (s:=P.s) (g:=P.g) (cC:=qC) (cI:=qI) (uh hS5).law.grown hcap.1 l1 l2 l3 n1 n2 n3 hL hg)
            have hO:=hide ((uh hS5).law.on (gtr hg (World.grownBy_alloc wu (.cells #[.int .i64 (P.s 0),.int .i64 (P.s 1),.int .i64 (P.s 2),.int .i64 (P.s 3),.slice (some ⟨pC,0,none⟩) 384 qC,.slice (some ⟨pE,0,none⟩) 32 qE,.slice (some ⟨pI,0,none⟩) 40 qI,.int .i64 (P.g 0),.int .i64 (P.g 1),.int .i64 (P.g 2),.int .i64 (P.g 3)] 30) none)))
            clear hcap l1 l2 l3 n1 n2 n3 hL hg hP hPe cs x0 x1 x2 x3 x4 x5 x6 x7 x8 x9 x10 x11 b0 b1 b2 b3 b4 b5 b6 b7 b8 b9 b10 hS5 hGV
            unfold Gd.world at hW ⊢
            go_upto_region 25 with fail
            obtain ⟨Q,hQe⟩:∃Q,wu.heap.size=Q:=⟨_,rfl⟩
            rw [hQe] at hW ⊢
            clear hQe
            generalize wu.alloc (.cells #[.int .i64 (P.s 0),.int .i64 (P.s 1),.int .i64 (P.s 2),.int .i64 (P.s 3),.slice (some ⟨pC,0,none⟩) 384 qC,.slice (some ⟨pE,0,none⟩) 32 qE,.slice (some ⟨pI,0,none⟩) 40 qI,.int .i64 (P.g 0),.int .i64 (P.g 1),.int .i64 (P.g 2),.int .i64 (P.g 3)] 30)=wz at hW hO ⊢
            clear wu wg
            obtain ⟨b0,b1,b2,b3,b4,b5,b6,b7,b8,b9,b10⟩:=(uh hO).eleven
            obtain ⟨y0,y1,y2,y3,y4,y5,y6,y7,y8,y9,y10⟩:=(uh hW).eleven
            rw [(uh hFE).1] at b1
            rw [(uh hFE).2.1] at b3
            rw [(uh hPs).1] at y1
            rw [(uh hPs).2] at y3
            have ca:=hide (fun z (hz:Gd.Lists z kC kE kI V.c V.E V.I)=>refHero_same kE 32 mE V.E 0 z hz.own.ents)
            have hh0:=(uh hFE).2.2
            unfold Gd.hero at hh0
            rw [hh0] at ca
            clear hh0
            have hgr:=hide (uh hO).grown
            go_wp2_with fail
            refine (uh ca _ (uh hO).hold.lists).mono ?_
            rintro e wy ⟨rfl,hy⟩
            subst wy
            clear ca hO hW
            go_wp2_with fail
            go_ret
            exact ⟨rfl,none_below (uh hgr)⟩

set_option maxRecDepth 100000 in
theorem lifted (os : Os) (started : os.Started) (H : Type) (enc : TypeId × Value → H) :
    ReturnsInHanded {} Tryz.checked os 7 .any (Rows.crawlEndsSpec.pre6 enc Tryz.prog Tryz.f7 Rows.crawlEndsRow.domain false) (Rows.crawlEndsSpec.post enc Tryz.prog Tryz.f7 false true false false):=by
  refine returnsInHanded_of_change (C:=Tryz.checked) own started (by kernel_rfl) Tryz.func7
    (ChangeSpec.witness6 (enc:=enc) (C:=Tryz.checked) false ⟨#[],#[.int .i64 0,.int .i64 0,.int .i64 0],[]⟩ 8 (by kernel_rfl) (by kernel_rfl) (by kernel_rfl) (by kernel_rfl)) ?_
  intro W base args ds gs before hval0 hW hcnd _
  have hval:∀(j:Nat) t v,Tryz.f7.params[j]?=some t→args[j]?=some v→Value.okWide Tryz.prog W .any base t v:=hval0
  have hW':=hW
  obtain ⟨p,q,hA0,hV,rfl,hfz,hnd⟩:=hW
  have hA:DataW.TrodAll enc Tryz.prog W 0 (fun _=>true) true Tryz.f7.params.toList args.toList ds p:=hA0
  rw [Tryz.params7] at hA hval
  obtain ⟨v0,vs0,d0,ds0,p0,q0,hargs,rfl,rfl,h0,r0⟩:=trodAll_cons hA
  obtain ⟨v1,vs1,d1,ds1,p1,q1,rfl,rfl,rfl,h1,r1⟩:=trodAll_cons r0
  obtain ⟨v2,vs2,d2,ds2,p2,q2,rfl,rfl,rfl,h2,r2⟩:=trodAll_cons r1
  obtain ⟨rfl,rfl,rfl⟩:=trodAll_nil r2
  obtain rfl:args=#[v0,v1,v2]:=by cases args;simp_all
  obtain ⟨rfl,rfl⟩:=trodVars_none hV
  obtain ⟨a0,rfl,rfl,rfl,w0⟩:=open_int Tryz.underlying2 (hval 0 2 v0 rfl rfl) h0
  obtain ⟨a1,rfl,rfl,rfl,w1⟩:=open_int Tryz.underlying3 (hval 1 3 v1 rfl rfl) h1
  obtain ⟨a2,rfl,rfl,rfl,w2⟩:=open_int Tryz.underlying3 (hval 2 3 v2 rfl rfl) h2
  clear hA0 hval0
  refine (walk a0 a1 a2 w0 w1 w2 W).mono fun e W' ⟨he,hg⟩=>?_
  subst he
  exact ⟨_,rfl,_,_,_,[],_,[],hW',trodAll_mk1 (shut_bool Tryz.underlying4 _),(trodAll_cons_mk (shut_int Tryz.underlying2 w0) (trodAll_cons_mk (shut_int Tryz.underlying3 w1) (trodAll_cons_mk (shut_int Tryz.underlying3 w2) trodAll_mk0))),rfl,hg.frame _,fun h=>by cases h⟩

theorem over:Rows.crawlEndsRow.holds Tryz.pinned (OpenSpec.ofChange Rows.crawlEndsSpec) :=
 OpenClaim.holds_of_wide 7 Tryz.f7 rfl rfl rfl rfl rfl rfl rfl ⟨rfl,rfl,rfl,rfl,rfl⟩ rfl rfl rfl rfl rfl (by kernel_rfl) Tryz.func7 (by kernel_rfl)
  (of_decide_eq_true (by kernel_rfl)) (by unfold Func.isWrapper;first | (rw [if_pos (by decide +kernel)];kernel_rfl) | (rw [if_neg (by decide +kernel)];exact ⟨rfl,rfl⟩))
  (fun os started H enc _=>lifted os started H enc)

theorem proved:Rows.CrawlEndsSaid :=
 over
#print axioms proved
end Go.Proofs.YtbanjoflgoiegaaGreat.crawlEnds
