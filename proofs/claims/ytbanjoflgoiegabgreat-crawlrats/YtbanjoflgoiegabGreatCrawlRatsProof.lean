/-
  Every sixteenth frame a rat comes on the up stair, if nobody stands there: for every seed and frame, whether one stands there or not, at this commit; no condition.
-/
import Derived.Test.YtbanjoflgoiegabGreatRows
import Derived.WalkKit
import Derived.ProofKit
import Derived.OpenShut
import Derived.Test.YtbanjoflgoiegabGreatPart54
import Derived.Test.YtbanjoflgoiegabGreatPart22
import Derived.Test.YtbanjoflgoiegabGreatPart55
import Derived.BigQuiet
import Derived.BigRegion
import Derived.Deep.Cut
import Derived.Deep.CutRange
import Derived.Deep.CutBlock
import Derived.Deep.RegionHeld3
import Derived.Deep.MidRow
import Derived.Below
import Derived.ChangeOld
import Derived.ShutString
namespace Go.Proofs.YtbanjoflgoiegabGreat.crawlRats
open Go.ChangeShapes Go.WideShapes Go.ChangeAt Go.RowKit
open Go.ChangeMaps (open_string shut_string)
set_option linter.unusedVariables false

theorem own:ownKnob Tryz.prog.godebug=none:=by kernel_rfl

set_option maxRecDepth 16000 in
set_option maxHeartbeats 3200000 in

theorem walk (a0 : Int) (a1 : Int) (a2 : Bool) (w0 : (Lit.int .i64 a0).wf = true) (w1 : (Lit.int .i64 a1).wf = true) (w : World) :
    Calls Tryz.prog 5 #[.int .i64 a0,.int .i64 a1,.bool a2] w fun e w'=>e=.returned (.bool true)∧Below w.heap.size w w':=by
  have cW:=hide (fun wq=>within10_any a1 100 wq (by omega) (by omega))
  obtain ⟨fr,hfr⟩:∃fr,a1 % 100=fr:=⟨_,rfl⟩
  have fr0:Hid (0≤fr∧fr<100):=(show 0≤fr∧fr<100 by omega)
  rw [hfr] at cW
  clear w0 w1 hfr
  have ca:=hide (fun wq=>alone_any a0 0 1 wq)
  obtain ⟨r,hr⟩:∃r,((1+3*((1:Int) % 1000)) % 32).toNat=r:=⟨_,rfl⟩
  rw [hr] at ca
  go_enter Tryz.func5,Tryz.ntmps5
  go_wp2_with fail
  refine (known10_any _).mono ?_
  rintro e wk ⟨rfl,hgk⟩
  have hgk':=hide hgk
  clear hgk
  clear hr
  go_wp2_with fail
  refine (uh ca _).mono ?_
  rintro e wa ⟨S,hA,gC,gE,gI,cC,cE,cI,rfl,hcap,l1,l2,l3,n1,n2,n3,hL,hg⟩
  have hW:=hide (Gd.law_new (s:=S.s) (g:=S.g) (cC:=cC) (cI:=cI) (uh hgk') hcap.1 l1 l2 l3 n1 n2 n3 hL hg)
  have hA':=hide hA
  clear hcap l1 l2 l3 n1 n2 n3 hL hg hA ca hgk'
  unfold Gd.world at hW ⊢
  go_upto_region 4 with fail
  obtain ⟨X,hXe⟩:∃X,wa.heap.size=X:=⟨_,rfl⟩
  rw [hXe] at hW ⊢
  clear hXe
  generalize wa.alloc (.cells #[.int .i64 (S.s 0),.int .i64 (S.s 1),.int .i64 (S.s 2),.int .i64 (S.s 3),.slice (some ⟨gC,0,none⟩) 384 cC,.slice (some ⟨gE,0,none⟩) 32 cE,.slice (some ⟨gI,0,none⟩) 40 cI,.int .i64 (S.g 0),.int .i64 (S.g 1),.int .i64 (S.g 2),.int .i64 (S.g 3)] 28)=wv at hW ⊢
  clear wa wk
  have b5:=(uh hW).eleven.2.2.2.2.2.1
  have ch:=hide (refHero7_any gE cE S.E 0 wv (uh hW).hold.lists.own)
  rw [(uh hA').sole.hero] at ch
  go_wp2_with fail
  refine (uh ch).mono ?_
  rintro e wh ⟨rfl,hg⟩
  have hX:=hide ((uh hW).on hg)
  clear hW hg ch b5
  clear wv
  obtain ⟨u,hu,hfu,hcu,_⟩:=Cr.up_stair (uh hA').good.floor
  obtain ⟨d,hd,hfd,hcd⟩:=Cr.down_stair (uh hA').good.floor
  have HU:=hide (And.intro hu (And.intro hfu hcu))
  have HD:=hide (And.intro hd (And.intro hfd hcd))
  have NUD:Hid (d≠u):=(show d≠u from fun e=>by rw [e,hcu] at hcd;omega)
  clear hu hfu hcu hd hfd hcd
  have b4:=(uh hX).eleven.2.2.2.2.1
  obtain ⟨fnd,hfnd⟩:∃fnd:Int→Int,Hid (∀kd,fnd kd=Gr.find 384 S.c kd):=⟨fun kd=>Gr.find 384 S.c kd,fun _=>rfl⟩
  have cf:=hide (fun z (hz:Gd.Lists z gC gE gI S.c S.E S.I) kd=>refFind_any z.heap.size (some ⟨gC,0,none⟩) 384 cC S.c kd z hz.vec (uh hA').good.sane.fit.cells)
  have cg:Hid (∀z,Gd.Lists z gC gE gI S.c S.E S.I→∀kd,Calls Tryz.prog 16 #[.slice (some ⟨gC,0,none⟩) 384 cC,.int .i64 kd] z fun e w'=>e=.returned (.int .i64 (fnd kd))∧w'=z):=fun z hz kd=>by
    have h:=uh cf z hz kd
    rw [←uh hfnd kd] at h
    exact h
  have f3:fnd 3=(u:Int):=(uh hfnd 3).trans (uh HU).2.1
  have f4:fnd 4=(d:Int):=(uh hfnd 4).trans (uh HD).2.1
  have HF34:=hide (And.intro f3 f4)
  clear cf f3 f4 hfnd
  go_upto_region 5 with fail
  go_quiet (first | (go_at_call 16;refine Calls.quiet_of_same (uh cg _ ?_ _);exact (uh hX).hold.lists.on (gdw (World.grownBy.refl _ none) _)) | fail)
  rw [(uh HF34).1,(uh HF34).2]
  clear cg b4 HF34
  have hX1:=hide ((uh hX).on (gdw (World.grownBy.refl wh none) nq))
  clear hX
  have hX:=hX1
  clear hX1
  generalize wh.drewN nq=wq at hX ⊢
  clear wh
  cases a2
  · have b5:=(uh hX).eleven.2.2.2.2.2.1
    have fE:=(uh hX).hold.lists.ents.free
    have hr32:=(uh hA').sole.lt
    have hk':(r:Int)<32:=by omega
    have r3:=((uh hX).hold.lists.own.ents.row hr32).2.2.2.1
    have r4:=((uh hX).hold.lists.own.ents.row hr32).2.2.2.2.1
    have hXE:X≠gE:=(uh hX).hold.bE
    have hEX:gE≠X:=hXE.symm
    obtain ⟨F,hFe⟩:∃F,F=Cr.go S.E r ((d:Int) % 24) ((d:Int) / 24):=⟨_,rfl⟩
    have hst:Hid (Gd.Law w ((wq.setCell ⟨gE,r*11+3,none⟩ (.int .i64 ((d:Int) % 24))).setCell ⟨gE,r*11+4,none⟩ (.int .i64 ((d:Int) / 24))) X gC gE gI cC cE cI S.s S.g S.c F S.I):=by
      show Gd.Law _ _ _ _ _ _ _ _ _ _ _ _ _ _
      rw [hFe]
      exact ((uh hX).stat r 3 (by omega) ((d:Int) % 24)).stat r 4 (by omega) ((d:Int) / 24)
    have hFF:Hid (Cr.Sane S.c F S.I∧Cr.Sole F r 0∧F r 3=(d:Int) % 24∧F r 4=(d:Int) / 24∧F r 9=0∧F r 10=0):=by
      show _∧_∧_∧_∧_∧_
      rw [hFe]
      have k:=(uh hA').sole.gone (uh hA').good.sane (uh HD).1 (by rw [(uh HD).2.2];rfl)
      refine ⟨k.1,k.2,?_,?_,?_,?_⟩
      · rw [Cr.go_at,if_neg (by omega),if_pos rfl]
      · rw [Cr.go_at,if_pos rfl]
      · rw [Cr.go_at,if_neg (by omega),if_neg (by omega)]
        exact (uh hA').e9
      · rw [Cr.go_at,if_neg (by omega),if_neg (by omega)]
        exact (uh hA').e10
    have t1:IntKind.i64.wrap ((d:Int) / 24)=(d:Int) / 24:=by rw [IntKind.wrap_i64];have:=(uh HD).1;omega
    clear hFe hr32
    go_upto_region 9 with fail
    go_cut [] from 31 (fun wx=>Hid (Gd.Law w wx X gC gE gI cC cE cI S.s S.g S.c F S.I))
    case first =>
      go_region_held3 (fun x=>x.cell? ⟨X,5,none⟩=some (.slice (some ⟨gE,0,none⟩) 32 cE)) (go_keep) (fail)
      all_goals
        go_wp2_with fail
        go_meet
        exact (uh hst).on (gd1 (World.grownBy.refl _ _))
    case rest =>
      have hX2:=hide (uh hcut)
      clear hcut hst b5 fE r3 r4 hXE hEX hX t1 hk'
      go_wp2_with fail
      refine (uh cW _).mono ?_
      rintro e wy ⟨rfl,hy⟩
      subst wy
      clear cW
      have fX:=(uh hX2).hold.box.free
      have b1:=(uh hX2).eleven.2.1
      have hX3:=hide ((uh hX2).num 1 (by omega) fr)
      clear hX2
      go_upto_region 11 with fail
      generalize wc.setCell ⟨X,1,none⟩ (.int .i64 fr)=wt at hX3 ⊢
      clear b1 fX
      obtain ⟨b0,b1,b2,b3,b4,b5,b6,b7,b8,b9,b10⟩:=(uh hX3).eleven
      have hgd:Hid (Cr.Good ⟨(Cr.num S.s 1 fr),S.g,S.c,F,S.I⟩):=⟨(uh hFF).1,(uh hA').good.floor,(uh hA').good.gold,(uh hA').good.f1,(uh hA').good.f3,(uh hA').good.s0,(uh hA').good.s2⟩
      have hf0:=uh fr0
      have cs:=hide (cStep_any (Cr.num S.s 1 fr) S.g S.c F S.I gC gE gI cC cE cI (fun _=>0) (fun _=>0) (fun _=>false) wt (uh hX3).hold.lists (uh hgd) (by rw [Cr.num_at];omega) (by rw [Cr.num_at];omega))
      clear hf0
      try dsimp only at cs
      go_wp2_with fail
      refine (uh cs).mono ?_
      rintro e wu ⟨U,hU,jC,jE,jI,dC,dE,dI,rfl,hcap,l1,l2,l3,n1,n2,n3,hL,hg⟩
      have hUe:=Cr.lone_stay hU (uh hA').s3 (uh hFF).2.1 ⟨by show ¬(0:Int)=1;omega,by show ¬(0:Int)=2;omega⟩ (fun _ _ _=>rfl) (uh hFF).2.2.2.2.1 (uh hFF).2.2.2.2.2
      have hGs:=(hU.good (uh hgd)).1.sane
      rw [hUe] at hGs
      dsimp only at hUe hGs
      obtain ⟨G,hG⟩:∃G,Cr.rats (Cr.num (Cr.num S.s 1 fr) 1 ((Cr.num S.s 1 fr) 1+1)) S.c F=G:=⟨_,rfl⟩
      have hat:Hid (if (fr+1) % 16=0 then ∃r:Nat,r<32∧En.first (En.atQ G ((u:Int) % 24) ((u:Int) / 24)) 32=(r:Int)∧G r 0=2∧G r 5=4 else En.first (En.atQ G ((u:Int) % 24) ((u:Int) / 24)) 32=-1):=by
        have h:=Cr.rat_comes (s:=Cr.num (Cr.num S.s 1 fr) 1 ((Cr.num S.s 1 fr) 1+1)) hGs (uh hFF).2.1 (uh HU).2.1 (uh HD).1 (uh HU).1 (uh NUD) (uh hFF).2.2.1 (uh hFF).2.2.2.1
        rw [hG,Cr.num_at,Cr.num_at] at h
        exact h
      rw [hG] at hUe
      subst hUe
      have hW:=hide (Gd.law_new (s:=Cr.num (Cr.num S.s 1 fr) 1 ((Cr.num S.s 1 fr) 1+1)) (g:=S.g) (cC:=dC) (cI:=dI) (uh hX3).grown hcap.1 l1 l2 l3 n1 n2 n3 hL hg)
      have hO:=hide ((uh hX3).on (gtr hg (World.grownBy_alloc wu (.cells #[.int .i64 (Cr.num (Cr.num S.s 1 fr) 1 ((Cr.num S.s 1 fr) 1+1) 0),.int .i64 (Cr.num (Cr.num S.s 1 fr) 1 ((Cr.num S.s 1 fr) 1+1) 1),.int .i64 (Cr.num (Cr.num S.s 1 fr) 1 ((Cr.num S.s 1 fr) 1+1) 2),.int .i64 (Cr.num (Cr.num S.s 1 fr) 1 ((Cr.num S.s 1 fr) 1+1) 3),.slice (some ⟨jC,0,none⟩) 384 dC,.slice (some ⟨jE,0,none⟩) 32 dE,.slice (some ⟨jI,0,none⟩) 40 dI,.int .i64 (S.g 0),.int .i64 (S.g 1),.int .i64 (S.g 2),.int .i64 (S.g 3)] 28) none)))
      clear hcap l1 l2 l3 n1 n2 n3 hL hg hU cs b0 b1 b2 b3 b4 b5 b6 b7 b8 b9 b10 hX3 hG hGs hgd hFF
      unfold Gd.world at hW ⊢
      go_upto_region 12 with fail
      obtain ⟨Y,hYe⟩:∃Y,wu.heap.size=Y:=⟨_,rfl⟩
      rw [hYe] at hW ⊢
      clear hYe
      generalize wu.alloc (.cells #[.int .i64 (Cr.num (Cr.num S.s 1 fr) 1 ((Cr.num S.s 1 fr) 1+1) 0),.int .i64 (Cr.num (Cr.num S.s 1 fr) 1 ((Cr.num S.s 1 fr) 1+1) 1),.int .i64 (Cr.num (Cr.num S.s 1 fr) 1 ((Cr.num S.s 1 fr) 1+1) 2),.int .i64 (Cr.num (Cr.num S.s 1 fr) 1 ((Cr.num S.s 1 fr) 1+1) 3),.slice (some ⟨jC,0,none⟩) 384 dC,.slice (some ⟨jE,0,none⟩) 32 dE,.slice (some ⟨jI,0,none⟩) 40 dI,.int .i64 (S.g 0),.int .i64 (S.g 1),.int .i64 (S.g 2),.int .i64 (S.g 3)] 28)=wv at hW hO ⊢
      clear wu wt
      have hY:=hide (uh hW)
      have y5:=(uh hY).eleven.2.2.2.2.2.1
      have b1:=(uh hO).eleven.2.1
      rw [Cr.num_at] at b1
      have hgr:=hide (uh hO).grown
      have t1:IntKind.i64.wrap ((u:Int) / 24)=(u:Int) / 24:=by rw [IntKind.wrap_i64];have:=(uh HU).1;omega
      have t2:IntKind.i64.wrap (fr+1)=fr+1:=by rw [IntKind.wrap_i64];have:=uh fr0;omega
      have f1:=(uh fr0).1
      clear hW hO HU HD NUD
      have h:=uh hat
      by_cases h16:(fr+1) % 16=0
      · rw [if_pos h16] at h
        obtain ⟨p,hp,hpa,hp0,hp5⟩:=h
        have cz:=hide (fun z (hz:Gd.Lists z jC jE jI S.c G S.I)=>entRefAt_same jE 32 dE G ((u:Int) % 24) ((u:Int) / 24) z hz.own.ents)
        rw [hpa] at cz
        have hp':(p:Int)<32:=by omega
        have q0:=((uh hY).hold.lists.own.ents.row hp).1
        have q5:=((uh hY).hold.lists.own.ents.row hp).2.2.2.2.2.1
        rw [hp0] at q0
        rw [hp5] at q5
        have hge:decide ((p:Int)≥0)=true:=by simp
        have hlt:decide ((p:Int)<0)=false:=by simp
        clear hp hpa hp0 hp5 hat
        go_wp2_with fail;refine (uh cz _ (uh hY).hold.lists).mono ?_;rintro e wy ⟨rfl,hy⟩;subst wy
        clear cz
        go_wp2_with fail
        go_ret
        exact ⟨rfl,none_below (uh hgr)⟩
      · rw [if_neg h16] at h
        have cz:=hide (fun z (hz:Gd.Lists z jC jE jI S.c G S.I)=>entRefAt_same jE 32 dE G ((u:Int) % 24) ((u:Int) / 24) z hz.own.ents)
        rw [h] at cz
        have h16':((fr+1) % 16 == 0)=false:=by simp [h16]
        clear h hat h16
        go_wp2_with fail;refine (uh cz _ (uh hY).hold.lists).mono ?_;rintro e wy ⟨rfl,hy⟩;subst wy
        clear cz
        go_wp2_with fail
        go_ret
        exact ⟨rfl,none_below (uh hgr)⟩
  · have b5:=(uh hX).eleven.2.2.2.2.2.1
    have fE:=(uh hX).hold.lists.ents.free
    have hr32:=(uh hA').sole.lt
    have hk':(r:Int)<32:=by omega
    have r3:=((uh hX).hold.lists.own.ents.row hr32).2.2.2.1
    have r4:=((uh hX).hold.lists.own.ents.row hr32).2.2.2.2.1
    have hXE:X≠gE:=(uh hX).hold.bE
    have hEX:gE≠X:=hXE.symm
    obtain ⟨F,hFe⟩:∃F,F=Cr.go S.E r ((u:Int) % 24) ((u:Int) / 24):=⟨_,rfl⟩
    have hst:Hid (Gd.Law w ((wq.setCell ⟨gE,r*11+3,none⟩ (.int .i64 ((u:Int) % 24))).setCell ⟨gE,r*11+4,none⟩ (.int .i64 ((u:Int) / 24))) X gC gE gI cC cE cI S.s S.g S.c F S.I):=by
      show Gd.Law _ _ _ _ _ _ _ _ _ _ _ _ _ _
      rw [hFe]
      exact ((uh hX).stat r 3 (by omega) ((u:Int) % 24)).stat r 4 (by omega) ((u:Int) / 24)
    have hFF:Hid (Cr.Sane S.c F S.I∧Cr.Sole F r 0∧F r 3=(u:Int) % 24∧F r 4=(u:Int) / 24∧F r 9=0∧F r 10=0):=by
      show _∧_∧_∧_∧_∧_
      rw [hFe]
      have k:=(uh hA').sole.gone (uh hA').good.sane (uh HU).1 (by rw [(uh HU).2.2];rfl)
      refine ⟨k.1,k.2,?_,?_,?_,?_⟩
      · rw [Cr.go_at,if_neg (by omega),if_pos rfl]
      · rw [Cr.go_at,if_pos rfl]
      · rw [Cr.go_at,if_neg (by omega),if_neg (by omega)]
        exact (uh hA').e9
      · rw [Cr.go_at,if_neg (by omega),if_neg (by omega)]
        exact (uh hA').e10
    have t1:IntKind.i64.wrap ((u:Int) / 24)=(u:Int) / 24:=by rw [IntKind.wrap_i64];have:=(uh HU).1;omega
    clear hFe hr32
    go_upto_region 9 with fail
    go_cut [] from 31 (fun wx=>Hid (Gd.Law w wx X gC gE gI cC cE cI S.s S.g S.c F S.I))
    case first =>
      go_region_held3 (fun x=>x.cell? ⟨X,5,none⟩=some (.slice (some ⟨gE,0,none⟩) 32 cE)) (go_keep) (fail)
      all_goals
        go_wp2_with fail
        go_meet
        exact (uh hst).on (gd1 (World.grownBy.refl _ _))
    case rest =>
      have hX2:=hide (uh hcut)
      clear hcut hst b5 fE r3 r4 hXE hEX hX t1 hk'
      go_wp2_with fail
      refine (uh cW _).mono ?_
      rintro e wy ⟨rfl,hy⟩
      subst wy
      clear cW
      have fX:=(uh hX2).hold.box.free
      have b1:=(uh hX2).eleven.2.1
      have hX3:=hide ((uh hX2).num 1 (by omega) fr)
      clear hX2
      go_upto_region 11 with fail
      generalize wc.setCell ⟨X,1,none⟩ (.int .i64 fr)=wt at hX3 ⊢
      clear b1 fX
      obtain ⟨b0,b1,b2,b3,b4,b5,b6,b7,b8,b9,b10⟩:=(uh hX3).eleven
      have hgd:Hid (Cr.Good ⟨(Cr.num S.s 1 fr),S.g,S.c,F,S.I⟩):=⟨(uh hFF).1,(uh hA').good.floor,(uh hA').good.gold,(uh hA').good.f1,(uh hA').good.f3,(uh hA').good.s0,(uh hA').good.s2⟩
      have hf0:=uh fr0
      have cs:=hide (cStep_any (Cr.num S.s 1 fr) S.g S.c F S.I gC gE gI cC cE cI (fun _=>0) (fun _=>0) (fun _=>false) wt (uh hX3).hold.lists (uh hgd) (by rw [Cr.num_at];omega) (by rw [Cr.num_at];omega))
      clear hf0
      try dsimp only at cs
      go_wp2_with fail
      refine (uh cs).mono ?_
      rintro e wu ⟨U,hU,jC,jE,jI,dC,dE,dI,rfl,hcap,l1,l2,l3,n1,n2,n3,hL,hg⟩
      have hUe:=Cr.lone_stay hU (uh hA').s3 (uh hFF).2.1 ⟨by show ¬(0:Int)=1;omega,by show ¬(0:Int)=2;omega⟩ (fun _ _ _=>rfl) (uh hFF).2.2.2.2.1 (uh hFF).2.2.2.2.2
      have hGs:=(hU.good (uh hgd)).1.sane
      rw [hUe] at hGs
      dsimp only at hUe hGs
      obtain ⟨G,hG⟩:∃G,Cr.rats (Cr.num (Cr.num S.s 1 fr) 1 ((Cr.num S.s 1 fr) 1+1)) S.c F=G:=⟨_,rfl⟩
      have hat:Hid (En.first (En.atQ G ((u:Int) % 24) ((u:Int) / 24)) 32=(r:Int)):=by
        have h:=Cr.rat_stands (s:=Cr.num (Cr.num S.s 1 fr) 1 ((Cr.num S.s 1 fr) 1+1)) hGs (uh hFF).2.1
        rw [(uh hFF).2.2.1,(uh hFF).2.2.2.1,hG] at h
        exact h
      rw [hG] at hUe
      subst hUe
      have hW:=hide (Gd.law_new (s:=Cr.num (Cr.num S.s 1 fr) 1 ((Cr.num S.s 1 fr) 1+1)) (g:=S.g) (cC:=dC) (cI:=dI) (uh hX3).grown hcap.1 l1 l2 l3 n1 n2 n3 hL hg)
      have hO:=hide ((uh hX3).on (gtr hg (World.grownBy_alloc wu (.cells #[.int .i64 (Cr.num (Cr.num S.s 1 fr) 1 ((Cr.num S.s 1 fr) 1+1) 0),.int .i64 (Cr.num (Cr.num S.s 1 fr) 1 ((Cr.num S.s 1 fr) 1+1) 1),.int .i64 (Cr.num (Cr.num S.s 1 fr) 1 ((Cr.num S.s 1 fr) 1+1) 2),.int .i64 (Cr.num (Cr.num S.s 1 fr) 1 ((Cr.num S.s 1 fr) 1+1) 3),.slice (some ⟨jC,0,none⟩) 384 dC,.slice (some ⟨jE,0,none⟩) 32 dE,.slice (some ⟨jI,0,none⟩) 40 dI,.int .i64 (S.g 0),.int .i64 (S.g 1),.int .i64 (S.g 2),.int .i64 (S.g 3)] 28) none)))
      clear hcap l1 l2 l3 n1 n2 n3 hL hg hU cs b0 b1 b2 b3 b4 b5 b6 b7 b8 b9 b10 hX3 hG hGs hgd hFF
      unfold Gd.world at hW ⊢
      go_upto_region 12 with fail
      obtain ⟨Y,hYe⟩:∃Y,wu.heap.size=Y:=⟨_,rfl⟩
      rw [hYe] at hW ⊢
      clear hYe
      generalize wu.alloc (.cells #[.int .i64 (Cr.num (Cr.num S.s 1 fr) 1 ((Cr.num S.s 1 fr) 1+1) 0),.int .i64 (Cr.num (Cr.num S.s 1 fr) 1 ((Cr.num S.s 1 fr) 1+1) 1),.int .i64 (Cr.num (Cr.num S.s 1 fr) 1 ((Cr.num S.s 1 fr) 1+1) 2),.int .i64 (Cr.num (Cr.num S.s 1 fr) 1 ((Cr.num S.s 1 fr) 1+1) 3),.slice (some ⟨jC,0,none⟩) 384 dC,.slice (some ⟨jE,0,none⟩) 32 dE,.slice (some ⟨jI,0,none⟩) 40 dI,.int .i64 (S.g 0),.int .i64 (S.g 1),.int .i64 (S.g 2),.int .i64 (S.g 3)] 28)=wv at hW hO ⊢
      clear wu wt
      have hY:=hide (uh hW)
      have y5:=(uh hY).eleven.2.2.2.2.2.1
      have b1:=(uh hO).eleven.2.1
      rw [Cr.num_at] at b1
      have hgr:=hide (uh hO).grown
      have t1:IntKind.i64.wrap ((u:Int) / 24)=(u:Int) / 24:=by rw [IntKind.wrap_i64];have:=(uh HU).1;omega
      have t2:IntKind.i64.wrap (fr+1)=fr+1:=by rw [IntKind.wrap_i64];have:=uh fr0;omega
      have f1:=(uh fr0).1
      clear hW hO HU HD NUD
      have cz:=hide (fun z (hz:Gd.Lists z jC jE jI S.c G S.I)=>entRefAt_same jE 32 dE G ((u:Int) % 24) ((u:Int) / 24) z hz.own.ents)
      rw [uh hat] at cz
      go_wp2_with fail;refine (uh cz _ (uh hY).hold.lists).mono ?_;rintro e wy ⟨rfl,hy⟩;subst wy
      clear cz
      go_wp2_with fail
      go_ret
      exact ⟨rfl,none_below (uh hgr)⟩

set_option maxRecDepth 100000 in
theorem lifted (os : Os) (started : os.Started) (H : Type) (enc : TypeId × Value → H) :
    ReturnsInHanded {} Tryz.checked os 5 .any (Rows.crawlRatsSpec.pre6 enc Tryz.prog Tryz.f5 Rows.crawlRatsRow.domain false) (Rows.crawlRatsSpec.post enc Tryz.prog Tryz.f5 false true false false):=by
  refine returnsInHanded_of_change (C:=Tryz.checked) own started (by kernel_rfl) Tryz.func5
    (ChangeSpec.witness6 (enc:=enc) (C:=Tryz.checked) false ⟨#[],#[.int .i64 0,.int .i64 0,.bool false],[]⟩ 8 (by kernel_rfl) (by kernel_rfl) (by kernel_rfl) (by kernel_rfl)) ?_
  intro W base args ds gs before hval0 hW hcnd _
  have hval:∀(j:Nat) t v,Tryz.f5.params[j]?=some t→args[j]?=some v→Value.okWide Tryz.prog W .any base t v:=hval0
  have hW':=hW
  obtain ⟨p,q,hA0,hV,rfl,hfz,hnd⟩:=hW
  have hA:DataW.TrodAll enc Tryz.prog W 0 (fun _=>true) true Tryz.f5.params.toList args.toList ds p:=hA0
  rw [Tryz.params5] at hA hval
  obtain ⟨v0,vs0,d0,ds0,p0,q0,hargs,rfl,rfl,h0,r0⟩:=trodAll_cons hA
  obtain ⟨v1,vs1,d1,ds1,p1,q1,rfl,rfl,rfl,h1,r1⟩:=trodAll_cons r0
  obtain ⟨v2,vs2,d2,ds2,p2,q2,rfl,rfl,rfl,h2,r2⟩:=trodAll_cons r1
  obtain ⟨rfl,rfl,rfl⟩:=trodAll_nil r2
  obtain rfl:args=#[v0,v1,v2]:=by cases args;simp_all
  obtain ⟨rfl,rfl⟩:=trodVars_none hV
  obtain ⟨a0,rfl,rfl,rfl,w0⟩:=open_int Tryz.underlying2 (hval 0 2 v0 rfl rfl) h0
  obtain ⟨a1,rfl,rfl,rfl,w1⟩:=open_int Tryz.underlying3 (hval 1 3 v1 rfl rfl) h1
  obtain ⟨a2,rfl,rfl,rfl⟩:=open_bool Tryz.underlying4 (hval 2 4 v2 rfl rfl) h2
  clear hA0 hval0
  refine (walk a0 a1 a2 w0 w1 W).mono fun e W' ⟨he,hg⟩=>?_
  subst he
  exact ⟨_,rfl,_,_,_,[],_,[],hW',trodAll_mk1 (shut_bool Tryz.underlying4 _),(trodAll_cons_mk (shut_int Tryz.underlying2 w0) (trodAll_cons_mk (shut_int Tryz.underlying3 w1) (trodAll_cons_mk (shut_bool Tryz.underlying4 _) trodAll_mk0))),rfl,hg.frame _,fun h=>by cases h⟩

theorem over:Rows.crawlRatsRow.holds Tryz.pinned (OpenSpec.ofChange Rows.crawlRatsSpec) :=
 OpenClaim.holds_of_wide 5 Tryz.f5 rfl rfl rfl rfl rfl rfl rfl ⟨rfl,rfl,rfl,rfl,rfl⟩ rfl rfl rfl rfl rfl (by kernel_rfl) Tryz.func5 (by kernel_rfl)
  (of_decide_eq_true (by kernel_rfl)) (by unfold Func.isWrapper;first | (rw [if_pos (by decide +kernel)];kernel_rfl) | (rw [if_neg (by decide +kernel)];exact ⟨rfl,rfl⟩))
  (fun os started H enc _=>lifted os started H enc)

theorem proved:Rows.CrawlRatsSaid :=
 over
#print axioms proved
end Go.Proofs.YtbanjoflgoiegabGreat.crawlRats
