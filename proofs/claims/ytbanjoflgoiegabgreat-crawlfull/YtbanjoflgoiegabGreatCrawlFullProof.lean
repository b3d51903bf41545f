/-
  Where no row is free nobody comes: no hero, no rat; the world goes on: for every seed, frame and seat, at this commit; no condition.
-/
import Derived.Test.YtbanjoflgoiegabGreatRows
import Derived.WalkKit
import Derived.ProofKit
import Derived.OpenShut
import Derived.Test.YtbanjoflgoiegabGreatPart54
import Derived.Test.YtbanjoflgoiegabGreatPart22
import Derived.Test.YtbanjoflgoiegabGreatPart55
import Derived.Test.YtbanjoflgoiegabGreatPart14
import Derived.BigQuiet
import Derived.BigRegion
import Derived.Deep.Cut
import Derived.Deep.CutRange
import Derived.Deep.CutBlock
import Derived.Deep.RegionHeld3
import Derived.Deep.MidRow
import Derived.Below
import Derived.ChangeOld
import Derived.ShutString
namespace Go.Proofs.YtbanjoflgoiegabGreat.crawlFull
open Go.ChangeShapes Go.WideShapes Go.ChangeAt Go.RowKit
open Go.ChangeMaps (open_string shut_string)
set_option linter.unusedVariables false

theorem own:ownKnob Tryz.prog.godebug=none:=by kernel_rfl

set_option maxRecDepth 16000 in
set_option maxHeartbeats 3200000 in

theorem walk (a0 : Int) (a1 : Int) (a2 : Int) (w0 : (Lit.int .i64 a0).wf = true) (w1 : (Lit.int .i64 a1).wf = true) (w2 : (Lit.int .i64 a2).wf = true) (w : World) :
    Calls Tryz.prog 6 #[.int .i64 a0,.int .i64 a1,.int .i64 a2] w fun e w'=>e=.returned (.bool true)∧Below w.heap.size w w':=by
  have cW:=hide (fun wq=>within10_any a2 3 wq (by omega) (by omega))
  obtain ⟨m,hm⟩:∃m,a2 % 3=m:=⟨_,rfl⟩
  obtain ⟨t,ht⟩:∃t:Nat,1+m=(t:Int):=⟨(1+m).toNat,by omega⟩
  have t14:Hid (1≤t∧t<4):=(show 1≤t∧t<4 by omega)
  have t1:IntKind.i64.wrap (1+m)=(t:Int):=by rw [IntKind.wrap_i64];omega
  rw [hm] at cW
  clear w0 w1 w2 hm ht
  have ca:=hide (fun wq=>alone_any a0 0 1 wq)
  obtain ⟨r,hr⟩:∃r,((1+3*((1:Int) % 1000)) % 32).toNat=r:=⟨_,rfl⟩
  rw [hr] at ca
  go_enter Tryz.func6,Tryz.ntmps6
  go_wp2_with fail
  refine (known10_any _).mono ?_
  rintro e wk ⟨rfl,hgk⟩
  have hgk':=hide hgk
  clear hgk
  clear hr
  go_wp2_with fail
  refine (uh ca _).mono ?_
  rintro e wa ⟨S,hA,gC,gE,gI,cC,cE,cI,rfl,hcap,l1,l2,l3,n1,n2,n3,hL,hg⟩
  have hW:=hide (Gd.law_new (s:=S.s) (g:=S.g) (cC:=cC) (cI:=cI) (uh hgk') hcap.1 l1 l2 l3 n1 n2 n3 hL hg)
  have hA':=hide hA
  clear hcap l1 l2 l3 n1 n2 n3 hL hg hA ca hgk'
  unfold Gd.world at hW ⊢
  go_upto_region 4 with fail
  obtain ⟨X,hXe⟩:∃X,wa.heap.size=X:=⟨_,rfl⟩
  rw [hXe] at hW ⊢
  clear hXe
  generalize wa.alloc (.cells #[.int .i64 (S.s 0),.int .i64 (S.s 1),.int .i64 (S.s 2),.int .i64 (S.s 3),.slice (some ⟨gC,0,none⟩) 384 cC,.slice (some ⟨gE,0,none⟩) 32 cE,.slice (some ⟨gI,0,none⟩) 40 cI,.int .i64 (S.g 0),.int .i64 (S.g 1),.int .i64 (S.g 2),.int .i64 (S.g 3)] 28)=wv at hW ⊢
  clear wa wk
  have fX:=(uh hW).hold.box.free
  have b1:=(uh hW).eleven.2.1
  have hX0:=hide ((uh hW).num 1 (by omega) 15)
  clear hW
  go_upto_region 5 with fail
  generalize wv.setCell ⟨X,1,none⟩ (.int .i64 15)=wx at hX0 ⊢
  clear b1 fX wv
  have hF0:Hid (Cr.Filled S.c S.E S.E S.I r 0):=⟨(uh hA').good.sane,rfl,fun k hk=>absurd hk (by omega),fun k _ e=>by rw [(uh hA').rest k e]⟩
  go_wp2_with fail
  go_loopw [8,9] (fun va vi wr=>∃(a i:Nat) (E:Nat→Nat→Int),i≤32∧a≤384∧va=.int .i64 (a:Int)∧vi=.int .i64 (i:Int)∧Hid (Gd.Law w wr X gC gE gI cC cE cI (Cr.num S.s 1 15) S.g S.c E S.I)∧Hid (Cr.Filled S.c S.E E S.I r i)) (fun _ vi _=>40 - (intOf vi).toNat)
  case atStart=>exact ⟨0,0,S.E,by omega,by omega,rfl,rfl,hX0,hF0⟩
  case round =>
    clear hX0 hF0
    obtain ⟨a,i,E,hi,ha,rfl,rfl,hX,hF⟩:=hrel
    by_cases hlt:i<32
    · have hlt':(i:Int)<32:=by omega
      have HL:=hide hlt
      have b5:=(uh hX).eleven.2.2.2.2.2.1
      have r0:=((uh hX).hold.lists.own.ents.row hlt).1
      by_cases hir:i=r
      · subst hir
        have e1:E i 0=1:=by rw [(uh hF).hero];exact (uh hA').sole.one
        rw [e1] at r0
        have hF2:=hide (uh hF).skip
        have HA:=hide ha
        clear hlt hi hF e1 ha
        go_wp2
        go_roundw
        case rel=>exact ⟨a,i+1,E,by have:=uh HL;omega,uh HA,rfl,by go_num,hX,hF2⟩
        case measure=>simp [intOf];have:=uh HL;omega
      · have e0:E i 0=0:=(uh hF).free i (Nat.le_refl _) hir
        rw [e0] at r0
        have HIR:=hide hir
        clear hlt hi e0 hir
        go_upto_block 2 with fail
        go_cut [8] from 30 to 60 (fun va wx=>∃q:Nat,q≤384∧va=.int .i64 (q:Int)∧wx=wr∧Hid (q<384→Ft.Room S.c E q))
        case first =>
          have b4:=(uh hX).eleven.2.2.2.2.1
          go_wp2_with fail
          go_loop [8] (fun va=>∃q:Nat,q≤384∧va=.int .i64 (q:Int)) (fun va=>500 - (intOf va).toNat)
          case atStart=>exact ⟨a,ha,rfl⟩
          case round =>
            obtain ⟨q,hq,rfl⟩:=hrel
            by_cases hq4:q<384
            · have hq4':(q:Int)<384:=by omega
              have HQ:=hide hq4
              have u0:wr.cell? ⟨gC,q,none⟩=some (.int .u8 (S.c q)):=(uh hX).hold.lists.cells.cell hq4
              have c5:=hide ((uh hA').good.floor.five q)
              by_cases k0:S.c q=0
              · rw [k0] at u0
                clear hq hq4 k0 c5
                go_wp2
                go_round
                case rel=>exact ⟨q+1,by have:=uh HQ;omega,by go_num⟩
                case measure=>simp [intOf];have:=uh HQ;omega
              · by_cases k3:S.c q=3
                · rw [k3] at u0
                  clear hq hq4 k0 k3 c5
                  go_wp2
                  go_round
                  case rel=>exact ⟨q+1,by have:=uh HQ;omega,by go_num⟩
                  case measure=>simp [intOf];have:=uh HQ;omega
                · have k0':(S.c q == 0)=false:=by simp [k0]
                  have k3':(S.c q == 3)=false:=by simp [k3]
                  have hwk:Hid (Gr.walkB (S.c q)=true):=by
                    have:=uh c5
                    rcases (show S.c q=1∨S.c q=2∨S.c q=4∨S.c q=5 by omega) with h | h | h | h <;> (show Gr.walkB (S.c q)=true;rw [h];rfl)
                  have t2:IntKind.i64.wrap ((q:Int) / 24)=(q:Int) / 24:=by rw [IntKind.wrap_i64];omega
                  have cz:=hide (fun wx (hx:Own wx gE 32 E)=>entRefAt_same gE 32 cE E ((q:Int) % 24) ((q:Int) / 24) wx hx.ents)
                  obtain ⟨z,hz⟩:∃z,En.first (En.atQ E ((q:Int) % 24) ((q:Int) / 24)) 32=z:=⟨_,rfl⟩
                  rw [hz] at cz
                  have HZ:=hide hz
                  clear hq hq4 k0 k3 c5 hz
                  go_wp2_with fail
                  refine (uh cz _ (uh hX).hold.lists.own).mono ?_
                  rintro e wy ⟨rfl,hy⟩
                  subst wy
                  by_cases hz0:z≥0
                  · go_wp2
                    go_round
                    case rel=>exact ⟨q+1,by have:=uh HQ;omega,by go_num⟩
                    case measure=>simp [intOf];have:=uh HQ;omega
                  · have HZ0:=hide hz0
                    go_wp2_with fail
                    go_meet
                    exact ⟨q,by have:=uh HQ;omega,rfl,rfl,fun _=>⟨uh hwk,by rw [uh HZ];have:=uh HZ0;omega⟩⟩
            · have hq4':¬(q:Int)<384:=by omega
              have HQ:=hide hq4
              have HQ2:=hide hq
              clear hq4 hq
              go_wp2_with fail
              go_meet
              exact ⟨q,uh HQ2,rfl,rfl,fun h=>absurd h (uh HQ)⟩
        case rest =>
          obtain ⟨q,hq,rfl,hwe,hroom⟩:=hcut
          subst hwe
          clear ha
          by_cases hq4:q<384
          · have hq4n:((q:Int) == 384)=false:=by simp;omega
            have HQ:=hide hq4
            have hRo:=hide (uh hroom hq4)
            have cst:=hide (entRefStats_any 2 wc)
            obtain ⟨st,hst⟩:∃st,En.stats 2=st:=⟨_,rfl⟩
            rw [hst] at cst
            have HST:=hide hst
            clear hst hq4 hq hroom b5 r0
            unfold En.cells at cst
            go_wp2_with fail
            refine (uh cst).mono ?_
            rintro e w1 ⟨rfl,hg1⟩
            have hQ:=hide (Lie.born w1 st 42)
            have hg2:=hide (gtr hg1 (World.grownBy_alloc w1 (.cells (En.cells st) 42) none))
            have hX1:=hide ((uh hX).on (uh hg2))
            have nQE:Hid (w1.heap.size≠gE∧w.heap.size≤w1.heap.size):=(show w1.heap.size≠gE∧w.heap.size≤w1.heap.size by have k1:=((uh hX).on hg1).hold.lists.ents.lt;have k2:=((uh hX).on hg1).grown.size;omega)
            clear hg1 cst hg2 hX
            unfold En.cells at hQ hX1
            go_upto_region 15 with fail
            obtain ⟨Q,hQe⟩:∃Q,w1.heap.size=Q:=⟨_,rfl⟩
            rw [hQe] at hQ nQE ⊢
            generalize w1.alloc (.cells #[.int .i64 (st 0),.int .i64 (st 1),.int .i64 (st 2),.int .i64 (st 3),.int .i64 (st 4),.int .i64 (st 5),.int .i64 (st 6),.int .i64 (st 7),.int .i64 (st 8),.int .i64 (st 9),.int .i64 (st 10)] 42)=wd at hQ hX1 ⊢
            clear hQe w1
            obtain ⟨z0,z1,z2,z3,z4,z5,z6,z7,z8,z9,z10⟩:=(uh hQ).ent
            have zf:=(uh hQ).free
            have t2:IntKind.i64.wrap ((q:Int) / 24)=(q:Int) / 24:=by rw [IntKind.wrap_i64];have:=uh HQ;omega
            have hQ2:=hide ((((uh hQ).upd 3 ((q:Int) % 24)).upd 4 ((q:Int) / 24)).upd 10 9)
            have nX:=(uh hQ).type_ne (uh hX1).hold.box (by decide)
            have nC:=(uh hQ).type_ne (uh hX1).hold.lists.cells (by decide)
            have nI:=(uh hQ).type_ne (uh hX1).hold.lists.items (by decide)
            have hX2:=hide ((((uh hX1).beside (B:=Q) (o:=3) (uh nQE).2 nX nC (uh nQE).1 nI (.int .i64 ((q:Int) % 24))).beside (B:=Q) (o:=4) (uh nQE).2 nX nC (uh nQE).1 nI (.int .i64 ((q:Int) / 24))).beside (B:=Q) (o:=10) (uh nQE).2 nX nC (uh nQE).1 nI (.int .i64 9))
            obtain ⟨e,he⟩:∃e,En.upd (En.upd (En.upd st 3 ((q:Int) % 24)) 4 ((q:Int) / 24)) 10 9=e:=⟨_,rfl⟩
            have HE:Hid (e=Cr.sleeper q):=by rw [←he,←uh HST];rfl
            rw [he] at hQ2
            clear he hQ hX1 nX nC nI
            go_upto_region 16 with fail
            generalize ((wd.setCell ⟨Q,3,none⟩ (.int .i64 ((q:Int) % 24))).setCell ⟨Q,4,none⟩ (.int .i64 ((q:Int) / 24))).setCell ⟨Q,10,none⟩ (.int .i64 9)=we at hQ2 hX2 ⊢
            clear z0 z1 z2 z3 z4 z5 z6 z7 z8 z9 z10 zf t2
            obtain ⟨z0,z1,z2,z3,z4,z5,z6,z7,z8,z9,z10⟩:=(uh hQ2).ent
            have b5:=(uh hX2).eleven.2.2.2.2.2.1
            obtain ⟨r0,r1,r2,r3,r4,r5,r6,r7,r8,r9,r10⟩:=(uh hX2).hold.lists.own.ents.row (uh HL)
            have fE:=(uh hX2).hold.lists.ents.free
            have zf:=(uh hQ2).free
            have hrow:=hide ((uh hX2).row i e)
            have hF2:Hid (Cr.Filled S.c S.E (En.put E i e) S.I r (i+1)):=by
              show Cr.Filled _ _ _ _ _ _
              rw [uh HE]
              exact (uh hF).next (uh HIR) (uh HQ) (uh hRo)
            clear hX2 hF hRo HE hQ2
            go_wp2
            go_roundw
            case rel=>exact ⟨q,i+1,En.put E i e,by have:=uh HL;omega,by have:=uh HQ;omega,rfl,by go_num,uh hrow,hF2⟩
            case measure=>simp [intOf];have:=uh HL;omega
          · obtain rfl:q=384:=by omega
            have hgr:=hide (uh hX).grown
            clear hq4 hq hroom b5 r0 hX
            go_wp2
            go_ret
            exact ⟨rfl,none_below (uh hgr)⟩
    · obtain rfl:i=32:=by omega
      have hge:¬((32:Nat):Int)<32:=by omega
      clear hlt hi ha
      obtain ⟨wd,hwd⟩:∃wd,wd=wr.alloc (.cells #[.int .i64 0,.int .i64 0,.bool false,.int .i64 0,.int .i64 0,.bool false,.int .i64 0,.int .i64 0,.bool false,.int .i64 0,.int .i64 0,.bool false] 35):=⟨_,rfl⟩
      have hgd:wr.grownBy wd none:=by rw [hwd];exact World.grownBy_alloc _ _ _
      have hSc:Hid (Cr.Scene w wd X wr.heap.size gC gE gI cC cE cI (fun _=>0) (fun _=>0) (fun _=>false) ⟨(Cr.num S.s 1 15),S.g,S.c,E,S.I⟩):=by
        refine ⟨(uh hX).on hgd,?_,(uh hX).grown.size⟩
        rw [hwd]
        exact Cr.acts_lie (h:=fun _=>0) (i:=fun _=>0) (b:=fun _=>false) (heap_alloc_new wr _)
      clear hgd hX
      go_upto_region 18 with fail
      rw [←hwd]
      clear hwd hge
      obtain ⟨A,hAe⟩:∃A,wr.heap.size=A:=⟨_,rfl⟩
      rw [hAe] at hSc ⊢
      clear hAe
      clear wr
      go_wp2_with fail
      refine (uh cW _).mono ?_
      rintro e wy ⟨rfl,hy⟩
      subst wy
      clear cW
      have ht4:(t:Int)<4:=by have:=uh t14;omega
      have xa:wd.cell? ⟨A,t*3,none⟩=some (.int .i64 0):=by
        have h:=(uh hSc).acts.cell (c:=t*3) (by omega)
        rw [h]
        rcases (show t=1∨t=2∨t=3 by have:=uh t14;omega) with h | h | h <;> rw [h] <;> rfl
      have xb:wd.cell? ⟨A,t*3+1,none⟩=some (.int .i64 0):=by
        have h:=(uh hSc).acts.cell (c:=t*3+1) (by omega)
        rw [h]
        rcases (show t=1∨t=2∨t=3 by have:=uh t14;omega) with h | h | h <;> rw [h] <;> rfl
      have xc:wd.cell? ⟨A,t*3+2,none⟩=some (.bool false):=by
        have h:=(uh hSc).acts.cell (c:=t*3+2) (by omega)
        rw [h]
        rcases (show t=1∨t=2∨t=3 by have:=uh t14;omega) with h | h | h <;> rw [h] <;> rfl
      have fA:=(uh hSc).acts.free
      have e1:(fun k=>if k=t then (0:Int) else (fun _=>(0:Int)) k)=fun _=>0:=funext fun k=>by dsimp only;split <;> rfl
      obtain ⟨sp,hsp⟩:∃sp:Nat→Bool,(fun k=>if k=t then true else (fun _=>false) k)=sp:=⟨_,rfl⟩
      have hS5:=(uh hSc).act t 0 0 true
      rw [e1,hsp] at hS5
      have hS4:=hide hS5
      clear hSc hS5 e1 hsp
      go_upto_region 19 with fail
      generalize ((wd.setCell ⟨A,t*3,none⟩ (.int .i64 0)).setCell ⟨A,t*3+1,none⟩ (.int .i64 0)).setCell ⟨A,t*3+2,none⟩ (.bool true)=wt at hS4 ⊢
      clear xa xb xc fA wd t1 ht4
      obtain ⟨b0,b1,b2,b3,b4,b5,b6,b7,b8,b9,b10⟩:=(uh hS4).law.eleven
      obtain ⟨x0,x1,x2,x3,x4,x5,x6,x7,x8,x9,x10,x11⟩:=(uh hS4).twelve
      have hgd:Hid (Cr.Good ⟨(Cr.num S.s 1 15),S.g,S.c,E,S.I⟩):=⟨(uh hF).sane,(uh hA').good.floor,(uh hA').good.gold,(uh hA').good.f1,(uh hA').good.f3,(uh hA').good.s0,(uh hA').good.s2⟩
      have cs:=hide ((uh hS4).step (uh hgd) (by show -9223372036854775808≤Cr.num S.s 1 15 1;rw [Cr.num_at];omega) (by show Cr.num S.s 1 15 1<9223372036854775807;rw [Cr.num_at];omega))
      try dsimp only at b0 b1 b2 b3 b4 b5 b6 b7 b8 b9 b10 x0 x1 x2 x3 x4 x5 x6 x7 x8 x9 x10 x11 cs
      go_wp2_with fail
      refine (uh cs).mono ?_
      rintro e wu ⟨U,hU,jC,jE,jI,dC,dE,dI,rfl,hcap,l1,l2,l3,n1,n2,n3,hL,hg⟩
      have hUe:=Cr.full_frame (f:=r) hU (uh hA').s3 (uh hA').sole.lt (by show E r 0=1;rw [(uh hF).hero];exact (uh hA').sole.one) (by show E r 2=0;rw [(uh hF).hero];exact (uh hA').sole.seat) (fun _ _=>rfl) (fun k hk=>by
        show E k 0≠0∧E k 9=0∧(E k 0=1∨0<E k 10)
        by_cases e:k=r
        · rw [e,(uh hF).hero,(uh hA').sole.one]
          exact ⟨by omega,(uh hA').e9,.inl rfl⟩
        · obtain ⟨q0,q9,q10⟩:=(uh hF).rats k hk e
          exact ⟨by omega,q9,.inr (by omega)⟩)
      obtain ⟨us,ug,uc,G,J⟩:=U
      dsimp only at hUe
      have hUs:Hid (us 1=16∧us 3=0):=by
        rw [hUe.1]
        exact ⟨(Cr.num_at _ _ _).trans (by rw [Cr.num_at];rfl),(uh hA').s3⟩
      have hUk:=hide hUe.2
      have hW:=hide (Gd.law_new (s:=us) (g:=ug) (cC:=dC) (cI:=dI) (uh hS4).law.grown hcap.1 l1 l2 l3 n1 n2 n3 hL hg)
      have hO:=hide ((uh hS4).law.on (gtr hg (World.grownBy_alloc wu (.cells #[.int .i64 (us 0),.int .i64 (us 1),.int .i64 (us 2),.int .i64 (us 3),.slice (some ⟨jC,0,none⟩) 384 dC,.slice (some ⟨jE,0,none⟩) 32 dE,.slice (some ⟨jI,0,none⟩) 40 dI,.int .i64 (ug 0),.int .i64 (ug 1),.int .i64 (ug 2),.int .i64 (ug 3)] 28) none)))
      clear hcap l1 l2 l3 n1 n2 n3 hL hg hU cs x0 x1 x2 x3 x4 x5 x6 x7 x8 x9 x10 x11 b0 b1 b2 b3 b4 b5 b6 b7 b8 b9 b10 hS4 hUe hgd hF hA' t14
      unfold Gd.world at hW ⊢
      go_upto_region 20 with fail
      obtain ⟨Y,hYe⟩:∃Y,wu.heap.size=Y:=⟨_,rfl⟩
      rw [hYe] at hW ⊢
      clear hYe
      generalize wu.alloc (.cells #[.int .i64 (us 0),.int .i64 (us 1),.int .i64 (us 2),.int .i64 (us 3),.slice (some ⟨jC,0,none⟩) 384 dC,.slice (some ⟨jE,0,none⟩) 32 dE,.slice (some ⟨jI,0,none⟩) 40 dI,.int .i64 (ug 0),.int .i64 (ug 1),.int .i64 (ug 2),.int .i64 (ug 3)] 28)=wv at hW hO ⊢
      clear wu wt
      try dsimp only at hO hW hUk
      have hP:Hid ((Gd.Law w wv X gC gE gI cC cE cI (Cr.num S.s 1 15) S.g S.c E S.I)∧Gd.Law w wv Y jC jE jI dC dE dI us ug uc G J):=⟨uh hO,uh hW⟩
      clear hO hW
      go_wp2_with fail
      go_loopw [13] (fun v13 wr=>∃i:Nat,i≤32∧v13=.int .i64 (i:Int)∧Hid ((Gd.Law w wr X gC gE gI cC cE cI (Cr.num S.s 1 15) S.g S.c E S.I)∧Gd.Law w wr Y jC jE jI dC dE dI us ug uc G J)) (fun v13 _=>40 - (intOf v13).toNat)
      case atStart=>exact ⟨0,by omega,rfl,hP⟩
      case round =>
        clear hP
        obtain ⟨i,hi,rfl,hP⟩:=hrel
        by_cases hlt:i<32
        · have hlt':(i:Int)<32:=by omega
          have HL:=hide hlt
          have b5:=(uh hP).1.eleven.2.2.2.2.2.1
          have y5:=(uh hP).2.eleven.2.2.2.2.2.1
          have e0:=((uh hP).1.hold.lists.own.ents.row hlt).1
          have e1:=((uh hP).1.hold.lists.own.ents.row hlt).2.1
          have g0:=((uh hP).2.hold.lists.own.ents.row hlt).1
          have g1:=((uh hP).2.hold.lists.own.ents.row hlt).2.1
          rw [(uh hUk i hlt).1] at g0
          rw [(uh hUk i hlt).2] at g1
          clear hlt hi
          go_upto_region 23 with fail
          go_quiet (fail)
          have hP2:=hide (And.intro ((uh hP).1.on (gdw (World.grownBy.refl wr none) nq)) ((uh hP).2.on (gdw (World.grownBy.refl wr none) nq)))
          clear b5 y5 e0 e1 g0 g1 hP
          generalize wr.drewN nq=wq at hP2 ⊢
          go_wp2
          go_roundw
          case rel=>exact ⟨i+1,by have:=uh HL;omega,by go_num,hP2⟩
          case measure=>simp [intOf];have:=uh HL;omega
        · obtain rfl:i=32:=by omega
          have hge:¬((32:Nat):Int)<32:=by omega
          have y1:=(uh hP).2.eleven.2.1
          have y3:=(uh hP).2.eleven.2.2.2.1
          rw [(uh hUs).1] at y1
          rw [(uh hUs).2] at y3
          have hgr:=hide (uh hP).1.grown
          clear hlt hi hP
          go_wp2_with fail
          go_ret
          exact ⟨rfl,none_below (uh hgr)⟩

set_option maxRecDepth 100000 in
theorem lifted (os : Os) (started : os.Started) (H : Type) (enc : TypeId × Value → H) :
    ReturnsInHanded {} Tryz.checked os 6 .any (Rows.crawlFullSpec.pre6 enc Tryz.prog Tryz.f6 Rows.crawlFullRow.domain false) (Rows.crawlFullSpec.post enc Tryz.prog Tryz.f6 false true false false):=by
  refine returnsInHanded_of_change (C:=Tryz.checked) own started (by kernel_rfl) Tryz.func6
    (ChangeSpec.witness6 (enc:=enc) (C:=Tryz.checked) false ⟨#[],#[.int .i64 0,.int .i64 0,.int .i64 0],[]⟩ 8 (by kernel_rfl) (by kernel_rfl) (by kernel_rfl) (by kernel_rfl)) ?_
  intro W base args ds gs before hval0 hW hcnd _
  have hval:∀(j:Nat) t v,Tryz.f6.params[j]?=some t→args[j]?=some v→Value.okWide Tryz.prog W .any base t v:=hval0
  have hW':=hW
  obtain ⟨p,q,hA0,hV,rfl,hfz,hnd⟩:=hW
  have hA:DataW.TrodAll enc Tryz.prog W 0 (fun _=>true) true Tryz.f6.params.toList args.toList ds p:=hA0
  rw [Tryz.params6] at hA hval
  obtain ⟨v0,vs0,d0,ds0,p0,q0,hargs,rfl,rfl,h0,r0⟩:=trodAll_cons hA
  obtain ⟨v1,vs1,d1,ds1,p1,q1,rfl,rfl,rfl,h1,r1⟩:=trodAll_cons r0
  obtain ⟨v2,vs2,d2,ds2,p2,q2,rfl,rfl,rfl,h2,r2⟩:=trodAll_cons r1
  obtain ⟨rfl,rfl,rfl⟩:=trodAll_nil r2
  obtain rfl:args=#[v0,v1,v2]:=by cases args;simp_all
  obtain ⟨rfl,rfl⟩:=trodVars_none hV
  obtain ⟨a0,rfl,rfl,rfl,w0⟩:=open_int Tryz.underlying2 (hval 0 2 v0 rfl rfl) h0
  obtain ⟨a1,rfl,rfl,rfl,w1⟩:=open_int Tryz.underlying3 (hval 1 3 v1 rfl rfl) h1
  obtain ⟨a2,rfl,rfl,rfl,w2⟩:=open_int Tryz.underlying3 (hval 2 3 v2 rfl rfl) h2
  clear hA0 hval0
  refine (walk a0 a1 a2 w0 w1 w2 W).mono fun e W' ⟨he,hg⟩=>?_
  subst he
  exact ⟨_,rfl,_,_,_,[],_,[],hW',trodAll_mk1 (shut_bool Tryz.underlying4 _),(trodAll_cons_mk (shut_int Tryz.underlying2 w0) (trodAll_cons_mk (shut_int Tryz.underlying3 w1) (trodAll_cons_mk (shut_int Tryz.underlying3 w2) trodAll_mk0))),rfl,hg.frame _,fun h=>by cases h⟩

theorem over:Rows.crawlFullRow.holds Tryz.pinned (OpenSpec.ofChange Rows.crawlFullSpec) :=
 OpenClaim.holds_of_wide 6 Tryz.f6 rfl rfl rfl rfl rfl rfl rfl ⟨rfl,rfl,rfl,rfl,rfl⟩ rfl rfl rfl rfl rfl (by kernel_rfl) Tryz.func6 (by kernel_rfl)
  (of_decide_eq_true (by kernel_rfl)) (by unfold Func.isWrapper;first | (rw [if_pos (by decide +kernel)];kernel_rfl) | (rw [if_neg (by decide +kernel)];exact ⟨rfl,rfl⟩))
  (fun os started H enc _=>lifted os started H enc)

theorem proved:Rows.CrawlFullSaid :=
 over
#print axioms proved
end Go.Proofs.YtbanjoflgoiegabGreat.crawlFull
