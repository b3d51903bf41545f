/-
  Whatever is done, each world may be: for every seed, every list of rows of numbers, with robots or without them, at this commit; no condition.
-/
import Derived.ProofKit
import Derived.Test.YtbanjoflgoiegaaGreatPs54
import Derived.Test.YtbanjoflgoiegaaGreatPs55
import Derived.ShutString
import Derived.ChangeOld
namespace Go.Proofs.YtbanjoflgoiegaaGreat.crawlSound
open Go.ChangeShapes Go.WideShapes Go.ChangeAt Go.RowKit
open Go.ChangeMaps (open_string shut_string)
set_option linter.unusedVariables false

theorem own:ownKnob Tryz.prog.godebug=none:=by kernel_rfl
theorem laidOut:laidOutB Tryz.prog=true:=by kernel_rfl

def IsRow (k:IntKind) (w:World) (a:Option Addr) (len cap:Nat) (zs:List Int):Prop :=
 (a=none∧len=0∧cap=0∧zs=[]) ∨
 ∃x,a=some x∧len≤cap∧cap≤maxLen∧zs.length=cap∧(∀i,i<zs.length→w.cell? (x.add i)=some (.int k (zs.getD i 0)))∧∀n∈zs,(Lit.int k n).wf=true

set_option maxRecDepth 16000 in
set_option maxHeartbeats 3200000 in

theorem walk (a0:Int) (a1:Option Addr) (len1 cap1:Nat) (z1:(Nat→Option Addr × Nat × Nat) × (Nat→Nat→Int)) (a2:Bool) (w:World) (w0:(Lit.int .i64 a0).wf=true) (w1:Cr.Came w a1 len1 z1.1 z1.2) :
  Calls Tryz.prog 6 #[.int .i64 a0,.slice a1 len1 cap1,.bool a2] w fun e w'=>e=.returned (.bool true)∧Below w.heap.size w w':=by
 obtain ⟨V,z⟩:=z1
 have hC:=hide w1
 clear w0 w1
 have cn:=hide (fun wq=>cNew_any a0 wq)
 go_enter Tryz.func6,Tryz.ntmps6
 go_wp2_with fail
 refine (known10_any _).mono ?_
 rintro e wk ⟨rfl,hgk⟩
 have hgk':=hide hgk
 clear hgk
 go_wp2_with fail
 refine (uh cn _).mono ?_
 rintro e w1 ⟨S',hN,gC,gE,gI,cC,cE,cI,rfl,hcap1,l11,l12,l13,n11,n12,n13,hL1,hg1⟩
 have hT0:=hide (Gd.law_new (s:=S'.s) (g:=S'.g) (cC:=cC) (cI:=cI) (uh hgk') hcap1.1 l11 l12 l13 n11 n12 n13 hL1 hg1)
 have hGo0:Hid (Cr.Good S'∧S'.s 1=((0:Nat):Int)∧S'.s 0=a0):=⟨hN.good,hN.frame.2.1,hN.frame.1⟩
 clear cn hgk' hcap1 l11 l12 l13 n11 n12 n13 hL1 hg1 hN
 unfold Gd.world at hT0 ⊢
 go_upto_region 4 with fail
 obtain ⟨T,hTe⟩:∃T,w1.heap.size=T:=⟨_,rfl⟩
 rw [hTe] at hT0 ⊢
 clear hTe
 generalize w1.alloc (.cells #[.int .i64 (S'.s 0),.int .i64 (S'.s 1),.int .i64 (S'.s 2),.int .i64 (S'.s 3),.slice (some ⟨gC,0,none⟩) 384 cC,.slice (some ⟨gE,0,none⟩) 32 cE,.slice (some ⟨gI,0,none⟩) 40 cI,.int .i64 (S'.g 0),.int .i64 (S'.g 1),.int .i64 (S'.g 2),.int .i64 (S'.g 3)] 30)=w3 at hT0 ⊢
 clear w1 wk
 go_wp2_with fail
 go_loopw [8] (fun v8 wr=>∃(i:Nat) (S:Cr.W) (gC gE gI cC cE cI:Nat),i≤60∧v8=.int .i64 (i:Int)∧Hid (Gd.Law w wr T gC gE gI cC cE cI S.s S.g S.c S.E S.I)∧Hid (Cr.Good S∧S.s 1=(i:Int)∧S.s 0=a0)) (fun v8 _=>200 - (intOf v8).toNat)
 case atStart=>exact ⟨0,S',gC,gE,gI,cC,cE,cI,by omega,rfl,hT0,hGo0⟩
 case round =>
  clear hT0 hGo0
  obtain ⟨i,S,gC,gE,gI,cC,cE,cI,hi,rfl,hP,hGo⟩:=hrel
  have hgr:=hide (uh hP).grown
  by_cases hlen:i<len1
  ·by_cases hlt:i<60
   ·have hlt':(i:Int)<60:=by omega
    have hlen':(i:Int)<(len1:Int):=by omega
    have HL:=hide hlt
    obtain ⟨b,o,rfl,hb,hcell,hmx,hz⟩:=((uh hC).on (uh hgr)).2 i hlen
    have hm1:len1≤maxLen:=(uh hC).1
    obtain ⟨ra,rn,rk,hV⟩:∃ra rn rk,V i=(ra,rn,rk):=⟨_,_,_,rfl⟩
    rw [hV] at hcell hz hmx
    dsimp only at hcell hz hmx
    have ca:=hide (acts10_any ra rn rk (z i) wr hz)
    clear hV hz hmx hb hlt hi
    generalize z i=zi at ca
    go_wp2_with fail
    refine (uh ca).mono ?_
    rintro e wa ⟨rfl,hga⟩
    obtain ⟨how,hhow⟩:∃how,Cr.hows rn zi=how:=⟨_,rfl⟩
    obtain ⟨inp,hinp⟩:∃inp,Cr.ins rn zi=inp:=⟨_,rfl⟩
    obtain ⟨sp,hsp⟩:∃sp,Cr.sps rn zi=sp:=⟨_,rfl⟩
    rw [hhow,hinp,hsp]
    obtain ⟨wd,hwd⟩:∃wd,wd=wa.alloc (.cells (Cr.acts how inp sp) 36):=⟨_,rfl⟩
    have hgd:wa.grownBy wd none:=by rw [hwd];exact World.grownBy_alloc _ _ _
    have hA0:Hid (Cr.Scene w wd T wa.heap.size gC gE gI cC cE cI how inp sp S):=by
     refine ⟨((uh hP).on hga).on hgd,?_,Nat.le_trans (uh hP).grown.size hga.size⟩
     rw [hwd]
     exact Cr.acts_lie (heap_alloc_new wa _)
    clear ca hga hgd hhow hinp hsp hP hcell hm1 hlen' hlen hgr
    unfold Cr.acts at hwd ⊢
    go_upto_region 8 with fail
    rw [←hwd]
    clear hwd
    obtain ⟨A,hAe⟩:∃A,wa.heap.size=A:=⟨_,rfl⟩
    rw [hAe] at hA0 ⊢
    clear hAe
    clear wa wr
    go_upto_if 32 with fail
    go_cut [] from 33 to 34 (fun wx=>∃sp,Hid (Cr.Scene w wx T A gC gE gI cC cE cI how inp sp S))
    case first =>
     by_cases hi0:i=0
     ·have hi1:((i:Int) == 0)=true:=by simp [hi0]
      clear hi0
      have y2:=(uh hA0).twelve.2.2.1
      have fA:=(uh hA0).acts.free
      have hE:=hide (uh hA0).comes
      go_wp2
      go_meet
      exact ⟨_,hE⟩
     ·have hi1:((i:Int) == 0)=false:=by simp;omega
      clear hi0
      go_wp2
      go_meet
      exact ⟨_,hA0⟩
    case rest =>
    obtain ⟨sp',hB0⟩:=hcut
    clear hA0
    go_upto_block 2 with fail
    go_cut [10] from 35 to 44 (fun v10 wx=>∃how,Hid (Cr.Scene w wx T A gC gE gI cC cE cI how inp sp' S))
    case first =>
     go_wp2_with fail
     go_loopw [10] (fun v10 wr=>∃(t:Nat) (how:Nat→Int),t≤4∧v10=.int .i64 (t:Int)∧Hid (Cr.Scene w wr T A gC gE gI cC cE cI how inp sp' S)) (fun v10 _=>10 - (intOf v10).toNat)
     case atStart=>exact ⟨0,how,by omega,rfl,hB0⟩
     case round =>
      clear hB0
      obtain ⟨t,how,ht,rfl,hB⟩:=hrel
      by_cases htl:t<4
      ·have htl':(t:Int)<4:=by omega
       have TL:=hide htl
       cases a2
       ·go_wp2
        go_meet
        exact ⟨_,hB⟩
       ·have fA:=(uh hB).acts.free
        have xa:=(uh hB).how_at htl
        have hB2:=hide ((uh hB).how t 2)
        clear htl ht hB
        go_wp2
        go_roundw
        case rel=>exact ⟨t+1,_,by have:=uh TL;omega,by go_num,hB2⟩
        case measure=>simp [intOf];have:=uh TL;omega
      ·have hge:¬(t:Int)<4:=by omega
       go_wp2
       go_meet
       exact ⟨_,hB⟩
    case rest =>
    obtain ⟨how',hS0⟩:=hcut
    clear hB0
    obtain ⟨b0,b1,b2,b3,b4,b5,b6,b7,b8,b9,b10⟩:=(uh hS0).law.eleven
    obtain ⟨wq,hwq⟩:∃wq,wq=wc.alloc (.cells #[.int .i64 (S.s 0),.int .i64 (S.s 1),.int .i64 (S.s 2),.int .i64 (S.s 3),.slice (some ⟨gC,0,none⟩) 384 cC,.slice (some ⟨gE,0,none⟩) 32 cE,.slice (some ⟨gI,0,none⟩) 40 cI,.int .i64 (S.g 0),.int .i64 (S.g 1),.int .i64 (S.g 2),.int .i64 (S.g 3)] 30):=⟨_,rfl⟩
    have hgq:wc.grownBy wq none:=by rw [hwq];exact World.grownBy_alloc _ _ _
    have hQ:Hid (Lie wq wc.heap.size 30 11 (Gd.box S.s gC gE gI cC cE cI S.g)):=by rw [hwq];exact (Arr.world (heap_alloc_new wc _)).lie
    have hTQ:Hid (T≠wc.heap.size):=(show T≠wc.heap.size by have:=(uh hS0).law.hold.box.lt;omega)
    have hS:=hide ((uh hS0).on hgq)
    clear hgq hS0
    go_upto_region 15 with fail
    rw [←hwq]
    clear hwq b0 b1 b2 b3 b4 b5 b6 b7 b8 b9 b10
    obtain ⟨Q,hQe⟩:∃Q,wc.heap.size=Q:=⟨_,rfl⟩
    rw [hQe] at hQ hTQ ⊢
    clear hQe
    clear wc
    obtain ⟨b0,b1,b2,b3,b4,b5,b6,b7,b8,b9,b10⟩:=(uh hS).law.eleven
    obtain ⟨x0,x1,x2,x3,x4,x5,x6,x7,x8,x9,x10,x11⟩:=(uh hS).twelve
    have cs:=hide ((uh hS).step (uh hGo).1 (by have:=(uh hGo).2.1;omega) (by have:=(uh hGo).2.1;have:=uh HL;omega))
    go_wp2_with fail
    refine (uh cs).mono ?_
    rintro e wu ⟨U,hU,aC,aE,aI,bC,bE,bI,rfl,hcap,l1,l2,l3,n1,n2,n3,hL,hg⟩
    have hP2:Hid (Cr.Scene w (((((((((((wu.setCell ⟨T,0,none⟩ (.int .i64 (U.s 0))).setCell ⟨T,1,none⟩ (.int .i64 (U.s 1))).setCell ⟨T,2,none⟩ (.int .i64 (U.s 2))).setCell ⟨T,3,none⟩ (.int .i64 (U.s 3))).setCell ⟨T,4,none⟩ (.slice (some ⟨aC,0,none⟩) 384 bC)).setCell ⟨T,5,none⟩ (.slice (some ⟨aE,0,none⟩) 32 bE)).setCell ⟨T,6,none⟩ (.slice (some ⟨aI,0,none⟩) 40 bI)).setCell ⟨T,7,none⟩ (.int .i64 (U.g 0))).setCell ⟨T,8,none⟩ (.int .i64 (U.g 1))).setCell ⟨T,9,none⟩ (.int .i64 (U.g 2))).setCell ⟨T,10,none⟩ (.int .i64 (U.g 3))) T A aC aE aI bC bE bI how' inp sp' U):=(uh hS).over hcap l1 l2 l3 n1 n2 n3 hL hg
    have hK:Hid (Lie (((((((((((wu.setCell ⟨T,0,none⟩ (.int .i64 (U.s 0))).setCell ⟨T,1,none⟩ (.int .i64 (U.s 1))).setCell ⟨T,2,none⟩ (.int .i64 (U.s 2))).setCell ⟨T,3,none⟩ (.int .i64 (U.s 3))).setCell ⟨T,4,none⟩ (.slice (some ⟨aC,0,none⟩) 384 bC)).setCell ⟨T,5,none⟩ (.slice (some ⟨aE,0,none⟩) 32 bE)).setCell ⟨T,6,none⟩ (.slice (some ⟨aI,0,none⟩) 40 bI)).setCell ⟨T,7,none⟩ (.int .i64 (U.g 0))).setCell ⟨T,8,none⟩ (.int .i64 (U.g 1))).setCell ⟨T,9,none⟩ (.int .i64 (U.g 2))).setCell ⟨T,10,none⟩ (.int .i64 (U.g 3))) Q 30 11 (Gd.box S.s gC gE gI cC cE cI S.g)∧Gd.Lists (((((((((((wu.setCell ⟨T,0,none⟩ (.int .i64 (U.s 0))).setCell ⟨T,1,none⟩ (.int .i64 (U.s 1))).setCell ⟨T,2,none⟩ (.int .i64 (U.s 2))).setCell ⟨T,3,none⟩ (.int .i64 (U.s 3))).setCell ⟨T,4,none⟩ (.slice (some ⟨aC,0,none⟩) 384 bC)).setCell ⟨T,5,none⟩ (.slice (some ⟨aE,0,none⟩) 32 bE)).setCell ⟨T,6,none⟩ (.slice (some ⟨aI,0,none⟩) 40 bI)).setCell ⟨T,7,none⟩ (.int .i64 (U.g 0))).setCell ⟨T,8,none⟩ (.int .i64 (U.g 1))).setCell ⟨T,9,none⟩ (.int .i64 (U.g 2))).setCell ⟨T,10,none⟩ (.int .i64 (U.g 3))) gC gE gI S.c S.E S.I):=(uh hS).copied (uh hQ) (uh hTQ) hg
    have fT:=((uh hS).law.hold.box.on hg).free
    obtain ⟨y0,y1,y2,y3,y4,y5,y6,y7,y8,y9,y10⟩:=((uh hS).law.hold.box.on hg).eleven
    have hGU:=hide (hU.good (uh hGo).1)
    have hcE:=hide hcap.1
    clear hcap l1 l2 l3 n1 n2 n3 hL hg cs b0 b1 b2 b3 b4 b5 b6 b7 b8 b9 b10 x0 x1 x2 x3 x4 x5 x6 x7 x8 x9 x10 x11 hS hQ hTQ hU
    unfold Gd.world
    go_upto_region 16 with fail
    generalize (((((((((((wu.setCell ⟨T,0,none⟩ (.int .i64 (U.s 0))).setCell ⟨T,1,none⟩ (.int .i64 (U.s 1))).setCell ⟨T,2,none⟩ (.int .i64 (U.s 2))).setCell ⟨T,3,none⟩ (.int .i64 (U.s 3))).setCell ⟨T,4,none⟩ (.slice (some ⟨aC,0,none⟩) 384 bC)).setCell ⟨T,5,none⟩ (.slice (some ⟨aE,0,none⟩) 32 bE)).setCell ⟨T,6,none⟩ (.slice (some ⟨aI,0,none⟩) 40 bI)).setCell ⟨T,7,none⟩ (.int .i64 (U.g 0))).setCell ⟨T,8,none⟩ (.int .i64 (U.g 1))).setCell ⟨T,9,none⟩ (.int .i64 (U.g 2))).setCell ⟨T,10,none⟩ (.int .i64 (U.g 3)))=wg at hP2 hK ⊢
    clear y0 y1 y2 y3 y4 y5 y6 y7 y8 y9 y10 fT wu
    obtain ⟨b0,b1,b2,b3,b4,b5,b6,b7,b8,b9,b10⟩:=(uh hP2).law.eleven
    have cc:=hide (snapCheck_any U.s U.g U.c U.E U.I aC aE aI bC bE bI wg (uh hP2).law.hold.lists (uh hGU).1 (uh hcE) (by have:=(uh hGo).2.1;have:=(uh hGU).2.2.1;omega) (by have:=(uh hGo).2.1;have:=(uh hGU).2.2.1;have:=uh HL;omega))
    unfold Gd.world at cc
    go_wp2_with fail
    refine (uh cc).mono ?_
    rintro e wy ⟨rfl,hy⟩
    have hP3:=hide ((uh hP2).law.on hy)
    have hK3:=hide (And.intro ((uh hK).1.on hy) ((uh hK).2.on hy))
    clear cc b0 b1 b2 b3 b4 b5 b6 b7 b8 b9 b10 hy hP2 hK hcE
    obtain ⟨b0,b1,b2,b3,b4,b5,b6,b7,b8,b9,b10⟩:=(uh hP3).eleven
    obtain ⟨y0,y1,y2,y3,y4,y5,y6,y7,y8,y9,y10⟩:=(uh hK3).1.eleven
    have t1:IntKind.i64.wrap (S.s 1+1)=U.s 1:=by
     have:=(uh hGo).2.1;have:=(uh hGU).2.2.1;have:=uh HL
     rw [IntKind.wrap_i64]
     omega
    have t2:IntKind.i64.wrap (S.s 2+1)=S.s 2+1:=by
     have:=(uh hGo).1.f1;have:=(uh hGo).1.f3
     rw [IntKind.wrap_i64]
     omega
    have q0:(U.s 0 != a0)=false:=by rw [(uh hGU).2.1,(uh hGo).2.2];simp
    have q1:¬U.s 2<S.s 2:=by have:=(uh hGU).2.2.2.1;omega
    have q2:¬S.s 2+1<U.s 2:=by have:=(uh hGU).2.2.2.1;omega
    go_upto_region 18 with fail
    clear t1 t2 q0 q1 q2
    have hGn:Hid (Cr.Good U∧U.s 1=((i+1:Nat):Int)∧U.s 0=a0):=⟨(uh hGU).1,by rw [(uh hGU).2.2.1,(uh hGo).2.1];rfl,by rw [(uh hGU).2.1,(uh hGo).2.2]⟩
    by_cases h3:S.s 3=0
    ·have h3':(S.s 3 != 0)=false:=by simp [h3]
     clear h3
     go_wp2
     go_roundw
     case rel=>exact ⟨i+1,U,aC,aE,aI,bC,bE,bI,by have:=uh HL;omega,by go_num,hP3,hGn⟩
     case measure=>simp [intOf];have:=uh HL;omega
    ·have h3':(S.s 3 != 0)=true:=by simp [h3]
     have hUe:=(uh hGU).2.2.2.2 h3
     have q3:(U.s 3 != S.s 3)=false:=by rw [hUe];simp [Cr.num]
     have cR:Hid (Calls Tryz.prog 20 #[.agg (Gd.world S.s gC gE gI cC cE cI S.g),.agg (Gd.world U.s aC aE aI bC bE bI U.g)] wy fun e w'=>(∃a cap,e=.returned (.slice a 1 cap))∧wy.grownBy w' none):=by
      have hl:=(uh hP3).hold.lists
      have hne:U.s 1≠S.s 1:=by have:=(uh hGU).2.2.1;omega
      have he:=(uh hGU).2.1
      rw [show U.c=S.c by rw [hUe],show U.E=S.E by rw [hUe],show U.I=S.I by rw [hUe]] at hl
      rw [show U.g=S.g by rw [hUe]]
      exact snapRows_any S.s U.s S.g S.c S.E S.I gC gE gI cC cE cI aC aE aI bC bE bI wy (uh hK3).2 hl he hne
     unfold Gd.world at cR
     clear h3 hUe hK3
     go_wp2_with fail
     refine (uh cR).mono ?_
     rintro e wz ⟨⟨xa,xk,rfl⟩,hz⟩
     have hP4:=hide ((uh hP3).on hz)
     clear cR b0 b1 b2 b3 b4 b5 b6 b7 b8 b9 b10 y0 y1 y2 y3 y4 y5 y6 y7 y8 y9 y10 hz hP3 h3' q3
     go_wp2
     go_roundw
     case rel=>exact ⟨i+1,U,aC,aE,aI,bC,bE,bI,by have:=uh HL;omega,by go_num,hP4,hGn⟩
     case measure=>simp [intOf];have:=uh HL;omega
   ·have hge:¬(i:Int)<60:=by omega
    have hlen':(i:Int)<(len1:Int):=by omega
    clear hP hGo
    go_wp2
    go_ret
    exact ⟨rfl,none_below (uh hgr)⟩
  ·have hge:¬(i:Int)<(len1:Int):=by omega
   clear hP hGo
   go_wp2
   go_ret
   exact ⟨rfl,none_below (uh hgr)⟩

set_option maxRecDepth 100000 in
theorem lifted (os:Os) (started:os.Started) (H:Type) (enc:TypeId × Value→H) :
  ReturnsInHanded {} Tryz.checked os 6 .any (Rows.crawlSoundSpec.pre6 enc Tryz.prog Tryz.f6 Rows.crawlSoundRow.domain false) (Rows.crawlSoundSpec.post enc Tryz.prog Tryz.f6 false true false false):=by
 refine returnsInHanded_of_change (C:=Tryz.checked) own started (by kernel_rfl) Tryz.func6
  (ChangeSpec.witness6 (enc:=enc) (C:=Tryz.checked) false ⟨#[],#[.int .i64 0,.slice none 0 0,.bool false],[]⟩ 8 (by kernel_rfl) (by kernel_rfl) (by kernel_rfl) (by kernel_rfl)) ?_
 intro W base args ds gs before hval0 hW hcnd _
 have hval:∀(j:Nat) t v,Tryz.f6.params[j]?=some t→args[j]?=some v→Value.okWide Tryz.prog W .any base t v:=hval0
 have hW':=hW
 obtain ⟨p,q,hA0,hV,rfl,hfz,hnd⟩:=hW
 have hA:DataW.TrodAll enc Tryz.prog W 0 (fun _=>true) true Tryz.f6.params.toList args.toList ds p:=hA0
 rw [Tryz.params6] at hA hval
 obtain ⟨v0,vs0,d0,ds0,p0,q0,hargs,rfl,rfl,h0,r0⟩:=trodAll_cons hA
 obtain ⟨v1,vs1,d1,ds1,p1,q1,rfl,rfl,rfl,h1,r1⟩:=trodAll_cons r0
 obtain ⟨v2,vs2,d2,ds2,p2,q2,rfl,rfl,rfl,h2,r2⟩:=trodAll_cons r1
 obtain ⟨rfl,rfl,rfl⟩:=trodAll_nil r2
 obtain rfl:args=#[v0,v1,v2]:=by cases args;simp_all
 obtain ⟨rfl,rfl⟩:=trodVars_none hV
 obtain ⟨a0,rfl,rfl,rfl,w0⟩:=open_int Tryz.underlying2 (hval 0 2 v0 rfl rfl) h0
 obtain ⟨a1,len1,cap1,rfl⟩:=okWide_slice Tryz.underlying22 (hval 1 22 v1 rfl rfl)
 have k1:=h1
 have lt1:∀x∈p1,x.block<W.heap.size:=by obtain ⟨m,hm⟩:=k1;exact DataW.trod_lt m _ _ _ hm
 obtain ⟨z1,w1⟩:∃z:(Nat→Option Addr × Nat × Nat) × (Nat→Nat→Int),Cr.Came W a1 len1 z.1 z.2:=by
  obtain ⟨fuel,hf⟩:=h1
  obtain ⟨V,z,h⟩:=open_rows (by simpa [Value.cells] using hf)
  exact ⟨(V,z),h⟩
 obtain ⟨a2,rfl,rfl,rfl⟩:=open_bool Tryz.underlying4 (hval 2 4 v2 rfl rfl) h2
 clear hA0 hval0
 refine (walk a0 a1 len1 cap1 z1 a2 W w0 w1).mono fun e W' ⟨he,bel⟩=>?_
 subst he
 exact ⟨_,rfl,_,_,_,[],_,[],hW',trodAll_mk1 (shut_bool Tryz.underlying4 _),(trodAll_cons_mk (shut_int Tryz.underlying2 w0) (trodAll_cons_mk (Below.trod laidOut (by kernel_rfl) (of_decide_eq_true (by kernel_rfl)) k1 bel lt1) (trodAll_cons_mk (shut_bool Tryz.underlying4 _) trodAll_mk0))),rfl,bel.frame _,fun h=>by cases h⟩

theorem over:Rows.crawlSoundRow.holds Tryz.pinned (OpenSpec.ofChange Rows.crawlSoundSpec) :=
 OpenClaim.holds_of_wide 6 Tryz.f6 rfl rfl rfl rfl rfl rfl rfl ⟨rfl,rfl,rfl,rfl,rfl⟩ rfl rfl rfl rfl rfl (by kernel_rfl) Tryz.func6 (by kernel_rfl)
  (of_decide_eq_true (by kernel_rfl)) (by unfold Func.isWrapper;first | (rw [if_pos (by decide +kernel)];kernel_rfl) | (rw [if_neg (by decide +kernel)];exact ⟨rfl,rfl⟩))
  (fun os started H enc _=>lifted os started H enc)

theorem proved:Rows.CrawlSoundSaid:=over
#print axioms proved

end Go.Proofs.YtbanjoflgoiegaaGreat.crawlSound
