/-
  From any seed on,frame by frame,whoever Gi and whatever is done,by any numbers,the world is the document's,and the bo ahead stays as it was: for every seed,every fk of ix of numbers and every fk of d7,at this commit; no condition.
-/
import Derived.ProofKit
import Derived.Test.YtbanjoflgoiegaaGreatPart54
import Derived.ShutString
import Derived.ChangeOld
namespace Go.Proofs.YtbanjoflgoiegaaGreat.crawlSteps
open Go.ChangeShapes Go.WideShapes Go.ChangeAt Go.RowKit
open Go.ChangeMaps (open_string shut_string)
set_option linter.unusedVariables false

theorem own:ownKnob Tryz.prog.godebug=none:=by kernel_rfl
theorem laidOut:laidOutB Tryz.prog=true:=by kernel_rfl

def IsRow (k:IntKind) (w:World) (a:Option Addr) (len aG:Nat) (zs:List Int):Prop :=
 (a=none/\len=0/\aG=0/\zs=[]) \/
 ∃x,a=some x/\len<=aG/\aG<=maxLen/\zs.length=aG/\(∀i,i<zs.length->w.cell? (x.add i)=some (.int k (zs.getD i 0)))/\∀n∈zs,(Lit.int k n).wf=true

theorem atw {p:World->Prop} {w w0:World} (e:w=w0) (h:p w0):p w:=e▸h

set_option maxRecDepth 16000 in
set_option maxHeartbeats 3200000 in

theorem walk (a0:Int) (a1:Option Addr) (len1 cap1:Nat) (z1:(Nat->Option Addr × Nat × Nat) × (Nat->Nat->Int)) (a2:Option Addr) (len2 cap2:Nat) (z2:Nat->Int × Int × Bool) (w:World) (w0:(Lit.int .i64 a0).wf=true) (w1:Cr.Lq w a1 len1 z1.1 z1.2) (w2:Cr.Vl w a2 len2 z2) :
  Calls Tryz.prog 3 #[.int .i64 a0,.slice a1 len1 cap1,.slice a2 len2 cap2] w fun e w'=>e=.returned (.bool true)/\Below w.heap.size w w':=by
 obtain⟨V,z⟩:=z1
 have hC:=aa w1
 have hR:=aa w2
 clear w0 w1 w2
 have cn:=aa (fun wq=>uQ a0 wq)
 have cm:=aa (fun wq=>vZ a0 wq)
 go_enter Tryz.func3,Tryz.ntmps3
 go_wp2_with fail
 refine(tG _).mono ?_
 rintro e wk ⟨rfl,hgk⟩
 have hgk':=aa hgk
 clear hgk
 go_wp2_with fail
 refine(uh cn _).mono ?_
 rintro e w1 ⟨S,hN,gC,gE,gI,cC,cE,cI,rfl,hcap1,l11,l12,l13,n11,n12,n13,hL1,hg1⟩
 clear cn
 unfold Gd.world
 go_wp2_with fail
 refine(uh cm _).mono ?_
 rintro e w2 ⟨S',hN',kC,kE,kI,mC,mE,mI,rfl,hcap2,l21,l22,l23,n21,n22,n23,hL2,hg2⟩
 obtain rfl:S'=S:=hN.bo hN'
 clear cm
 have hT0:=Gd.uv (s:=S'.s) (g:=S'.g) (cC:=cC) (cI:=cI) (uh hgk') hcap1.1 l11 l12 l13 n11 n12 n13 (hL1.on hg2) (gtr hg1 hg2)
 have hX0:=Gd.uv (s:=S'.s) (g:=S'.g) (cC:=mC) (cI:=mI) (x:=w1) (x':=w2.alloc (.cells (Gd.world S'.s gC gE gI cC cE cI S'.g) 30)) (gtr (uh hgk') hg1) hcap2 l21 l22 l23 n21 n22 n23 (hL2.on (abE _ _ _)) (gtr hg2 (abE _ _ _))
 have hP0:=aa (show Cr.mV w _ _ _ gC gE gI cC cE cI kC kE kI mC mE mI S' from⟨hT0.on (abE _ _ _),hX0,by simp⟩)
 have hGo0:Hid (Cr.mJ S'/\S'.s 1=((0:Nat):Int)):=⟨hN.kz,hN.frame.2.1⟩
 clear hgk' hcap1 l11 l12 l13 n11 n12 n13 hL1 hg1 hN hcap2 l21 l22 l23 n21 n22 n23 hL2 hg2 hN' hT0 hX0
 rw[show(w2.alloc (.cells (Gd.world S'.s gC gE gI cC cE cI S'.g) 30)).heap.size=w2.heap.size+1 by simp]at hP0
 unfold Gd.world at hP0|-
 go_upto_region 4 with fail
 obtain⟨T,hTe⟩:=abV w2.heap.size
 obtain⟨X,hXe⟩:=abV (w2.heap.size+1)
 rw[hXe]at hP0|-
 rw[hTe]at hP0|-
 clear hTe hXe
 generalize (w2.alloc (.cells #[.int .i64 (S'.s 0),.int .i64 (S'.s 1),.int .i64 (S'.s 2),.int .i64 (S'.s 3),.slice (some ⟨gC,0,none⟩) 384 cC,.slice (some ⟨gE,0,none⟩) 32 cE,.slice (some ⟨gI,0,none⟩) 40 cI,.int .i64 (S'.g 0),.int .i64 (S'.g 1),.int .i64 (S'.g 2),.int .i64 (S'.g 3)] 30)).alloc (.cells #[.int .i64 (S'.s 0),.int .i64 (S'.s 1),.int .i64 (S'.s 2),.int .i64 (S'.s 3),.slice (some ⟨kC,0,none⟩) 384 mC,.slice (some ⟨kE,0,none⟩) 32 mE,.slice (some ⟨kI,0,none⟩) 40 mI,.int .i64 (S'.g 0),.int .i64 (S'.g 1),.int .i64 (S'.g 2),.int .i64 (S'.g 3)] 30)=w3 at hP0|-
 clear w2 w1 wk
 obtain⟨b0,b1,b2,b3,b4,b5,b6,b7,b8,b9,b10⟩:=(uh hP0).bo.ae
 obtain⟨y0,y1,y2,y3,y4,y5,y6,y7,y8,y9,y10⟩:=(uh hP0).jS.ae
 have cz:=aa (pw S'.s S'.g S'.c S'.E S'.I gC gE gI cC cE cI kC kE kI mC mE mI w3 (uh hP0).bo.af.ab (uh hP0).jS.af.ab)
 unfold Gd.world at cz
 go_wp2_with fail
 refine(uh cz).mono ?_
 rintro e wz ⟨rfl,hz⟩
 have hP1:=aa ((uh hP0).on hz)
 clear hz hP0 cz b0 b1 b2 b3 b4 b5 b6 b7 b8 b9 b10 y0 y1 y2 y3 y4 y5 y6 y7 y8 y9 y10
 clear w3
 go_wp2_with fail
 go_loopw [9] (fun v9 wr=>∃(i:Nat) (S:Cr.W) (gC gE gI cC cE cI kC kE kI mC mE mI:Nat),i<=60/\v9=.int .i64 (i:Int)/\Hid (Cr.mV w wr T X gC gE gI cC cE cI kC kE kI mC mE mI S)/\Hid (Cr.mJ S/\S.s 1=(i:Int))) (fun v9 _=>200-(intOf v9).toNat)
 case atStart=>exact⟨0,S',gC,gE,gI,cC,cE,cI,kC,kE,kI,mC,mE,mI,by omega,rfl,hP1,hGo0⟩
 case round =>
  clear hP1 hGo0
  obtain⟨i,S,gC,gE,gI,cC,cE,cI,kC,kE,kI,mC,mE,mI,hi,rfl,hP,hGo⟩:=hrel
  have hgr:=aa (uh hP).bo.grown
  by_cases hlen:i<len1
  ·by_cases hlt:i<60
   ·have hlt':(i:Int)<60:=by omega
    have hlen':(i:Int)<(len1:Int):=by omega
    have HL:=aa hlt
    obtain⟨b,o,rfl,hb,hcell,hmx,hz⟩:=((uh hC).on (uh hgr)).2 i hlen
    have hm1:len1<=maxLen:=(uh hC).1
    obtain⟨ra,rn,rk,hV⟩:∃ra rn rk,V i=(ra,rn,rk):=⟨_,_,_,rfl⟩
    rw[hV]at hcell hz hmx
    dsimp only at hcell hz hmx
    have ca:=aa (IS ra rn rk (z i) wr hz)
    clear hV hz hmx hb hlt hi
    generalize z i=zi at ca
    go_wp2_with fail
    refine(uh ca).mono ?_
    rintro e wa ⟨rfl,hga⟩
    obtain⟨how,hhow⟩:=abV (Cr.LV rn zi)
    obtain⟨inp,hinp⟩:=abV (Cr.VO rn zi)
    obtain⟨sp,hsp⟩:=abV (Cr.VP rn zi)
    rw[hhow,hinp,hsp]
    obtain⟨wd,hwd⟩:∃wd,wd=wa.alloc (.cells (Cr.d7 how inp sp) 36):=⟨_,rfl⟩
    have hgd:wa.grownBy wd none:=by rw[hwd];exact abE _ _ _
    have hA0:Hid (Cr.aca w wd T X wa.heap.size gC gE gI cC cE cI kC kE kI mC mE mI how inp sp S):=by
     refine⟨((uh hP).on hga).on hgd,?_,abM (uh hP).bo.grown.size hga.size⟩
     rw[hwd]
     exact Cr.lq (abH wa _)
    clear ca hga hgd hhow hinp hsp hP hcell hm1 hlen' hlen hgr
    unfold Cr.d7 at hwd|-
    go_upto_region 10 with fail
    rw[<-hwd]
    clear hwd
    obtain⟨A,hAe⟩:=abV wa.heap.size
    rw[hAe]at hA0|-
    clear hAe
    clear wa wr
    go_upto_if 38 with fail
    go_cut [] from 39 to 40 (fun wx=>∃sp,Hid (Cr.aca w wx T X A gC gE gI cC cE cI kC kE kI mC mE mI how inp sp S))
    case first =>
     by_cases hi0:i=0
     ·have hi1:((i:Int)==0)=true:=by simp[hi0]
      clear hi0
      have y2:=(uh hA0).d7.cell (c:=2) (by omega)
      have fA:=(uh hA0).d7.free
      have hE:=aa (uh hA0).Gi
      go_wp2
      go_meet
      exact⟨_,hE⟩
     ·have hi1:((i:Int)==0)=false:=by simp;omega
      clear hi0
      go_wp2
      go_meet
      exact⟨_,hA0⟩
    case rest =>
    obtain⟨sp1,hB0⟩:=hcut
    clear hA0
    go_upto_if 44 with fail
    go_cut [] from 44 to 51 (fun wx=>∃how inp sp,Hid (Cr.aca w wx T X A gC gE gI cC cE cI kC kE kI mC mE mI how inp sp S))
    case first =>
     by_cases hr:i<len2
     ·have hr':(i:Int)<(len2:Int):=by omega
      obtain⟨rb,ro,rfl,hrb,r0,r1,r2⟩:=((uh hR).on (uh hB0).iY.bo.grown).2 i hr
      have hm2:len2<=maxLen:=(uh hR).1
      obtain⟨ru,rv,rs,hzi⟩:∃ru rv rs,z2 i=(ru,rv,rs):=⟨_,_,_,rfl⟩
      rw[hzi]at r0 r1 r2
      dsimp only at r0 r1 r2
      have cw:=aa (fun wq=>fY (i:Int) 4 wq (by omega) (by omega))
      obtain⟨t,ht⟩:∃t:Nat,(i:Int)%4=(t:Int):=⟨i%4,by omega⟩
      rw[ht]at cw
      have ht4:(t:Int)<4:=by omega
      obtain⟨xa,xb,xc⟩:=Cr.pe (uh hB0).d7 (t:=t) (by omega)
      have fA:=(uh hB0).d7.free
      have hE:=aa ((uh hB0).dQ t ru rv rs)
      clear hE xa xb xc fA
      have hkeep:Hid (∀x,wc.grownBy x none->x.cell? ⟨rb,ro+i*3,none⟩=some (.int .i64 ru)/\x.cell? ⟨rb,ro+i*3+1,none⟩=some (.int .i64 rv)/\x.cell? ⟨rb,ro+i*3+2,none⟩=some (.bool rs)/\x.cell? ⟨A,t*3,none⟩=some (.int .i64 (how t))/\x.cell? ⟨A,t*3+1,none⟩=some (.int .i64 (inp t))/\x.cell? ⟨A,t*3+2,none⟩=some (.bool (sp1 t))):=fun x hx=>by
       obtain⟨xa,xb,xc⟩:=Cr.pe ((uh hB0).d7.on hx) (t:=t) (by omega)
       exact⟨(gce hx rb _ hrb (by simp)).trans r0,(gce hx rb _ hrb (by simp)).trans r1,(gce hx rb _ hrb (by simp)).trans r2,xa,xb,xc⟩
      have hd:=aa (gd1 (abF wc none))
      have hE:=aa (((uh hB0).dQ t ru rv rs).on (gd1 (abF _ none)))
      clear hr hzi ht hrb r0 r1 r2
      go_upto_region 13 with fail
      refine bH (h:=7) (S:=fun x=>x.cell? ⟨rb,ro+i*3,none⟩=some (.int .i64 ru)/\x.cell? ⟨rb,ro+i*3+1,none⟩=some (.int .i64 rv)/\x.cell? ⟨rb,ro+i*3+2,none⟩=some (.bool rs)/\x.cell? ⟨A,t*3,none⟩=some (.int .i64 (how t))/\x.cell? ⟨A,t*3+1,none⟩=some (.int .i64 (inp t))/\x.cell? ⟨A,t*3+2,none⟩=some (.bool (sp1 t))) (by kernel_rfl) ?_
      have hS0:=uh hkeep _ (uh hd)
      refine wtk (i:=0) (v:=?_) [7] rfl (by kernel_rfl) (by kernel_rfl) (by kernel_rfl) (by kernel_rfl) (fun _ _ _ h=>h) hS0 (Or.inl ⟨by rfl,?_⟩) ?_
      rotate_left
      ·intro x hSx
       try dsimp only at hSx
       go_simp
       try with_reducible rfl
      simp only[Act.put]
      refine wtk (i:=2) (v:=?_) [7] rfl (by kernel_rfl) (by kernel_rfl) (by kernel_rfl) (by kernel_rfl) (fun _ _ _ h=>h) hS0 (Or.inl ⟨by rfl,?_⟩) ?_
      rotate_left
      ·intro x hSx
       try dsimp only at hSx
       go_simp
       try with_reducible rfl
      simp only[Act.put]
      refine wtk (i:=3) (v:=?_) [7] rfl (by kernel_rfl) (by kernel_rfl) (by kernel_rfl) (by kernel_rfl) (fun _ _ _ h=>h) hS0 (Or.inl ⟨by rfl,?_⟩) ?_
      rotate_left
      ·intro x hSx
       try dsimp only at hSx
       go_simp
       try with_reducible rfl
      simp only[Act.put]
      refine wtk (i:=4) (v:=?_) [7] rfl (by kernel_rfl) (by kernel_rfl) (by kernel_rfl) (by kernel_rfl) (fun _ _ _ h=>h) hS0 (Or.inl ⟨by rfl,?_⟩) ?_
      rotate_left
      ·intro x hSx
       try dsimp only at hSx
       go_simp
       try with_reducible rfl
      simp only[Act.put]
      refine wtk (i:=5) (v:=?_) [7] rfl (by kernel_rfl) (by kernel_rfl) (by kernel_rfl) (by kernel_rfl) (fun _ _ _ h=>h) hS0 (Or.inl ⟨by rfl,?_⟩) ?_
      rotate_left
      ·intro x hSx
       try dsimp only at hSx
       go_simp
       try with_reducible rfl
      simp only[Act.put]
      refine wto (j:=1) (by kernel_rfl) rfl (fun K hK=>?_)
      go_simp
      refine(uh cw _).mono ?_
      rintro e0 wy ⟨rfl,hy⟩
      subst wy
      try go_simp
      refine hK.out _ _ (fun _=>hS0) ?_
      clear hK K
      refine wtk (i:=6) (v:=?_) [7] rfl (by kernel_rfl) (by kernel_rfl) (by kernel_rfl) (by kernel_rfl) (fun _ _ _ h=>h) hS0 (Or.inl ⟨by rfl,?_⟩) ?_
      rotate_left
      ·intro x hSx
       try dsimp only at hSx
       go_simp
       try with_reducible rfl
      simp only[Act.put]
      obtain⟨xa,xb,xc⟩:=Cr.pe (uh hB0).d7 (t:=t) (by omega)
      have fA:=(uh hB0).d7.free
      clear hS0
      refine wto (j:=7) (by kernel_rfl) rfl (fun K hK=>?_)
      go_simp
      refine hK.out _ _ (fun hx=>absurd (hx.symm.trans (by kernel_rfl)) abT) ?_
      clear hK K
      refine cy (by kernel_rfl) ?_ _
      go_wp2_with fail
      go_meet
      exact⟨_,_,_,hE⟩
     ·have hr':¬(i:Int)<(len2:Int):=by omega
      clear hr
      go_wp2
      go_meet
      exact⟨_,_,_,hB0⟩
    case rest =>
    obtain⟨how',inp',sp',hD⟩:=hcut
    clear hB0
    obtain⟨b0,b1,b2,b3,b4,b5,b6,b7,b8,b9,b10⟩:=(uh hD).iY.bo.ae
    obtain⟨x0,x1,x2,x3,x4,x5,x6,x7,x8,x9,x10,x11⟩:=Cr.jW (uh hD).d7
    have cs:=aa (su S.s S.g S.c S.E S.I gC gE gI cC cE cI how' inp' sp' wc (uh hD).iY.bo.af.ab (uh hGo).1 (by have:=(uh hGo).2;omega) (by have:=(uh hGo).2;have:=uh HL;omega))
    unfold Gd.world Cr.d7 at cs
    go_wp2_with fail
    refine(uh cs).mono ?_
    rintro e w4 ⟨U,hU,aC,aE,aI,bC,bE,bI,rfl,hcap1,l11,l12,l13,n11,n12,n13,hL1,hg4⟩
    obtain⟨wv,hwv⟩:∃wv,wv=w4.alloc (.cells #[.int .i64 (U.s 0),.int .i64 (U.s 1),.int .i64 (U.s 2),.int .i64 (U.s 3),.slice (some ⟨aC,0,none⟩) 384 bC,.slice (some ⟨aE,0,none⟩) 32 bE,.slice (some ⟨aI,0,none⟩) 40 bI,.int .i64 (U.g 0),.int .i64 (U.g 1),.int .i64 (U.g 2),.int .i64 (U.g 3)] 30):=⟨_,rfl⟩
    have hgv:w4.grownBy wv none:=by rw[hwv];exact abE _ _ _
    have hQ:Hid (ay wv w4.heap.size 30 11 (Gd.box U.s aC aE aI bC bE bI U.g)):=by rw[hwv];exact(ax.world (abH w4 _)).lie
    have hN:Hid (32<=bE/\w.heap.size<=aE/\w.heap.size<=aI/\aC≠aE/\aC≠aI/\aE≠aI):=by
     have q0:=(uh hD).iY.bo.grown.size
     exact⟨hcap1.1,by omega,by omega,n11,n12,n13⟩
    have hE:=aa ((uh hD).on (gtr hg4 hgv))
    have hLv:=aa (hL1.on hgv)
    have hGU:=aa (hU.kz (uh hGo).1)
    have HU:=aa hU
    clear hcap1 l11 l12 l13 n11 n12 n13 hL1 hg4 hgv hU cs hD
    try unfold Gd.world
    go_upto_region 15 with fail
    rw[<-hwv]
    clear hwv b0 b1 b2 b3 b4 b5 b6 b7 b8 b9 b10 x0 x1 x2 x3 x4 x5 x6 x7 x8 x9 x10 x11
    obtain⟨Q,hQe⟩:=abV w4.heap.size
    rw[hQe]at hQ|-
    clear hQe
    clear w4 wc
    obtain⟨b0,b1,b2,b3,b4,b5,b6,b7,b8,b9,b10⟩:=(uh hE).iY.bo.ae
    obtain⟨y0,y1,y2,y3,y4,y5,y6,y7,y8,y9,y10⟩:=(uh hE).iY.jS.ae
    have cz:=aa (pw S.s S.g S.c S.E S.I gC gE gI cC cE cI kC kE kI mC mE mI wv (uh hE).iY.bo.af.ab (uh hE).iY.jS.af.ab)
    unfold Gd.world at cz
    go_wp2_with fail
    refine(uh cz).mono ?_
    rintro e wz ⟨rfl,hz⟩
    have hF:=aa ((uh hE).on hz)
    have hQ2:=aa ((uh hQ).on hz)
    have hL2:=aa ((uh hLv).on hz)
    clear hz hE hQ hLv cz b0 b1 b2 b3 b4 b5 b6 b7 b8 b9 b10 y0 y1 y2 y3 y4 y5 y6 y7 y8 y9 y10
    clear wv
    go_upto_region 17 with fail
    have hkeep:=aa (fun x (hx:wz.grownBy x none)=>(⟨((uh hF).iY.on hx).bo.ae,((uh hF).iY.on hx).jS.ae,((uh hQ2).on hx).ae,Cr.jW ((uh hF).d7.on hx)⟩:_/\_/\_/\_))
    have hd:=aa (gd1 (abF wz none))
    have cr:=aa (fun x (hx:wz.grownBy x none)=>tO S.s S.g S.c S.E S.I kC kE kI mC mE mI how' inp' sp' x ((uh hF).iY.on hx).jS.af.ab (uh hGo).1 (by have:=(uh hGo).2;omega) (by have:=(uh hGo).2;have:=uh HL;omega))
    unfold Gd.world at cr
    refine bH (h:=4) (S:=fun x=>(x.cell? ⟨T,0,none⟩=some (.int .i64 (S.s 0))/\x.cell? ⟨T,1,none⟩=some (.int .i64 (S.s 1))/\x.cell? ⟨T,2,none⟩=some (.int .i64 (S.s 2))/\x.cell? ⟨T,3,none⟩=some (.int .i64 (S.s 3))/\x.cell? ⟨T,4,none⟩=some (.slice (some ⟨gC,0,none⟩) 384 cC)/\x.cell? ⟨T,5,none⟩=some (.slice (some ⟨gE,0,none⟩) 32 cE)/\x.cell? ⟨T,6,none⟩=some (.slice (some ⟨gI,0,none⟩) 40 cI)/\x.cell? ⟨T,7,none⟩=some (.int .i64 (S.g 0))/\x.cell? ⟨T,8,none⟩=some (.int .i64 (S.g 1))/\x.cell? ⟨T,9,none⟩=some (.int .i64 (S.g 2))/\x.cell? ⟨T,10,none⟩=some (.int .i64 (S.g 3)))/\(x.cell? ⟨X,0,none⟩=some (.int .i64 (S.s 0))/\x.cell? ⟨X,1,none⟩=some (.int .i64 (S.s 1))/\x.cell? ⟨X,2,none⟩=some (.int .i64 (S.s 2))/\x.cell? ⟨X,3,none⟩=some (.int .i64 (S.s 3))/\x.cell? ⟨X,4,none⟩=some (.slice (some ⟨kC,0,none⟩) 384 mC)/\x.cell? ⟨X,5,none⟩=some (.slice (some ⟨kE,0,none⟩) 32 mE)/\x.cell? ⟨X,6,none⟩=some (.slice (some ⟨kI,0,none⟩) 40 mI)/\x.cell? ⟨X,7,none⟩=some (.int .i64 (S.g 0))/\x.cell? ⟨X,8,none⟩=some (.int .i64 (S.g 1))/\x.cell? ⟨X,9,none⟩=some (.int .i64 (S.g 2))/\x.cell? ⟨X,10,none⟩=some (.int .i64 (S.g 3)))/\(x.cell? ⟨Q,0,none⟩=some (.int .i64 (U.s 0))/\x.cell? ⟨Q,1,none⟩=some (.int .i64 (U.s 1))/\x.cell? ⟨Q,2,none⟩=some (.int .i64 (U.s 2))/\x.cell? ⟨Q,3,none⟩=some (.int .i64 (U.s 3))/\x.cell? ⟨Q,4,none⟩=some (.slice (some ⟨aC,0,none⟩) 384 bC)/\x.cell? ⟨Q,5,none⟩=some (.slice (some ⟨aE,0,none⟩) 32 bE)/\x.cell? ⟨Q,6,none⟩=some (.slice (some ⟨aI,0,none⟩) 40 bI)/\x.cell? ⟨Q,7,none⟩=some (.int .i64 (U.g 0))/\x.cell? ⟨Q,8,none⟩=some (.int .i64 (U.g 1))/\x.cell? ⟨Q,9,none⟩=some (.int .i64 (U.g 2))/\x.cell? ⟨Q,10,none⟩=some (.int .i64 (U.g 3)))/\(x.cell? ⟨A,0,none⟩=some (.int .i64 (how' 0))/\x.cell? ⟨A,1,none⟩=some (.int .i64 (inp' 0))/\x.cell? ⟨A,2,none⟩=some (.bool (sp' 0))/\x.cell? ⟨A,3,none⟩=some (.int .i64 (how' 1))/\x.cell? ⟨A,4,none⟩=some (.int .i64 (inp' 1))/\x.cell? ⟨A,5,none⟩=some (.bool (sp' 1))/\x.cell? ⟨A,6,none⟩=some (.int .i64 (how' 2))/\x.cell? ⟨A,7,none⟩=some (.int .i64 (inp' 2))/\x.cell? ⟨A,8,none⟩=some (.bool (sp' 2))/\x.cell? ⟨A,9,none⟩=some (.int .i64 (how' 3))/\x.cell? ⟨A,10,none⟩=some (.int .i64 (inp' 3))/\x.cell? ⟨A,11,none⟩=some (.bool (sp' 3)))) (by kernel_rfl) ?_
    have hS0:=uh hkeep _ (uh hd)
    refine wtk (i:=0) (v:=?_) [4] rfl (by kernel_rfl) (by kernel_rfl) (by kernel_rfl) (by kernel_rfl) (fun _ _ _ h=>h) hS0 (Or.inl ⟨by rfl,?_⟩) ?_
    rotate_left
    ·intro x hSx
     try dsimp only at hSx
     go_simp
     try with_reducible rfl
    simp only[Act.put]
    refine wtk (i:=1) (v:=?_) [3,4] rfl (by kernel_rfl) (by kernel_rfl) (by kernel_rfl) (by kernel_rfl) (fun _ _ _ h=>h) hS0 (Or.inl ⟨by rfl,?_⟩) ?_
    rotate_left
    ·intro x hSx
     try dsimp only at hSx
     go_simp
     try with_reducible rfl
    simp only[Act.put]
    refine wtk (i:=2) (v:=?_) [3,4] rfl (by kernel_rfl) (by kernel_rfl) (by kernel_rfl) (by kernel_rfl) (fun _ _ _ h=>h) hS0 (Or.inl ⟨by rfl,?_⟩) ?_
    rotate_left
    ·intro x hSx
     try dsimp only at hSx
     go_simp
     try with_reducible rfl
    simp only[Act.put]
    refine wto (j:=3) (by kernel_rfl) rfl (fun K hK=>?_)
    go_simp
    refine(uh cr _ (uh hd)).mono ?_
    rintro e0 w5 ⟨U',hU',pC,pE,pI,qC,qE,qI,rfl,hcap2,l21,l22,l23,n21,n22,n23,hL3,hg5⟩
    obtain rfl:U=U':=hU'.bo (uh HU)
    have hG5:=aa (gtr (uh hd) hg5)
    have hS5:=uh hkeep _ (uh hG5)
    have hP2:Hid (Cr.mV w ((w5.setCells T 0 (Gd.world U.s aC aE aI bC bE bI U.g).toList).setCells X 0 (Gd.world U.s pC pE pI qC qE qI U.g).toList) T X aC aE aI bC bE bI pC pE pI qC qE qI U):=by
     have q0:=(uh hF).iY.bo.grown.size
     have q1:=(uh hd).size
     obtain⟨m0,m1,m2,m3,m4,m5⟩:=uh hN
     exact((uh hF).iY.on (uh hG5)).over m0 m1 m2 m3 m4 m5 ((uh hL2).on (uh hG5)) hcap2 (by omega) (by omega) n21 n22 n23 hL3
    have fT:=((uh hF).iY.on (uh hG5)).bo.af.box.free
    have fX:=((uh hF).iY.on (uh hG5)).jS.af.box.free
    have nTX:=(uh hF).iY.ne
    have nXT:=(uh hF).iY.ne.symm
    obtain⟨⟨b0,b1,b2,b3,b4,b5,b6,b7,b8,b9,b10⟩,⟨y0,y1,y2,y3,y4,y5,y6,y7,y8,y9,y10⟩,-⟩:=hS5
    clear hcap2 l21 l22 l23 n21 n22 n23 hL3 hg5 hU' hS0
    try unfold Gd.world
    try go_simp
    refine hK.out _ _ (fun _=>uh hkeep _ (uh hG5)) ?_
    clear hK K
    refine wto (j:=4) (by kernel_rfl) rfl (fun K hK=>?_)
    go_simp
    refine hK.out _ _ (fun hx=>absurd (hx.symm.trans (by kernel_rfl)) abT) ?_
    clear hK K
    refine wto (j:=5) (by kernel_rfl) rfl (fun K hK=>?_)
    go_simp
    refine hK.out _ _ (fun hx=>absurd (hx.symm.trans (by kernel_rfl)) abT) ?_
    clear hK K
    refine cy (by kernel_rfl) ?_ _
    clear hkeep cr b0 b1 b2 b3 b4 b5 b6 b7 b8 b9 b10 y0 y1 y2 y3 y4 y5 y6 y7 y8 y9 y10 fT fX nTX nXT hF hQ2 hL2 hN HU hG5 hd
    go_upto_region 18 with fail
    refine atw (p:=Code.wp Tryz.prog _ _ _) (w0:=(w5.setCells T 0 (Gd.world U.s aC aE aI bC bE bI U.g).toList).setCells X 0 (Gd.world U.s pC pE pI qC qE qI U.g).toList) rfl ?_
    generalize (w5.setCells T 0 (Gd.world U.s aC aE aI bC bE bI U.g).toList).setCells X 0 (Gd.world U.s pC pE pI qC qE qI U.g).toList=wg at hP2|-
    clear w5 wz
    obtain⟨b0,b1,b2,b3,b4,b5,b6,b7,b8,b9,b10⟩:=(uh hP2).bo.ae
    obtain⟨y0,y1,y2,y3,y4,y5,y6,y7,y8,y9,y10⟩:=(uh hP2).jS.ae
    have cz:=aa (pw U.s U.g U.c U.E U.I aC aE aI bC bE bI pC pE pI qC qE qI wg (uh hP2).bo.af.ab (uh hP2).jS.af.ab)
    unfold Gd.world at cz
    go_wp2_with fail
    refine(uh cz).mono ?_
    rintro e wh ⟨rfl,hh⟩
    have hP3:=aa ((uh hP2).on hh)
    clear hh hP2 cz b0 b1 b2 b3 b4 b5 b6 b7 b8 b9 b10 y0 y1 y2 y3 y4 y5 y6 y7 y8 y9 y10
    go_wp2
    go_roundw
    case rel=>exact⟨i+1,U,aC,aE,aI,bC,bE,bI,pC,pE,pI,qC,qE,qI,by have:=uh HL;omega,by go_num,hP3,(uh hGU).1,by rw[(uh hGU).2.2.1,(uh hGo).2];rfl⟩
    case measure=>simp[intOf];have:=uh HL;omega
   ·have hge:¬(i:Int)<60:=by omega
    have hlen':(i:Int)<(len1:Int):=by omega
    clear hP hGo
    go_wp2
    go_ret
    exact⟨rfl,lU (uh hgr)⟩
  ·have hge:¬(i:Int)<(len1:Int):=by omega
   clear hP hGo
   go_wp2
   go_ret
   exact⟨rfl,lU (uh hgr)⟩

set_option maxRecDepth 100000 in
theorem lifted (os:Os) (started:os.Started) (H:Type) (enc:TypeId × Value->H) :
  ReturnsInHanded {} Tryz.checked os 3 .any (Rows.crawlStepsSpec.pre6 enc Tryz.prog Tryz.f3 Rows.crawlStepsRow.domain false) (Rows.crawlStepsSpec.post enc Tryz.prog Tryz.f3 false true false false):=by
 refine returnsInHanded_of_change (C:=Tryz.checked) own started (by kernel_rfl) Tryz.func3
  (ChangeSpec.witness6 (enc:=enc) (C:=Tryz.checked) false ⟨#[],#[.int .i64 0,.slice none 0 0,.slice none 0 0],[]⟩ 8 (by kernel_rfl) (by kernel_rfl) (by kernel_rfl) (by kernel_rfl)) ?_
 intro W ar args ds gs before hval0 hW hcnd _
 have hval:∀(j:Nat) t v,Tryz.f3.params[j]?=some t->args[j]?=some v->Value.okWide Tryz.prog W .any ar t v:=hval0
 have hW':=hW
 obtain⟨p,q,hA0,hV,rfl,hfz,hnd⟩:=hW
 have hA:DataW.TrodAll enc Tryz.prog W 0 (fun _=>true) true Tryz.f3.params.toList args.toList ds p:=hA0
 rw[Tryz.params3]at hA hval
 obtain⟨v0,vs0,d0,ds0,p0,q0,hargs,rfl,rfl,h0,r0⟩:=trodAll_cons hA
 obtain⟨v1,vs1,d1,ds1,p1,q1,rfl,rfl,rfl,h1,r1⟩:=trodAll_cons r0
 obtain⟨v2,vs2,d2,ds2,p2,q2,rfl,rfl,rfl,h2,r2⟩:=trodAll_cons r1
 obtain⟨rfl,rfl,rfl⟩:=trodAll_nil r2
 obtain rfl:args=#[v0,v1,v2]:=by cases args;simp_all
 obtain⟨rfl,rfl⟩:=trodVars_none hV
 obtain⟨a0,rfl,rfl,rfl,w0⟩:=open_int Tryz.underlying2 (hval 0 2 v0 rfl rfl) h0
 obtain⟨a1,len1,cap1,rfl⟩:=okWide_slice Tryz.underlying22 (hval 1 22 v1 rfl rfl)
 have k1:=h1
 have lt1:∀x∈p1,x.block<W.heap.size:=by obtain⟨m,hm⟩:=k1;exact DataW.trod_lt m _ _ _ hm
 obtain⟨z1,w1⟩:∃z:(Nat->Option Addr × Nat × Nat) × (Nat->Nat->Int),Cr.Lq W a1 len1 z.1 z.2:=by
  obtain⟨fuel,hf⟩:=h1
  obtain⟨V,z,h⟩:=Mq (by simpa [Value.cells] using hf)
  exact⟨(V,z),h⟩
 obtain⟨a2,len2,cap2,rfl⟩:=okWide_slice Tryz.underlying23 (hval 2 23 v2 rfl rfl)
 have k2:=h2
 have lt2:∀x∈p2,x.block<W.heap.size:=by obtain⟨m,hm⟩:=k2;exact DataW.trod_lt m _ _ _ hm
 obtain⟨z2,w2⟩:∃z,Cr.Vl W a2 len2 z:=by
  obtain⟨fuel,hf⟩:=h2
  exact Pc (by simpa [Value.cells] using hf)
 clear hA0 hval0
 refine(walk a0 a1 len1 cap1 z1 a2 len2 cap2 z2 W w0 w1 w2).mono fun e W' ⟨he,bel⟩=>?_
 subst he
 exact⟨_,rfl,_,_,_,[],_,[],hW',trodAll_mk1 (shut_bool Tryz.underlying4 _),(trodAll_cons_mk (shut_int Tryz.underlying2 w0) (trodAll_cons_mk (Below.trod laidOut (by kernel_rfl) (of_decide_eq_true (by kernel_rfl)) k1 bel lt1) (trodAll_cons_mk (Below.trod laidOut (by kernel_rfl) (of_decide_eq_true (by kernel_rfl)) k2 bel lt2) trodAll_mk0))),rfl,bel.frame _,fun h=>by cases h⟩

theorem over:Rows.crawlStepsRow.holds Tryz.pinned (OpenSpec.ofChange Rows.crawlStepsSpec) :=
 OpenClaim.holds_of_wide 3 Tryz.f3 rfl rfl rfl rfl rfl rfl rfl ⟨rfl,rfl,rfl,rfl,rfl⟩ rfl rfl rfl rfl rfl (by kernel_rfl) Tryz.func3 (by kernel_rfl)
  (of_decide_eq_true (by kernel_rfl)) (by unfold Func.isWrapper;first| (rw[abP (by decide +kernel)];kernel_rfl)|(rw[abO (by decide +kernel)];exact⟨rfl,rfl⟩))
  (fun os started H enc _=>lifted os started H enc)

theorem proved:Rows.CrawlStepsSaid:=over
#print axioms proved

end Go.Proofs.YtbanjoflgoiegaaGreat.crawlSteps
