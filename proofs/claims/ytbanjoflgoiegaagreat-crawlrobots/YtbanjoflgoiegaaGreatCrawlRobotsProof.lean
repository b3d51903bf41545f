/-
  M5 robots,and monsters,for as long as it TM: the world is the document's,down the floors: for every seed,number of robots,of frames,and frame from which they V6,at this commit; no condition.
-/
import Derived.ProofKit
import Derived.Test.YtbanjoflgoiegaaGreatPart54
import Derived.ChangeOld
import Derived.ShutString
namespace Go.Proofs.YtbanjoflgoiegaaGreat.crawlRobots
open Go.ChangeShapes Go.WideShapes Go.ChangeAt Go.RowKit
open Go.ChangeMaps (open_string shut_string)
set_option linter.unusedVariables false

theorem own:ownKnob Tryz.prog.godebug=none:=by kernel_rfl

set_option maxRecDepth 16000 in
set_option maxHeartbeats 3200000 in

theorem walk (a0:Int) (a1:Int) (a2:Int) (a3:Int) (w0:(Lit.int .i64 a0).wf=true) (w1:(Lit.int .i64 a1).wf=true) (w2:(Lit.int .i64 a2).wf=true) (w3:(Lit.int .i64 a3).wf=true) (w:World) :
  Calls Tryz.prog 4 #[.int .i64 a0,.int .i64 a1,.int .i64 a2,.int .i64 a3] w fun e w'=>e=.returned (.bool true)/\Below w.heap.size w w':=by
 have cM:=aa (fun wq=>fY a1 4 wq (by omega) (by omega))
 have cR:=aa (fun wq=>fY a2 120 wq (by omega) (by omega))
 have cV:=aa (fun wq=>fY a3 5 wq (by omega) (by omega))
 obtain⟨m,hm⟩:=abV (a1%4)
 obtain⟨fr,hfr⟩:∃fr:Nat,a2%120=(fr:Int):=⟨(a2%120).toNat,by omega⟩
 obtain⟨fv,hfv⟩:∃fv:Nat,a3%5=(fv:Int):=⟨(a3%5).toNat,by omega⟩
 obtain⟨mn,hmn⟩:∃mn:Nat,1+m=(mn:Int):=⟨(1+m).toNat,by omega⟩
 have BD:Hid (mn<=4/\fr<120/\fv<5):=(show mn<=4/\fr<120/\fv<5 by omega)
 have t1:IntKind.i64.wrap (1+m)=(mn:Int):=by rw[abK];omega
 rw[hm]at cM
 rw[hfr]at cR
 rw[hfv]at cV
 clear w0 w1 w2 w3 hm hfr hfv hmn
 have cn:=aa (fun wq=>uQ a0 wq)
 have cm:=aa (fun wq=>vZ a0 wq)
 go_enter Tryz.func4,Tryz.ntmps4
 go_wp2_with fail
 refine(tG _).mono ?_
 rintro e wk ⟨rfl,hgk⟩
 have hgk':=aa hgk
 clear hgk
 go_wp2_with fail
 refine(uh cn _).mono ?_
 rintro e w1 ⟨S,hN,gC,gE,gI,cC,cE,cI,rfl,hcap1,l11,l12,l13,n11,n12,n13,hL1,hg1⟩
 clear cn
 unfold Gd.world
 go_wp2_with fail
 refine(uh cm _).mono ?_
 rintro e w2 ⟨S',hN',kC,kE,kI,mC,mE,mI,rfl,hcap2,l21,l22,l23,n21,n22,n23,hL2,hg2⟩
 obtain rfl:S'=S:=hN.bo hN'
 clear cm
 have hT0:=Gd.uv (s:=S'.s) (g:=S'.g) (cC:=cC) (cI:=cI) (uh hgk') hcap1.1 l11 l12 l13 n11 n12 n13 (hL1.on hg2) (gtr hg1 hg2)
 have hX0:=Gd.uv (s:=S'.s) (g:=S'.g) (cC:=mC) (cI:=mI) (x:=w1) (x':=w2.alloc (.cells (Gd.world S'.s gC gE gI cC cE cI S'.g) 30)) (gtr (uh hgk') hg1) hcap2 l21 l22 l23 n21 n22 n23 (hL2.on (abE _ _ _)) (gtr hg2 (abE _ _ _))
 have hP0:=aa (show Cr.mV w _ _ _ gC gE gI cC cE cI kC kE kI mC mE mI S' from⟨hT0.on (abE _ _ _),hX0,by simp⟩)
 have hGo0:Hid (Cr.mJ S'/\S'.s 1=((0:Nat):Int)):=⟨hN.kz,hN.frame.2.1⟩
 clear hgk' hcap1 l11 l12 l13 n11 n12 n13 hL1 hg1 hN hcap2 l21 l22 l23 n21 n22 n23 hL2 hg2 hN' hT0 hX0
 rw[show(w2.alloc (.cells (Gd.world S'.s gC gE gI cC cE cI S'.g) 30)).heap.size=w2.heap.size+1 by simp]at hP0
 unfold Gd.world at hP0|-
 go_upto_region 4 with fail
 obtain⟨T,hTe⟩:=abV w2.heap.size
 obtain⟨X,hXe⟩:=abV (w2.heap.size+1)
 rw[hXe]at hP0|-
 rw[hTe]at hP0|-
 clear hTe hXe
 generalize (w2.alloc (.cells #[.int .i64 (S'.s 0),.int .i64 (S'.s 1),.int .i64 (S'.s 2),.int .i64 (S'.s 3),.slice (some ⟨gC,0,none⟩) 384 cC,.slice (some ⟨gE,0,none⟩) 32 cE,.slice (some ⟨gI,0,none⟩) 40 cI,.int .i64 (S'.g 0),.int .i64 (S'.g 1),.int .i64 (S'.g 2),.int .i64 (S'.g 3)] 30)).alloc (.cells #[.int .i64 (S'.s 0),.int .i64 (S'.s 1),.int .i64 (S'.s 2),.int .i64 (S'.s 3),.slice (some ⟨kC,0,none⟩) 384 mC,.slice (some ⟨kE,0,none⟩) 32 mE,.slice (some ⟨kI,0,none⟩) 40 mI,.int .i64 (S'.g 0),.int .i64 (S'.g 1),.int .i64 (S'.g 2),.int .i64 (S'.g 3)] 30)=w3 at hP0|-
 clear w2 w1 wk
 go_wp2_with fail
 refine(uh cM _).mono ?_
 rintro e wy ⟨rfl,hy⟩
 subst wy
 clear cM
 go_wp2_with fail
 refine(uh cR _).mono ?_
 rintro e wy ⟨rfl,hy⟩
 subst wy
 clear cR
 go_wp2_with fail
 clear t1
 go_loopw [11] (fun v11 wr=>∃(i:Nat) (S:Cr.W) (gC gE gI cC cE cI kC kE kI mC mE mI:Nat),i<=fr/\v11=.int .i64 (i:Int)/\Hid (Cr.mV w wr T X gC gE gI cC cE cI kC kE kI mC mE mI S)/\Hid (Cr.mJ S/\S.s 1=(i:Int))) (fun v11 _=>200-(intOf v11).toNat)
 case atStart=>exact⟨0,S',gC,gE,gI,cC,cE,cI,kC,kE,kI,mC,mE,mI,by omega,rfl,hP0,hGo0⟩
 case round =>
  clear hP0 hGo0
  obtain⟨i,S,gC,gE,gI,cC,cE,cI,kC,kE,kI,mC,mE,mI,hi,rfl,hP,hGo⟩:=hrel
  by_cases hlt:i<fr
  ·have hlt':(i:Int)<(fr:Int):=by omega
   have HL:=aa hlt
   have hi9:(i:Int)<120:=by have:=(uh BD).2.1;omega
   clear hlt hi
   obtain⟨wd,hwd⟩:∃wd,wd=wr.alloc (.cells #[.int .i64 0,.int .i64 0,.bool false,.int .i64 0,.int .i64 0,.bool false,.int .i64 0,.int .i64 0,.bool false,.int .i64 0,.int .i64 0,.bool false] 36):=⟨_,rfl⟩
   have hgd:wr.grownBy wd none:=by rw[hwd];exact abE _ _ _
   have hA0:Hid (ay wd wr.heap.size 36 12 (Cr.iD (fun _=>0) (fun _=>0) (fun _=>false))/\w.heap.size<=wr.heap.size):=by
    refine⟨?_,(uh hP).bo.grown.size⟩
    rw[hwd]
    exact Cr.lq (h:=fun _=>0) (i:=fun _=>0) (b:=fun _=>false) (abH wr _)
   have hPd:=aa ((uh hP).on hgd)
   clear hgd hP
   go_upto_region 10 with fail
   rw[<-hwd]
   clear hwd
   obtain⟨A,hAe⟩:=abV wr.heap.size
   rw[hAe]at hA0|-
   clear hAe
   clear wr
   go_wp2_with fail
   go_loopw [13] (fun v13 wr=>∃(t:Nat) (how inp:Nat->Int) (sp:Nat->Bool),t<=mn/\v13=.int .i64 (t:Int)/\Hid (Cr.mV w wr T X gC gE gI cC cE cI kC kE kI mC mE mI S)/\Hid (ay wr A 36 12 (Cr.iD how inp sp)/\w.heap.size<=A)) (fun v13 _=>10-(intOf v13).toNat)
   case atStart=>exact⟨0,fun _=>0,fun _=>0,fun _=>false,by omega,rfl,hPd,hA0⟩
   case round =>
    clear hPd hA0
    obtain⟨t,how,inp,sp,ht,rfl,hP,hA⟩:=hrel
    by_cases htl:t<mn
    ·have htl':(t:Int)<(mn:Int):=by omega
     have TL:=aa htl
     have ht4:(t:Int)<4:=by have:=(uh BD).1;omega
     obtain⟨xa,xb,xc⟩:=Cr.pe (uh hA).1 (t:=t) (by omega)
     have fA:=(uh hA).1.free
     obtain⟨pr,hpr⟩:∃pr:Int,(t:Int)*(fv:Int)=pr:=⟨_,rfl⟩
     have t5:IntKind.i64.wrap ((t:Int)*(fv:Int))=pr:=by
      have h1:(t:Int)*(fv:Int)<=4*5:=Int.mul_le_mul (by omega) (by have:=(uh BD).2.2;omega) (by omega) (by omega)
      have h2:0<=(t:Int)*(fv:Int):=Int.mul_nonneg (by omega) (by omega)
      rw[abK,<-hpr]
      omega
     obtain⟨b,hb⟩:∃b:Bool,((i:Int)==pr)=b:=⟨_,rfl⟩
     have hPA:=aa ((uh hP).d7 (t:=t) (uh hA).1 (uh hA).2 2 0 b)
     have lA:=aa (uh hA).2
     clear htl ht hP hA hpr
     go_wp2_with fail
     refine(uh cV _).mono ?_
     rintro e wy ⟨rfl,hy⟩
     subst wy
     go_wp2
     go_roundw
     case rel=>exact⟨t+1,_,_,_,by have:=uh TL;omega,by go_num,(uh hPA).1,(uh hPA).2,uh lA⟩
     case measure=>simp[intOf];have:=uh TL;omega
    ·obtain rfl:t=mn:=by omega
     have hge:¬(t:Int)<(t:Int):=by omega
     clear htl ht
     go_upto_region 14 with fail
     clear hge
     have HI:Hid (i<120):=(show i<120 by have:=uh HL;have:=(uh BD).2.1;omega)
     have hkeep:Hid (∀x,wr.grownBy x none->(x.cell? ⟨T,0,none⟩=some (.int .i64 (S.s 0))/\x.cell? ⟨T,1,none⟩=some (.int .i64 (S.s 1))/\x.cell? ⟨T,2,none⟩=some (.int .i64 (S.s 2))/\x.cell? ⟨T,3,none⟩=some (.int .i64 (S.s 3))/\x.cell? ⟨T,4,none⟩=some (.slice (some ⟨gC,0,none⟩) 384 cC)/\x.cell? ⟨T,5,none⟩=some (.slice (some ⟨gE,0,none⟩) 32 cE)/\x.cell? ⟨T,6,none⟩=some (.slice (some ⟨gI,0,none⟩) 40 cI)/\x.cell? ⟨T,7,none⟩=some (.int .i64 (S.g 0))/\x.cell? ⟨T,8,none⟩=some (.int .i64 (S.g 1))/\x.cell? ⟨T,9,none⟩=some (.int .i64 (S.g 2))/\x.cell? ⟨T,10,none⟩=some (.int .i64 (S.g 3)))/\(x.cell? ⟨X,0,none⟩=some (.int .i64 (S.s 0))/\x.cell? ⟨X,1,none⟩=some (.int .i64 (S.s 1))/\x.cell? ⟨X,2,none⟩=some (.int .i64 (S.s 2))/\x.cell? ⟨X,3,none⟩=some (.int .i64 (S.s 3))/\x.cell? ⟨X,4,none⟩=some (.slice (some ⟨kC,0,none⟩) 384 mC)/\x.cell? ⟨X,5,none⟩=some (.slice (some ⟨kE,0,none⟩) 32 mE)/\x.cell? ⟨X,6,none⟩=some (.slice (some ⟨kI,0,none⟩) 40 mI)/\x.cell? ⟨X,7,none⟩=some (.int .i64 (S.g 0))/\x.cell? ⟨X,8,none⟩=some (.int .i64 (S.g 1))/\x.cell? ⟨X,9,none⟩=some (.int .i64 (S.g 2))/\x.cell? ⟨X,10,none⟩=some (.int .i64 (S.g 3)))/\(x.cell? ⟨A,0,none⟩=some (.int .i64 (how 0))/\x.cell? ⟨A,1,none⟩=some (.int .i64 (inp 0))/\x.cell? ⟨A,2,none⟩=some (.bool (sp 0))/\x.cell? ⟨A,3,none⟩=some (.int .i64 (how 1))/\x.cell? ⟨A,4,none⟩=some (.int .i64 (inp 1))/\x.cell? ⟨A,5,none⟩=some (.bool (sp 1))/\x.cell? ⟨A,6,none⟩=some (.int .i64 (how 2))/\x.cell? ⟨A,7,none⟩=some (.int .i64 (inp 2))/\x.cell? ⟨A,8,none⟩=some (.bool (sp 2))/\x.cell? ⟨A,9,none⟩=some (.int .i64 (how 3))/\x.cell? ⟨A,10,none⟩=some (.int .i64 (inp 3))/\x.cell? ⟨A,11,none⟩=some (.bool (sp 3)))):=fun x hx=>⟨((uh hP).on hx).bo.ae,((uh hP).on hx).jS.ae,(((uh hA).1.on hx).cell (c:=0) (by omega)),(((uh hA).1.on hx).cell (c:=1) (by omega)),(((uh hA).1.on hx).cell (c:=2) (by omega)),(((uh hA).1.on hx).cell (c:=3) (by omega)),(((uh hA).1.on hx).cell (c:=4) (by omega)),(((uh hA).1.on hx).cell (c:=5) (by omega)),(((uh hA).1.on hx).cell (c:=6) (by omega)),(((uh hA).1.on hx).cell (c:=7) (by omega)),(((uh hA).1.on hx).cell (c:=8) (by omega)),(((uh hA).1.on hx).cell (c:=9) (by omega)),(((uh hA).1.on hx).cell (c:=10) (by omega)),(((uh hA).1.on hx).cell (c:=11) (by omega))⟩
     have hd:=aa (gd1 (abF wr none))
     have cs:Hid (∀x,wr.grownBy x none->Calls Tryz.prog 15 #[.agg #[.int .i64 (S.s 0),.int .i64 (S.s 1),.int .i64 (S.s 2),.int .i64 (S.s 3),.slice (some ⟨gC,0,none⟩) 384 cC,.slice (some ⟨gE,0,none⟩) 32 cE,.slice (some ⟨gI,0,none⟩) 40 cI,.int .i64 (S.g 0),.int .i64 (S.g 1),.int .i64 (S.g 2),.int .i64 (S.g 3)],.agg #[.int .i64 (how 0),.int .i64 (inp 0),.bool (sp 0),.int .i64 (how 1),.int .i64 (inp 1),.bool (sp 1),.int .i64 (how 2),.int .i64 (inp 2),.bool (sp 2),.int .i64 (how 3),.int .i64 (inp 3),.bool (sp 3)]] x (Cr.uH x how inp sp S)):=fun x hx=>su S.s S.g S.c S.E S.I gC gE gI cC cE cI how inp sp x ((uh hP).on hx).bo.af.ab (uh hGo).1 (by have:=(uh hGo).2;omega) (by have:=(uh hGo).2;have:=uh HI;omega)
     have cr:Hid (∀x,wr.grownBy x none->Calls Tryz.prog 16 #[.agg #[.int .i64 (S.s 0),.int .i64 (S.s 1),.int .i64 (S.s 2),.int .i64 (S.s 3),.slice (some ⟨kC,0,none⟩) 384 mC,.slice (some ⟨kE,0,none⟩) 32 mE,.slice (some ⟨kI,0,none⟩) 40 mI,.int .i64 (S.g 0),.int .i64 (S.g 1),.int .i64 (S.g 2),.int .i64 (S.g 3)],.agg #[.int .i64 (how 0),.int .i64 (inp 0),.bool (sp 0),.int .i64 (how 1),.int .i64 (inp 1),.bool (sp 1),.int .i64 (how 2),.int .i64 (inp 2),.bool (sp 2),.int .i64 (how 3),.int .i64 (inp 3),.bool (sp 3)]] x fun e w'=>∃T,Cr.dS how inp sp S T/\Gd.cL x T.s T.g T.c T.E T.I e w'):=fun x hx=>tO S.s S.g S.c S.E S.I kC kE kI mC mE mI how inp sp x ((uh hP).on hx).jS.af.ab (uh hGo).1 (by have:=(uh hGo).2;omega) (by have:=(uh hGo).2;have:=uh HI;omega)
     refine bH (h:=6) (S:=fun x=>(x.cell? ⟨T,0,none⟩=some (.int .i64 (S.s 0))/\x.cell? ⟨T,1,none⟩=some (.int .i64 (S.s 1))/\x.cell? ⟨T,2,none⟩=some (.int .i64 (S.s 2))/\x.cell? ⟨T,3,none⟩=some (.int .i64 (S.s 3))/\x.cell? ⟨T,4,none⟩=some (.slice (some ⟨gC,0,none⟩) 384 cC)/\x.cell? ⟨T,5,none⟩=some (.slice (some ⟨gE,0,none⟩) 32 cE)/\x.cell? ⟨T,6,none⟩=some (.slice (some ⟨gI,0,none⟩) 40 cI)/\x.cell? ⟨T,7,none⟩=some (.int .i64 (S.g 0))/\x.cell? ⟨T,8,none⟩=some (.int .i64 (S.g 1))/\x.cell? ⟨T,9,none⟩=some (.int .i64 (S.g 2))/\x.cell? ⟨T,10,none⟩=some (.int .i64 (S.g 3)))/\(x.cell? ⟨X,0,none⟩=some (.int .i64 (S.s 0))/\x.cell? ⟨X,1,none⟩=some (.int .i64 (S.s 1))/\x.cell? ⟨X,2,none⟩=some (.int .i64 (S.s 2))/\x.cell? ⟨X,3,none⟩=some (.int .i64 (S.s 3))/\x.cell? ⟨X,4,none⟩=some (.slice (some ⟨kC,0,none⟩) 384 mC)/\x.cell? ⟨X,5,none⟩=some (.slice (some ⟨kE,0,none⟩) 32 mE)/\x.cell? ⟨X,6,none⟩=some (.slice (some ⟨kI,0,none⟩) 40 mI)/\x.cell? ⟨X,7,none⟩=some (.int .i64 (S.g 0))/\x.cell? ⟨X,8,none⟩=some (.int .i64 (S.g 1))/\x.cell? ⟨X,9,none⟩=some (.int .i64 (S.g 2))/\x.cell? ⟨X,10,none⟩=some (.int .i64 (S.g 3)))/\(x.cell? ⟨A,0,none⟩=some (.int .i64 (how 0))/\x.cell? ⟨A,1,none⟩=some (.int .i64 (inp 0))/\x.cell? ⟨A,2,none⟩=some (.bool (sp 0))/\x.cell? ⟨A,3,none⟩=some (.int .i64 (how 1))/\x.cell? ⟨A,4,none⟩=some (.int .i64 (inp 1))/\x.cell? ⟨A,5,none⟩=some (.bool (sp 1))/\x.cell? ⟨A,6,none⟩=some (.int .i64 (how 2))/\x.cell? ⟨A,7,none⟩=some (.int .i64 (inp 2))/\x.cell? ⟨A,8,none⟩=some (.bool (sp 2))/\x.cell? ⟨A,9,none⟩=some (.int .i64 (how 3))/\x.cell? ⟨A,10,none⟩=some (.int .i64 (inp 3))/\x.cell? ⟨A,11,none⟩=some (.bool (sp 3)))) (by kernel_rfl) ?_
     have hS0:=uh hkeep _ (uh hd)
     refine wtk (i:=0) (v:=?_) [6] rfl (by kernel_rfl) (by kernel_rfl) (by kernel_rfl) (by kernel_rfl) (fun _ _ _ h=>h) hS0 (Or.inl ⟨by rfl,?_⟩) ?_
     rotate_left
     ·intro x hSx
      try dsimp only at hSx
      go_simp
      try with_reducible rfl
     simp only[Act.put]
     refine wtk (i:=1) (v:=?_) [6] rfl (by kernel_rfl) (by kernel_rfl) (by kernel_rfl) (by kernel_rfl) (fun _ _ _ h=>h) hS0 (Or.inl ⟨by rfl,?_⟩) ?_
     rotate_left
     ·intro x hSx
      try dsimp only at hSx
      go_simp
      try with_reducible rfl
     simp only[Act.put]
     refine wtk (i:=3) (v:=?_) [5,6] rfl (by kernel_rfl) (by kernel_rfl) (by kernel_rfl) (by kernel_rfl) (fun _ _ _ h=>h) hS0 (Or.inl ⟨by rfl,?_⟩) ?_
     rotate_left
     ·intro x hSx
      try dsimp only at hSx
      go_simp
      try with_reducible rfl
     simp only[Act.put]
     refine wtk (i:=4) (v:=?_) [5,6] rfl (by kernel_rfl) (by kernel_rfl) (by kernel_rfl) (by kernel_rfl) (fun _ _ _ h=>h) hS0 (Or.inl ⟨by rfl,?_⟩) ?_
     rotate_left
     ·intro x hSx
      try dsimp only at hSx
      go_simp
      try with_reducible rfl
     simp only[Act.put]
     refine wto (j:=2) (by kernel_rfl) rfl (fun K hK=>?_)
     go_simp
     refine(uh cs _ (uh hd)).mono ?_
     rintro e0 w4 ⟨U,hU,aC,aE,aI,bC,bE,bI,rfl,hcap1,l11,l12,l13,n11,n12,n13,hL1,hg4⟩
     have hG4:=aa (gtr (uh hd) hg4)
     have hS4:=uh hkeep _ (uh hG4)
     clear hS0
     try go_simp
     refine hK.out _ _ (fun _=>uh hkeep _ (uh hG4)) ?_
     clear hK K
     refine wto (j:=5) (by kernel_rfl) rfl (fun K hK=>?_)
     go_simp
     refine(uh cr _ (uh hG4)).mono ?_
     rintro e0 w5 ⟨U',hU',pC,pE,pI,qC,qE,qI,rfl,hcap2,l21,l22,l23,n21,n22,n23,hL2,hg5⟩
     obtain rfl:U'=U:=hU.bo hU'
     have hG5:=aa (gtr (uh hG4) hg5)
     have hS5:=uh hkeep _ (uh hG5)
     have hP2:Hid (Cr.mV w ((((((((((((((((((((((w5.setCell ⟨T,0,none⟩ (.int .i64 (U'.s 0))).setCell ⟨T,1,none⟩ (.int .i64 (U'.s 1))).setCell ⟨T,2,none⟩ (.int .i64 (U'.s 2))).setCell ⟨T,3,none⟩ (.int .i64 (U'.s 3))).setCell ⟨T,4,none⟩ (.slice (some ⟨aC,0,none⟩) 384 bC)).setCell ⟨T,5,none⟩ (.slice (some ⟨aE,0,none⟩) 32 bE)).setCell ⟨T,6,none⟩ (.slice (some ⟨aI,0,none⟩) 40 bI)).setCell ⟨T,7,none⟩ (.int .i64 (U'.g 0))).setCell ⟨T,8,none⟩ (.int .i64 (U'.g 1))).setCell ⟨T,9,none⟩ (.int .i64 (U'.g 2))).setCell ⟨T,10,none⟩ (.int .i64 (U'.g 3))).setCell ⟨X,0,none⟩ (.int .i64 (U'.s 0))).setCell ⟨X,1,none⟩ (.int .i64 (U'.s 1))).setCell ⟨X,2,none⟩ (.int .i64 (U'.s 2))).setCell ⟨X,3,none⟩ (.int .i64 (U'.s 3))).setCell ⟨X,4,none⟩ (.slice (some ⟨pC,0,none⟩) 384 qC)).setCell ⟨X,5,none⟩ (.slice (some ⟨pE,0,none⟩) 32 qE)).setCell ⟨X,6,none⟩ (.slice (some ⟨pI,0,none⟩) 40 qI)).setCell ⟨X,7,none⟩ (.int .i64 (U'.g 0))).setCell ⟨X,8,none⟩ (.int .i64 (U'.g 1))).setCell ⟨X,9,none⟩ (.int .i64 (U'.g 2))).setCell ⟨X,10,none⟩ (.int .i64 (U'.g 3))) T X aC aE aI bC bE bI pC pE pI qC qE qI U'):=by
      have q0:=(uh hP).bo.grown.size
      have q1:=(uh hd).size
      have q2:=(uh hG4).size
      exact((uh hP).on (uh hG5)).over hcap1.1 (by omega) (by omega) n11 n12 n13 (hL1.on hg5) hcap2 (by omega) (by omega) n21 n22 n23 hL2
     have hGU:=aa (hU.kz (uh hGo).1)
     have fT:=((uh hP).on (uh hG5)).bo.af.box.free
     have fX:=((uh hP).on (uh hG5)).jS.af.box.free
     have nTX:=(uh hP).ne
     have nXT:=(uh hP).ne.symm
     obtain⟨⟨b0,b1,b2,b3,b4,b5,b6,b7,b8,b9,b10⟩,⟨y0,y1,y2,y3,y4,y5,y6,y7,y8,y9,y10⟩,-⟩:=hS5
     clear hcap1 l11 l12 l13 n11 n12 n13 hL1 hg4 hcap2 l21 l22 l23 n21 n22 n23 hL2 hg5 hS4 hU hU'
     try unfold Gd.world
     try go_simp
     refine hK.out _ _ (fun _=>uh hkeep _ (uh hG5)) ?_
     clear hK K
     refine wto (j:=6) (by kernel_rfl) rfl (fun K hK=>?_)
     go_simp
     refine hK.out _ _ (fun hx=>absurd (hx.symm.trans (by kernel_rfl)) abT) ?_
     clear hK K
     refine wto (j:=7) (by kernel_rfl) rfl (fun K hK=>?_)
     go_simp
     refine hK.out _ _ (fun hx=>absurd (hx.symm.trans (by kernel_rfl)) abT) ?_
     clear hK K
     refine cy (by kernel_rfl) ?_ _
     clear hkeep cs cr b0 b1 b2 b3 b4 b5 b6 b7 b8 b9 b10 y0 y1 y2 y3 y4 y5 y6 y7 y8 y9 y10 fT fX nTX nXT
     go_wp2
     go_roundw
     case rel=>exact⟨i+1,U',aC,aE,aI,bC,bE,bI,pC,pE,pI,qC,qE,qI,by have:=uh HL;omega,by go_num,hP2,(uh hGU).1,by rw[(uh hGU).2.2.1,(uh hGo).2];rfl⟩
     case measure=>simp[intOf];have:=uh HL;omega
  ·obtain rfl:i=fr:=by omega
   have hge:¬(i:Int)<(i:Int):=by omega
   clear hlt hi
   obtain⟨b0,b1,b2,b3,b4,b5,b6,b7,b8,b9,b10⟩:=(uh hP).bo.ae
   obtain⟨y0,y1,y2,y3,y4,y5,y6,y7,y8,y9,y10⟩:=(uh hP).jS.ae
   have cz:=aa (pw S.s S.g S.c S.E S.I gC gE gI cC cE cI kC kE kI mC mE mI wr (uh hP).bo.af.ab (uh hP).jS.af.ab)
   have hgr:=aa (uh hP).bo.grown
   clear hP
   unfold Gd.world at cz
   go_wp2_with fail
   refine(uh cz).mono ?_
   rintro e wq ⟨rfl,hg⟩
   have hg2:=aa (gtr (uh hgr) hg)
   clear hg hgr cz b0 b1 b2 b3 b4 b5 b6 b7 b8 b9 b10 y0 y1 y2 y3 y4 y5 y6 y7 y8 y9 y10
   go_wp2_with fail
   go_ret
   exact⟨rfl,lU (uh hg2)⟩

set_option maxRecDepth 100000 in
theorem lifted (os:Os) (started:os.Started) (H:Type) (enc:TypeId × Value->H) :
  ReturnsInHanded {} Tryz.checked os 4 .any (Rows.crawlRobotsSpec.pre6 enc Tryz.prog Tryz.f4 Rows.crawlRobotsRow.domain false) (Rows.crawlRobotsSpec.post enc Tryz.prog Tryz.f4 false true false false):=by
 refine returnsInHanded_of_change (C:=Tryz.checked) own started (by kernel_rfl) Tryz.func4
  (ChangeSpec.witness6 (enc:=enc) (C:=Tryz.checked) false ⟨#[],#[.int .i64 0,.int .i64 0,.int .i64 0,.int .i64 0],[]⟩ 8 (by kernel_rfl) (by kernel_rfl) (by kernel_rfl) (by kernel_rfl)) ?_
 intro W ar args ds gs before hval0 hW hcnd _
 have hval:∀(j:Nat) t v,Tryz.f4.params[j]?=some t->args[j]?=some v->Value.okWide Tryz.prog W .any ar t v:=hval0
 have hW':=hW
 obtain⟨p,q,hA0,hV,rfl,hfz,hnd⟩:=hW
 have hA:DataW.TrodAll enc Tryz.prog W 0 (fun _=>true) true Tryz.f4.params.toList args.toList ds p:=hA0
 rw[Tryz.params4]at hA hval
 obtain⟨v0,vs0,d0,ds0,p0,q0,hargs,rfl,rfl,h0,r0⟩:=trodAll_cons hA
 obtain⟨v1,vs1,d1,ds1,p1,q1,rfl,rfl,rfl,h1,r1⟩:=trodAll_cons r0
 obtain⟨v2,vs2,d2,ds2,p2,q2,rfl,rfl,rfl,h2,r2⟩:=trodAll_cons r1
 obtain⟨v3,vs3,d3,ds3,p3,q3,rfl,rfl,rfl,h3,r3⟩:=trodAll_cons r2
 obtain⟨rfl,rfl,rfl⟩:=trodAll_nil r3
 obtain rfl:args=#[v0,v1,v2,v3]:=by cases args;simp_all
 obtain⟨rfl,rfl⟩:=trodVars_none hV
 obtain⟨a0,rfl,rfl,rfl,w0⟩:=open_int Tryz.underlying2 (hval 0 2 v0 rfl rfl) h0
 obtain⟨a1,rfl,rfl,rfl,w1⟩:=open_int Tryz.underlying3 (hval 1 3 v1 rfl rfl) h1
 obtain⟨a2,rfl,rfl,rfl,w2⟩:=open_int Tryz.underlying3 (hval 2 3 v2 rfl rfl) h2
 obtain⟨a3,rfl,rfl,rfl,w3⟩:=open_int Tryz.underlying3 (hval 3 3 v3 rfl rfl) h3
 clear hA0 hval0
 refine(walk a0 a1 a2 a3 w0 w1 w2 w3 W).mono fun e W' ⟨he,hg⟩=>?_
 subst he
 exact⟨_,rfl,_,_,_,[],_,[],hW',trodAll_mk1 (shut_bool Tryz.underlying4 _),(trodAll_cons_mk (shut_int Tryz.underlying2 w0) (trodAll_cons_mk (shut_int Tryz.underlying3 w1) (trodAll_cons_mk (shut_int Tryz.underlying3 w2) (trodAll_cons_mk (shut_int Tryz.underlying3 w3) trodAll_mk0)))),rfl,hg.frame _,fun h=>by cases h⟩

theorem over:Rows.crawlRobotsRow.holds Tryz.pinned (OpenSpec.ofChange Rows.crawlRobotsSpec) :=
 OpenClaim.holds_of_wide 4 Tryz.f4 rfl rfl rfl rfl rfl rfl rfl ⟨rfl,rfl,rfl,rfl,rfl⟩ rfl rfl rfl rfl rfl (by kernel_rfl) Tryz.func4 (by kernel_rfl)
  (of_decide_eq_true (by kernel_rfl)) (by unfold Func.isWrapper;first| (rw[abP (by decide +kernel)];kernel_rfl)|(rw[abO (by decide +kernel)];exact⟨rfl,rfl⟩))
  (fun os started H enc _=>lifted os started H enc)

theorem proved:Rows.CrawlRobotsSaid :=
 over
#print axioms proved

end Go.Proofs.YtbanjoflgoiegaaGreat.crawlRobots
