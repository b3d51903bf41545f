import Derived.Test.YtanhjdollialpaaGreatPf52
namespace Go.Proofs.YtanhjdollialpaaGreat
open Go.RowKit

theorem Sv.wfs {a:Int} (h:(Lit.int .i64 a).wf=true):-9223372036854775808≤a∧a≤9223372036854775807:=by
 simp only [Lit.wf,Bool.and_eq_true,decide_eq_true_eq,show IntKind.i64.min=-9223372036854775808 from by decide,show IntKind.i64.max=9223372036854775807 from by decide] at h
 exact h

structure Sv.Row (w x:World) (base0 base p bm cnt:Nat) (st:Dk.St) (o:Option Sv.C) (v:Value) (seed:Int) (L:List (List Value)) (w0:World):Prop where
 disk:Sv.Disk x base p bm cnt st o
 book:Sn.Book w0 x base0 v seed L
 grown:w.grownBy x none
 dead:st.dead=false

theorem Sv.Row.on {w x y:World} {base0 base p bm cnt:Nat} {st:Dk.St} {o:Option Sv.C} {v:Value} {seed:Int} {L:List (List Value)} {w0:World} (h:Sv.Row w x base0 base p bm cnt st o v seed L w0) (hg:x.grownBy y none):Sv.Row w y base0 base p bm cnt st o v seed L w0 :=
 ⟨h.disk.on hg,h.book.on hg,gtr h.grown hg,h.dead⟩

set_option maxRecDepth 16000 in
set_option maxHeartbeats 12800000 in
theorem saveReads_any (a0:Int) (a1 a2:Option Addr) (len1 cap1 len2 cap2:Nat) (V:Nat→Option Addr × Nat × Nat) (z:Nat→Nat→Int) (z2:Nat→Int) (w:World) (w0:(Lit.int .i64 a0).wf=true) (hC:Cr.Came w a1 len1 V z) (hv:Vec w.heap.size w a2 len2 (fun i=>.int .i64 (z2 i))) (hb:∀i,-9223372036854775808≤z2 i∧z2 i≤9223372036854775807) :
  Calls Tryz.prog 6 #[.int .i64 a0,.slice a1 len1 cap1,.slice a2 len2 cap2] w fun e w'=>e=.returned (.bool true)∧Below w.heap.size w w':=by
 have hz:=hide (Sv.wfs w0)
 have hC':=hide hC
 have HV:=hide hv
 have HB:=hide hb
 have e2:(len2:Int)≤9223372036854775807:=by have:=hv.1;unfold maxLen at this;omega
 clear w0 hC hv hb
 go_enter Tryz.func6,Tryz.ntmps6
 go_wp2_with fail
 refine (known14_any _).mono ?_
 rintro e x1 ⟨rfl,hg1⟩
 have cs:=hide (story_any a0 a1 len1 cap1 V z x1 ((uh hC').on hg1))
 have G1:=hide hg1
 clear hg1
 go_wp2_with fail
 refine (uh cs).mono ?_
 rintro e x2 ⟨v,base0,L,rfl,hbase,hL0,hL31,hBk,hg2⟩
 have HL0:=hide (And.intro hL0 hL31)
 have BK:=hide hBk
 have G2:=hide (gtr (uh G1) hg2)
 have cN:=hide (Dk.mine_new 40 x2 (by omega) (by omega))
 clear cs hbase hL0 hL31 hBk hg2 G1
 go_wp2_with fail
 refine (uh cN).mono ?_
 rintro e x3 ⟨p,bm,rfl,hM,hg3⟩
 have lo:Hid (w.heap.size≤p∧w.heap.size≤bm):=⟨Nat.le_trans (uh G2).size hM.low,Nat.le_trans (uh G2).size hM.lowb⟩
 have H0:Hid (∃st o,Sv.Row w x3 base0 x2.heap.size p bm 40 st o v a0 L x1∧st.left<0∧st.done≤16*0):=⟨Dk.fresh,none,⟨⟨hM,Sv.fresh_tells,fun C e=>(by cases e),by simp [Dk.fresh]⟩,(uh BK).on hg3,gtr (uh G2) hg3,rfl⟩,by simp [Dk.fresh],by simp [Dk.fresh]⟩
 clear cN hM hg3 BK G2 hC'
 go_wp2_with fail
 go_loopw [10,11,12,13,14,15] (fun v10 _ _ _ _ _ wr=>∃i:Nat,i≤12∧i≤len2∧v10=.int .i64 (i:Int)∧Hid (∃st o,Sv.Row w wr base0 x2.heap.size p bm 40 st o v a0 L x1∧st.left<0∧st.done≤16*i)) (fun v10 _ _ _ _ _ _=>20 - (intOf v10).toNat)
 case atStart=>exact ⟨0,by omega,Nat.zero_le _,rfl,H0⟩
 case round =>
  clear H0
  obtain ⟨i,hi12,hil,rfl,hX⟩:=hrel
  obtain ⟨st,o,hR,hlf,hdn⟩:=uh hX
  clear hX
  by_cases hlt:i<len2∧i<12
  ·have hlt1:(i:Int)<(len2:Int):=by omega
   have hlt2:(i:Int)<12:=by omega
   have HL:=hide hlt
   obtain ⟨b2,o2,rfl,hb2,hc2⟩:∃b off,a2=some ⟨b,off,none⟩∧b<w.heap.size∧∀i,i<len2→w.cell? ⟨b,off+i,none⟩=some (.int .i64 (z2 i)):=by
    obtain ⟨_,h0 | h⟩:=uh HV
    ·omega
    ·exact h
   have u2:wr.cell? ⟨b2,o2+i,none⟩=some (.int .i64 (z2 i)):=(gce hR.grown b2 (o2+i) hb2 (by simp)).trans (hc2 i hlt.1)
   have cc:=hide (svCampaign_any hR.book (uh HL0).1 (uh HL0).2 (uh hz) (z2 i) (uh HB i))
   have R1:=hide hR
   have HLF:=hide hlf
   have HDN:=hide hdn
   obtain ⟨zz,hzz⟩:∃q,z2 i=q:=⟨_,rfl⟩
   rw [hzz] at cc u2
   clear hlt hi12 hil hR hlf hdn hb2 hc2 hzz
   go_wp2_with fail
   refine (uh cc).mono ?_
   rintro e y1 ⟨C,gC,gE,gI,cC,cE,cI,rfl,hcE,hL,hok,hg1⟩
   obtain ⟨y2,hy2⟩:∃x,x=y1.alloc (.cells (Sv.camp C.s gC gE gI cC cE cI C.g C.t) 33):=⟨_,rfl⟩
   have hg2:y1.grownBy y2 none:=by rw [hy2];exact World.grownBy_alloc _ _ _
   obtain ⟨B,hB⟩:∃B,y1.heap.size=B:=⟨_,rfl⟩
   have hBx:Hid (Lie y2 B 33 15 (Sv.box C.s gC gE gI cC cE cI C.g C.t)):=by
    show Lie y2 _ _ _ _
    rw [hy2,←hB]
    exact Sv.camp_lie (heap_alloc_new y1 _)
   have R2:=hide ((uh R1).on (gtr hg1 hg2))
   have L2:=hide (hL.on hg2)
   have HOK:=hide hok
   have HCE:=hide hcE
   have cv:=hide (Sv.Disk.save (cC:=cC) (cE:=cE) (cI:=cI) (uh R2).disk (by omega) (uh R2).dead (by have:=uh HDN;have:=uh HL;omega) hok hcE (uh L2))
   clear cc hcE hL hok hg1 hg2 R1 u2
   unfold Sv.camp at hy2 cv ⊢
   go_upto_region 11 with fail
   rw [←hy2]
   clear hy2 hB y1
   obtain ⟨⟨b0,b1,b2,b3,b4,b5,b6,b7,b8,b9,b10⟩,b11,b12,b13,b14⟩:=Sv.fifteen (uh hBx)
   go_wp2_with fail
   refine (uh cv).mono ?_
   rintro e y3 ⟨r,st',o',rfl,hD,hK,ht⟩
   rcases hK.way with ⟨rfl,hdead,rfl,hl4⟩ | ⟨-,-,-,k4⟩
   case inr=>exact absurd (uh HLF) (by omega)
   have R3:Hid (Sv.Row w y3 base0 x2.heap.size p bm 40 st' (some C) v a0 L x1):=⟨hD,(uh R2).disk.book ht (uh R2).book,(Dk.still (Turn.new (uh R2).grown) ht (uh lo).1 (uh lo).2).grownBy,hdead⟩
   have HS:Hid (st'.left<0∧st'.done≤16*(i+1)):=⟨hl4 (uh HLF),by have:=hK.high;have:=uh HDN;omega⟩
   have B3:=hide ((uh R2).disk.lie ht (uh hBx) (by decide))
   have L3:=hide ((uh R2).disk.lists ht (uh L2))
   have cW:=hide (dkWrites_any x2.heap.size p bm 40 st'.f st'.done st'.left st'.dead y3 hD.mine)
   have cl:Hid (∀y,y3.grownBy y none→Calls Tryz.prog 22 #[.pointer (some ⟨p,0,none⟩)] y (Sv.Told y (some C))):=fun y hy=>(hD.on hy).load (by omega) hdead
   clear cv hD hK ht hdead hl4 R2 L2 hBx b0 b1 b2 b3 b4 b5 b6 b7 b8 b9 b10 b11 b12 b13 b14
   go_wp2_with fail
   refine (uh cW).mono ?_
   rintro e xq ⟨rfl,hq⟩
   obtain rfl:y3=xq:=hq.symm
   clear cW hq
   go_wp2_with fail
   go_loopw [13,14,15] (fun v13 _ _ wr=>∃k:Nat,k≤3∧v13=.int .i64 (k:Int)∧Hid (y3.grownBy wr none)) (fun v13 _ _ _=>10 - (intOf v13).toNat)
   case atStart=>exact ⟨0,by omega,rfl,World.grownBy.refl _ _⟩
   case round =>
    obtain ⟨k,hk,rfl,hG⟩:=hrel
    by_cases hk3:k<3
    ·have hk3':(k:Int)<3:=by omega
     have HK:=hide hk3
     clear hk hk3
     go_wp2_with fail
     refine (uh cl _ (uh hG)).mono ?_
     rintro e y4 ⟨hg4,v4,rfl,jC,jE,jI,dC,dE,dI,rfl,-,-,-,-,hL4⟩
     obtain ⟨y5,hy5⟩:∃x,x=y4.alloc (.cells (Sv.camp C.s jC jE jI dC dE dI C.g C.t) 33):=⟨_,rfl⟩
     have hg5:y4.grownBy y5 none:=by rw [hy5];exact World.grownBy_alloc _ _ _
     obtain ⟨B4,hB4⟩:∃B,y4.heap.size=B:=⟨_,rfl⟩
     have hH:Lie y5 B4 33 15 (Sv.box C.s jC jE jI dC dE dI C.g C.t):=by
      rw [hy5,←hB4]
      exact Sv.camp_lie (heap_alloc_new y4 _)
     have G5:=gtr (uh hG) (gtr hg4 hg5)
     obtain ⟨⟨b0,b1,b2,b3,b4,b5,b6,b7,b8,b9,b10⟩,b11,b12,b13,b14⟩:=Sv.fifteen hH
     obtain ⟨⟨a0',a1',a2',a3',a4',a5',a6',a7',a8',a9',a10'⟩,a11',a12',a13',a14'⟩:=Sv.fifteen ((uh B3).on G5)
     have cq:=hide (svSame_any C.s C.s C.g C.g C.c C.c C.E C.E C.I C.I C.t C.t jC jE jI dC dE dI gC gE gI cC cE cI y5 (hL4.on hg5) ((uh L3).on G5) (uh HOK).byte (uh HOK).byte)
     rw [Sv.sameT_self,Sn.sameW_yes,Bool.and_true] at cq
     have HG5:=hide G5
     clear hg4 hg5 hH hL4 G5 hG
     unfold Sv.camp at hy5 cq ⊢
     go_upto_region 18 with fail
     rw [←hy5]
     clear hy5 hB4 y4
     go_wp2_with fail
     refine (uh cq).mono ?_
     rintro e y6 ⟨rfl,hg6⟩
     have hfin:=hide (gtr (uh HG5) hg6)
     clear cq hg6 HG5 b0 b1 b2 b3 b4 b5 b6 b7 b8 b9 b10 b11 b12 b13 b14 a0' a1' a2' a3' a4' a5' a6' a7' a8' a9' a10' a11' a12' a13' a14'
     go_wp2
     go_roundw
     case rel=>exact ⟨k+1,by have:=uh HK;omega,by go_num,hfin⟩
     case measure=>simp [intOf];have:=uh HK;omega
    ·obtain rfl:k=3:=by omega
     have hge:¬((3:Nat):Int)<3:=by omega
     have R4:=hide ((uh R3).on (uh hG))
     have cW:=hide (dkWrites_any x2.heap.size p bm 40 st'.f st'.done st'.left st'.dead _ (uh R4).disk.mine)
     clear hk hk3 hG cl R3 B3 L3
     go_wp2_with fail
     refine (uh cW).mono ?_
     rintro e xq ⟨rfl,hq⟩
     obtain rfl:_=xq:=hq.symm
     clear cW hq
     have hfin:Hid (∃st o,Sv.Row w _ base0 x2.heap.size p bm 40 st o v a0 L x1∧st.left<0∧st.done≤16*(i+1)):=⟨st',some C,uh R4,(uh HS).1,(uh HS).2⟩
     clear R4
     go_wp2
     go_roundw
     case rel=>exact ⟨i+1,by have:=uh HL;omega,by have:=uh HL;omega,by go_num,hfin⟩
     case measure=>simp [intOf];have:=uh HL;omega
  ·have hfin:=hide (none_below hR.grown)
   by_cases h1:i<len2
   ·have h1':(i:Int)<(len2:Int):=by omega
    have h2':¬(i:Int)<12:=by omega
    clear hlt h1 hR hi12 hil
    go_wp2
    go_ret
    exact ⟨rfl,uh hfin⟩
   ·have h1':¬(i:Int)<(len2:Int):=by omega
    clear hlt h1 hR hi12 hil
    go_wp2
    go_ret
    exact ⟨rfl,uh hfin⟩

end Go.Proofs.YtanhjdollialpaaGreat
