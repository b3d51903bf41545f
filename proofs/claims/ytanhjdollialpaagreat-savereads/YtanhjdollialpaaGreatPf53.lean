import Derived.Test.YtanhjdollialpaaGreatPf52
namespace Go.Proofs.YtanhjdollialpaaGreat
open Go.RowKit

theorem Sv.wf64 {a:Int} (h:(Lit.int .i64 a).wf=true):-9223372036854775808≤a∧a≤9223372036854775807:=by
 simp only [Lit.wf,Bool.and_eq_true,decide_eq_true_eq,show IntKind.i64.min=-9223372036854775808 from by decide,show IntKind.i64.max=9223372036854775807 from by decide] at h
 exact h

theorem chk_floor {s g c:Nat→Int} {E I:Nat→Nat→Int} (h:3<s 2):Sn.Chk s g c E I 1:=by
 unfold Sn.Chk
 rw [if_neg ?_]
 unfold Sn.headB Sn.numB
 simp
 intro _ _ _ _
 omega

set_option maxRecDepth 16000 in
set_option maxHeartbeats 12800000 in
theorem saveFew_any (a0 a1 a2:Int) (w:World) (w0:(Lit.int .i64 a0).wf=true) (w1:(Lit.int .i64 a1).wf=true) (w2:(Lit.int .i64 a2).wf=true) :
  Calls Tryz.prog 5 #[.int .i64 a0,.int .i64 a1,.int .i64 a2] w fun e w'=>e=.returned (.bool true)∧Below w.heap.size w w':=by
 have hz:=hide (Sv.wf64 w1)
 have z0:=Sv.wf64 w0
 have z2:=Sv.wf64 w2
 obtain ⟨k,hk,hk60⟩:∃k:Nat,a0 % 60=(k:Int)∧k<60:=⟨(a0 % 60).toNat,by omega,by omega⟩
 obtain ⟨m,hm,hm100⟩:∃k:Nat,a2 % 100=(k:Int)∧k<100:=⟨(a2 % 100).toNat,by omega,by omega⟩
 have cw0:=hide (fun x=>within14_any a0 60 x (by omega) (by omega))
 have cw2:=hide (fun x=>within14_any a2 100 x (by omega) (by omega))
 rw [hk] at cw0
 rw [hm] at cw2
 clear w0 w1 w2 z0 z2 hk hm
 go_enter Tryz.func5,Tryz.ntmps5
 go_wp2_with fail
 refine (known14_any _).mono ?_
 rintro e x1 ⟨rfl,hg1⟩
 have G1:=hide hg1
 clear hg1
 go_wp2_with fail
 refine (uh cw0 _).mono ?_
 rintro e xq ⟨rfl,hq⟩
 obtain rfl:x1=xq:=hq.symm
 clear hq cw0
 obtain ⟨n,hn⟩:∃n:Nat,1+k=n:=⟨_,rfl⟩
 have hn1:(1:Int)+(k:Int)=(n:Int):=by omega
 have HN:Hid (1≤n∧n≤60):=⟨by omega,by omega⟩
 have hnw:IntKind.i64.wrap (n:Int)=(n:Int):=by rw [IntKind.wrap_i64];omega
 have cN:=hide (Dk.mine_new n x1 (uh HN).1 (by have:=(uh HN).2;omega))
 clear hn hk60
 go_wp2_with fail
 refine (uh cN).mono ?_
 rintro e x2 ⟨p,bm,rfl,hM,hg2⟩
 have hD2:Sv.Disk x2 x1.heap.size p bm n Dk.fresh none:=⟨hM,Sv.fresh_tells,fun C e=>(by cases e),by simp [Dk.fresh]⟩
 have lo:Hid (w.heap.size≤p∧w.heap.size≤bm):=⟨Nat.le_trans (uh G1).size hM.low,Nat.le_trans (uh G1).size hM.lowb⟩
 have D2:=hide hD2
 have G2:=hide (gtr (uh G1) hg2)
 have cs:=hide (story_any a1 none 0 0 (fun _=>(none,0,0)) (fun _ _=>0) x2 ⟨Nat.zero_le _,fun i hi=>absurd hi (Nat.not_lt_zero i)⟩)
 clear cN hM hg2 hD2 G1
 go_wp2_with fail
 refine (uh cs).mono ?_
 rintro e x3 ⟨v,base,L,rfl,hbase,hL0,hL31,hBk,hg3⟩
 have cc:=hide (svCampaign_any hBk hL0 hL31 (uh hz) 2 (by omega))
 have D3:=hide ((uh D2).on hg3)
 have G3:=hide (gtr (uh G2) hg3)
 clear cs hbase hL0 hL31 hBk hg3 D2 G2 hz
 go_wp2_with fail
 refine (uh cc).mono ?_
 rintro e x4 ⟨C,gC,gE,gI,cC,cE,cI,rfl,hcE,hL,hok,hg4⟩
 obtain ⟨x5,hx5⟩:∃x,x=x4.alloc (.cells (Sv.camp C.s gC gE gI cC cE cI C.g C.t) 33):=⟨_,rfl⟩
 have hg5:x4.grownBy x5 none:=by rw [hx5];exact World.grownBy_alloc _ _ _
 obtain ⟨B,hB⟩:∃B,x4.heap.size=B:=⟨_,rfl⟩
 have hC:Hid (Lie x5 B 33 15 (Sv.box C.s gC gE gI cC cE cI C.g C.t)):=by
  show Lie x5 _ _ _ _
  rw [hx5,←hB]
  exact Sv.camp_lie (heap_alloc_new x4 _)
 have D5:=hide ((uh D3).on (gtr hg4 hg5))
 have G5:=hide (gtr (uh G3) (gtr hg4 hg5))
 have L5:=hide (hL.on hg5)
 have HOK:=hide hok
 have HCE:=hide hcE
 clear cc hcE hL hok hg4 hg5 D3 G3
 unfold Sv.camp at hx5 ⊢
 go_upto_region 8 with fail
 rw [←hx5]
 clear hx5 hB x4
 obtain ⟨⟨b0,b1,b2,b3,b4,b5,b6,b7,b8,b9,b10⟩,b11,b12,b13,b14⟩:=Sv.fifteen (uh hC)
 by_cases h40:n<40
 ·have h40':(n:Int)<40:=by omega
  have cv:=hide (svSave_any x1.heap.size p bm n Dk.fresh C.s C.g C.c C.E C.I C.t 0 gC gE gI cC cE cI x5 (uh D5).mine (by simp [Dk.fresh]) (by simp [Dk.fresh]) (uh L5) (uh HOK).byte (uh HCE) (uh HOK).chk)
  rw [show Sv.saveR n Dk.fresh 0 (Sv.seats C.t 4 :: Sn.bytes C.s C.g C.c C.E C.I)=(5,Dk.fresh) from if_pos h40] at cv
  have HF:=hide h40
  unfold Sv.camp at cv
  clear h40
  go_wp2_with fail
  refine (uh cv).mono ?_
  rintro e x6 ⟨rfl,hM6,ht6⟩
  have cl:=hide (svLoad_any x1.heap.size p bm n Dk.fresh x6 hM6 C (fun l e=>by rw [Sv.fresh_tells] at e;cases e))
  have G6:Hid (w.grownBy x6 none):=(Dk.still (Turn.new (uh G5)) ht6 (uh lo).1 (uh lo).2).grownBy
  clear cv hM6 ht6 D5 G5 L5 hC b0 b1 b2 b3 b4 b5 b6 b7 b8 b9 b10 b11 b12 b13 b14
  go_wp2_with fail
  refine (uh cl).mono ?_
  rintro e x7 hcase
  obtain ⟨rfl,hg7⟩:e=.returned (.tuple #[.agg Sv.void,.int .i64 5])∧x6.grownBy x7 none:=by
   have hf:=uh HF
   rcases hcase with ⟨_,h1,h2⟩ | ⟨h,_⟩ | ⟨h,_⟩ | ⟨h,_⟩
   ·exact ⟨h1,h2⟩
   all_goals omega
  have hfin:=hide (none_below (gtr (uh G6) (gtr hg7 (World.grownBy_alloc x7 (.cells Sv.void 33) none))))
  clear cl hcase hg7
  unfold Sv.void at hfin ⊢
  go_wp2
  go_ret
  exact ⟨rfl,uh hfin⟩
 ·have h40':¬(n:Int)<40:=by omega
  have HF:Hid (40≤n):=(show 40≤n by omega)
  have cv:=hide (Sv.Disk.save (cC:=cC) (cE:=cE) (cI:=cI) (uh D5) (uh HF) rfl (by decide) (uh HOK) (uh HCE) (uh L5))
  unfold Sv.camp at cv
  clear h40
  go_wp2_with fail
  refine (uh cv).mono ?_
  rintro e x6 ⟨r,st,o,rfl,hD6,hK6,ht6⟩
  rcases hK6.way with ⟨rfl,hdead,rfl,-⟩ | ⟨-,-,-,k4⟩
  case inr=>exact absurd k4 (by simp [Dk.fresh])
  have hdone:Hid (st.done≤16):=(show st.done≤16 by have:=hK6.high;simpa [Dk.fresh] using this)
  have HDD:=hide hdead
  have cl:=hide (hD6.load (uh HF) hdead)
  have C6:=hide ((uh D5).lie ht6 (uh hC) (by decide))
  have L6:=hide ((uh D5).lists ht6 (uh L5))
  have D6:=hide hD6
  have G6:Hid (w.grownBy x6 none):=(Dk.still (Turn.new (uh G5)) ht6 (uh lo).1 (uh lo).2).grownBy
  clear cv hD6 hK6 ht6 hdead D5 L5 hC G5 b0 b1 b2 b3 b4 b5 b6 b7 b8 b9 b10 b11 b12 b13 b14
  go_wp2_with fail
  refine (uh cl).mono ?_
  rintro e x7 ⟨hg7,v7,rfl,jC,jE,jI,dC,dE,dI,rfl,-,-,-,-,-⟩
  obtain ⟨x8,hx8⟩:∃x,x=x7.alloc (.cells (Sv.camp C.s jC jE jI dC dE dI C.g C.t) 33):=⟨_,rfl⟩
  have hg8:x7.grownBy x8 none:=by rw [hx8];exact World.grownBy_alloc _ _ _
  have C8:=hide ((uh C6).on (gtr hg7 hg8))
  have L8:=hide ((uh L6).on (gtr hg7 hg8))
  have D8:=hide ((uh D6).on (gtr hg7 hg8))
  have G8:=hide (gtr (uh G6) (gtr hg7 hg8))
  have cW:=hide (dkWrites_any x1.heap.size p bm n st.f st.done st.left st.dead x8 (uh D8).mine)
  clear cl hg7 hg8 C6 L6 D6 G6
  unfold Sv.camp at hx8 ⊢
  go_upto_region 10 with fail
  rw [←hx8]
  clear hx8
  obtain ⟨B7,hB7⟩:∃B,x7.heap.size=B:=⟨_,rfl⟩
  rw [hB7]
  clear hB7 x7
  go_wp2_with fail
  refine (uh cW).mono ?_
  rintro e xq ⟨rfl,hq⟩
  obtain rfl:x8=xq:=hq.symm
  clear cW hq
  obtain ⟨⟨b0,b1,b2,b3,b4,b5,b6,b7,b8,b9,b10⟩,b11,b12,b13,b14⟩:=Sv.fifteen (uh C8)
  obtain ⟨x9,hx9⟩:∃x,x=x8.alloc (.cells (Sv.camp C.s gC gE gI cC cE cI C.g C.t) 33):=⟨_,rfl⟩
  have hg9:x8.grownBy x9 none:=by rw [hx9];exact World.grownBy_alloc _ _ _
  obtain ⟨B9,hB9⟩:∃B,x8.heap.size=B:=⟨_,rfl⟩
  have hE:Hid (Lie x9 B9 33 15 (Sv.box C.s gC gE gI cC cE cI C.g C.t)):=by
   show Lie x9 _ _ _ _
   rw [hx9,←hB9]
   exact Sv.camp_lie (heap_alloc_new x8 _)
  have hne:Hid (B≠B9∧w.heap.size≤B9):=by
   have h1:=(uh C8).lt
   have h2:=(uh G8).size
   exact ⟨by omega,by omega⟩
  have C9:=hide ((uh C8).on hg9)
  have L9:=hide ((uh L8).on hg9)
  have D9:=hide ((uh D8).on hg9)
  have G9:=hide (gtr (uh G8) hg9)
  clear hg9 C8 L8 D8 G8
  unfold Sv.camp at hx9
  go_upto_region 14 with fail
  rw [←hx9]
  clear hx9 hB9 b0 b1 b2 b3 b4 b5 b6 b7 b8 b9 b10 b11 b12 b13 b14
  have hm1:(m:Int)<100:=by omega
  obtain ⟨s',hs'⟩:∃s':Nat→Int,s'=fun k=>if k=2 then 9+(m:Int) else C.s k:=⟨_,rfl⟩
  have e0:s' 0=C.s 0:=by rw [hs'];rfl
  have e1:s' 1=C.s 1:=by rw [hs'];rfl
  have e2:s' 2=9+(m:Int):=by rw [hs'];rfl
  have e3:s' 3=C.s 3:=by rw [hs'];rfl
  have fE:=(uh hE).free
  have uE:x9.cell? ⟨B9,2,none⟩=some (.int .i64 (C.s 2)):=(uh hE).cell (c:=2) (by omega)
  have tE:Turn (fun k=>k=B9) x9 (x9.setCell ⟨B9,2,none⟩ (.int .i64 (9+(m:Int)))):=(Turn.refl _ _).store B9 2 _ rfl
  have hF:Hid (Lie (x9.setCell ⟨B9,2,none⟩ (.int .i64 (9+(m:Int)))) B9 33 15 (Sv.box s' gC gE gI cC cE cI C.g C.t)):=by
   refine ((uh hE).store 2 (.int .i64 (9+(m:Int)))).congr fun j hj=>?_
   by_cases e:j=2
   ·subst e
    rw [if_pos rfl]
    show _=Value.int .i64 (s' 2)
    rw [e2]
   ·rw [if_neg e]
    unfold Sv.box
    by_cases h11:j<11
    ·rw [if_pos h11,if_pos h11]
     rcases (show j=0∨j=1∨j=3∨j=4∨j=5∨j=6∨j=7∨j=8∨j=9∨j=10 by omega) with rfl | rfl | rfl | rfl | rfl | rfl | rfl | rfl | rfl | rfl
     ·show Value.int .i64 (C.s 0)=.int .i64 (s' 0);rw [e0]
     ·show Value.int .i64 (C.s 1)=.int .i64 (s' 1);rw [e1]
     ·show Value.int .i64 (C.s 3)=.int .i64 (s' 3);rw [e3]
     all_goals rfl
    ·rw [if_neg h11,if_neg h11]
  have aw:=(uh D9).away (uh hE) (by decide)
  have D10:=hide ((uh D9).turn tE (by omega) (by omega))
  have C10:=hide ((uh C9).other (p:=B9) (fun e=>(uh hne).1 e.symm) 2 (.int .i64 (9+(m:Int))))
  have L10:Hid (Gd.Lists (x9.setCell ⟨B9,2,none⟩ (.int .i64 (9+(m:Int)))) gC gE gI C.c C.E C.I):=by
   have hl:=uh L9
   have hc:=uh hE
   exact ⟨hl.cells.other (hc.type_ne hl.cells (by decide)) _ _,hl.ents.other (hc.type_ne hl.ents (by decide)) _ _,hl.items.other (hc.type_ne hl.items (by decide)) _ _⟩
  have G10:Hid (w.grownBy (x9.setCell ⟨B9,2,none⟩ (.int .i64 (9+(m:Int)))) none):=gsr (uh G9) ⟨B9,2,none⟩ (uh hne).2 _
  clear tE hs' aw hE C9 L9 D9 G9
  go_wp2_with fail
  refine (uh cw2 _).mono ?_
  rintro e xq ⟨rfl,hq⟩
  obtain rfl:x9=xq:=hq.symm
  clear cw2 hq
  go_upto_region 15 with fail
  obtain ⟨x10,hx10⟩:∃x,x9.setCell ⟨B9,2,none⟩ (.int .i64 (9+(m:Int)))=x:=⟨_,rfl⟩
  rw [hx10] at hF D10 C10 L10 G10 ⊢
  clear hx10 uE fE x9
  obtain ⟨⟨b0,b1,b2,b3,b4,b5,b6,b7,b8,b9,b10⟩,b11,b12,b13,b14⟩:=Sv.fifteen (uh hF)
  have cv:=hide (svSave_any x1.heap.size p bm n st s' C.g C.c C.E C.I C.t 1 gC gE gI cC cE cI x10 (uh D10).mine (uh D10).left (by have:=uh hdone;omega) (uh L10) (uh HOK).byte (uh HCE) (chk_floor (by rw [e2];omega)))
  rw [show Sv.saveR n st 1 (Sv.seats C.t 4 :: Sn.bytes s' C.g C.c C.E C.I)=(1,st) by unfold Sv.saveR;rw [if_neg (by have:=uh HF;omega),if_pos (by decide)]] at cv
  unfold Sv.camp at cv
  clear e0 e1 e2 e3
  go_wp2_with fail
  refine (uh cv).mono ?_
  rintro e x11 ⟨rfl,hM11,ht11⟩
  have D11:Hid (Sv.Disk x11 x1.heap.size p bm n st (some C)):=⟨hM11,(uh D10).tells,(uh D10).ok,(uh D10).left⟩
  have C11:=hide ((uh D10).lie ht11 (uh C10) (by decide))
  have L11:=hide ((uh D10).lists ht11 (uh L10))
  have G11:Hid (w.grownBy x11 none):=(Dk.still (Turn.new (uh G10)) ht11 (uh lo).1 (uh lo).2).grownBy
  have cl:=hide ((uh D11).load (uh HF) (uh HDD))
  clear cv hM11 ht11 D10 C10 L10 G10 hF b0 b1 b2 b3 b4 b5 b6 b7 b8 b9 b10 b11 b12 b13 b14
  go_wp2_with fail
  refine (uh cl).mono ?_
  rintro e x12 ⟨hg12,v12,rfl,qC,qE,qI,rC,rE,rI,rfl,-,-,-,-,hL12⟩
  obtain ⟨x13,hx13⟩:∃x,x=x12.alloc (.cells (Sv.camp C.s qC qE qI rC rE rI C.g C.t) 33):=⟨_,rfl⟩
  have hg13:x12.grownBy x13 none:=by rw [hx13];exact World.grownBy_alloc _ _ _
  obtain ⟨B12,hB12⟩:∃B,x12.heap.size=B:=⟨_,rfl⟩
  have hH:Lie x13 B12 33 15 (Sv.box C.s qC qE qI rC rE rI C.g C.t):=by
   rw [hx13,←hB12]
   exact Sv.camp_lie (heap_alloc_new x12 _)
  obtain ⟨⟨b0,b1,b2,b3,b4,b5,b6,b7,b8,b9,b10⟩,b11,b12,b13,b14⟩:=Sv.fifteen hH
  obtain ⟨⟨a0',a1',a2',a3',a4',a5',a6',a7',a8',a9',a10'⟩,a11',a12',a13',a14'⟩:=Sv.fifteen ((uh C11).on (gtr hg12 hg13))
  have cq:=hide (svSame_any C.s C.s C.g C.g C.c C.c C.E C.E C.I C.I C.t C.t qC qE qI rC rE rI gC gE gI cC cE cI x13 (hL12.on hg13) ((uh L11).on (gtr hg12 hg13)) (uh HOK).byte (uh HOK).byte)
  rw [Sv.sameT_self,Sn.sameW_yes,Bool.and_true] at cq
  have D13:=hide ((uh D11).on (gtr hg12 hg13))
  have G13:=hide (gtr (uh G11) (gtr hg12 hg13))
  clear cl hg12 hg13 hH hL12 L11 C11 D11 G11
  unfold Sv.camp at hx13 cq ⊢
  go_upto_region 17 with fail
  rw [←hx13]
  clear hx13 hB12 x12
  go_wp2_with fail
  refine (uh cq).mono ?_
  rintro e x14 ⟨rfl,hg14⟩
  have cW:=hide (dkWrites_any x1.heap.size p bm n st.f st.done st.left st.dead x14 ((uh D13).on hg14).mine)
  have hfin:=hide (none_below (gtr (uh G13) hg14))
  clear cq hg14 D13 G13 b0 b1 b2 b3 b4 b5 b6 b7 b8 b9 b10 b11 b12 b13 b14 a0' a1' a2' a3' a4' a5' a6' a7' a8' a9' a10' a11' a12' a13' a14'
  go_wp2_with fail
  refine (uh cW).mono ?_
  rintro e xq ⟨rfl,hq⟩
  obtain rfl:x14=xq:=hq.symm
  clear cW hq
  go_wp2
  go_ret
  exact ⟨rfl,uh hfin⟩

end Go.Proofs.YtanhjdollialpaaGreat
