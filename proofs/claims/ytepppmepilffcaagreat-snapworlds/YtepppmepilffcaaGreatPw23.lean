import Derived.Test.YtepppmepilffcaaGreatPw22
import Derived.RowKit
import Derived.Laws.OwnMore
import Derived.Laws.BytesString
namespace Go.Proofs.YtepppmepilffcaaGreat
open Go.RowKit

theorem Sn.text_eq {c d:Nat→Int} (hc:∀i,0≤c i∧c i≤255) (hd:∀i,0≤d i∧d i≤255):Gd.text c=Gd.text d↔∀i,i<384→c i=d i:=by
 constructor
 ·intro e i hi
  have e2:(Gd.text c).data.toList=(Gd.text d).data.toList:=by rw [e]
  unfold Gd.text at e2
  rw [strOfNums_data,strOfNums_data,List.map_map,List.map_map] at e2
  have e3:=congrArg (fun l:List UInt8=>l[i]?) e2
  simp [List.getElem?_map,List.getElem?_range hi] at e3
  have e4:=congrArg UInt8.toNat e3
  simp at e4
  have h1:=hc i
  have h2:=hd i
  omega
 ·intro e
  unfold Gd.text
  congr 1
  exact List.map_congr_left fun i hi=>e i (List.mem_range.1 hi)

theorem Sn.text_ne {c d:Nat→Int} (hc:∀i,0≤c i∧c i≤255) (hd:∀i,0≤d i∧d i≤255):((Gd.text c).toList == (Gd.text d).toList)=Sn.allB (fun i=>c i == d i) 384:=by
 by_cases e:∀i,i<384→c i=d i
 ·rw [Sn.allB_yes fun i hi=>by simpa using e i hi,(Sn.text_eq hc hd).2 e]
  simp
 ·have hn:(Gd.text c).toList≠(Gd.text d).toList:=fun q=>by
   rw [ByteArray.toList_eq,ByteArray.toList_eq] at q
   exact e ((Sn.text_eq hc hd).1 (congrArg ByteArray.mk (Array.toList_inj.1 q)))
  have hx:∃i,i<384∧c i≠d i:=Classical.byContradiction fun q=>e fun i hi=>Classical.byContradiction fun r=>q ⟨i,hi,r⟩
  obtain ⟨i,hi,hne⟩:=hx
  rw [Sn.allB_no (k:=i) (by simpa using hne) hi]
  simpa using hn

theorem run_ne_gold (g h:Nat→Int) (w:World):(binOp .neq 29 (.agg #[.int .i64 (g 0),.int .i64 (g 1),.int .i64 (g 2),.int .i64 (g 3)]) (.agg #[.int .i64 (h 0),.int .i64 (h 1),.int .i64 (h 2),.int .i64 (h 3)])).run Tryz.prog w=.ok (.bool (!Sn.sameG g h)) w:=by
 have hg:=fun d w=>run_equal_gold d g h w
 generalize Sn.sameG g h=q at hg ⊢
 simp [go_sem,hg]

theorem Sn.sameH_no_s {s t g h:Nat→Int} {j:Nat} (hj:j<4) (hn:s j≠t j):Sn.sameH s t g h=false:=by
 cases e:Sn.sameH s t g h with
 | false=>rfl
 | true=>exact absurd (((Sn.sameH_iff s t g h).1 e).1 j hj) hn


open Go.RowKit

def Sn.sameW (s t g h c d:Nat→Int) (E F I J:Nat→Nat→Int):Bool :=
 Sn.sameH s t g h && (Sn.allB (fun i=>c i == d i) 384 && (Sn.allB (fun i=>Sn.sameE (E i) (F i)) 32 && Sn.allB (fun i=>Sn.sameI (I i) (J i)) 40))

set_option maxRecDepth 8000 in
set_option maxHeartbeats 12800000 in
theorem snSame_any (s t g h c d:Nat→Int) (E F I J:Nat→Nat→Int) (gC gE gI cC cE cI jC jE jI dC dE dI:Nat) (w:World) (hL:Gd.Lists w gC gE gI c E I) (hL2:Gd.Lists w jC jE jI d F J) :
  Calls Tryz.prog 16 #[.agg (Gd.world s gC gE gI cC cE cI g),.agg (Gd.world t jC jE jI dC dE dI h)] w (Says w (.bool (Sn.sameW s t g h c d E F I J))):=by
 obtain ⟨W0,hW⟩:∃W,W=(w.alloc (.cells (Gd.world s gC gE gI cC cE cI g) 31)).alloc (.cells (Gd.world t jC jE jI dC dE dI h) 31):=⟨_,rfl⟩
 have hg:w.grownBy W0 none:=by rw [hW];exact gal (World.grownBy_alloc _ _ _) _
 have x1:Lie W0 w.heap.size 31 11 (Gd.box s gC gE gI cC cE cI g):=by
  rw [hW]
  exact ((Arr.world (heap_alloc_new w _)).alloc _).lie
 have x2:Lie W0 (w.heap.size+1) 31 11 (Gd.box t jC jE jI dC dE dI h):=by
  rw [hW]
  have hh:=heap_alloc_new (w.alloc (.cells (Gd.world s gC gE gI cC cE cI g) 31)) (.cells (Gd.world t jC jE jI dC dE dI h) 31)
  rw [show (w.alloc (.cells (Gd.world s gC gE gI cC cE cI g) 31)).heap.size=w.heap.size+1 by simp] at hh
  exact (Arr.world hh).lie
 obtain ⟨B,hB⟩:∃B,w.heap.size=B:=⟨_,rfl⟩
 rw [hB] at x1 x2
 have x1':=hide x1
 have x2':=hide x2
 have hL':=hide (hL.on hg)
 have hL2':=hide (hL2.on hg)
 have hg':=hide hg
 have hcmp:=fun wx=>run_eq_head s t g h wx
 have hd:Hid (Sn.sameW s t g h c d E F I J=(Sn.sameH s t g h && (Sn.allB (fun i=>c i == d i) 384 && (Sn.allB (fun i=>Sn.sameE (E i) (F i)) 32 && Sn.allB (fun i=>Sn.sameI (I i) (J i)) 40)))):=rfl
 have c1:=hide (fun z (h1:Gd.Lists z gC gE gI c E I) (h2:Gd.Lists z jC jE jI d F J)=>snEqualB_any gC jC cC dC c d z h1.cells h2.cells)
 have c2:=hide (fun z (h1:Gd.Lists z gC gE gI c E I) (h2:Gd.Lists z jC jE jI d F J)=>snEqualE_any gE jE cE dE E F z h1.ents h2.ents)
 have c3:=hide (fun z (h1:Gd.Lists z gC gE gI c E I) (h2:Gd.Lists z jC jE jI d F J)=>snEqualI_any gI jI cI dI I J z h1.items h2.items)
 obtain ⟨k0,e0⟩:∃k,Sn.sameH s t g h=k:=⟨_,rfl⟩
 obtain ⟨k1,e1⟩:∃k,Sn.allB (fun i=>c i == d i) 384=k:=⟨_,rfl⟩
 obtain ⟨k2,e2⟩:∃k,Sn.allB (fun i=>Sn.sameE (E i) (F i)) 32=k:=⟨_,rfl⟩
 obtain ⟨k3,e3⟩:∃k,Sn.allB (fun i=>Sn.sameI (I i) (J i)) 40=k:=⟨_,rfl⟩
 rw [e0,e1,e2,e3] at hd
 rw [e0] at hcmp
 rw [e1] at c1
 rw [e2] at c2
 rw [e3] at c3
 obtain ⟨A,hA⟩:∃A,Sn.sameW s t g h c d E F I J=A:=⟨_,rfl⟩
 rw [hA] at hd ⊢
 clear hL hL2 hg x1 x2 e0 e1 e2 e3 hA
 unfold Gd.world at hW ⊢
 unfold Sn.hd at hcmp
 go_enter Tryz.func16,Tryz.ntmps16
 go_upto_region 1 with fail
 rw [←hW]
 clear hW hB
 refine wp_region_grown (by kernel_rfl) (by kernel_rfl) ?_
 intro St hN W hI hx
 have p0:∀σ,(W σ).cell? ⟨B,0,none⟩=some (.int .i64 (s 0)):=fun σ=>((uh x1').on (hI σ)).eleven.1
 have q0:∀σ,(W σ).cell? ⟨B+1,0,none⟩=some (.int .i64 (t 0)):=fun σ=>((uh x2').on (hI σ)).eleven.1
 have p1:∀σ,(W σ).cell? ⟨B,1,none⟩=some (.int .i64 (s 1)):=fun σ=>((uh x1').on (hI σ)).eleven.2.1
 have q1:∀σ,(W σ).cell? ⟨B+1,1,none⟩=some (.int .i64 (t 1)):=fun σ=>((uh x2').on (hI σ)).eleven.2.1
 have p2:∀σ,(W σ).cell? ⟨B,2,none⟩=some (.int .i64 (s 2)):=fun σ=>((uh x1').on (hI σ)).eleven.2.2.1
 have q2:∀σ,(W σ).cell? ⟨B+1,2,none⟩=some (.int .i64 (t 2)):=fun σ=>((uh x2').on (hI σ)).eleven.2.2.1
 have p3:∀σ,(W σ).cell? ⟨B,3,none⟩=some (.int .i64 (s 3)):=fun σ=>((uh x1').on (hI σ)).eleven.2.2.2.1
 have q3:∀σ,(W σ).cell? ⟨B+1,3,none⟩=some (.int .i64 (t 3)):=fun σ=>((uh x2').on (hI σ)).eleven.2.2.2.1
 have p4:∀σ,(W σ).cell? ⟨B,4,none⟩=some (.slice (some ⟨gC,0,none⟩) 384 cC):=fun σ=>((uh x1').on (hI σ)).eleven.2.2.2.2.1
 have q4:∀σ,(W σ).cell? ⟨B+1,4,none⟩=some (.slice (some ⟨jC,0,none⟩) 384 dC):=fun σ=>((uh x2').on (hI σ)).eleven.2.2.2.2.1
 have p5:∀σ,(W σ).cell? ⟨B,5,none⟩=some (.slice (some ⟨gE,0,none⟩) 32 cE):=fun σ=>((uh x1').on (hI σ)).eleven.2.2.2.2.2.1
 have q5:∀σ,(W σ).cell? ⟨B+1,5,none⟩=some (.slice (some ⟨jE,0,none⟩) 32 dE):=fun σ=>((uh x2').on (hI σ)).eleven.2.2.2.2.2.1
 have p6:∀σ,(W σ).cell? ⟨B,6,none⟩=some (.slice (some ⟨gI,0,none⟩) 40 cI):=fun σ=>((uh x1').on (hI σ)).eleven.2.2.2.2.2.2.1
 have q6:∀σ,(W σ).cell? ⟨B+1,6,none⟩=some (.slice (some ⟨jI,0,none⟩) 40 dI):=fun σ=>((uh x2').on (hI σ)).eleven.2.2.2.2.2.2.1
 have p7:∀σ,(W σ).cell? ⟨B,7,none⟩=some (.int .i64 (g 0)):=fun σ=>((uh x1').on (hI σ)).eleven.2.2.2.2.2.2.2.1
 have q7:∀σ,(W σ).cell? ⟨B+1,7,none⟩=some (.int .i64 (h 0)):=fun σ=>((uh x2').on (hI σ)).eleven.2.2.2.2.2.2.2.1
 have p8:∀σ,(W σ).cell? ⟨B,8,none⟩=some (.int .i64 (g 1)):=fun σ=>((uh x1').on (hI σ)).eleven.2.2.2.2.2.2.2.2.1
 have q8:∀σ,(W σ).cell? ⟨B+1,8,none⟩=some (.int .i64 (h 1)):=fun σ=>((uh x2').on (hI σ)).eleven.2.2.2.2.2.2.2.2.1
 have p9:∀σ,(W σ).cell? ⟨B,9,none⟩=some (.int .i64 (g 2)):=fun σ=>((uh x1').on (hI σ)).eleven.2.2.2.2.2.2.2.2.2.1
 have q9:∀σ,(W σ).cell? ⟨B+1,9,none⟩=some (.int .i64 (h 2)):=fun σ=>((uh x2').on (hI σ)).eleven.2.2.2.2.2.2.2.2.2.1
 have p10:∀σ,(W σ).cell? ⟨B,10,none⟩=some (.int .i64 (g 3)):=fun σ=>((uh x1').on (hI σ)).eleven.2.2.2.2.2.2.2.2.2.2
 have q10:∀σ,(W σ).cell? ⟨B+1,10,none⟩=some (.int .i64 (h 3)):=fun σ=>((uh x2').on (hI σ)).eleven.2.2.2.2.2.2.2.2.2.2
 have f0:∀(s g:Nat→Int) (nC nE nI cC cE cI:Nat) (aC aE aI:Option Addr) σ,Calls Tryz.prog 36 #[.agg #[.int .i64 (s 0),.int .i64 (s 1),.int .i64 (s 2),.int .i64 (s 3),.slice aC nC cC,.slice aE nE cE,.slice aI nI cI,.int .i64 (g 0),.int .i64 (g 1),.int .i64 (g 2),.int .i64 (g 3)]] (W σ) fun e w''=>e=.returned (.agg #[.int .i64 (s 0),.int .i64 (s 1),.int .i64 (s 2),.int .i64 (s 3),.int .i64 (g 0),.int .i64 (g 1),.int .i64 (g 2),.int .i64 (g 3)])∧∃σ',w''=W σ':=fun s g nC nE nI cC cE cI aC aE aI σ=>calls_class hI hx (headOf_any s g nC nE nI cC cE cI aC aE aI _)
 have f1:∀σ,Calls Tryz.prog 37 #[.slice (some ⟨gC,0,none⟩) 384 cC,.slice (some ⟨jC,0,none⟩) 384 dC] (W σ) fun e w''=>e=.returned (.bool k1)∧∃σ',w''=W σ':=fun σ=>calls_class hI hx (uh c1 _ ((uh hL').on (hI σ)) ((uh hL2').on (hI σ)))
 have f2:∀σ,Calls Tryz.prog 38 #[.slice (some ⟨gE,0,none⟩) 32 cE,.slice (some ⟨jE,0,none⟩) 32 dE] (W σ) fun e w''=>e=.returned (.bool k2)∧∃σ',w''=W σ':=fun σ=>calls_class hI hx (uh c2 _ ((uh hL').on (hI σ)) ((uh hL2').on (hI σ)))
 have f3:∀σ,Calls Tryz.prog 39 #[.slice (some ⟨gI,0,none⟩) 40 cI,.slice (some ⟨jI,0,none⟩) 40 dI] (W σ) fun e w''=>e=.returned (.bool k3)∧∃σ',w''=W σ':=fun σ=>calls_class hI hx (uh c3 _ ((uh hL').on (hI σ)) ((uh hL2').on (hI σ)))
 have hI2:=hide hI
 clear hx hI c1 c2 c3 x1' x2' hL' hL2'
 cases k0 with
 | false =>
  have hf:Hid (false=A):=(uh hd).symm
  repeat (go_big_quiet_step (first | (go_at_call 36;exact f0 _ _ _ _ _ _ _ _ _ _ _ _) | (go_at_call 37;exact f1 _) | (go_at_call 38;exact f2 _) | (go_at_call 39;exact f3 _)))
  refine wpQuiet_nil ?_
  rintro _ ⟨σ,rfl⟩
  obtain ⟨wq,hwq⟩:∃wq,W σ=wq:=⟨_,rfl⟩
  have hgq:=hide (gtr (uh hg') (uh hI2 σ))
  rw [hwq] at hgq ⊢
  clear p0 p1 p2 p3 p4 p5 p6 p7 p8 p9 p10 q0 q1 q2 q3 q4 q5 q6 q7 q8 q9 q10 f0 f1 f2 f3 hcmp hI2 hwq
  clear σ W hN St
  go_wp2
  go_ret
  exact ⟨ret_bool (uh hf),uh hgq⟩
 | true =>
 cases k1 with
 | false =>
  have hf:Hid (false=A):=(uh hd).symm
  repeat (go_big_quiet_step (first | (go_at_call 36;exact f0 _ _ _ _ _ _ _ _ _ _ _ _) | (go_at_call 37;exact f1 _) | (go_at_call 38;exact f2 _) | (go_at_call 39;exact f3 _)))
  refine wpQuiet_nil ?_
  rintro _ ⟨σ,rfl⟩
  obtain ⟨wq,hwq⟩:∃wq,W σ=wq:=⟨_,rfl⟩
  have hgq:=hide (gtr (uh hg') (uh hI2 σ))
  rw [hwq] at hgq ⊢
  clear p0 p1 p2 p3 p4 p5 p6 p7 p8 p9 p10 q0 q1 q2 q3 q4 q5 q6 q7 q8 q9 q10 f0 f1 f2 f3 hcmp hI2 hwq
  clear σ W hN St
  go_wp2
  go_ret
  exact ⟨ret_bool (uh hf),uh hgq⟩
 | true =>
 cases k2 with
 | false =>
  have hf:Hid (false=A):=(uh hd).symm
  repeat (go_big_quiet_step (first | (go_at_call 36;exact f0 _ _ _ _ _ _ _ _ _ _ _ _) | (go_at_call 37;exact f1 _) | (go_at_call 38;exact f2 _) | (go_at_call 39;exact f3 _)))
  refine wpQuiet_nil ?_
  rintro _ ⟨σ,rfl⟩
  obtain ⟨wq,hwq⟩:∃wq,W σ=wq:=⟨_,rfl⟩
  have hgq:=hide (gtr (uh hg') (uh hI2 σ))
  rw [hwq] at hgq ⊢
  clear p0 p1 p2 p3 p4 p5 p6 p7 p8 p9 p10 q0 q1 q2 q3 q4 q5 q6 q7 q8 q9 q10 f0 f1 f2 f3 hcmp hI2 hwq
  clear σ W hN St
  go_wp2
  go_ret
  exact ⟨ret_bool (uh hf),uh hgq⟩
 | true =>
 cases k3 with
 | false =>
  have hf:Hid (false=A):=(uh hd).symm
  repeat (go_big_quiet_step (first | (go_at_call 36;exact f0 _ _ _ _ _ _ _ _ _ _ _ _) | (go_at_call 37;exact f1 _) | (go_at_call 38;exact f2 _) | (go_at_call 39;exact f3 _)))
  refine wpQuiet_nil ?_
  rintro _ ⟨σ,rfl⟩
  obtain ⟨wq,hwq⟩:∃wq,W σ=wq:=⟨_,rfl⟩
  have hgq:=hide (gtr (uh hg') (uh hI2 σ))
  rw [hwq] at hgq ⊢
  clear p0 p1 p2 p3 p4 p5 p6 p7 p8 p9 p10 q0 q1 q2 q3 q4 q5 q6 q7 q8 q9 q10 f0 f1 f2 f3 hcmp hI2 hwq
  clear σ W hN St
  go_wp2
  go_ret
  exact ⟨ret_bool (uh hf),uh hgq⟩
 | true =>
  have hf:Hid (true=A):=(uh hd).symm
  repeat (go_big_quiet_step (first | (go_at_call 36;exact f0 _ _ _ _ _ _ _ _ _ _ _ _) | (go_at_call 37;exact f1 _) | (go_at_call 38;exact f2 _) | (go_at_call 39;exact f3 _)))
  refine wpQuiet_nil ?_
  rintro _ ⟨σ,rfl⟩
  obtain ⟨wq,hwq⟩:∃wq,W σ=wq:=⟨_,rfl⟩
  have hgq:=hide (gtr (uh hg') (uh hI2 σ))
  rw [hwq] at hgq ⊢
  clear p0 p1 p2 p3 p4 p5 p6 p7 p8 p9 p10 q0 q1 q2 q3 q4 q5 q6 q7 q8 q9 q10 f0 f1 f2 f3 hcmp hI2 hwq
  clear σ W hN St
  go_wp2
  go_ret
  exact ⟨ret_bool (uh hf),uh hgq⟩


open Go.RowKit

set_option maxRecDepth 16000 in
set_option maxHeartbeats 12800000 in
theorem same7_two (s t g h c d:Nat→Int) (E F I J:Nat→Nat→Int) (gC gE gI cC cE cI jC jE jI dC dE dI:Nat) (w:World) (hL:Gd.Lists w gC gE gI c E I) (hL2:Gd.Lists w jC jE jI d F J) (hc:∀i,0≤c i∧c i≤255) (hd:∀i,0≤d i∧d i≤255) :
  Calls Tryz.prog 14 #[.agg (Gd.world s gC gE gI cC cE cI g),.agg (Gd.world t jC jE jI dC dE dI h)] w (Says w (.bool (Sn.sameW s t g h c d E F I J))):=by
 obtain ⟨W0,hW⟩:∃W,W=(w.alloc (.cells (Gd.world s gC gE gI cC cE cI g) 31)).alloc (.cells (Gd.world t jC jE jI dC dE dI h) 31):=⟨_,rfl⟩
 have hg:w.grownBy W0 none:=by rw [hW];exact gal (World.grownBy_alloc _ _ _) _
 have x1:Lie W0 w.heap.size 31 11 (Gd.box s gC gE gI cC cE cI g):=by
  rw [hW]
  exact ((Arr.world (heap_alloc_new w _)).alloc _).lie
 have x2:Lie W0 (w.heap.size+1) 31 11 (Gd.box t jC jE jI dC dE dI h):=by
  rw [hW]
  have hh:=heap_alloc_new (w.alloc (.cells (Gd.world s gC gE gI cC cE cI g) 31)) (.cells (Gd.world t jC jE jI dC dE dI h) 31)
  rw [show (w.alloc (.cells (Gd.world s gC gE gI cC cE cI g) 31)).heap.size=w.heap.size+1 by simp] at hh
  exact (Arr.world hh).lie
 obtain ⟨B,hB⟩:∃B,w.heap.size=B:=⟨_,rfl⟩
 rw [hB] at x1 x2
 have x1':=hide x1
 have x2':=hide x2
 have hL':=hide (hL.on hg)
 have hL2':=hide (hL2.on hg)
 have hg':=hide hg
 have t1:=(uh hL').cells.text (cap:=cC)
 have t2:=(uh hL2').cells.text (cap:=dC)
 obtain ⟨X,hX⟩:∃T,Gd.text c=T:=⟨_,rfl⟩
 obtain ⟨Y,hY⟩:∃T,Gd.text d=T:=⟨_,rfl⟩
 obtain ⟨k1,e1⟩:∃k,Sn.allB (fun i=>c i == d i) 384=k:=⟨_,rfl⟩
 have hXY:(X.toList == Y.toList)=k1:=by rw [←hX,←hY,←e1];exact Sn.text_ne hc hd
 rw [hX] at t1
 rw [hY] at t2
 obtain ⟨a0,a1,a2,a3,a4,a5,a6,a7,a8,a9,a10⟩:=x1.eleven
 obtain ⟨b0,b1,b2,b3,b4,b5,b6,b7,b8,b9,b10⟩:=x2.eleven
 have keep:Hid (∀x,W0.grownBy x none→(x.cell? ⟨B,5,none⟩=some (.slice (some ⟨gE,0,none⟩) 32 cE)∧x.cell? ⟨B,6,none⟩=some (.slice (some ⟨gI,0,none⟩) 40 cI)∧x.cell? ⟨B+1,5,none⟩=some (.slice (some ⟨jE,0,none⟩) 32 dE)∧x.cell? ⟨B+1,6,none⟩=some (.slice (some ⟨jI,0,none⟩) 40 dI))):=fun x h =>
  ⟨((uh x1').on h).eleven.2.2.2.2.2.1,((uh x1').on h).eleven.2.2.2.2.2.2.1,((uh x2').on h).eleven.2.2.2.2.2.1,((uh x2').on h).eleven.2.2.2.2.2.2.1⟩
 have hgold:=fun wx=>run_ne_gold g h wx
 obtain ⟨D,hD⟩:∃D,Says w (.bool (Sn.sameW s t g h c d E F I J))=D:=⟨_,rfl⟩
 have hyes:Hid (∀x,W0.grownBy x none→Sn.sameW s t g h c d E F I J=true→D (.returned (.bool true)) x):=fun x hx e=>by
  rw [←hD,e]
  exact ⟨rfl,gtr (uh hg') hx⟩
 have hno:Hid (∀x,W0.grownBy x none→Sn.sameW s t g h c d E F I J=false→D (.returned (.bool false)) x):=fun x hx e=>by
  rw [←hD,e]
  exact ⟨rfl,gtr (uh hg') hx⟩
 have hW4:Hid (∀j,j<4→s j≠t j→Sn.sameW s t g h c d E F I J=false):=fun j hj hn=>by
  unfold Sn.sameW
  rw [Sn.sameH_no_s hj hn]
  rfl
 have hWg:Hid (Sn.sameG g h=false→Sn.sameW s t g h c d E F I J=false):=fun e=>by
  unfold Sn.sameW Sn.sameH
  rw [e]
  simp
 have hWc:Hid (k1=false→Sn.sameW s t g h c d E F I J=false):=fun e=>by
  unfold Sn.sameW
  rw [e1,e]
  simp
 have hWe:Hid (∀k,k<32→Sn.sameE (E k) (F k)=false→Sn.sameW s t g h c d E F I J=false):=fun k hk e=>by
  unfold Sn.sameW
  rw [Sn.allB_no (q:=fun i=>Sn.sameE (E i) (F i)) (k:=k) e hk]
  simp
 have hWi:Hid (∀k,k<40→Sn.sameI (I k) (J k)=false→Sn.sameW s t g h c d E F I J=false):=fun k hk e=>by
  unfold Sn.sameW
  rw [Sn.allB_no (q:=fun i=>Sn.sameI (I i) (J i)) (k:=k) e hk]
  simp
 have hWy:Hid ((∀j,j<4→s j=t j)→Sn.sameG g h=true→k1=true→(∀k,k<32→Sn.sameE (E k) (F k)=true)→(∀k,k<40→Sn.sameI (I k) (J k)=true)→Sn.sameW s t g h c d E F I J=true):=fun h1 h2 h3 h4 h5=>by
  unfold Sn.sameW
  rw [(Sn.sameH_iff s t g h).2 ⟨h1,(Sn.sameG_iff g h).1 h2⟩,e1,h3,Sn.allB_yes (q:=fun i=>Sn.sameE (E i) (F i)) fun k hk=>h4 k hk,Sn.allB_yes (q:=fun i=>Sn.sameI (I i) (J i)) fun k hk=>h5 k hk]
  rfl
 rw [hD]
 obtain ⟨m,hm⟩:∃m,Sn.sameG g h=m:=⟨_,rfl⟩
 rw [hm] at hgold hWg hWy
 clear hL hL2 hg hX hY x1 x2 e1 hD hm hc hd
 unfold Gd.world at hW ⊢
 go_enter Tryz.func14,Tryz.ntmps14
 go_upto_region 1 with fail
 rw [←hW]
 clear hW hB
 by_cases q0:s 0=t 0
 ·have r0:(s 0 != t 0)=false:=by simp [q0]
  clear q0
  by_cases q1:s 1=t 1
  ·have r1:(s 1 != t 1)=false:=by simp [q1]
   clear q1
   by_cases q2:s 2=t 2
   ·have r2:(s 2 != t 2)=false:=by simp [q2]
    clear q2
    by_cases q3:s 3=t 3
    ·have r3:(s 3 != t 3)=false:=by simp [q3]
     clear q3
     have HS:Hid (∀j,j<4→s j=t j):=fun j hj=>by
      have e0:s 0=t 0:=by simpa using r0
      have e1:s 1=t 1:=by simpa using r1
      have e2:s 2=t 2:=by simpa using r2
      have e3:s 3=t 3:=by simpa using r3
      rcases (show j=0∨j=1∨j=2∨j=3 by omega) with rfl | rfl | rfl | rfl <;> assumption
     cases m with
     | false =>
      have hn:=hide (uh hno W0 (World.grownBy.refl _ _) (uh hWg rfl))
      go_wp2
      exact uh hn
     | true =>
      cases k1 with
      | false =>
       have hn:=hide (uh hno W0 (World.grownBy.refl _ _) (uh hWc rfl))
       have hXY':(X.toList == Y.toList)=false:=hXY
       clear hXY
       go_wp2
       exact uh hn
      | true =>
       have hXY':(X.toList == Y.toList)=true:=hXY
       clear hXY
       have hW5:=hide (uh hWy (uh HS) rfl rfl)
       clear hWy hWg hWc hW4
       go_wp2_with fail
       go_loopw [5] (fun vi wr=>∃k:Nat,k≤32∧vi=.int .i64 (k:Int)∧Hid (∀i,i<k→Sn.sameE (E i) (F i)=true)∧W0.grownBy wr none) (fun vi _=>200 - (intOf vi).toNat)
       case atStart=>exact ⟨0,by omega,rfl,fun i hi=>absurd hi (by omega),World.grownBy.refl _ _⟩
       case round =>
        clear hgold t1 t2 a0 a1 a2 a3 a4 a5 a6 a7 a8 a9 a10 b0 b1 b2 b3 b4 b5 b6 b7 b8 b9 b10 hXY' r0 r1 r2 r3
        obtain ⟨k,hk,rfl,hall,hgr⟩:=hrel
        have hgr':=hide hgr
        obtain ⟨k1,k2,k3,k4⟩:=uh keep wr hgr
        clear hgr
        by_cases hlt:k<32
        ·have hlt':(k:Int)<32:=by omega
         obtain ⟨u0,u1,u2,u3,u4,u5,u6,u7,u8,u9,u10⟩:=((uh hL').on (uh hgr')).own.ents.row hlt
         obtain ⟨s0,s1,s2,s3,s4,s5,s6,s7,s8,s9,s10⟩:=((uh hL2').on (uh hgr')).own.ents.row hlt
         have hdr:Hid (∀m,W0.grownBy (wr.drewN m) none):=fun m=>gdw (uh hgr') m
         have hcmp:∀wx:World,(binOp .neq 61 (.agg #[.int .i64 (E k 0),.int .i64 (E k 1),.int .i64 (E k 2),.int .i64 (E k 3),.int .i64 (E k 4),.int .i64 (E k 5),.int .i64 (E k 6),.int .i64 (E k 7),.int .i64 (E k 8),.int .i64 (E k 9),.int .i64 (E k 10)]) (.agg #[.int .i64 (F k 0),.int .i64 (F k 1),.int .i64 (F k 2),.int .i64 (F k 3),.int .i64 (F k 4),.int .i64 (F k 5),.int .i64 (F k 6),.int .i64 (F k 7),.int .i64 (F k 8),.int .i64 (F k 9),.int .i64 (F k 10)])).run Tryz.prog wx=.ok (.bool (!Sn.sameE (E k) (F k))) wx:=fun wx=>run_ne_ent (E k) (F k) wx
         obtain ⟨p,hp⟩:∃p,Sn.sameE (E k) (F k)=p:=⟨_,rfl⟩
         have HP:=hide hp
         rw [hp] at hcmp
         have HL:=hide hlt
         clear hlt hp
         cases p with
         | true =>
          have hall2:Hid (∀i,i<k+1→Sn.sameE (E i) (F i)=true):=fun i hi=>by
           by_cases e:i=k
           ·rw [e];exact uh HP
           ·exact uh hall i (by omega)
          go_wp2_with fail
          go_quiet (fail)
          go_wp2
          go_roundw
          case rel=>exact ⟨k+1,by have:=uh HL;omega,by go_num,hall2,uh hdr _⟩
          case measure=>simp [intOf];have:=uh HL;omega
         | false =>
          have hn:=hide (fun m=>uh hno _ (uh hdr m) (uh hWe k (uh HL) (uh HP)))
          go_wp2_with fail
          go_quiet (fail)
          go_wp2
          exact uh hn _
        ·have hge:¬(k:Int)<32:=by omega
         have hallE:Hid (∀i,i<32→Sn.sameE (E i) (F i)=true):=fun i hi=>uh hall i (by omega)
         have hW6:=hide (uh hW5 (uh hallE))
         clear hlt
         go_wp2_with fail
         go_loopw [6] (fun vi wr=>∃k:Nat,k≤40∧vi=.int .i64 (k:Int)∧Hid (∀i,i<k→Sn.sameI (I i) (J i)=true)∧W0.grownBy wr none) (fun vi _=>200 - (intOf vi).toNat)
         case atStart=>exact ⟨0,by omega,rfl,fun i hi=>absurd hi (by omega),uh hgr'⟩
         case round =>
          clear k1 k2 k3 k4 hge hgr' hall hallE hk
          obtain ⟨k,hk,rfl,hall,hgr⟩:=hrel
          have hgr':=hide hgr
          obtain ⟨k1,k2,k3,k4⟩:=uh keep wr hgr
          clear hgr
          by_cases hlt:k<40
          ·have hlt':(k:Int)<40:=by omega
           obtain ⟨u0,u1,u2,u3⟩:=((uh hL').on (uh hgr')).its.row hlt
           obtain ⟨s0,s1,s2,s3⟩:=((uh hL2').on (uh hgr')).its.row hlt
           have hdr:Hid (∀m,W0.grownBy (wr.drewN m) none):=fun m=>gdw (uh hgr') m
           have hcmp:∀wx:World,(binOp .neq 63 (.agg #[.int .i64 (I k 0),.int .i64 (I k 1),.int .i64 (I k 2),.int .i64 (I k 3)]) (.agg #[.int .i64 (J k 0),.int .i64 (J k 1),.int .i64 (J k 2),.int .i64 (J k 3)])).run Tryz.prog wx=.ok (.bool (!Sn.sameI (I k) (J k))) wx:=fun wx=>run_ne_item (I k 0) (I k 1) (I k 2) (I k 3) (J k 0) (J k 1) (J k 2) (J k 3) wx
           obtain ⟨p,hp⟩:∃p,Sn.sameI (I k) (J k)=p:=⟨_,rfl⟩
           have HP:=hide hp
           rw [hp] at hcmp
           have HL:=hide hlt
           clear hlt hp
           cases p with
           | true =>
            have hall2:Hid (∀i,i<k+1→Sn.sameI (I i) (J i)=true):=fun i hi=>by
             by_cases e:i=k
             ·rw [e];exact uh HP
             ·exact uh hall i (by omega)
            go_wp2_with fail
            go_quiet (fail)
            go_wp2
            go_roundw
            case rel=>exact ⟨k+1,by have:=uh HL;omega,by go_num,hall2,uh hdr _⟩
            case measure=>simp [intOf];have:=uh HL;omega
           | false =>
            have hn:=hide (fun m=>uh hno _ (uh hdr m) (uh hWi k (uh HL) (uh HP)))
            go_wp2_with fail
            go_quiet (fail)
            go_wp2
            exact uh hn _
          ·have hge:¬(k:Int)<40:=by omega
           have hfin:=hide (uh hyes _ (uh hgr') (uh hW6 fun i hi=>uh hall i (by omega)))
           clear hlt hk
           go_wp2
           exact uh hfin
    ·have r3:(s 3 != t 3)=true:=by simp [q3]
     have hn:=hide (uh hno W0 (World.grownBy.refl _ _) (uh hW4 3 (by omega) q3))
     clear q3
     go_wp2
     exact uh hn
   ·have r2:(s 2 != t 2)=true:=by simp [q2]
    have hn:=hide (uh hno W0 (World.grownBy.refl _ _) (uh hW4 2 (by omega) q2))
    clear q2
    go_wp2
    exact uh hn
  ·have r1:(s 1 != t 1)=true:=by simp [q1]
   have hn:=hide (uh hno W0 (World.grownBy.refl _ _) (uh hW4 1 (by omega) q1))
   clear q1
   go_wp2
   exact uh hn
 ·have r0:(s 0 != t 0)=true:=by simp [q0]
  have hn:=hide (uh hno W0 (World.grownBy.refl _ _) (uh hW4 0 (by omega) q0))
  clear q0
  go_wp2
  exact uh hn


open Go.RowKit

def Ck.bys (l:List Int):List Value:=l.map (Value.int .u8)


open Go.RowKit

def Ck.Src (x:World) (v:Value) (l:List Int):Prop :=
 (v=.slice none 0 0∧l=[])∨∃ad cap,v=.slice (some ad) l.length cap∧∀j u,(Ck.bys l)[j]?=some u→x.cell? (ad.add j)=some u

theorem Ck.Src.on {x y:World} {v:Value} {l:List Int} (h:Ck.Src x v l) (hc:∀a u,x.cell? a=some u→y.cell? a=some u):Ck.Src y v l:=by
 rcases h with h | ⟨ad,cap,h1,h2⟩
 ·exact .inl h
 ·exact .inr ⟨ad,cap,h1,fun j u q=>hc _ _ (h2 j u q)⟩


open Go.RowKit

theorem Ck.Src.text {w:World} {v:Value} {l:List Int} (hs:Ck.Src w v l):(convert 26 9 v).run Tryz.prog w=.ok (.string (strOfNums l)) w:=by
 rcases hs with ⟨rfl,rfl⟩ | ⟨ad,cap,rfl,h2⟩
 ·rw [run_convert_bytes_nil w 26 5 Tryz.underlying26 Tryz.underlying5 0 0 9 Tryz.underlying9]
  rfl
 ·by_cases h0:l=[]
  ·subst h0
   rw [run_convert_bytes_string w 26 9 5 (some ad) _ cap Tryz.underlying26 Tryz.underlying5 Tryz.underlying9]
   simp [Conv.bytesToString,loadCells,loadCellsFrom]
   rfl
  ·have hp:0<l.length:=List.length_pos_iff.2 h0
   have hat:∀j,j<l.length→w.cell? (ad.add j)=some (.int .u8 (l.getD j 0)):=fun j hj=>h2 j _ (by
    unfold Ck.bys
    rw [List.getElem?_map,List.getElem?_eq_getElem hj,List.getD,List.getElem?_eq_getElem hj]
    rfl)
   obtain ⟨b,off,spot⟩:=ad
   have hspot:spot=none:=by simpa [Addr.add] using World.cell?_spot (hat 0 hp)
   subst hspot
   exact run_convert_bytes_arg w 26 5 Tryz.underlying26 Tryz.underlying5 b off l.length cap l rfl (fun j hj=>by have:=hat j hj;rwa [Go.WideShapes.add_plain] at this) 9 Tryz.underlying9

theorem Ck.Src.grown {x y:World} {v:Value} {l:List Int} (h:Ck.Src x v l) (hg:x.grownBy y none):Ck.Src y v l :=
 h.on fun ad u q=>(World.cell?_of_block (hg.block _ (Go.block_lt_of_cell q) (by simp))).trans q

end Go.Proofs.YtepppmepilffcaaGreat
