import Derived.Test.YtapgkgbpekkdjaaPart32
import Derived.Test.YtapgkgbpekkdjaaPart40
namespace Go.Proofs.Ytapgkgbpekkdjaa
open Go.RowKit

def Sn.sameW (s t g h c d:Nat→Int) (E F I J:Nat→Nat→Int):Bool :=
 Sn.sameH s t g h && (Sn.allB (fun i=>c i == d i) 384 && (Sn.allB (fun i=>Sn.sameE (E i) (F i)) 32 && Sn.allB (fun i=>Sn.sameI (I i) (J i)) 40))

set_option maxRecDepth 8000 in
set_option maxHeartbeats 12800000 in
theorem snSame_any (s t g h c d:Nat→Int) (E F I J:Nat→Nat→Int) (gC gE gI cC cE cI jC jE jI dC dE dI:Nat) (w:World) (hL:Gd.Lists w gC gE gI c E I) (hL2:Gd.Lists w jC jE jI d F J) :
  Calls Try.prog 15 #[.agg (Gd.world s gC gE gI cC cE cI g),.agg (Gd.world t jC jE jI dC dE dI h)] w (Says w (.bool (Sn.sameW s t g h c d E F I J))):=by
 obtain ⟨W0,hW⟩:∃W,W=(w.alloc (.cells (Gd.world s gC gE gI cC cE cI g) 29)).alloc (.cells (Gd.world t jC jE jI dC dE dI h) 29):=⟨_,rfl⟩
 have hg:w.grownBy W0 none:=by rw [hW];exact gal (World.grownBy_alloc _ _ _) _
 have x1:Lie W0 w.heap.size 29 11 (Gd.box s gC gE gI cC cE cI g):=by
  rw [hW]
  exact ((Arr.world (heap_alloc_new w _)).alloc _).lie
 have x2:Lie W0 (w.heap.size+1) 29 11 (Gd.box t jC jE jI dC dE dI h):=by
  rw [hW]
  have hh:=heap_alloc_new (w.alloc (.cells (Gd.world s gC gE gI cC cE cI g) 29)) (.cells (Gd.world t jC jE jI dC dE dI h) 29)
  rw [show (w.alloc (.cells (Gd.world s gC gE gI cC cE cI g) 29)).heap.size=w.heap.size+1 by simp] at hh
  exact (Arr.world hh).lie
 obtain ⟨B,hB⟩:∃B,w.heap.size=B:=⟨_,rfl⟩
 rw [hB] at x1 x2
 have x1':=hide x1
 have x2':=hide x2
 have hL':=hide (hL.on hg)
 have hL2':=hide (hL2.on hg)
 have hg':=hide hg
 have hcmp:=fun wx=>run_eq_head s t g h wx
 have hd:Hid (Sn.sameW s t g h c d E F I J=(Sn.sameH s t g h && (Sn.allB (fun i=>c i == d i) 384 && (Sn.allB (fun i=>Sn.sameE (E i) (F i)) 32 && Sn.allB (fun i=>Sn.sameI (I i) (J i)) 40)))):=rfl
 have c1:=hide (fun z (h1:Gd.Lists z gC gE gI c E I) (h2:Gd.Lists z jC jE jI d F J)=>snEqualB_any gC jC cC dC c d z h1.cells h2.cells)
 have c2:=hide (fun z (h1:Gd.Lists z gC gE gI c E I) (h2:Gd.Lists z jC jE jI d F J)=>snEqualE_any gE jE cE dE E F z h1.ents h2.ents)
 have c3:=hide (fun z (h1:Gd.Lists z gC gE gI c E I) (h2:Gd.Lists z jC jE jI d F J)=>snEqualI_any gI jI cI dI I J z h1.items h2.items)
 obtain ⟨k0,e0⟩:∃k,Sn.sameH s t g h=k:=⟨_,rfl⟩
 obtain ⟨k1,e1⟩:∃k,Sn.allB (fun i=>c i == d i) 384=k:=⟨_,rfl⟩
 obtain ⟨k2,e2⟩:∃k,Sn.allB (fun i=>Sn.sameE (E i) (F i)) 32=k:=⟨_,rfl⟩
 obtain ⟨k3,e3⟩:∃k,Sn.allB (fun i=>Sn.sameI (I i) (J i)) 40=k:=⟨_,rfl⟩
 rw [e0,e1,e2,e3] at hd
 rw [e0] at hcmp
 rw [e1] at c1
 rw [e2] at c2
 rw [e3] at c3
 obtain ⟨A,hA⟩:∃A,Sn.sameW s t g h c d E F I J=A:=⟨_,rfl⟩
 rw [hA] at hd ⊢
 clear hL hL2 hg x1 x2 e0 e1 e2 e3 hA
 unfold Gd.world at hW ⊢
 unfold Sn.hd at hcmp
 go_enter Try.func15,Try.ntmps15
 go_upto_region 1 with fail
 rw [←hW]
 clear hW hB
 refine wp_region_grown (by kernel_rfl) (by kernel_rfl) ?_
 intro St hN W hI hx
 have p0:∀σ,(W σ).cell? ⟨B,0,none⟩=some (.int .i64 (s 0)):=fun σ=>((uh x1').on (hI σ)).eleven.1
 have q0:∀σ,(W σ).cell? ⟨B+1,0,none⟩=some (.int .i64 (t 0)):=fun σ=>((uh x2').on (hI σ)).eleven.1
 have p1:∀σ,(W σ).cell? ⟨B,1,none⟩=some (.int .i64 (s 1)):=fun σ=>((uh x1').on (hI σ)).eleven.2.1
 have q1:∀σ,(W σ).cell? ⟨B+1,1,none⟩=some (.int .i64 (t 1)):=fun σ=>((uh x2').on (hI σ)).eleven.2.1
 have p2:∀σ,(W σ).cell? ⟨B,2,none⟩=some (.int .i64 (s 2)):=fun σ=>((uh x1').on (hI σ)).eleven.2.2.1
 have q2:∀σ,(W σ).cell? ⟨B+1,2,none⟩=some (.int .i64 (t 2)):=fun σ=>((uh x2').on (hI σ)).eleven.2.2.1
 have p3:∀σ,(W σ).cell? ⟨B,3,none⟩=some (.int .i64 (s 3)):=fun σ=>((uh x1').on (hI σ)).eleven.2.2.2.1
 have q3:∀σ,(W σ).cell? ⟨B+1,3,none⟩=some (.int .i64 (t 3)):=fun σ=>((uh x2').on (hI σ)).eleven.2.2.2.1
 have p4:∀σ,(W σ).cell? ⟨B,4,none⟩=some (.slice (some ⟨gC,0,none⟩) 384 cC):=fun σ=>((uh x1').on (hI σ)).eleven.2.2.2.2.1
 have q4:∀σ,(W σ).cell? ⟨B+1,4,none⟩=some (.slice (some ⟨jC,0,none⟩) 384 dC):=fun σ=>((uh x2').on (hI σ)).eleven.2.2.2.2.1
 have p5:∀σ,(W σ).cell? ⟨B,5,none⟩=some (.slice (some ⟨gE,0,none⟩) 32 cE):=fun σ=>((uh x1').on (hI σ)).eleven.2.2.2.2.2.1
 have q5:∀σ,(W σ).cell? ⟨B+1,5,none⟩=some (.slice (some ⟨jE,0,none⟩) 32 dE):=fun σ=>((uh x2').on (hI σ)).eleven.2.2.2.2.2.1
 have p6:∀σ,(W σ).cell? ⟨B,6,none⟩=some (.slice (some ⟨gI,0,none⟩) 40 cI):=fun σ=>((uh x1').on (hI σ)).eleven.2.2.2.2.2.2.1
 have q6:∀σ,(W σ).cell? ⟨B+1,6,none⟩=some (.slice (some ⟨jI,0,none⟩) 40 dI):=fun σ=>((uh x2').on (hI σ)).eleven.2.2.2.2.2.2.1
 have p7:∀σ,(W σ).cell? ⟨B,7,none⟩=some (.int .i64 (g 0)):=fun σ=>((uh x1').on (hI σ)).eleven.2.2.2.2.2.2.2.1
 have q7:∀σ,(W σ).cell? ⟨B+1,7,none⟩=some (.int .i64 (h 0)):=fun σ=>((uh x2').on (hI σ)).eleven.2.2.2.2.2.2.2.1
 have p8:∀σ,(W σ).cell? ⟨B,8,none⟩=some (.int .i64 (g 1)):=fun σ=>((uh x1').on (hI σ)).eleven.2.2.2.2.2.2.2.2.1
 have q8:∀σ,(W σ).cell? ⟨B+1,8,none⟩=some (.int .i64 (h 1)):=fun σ=>((uh x2').on (hI σ)).eleven.2.2.2.2.2.2.2.2.1
 have p9:∀σ,(W σ).cell? ⟨B,9,none⟩=some (.int .i64 (g 2)):=fun σ=>((uh x1').on (hI σ)).eleven.2.2.2.2.2.2.2.2.2.1
 have q9:∀σ,(W σ).cell? ⟨B+1,9,none⟩=some (.int .i64 (h 2)):=fun σ=>((uh x2').on (hI σ)).eleven.2.2.2.2.2.2.2.2.2.1
 have p10:∀σ,(W σ).cell? ⟨B,10,none⟩=some (.int .i64 (g 3)):=fun σ=>((uh x1').on (hI σ)).eleven.2.2.2.2.2.2.2.2.2.2
 have q10:∀σ,(W σ).cell? ⟨B+1,10,none⟩=some (.int .i64 (h 3)):=fun σ=>((uh x2').on (hI σ)).eleven.2.2.2.2.2.2.2.2.2.2
 have f0:∀(s g:Nat→Int) (nC nE nI cC cE cI:Nat) (aC aE aI:Option Addr) σ,Calls Try.prog 39 #[.agg #[.int .i64 (s 0),.int .i64 (s 1),.int .i64 (s 2),.int .i64 (s 3),.slice aC nC cC,.slice aE nE cE,.slice aI nI cI,.int .i64 (g 0),.int .i64 (g 1),.int .i64 (g 2),.int .i64 (g 3)]] (W σ) fun e w''=>e=.returned (.agg #[.int .i64 (s 0),.int .i64 (s 1),.int .i64 (s 2),.int .i64 (s 3),.int .i64 (g 0),.int .i64 (g 1),.int .i64 (g 2),.int .i64 (g 3)])∧∃σ',w''=W σ':=fun s g nC nE nI cC cE cI aC aE aI σ=>calls_class hI hx (headOf_any s g nC nE nI cC cE cI aC aE aI _)
 have f1:∀σ,Calls Try.prog 40 #[.slice (some ⟨gC,0,none⟩) 384 cC,.slice (some ⟨jC,0,none⟩) 384 dC] (W σ) fun e w''=>e=.returned (.bool k1)∧∃σ',w''=W σ':=fun σ=>calls_class hI hx (uh c1 _ ((uh hL').on (hI σ)) ((uh hL2').on (hI σ)))
 have f2:∀σ,Calls Try.prog 41 #[.slice (some ⟨gE,0,none⟩) 32 cE,.slice (some ⟨jE,0,none⟩) 32 dE] (W σ) fun e w''=>e=.returned (.bool k2)∧∃σ',w''=W σ':=fun σ=>calls_class hI hx (uh c2 _ ((uh hL').on (hI σ)) ((uh hL2').on (hI σ)))
 have f3:∀σ,Calls Try.prog 42 #[.slice (some ⟨gI,0,none⟩) 40 cI,.slice (some ⟨jI,0,none⟩) 40 dI] (W σ) fun e w''=>e=.returned (.bool k3)∧∃σ',w''=W σ':=fun σ=>calls_class hI hx (uh c3 _ ((uh hL').on (hI σ)) ((uh hL2').on (hI σ)))
 have hI2:=hide hI
 clear hx hI c1 c2 c3 x1' x2' hL' hL2'
 cases k0 with
 | false =>
  have hf:Hid (false=A):=(uh hd).symm
  repeat (go_big_quiet_step (first | (go_at_call 39;exact f0 _ _ _ _ _ _ _ _ _ _ _ _) | (go_at_call 40;exact f1 _) | (go_at_call 41;exact f2 _) | (go_at_call 42;exact f3 _)))
  refine wpQuiet_nil ?_
  rintro _ ⟨σ,rfl⟩
  obtain ⟨wq,hwq⟩:∃wq,W σ=wq:=⟨_,rfl⟩
  have hgq:=hide (gtr (uh hg') (uh hI2 σ))
  rw [hwq] at hgq ⊢
  clear p0 p1 p2 p3 p4 p5 p6 p7 p8 p9 p10 q0 q1 q2 q3 q4 q5 q6 q7 q8 q9 q10 f0 f1 f2 f3 hcmp hI2 hwq
  clear σ W hN St
  go_wp2
  go_ret
  exact ⟨ret_bool (uh hf),uh hgq⟩
 | true =>
 cases k1 with
 | false =>
  have hf:Hid (false=A):=(uh hd).symm
  repeat (go_big_quiet_step (first | (go_at_call 39;exact f0 _ _ _ _ _ _ _ _ _ _ _ _) | (go_at_call 40;exact f1 _) | (go_at_call 41;exact f2 _) | (go_at_call 42;exact f3 _)))
  refine wpQuiet_nil ?_
  rintro _ ⟨σ,rfl⟩
  obtain ⟨wq,hwq⟩:∃wq,W σ=wq:=⟨_,rfl⟩
  have hgq:=hide (gtr (uh hg') (uh hI2 σ))
  rw [hwq] at hgq ⊢
  clear p0 p1 p2 p3 p4 p5 p6 p7 p8 p9 p10 q0 q1 q2 q3 q4 q5 q6 q7 q8 q9 q10 f0 f1 f2 f3 hcmp hI2 hwq
  clear σ W hN St
  go_wp2
  go_ret
  exact ⟨ret_bool (uh hf),uh hgq⟩
 | true =>
 cases k2 with
 | false =>
  have hf:Hid (false=A):=(uh hd).symm
  repeat (go_big_quiet_step (first | (go_at_call 39;exact f0 _ _ _ _ _ _ _ _ _ _ _ _) | (go_at_call 40;exact f1 _) | (go_at_call 41;exact f2 _) | (go_at_call 42;exact f3 _)))
  refine wpQuiet_nil ?_
  rintro _ ⟨σ,rfl⟩
  obtain ⟨wq,hwq⟩:∃wq,W σ=wq:=⟨_,rfl⟩
  have hgq:=hide (gtr (uh hg') (uh hI2 σ))
  rw [hwq] at hgq ⊢
  clear p0 p1 p2 p3 p4 p5 p6 p7 p8 p9 p10 q0 q1 q2 q3 q4 q5 q6 q7 q8 q9 q10 f0 f1 f2 f3 hcmp hI2 hwq
  clear σ W hN St
  go_wp2
  go_ret
  exact ⟨ret_bool (uh hf),uh hgq⟩
 | true =>
 cases k3 with
 | false =>
  have hf:Hid (false=A):=(uh hd).symm
  repeat (go_big_quiet_step (first | (go_at_call 39;exact f0 _ _ _ _ _ _ _ _ _ _ _ _) | (go_at_call 40;exact f1 _) | (go_at_call 41;exact f2 _) | (go_at_call 42;exact f3 _)))
  refine wpQuiet_nil ?_
  rintro _ ⟨σ,rfl⟩
  obtain ⟨wq,hwq⟩:∃wq,W σ=wq:=⟨_,rfl⟩
  have hgq:=hide (gtr (uh hg') (uh hI2 σ))
  rw [hwq] at hgq ⊢
  clear p0 p1 p2 p3 p4 p5 p6 p7 p8 p9 p10 q0 q1 q2 q3 q4 q5 q6 q7 q8 q9 q10 f0 f1 f2 f3 hcmp hI2 hwq
  clear σ W hN St
  go_wp2
  go_ret
  exact ⟨ret_bool (uh hf),uh hgq⟩
 | true =>
  have hf:Hid (true=A):=(uh hd).symm
  repeat (go_big_quiet_step (first | (go_at_call 39;exact f0 _ _ _ _ _ _ _ _ _ _ _ _) | (go_at_call 40;exact f1 _) | (go_at_call 41;exact f2 _) | (go_at_call 42;exact f3 _)))
  refine wpQuiet_nil ?_
  rintro _ ⟨σ,rfl⟩
  obtain ⟨wq,hwq⟩:∃wq,W σ=wq:=⟨_,rfl⟩
  have hgq:=hide (gtr (uh hg') (uh hI2 σ))
  rw [hwq] at hgq ⊢
  clear p0 p1 p2 p3 p4 p5 p6 p7 p8 p9 p10 q0 q1 q2 q3 q4 q5 q6 q7 q8 q9 q10 f0 f1 f2 f3 hcmp hI2 hwq
  clear σ W hN St
  go_wp2
  go_ret
  exact ⟨ret_bool (uh hf),uh hgq⟩


open Go.RowKit

theorem Gn.digAt_keeps {st:(Nat→Int) × Bool} {i:Nat} (h:st.1 i≠0) (k:Nat):(Gn.digAt st k).1 i=st.1 i:=by
 unfold Gn.digAt
 split
 ·rename_i h0
  show Gr.upd st.1 k _ i=st.1 i
  unfold Gr.upd
  rw [if_neg (fun e=>h (by rw [e];exact h0))]
 ·rfl

theorem Gn.digRun_keeps {tx ty:Int} {first:Bool} {i:Nat}:∀(n:Nat) (st:(Nat→Int) × Bool) (x y:Int),st.1 i≠0→(Gn.digRun tx ty first n st x y).1 i=st.1 i
 | 0,st,x,y,h=>Gn.digAt_keeps h _
 | n+1,st,x,y,h=>by
  show (Gn.digRun tx ty first n (Gn.digAt st (y*24+x).toNat) _ _).1 i=_
  have e:=Gn.digAt_keeps h (y*24+x).toNat
  rw [Gn.digRun_keeps n _ _ _ (by rw [e];exact h),e]

theorem Gn.dug_keeps {d:Gn.Dice} {i:Nat} (h:Gn.roomed d 6 i=1):∀n,Gn.dug d n i=1
 | 0=>h
 | n+1=>by
  have ih:=Gn.dug_keeps h n
  show (Gn.digRun _ _ _ _ (Gn.dug d n,false) _ _).1 i=1
  rw [Gn.digRun_keeps _ _ _ _ (by show Gn.dug d n i≠0;rw [ih];decide)]
  exact ih

theorem Gn.roomed_more {d:Gn.Dice} {i m:Nat} (h:Gn.roomed d m i=1):∀n,Gn.roomed d (m+n) i=1
 | 0=>h
 | n+1=>by
  show Gn.paint (Gn.roomed d (m+n)) _ _ _ _ i=1
  unfold Gn.paint Gn.paintTo
  split
  ·rfl
  ·exact Gn.roomed_more h n

theorem Gn.in_room {d:Gn.Dice} {i:Nat} (h:Gn.rx d 0≤((i % 24:Nat):Int)∧((i % 24:Nat):Int)<Gn.rx d 0+Gn.rw d 0∧Gn.ry d 0≤((i / 24:Nat):Int)∧((i / 24:Nat):Int)<Gn.ry d 0+Gn.rh d 0):Gn.dug d 5 i=1:=by
 refine Gn.dug_keeps (Gn.roomed_more (m:=1) (n:=5) ?_) 5
 show Gn.paint (Gn.roomed d 0) _ _ _ _ i=1
 unfold Gn.paint Gn.paintTo
 rw [if_pos ⟨h,.inl h.2.2.2⟩]

theorem Cr.Lev.one_cell {seed f:Int} {c:Nat→Int} {es:List (Int × Nat)} {is:List Gn.Itm} (h:Cr.Lev seed f c es is):∃i,i<384∧c i=1:=by
 obtain ⟨d,F,_,hF,hL,_⟩:=h
 obtain ⟨far,hf⟩:=hL.facts hF
 obtain ⟨⟨w1,w2⟩,⟨h1,h2⟩,⟨x1,x2⟩,y1,y2⟩:=Gn.room_bd hF 0
 obtain ⟨x,hx⟩:∃x:Nat,Gn.rx d 0=(x:Int):=⟨(Gn.rx d 0).toNat,by omega⟩
 obtain ⟨y,hy⟩:∃y:Nat,Gn.ry d 0=(y:Int):=⟨(Gn.ry d 0).toNat,by omega⟩
 have key:∀i,i<384→Gn.dug d 5 i=1→c i=1∨i=Gn.up d∨i=far∨c i=5:=fun i _ hi=>by
  have a:=hf.five i
  have b:=(hf.nz i).2 (by rw [hi];decide)
  by_cases e2:c i=2
  ·have:=hf.door i e2
   omega
  by_cases e3:c i=3
  ·exact .inr (.inl ((hf.is3 i).1 e3))
  by_cases e4:c i=4
  ·exact .inr (.inr (.inl ((hf.is4 i).1 e4)))
  omega
 have five:∃k,∀i,c i=5→i=k:=by
  rcases hf.five1 with q | ⟨k,_,q⟩
  ·exact ⟨0,fun i e=>absurd e (q i)⟩
  ·exact ⟨k,fun i e=>(q i).1 e⟩
 obtain ⟨k,hk⟩:=five
 have p1:=key (y*24+x) (by omega) (Gn.in_room (by omega))
 have p2:=key (y*24+x+1) (by omega) (Gn.in_room (by omega))
 have p3:=key (y*24+x+2) (by omega) (Gn.in_room (by omega))
 have p4:=key (y*24+x+24) (by omega) (Gn.in_room (by omega))
 by_cases g1:c (y*24+x)=1
 ·exact ⟨_,by omega,g1⟩
 by_cases g2:c (y*24+x+1)=1
 ·exact ⟨_,by omega,g2⟩
 by_cases g3:c (y*24+x+2)=1
 ·exact ⟨_,by omega,g3⟩
 by_cases g4:c (y*24+x+24)=1
 ·exact ⟨_,by omega,g4⟩
 have q1:=hk (y*24+x)
 have q2:=hk (y*24+x+1)
 have q3:=hk (y*24+x+2)
 have q4:=hk (y*24+x+24)
 omega

theorem Sn.lay_beyond {I M:Nat→Nat→Int} {a:Nat}:∀m,(∀k,a≤k→k<a+m→Gd.goneQ I k=true)→a+m≤40→∀k,a+m≤k→Gd.lay I M m k=I k
 | 0,_,_,_,_=>rfl
 | m+1,hg,h40,k,hk=>by
  have ih:=Sn.lay_beyond (M:=M) m (fun k h1 h2=>hg k h1 (by omega)) (by omega)
  have hgm:Gd.goneQ (Gd.lay I M m) (a+m)=true:=by
   have:=hg (a+m) (by omega) (by omega)
   unfold Gd.goneQ at this ⊢
   rw [ih (a+m) (Nat.le_refl _)]
   exact this
  rcases En.first_cases (Gd.goneQ (Gd.lay I M m)) 40 with ⟨_,hno⟩ | ⟨r,hr,_,hq,hno⟩
  ·rw [Gd.lay_none hno];exact ih k (by omega)
  ·have hrm:r≤a+m:=Nat.le_of_not_lt fun hlt=>by
    rw [hno (a+m) hlt] at hgm
    cases hgm
   rw [Gd.lay_some hno hq hr,En.put_other (by omega)]
   exact ih k (by omega)

theorem Cr.IsNew.rest {seed:Int} {T:Cr.W} (h:Cr.IsNew seed T):∀k,10≤k→T.I k=fun _=>0:=by
 obtain ⟨c,es,is,⟨d,F,_,hF,hL,_,rfl⟩,rfl⟩:=h
 intro k hk
 obtain ⟨h1,h2⟩:=Gn.items_len d c
 have h3:(Gn.items d c).length≤7:=by
  rw [h1]
  split <;> omega
 exact Sn.lay_beyond (I:=fun _ _=>0) (a:=0) _ (fun _ _ _=>rfl) (by omega) k (by omega)

theorem Cr.IsNew.one_cell {seed:Int} {T:Cr.W} (h:Cr.IsNew seed T):∃i,i<384∧T.c i=1:=by
 obtain ⟨c,es,is,hl,rfl⟩:=h
 exact hl.one_cell

theorem Cr.IsNew.plain {seed:Int} {T:Cr.W} (h:Cr.IsNew seed T):T.s=Cr.first seed∧T.g=fun _=>0:=by
 obtain ⟨c,es,is,_,rfl⟩:=h
 exact ⟨rfl,rfl⟩

end Go.Proofs.Ytapgkgbpekkdjaa
