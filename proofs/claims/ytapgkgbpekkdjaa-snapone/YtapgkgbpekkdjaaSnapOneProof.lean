/-
  One thing that changed in a new world is one row: for every seed, kind and number, at this commit; no condition.
-/
import Derived.ProofKit
import Derived.Test.YtapgkgbpekkdjaaPart46
import Derived.Test.YtapgkgbpekkdjaaPart54
import Derived.ChangeOld
import Derived.ShutString
namespace Go.Proofs.Ytapgkgbpekkdjaa.snapOne
open Go.ChangeShapes Go.WideShapes Go.ChangeAt Go.RowKit
open Go.ChangeMaps (open_string shut_string)
set_option linter.unusedVariables false

theorem own:ownKnob Try.prog.godebug=none:=by kernel_rfl

theorem gives_one {w w':World} {p:Int × Int} {e:Ending} (h:Sn.Gives w [p] e w'):∃R,e=.returned (.slice (some ⟨R,0,none⟩) 1 1)∧w'.cell? ⟨R,0,none⟩=some (.int .i64 p.1)∧w'.cell? ⟨R,1,none⟩=some (.int .i64 p.2)∧R<w'.heap.size∧w.grownBy w' none:=by
 obtain ⟨R,he,_,hl,hg⟩:=h
 exact ⟨R,he,hl.cell (c:=0) (by show 0<1*2;omega),hl.cell (c:=1) (by show 1<1*2;omega),hl.lt,hg⟩

set_option maxRecDepth 100000 in
theorem gen_all:∀n:Fin 256,bits .xor .i64 (n.val:Int) 1≠n.val:=by decide

theorem gen_turns {x:Int} (h0:0≤x) (h1:x≤255):bits .xor .i64 x 1≠x:=by
 have h:=gen_all ⟨x.toNat,by omega⟩
 rwa [show ((⟨x.toNat,by omega⟩:Fin 256).val:Int)=x by show ((x.toNat:Nat):Int)=x;omega] at h

theorem head_ne {s t g h:Nat→Int} (H:(∃j,j<4∧s j≠t j)∨∃j,j<4∧g j≠h j):Sn.sameH s t g h=false:=by
 cases e:Sn.sameH s t g h with
 | false=>rfl
 | true =>
  have q:=(Sn.sameH_iff _ _ _ _).1 e
  rcases H with ⟨j,hj,hn⟩ | ⟨j,hj,hn⟩
  ·exact absurd (q.1 j hj) hn
  ·exact absurd (q.2 j hj) hn

theorem same_self (s g c:Nat→Int) (E I:Nat→Nat→Int):Sn.sameW s s g g c c E E I I=true:=by
 unfold Sn.sameW
 rw [Sn.sameH_self,Sn.cells_self,Sn.allB_yes (q:=fun i=>Sn.sameE (E i) (E i)) fun k _=>Sn.sameE_self (E k),Sn.allB_yes (q:=fun i=>Sn.sameI (I i) (I i)) fun k _=>Sn.sameI_self (I k)]
 rfl

theorem wrap_turns (x:Int):x≠IntKind.i64.wrap (x+1):=by
 simp [IntKind.wrap,IntKind.bits]
 omega

theorem run_eq_row (a b:Int) (w:World):(binOp .eql 42 (.agg #[.int .i64 a,.int .i64 b]) (.agg #[.int .i64 a,.int .i64 b])).run Try.prog w=.ok (.bool true) w:=by
 simp [go_sem]

theorem atw {p:World→Prop} {w w0:World} (e:w=w0) (h:p w0):p w:=e ▸ h

set_option maxRecDepth 16000 in
set_option maxHeartbeats 6400000 in

theorem walk (a0:Int) (a1:Int) (a2:Int) (w0:(Lit.int .i64 a0).wf=true) (w1:(Lit.int .i64 a1).wf=true) (w2:(Lit.int .i64 a2).wf=true) (w:World) :
  Calls Try.prog 4 #[.int .i64 a0,.int .i64 a1,.int .i64 a2] w fun e w'=>e=.returned (.bool true)∧Below w.heap.size w w':=by
 clear w0 w1 w2
 go_enter Try.func4,Try.ntmps4
 go_wp2_with fail
 refine (known11_any _).mono ?_
 rintro e wk ⟨rfl,hgk⟩
 have hgk':=hide hgk
 clear hgk
 go_wp2_with fail
 refine (refNew_any a0 wk).mono ?_
 rintro e w1 ⟨⟨s,g,c,E,I⟩,hN,gC,gE,gI,cC,cE,cI,rfl,hcE,l1,l2,l3,n1,n2,n3,hL,hg1⟩
 have hNw:=hide hN
 obtain ⟨w2,hw2⟩:∃w2,w2=w1.alloc (.cells (Gd.world s gC gE gI cC cE cI g) 29):=⟨_,rfl⟩
 have hA:Hid (Lie w2 w1.heap.size 29 11 (Gd.box s gC gE gI cC cE cI g)):=by rw [hw2];exact (Arr.world (heap_alloc_new w1 _)).lie
 have hg2:w1.grownBy w2 none:=by rw [hw2];exact World.grownBy_alloc _ _ _
 have hL2:=hide (hL.on hg2)
 have hgw:=hide (gtr (uh hgk') (gtr hg1 hg2))
 have hTw:=hide (show w.heap.size≤w1.heap.size from (gtr (uh hgk') hg1).size)
 clear hgk' hcE l1 l2 l3 n1 n2 n3 hL hg1 hN hg2
 unfold Gd.world at hw2 ⊢
 dsimp only
 obtain ⟨b0,b1,b2,b3,b4,b5,b6,b7,b8,b9,b10⟩:=(uh hA).eleven
 go_upto_region 4 with fail
 rw [←hw2]
 obtain ⟨T,hT⟩:∃T,w1.heap.size=T:=⟨_,rfl⟩
 rw [hT] at hA hTw b0 b1 b2 b3 b4 b5 b6 b7 b8 b9 b10 ⊢
 clear hw2 hT
 clear w1 wk
 have c2:=hide (fun z (hz:Gd.Lists z gC gE gI c E I)=>refTwin_any s g c E I gC gE gI cC cE cI z hz)
 unfold Gd.world at c2
 go_wp2_with fail
 refine (uh c2 _ (uh hL2)).mono ?_
 rintro e w3 ⟨jC,jE,jI,dC,dE,dI,rfl,hdE,l1,l2,l3,n1,n2,n3,hLj,hg3⟩
 clear c2
 have hD:Hid (∀Q,Q=w3.heap.size+1→Sn.Duo w ((w3.alloc (.cells (Gd.world s jC jE jI dC dE dI g) 29)).alloc (.cells #[.int .i64 0,.int .i64 0] 42)) w2.heap.size T gC gE gI cC cE cI w3.heap.size jC jE jI dC dE dI Q s g c E I s g c E I (0,0)):=by
  rintro Q rfl
  have g4:w3.grownBy (w3.alloc (.cells (Gd.world s jC jE jI dC dE dI g) 29)) none:=World.grownBy_alloc _ _ _
  have g5:(w3.alloc (.cells (Gd.world s jC jE jI dC dE dI g) 29)).grownBy ((w3.alloc (.cells (Gd.world s jC jE jI dC dE dI g) 29)).alloc (.cells #[.int .i64 0,.int .i64 0] 42)) none:=World.grownBy_alloc _ _ _
  have hq:=(Arr.lit (heap_alloc_new (w3.alloc (.cells (Gd.world s jC jE jI dC dE dI g) 29)) (.cells #[.int .i64 0,.int .i64 0] 42))).lie
  rw [show (w3.alloc (.cells (Gd.world s jC jE jI dC dE dI g) 29)).heap.size=w3.heap.size+1 by simp] at hq
  have k1:=hg3.size
  have k2:=(uh hgw).size
  exact ⟨(((uh hA).on hg3).on g4).on g5,(((uh hL2).on hg3).on g4).on g5,((Arr.world (heap_alloc_new w3 _)).lie).on g5,(hLj.on g4).on g5,hq.congr (fun j hj=>by have hj2:j<2:=hj;rcases (show j=0∨j=1 by omega) with rfl | rfl <;> rfl),(uh hA).lt,(uh hL2).cells.lt,(uh hL2).ents.lt,(uh hL2).items.lt,by omega,l1,l2,l3,by omega,k2,gtr (uh hgw) (gtr hg3 (gtr g4 g5))⟩
 clear hdE l1 l2 l3 n1 n2 n3 hLj hg3 hA hL2 hgw hTw
 clear b0 b1 b2 b3 b4 b5 b6 b7 b8 b9 b10
 unfold Gd.world at hD ⊢
 go_upto_region 6 with fail
 obtain ⟨V,hV⟩:∃V,w3.heap.size=V:=⟨_,rfl⟩
 rw [hV] at hD ⊢
 obtain ⟨w5,hw5⟩:∃w5,(w3.alloc (.cells #[.int .i64 (s 0),.int .i64 (s 1),.int .i64 (s 2),.int .i64 (s 3),.slice (some ⟨jC,0,none⟩) 384 dC,.slice (some ⟨jE,0,none⟩) 32 dE,.slice (some ⟨jI,0,none⟩) 40 dI,.int .i64 (g 0),.int .i64 (g 1),.int .i64 (g 2),.int .i64 (g 3)] 29)).alloc (.cells #[.int .i64 0,.int .i64 0] 42)=w5:=⟨_,rfl⟩
 have hD0:=hide (uh hD _ rfl)
 rw [hw5] at hD0 ⊢
 clear hD hw5 hV
 obtain ⟨b,hb⟩:∃b,w2.heap.size=b:=⟨_,rfl⟩
 rw [hb] at hD0
 clear hb
 clear w3 w2
 go_wp2_with fail
 refine (within11_at a1 6 _ (by omega) (by omega)).mono ?_
 rintro e wq ⟨rfl,hq⟩
 obtain rfl:w5=wq:=hq.symm
 obtain ⟨m,hm⟩:∃m,a1 % 6=m:=⟨_,rfl⟩
 have hm6:m=0∨m=1∨m=2∨m=3∨m=4∨m=5:=by omega
 rw [hm]
 clear hm
 have hrest:=hide (uh hNw).rest
 have hone:=hide (uh hNw).one_cell
 have hplain:=hide (uh hNw).plain
 have hgood:=hide (uh hNw).good
 clear hNw
 go_upto_block 0 with fail
 go_cut [] from 10 (fun wx=>∃(t h d:Nat→Int) (F J:Nat→Nat→Int) (p:Int × Int),Hid (Sn.Duo w wx b T gC gE gI cC cE cI V jC jE jI dC dE dI (V+1) s g c E I t h d F J p)∧Hid (Sn.One s t g h c d E F I J p))
 case first =>
  have bx:=hide (uh hD0).v.eleven
  have fV:=(uh hD0).v.free
  have fQ:=(uh hD0).q.free
  have fC:=(uh hD0).lv.cells.free
  have fE:=(uh hD0).lv.ents.free
  have fI:=(uh hD0).lv.items.free
  have q0:w5.cell? ⟨V+1,0,none⟩=some (.int .i64 0):=(uh hD0).q.cell (c:=0) (by omega)
  have q1:w5.cell? ⟨V+1,1,none⟩=some (.int .i64 0):=(uh hD0).q.cell (c:=1) (by omega)
  rcases hm6 with rfl | rfl | rfl | rfl | rfl | rfl
  ·clear fQ fC fE fI q0 q1
   obtain ⟨k,hk,hk4⟩:∃k:Nat,a2 % 4=(k:Int)∧k<4:=⟨(a2 % 4).toNat,by omega,by omega⟩
   have hk0:(0:Int)≤(k:Int):=by omega
   have hk1:(k:Int)<4:=by omega
   have hg0:Hid (g k=0):=by rw [(uh hplain).2];rfl
   have hb7:w5.cell? ⟨V,7+k,none⟩=some (.int .i64 (g k)):=by
    obtain ⟨b0,b1,b2,b3,b4,b5,b6,b7,b8,b9,b10⟩:=uh bx
    rcases (show k=0∨k=1∨k=2∨k=3 by omega) with rfl | rfl | rfl | rfl <;> assumption
   have HK4:=hide hk4
   clear hk4
   go_wp2_with fail
   refine (within11_at a2 4 _ (by omega) (by omega)).mono ?_
   rintro e wq ⟨rfl,hq⟩
   obtain rfl:w5=wq:=hq.symm
   rw [hk]
   clear hk
   go_wp2_with fail
   go_meet
   exact ⟨s,Cr.num g k 7,c,E,I,(0,0),(uh hD0).box (Sn.box_gold s g jC jE jI dC dE dI k 7 (uh HK4)),Sn.one_head c E I (head_ne (.inr ⟨k,uh HK4,by rw [Cr.num_at,uh hg0];decide⟩))⟩
  ·clear fQ fC fE fI q0 q1
   obtain ⟨b0,b1,b2,b3,b4,b5,b6,b7,b8,b9,b10⟩:=uh bx
   have hs3:Hid (s 3=0):=by rw [(uh hplain).1];rfl
   go_wp2_with fail
   go_meet
   exact ⟨Cr.num s 3 2,g,c,E,I,(0,0),(uh hD0).box (Sn.box_num s g jC jE jI dC dE dI 3 2 (by omega)),Sn.one_head c E I (head_ne (.inl ⟨3,by omega,by rw [Cr.num_at,uh hs3];decide⟩))⟩
  ·clear fV fE fI
   obtain ⟨b0,b1,b2,b3,b4,b5,b6,b7,b8,b9,b10⟩:=uh bx
   clear b0 b1 b2 b3 b5 b6 b7 b8 b9 b10
   obtain ⟨i0,hi0,hci⟩:=uh hone
   have hci':Hid (c i0=1):=hci
   clear hci
   obtain ⟨k0,hk0,hk4⟩:∃k:Nat,a2 % 384=(k:Int)∧k<384:=⟨(a2 % 384).toNat,by omega,by omega⟩
   have HI0:=hide hi0
   have HK0:=hide hk4
   have hn1:=(uh hD0).lv.cells.type7 (uh hD0).q (by decide)
   have hn2:=hn1.symm
   have hcs:Hid (∀k:Nat,k<384→w5.cell? ⟨jC,k,none⟩=some (.int .u8 (c k))):=fun k hk=>(uh hD0).lv.cells.cell hk
   clear hi0 hk4
   go_wp2_with fail
   refine (within11_at a2 384 _ (by omega) (by omega)).mono ?_
   rintro e wq ⟨rfl,hq⟩
   obtain rfl:w5=wq:=hq.symm
   rw [hk0]
   clear hk0
   go_wp2_with fail
   go_loopw [10] (fun vk wr=>∃k:Nat,vk=.int .i64 (k:Int)∧Hid (k<384)∧wr=w5) (fun vk _=>(i0+384 - (intOf vk).toNat) % 384)
   case atStart=>exact ⟨k0,rfl,HK0,rfl⟩
   case round =>
    obtain ⟨k,rfl,HK,rfl⟩:=hrel
    have hk1:(k:Int)<384:=by have:=uh HK;omega
    have hk2:(0:Int)≤(k:Int):=by omega
    have hck:=uh hcs k (uh HK)
    by_cases h1:c k=1
    ·have h1':(c k != 1)=false:=by simp [h1]
     have H1:=hide h1
     clear h1
     go_wp2_with fail
     go_meet
     exact ⟨s,g,Gr.upd c k 2,E,I,(1,0),((uh hD0).cell k 2).kind 1,Sn.one_cells s g E I (uh HK) (by unfold Gr.upd;rw [if_pos rfl,uh H1];decide)⟩
    ·have h1':(c k != 1)=true:=by simp [h1]
     have H1:=hide h1
     have hne:Hid (k≠i0):=fun e=>h1 (by rw [e];exact uh hci')
     clear h1
     go_wp2_with fail
     go_roundw
     case rel=>exact ⟨(k+1) % 384,by go_num,(show (k+1) % 384<384 by omega),by first | rfl | trivial⟩
     case measure =>
      have:=uh HI0
      have:=uh HK
      have:=uh hne
      simp [intOf]
      omega
  ·clear fV fC fI
   obtain ⟨b0,b1,b2,b3,b4,b5,b6,b7,b8,b9,b10⟩:=uh bx
   clear b0 b1 b2 b3 b4 b6 b7 b8 b9 b10
   obtain ⟨k,hk,hk4⟩:∃k:Nat,a2 % 32=(k:Int)∧k<32:=⟨(a2 % 32).toNat,by omega,by omega⟩
   have hk0:(0:Int)≤(k:Int):=by omega
   have hk1:(k:Int)<32:=by omega
   have HK4:=hide hk4
   obtain ⟨hg0,hg1,_⟩:=(uh hgood).sane.1.rows k hk4
   have hx:=hide (gen_turns hg0 hg1)
   have hb1:w5.cell? ⟨jE,k*11+1,none⟩=some (.int .i64 (E k 1)):=(uh hD0).lv.own.ents.row (uh HK4) |>.2.1
   have hb1d:Hid (∀n,(w5.drewN n).cell? ⟨jE,k*11+1,none⟩=some (.int .i64 (E k 1))):=fun n=>((uh hD0).on (gdw (World.grownBy.refl _ none) n)).lv.own.ents.row (uh HK4) |>.2.1
   have hD1:=hide ((uh hD0).on (gd1 (World.grownBy.refl _ none)))
   clear hk4 hg0 hg1
   go_wp2_with fail
   refine (within11_at a2 32 _ (by omega) (by omega)).mono ?_
   rintro e wq ⟨rfl,hq⟩
   obtain rfl:w5=wq:=hq.symm
   rw [hk]
   clear hk
   go_upto_region 19 with fail
   obtain ⟨X,hX⟩:∃X,bits .xor .i64 (E k 1) 1=X:=⟨_,rfl⟩
   rw [hX] at hx
   go_cut [] from 54 to 65 (fun wx=>Hid (Sn.Duo w wx b T gC gE gI cC cE cI V jC jE jI dC dE dI (V+1) s g c E I s g c (En.put E k (fun j=>if j=1 then X else E k j)) I (0,0)))
   case first =>
    go_region
    all_goals
     go_wp2_with fail
     go_meet
     exact (uh hD1).ent k 1 (by omega) X
   case rest =>
    have q0:wc.cell? ⟨V+1,0,none⟩=some (.int .i64 0):=(uh hcut).q.cell (c:=0) (by omega)
    have q1:wc.cell? ⟨V+1,1,none⟩=some (.int .i64 0):=(uh hcut).q.cell (c:=1) (by omega)
    have fQ:=(uh hcut).q.free
    go_wp2_with fail
    go_meet
    exact ⟨s,g,c,En.put E k (fun j=>if j=1 then X else E k j),I,(2,(k:Int)),(uh hcut).wants 2 k,Sn.one_ent (k:=k) (j:=1) s g c I (uh HK4) (by omega) (by rw [En.put_same];exact fun e=>uh hx e.symm) (fun i hi=>(En.put_other hi).symm)⟩
  ·clear fV fC fE
   obtain ⟨b0,b1,b2,b3,b4,b5,b6,b7,b8,b9,b10⟩:=uh bx
   clear b0 b1 b2 b3 b4 b5 b7 b8 b9 b10
   obtain ⟨K,hK,hK0,hK4⟩:∃K:Nat,10+a2 % 30=(K:Int)∧10≤K∧K<40:=⟨(10+a2 % 30).toNat,by omega,by omega,by omega⟩
   have hk0:(0:Int)≤(K:Int):=by omega
   have hk1:(K:Int)<40:=by omega
   have hzero:Hid (I K=fun _=>0):=uh hrest K hK0
   have HK4:=hide hK4
   obtain ⟨r0,r1,r2,r3⟩:=(uh hD0).lv.its.row (uh HK4)
   have hD1:=hide ((uh hD0).on (gd1 (World.grownBy.refl _ none)))
   have hA4:0≤a2 % 30:=by omega
   have hA5:a2 % 30<30:=by omega
   clear hK0 hK4
   go_wp2_with fail
   refine (within11_at a2 30 _ (by omega) (by omega)).mono ?_
   rintro e wq ⟨rfl,hq⟩
   obtain rfl:w5=wq:=hq.symm
   go_upto_region 23 with fail
   clear hK hA4 hA5
   obtain ⟨Z,hZ⟩:∃Z,a2 % 4=Z:=⟨_,rfl⟩
   have cw:Hid (∀x,Calls Try.prog 13 #[.int .i64 a2,.int .i64 4] x fun e w'=>e=.returned (.int .i64 Z)∧w'=x):=fun x=>by rw [←hZ];exact within11_at a2 4 x (by omega) (by omega)
   clear hZ
   go_cut [] from 73 to 79 (fun wx=>Hid (Sn.Duo w wx b T gC gE gI cC cE cI V jC jE jI dC dE dI (V+1) s g c E I s g c E (En.put I K (fun j=>if j=0 then 1 else if j=1 then 2 else if j=2 then Z else 0)) (0,0)))
   case first =>
    refine wp_region_till (h:=7) (S:=fun x=>x.cell? ⟨V,6,none⟩=some (.slice (some ⟨jI,0,none⟩) 40 dI)) (by kernel_rfl) ?_
    have hS0:w5.drew.cell? ⟨V,6,none⟩=some (.slice (some ⟨jI,0,none⟩) 40 dI):=(uh hD1).v.eleven.2.2.2.2.2.2.1
    refine wtk (i:=0) (v:=?_) [7] rfl (by kernel_rfl) (by kernel_rfl) (by kernel_rfl) (by kernel_rfl) (fun _ _ _ h=>h) hS0 (Or.inl ⟨by rfl,?_⟩) ?_
    rotate_left
    ·intro x hSx
     try dsimp only at hSx
     go_simp
     try with_reducible rfl
    simp only [Act.put]
    refine wtk (i:=1) (v:=?_) [7] rfl (by kernel_rfl) (by kernel_rfl) (by kernel_rfl) (by kernel_rfl) (fun _ _ _ h=>h) hS0 (Or.inl ⟨by rfl,?_⟩) ?_
    rotate_left
    ·intro x hSx
     try dsimp only at hSx
     go_simp
     try with_reducible rfl
    simp only [Act.put]
    refine wtk (i:=2) (v:=?_) [7] rfl (by kernel_rfl) (by kernel_rfl) (by kernel_rfl) (by kernel_rfl) (fun _ _ _ h=>h) hS0 (Or.inl ⟨by rfl,?_⟩) ?_
    rotate_left
    ·intro x hSx
     try dsimp only at hSx
     go_simp
     try with_reducible rfl
    simp only [Act.put]
    refine wtk (i:=3) (v:=?_) [7] rfl (by kernel_rfl) (by kernel_rfl) (by kernel_rfl) (by kernel_rfl) (fun _ _ _ h=>h) hS0 (Or.inl ⟨by rfl,?_⟩) ?_
    rotate_left
    ·intro x hSx
     try dsimp only at hSx
     go_simp
     try with_reducible rfl
    simp only [Act.put]
    refine wto (j:=4) (by kernel_rfl) rfl (fun K hK=>?_)
    go_simp
    refine (uh cw _).mono ?_
    rintro e wq ⟨rfl,hq⟩
    obtain rfl:=hq
    try go_simp
    refine hK.out _ _ (fun _=>hS0) ?_
    clear hK K
    refine wtk (i:=5) (v:=?_) [7] rfl (by kernel_rfl) (by kernel_rfl) (by kernel_rfl) (by kernel_rfl) (fun _ _ _ h=>h) hS0 (Or.inl ⟨by rfl,?_⟩) ?_
    rotate_left
    ·intro x hSx
     try dsimp only at hSx
     go_simp
     try with_reducible rfl
    simp only [Act.put]
    refine wtk (i:=6) (v:=?_) [7] rfl (by kernel_rfl) (by kernel_rfl) (by kernel_rfl) (by kernel_rfl) (fun _ _ _ h=>h) hS0 (Or.inl ⟨by rfl,?_⟩) ?_
    rotate_left
    ·intro x hSx
     try dsimp only at hSx
     go_simp
     try with_reducible rfl
    simp only [Act.put]
    refine wto (j:=7) (by kernel_rfl) rfl (fun K hK=>?_)
    go_simp
    refine hK.out _ _ (fun hx=>absurd (hx.symm.trans (by kernel_rfl)) Bool.false_ne_true) ?_
    clear hK K
    refine wpTill_done (by kernel_rfl) ?_ _
    go_wp2_with fail
    go_meet
    exact (uh hD1).item K (fun j=>if j=0 then 1 else if j=1 then 2 else if j=2 then Z else 0)
   case rest =>
    have q0:wc.cell? ⟨V+1,0,none⟩=some (.int .i64 0):=(uh hcut).q.cell (c:=0) (by omega)
    have q1:wc.cell? ⟨V+1,1,none⟩=some (.int .i64 0):=(uh hcut).q.cell (c:=1) (by omega)
    have fQ:=(uh hcut).q.free
    go_wp2_with fail
    go_meet
    exact ⟨s,g,c,E,En.put I K (fun j=>if j=0 then 1 else if j=1 then 2 else if j=2 then Z else 0),(3,(K:Int)),(uh hcut).wants 3 K,Sn.one_item (k:=K) (j:=0) s g c E (uh HK4) (by omega) (by rw [En.put_same,uh hzero];show (0:Int)≠1;decide) (fun i hi=>(En.put_other hi).symm)⟩
  ·clear fQ fC fE fI q0 q1
   obtain ⟨b0,b1,b2,b3,b4,b5,b6,b7,b8,b9,b10⟩:=uh bx
   obtain ⟨X,hX⟩:∃X,IntKind.i64.wrap (s 0+1)=X:=⟨_,rfl⟩
   have hne:Hid (s 0≠X):=by rw [←hX];exact wrap_turns _
   go_wp2_with fail
   go_meet
   exact ⟨Cr.num s 0 X,g,c,E,I,(0,0),(uh hD0).box (Sn.box_num s g jC jE jI dC dE dI 0 X (by omega)),Sn.one_head c E I (head_ne (.inl ⟨0,by omega,by rw [Cr.num_at];exact uh hne⟩))⟩
 case rest =>
  clear hD0 hrest hone hplain hgood hm6
  obtain ⟨t,h,d,F,J,p,hD,hO⟩:=hcut
  obtain ⟨p1,p2⟩:=p
  have cR1:Hid (∀x,Sn.Duo w x b T gC gE gI cC cE cI V jC jE jI dC dE dI (V+1) s g c E I t h d F J (p1,p2)→Calls Try.prog 14 #[.agg #[.int .i64 (s 0),.int .i64 (s 1),.int .i64 (s 2),.int .i64 (s 3),.slice (some ⟨gC,0,none⟩) 384 cC,.slice (some ⟨gE,0,none⟩) 32 cE,.slice (some ⟨gI,0,none⟩) 40 cI,.int .i64 (g 0),.int .i64 (g 1),.int .i64 (g 2),.int .i64 (g 3)],.agg #[.int .i64 (t 0),.int .i64 (t 1),.int .i64 (t 2),.int .i64 (t 3),.slice (some ⟨jC,0,none⟩) 384 dC,.slice (some ⟨jE,0,none⟩) 32 dE,.slice (some ⟨jI,0,none⟩) 40 dI,.int .i64 (h 0),.int .i64 (h 1),.int .i64 (h 2),.int .i64 (h 3)]] x fun e w'=>∃R,e=.returned (.slice (some ⟨R,0,none⟩) 1 1)∧w'.cell? ⟨R,0,none⟩=some (.int .i64 p1)∧w'.cell? ⟨R,1,none⟩=some (.int .i64 p2)∧R<w'.heap.size∧x.grownBy w' none):=fun x hx=>by
   have q:=snRows_any s t g h c d E F I J gC gE gI cC cE cI jC jE jI dC dE dI x hx.la hx.lv
   rw [(uh hO).1] at q
   exact q.mono fun e w' hq=>gives_one hq
  have cR2':Hid (∀x,Sn.Duo w x b T gC gE gI cC cE cI V jC jE jI dC dE dI (V+1) s g c E I t h d F J (p1,p2)→Calls Try.prog 14 #[.agg #[.int .i64 (t 0),.int .i64 (t 1),.int .i64 (t 2),.int .i64 (t 3),.slice (some ⟨jC,0,none⟩) 384 dC,.slice (some ⟨jE,0,none⟩) 32 dE,.slice (some ⟨jI,0,none⟩) 40 dI,.int .i64 (h 0),.int .i64 (h 1),.int .i64 (h 2),.int .i64 (h 3)],.agg #[.int .i64 (s 0),.int .i64 (s 1),.int .i64 (s 2),.int .i64 (s 3),.slice (some ⟨gC,0,none⟩) 384 cC,.slice (some ⟨gE,0,none⟩) 32 cE,.slice (some ⟨gI,0,none⟩) 40 cI,.int .i64 (g 0),.int .i64 (g 1),.int .i64 (g 2),.int .i64 (g 3)]] x fun e w'=>∃R,e=.returned (.slice (some ⟨R,0,none⟩) 1 1)∧x.grownBy w' none):=fun x hx=>by
   have q:=snRows_any t s h g d c F E J I jC jE jI dC dE dI gC gE gI cC cE cI x hx.lv hx.la
   rw [(uh hO).back] at q
   exact q.mono fun e w' hq=>by
    obtain ⟨R,h1,_,_,_,h2⟩:=gives_one hq
    exact ⟨R,h1,h2⟩
  have cS1':Hid (∀x,Sn.Duo w x b T gC gE gI cC cE cI V jC jE jI dC dE dI (V+1) s g c E I t h d F J (p1,p2)→Calls Try.prog 15 #[.agg #[.int .i64 (s 0),.int .i64 (s 1),.int .i64 (s 2),.int .i64 (s 3),.slice (some ⟨gC,0,none⟩) 384 cC,.slice (some ⟨gE,0,none⟩) 32 cE,.slice (some ⟨gI,0,none⟩) 40 cI,.int .i64 (g 0),.int .i64 (g 1),.int .i64 (g 2),.int .i64 (g 3)],.agg #[.int .i64 (t 0),.int .i64 (t 1),.int .i64 (t 2),.int .i64 (t 3),.slice (some ⟨jC,0,none⟩) 384 dC,.slice (some ⟨jE,0,none⟩) 32 dE,.slice (some ⟨jI,0,none⟩) 40 dI,.int .i64 (h 0),.int .i64 (h 1),.int .i64 (h 2),.int .i64 (h 3)]] x (Says x (.bool false))):=fun x hx=>by
   have q:=snSame_any s t g h c d E F I J gC gE gI cC cE cI jC jE jI dC dE dI x hx.la hx.lv
   rw [(uh hO).2] at q
   exact q
  have cS2':Hid (∀x,Sn.Duo w x b T gC gE gI cC cE cI V jC jE jI dC dE dI (V+1) s g c E I t h d F J (p1,p2)→Calls Try.prog 15 #[.agg #[.int .i64 (s 0),.int .i64 (s 1),.int .i64 (s 2),.int .i64 (s 3),.slice (some ⟨gC,0,none⟩) 384 cC,.slice (some ⟨gE,0,none⟩) 32 cE,.slice (some ⟨gI,0,none⟩) 40 cI,.int .i64 (g 0),.int .i64 (g 1),.int .i64 (g 2),.int .i64 (g 3)],.agg #[.int .i64 (s 0),.int .i64 (s 1),.int .i64 (s 2),.int .i64 (s 3),.slice (some ⟨gC,0,none⟩) 384 cC,.slice (some ⟨gE,0,none⟩) 32 cE,.slice (some ⟨gI,0,none⟩) 40 cI,.int .i64 (g 0),.int .i64 (g 1),.int .i64 (g 2),.int .i64 (g 3)]] x (Says x (.bool true))):=fun x hx=>by
   have q:=snSame_any s s g g c c E E I I gC gE gI cC cE cI gC gE gI cC cE cI x hx.la hx.la
   rw [same_self] at q
   exact q
  clear hO
  obtain ⟨b0,b1,b2,b3,b4,b5,b6,b7,b8,b9,b10⟩:=(uh hD).a.eleven
  obtain ⟨e0,e1,e2,e3,e4,e5,e6,e7,e8,e9,e10⟩:=(uh hD).v.eleven
  go_wp2_with fail
  refine (uh cR1 _ (uh hD)).mono ?_
  rintro e w6 ⟨R,rfl,r0,r1,rlt,hg6⟩
  have hD6:=hide ((uh hD).on hg6)
  have hk28:Hid (∀x,w6.grownBy x none→(x.cell? ⟨T,0,none⟩=some (.int .i64 (s 0))∧x.cell? ⟨T,1,none⟩=some (.int .i64 (s 1))∧x.cell? ⟨T,2,none⟩=some (.int .i64 (s 2))∧x.cell? ⟨T,3,none⟩=some (.int .i64 (s 3))∧x.cell? ⟨T,4,none⟩=some (.slice (some ⟨gC,0,none⟩) 384 cC)∧x.cell? ⟨T,5,none⟩=some (.slice (some ⟨gE,0,none⟩) 32 cE)∧x.cell? ⟨T,6,none⟩=some (.slice (some ⟨gI,0,none⟩) 40 cI)∧x.cell? ⟨T,7,none⟩=some (.int .i64 (g 0))∧x.cell? ⟨T,8,none⟩=some (.int .i64 (g 1))∧x.cell? ⟨T,9,none⟩=some (.int .i64 (g 2))∧x.cell? ⟨T,10,none⟩=some (.int .i64 (g 3)))∧(x.cell? ⟨V,0,none⟩=some (.int .i64 (t 0))∧x.cell? ⟨V,1,none⟩=some (.int .i64 (t 1))∧x.cell? ⟨V,2,none⟩=some (.int .i64 (t 2))∧x.cell? ⟨V,3,none⟩=some (.int .i64 (t 3))∧x.cell? ⟨V,4,none⟩=some (.slice (some ⟨jC,0,none⟩) 384 dC)∧x.cell? ⟨V,5,none⟩=some (.slice (some ⟨jE,0,none⟩) 32 dE)∧x.cell? ⟨V,6,none⟩=some (.slice (some ⟨jI,0,none⟩) 40 dI)∧x.cell? ⟨V,7,none⟩=some (.int .i64 (h 0))∧x.cell? ⟨V,8,none⟩=some (.int .i64 (h 1))∧x.cell? ⟨V,9,none⟩=some (.int .i64 (h 2))∧x.cell? ⟨V,10,none⟩=some (.int .i64 (h 3)))∧(x.cell? ⟨V+1,0,none⟩=some (.int .i64 p1)∧x.cell? ⟨V+1,1,none⟩=some (.int .i64 p2))∧x.cell? ⟨R,0,none⟩=some (.int .i64 p1)∧x.cell? ⟨R,1,none⟩=some (.int .i64 p2)):=fun x hx=>⟨((uh hD6).on hx).a.eleven,((uh hD6).on hx).v.eleven,⟨((uh hD6).on hx).q.cell (c:=0) (by omega),((uh hD6).on hx).q.cell (c:=1) (by omega)⟩,(gce hx R 0 rlt (by simp)).trans r0,(gce hx R 1 rlt (by simp)).trans r1⟩
  have cS1:Hid (∀x,w6.grownBy x none→Calls Try.prog 15 #[.agg #[.int .i64 (s 0),.int .i64 (s 1),.int .i64 (s 2),.int .i64 (s 3),.slice (some ⟨gC,0,none⟩) 384 cC,.slice (some ⟨gE,0,none⟩) 32 cE,.slice (some ⟨gI,0,none⟩) 40 cI,.int .i64 (g 0),.int .i64 (g 1),.int .i64 (g 2),.int .i64 (g 3)],.agg #[.int .i64 (t 0),.int .i64 (t 1),.int .i64 (t 2),.int .i64 (t 3),.slice (some ⟨jC,0,none⟩) 384 dC,.slice (some ⟨jE,0,none⟩) 32 dE,.slice (some ⟨jI,0,none⟩) 40 dI,.int .i64 (h 0),.int .i64 (h 1),.int .i64 (h 2),.int .i64 (h 3)]] x (Says x (.bool false))):=fun x hx=>uh cS1' x ((uh hD6).on hx)
  have cS2:Hid (∀x,w6.grownBy x none→Calls Try.prog 15 #[.agg #[.int .i64 (s 0),.int .i64 (s 1),.int .i64 (s 2),.int .i64 (s 3),.slice (some ⟨gC,0,none⟩) 384 cC,.slice (some ⟨gE,0,none⟩) 32 cE,.slice (some ⟨gI,0,none⟩) 40 cI,.int .i64 (g 0),.int .i64 (g 1),.int .i64 (g 2),.int .i64 (g 3)],.agg #[.int .i64 (s 0),.int .i64 (s 1),.int .i64 (s 2),.int .i64 (s 3),.slice (some ⟨gC,0,none⟩) 384 cC,.slice (some ⟨gE,0,none⟩) 32 cE,.slice (some ⟨gI,0,none⟩) 40 cI,.int .i64 (g 0),.int .i64 (g 1),.int .i64 (g 2),.int .i64 (g 3)]] x (Says x (.bool true))):=fun x hx=>uh cS2' x ((uh hD6).on hx)
  have cR2:Hid (∀x,w6.grownBy x none→Calls Try.prog 14 #[.agg #[.int .i64 (t 0),.int .i64 (t 1),.int .i64 (t 2),.int .i64 (t 3),.slice (some ⟨jC,0,none⟩) 384 dC,.slice (some ⟨jE,0,none⟩) 32 dE,.slice (some ⟨jI,0,none⟩) 40 dI,.int .i64 (h 0),.int .i64 (h 1),.int .i64 (h 2),.int .i64 (h 3)],.agg #[.int .i64 (s 0),.int .i64 (s 1),.int .i64 (s 2),.int .i64 (s 3),.slice (some ⟨gC,0,none⟩) 384 cC,.slice (some ⟨gE,0,none⟩) 32 cE,.slice (some ⟨gI,0,none⟩) 40 cI,.int .i64 (g 0),.int .i64 (g 1),.int .i64 (g 2),.int .i64 (g 3)]] x fun e w'=>∃R,e=.returned (.slice (some ⟨R,0,none⟩) 1 1)∧x.grownBy w' none):=fun x hx=>uh cR2' x ((uh hD6).on hx)
  have hG0:=hide (gd1 (World.grownBy.refl w6 none))
  have hGw:=hide (uh hD6).grown
  have hEq:=fun x=>run_eq_row p1 p2 x
  clear cR1 cR2' cS1' cS2' hD hD6 hg6 r0 r1 rlt b0 b1 b2 b3 b4 b5 b6 b7 b8 b9 b10 e0 e1 e2 e3 e4 e5 e6 e7 e8 e9 e10
  go_upto_region 28 with fail
  refine wp_region_till (h:=28) (S:=fun x=>Hid (w6.grownBy x none)) (by kernel_rfl) ?_
  refine wtk (i:=0) (v:=?_) [28] rfl (by kernel_rfl) (by kernel_rfl) (by kernel_rfl) (by kernel_rfl) (fun _ _ _ h=>h) hG0 (Or.inl ⟨by rfl,?_⟩) ?_
  rotate_left
  ·intro x hSx
   clear hSx
   go_simp
   try with_reducible rfl
  simp only [Act.put,List.getElem_toArray,List.getElem_cons_zero,List.setIfInBounds_toArray,List.set_cons_succ,List.set_cons_zero]
  refine wto (j:=1) (by kernel_rfl) rfl (fun K hK=>?_)
  go_simp
  try go_simp
  refine hK.out _ _ (fun _=>hG0) ?_
  clear hK K
  refine wtk (i:=2) (v:=?_) [28] rfl (by kernel_rfl) (by kernel_rfl) (by kernel_rfl) (by kernel_rfl) (fun _ _ _ h=>h) hG0 (Or.inl ⟨by rfl,?_⟩) ?_
  rotate_left
  ·intro x hSx
   clear hSx
   go_simp
   try with_reducible rfl
  simp only [Act.put,List.getElem_toArray,List.getElem_cons_zero,List.getElem_cons_succ,List.setIfInBounds_toArray,List.set_cons_succ,List.set_cons_zero]
  refine wtk (i:=3) (v:=?_) [28] rfl (by kernel_rfl) (by kernel_rfl) (by kernel_rfl) (by kernel_rfl) (fun _ _ _ h=>h) hG0 (Or.inl ⟨by rfl,?_⟩) ?_
  rotate_left
  ·intro x hSx
   clear hSx
   go_simp
   try with_reducible rfl
  simp only [Act.put,List.getElem_toArray,List.getElem_cons_zero,List.getElem_cons_succ,List.setIfInBounds_toArray,List.set_cons_succ,List.set_cons_zero]
  refine wtk (i:=4) (v:=?_) [28] rfl (by kernel_rfl) (by kernel_rfl) (by kernel_rfl) (by kernel_rfl) (fun _ _ _ h=>h) hG0 (Or.inl ⟨by rfl,?_⟩) ?_
  rotate_left
  ·intro x hSx
   clear hSx
   go_simp
   try with_reducible rfl
  simp only [Act.put,List.getElem_toArray,List.getElem_cons_zero,List.getElem_cons_succ,List.setIfInBounds_toArray,List.set_cons_succ,List.set_cons_zero]
  refine wtk (i:=5) (v:=?_) [28] rfl (by kernel_rfl) (by kernel_rfl) (by kernel_rfl) (by kernel_rfl) (fun _ _ _ h=>h) hG0 (Or.inl ⟨by rfl,?_⟩) ?_
  rotate_left
  ·intro x hSx
   clear hSx
   go_simp
   try with_reducible rfl
  simp only [Act.put,List.getElem_toArray,List.getElem_cons_zero,List.getElem_cons_succ,List.setIfInBounds_toArray,List.set_cons_succ,List.set_cons_zero]
  refine wtk (i:=6) (v:=?_) [28] rfl (by kernel_rfl) (by kernel_rfl) (by kernel_rfl) (by kernel_rfl) (fun _ _ _ h=>h) hG0 (Or.inl ⟨by rfl,?_⟩) ?_
  rotate_left
  ·intro x hSx
   obtain ⟨-,-,-,b0,b1⟩:=uh hk28 x (uh hSx)
   clear hSx
   go_simp
   try with_reducible rfl
  simp only [Act.put,List.getElem_toArray,List.getElem_cons_zero,List.getElem_cons_succ,List.setIfInBounds_toArray,List.set_cons_succ,List.set_cons_zero]
  refine wtk (i:=7) (v:=?_) [28] rfl (by kernel_rfl) (by kernel_rfl) (by kernel_rfl) (by kernel_rfl) (fun _ _ _ h=>h) hG0 (Or.inl ⟨by rfl,?_⟩) ?_
  rotate_left
  ·intro x hSx
   obtain ⟨-,-,⟨b0,b1⟩,-⟩:=uh hk28 x (uh hSx)
   clear hSx
   go_simp
   try with_reducible rfl
  simp only [Act.put,List.getElem_toArray,List.getElem_cons_zero,List.getElem_cons_succ,List.setIfInBounds_toArray,List.set_cons_succ,List.set_cons_zero]
  refine wtk (i:=8) (v:=?_) [28] rfl (by kernel_rfl) (by kernel_rfl) (by kernel_rfl) (by kernel_rfl) (fun _ _ _ h=>h) hG0 (Or.inl ⟨by rfl,?_⟩) ?_
  rotate_left
  ·intro x hSx
   clear hSx
   go_simp
   try with_reducible rfl
  simp only [Act.put,List.getElem_toArray,List.getElem_cons_zero,List.getElem_cons_succ,List.setIfInBounds_toArray,List.set_cons_succ,List.set_cons_zero]
  refine wtk (i:=9) (v:=?_) [28] rfl (by kernel_rfl) (by kernel_rfl) (by kernel_rfl) (by kernel_rfl) (fun _ _ _ h=>h) hG0 (Or.inl ⟨by rfl,?_⟩) ?_
  rotate_left
  ·intro x hSx
   clear hSx
   go_simp
   try with_reducible rfl
  simp only [Act.put,List.getElem_toArray,List.getElem_cons_zero,List.getElem_cons_succ,List.setIfInBounds_toArray,List.set_cons_succ,List.set_cons_zero]
  refine wtk (i:=10) (v:=?_) [28] rfl (by kernel_rfl) (by kernel_rfl) (by kernel_rfl) (by kernel_rfl) (fun _ _ _ h=>h) hG0 (Or.inl ⟨by rfl,?_⟩) ?_
  rotate_left
  ·intro x hSx
   clear hSx
   go_simp
   try with_reducible rfl
  simp only [Act.put,List.getElem_toArray,List.getElem_cons_zero,List.getElem_cons_succ,List.setIfInBounds_toArray,List.set_cons_succ,List.set_cons_zero]
  refine wtk (i:=11) (v:=?_) [28] rfl (by kernel_rfl) (by kernel_rfl) (by kernel_rfl) (by kernel_rfl) (fun _ _ _ h=>h) hG0 (Or.inl ⟨by rfl,?_⟩) ?_
  rotate_left
  ·intro x hSx
   obtain ⟨⟨b0,b1,b2,b3,b4,b5,b6,b7,b8,b9,b10⟩,-⟩:=uh hk28 x (uh hSx)
   clear hSx
   go_simp
   try with_reducible rfl
  simp only [Act.put,List.getElem_toArray,List.getElem_cons_zero,List.getElem_cons_succ,List.setIfInBounds_toArray,List.set_cons_succ,List.set_cons_zero]
  refine wtk (i:=12) (v:=?_) [28] rfl (by kernel_rfl) (by kernel_rfl) (by kernel_rfl) (by kernel_rfl) (fun _ _ _ h=>h) hG0 (Or.inl ⟨by rfl,?_⟩) ?_
  rotate_left
  ·intro x hSx
   obtain ⟨-,⟨b0,b1,b2,b3,b4,b5,b6,b7,b8,b9,b10⟩,-⟩:=uh hk28 x (uh hSx)
   clear hSx
   go_simp
   try with_reducible rfl
  simp only [Act.put,List.getElem_toArray,List.getElem_cons_zero,List.getElem_cons_succ,List.setIfInBounds_toArray,List.set_cons_succ,List.set_cons_zero]
  refine wto (j:=13) (by kernel_rfl) rfl (fun K hK=>?_)
  go_simp
  refine (uh cS1 _ (uh hG0)).mono ?_
  rintro e w7 ⟨rfl,hg7⟩
  have hG7:=hide (gtr (uh hG0) hg7)
  clear hg7
  try go_simp
  refine hK.out _ _ (fun _=>hG7) ?_
  clear hK K
  refine wtk (i:=14) (v:=?_) [28] rfl (by kernel_rfl) (by kernel_rfl) (by kernel_rfl) (by kernel_rfl) (fun _ _ _ h=>h) hG7 (Or.inl ⟨by rfl,?_⟩) ?_
  rotate_left
  ·intro x hSx
   clear hSx
   go_simp
   try with_reducible rfl
  simp only [Act.put,List.getElem_toArray,List.getElem_cons_zero,List.getElem_cons_succ,List.setIfInBounds_toArray,List.set_cons_succ,List.set_cons_zero]
  refine wtk (i:=15) (v:=?_) [28] rfl (by kernel_rfl) (by kernel_rfl) (by kernel_rfl) (by kernel_rfl) (fun _ _ _ h=>h) hG7 (Or.inl ⟨by rfl,?_⟩) ?_
  rotate_left
  ·intro x hSx
   clear hSx
   go_simp
   try with_reducible rfl
  simp only [Act.put,List.getElem_toArray,List.getElem_cons_zero,List.getElem_cons_succ,List.setIfInBounds_toArray,List.set_cons_succ,List.set_cons_zero]
  refine wtk (i:=16) (v:=?_) [28] rfl (by kernel_rfl) (by kernel_rfl) (by kernel_rfl) (by kernel_rfl) (fun _ _ _ h=>h) hG7 (Or.inl ⟨by rfl,?_⟩) ?_
  rotate_left
  ·intro x hSx
   clear hSx
   go_simp
   try with_reducible rfl
  simp only [Act.put,List.getElem_toArray,List.getElem_cons_zero,List.getElem_cons_succ,List.setIfInBounds_toArray,List.set_cons_succ,List.set_cons_zero]
  refine wtk (i:=17) (v:=?_) [28] rfl (by kernel_rfl) (by kernel_rfl) (by kernel_rfl) (by kernel_rfl) (fun _ _ _ h=>h) hG7 (Or.inl ⟨by rfl,?_⟩) ?_
  rotate_left
  ·intro x hSx
   obtain ⟨⟨b0,b1,b2,b3,b4,b5,b6,b7,b8,b9,b10⟩,-⟩:=uh hk28 x (uh hSx)
   clear hSx
   go_simp
   try with_reducible rfl
  simp only [Act.put,List.getElem_toArray,List.getElem_cons_zero,List.getElem_cons_succ,List.setIfInBounds_toArray,List.set_cons_succ,List.set_cons_zero]
  refine wtk (i:=18) (v:=?_) [28] rfl (by kernel_rfl) (by kernel_rfl) (by kernel_rfl) (by kernel_rfl) (fun _ _ _ h=>h) hG7 (Or.inl ⟨by rfl,?_⟩) ?_
  rotate_left
  ·intro x hSx
   obtain ⟨⟨b0,b1,b2,b3,b4,b5,b6,b7,b8,b9,b10⟩,-⟩:=uh hk28 x (uh hSx)
   clear hSx
   go_simp
   try with_reducible rfl
  simp only [Act.put,List.getElem_toArray,List.getElem_cons_zero,List.getElem_cons_succ,List.setIfInBounds_toArray,List.set_cons_succ,List.set_cons_zero]
  refine wto (j:=19) (by kernel_rfl) rfl (fun K hK=>?_)
  go_simp
  refine (uh cS2 _ (uh hG7)).mono ?_
  rintro e w8 ⟨rfl,hg8⟩
  have hG8:=hide (gtr (uh hG7) hg8)
  clear hg8
  try go_simp
  refine hK.out _ _ (fun _=>hG8) ?_
  clear hK K
  refine wtk (i:=20) (v:=?_) [28] rfl (by kernel_rfl) (by kernel_rfl) (by kernel_rfl) (by kernel_rfl) (fun _ _ _ h=>h) hG8 (Or.inl ⟨by rfl,?_⟩) ?_
  rotate_left
  ·intro x hSx
   clear hSx
   go_simp
   try with_reducible rfl
  simp only [Act.put,List.getElem_toArray,List.getElem_cons_zero,List.getElem_cons_succ,List.setIfInBounds_toArray,List.set_cons_succ,List.set_cons_zero]
  refine wtk (i:=21) (v:=?_) [28] rfl (by kernel_rfl) (by kernel_rfl) (by kernel_rfl) (by kernel_rfl) (fun _ _ _ h=>h) hG8 (Or.inl ⟨by rfl,?_⟩) ?_
  rotate_left
  ·intro x hSx
   clear hSx
   go_simp
   try with_reducible rfl
  simp only [Act.put,List.getElem_toArray,List.getElem_cons_zero,List.getElem_cons_succ,List.setIfInBounds_toArray,List.set_cons_succ,List.set_cons_zero]
  refine wtk (i:=22) (v:=?_) [28] rfl (by kernel_rfl) (by kernel_rfl) (by kernel_rfl) (by kernel_rfl) (fun _ _ _ h=>h) hG8 (Or.inl ⟨by rfl,?_⟩) ?_
  rotate_left
  ·intro x hSx
   obtain ⟨-,⟨b0,b1,b2,b3,b4,b5,b6,b7,b8,b9,b10⟩,-⟩:=uh hk28 x (uh hSx)
   clear hSx
   go_simp
   try with_reducible rfl
  simp only [Act.put,List.getElem_toArray,List.getElem_cons_zero,List.getElem_cons_succ,List.setIfInBounds_toArray,List.set_cons_succ,List.set_cons_zero]
  refine wtk (i:=23) (v:=?_) [28] rfl (by kernel_rfl) (by kernel_rfl) (by kernel_rfl) (by kernel_rfl) (fun _ _ _ h=>h) hG8 (Or.inl ⟨by rfl,?_⟩) ?_
  rotate_left
  ·intro x hSx
   obtain ⟨⟨b0,b1,b2,b3,b4,b5,b6,b7,b8,b9,b10⟩,-⟩:=uh hk28 x (uh hSx)
   clear hSx
   go_simp
   try with_reducible rfl
  simp only [Act.put,List.getElem_toArray,List.getElem_cons_zero,List.getElem_cons_succ,List.setIfInBounds_toArray,List.set_cons_succ,List.set_cons_zero]
  refine wto (j:=24) (by kernel_rfl) rfl (fun K hK=>?_)
  go_simp
  refine (uh cR2 _ (uh hG8)).mono ?_
  rintro e w9 ⟨R9,rfl,hg9⟩
  have hG9:=hide (gtr (uh hG8) hg9)
  clear hg9
  try go_simp
  refine hK.out _ _ (fun _=>hG9) ?_
  clear hK K
  refine wto (j:=25) (by kernel_rfl) rfl (fun K hK=>?_)
  go_simp
  try go_simp
  refine hK.out _ _ (fun _=>hG9) ?_
  clear hK K
  refine wtk (i:=26) (v:=?_) [28] rfl (by kernel_rfl) (by kernel_rfl) (by kernel_rfl) (by kernel_rfl) (fun _ _ _ h=>h) hG9 (Or.inl ⟨by rfl,?_⟩) ?_
  rotate_left
  ·intro x hSx
   clear hSx
   go_simp
   try with_reducible rfl
  simp only [Act.put,List.getElem_toArray,List.getElem_cons_zero,List.getElem_cons_succ,List.setIfInBounds_toArray,List.set_cons_succ,List.set_cons_zero]
  refine wtk (i:=27) (v:=?_) [28] rfl (by kernel_rfl) (by kernel_rfl) (by kernel_rfl) (by kernel_rfl) (fun _ _ _ h=>h) hG9 (Or.inl ⟨by rfl,?_⟩) ?_
  rotate_left
  ·intro x hSx
   clear hSx
   go_simp
   try with_reducible rfl
  simp only [Act.put,List.getElem_toArray,List.getElem_cons_zero,List.getElem_cons_succ,List.setIfInBounds_toArray,List.set_cons_succ,List.set_cons_zero]
  refine wto (j:=28) (by kernel_rfl) rfl (fun K hK=>?_)
  go_simp
  refine hK.out _ _ (fun hx=>absurd (hx.symm.trans (by kernel_rfl)) Bool.false_ne_true) ?_
  clear hK K
  refine wpTill_done (by kernel_rfl) ?_ _
  go_wp2
  go_ret
  exact ⟨rfl,none_below (gtr (uh hGw) (uh hG9))⟩

set_option maxRecDepth 100000 in
theorem lifted (os:Os) (started:os.Started) (H:Type) (enc:TypeId × Value→H) :
  ReturnsInHanded {} Try.checked os 4 .any (Rows.snapOneSpec.pre6 enc Try.prog Try.f4 Rows.snapOneRow.domain false) (Rows.snapOneSpec.post enc Try.prog Try.f4 false true false false):=by
 refine returnsInHanded_of_change (C:=Try.checked) own started (by kernel_rfl) Try.func4
  (ChangeSpec.witness6 (enc:=enc) (C:=Try.checked) false ⟨#[],#[.int .i64 0,.int .i64 0,.int .i64 0],[]⟩ 8 (by kernel_rfl) (by kernel_rfl) (by kernel_rfl) (by kernel_rfl)) ?_
 intro W base args ds gs before hval0 hW hcnd _
 have hval:∀(j:Nat) t v,Try.f4.params[j]?=some t→args[j]?=some v→Value.okWide Try.prog W .any base t v:=hval0
 have hW':=hW
 obtain ⟨p,q,hA0,hV,rfl,hfz,hnd⟩:=hW
 have hA:DataW.TrodAll enc Try.prog W 0 (fun _=>true) true Try.f4.params.toList args.toList ds p:=hA0
 rw [Try.params4] at hA hval
 obtain ⟨v0,vs0,d0,ds0,p0,q0,hargs,rfl,rfl,h0,r0⟩:=trodAll_cons hA
 obtain ⟨v1,vs1,d1,ds1,p1,q1,rfl,rfl,rfl,h1,r1⟩:=trodAll_cons r0
 obtain ⟨v2,vs2,d2,ds2,p2,q2,rfl,rfl,rfl,h2,r2⟩:=trodAll_cons r1
 obtain ⟨rfl,rfl,rfl⟩:=trodAll_nil r2
 obtain rfl:args=#[v0,v1,v2]:=by cases args;simp_all
 obtain ⟨rfl,rfl⟩:=trodVars_none hV
 obtain ⟨a0,rfl,rfl,rfl,w0⟩:=open_int Try.underlying2 (hval 0 2 v0 rfl rfl) h0
 obtain ⟨a1,rfl,rfl,rfl,w1⟩:=open_int Try.underlying3 (hval 1 3 v1 rfl rfl) h1
 obtain ⟨a2,rfl,rfl,rfl,w2⟩:=open_int Try.underlying3 (hval 2 3 v2 rfl rfl) h2
 clear hA0 hval0
 refine (walk a0 a1 a2 w0 w1 w2 W).mono fun e W' ⟨he,hg⟩=>?_
 subst he
 exact ⟨_,rfl,_,_,_,[],_,[],hW',trodAll_mk1 (shut_bool Try.underlying4 _),(trodAll_cons_mk (shut_int Try.underlying2 w0) (trodAll_cons_mk (shut_int Try.underlying3 w1) (trodAll_cons_mk (shut_int Try.underlying3 w2) trodAll_mk0))),rfl,hg.frame _,fun h=>by cases h⟩

theorem over:Rows.snapOneRow.holds Try.pinned (OpenSpec.ofChange Rows.snapOneSpec) :=
 OpenClaim.holds_of_wide 4 Try.f4 rfl rfl rfl rfl rfl rfl rfl ⟨rfl,rfl,rfl,rfl,rfl⟩ rfl rfl rfl rfl rfl (by kernel_rfl) Try.func4 (by kernel_rfl)
  (of_decide_eq_true (by kernel_rfl)) (by unfold Func.isWrapper;first | (rw [if_pos (by decide +kernel)];kernel_rfl) | (rw [if_neg (by decide +kernel)];exact ⟨rfl,rfl⟩))
  (fun os started H enc _=>lifted os started H enc)

theorem proved:Rows.SnapOneSaid :=
 over
#print axioms proved

end Go.Proofs.Ytapgkgbpekkdjaa.snapOne
