import Derived.Test.YtepppmepilffcaaGreatPw31
namespace Go.Proofs.YtepppmepilffcaaGreat
open Go.RowKit

theorem Sn.boxed (w:World) (v0 v1 v2 v3 v4 v5 v6 v7 v8 v9 v10:Value):∃x,w.alloc (.cells #[v0,v1,v2,v3,v4,v5,v6,v7,v8,v9,v10] 31)=x∧w.grownBy x none∧Hid (∀y,x.grownBy y none→y.cell? ⟨w.heap.size,0,none⟩=some v0∧y.cell? ⟨w.heap.size,1,none⟩=some v1∧y.cell? ⟨w.heap.size,2,none⟩=some v2∧y.cell? ⟨w.heap.size,3,none⟩=some v3∧y.cell? ⟨w.heap.size,4,none⟩=some v4∧y.cell? ⟨w.heap.size,5,none⟩=some v5∧y.cell? ⟨w.heap.size,6,none⟩=some v6∧y.cell? ⟨w.heap.size,7,none⟩=some v7∧y.cell? ⟨w.heap.size,8,none⟩=some v8∧y.cell? ⟨w.heap.size,9,none⟩=some v9∧y.cell? ⟨w.heap.size,10,none⟩=some v10):=by
 refine ⟨_,rfl,World.grownBy_alloc _ _ _,fun y hy=>?_⟩
 have h:=(Arr.lit (heap_alloc_new w (.cells #[v0,v1,v2,v3,v4,v5,v6,v7,v8,v9,v10] 31))).lie.on hy
 exact ⟨h.cell (c:=0) (by simp),h.cell (c:=1) (by simp),h.cell (c:=2) (by simp),h.cell (c:=3) (by simp),h.cell (c:=4) (by simp),h.cell (c:=5) (by simp),h.cell (c:=6) (by simp),h.cell (c:=7) (by simp),h.cell (c:=8) (by simp),h.cell (c:=9) (by simp),h.cell (c:=10) (by simp)⟩

def Sn.shortR (s g:Nat→Int):Int:=if Sn.headB s g=true then 4 else 1

theorem Sn.shortR_no (s g:Nat→Int):(Sn.shortR s g != 0)=true:=by
 unfold Sn.shortR
 split <;> rfl

set_option maxHeartbeats 1600000 in
theorem snCheck_short (s g:Nat→Int) (nC nE nI cC cE cI:Nat) (aC aE aI:Option Addr) (w:World) (hb:¬(nC=384∧nE=32∧nI=40)) :
  Calls Tryz.prog 10 #[.agg #[.int .i64 (s 0),.int .i64 (s 1),.int .i64 (s 2),.int .i64 (s 3),.slice aC nC cC,.slice aE nE cE,.slice aI nI cI,.int .i64 (g 0),.int .i64 (g 1),.int .i64 (g 2),.int .i64 (g 3)]] w (Says w (.int .i64 (Sn.shortR s g))):=by
 obtain ⟨w0,hw0,hg0,hk⟩:=Sn.boxed w (.int .i64 (s 0)) (.int .i64 (s 1)) (.int .i64 (s 2)) (.int .i64 (s 3)) (.slice aC nC cC) (.slice aE nE cE) (.slice aI nI cI) (.int .i64 (g 0)) (.int .i64 (g 1)) (.int .i64 (g 2)) (.int .i64 (g 3))
 have ch:=hide (fun x=>headFits_any s g nC nE nI cC cE cI aC aE aI x)
 obtain ⟨A,hA⟩:∃A,Sn.shortR s g=A:=⟨_,rfl⟩
 have h1:Hid (Sn.headB s g=false→1=A):=fun h=>by rw [←hA];unfold Sn.shortR;rw [h];rfl
 have h4:Hid (Sn.headB s g=true→4=A):=fun h=>by rw [←hA];unfold Sn.shortR;rw [h];rfl
 obtain ⟨q,hq⟩:∃q,Sn.headB s g=q:=⟨_,rfl⟩
 rw [hq] at ch h1 h4
 rw [hA]
 have hgr:=hide hg0
 have hbad:=hide hb
 clear hg0 hA hq hb
 go_enter Tryz.func10,Tryz.ntmps10
 go_upto_region 1 with fail
 clear hw0
 obtain ⟨B,hB⟩:∃B,w.heap.size=B:=⟨_,rfl⟩
 rw [hB] at hk ⊢
 clear hB
 obtain ⟨b0,b1,b2,b3,b4,b5,b6,b7,b8,b9,b10⟩:=uh hk _ (World.grownBy.refl _ _)
 go_wp2_with fail
 refine (uh ch _).mono ?_
 rintro e w1 ⟨rfl,hg⟩
 have hg1:=hide (gtr (uh hgr) hg)
 clear b0 b1 b2 b3 b4 b5 b6 b7 b8 b9 b10
 obtain ⟨b0,b1,b2,b3,b4,b5,b6,b7,b8,b9,b10⟩:=uh hk _ hg
 clear hg hgr ch hk
 cases q with
 | false =>
  have hf:=hide (uh h1 rfl)
  go_wp2
  go_ret
  exact ⟨rti (uh hf),uh hg1⟩
 | true =>
  have hf:=hide (uh h4 rfl)
  clear h1 h4
  by_cases e1:nC=384
  ·subst e1
   by_cases e2:nE=32
   ·subst e2
    have e3:((nI:Int) != 40)=true:=by
     have:=uh hbad
     simp
     omega
    clear hbad
    go_wp2
    go_ret
    exact ⟨rti (uh hf),uh hg1⟩
   ·have e2':((nE:Int) != 32)=true:=by simp;omega
    clear e2 hbad
    go_wp2
    go_ret
    exact ⟨rti (uh hf),uh hg1⟩
  ·have e1':((nC:Int) != 384)=true:=by simp;omega
   clear e1 hbad
   go_wp2
   go_ret
   exact ⟨rti (uh hf),uh hg1⟩

set_option maxRecDepth 4000 in
set_option maxHeartbeats 3200000 in
theorem refHead_short (s g:Nat→Int) (nC nE nI cC cE cI:Nat) (aC aE aI:Option Addr) (w:World) (hb:¬(nC=384∧nE=32∧nI=40)) :
  Calls Tryz.prog 30 #[.agg #[.int .i64 (s 0),.int .i64 (s 1),.int .i64 (s 2),.int .i64 (s 3),.slice aC nC cC,.slice aE nE cE,.slice aI nI cI,.int .i64 (g 0),.int .i64 (g 1),.int .i64 (g 2),.int .i64 (g 3)]] w (Says w (.int .i64 (Sn.shortR s g))):=by
 obtain ⟨w0,hw0,hg0,hk⟩:=Sn.boxed w (.int .i64 (s 0)) (.int .i64 (s 1)) (.int .i64 (s 2)) (.int .i64 (s 3)) (.slice aC nC cC) (.slice aE nE cE) (.slice aI nI cI) (.int .i64 (g 0)) (.int .i64 (g 1)) (.int .i64 (g 2)) (.int .i64 (g 3))
 have hnum:=hide (fun h=>Sn.num_no (s:=s) (g:=g) h)
 obtain ⟨A,hA⟩:∃A,Sn.shortR s g=A:=⟨_,rfl⟩
 have hA1:Hid (Sn.headB s g=false→1=A):=fun h=>by rw [←hA];unfold Sn.shortR;rw [h];rfl
 have hA4:Hid (Sn.headB s g=true→4=A):=fun h=>by rw [←hA];unfold Sn.shortR;rw [h];rfl
 rw [hA]
 have hgr:=hide hg0
 have hbad:=hide hb
 clear hg0 hA hb
 go_enter Tryz.func30,Tryz.ntmps30
 go_upto_region 1 with fail
 clear hw0
 obtain ⟨B,hB⟩:∃B,w.heap.size=B:=⟨_,rfl⟩
 rw [hB] at hk ⊢
 clear hB
 obtain ⟨b0,b1,b2,b3,b4,b5,b6,b7,b8,b9,b10⟩:=uh hk _ (World.grownBy.refl _ _)
 by_cases n0:s 1<0
 ·have hf:=hide (uh hA1 (uh hnum (by omega)))
  go_wp2
  go_ret
  exact ⟨rti (uh hf),uh hgr⟩
 by_cases n1:s 1≥1073741824
 ·have hf:=hide (uh hA1 (uh hnum (by omega)))
  go_wp2
  go_ret
  exact ⟨rti (uh hf),uh hgr⟩
 by_cases n2:s 2<1
 ·have hf:=hide (uh hA1 (uh hnum (by omega)))
  go_wp2
  go_ret
  exact ⟨rti (uh hf),uh hgr⟩
 by_cases n3:s 2 > 3
 ·have hf:=hide (uh hA1 (uh hnum (by omega)))
  go_wp2
  go_ret
  exact ⟨rti (uh hf),uh hgr⟩
 by_cases n4:s 3<0
 ·have hf:=hide (uh hA1 (uh hnum (by omega)))
  go_wp2
  go_ret
  exact ⟨rti (uh hf),uh hgr⟩
 by_cases n5:s 3 > 2
 ·have hf:=hide (uh hA1 (uh hnum (by omega)))
  go_wp2
  go_ret
  exact ⟨rti (uh hf),uh hgr⟩
 have hN:Hid (Sn.numB s=true):=by
  show Sn.numB s=true
  unfold Sn.numB
  rw [decide_eq_true_eq]
  omega
 go_wp2_with fail
 clear n0 n1 n2 n3 n4 n5
 go_loop [3] (fun v3=>∃t:Nat,t≤4∧v3=.int .i64 (t:Int)∧Hid (∀j,j<t→Sn.goldB g j=true)) (fun v3=>10 - (intOf v3).toNat)
 case atStart=>exact ⟨0,by omega,rfl,fun j hj=>absurd hj (by omega)⟩
 case round =>
  obtain ⟨t,ht,rfl,hall⟩:=hrel
  by_cases hlt:t<4
  ·have hlt':(t:Int)<4:=by omega
   have HL:=hide hlt
   have bt:w0.cell? ⟨B,7+t,none⟩=some (.int .i64 (g t)):=by
    rcases (show t=0∨t=1∨t=2∨t=3 by omega) with rfl | rfl | rfl | rfl <;> assumption
   have hbad2:Hid (¬(0≤g t∧g t≤999)→1=A):=fun h=>uh hA1 (by
    unfold Sn.headB
    rw [Sn.goldsB_no (t:=t) (by unfold Sn.goldB;rw [decide_eq_false h]) (uh HL),Bool.false_and])
   clear hlt ht
   by_cases k1:g t<0
   ·have hf:=hide (uh hbad2 (by omega))
    go_wp2
    go_ret
    exact ⟨rti (uh hf),uh hgr⟩
   ·by_cases k2:g t > 999
    ·have hf:=hide (uh hbad2 (by omega))
     go_wp2
     go_ret
     exact ⟨rti (uh hf),uh hgr⟩
    ·have hq:Hid (Sn.goldB g t=true):=by
      show Sn.goldB g t=true
      unfold Sn.goldB
      rw [decide_eq_true_eq]
      omega
     go_wp2
     go_round
     case rel=>exact ⟨t+1,by have:=uh HL;omega,by go_num,fun j hj=>by
      by_cases e:j=t
      ·rw [e];exact uh hq
      ·exact uh hall j (by omega)⟩
     case measure=>simp [intOf];have:=uh HL;omega
  ·obtain rfl:t=4:=by omega
   have hge:¬((4:Nat):Int)<4:=by omega
   have hH:Hid (Sn.headB s g=true):=by
    show Sn.headB s g=true
    unfold Sn.headB
    rw [Sn.goldsB_of (uh hall),uh hN]
    rfl
   have hf:=hide (uh hA4 (uh hH))
   clear hlt ht hH hA1 hA4 hnum hN hall
   by_cases e1:nC=384
   ·subst e1
    by_cases e2:nE=32
    ·subst e2
     have e3:((nI:Int) != 40)=true:=by
      have:=uh hbad
      simp
      omega
     clear hbad
     go_wp2
     go_ret
     exact ⟨rti (uh hf),uh hgr⟩
    ·have e2':((nE:Int) != 32)=true:=by simp;omega
     clear e2 hbad
     go_wp2
     go_ret
     exact ⟨rti (uh hf),uh hgr⟩
   ·have e1':((nC:Int) != 384)=true:=by simp;omega
    clear e1 hbad
    go_wp2
    go_ret
    exact ⟨rti (uh hf),uh hgr⟩

set_option maxHeartbeats 1600000 in
theorem refCheck_short (s g:Nat→Int) (nC nE nI cC cE cI:Nat) (aC aE aI:Option Addr) (w:World) (hb:¬(nC=384∧nE=32∧nI=40)) :
  Calls Tryz.prog 11 #[.agg #[.int .i64 (s 0),.int .i64 (s 1),.int .i64 (s 2),.int .i64 (s 3),.slice aC nC cC,.slice aE nE cE,.slice aI nI cI,.int .i64 (g 0),.int .i64 (g 1),.int .i64 (g 2),.int .i64 (g 3)]] w (Says w (.int .i64 (Sn.shortR s g))):=by
 obtain ⟨w0,hw0,hg0,hk⟩:=Sn.boxed w (.int .i64 (s 0)) (.int .i64 (s 1)) (.int .i64 (s 2)) (.int .i64 (s 3)) (.slice aC nC cC) (.slice aE nE cE) (.slice aI nI cI) (.int .i64 (g 0)) (.int .i64 (g 1)) (.int .i64 (g 2)) (.int .i64 (g 3))
 have ch:=hide (fun x=>refHead_short s g nC nE nI cC cE cI aC aE aI x hb)
 have hn:=Sn.shortR_no s g
 obtain ⟨A,hA⟩:∃A,Sn.shortR s g=A:=⟨_,rfl⟩
 rw [hA] at ch hn
 rw [hA]
 have hgr:=hide hg0
 clear hg0 hA hb
 go_enter Tryz.func11,Tryz.ntmps11
 go_upto_region 1 with fail
 clear hw0
 obtain ⟨B,hB⟩:∃B,w.heap.size=B:=⟨_,rfl⟩
 rw [hB] at hk ⊢
 clear hB
 obtain ⟨b0,b1,b2,b3,b4,b5,b6,b7,b8,b9,b10⟩:=uh hk _ (World.grownBy.refl _ _)
 go_wp2_with fail
 refine (uh ch _).mono ?_
 rintro e w1 ⟨rfl,hg⟩
 have hg1:=hide (gtr (uh hgr) hg)
 clear hg hgr ch hk b0 b1 b2 b3 b4 b5 b6 b7 b8 b9 b10
 go_wp2
 go_ret
 exact ⟨rfl,uh hg1⟩

set_option maxHeartbeats 1600000 in
theorem snEncode_short (s g:Nat→Int) (nC nE nI cC cE cI:Nat) (aC aE aI:Option Addr) (w:World) (hb:¬(nC=384∧nE=32∧nI=40)) :
  Calls Tryz.prog 8 #[.agg #[.int .i64 (s 0),.int .i64 (s 1),.int .i64 (s 2),.int .i64 (s 3),.slice aC nC cC,.slice aE nE cE,.slice aI nI cI,.int .i64 (g 0),.int .i64 (g 1),.int .i64 (g 2),.int .i64 (g 3)]] w (Says w (.tuple #[.slice none 0 0,.int .i64 (Sn.shortR s g)])):=by
 obtain ⟨w0,hw0,hg0,hk⟩:=Sn.boxed w (.int .i64 (s 0)) (.int .i64 (s 1)) (.int .i64 (s 2)) (.int .i64 (s 3)) (.slice aC nC cC) (.slice aE nE cE) (.slice aI nI cI) (.int .i64 (g 0)) (.int .i64 (g 1)) (.int .i64 (g 2)) (.int .i64 (g 3))
 have ch:=hide (fun x=>snCheck_short s g nC nE nI cC cE cI aC aE aI x hb)
 have hn:=Sn.shortR_no s g
 obtain ⟨A,hA⟩:∃A,Sn.shortR s g=A:=⟨_,rfl⟩
 rw [hA] at ch hn
 rw [hA]
 have hgr:=hide hg0
 clear hg0 hA hb
 go_enter Tryz.func8,Tryz.ntmps8
 go_upto_region 1 with fail
 clear hw0
 obtain ⟨B,hB⟩:∃B,w.heap.size=B:=⟨_,rfl⟩
 rw [hB] at hk ⊢
 clear hB
 obtain ⟨b0,b1,b2,b3,b4,b5,b6,b7,b8,b9,b10⟩:=uh hk _ (World.grownBy.refl _ _)
 go_wp2_with fail
 refine (uh ch _).mono ?_
 rintro e w1 ⟨rfl,hg⟩
 have hg1:=hide (gtr (uh hgr) hg)
 clear hg hgr ch hk b0 b1 b2 b3 b4 b5 b6 b7 b8 b9 b10
 go_wp2
 go_ret2
 exact ⟨rfl,uh hg1⟩

set_option maxHeartbeats 1600000 in
theorem refEncode_short (s g:Nat→Int) (nC nE nI cC cE cI:Nat) (aC aE aI:Option Addr) (w:World) (hb:¬(nC=384∧nE=32∧nI=40)) :
  Calls Tryz.prog 9 #[.agg #[.int .i64 (s 0),.int .i64 (s 1),.int .i64 (s 2),.int .i64 (s 3),.slice aC nC cC,.slice aE nE cE,.slice aI nI cI,.int .i64 (g 0),.int .i64 (g 1),.int .i64 (g 2),.int .i64 (g 3)]] w (Says w (.tuple #[.slice none 0 0,.int .i64 (Sn.shortR s g)])):=by
 obtain ⟨w0,hw0,hg0,hk⟩:=Sn.boxed w (.int .i64 (s 0)) (.int .i64 (s 1)) (.int .i64 (s 2)) (.int .i64 (s 3)) (.slice aC nC cC) (.slice aE nE cE) (.slice aI nI cI) (.int .i64 (g 0)) (.int .i64 (g 1)) (.int .i64 (g 2)) (.int .i64 (g 3))
 have ch:=hide (fun x=>refCheck_short s g nC nE nI cC cE cI aC aE aI x hb)
 have hn:=Sn.shortR_no s g
 obtain ⟨A,hA⟩:∃A,Sn.shortR s g=A:=⟨_,rfl⟩
 rw [hA] at ch hn
 rw [hA]
 have hgr:=hide hg0
 clear hg0 hA hb
 go_enter Tryz.func9,Tryz.ntmps9
 go_upto_region 1 with fail
 clear hw0
 obtain ⟨B,hB⟩:∃B,w.heap.size=B:=⟨_,rfl⟩
 rw [hB] at hk ⊢
 clear hB
 obtain ⟨b0,b1,b2,b3,b4,b5,b6,b7,b8,b9,b10⟩:=uh hk _ (World.grownBy.refl _ _)
 go_wp2_with fail
 refine (uh ch _).mono ?_
 rintro e w1 ⟨rfl,hg⟩
 have hg1:=hide (gtr (uh hgr) hg)
 clear hg hgr ch hk b0 b1 b2 b3 b4 b5 b6 b7 b8 b9 b10
 go_wp2
 go_ret2
 exact ⟨rfl,uh hg1⟩

set_option maxHeartbeats 1600000 in
theorem snDigest_short (s g:Nat→Int) (nC nE nI cC cE cI:Nat) (aC aE aI:Option Addr) (w:World) (hb:¬(nC=384∧nE=32∧nI=40)) :
  Calls Tryz.prog 12 #[.agg #[.int .i64 (s 0),.int .i64 (s 1),.int .i64 (s 2),.int .i64 (s 3),.slice aC nC cC,.slice aE nE cE,.slice aI nI cI,.int .i64 (g 0),.int .i64 (g 1),.int .i64 (g 2),.int .i64 (g 3)]] w (Says w (.int .u64 0)):=by
 obtain ⟨w0,hw0,hg0,hk⟩:=Sn.boxed w (.int .i64 (s 0)) (.int .i64 (s 1)) (.int .i64 (s 2)) (.int .i64 (s 3)) (.slice aC nC cC) (.slice aE nE cE) (.slice aI nI cI) (.int .i64 (g 0)) (.int .i64 (g 1)) (.int .i64 (g 2)) (.int .i64 (g 3))
 have ch:=hide (fun x=>snEncode_short s g nC nE nI cC cE cI aC aE aI x hb)
 have hn:=Sn.shortR_no s g
 obtain ⟨A,hA⟩:∃A,Sn.shortR s g=A:=⟨_,rfl⟩
 rw [hA] at ch hn
 have hgr:=hide hg0
 clear hg0 hA hb
 go_enter Tryz.func12,Tryz.ntmps12
 go_upto_region 1 with fail
 clear hw0
 obtain ⟨B,hB⟩:∃B,w.heap.size=B:=⟨_,rfl⟩
 rw [hB] at hk ⊢
 clear hB
 obtain ⟨b0,b1,b2,b3,b4,b5,b6,b7,b8,b9,b10⟩:=uh hk _ (World.grownBy.refl _ _)
 go_wp2_with fail
 refine (uh ch _).mono ?_
 rintro e w1 ⟨rfl,hg⟩
 have hg1:=hide (gtr (uh hgr) hg)
 clear hg hgr ch hk b0 b1 b2 b3 b4 b5 b6 b7 b8 b9 b10
 go_wp2
 go_ret
 exact ⟨rfl,uh hg1⟩

set_option maxHeartbeats 1600000 in
theorem refDigest_short (s g:Nat→Int) (nC nE nI cC cE cI:Nat) (aC aE aI:Option Addr) (w:World) (hb:¬(nC=384∧nE=32∧nI=40)) :
  Calls Tryz.prog 13 #[.agg #[.int .i64 (s 0),.int .i64 (s 1),.int .i64 (s 2),.int .i64 (s 3),.slice aC nC cC,.slice aE nE cE,.slice aI nI cI,.int .i64 (g 0),.int .i64 (g 1),.int .i64 (g 2),.int .i64 (g 3)]] w (Says w (.int .u64 0)):=by
 obtain ⟨w0,hw0,hg0,hk⟩:=Sn.boxed w (.int .i64 (s 0)) (.int .i64 (s 1)) (.int .i64 (s 2)) (.int .i64 (s 3)) (.slice aC nC cC) (.slice aE nE cE) (.slice aI nI cI) (.int .i64 (g 0)) (.int .i64 (g 1)) (.int .i64 (g 2)) (.int .i64 (g 3))
 have ch:=hide (fun x=>refEncode_short s g nC nE nI cC cE cI aC aE aI x hb)
 have hn:=Sn.shortR_no s g
 obtain ⟨A,hA⟩:∃A,Sn.shortR s g=A:=⟨_,rfl⟩
 rw [hA] at ch hn
 have hgr:=hide hg0
 clear hg0 hA hb
 go_enter Tryz.func13,Tryz.ntmps13
 go_upto_region 1 with fail
 clear hw0
 obtain ⟨B,hB⟩:∃B,w.heap.size=B:=⟨_,rfl⟩
 rw [hB] at hk ⊢
 clear hB
 obtain ⟨b0,b1,b2,b3,b4,b5,b6,b7,b8,b9,b10⟩:=uh hk _ (World.grownBy.refl _ _)
 go_wp2_with fail
 refine (uh ch _).mono ?_
 rintro e w1 ⟨rfl,hg⟩
 have hg1:=hide (gtr (uh hgr) hg)
 clear hg hgr ch hk b0 b1 b2 b3 b4 b5 b6 b7 b8 b9 b10
 go_wp2
 go_ret
 exact ⟨rfl,uh hg1⟩


open Go.RowKit

theorem wpList_append_li {w:World} {ops:Array Oper} {rest:List Oper} {o:Oper} {a:Act} {Q:Exit→Act→World→Prop} (hgd:o.guard=none) (s x:Operand) (t:TypeId) (ho:o.op=.call { callee:=.builtin .append,args:=#[s,x],argTypes:=#[t,t] })
  (base:Nat) (e:TypeId) (i:TypeInfo) (z:Value) (size bytes:Nat) (ht:Tryz.prog.underlying t=some (.slice e)) (hi:Tryz.prog.info? e=some i) (hz:i.zero=some z)
  (hsize:i.size=size) (hby:i.bytes=bytes) (hzs:z.cells.size=size) (hsz:0<size)
  (v:Value) (hs:a.eval s=v) (hown:w.ownsRow base e size v 0 []) (u:Value) (m:Nat) (F:Nat→Value) (hx:a.eval x=u) (hl:Sn.Li w e size u m F) (h1:∀c,(F c).oneCell'=true)
  (hb:m*bytes≤140737488355328) (hm:m≤maxLen) (hbase:base≤w.heap.size)
  (h:∀v' w',w'.ownsRow base e size v' m (Gd.list (m*size) F)→w.grownBy w' v.ownBlock→(v≠.slice none 0 0→v'≠.slice none 0 0)→wpList Tryz.prog ops Q rest (a.put o.dst v') w'):wpList Tryz.prog ops Q (o :: rest) a w:=by
 rcases hl with ⟨rfl,rfl⟩ | ⟨g,cap,rfl,h4⟩
 ·refine wpList_append_own_none hgd s x t ho base e i size ht hi v 0 [] hs hown hx ?_
  refine h v w ?_ (World.grownBy.refl _ _) (fun q=>q)
  rw [Nat.zero_mul]
  exact hown
 ·refine wpList_append_own w hgd s x t ho base e i z size bytes ht hi hz hsize hby hzs hsz v 0 [] hs hown ⟨g,0,none⟩ m cap (Gd.list (m*size) F) hx (Gd.list_len _ _) (Gd.list_src fun q hq=>h4.cell hq) (Gd.list_one h1) (by omega) (by rw [Nat.zero_add];exact hb) hbase ?_
  intro v' w' k1 k2 k3
  rw [Nat.zero_add,List.nil_append] at k1
  exact h v' w' k1 k2 (fun q r=>q (k3.1 r).1)

def Sn.wbox (s g:Nat→Int) (vC vE vI:Value) (j:Nat):Value:=(Sn.wide s g vC vE vI)[j]?.getD undef

theorem Sn.wbox_set (s g:Nat→Int) (vC vE vI u:Value):(∀j,j<11→(if j=4 then u else Sn.wbox s g vC vE vI j)=Sn.wbox s g u vE vI j)∧(∀j,j<11→(if j=5 then u else Sn.wbox s g vC vE vI j)=Sn.wbox s g vC u vI j)∧(∀j,j<11→(if j=6 then u else Sn.wbox s g vC vE vI j)=Sn.wbox s g vC vE u j):=by
 refine ⟨fun j hj=>?_,fun j hj=>?_,fun j hj=>?_⟩ <;> rcases (show j=0∨j=1∨j=2∨j=3∨j=4∨j=5∨j=6∨j=7∨j=8∨j=9∨j=10 by omega) with rfl | rfl | rfl | rfl | rfl | rfl | rfl | rfl | rfl | rfl | rfl <;> rfl

theorem Sn.wbox_cells {x:World} {B:Nat} {s g:Nat→Int} {vC vE vI:Value} (h:Lie x B 31 11 (Sn.wbox s g vC vE vI)) :
  x.cell? ⟨B,0,none⟩=some (.int .i64 (s 0))∧x.cell? ⟨B,1,none⟩=some (.int .i64 (s 1))∧x.cell? ⟨B,2,none⟩=some (.int .i64 (s 2))∧x.cell? ⟨B,3,none⟩=some (.int .i64 (s 3))∧x.cell? ⟨B,4,none⟩=some vC∧x.cell? ⟨B,5,none⟩=some vE∧x.cell? ⟨B,6,none⟩=some vI∧x.cell? ⟨B,7,none⟩=some (.int .i64 (g 0))∧x.cell? ⟨B,8,none⟩=some (.int .i64 (g 1))∧x.cell? ⟨B,9,none⟩=some (.int .i64 (g 2))∧x.cell? ⟨B,10,none⟩=some (.int .i64 (g 3)) :=
 ⟨h.cell (by omega),h.cell (by omega),h.cell (by omega),h.cell (by omega),h.cell (by omega),h.cell (by omega),h.cell (by omega),h.cell (by omega),h.cell (by omega),h.cell (by omega),h.cell (by omega)⟩

theorem Sn.wide_lie (x:World) (s g:Nat→Int) (vC vE vI:Value):Lie (x.alloc (.cells (Sn.wide s g vC vE vI) 31)) x.heap.size 31 11 (Sn.wbox s g vC vE vI):=(Arr.lit (heap_alloc_new x _)).lie

structure Sn.Newly (x:World) (b gC gE gI nC nE nI cC cE cI:Nat) (c:Nat→Int) (E I:Nat→Nat→Int):Prop where
 cells:Lie x gC 5 (nC*1) (Byts c)
 ents:Lie x gE 61 (nE*11) (En.flat E)
 items:Lie x gI 63 (nI*4) (Gd.flat I)
 lC:b≤gC
 lE:b≤gE
 lI:b≤gI
 kC:nC≤cC∧cC≤maxLen
 kE:nE≤cE∧cE≤maxLen
 kI:nI≤cI∧cI≤maxLen

theorem Sn.Newly.on {x y:World} {b gC gE gI nC nE nI cC cE cI:Nat} {c:Nat→Int} {E I:Nat→Nat→Int} (h:Sn.Newly x b gC gE gI nC nE nI cC cE cI c E I) (hg:x.grownBy y none):Sn.Newly y b gC gE gI nC nE nI cC cE cI c E I :=
 { h with cells:=h.cells.on hg,ents:=h.ents.on hg,items:=h.items.on hg }

theorem Sn.Newly.lis {x:World} {b gC gE gI nC nE nI cC cE cI:Nat} {c:Nat→Int} {E I:Nat→Nat→Int} (h:Sn.Newly x b gC gE gI nC nE nI cC cE cI c E I):Sn.Lis x (.slice (some ⟨gC,0,none⟩) nC cC) (.slice (some ⟨gE,0,none⟩) nE cE) (.slice (some ⟨gI,0,none⟩) nI cI) nC nE nI c E I :=
 ⟨.inr ⟨gC,cC,rfl,h.cells⟩,.inr ⟨gE,cE,rfl,h.ents⟩,.inr ⟨gI,cI,rfl,h.items⟩,fun _ _ _ e=>by cases e;exact h.kE.1⟩

def Sn.Gets (w:World) (s g c:Nat→Int) (E I:Nat→Nat→Int) (nC nE nI:Nat) (e:Ending) (w':World):Prop :=
 ∃gC gE gI cC cE cI,e=.returned (.agg (Sn.wide s g (.slice (some ⟨gC,0,none⟩) nC cC) (.slice (some ⟨gE,0,none⟩) nE cE) (.slice (some ⟨gI,0,none⟩) nI cI)))∧Sn.Newly w' w.heap.size gC gE gI nC nE nI cC cE cI c E I∧w.grownBy w' none

def Sn.GetsO (w:World) (s g c:Nat→Int) (E I:Nat→Nat→Int) (nC nE nI:Nat) (e:Ending) (w':World):Prop :=
 ∃gC gE gI cC cE cI,e=.returned (.agg (Sn.wide s g (.slice (some ⟨gC,0,none⟩) nC cC) (.slice (some ⟨gE,0,none⟩) nE cE) (.slice (some ⟨gI,0,none⟩) nI cI)))∧Sn.Newly w' w.heap.size gC gE gI nC nE nI cC cE cI c E I∧w'.ownsRow w.heap.size 63 4 (.slice (some ⟨gI,0,none⟩) nI cI) nI (Gd.list (nI*4) (Gd.flat I))∧w.grownBy w' none

theorem Sn.own_down {x:World} {b b' n z:Nat} {T:TypeId} {v:Value} {xs:List Value} (h:x.ownsRow b T z v n xs) (hb:b'≤b):x.ownsRow b' T z v n xs:=by
 refine ⟨h.1,?_⟩
 rcases h.2 with q | ⟨g,c,cur,h1,h2,h3⟩
 ·exact .inl q
 ·exact .inr ⟨g,c,cur,h1,Nat.le_trans hb h2,h3⟩

theorem Sn.made_row {w':World} {b n z:Nat} {T:TypeId} {v:Value} {F:Nat→Value} (h:w'.ownsRow b T z v n (Gd.list (n*z) F)) (hv:v≠.slice none 0 0):∃g cap,v=.slice (some ⟨g,0,none⟩) n cap∧b≤g∧(n≤cap∧cap≤maxLen)∧Lie w' g T (n*z) F:=by
 obtain ⟨g,cap,rfl,h1,h2,h3⟩:=Lie.of_append h hv
 rcases h.2 with ⟨e,_⟩ | ⟨g',cap',cur,e,_,_,_,h4,_⟩
 ·cases e
 ·simp only [Value.slice.injEq] at e
  exact ⟨g,cap,rfl,h1,⟨h2,by rw [e.2.2];exact h4⟩,h3⟩

structure Sn.Par (w x:World) (B:Nat) (vC vE vI:Value) (s g:Nat→Int):Prop where
 box:Lie x B 31 11 (Sn.wbox s g vC vE vI)
 res:Lie x (B+1) 31 11 (fun j=>#[.int .i64 0,.int .i64 0,.int .i64 0,.int .i64 0,.slice none 0 0,.slice none 0 0,.slice none 0 0,.int .i64 0,.int .i64 0,.int .i64 0,Value.int .i64 0][j]?.getD undef)
 at_:w.heap.size=B
 two:B+2≤x.heap.size
 grown:w.grownBy x none

theorem Sn.Par.on {w x y:World} {B:Nat} {vC vE vI:Value} {s g:Nat→Int} (h:Sn.Par w x B vC vE vI s g) (hg:x.grownBy y none):Sn.Par w y B vC vE vI s g :=
 ⟨h.box.on hg,h.res.on hg,h.at_,Nat.le_trans h.two hg.size,gtr h.grown hg⟩

theorem Sn.Par.set {w x:World} {B:Nat} {vC vE vI uC uE uI:Value} {s g s' g':Nat→Int} (h:Sn.Par w x B vC vE vI s g) (i:Nat) (v:Value) (he:∀j,j<11→(if j=i then v else Sn.wbox s g vC vE vI j)=Sn.wbox s' g' uC uE uI j):Sn.Par w (x.setCell ⟨B,i,none⟩ v) B uC uE uI s' g':=by
 have hB:=h.at_
 have r:=gs0 x B i v
 exact ⟨(h.box.store i v).congr he,h.res.grown r (by simp),h.at_,by simpa using h.two,gsr h.grown ⟨B,i,none⟩ (by show w.heap.size≤B;omega) v⟩

set_option maxRecDepth 8000 in
set_option maxHeartbeats 6400000 in
theorem refTwin_own (s g c:Nat→Int) (E I:Nat→Nat→Int) (vC vE vI:Value) (nC nE nI:Nat) (w:World) (hL:Sn.Lis w vC vE vI nC nE nI c E I) (mC:nC≤1000) (mE:nE≤1000) (mI:nI≤1000) :
  Calls Tryz.prog 7 #[.agg (Sn.wide s g vC vE vI)] w (Sn.GetsO w s g c E I nC nE nI):=by
 obtain ⟨w0,hw0⟩:∃x,x=(w.alloc (.cells (Sn.wide s g vC vE vI) 31)).alloc (.cells #[.int .i64 0,.int .i64 0,.int .i64 0,.int .i64 0,.slice none 0 0,.slice none 0 0,.slice none 0 0,.int .i64 0,.int .i64 0,.int .i64 0,.int .i64 0] 31):=⟨_,rfl⟩
 have hP0:Hid (Sn.Par w w0 w.heap.size vC vE vI s g):=by
  have h:=Arr.lit (heap_alloc_new (w.alloc (.cells (Sn.wide s g vC vE vI) 31)) (.cells #[.int .i64 0,.int .i64 0,.int .i64 0,.int .i64 0,.slice none 0 0,.slice none 0 0,.slice none 0 0,.int .i64 0,.int .i64 0,.int .i64 0,.int .i64 0] 31))
  rw [show (w.alloc (.cells (Sn.wide s g vC vE vI) 31)).heap.size=w.heap.size+1 by simp] at h
  refine ⟨?_,?_,rfl,?_,?_⟩
  ·rw [hw0];exact (Sn.wide_lie w s g vC vE vI).on (World.grownBy_alloc _ _ _)
  ·rw [hw0];exact h.lie
  ·rw [hw0];simp
  ·rw [hw0];exact gal (World.grownBy_alloc _ _ _) _
 obtain ⟨B,hB⟩:∃B,w.heap.size=B:=⟨_,rfl⟩
 rw [hB] at hP0
 have hL':Hid (∀x,w.grownBy x none→Sn.Lis x vC vE vI nC nE nI c E I):=fun x hx=>hL.on hx
 obtain ⟨iB,hiB,hzB0,hzB1,hzB2⟩:=info_parts info_byte
 obtain ⟨iE,hiE,hzE0,hzE1,hzE2⟩:=info_parts info_ent
 obtain ⟨iI,hiI,hzI0,hzI1,hzI2⟩:=info_parts info_item
 have hB':=hide hB
 have HM:=hide (And.intro mC (And.intro mE mI))
 obtain ⟨aC,kC,rfl⟩:=hL.cells.is
 obtain ⟨aE,kE,rfl⟩:=hL.ents.is
 obtain ⟨aI,kI,rfl⟩:=hL.items.is
 clear hL mC mE mI
 unfold Sn.wide at hw0 ⊢
 clear hB
 go_enter Tryz.func7,Tryz.ntmps7
 go_upto_region 1 with fail
 rw [←hw0,uh hB']
 clear hw0
 obtain ⟨-,-,-,-,q4,-,-,-,-,-,-⟩:=Sn.wbox_cells (uh hP0).box
 have fB:=(uh hP0).box.free
 have lB:=(uh hP0).box.lt
 go_upto_region 1 with fail
 go_cut [] from 3 (fun wx=>∃g1 c1,Hid (Sn.Par w wx B (.slice (some ⟨g1,0,none⟩) nC c1) (.slice aE nE kE) (.slice aI nI kI) s g)∧Hid ((Lie wx g1 5 (nC*1) (Byts c)∧B+2≤g1∧(nC≤c1∧c1≤maxLen))))
 case first =>
  have hoz:Hid ((w0.alloc (.cells #[] 5)).ownsRow w0.heap.size 5 1 (.slice (some ⟨w0.heap.size,0,none⟩) 0 0) 0 []):=World.ownsRow_made _ _ _ (Nat.le_refl _) (by decide) (by simp)
  have hli:Hid (Sn.Li (w0.alloc (.cells #[] 5)) 5 1 (.slice aC nC kC) nC (Byts c)):=(uh hL' _ (gtr (uh hP0).grown (World.grownBy_alloc _ _ _))).cells
  have hsz:Hid (w0.heap.size≤(w0.alloc (.cells #[] 5)).heap.size):=(World.grownBy_alloc w0 _ none).size
  have hm1:Hid (nC*1≤140737488355328∧nC≤maxLen):=(show _∧_ by have:=uh HM;unfold maxLen;omega)
  go_wp2_with (at_builtin;refine wpList_append_li rfl _ _ 26 rfl w0.heap.size 5 iB (.int .u8 0) 1 1 Tryz.underlying26 hiB hzB0 hzB1 hzB2 rfl (by decide) _ rfl (uh hoz) _ nC (Byts c) rfl (uh hli) (fun _=>rfl) (uh hm1).1 (uh hm1).2 (uh hsz) ?_)
  intro v' w1 hown hgrow hnil
  obtain ⟨g9,c9,rfl,hlo,hnc,hlie⟩:=Sn.made_row (n:=nC) (z:=1) (F:=(Byts c)) (by first | exact hown | (rw [Nat.mul_one];exact hown)) (by simpa using hnil)
  have hg9:=gow (World.grownBy_alloc w0 _ none) hgrow (fun k e=>by cases e;exact Nat.le_refl _)
  have hP9:=hide ((uh hP0).on hg9)
  obtain ⟨-,-,-,-,y4,-,-,-,-,-,-⟩:=Sn.wbox_cells (uh hP9).box
  have fB9:=(uh hP9).box.free
  have hl9:=hide hlie
  have hlo9:=hide hlo
  have hnc9:=hide hnc
  have hg9':=hide hg9
  clear hown hgrow hnil hlie hlo hnc hg9 q4 fB lB hoz hli hsz hm1
  go_wp2_with fail
  go_meet
  have htw:=(uh hP0).two
  have hlo:=uh hlo9
  exact ⟨g9,c9,(uh hP9).set 4 _ (Sn.wbox_set s g _ _ _ _).1,⟨(uh hl9).other (by omega) _ _,by omega,uh hnc9⟩⟩
 case rest =>
  obtain ⟨g1,c1,hP1,hL1⟩:=hcut
  clear q4 fB lB hP0
  obtain ⟨-,-,-,-,-,q5,-,-,-,-,-⟩:=Sn.wbox_cells (uh hP1).box
  have fB:=(uh hP1).box.free
  have lB:=(uh hP1).box.lt
  go_upto_region 2 with fail
  go_cut [] from 8 (fun wx=>∃g2 c2,Hid (Sn.Par w wx B (.slice (some ⟨g1,0,none⟩) nC c1) (.slice (some ⟨g2,0,none⟩) nE c2) (.slice aI nI kI) s g)∧Hid ((Lie wx g1 5 (nC*1) (Byts c)∧B+2≤g1∧(nC≤c1∧c1≤maxLen))∧(Lie wx g2 61 (nE*11) (En.flat E)∧B+2≤g2∧(nE≤c2∧c2≤maxLen))))
  case first =>
   have hoz:Hid ((wc.alloc (.cells #[] 61)).ownsRow wc.heap.size 61 11 (.slice (some ⟨wc.heap.size,0,none⟩) 0 0) 0 []):=World.ownsRow_made _ _ _ (Nat.le_refl _) (by decide) (by simp)
   have hli:Hid (Sn.Li (wc.alloc (.cells #[] 61)) 61 11 (.slice aE nE kE) nE (En.flat E)):=(uh hL' _ (gtr (uh hP1).grown (World.grownBy_alloc _ _ _))).ents
   have hsz:Hid (wc.heap.size≤(wc.alloc (.cells #[] 61)).heap.size):=(World.grownBy_alloc wc _ none).size
   have hm1:Hid (nE*88≤140737488355328∧nE≤maxLen):=(show _∧_ by have:=uh HM;unfold maxLen;omega)
   go_wp2_with (at_builtin;refine wpList_append_li rfl _ _ 27 rfl wc.heap.size 61 iE (.agg #[.int .i64 0,.int .i64 0,.int .i64 0,.int .i64 0,.int .i64 0,.int .i64 0,.int .i64 0,.int .i64 0,.int .i64 0,.int .i64 0,.int .i64 0]) 11 88 Tryz.underlying27 hiE hzE0 hzE1 hzE2 rfl (by decide) _ rfl (uh hoz) _ nE (En.flat E) rfl (uh hli) (fun _=>rfl) (uh hm1).1 (uh hm1).2 (uh hsz) ?_)
   intro v' w1 hown hgrow hnil
   obtain ⟨g9,c9,rfl,hlo,hnc,hlie⟩:=Sn.made_row (n:=nE) (z:=11) (F:=(En.flat E)) (by first | exact hown | (rw [Nat.mul_one];exact hown)) (by simpa using hnil)
   have hg9:=gow (World.grownBy_alloc wc _ none) hgrow (fun k e=>by cases e;exact Nat.le_refl _)
   have hP9:=hide ((uh hP1).on hg9)
   obtain ⟨-,-,-,-,-,y5,-,-,-,-,-⟩:=Sn.wbox_cells (uh hP9).box
   have fB9:=(uh hP9).box.free
   have hl9:=hide hlie
   have hlo9:=hide hlo
   have hnc9:=hide hnc
   have hg9':=hide hg9
   clear hown hgrow hnil hlie hlo hnc hg9 q5 fB lB hoz hli hsz hm1
   go_wp2_with fail
   go_meet
   have htw:=(uh hP1).two
   have hlo:=uh hlo9
   obtain ⟨p0,l0,m0⟩:=uh hL1
   exact ⟨g9,c9,(uh hP9).set 5 _ (Sn.wbox_set s g _ _ _ _).2.1,⟨⟨(p0.on (uh hg9')).other (by omega) _ _,l0,m0⟩,⟨(uh hl9).other (by omega) _ _,by omega,uh hnc9⟩⟩⟩
  case rest =>
   obtain ⟨g2,c2,hP2,hL2⟩:=hcut
   clear q5 fB lB hP1 hL1
   obtain ⟨-,-,-,-,-,-,q6,-,-,-,-⟩:=Sn.wbox_cells (uh hP2).box
   have fB:=(uh hP2).box.free
   have lB:=(uh hP2).box.lt
   go_upto_region 3 with fail
   go_cut [] from 13 (fun wx=>∃g3 c3,Hid (Sn.Par w wx B (.slice (some ⟨g1,0,none⟩) nC c1) (.slice (some ⟨g2,0,none⟩) nE c2) (.slice (some ⟨g3,0,none⟩) nI c3) s g)∧Hid ((Lie wx g1 5 (nC*1) (Byts c)∧B+2≤g1∧(nC≤c1∧c1≤maxLen))∧(Lie wx g2 61 (nE*11) (En.flat E)∧B+2≤g2∧(nE≤c2∧c2≤maxLen))∧(Lie wx g3 63 (nI*4) (Gd.flat I)∧B+2≤g3∧(nI≤c3∧c3≤maxLen)))∧Hid (wx.ownsRow (B+2) 63 4 (.slice (some ⟨g3,0,none⟩) nI c3) nI (Gd.list (nI*4) (Gd.flat I))))
   case first =>
    have hoz:Hid ((wc.alloc (.cells #[] 63)).ownsRow wc.heap.size 63 4 (.slice (some ⟨wc.heap.size,0,none⟩) 0 0) 0 []):=World.ownsRow_made _ _ _ (Nat.le_refl _) (by decide) (by simp)
    have hli:Hid (Sn.Li (wc.alloc (.cells #[] 63)) 63 4 (.slice aI nI kI) nI (Gd.flat I)):=(uh hL' _ (gtr (uh hP2).grown (World.grownBy_alloc _ _ _))).items
    have hsz:Hid (wc.heap.size≤(wc.alloc (.cells #[] 63)).heap.size):=(World.grownBy_alloc wc _ none).size
    have hm1:Hid (nI*32≤140737488355328∧nI≤maxLen):=(show _∧_ by have:=uh HM;unfold maxLen;omega)
    go_wp2_with (at_builtin;refine wpList_append_li rfl _ _ 28 rfl wc.heap.size 63 iI (.agg #[.int .i64 0,.int .i64 0,.int .i64 0,.int .i64 0]) 4 32 Tryz.underlying28 hiI hzI0 hzI1 hzI2 rfl (by decide) _ rfl (uh hoz) _ nI (Gd.flat I) rfl (uh hli) (fun _=>rfl) (uh hm1).1 (uh hm1).2 (uh hsz) ?_)
    intro v' w1 hown hgrow hnil
    obtain ⟨g9,c9,rfl,hlo,hnc,hlie⟩:=Sn.made_row (n:=nI) (z:=4) (F:=(Gd.flat I)) (by first | exact hown | (rw [Nat.mul_one];exact hown)) (by simpa using hnil)
    have hg9:=gow (World.grownBy_alloc wc _ none) hgrow (fun k e=>by cases e;exact Nat.le_refl _)
    have hP9:=hide ((uh hP2).on hg9)
    obtain ⟨-,-,-,-,-,-,y6,-,-,-,-⟩:=Sn.wbox_cells (uh hP9).box
    have fB9:=(uh hP9).box.free
    have ho9:=hide hown
    have hl9:=hide hlie
    have hlo9:=hide hlo
    have hnc9:=hide hnc
    have hg9':=hide hg9
    clear hown hgrow hnil hlie hlo hnc hg9 q6 fB lB hoz hli hsz hm1
    go_wp2_with fail
    go_meet
    have htw:=(uh hP2).two
    have hlo:=uh hlo9
    obtain ⟨⟨p0,l0,m0⟩,⟨p1,l1,m1⟩⟩:=uh hL2
    exact ⟨g9,c9,(uh hP9).set 6 _ (Sn.wbox_set s g _ _ _ _).2.2,⟨⟨(p0.on (uh hg9')).other (by omega) _ _,l0,m0⟩,⟨(p1.on (uh hg9')).other (by omega) _ _,l1,m1⟩,⟨(uh hl9).other (by omega) _ _,by omega,uh hnc9⟩⟩,Sn.own_down (ownsRow_setCell_below (uh ho9) (show B<wc.heap.size by omega) _) htw⟩
   case rest =>
    obtain ⟨g3,c3,hP3,hL3,hO3⟩:=hcut
    clear q6 fB lB hP2 hL2
    obtain ⟨b0,b1,b2,b3,b4,b5,b6,b7,b8,b9,b10⟩:=Sn.wbox_cells (uh hP3).box
    have fz:=(uh hP3).res.free
    obtain ⟨z0,z1,z2,z3,z4,z5,z6,z7,z8,z9,z10⟩:=Gd.res_cells (uh hP3).res
    have hfin:Hid (∀vs,Sn.GetsO w s g c E I nC nE nI (.returned (.agg (Sn.wide s g (.slice (some ⟨g1,0,none⟩) nC c1) (.slice (some ⟨g2,0,none⟩) nE c2) (.slice (some ⟨g3,0,none⟩) nI c3)))) (wc.setCells (B+1) 0 vs)):=fun vs=>by
     obtain ⟨⟨p0,l0,m0⟩,⟨p1,l1,m1⟩,p2,l2,m2⟩:=uh hL3
     have hB:=uh hB'
     have hr:=(uh hP3).res
     exact ⟨g1,g2,g3,c1,c2,c3,rfl,⟨p0.others (by omega) _ _,p1.others (by omega) _ _,p2.others (by omega) _ _,by omega,by omega,by omega,m0,m1,m2⟩,Sn.own_down ((uh hO3).kept (gss (g:=B+1) vs 0 wc (World.grownBy.refl _ _)) (.inr (by simp [Value.ownBlock];omega))) (by omega),own_sets (by omega) vs 0 wc (uh hP3).grown⟩
    unfold Sn.wide at hfin
    go_wp2
    refine bodyPost_ret (v:=.agg #[.int .i64 (s 0),.int .i64 (s 1),.int .i64 (s 2),.int .i64 (s 3),.slice (some ⟨g1,0,none⟩) nC c1,.slice (some ⟨g2,0,none⟩) nE c2,.slice (some ⟨g3,0,none⟩) nI c3,.int .i64 (g 0),.int .i64 (g 1),.int .i64 (g 2),.int .i64 (g 3)]) (by simp [results,Tryz.results7,go_sem,z0,z1,z2,z3,z4,z5,z6,z7,z8,z9,z10]) rfl ?_
    exact uh hfin [_,_,_,_,_,_,_,_,_,_,_]

theorem refTwin_wide (s g c:Nat→Int) (E I:Nat→Nat→Int) (vC vE vI:Value) (nC nE nI:Nat) (w:World) (hL:Sn.Lis w vC vE vI nC nE nI c E I) (mC:nC≤1000) (mE:nE≤1000) (mI:nI≤1000) :
  Calls Tryz.prog 7 #[.agg (Sn.wide s g vC vE vI)] w (Sn.Gets w s g c E I nC nE nI) :=
 (refTwin_own s g c E I vC vE vI nC nE nI w hL mC mE mI).mono fun _ _ ⟨gC,gE,gI,cC,cE,cI,h1,h2,_,h3⟩=>⟨gC,gE,gI,cC,cE,cI,h1,h2,h3⟩

end Go.Proofs.YtepppmepilffcaaGreat
