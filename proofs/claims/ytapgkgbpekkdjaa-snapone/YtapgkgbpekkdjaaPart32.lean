import Derived.Test.YtapgkgbpekkdjaaPart31
namespace Go.Proofs.Ytapgkgbpekkdjaa
open Go.RowKit

def Sn.allB (q:Nat→Bool):Nat→Bool
 | 0=>true
 | n+1=>Sn.allB q n && q n

theorem Sn.allB_yes {q:Nat→Bool}:∀{n:Nat},(∀k,k<n→q k=true)→Sn.allB q n=true
 | 0,_=>rfl
 | n+1,h=>by
  show (Sn.allB q n && q n)=true
  rw [Sn.allB_yes (fun k hk=>h k (by omega)),h n (by omega)]
  rfl

theorem Sn.allB_no {q:Nat→Bool} {k:Nat} (hk:q k=false):∀{n:Nat},k<n→Sn.allB q n=false
 | 0,h=>absurd h (by omega)
 | n+1,h=>by
  show (Sn.allB q n && q n)=false
  by_cases e:k=n
  ·rw [←e,hk,Bool.and_false]
  ·rw [Sn.allB_no hk (by omega),Bool.false_and]

set_option maxRecDepth 8000 in
set_option maxHeartbeats 3200000 in
theorem snEqualB_any (G H cap cap':Nat) (c d:Nat→Int) (w:World) (h1:Lie w G 5 384 (Byts c)) (h2:Lie w H 5 384 (Byts d)) :
  Calls Try.prog 40 #[.slice (some ⟨G,0,none⟩) 384 cap,.slice (some ⟨H,0,none⟩) 384 cap'] w (Says w (.bool (Sn.allB (fun i=>c i == d i) 384))):=by
 have h1':=hide h1
 have h2':=hide h2
 obtain ⟨A,hA⟩:∃A,Sn.allB (fun i=>c i == d i) 384=A:=⟨_,rfl⟩
 have hno:Hid (∀k,k<384→(fun i=>c i == d i) k=false→false=A):=fun k hk h=>by rw [←hA,Sn.allB_no h hk]
 have hyes:Hid ((∀k,k<384→(fun i=>c i == d i) k=true)→true=A):=fun h=>by rw [←hA,Sn.allB_yes h]
 rw [hA]
 clear h1 h2 hA
 go_enter Try.func40,Try.ntmps40
 go_wp2_with fail
 go_loopw [5,13] (fun v5 v13 wr=>∃k:Nat,k≤384∧v13=.int .i64 (k:Int)∧Hid (∀j,j<k→(fun i=>c i == d i) j=true)∧Hid (w.grownBy wr none)) (fun _ v13 _=>400 - (intOf v13).toNat)
 case atStart=>exact ⟨0,by omega,rfl,fun j hj=>absurd hj (by omega),World.grownBy.refl _ _⟩
 case round =>
  obtain ⟨k,hk,rfl,hall,hg⟩:=hrel
  by_cases hlt:k<384
  ·have hlt':(k:Int)<384:=by omega
   have HL:=hide hlt
   clear hlt hk
   have u0:wr.cell? ⟨G,k,none⟩=some (.int .u8 (c k)):=((uh h1').on (uh hg)).cell (uh HL)
   have v0:wr.cell? ⟨H,k,none⟩=some (.int .u8 (d k)):=((uh h2').on (uh hg)).cell (uh HL)
   obtain ⟨p,hpe⟩:∃p,(c k == d k)=p:=⟨_,rfl⟩
   have hq:Hid ((fun i=>c i == d i) k=p):=hpe
   have hp:(c k != d k)=!p:=by rw [←hpe];rfl
   clear hpe
   have hdr:Hid (∀m,w.grownBy (wr.drewN m) none):=fun m=>gdw (uh hg) m
   cases p with
   | true =>
    go_wp2_with fail
    go_quiet (fail)
    go_wp2
    go_roundw
    case rel=>exact ⟨k+1,by have:=uh HL;omega,by go_num,fun j hj=>by
     by_cases e:j=k
     ·rw [e];exact uh hq
     ·exact uh hall j (by omega),uh hdr _⟩
    case measure=>simp [intOf];have:=uh HL;omega
   | false =>
    have hf:=hide (uh hno k (uh HL) (uh hq))
    go_wp2_with fail
    go_quiet (fail)
    have hgf:=hide (uh hdr nq)
    go_wp2
    go_ret
    exact ⟨ret_bool (uh hf),uh hgf⟩
  ·have hge:¬(k:Int)<384:=by omega
   have hf:=hide (uh hyes (fun j hj=>uh hall j (by omega)))
   clear hlt hk
   go_wp2
   go_ret
   exact ⟨ret_bool (uh hf),uh hg⟩

set_option maxRecDepth 8000 in
set_option maxHeartbeats 3200000 in
theorem snEqualE_any (G H cap cap':Nat) (c d:Nat→Nat→Int) (w:World) (h1:Lie w G 45 352 (En.flat c)) (h2:Lie w H 45 352 (En.flat d)) :
  Calls Try.prog 41 #[.slice (some ⟨G,0,none⟩) 32 cap,.slice (some ⟨H,0,none⟩) 32 cap'] w (Says w (.bool (Sn.allB (fun i=>Sn.sameE (c i) (d i)) 32))):=by
 have h1':=hide h1
 have h2':=hide h2
 obtain ⟨A,hA⟩:∃A,Sn.allB (fun i=>Sn.sameE (c i) (d i)) 32=A:=⟨_,rfl⟩
 have hno:Hid (∀k,k<32→(fun i=>Sn.sameE (c i) (d i)) k=false→false=A):=fun k hk h=>by rw [←hA,Sn.allB_no h hk]
 have hyes:Hid ((∀k,k<32→(fun i=>Sn.sameE (c i) (d i)) k=true)→true=A):=fun h=>by rw [←hA,Sn.allB_yes h]
 rw [hA]
 clear h1 h2 hA
 go_enter Try.func41,Try.ntmps41
 go_wp2_with fail
 go_loopw [5,13] (fun v5 v13 wr=>∃k:Nat,k≤32∧v13=.int .i64 (k:Int)∧Hid (∀j,j<k→(fun i=>Sn.sameE (c i) (d i)) j=true)∧Hid (w.grownBy wr none)) (fun _ v13 _=>400 - (intOf v13).toNat)
 case atStart=>exact ⟨0,by omega,rfl,fun j hj=>absurd hj (by omega),World.grownBy.refl _ _⟩
 case round =>
  obtain ⟨k,hk,rfl,hall,hg⟩:=hrel
  by_cases hlt:k<32
  ·have hlt':(k:Int)<32:=by omega
   have HL:=hide hlt
   clear hlt hk
   obtain ⟨u0,u1,u2,u3,u4,u5,u6,u7,u8,u9,u10⟩:=(((uh h1').on (uh hg)).own (n:=32) (by omega) (by omega)).ents.row (uh HL)
   obtain ⟨v0,v1,v2,v3,v4,v5,v6,v7,v8,v9,v10⟩:=(((uh h2').on (uh hg)).own (n:=32) (by omega) (by omega)).ents.row (uh HL)
   have hcmp:=fun wx=>run_ne_ent (c k) (d k) wx
   obtain ⟨p,hpe⟩:∃p,Sn.sameE (c k) (d k)=p:=⟨_,rfl⟩
   have hq:Hid ((fun i=>Sn.sameE (c i) (d i)) k=p):=hpe
   rw [hpe] at hcmp
   clear hpe
   have hdr:Hid (∀m,w.grownBy (wr.drewN m) none):=fun m=>gdw (uh hg) m
   cases p with
   | true =>
    go_wp2_with fail
    go_quiet (fail)
    go_wp2
    go_roundw
    case rel=>exact ⟨k+1,by have:=uh HL;omega,by go_num,fun j hj=>by
     by_cases e:j=k
     ·rw [e];exact uh hq
     ·exact uh hall j (by omega),uh hdr _⟩
    case measure=>simp [intOf];have:=uh HL;omega
   | false =>
    have hf:=hide (uh hno k (uh HL) (uh hq))
    go_wp2_with fail
    go_quiet (fail)
    have hgf:=hide (uh hdr nq)
    go_wp2
    go_ret
    exact ⟨ret_bool (uh hf),uh hgf⟩
  ·have hge:¬(k:Int)<32:=by omega
   have hf:=hide (uh hyes (fun j hj=>uh hall j (by omega)))
   clear hlt hk
   go_wp2
   go_ret
   exact ⟨ret_bool (uh hf),uh hg⟩

set_option maxRecDepth 8000 in
set_option maxHeartbeats 3200000 in
theorem snEqualI_any (G H cap cap':Nat) (c d:Nat→Nat→Int) (w:World) (h1:Lie w G 47 160 (Gd.flat c)) (h2:Lie w H 47 160 (Gd.flat d)) :
  Calls Try.prog 42 #[.slice (some ⟨G,0,none⟩) 40 cap,.slice (some ⟨H,0,none⟩) 40 cap'] w (Says w (.bool (Sn.allB (fun i=>Sn.sameI (c i) (d i)) 40))):=by
 have h1':=hide h1
 have h2':=hide h2
 obtain ⟨A,hA⟩:∃A,Sn.allB (fun i=>Sn.sameI (c i) (d i)) 40=A:=⟨_,rfl⟩
 have hno:Hid (∀k,k<40→(fun i=>Sn.sameI (c i) (d i)) k=false→false=A):=fun k hk h=>by rw [←hA,Sn.allB_no h hk]
 have hyes:Hid ((∀k,k<40→(fun i=>Sn.sameI (c i) (d i)) k=true)→true=A):=fun h=>by rw [←hA,Sn.allB_yes h]
 rw [hA]
 clear h1 h2 hA
 go_enter Try.func42,Try.ntmps42
 go_wp2_with fail
 go_loopw [5,13] (fun v5 v13 wr=>∃k:Nat,k≤40∧v13=.int .i64 (k:Int)∧Hid (∀j,j<k→(fun i=>Sn.sameI (c i) (d i)) j=true)∧Hid (w.grownBy wr none)) (fun _ v13 _=>400 - (intOf v13).toNat)
 case atStart=>exact ⟨0,by omega,rfl,fun j hj=>absurd hj (by omega),World.grownBy.refl _ _⟩
 case round =>
  obtain ⟨k,hk,rfl,hall,hg⟩:=hrel
  by_cases hlt:k<40
  ·have hlt':(k:Int)<40:=by omega
   have HL:=hide hlt
   clear hlt hk
   obtain ⟨u0,u1,u2,u3⟩:=(((uh h1').on (uh hg)).its (n:=40) (by omega) (by omega)).row (uh HL)
   obtain ⟨v0,v1,v2,v3⟩:=(((uh h2').on (uh hg)).its (n:=40) (by omega) (by omega)).row (uh HL)
   have hcmp:=fun wx=>run_ne_item (c k 0) (c k 1) (c k 2) (c k 3) (d k 0) (d k 1) (d k 2) (d k 3) wx
   obtain ⟨p,hpe⟩:∃p,Sn.sameI (c k) (d k)=p:=⟨_,rfl⟩
   have hq:Hid ((fun i=>Sn.sameI (c i) (d i)) k=p):=hpe
   have hpe':(decide (c k 0=d k 0) && (decide (c k 1=d k 1) && (decide (c k 2=d k 2) && decide (c k 3=d k 3))))=p:=hpe
   rw [hpe'] at hcmp
   clear hpe hpe'
   have hdr:Hid (∀m,w.grownBy (wr.drewN m) none):=fun m=>gdw (uh hg) m
   cases p with
   | true =>
    go_wp2_with fail
    go_quiet (fail)
    go_wp2
    go_roundw
    case rel=>exact ⟨k+1,by have:=uh HL;omega,by go_num,fun j hj=>by
     by_cases e:j=k
     ·rw [e];exact uh hq
     ·exact uh hall j (by omega),uh hdr _⟩
    case measure=>simp [intOf];have:=uh HL;omega
   | false =>
    have hf:=hide (uh hno k (uh HL) (uh hq))
    go_wp2_with fail
    go_quiet (fail)
    have hgf:=hide (uh hdr nq)
    go_wp2
    go_ret
    exact ⟨ret_bool (uh hf),uh hgf⟩
  ·have hge:¬(k:Int)<40:=by omega
   have hf:=hide (uh hyes (fun j hj=>uh hall j (by omega)))
   clear hlt hk
   go_wp2
   go_ret
   exact ⟨ret_bool (uh hf),uh hg⟩


open Go.RowKit

def Sn.sameG (g h:Nat→Int):Bool:=decide (g 0=h 0) && (decide (g 1=h 1) && (decide (g 2=h 2) && decide (g 3=h 3)))
def Sn.sameH (s t g h:Nat→Int):Bool:=decide (s 0=t 0) && (decide (s 1=t 1) && (decide (s 2=t 2) && (decide (s 3=t 3) && Sn.sameG g h)))

theorem Sn.sameG_iff (g h:Nat→Int):Sn.sameG g h=true↔∀j,j<4→g j=h j:=by
 unfold Sn.sameG
 simp only [Bool.and_eq_true,decide_eq_true_eq]
 constructor
 ·rintro ⟨h0,h1,h2,h3⟩ j hj
  rcases (show j=0∨j=1∨j=2∨j=3 by omega) with rfl | rfl | rfl | rfl <;> assumption
 ·intro h
  exact ⟨h 0 (by omega),h 1 (by omega),h 2 (by omega),h 3 (by omega)⟩

theorem Sn.sameH_iff (s t g h:Nat→Int):Sn.sameH s t g h=true↔(∀j,j<4→s j=t j)∧∀j,j<4→g j=h j:=by
 unfold Sn.sameH
 simp only [Bool.and_eq_true,decide_eq_true_eq,Sn.sameG_iff]
 constructor
 ·rintro ⟨h0,h1,h2,h3,h4⟩
  refine ⟨fun j hj=>?_,h4⟩
  rcases (show j=0∨j=1∨j=2∨j=3 by omega) with rfl | rfl | rfl | rfl <;> assumption
 ·rintro ⟨h,k⟩
  exact ⟨h 0 (by omega),h 1 (by omega),h 2 (by omega),h 3 (by omega),k⟩

theorem run_equal_gold (d:Nat) (g h:Nat→Int) (w:World):(Op.equalIn (d+2) 27 (.agg #[.int .i64 (g 0),.int .i64 (g 1),.int .i64 (g 2),.int .i64 (g 3)]) (.agg #[.int .i64 (h 0),.int .i64 (h 1),.int .i64 (h 2),.int .i64 (h 3)])).run Try.prog w=.ok (Sn.sameG g h) w:=by
 obtain ⟨i0,hi,_,_,_⟩:=info_parts info_int
 have hc:Try.prog.cellsOf 3=1:=by kernel_rfl
 have hh:=run_equalIn_array (P:=Try.prog) (w:=w) (d+1) #[.int .i64 (g 0),.int .i64 (g 1),.int .i64 (g 2),.int .i64 (g 3)] #[.int .i64 (h 0),.int .i64 (h 1),.int .i64 (h 2),.int .i64 (h 3)] Try.underlying27 hi
 have hr:(Op.eqItems (d+1) 3 (Try.prog.cellsOf 3) #[Value.int .i64 (g 0),.int .i64 (g 1),.int .i64 (g 2),.int .i64 (g 3)] #[.int .i64 (h 0),.int .i64 (h 1),.int .i64 (h 2),.int .i64 (h 3)] (List.range 4)).run Try.prog w=.ok (Sn.sameG g h) w:=by
  rw [hc]
  unfold Sn.sameG
  by_cases h0:g 0=h 0
  ·by_cases h1:g 1=h 1
   ·by_cases h2:g 2=h 2
    ·by_cases h3:g 3=h 3 <;> simp [List.range,List.range.loop,Op.eqItems,go_sem,h0,h1,h2,h3]
    ·simp [List.range,List.range.loop,Op.eqItems,go_sem,h0,h1,h2]
   ·simp [List.range,List.range.loop,Op.eqItems,go_sem,h0,h1]
  ·simp [List.range,List.range.loop,Op.eqItems,go_sem,h0]
 rw [hr] at hh
 exact hh

def Sn.hd (s g:Nat→Int):Array Value:=#[.int .i64 (s 0),.int .i64 (s 1),.int .i64 (s 2),.int .i64 (s 3),.int .i64 (g 0),.int .i64 (g 1),.int .i64 (g 2),.int .i64 (g 3)]

theorem run_eq_head (s t g h:Nat→Int) (w:World):(binOp .eql 79 (.agg (Sn.hd s g)) (.agg (Sn.hd t h))).run Try.prog w=.ok (.bool (Sn.sameH s t g h)) w:=by
 have hg:=fun d w=>run_equal_gold d g h w
 unfold Sn.sameH Sn.hd
 generalize Sn.sameG g h=q at hg ⊢
 by_cases h0:s 0=t 0
 ·by_cases h1:s 1=t 1
  ·by_cases h2:s 2=t 2
   ·by_cases h3:s 3=t 3
    ·simp [go_sem,h0,h1,h2,h3,hg]
     cases q <;> rfl
    ·simp [go_sem,h0,h1,h2,h3]
   ·simp [go_sem,h0,h1,h2]
  ·simp [go_sem,h0,h1]
 ·simp [go_sem,h0]

set_option maxRecDepth 8000 in
set_option maxHeartbeats 1600000 in
theorem headOf_any (s g:Nat→Int) (nC nE nI cC cE cI:Nat) (aC aE aI:Option Addr) (w:World) :
  Calls Try.prog 39 #[.agg #[.int .i64 (s 0),.int .i64 (s 1),.int .i64 (s 2),.int .i64 (s 3),.slice aC nC cC,.slice aE nE cE,.slice aI nI cI,.int .i64 (g 0),.int .i64 (g 1),.int .i64 (g 2),.int .i64 (g 3)]] w (Says w (.agg #[.int .i64 (s 0),.int .i64 (s 1),.int .i64 (s 2),.int .i64 (s 3),.int .i64 (g 0),.int .i64 (g 1),.int .i64 (g 2),.int .i64 (g 3)])):=by
 obtain ⟨w0,hw0⟩:∃w0,w0=(w.alloc (.cells #[.int .i64 (s 0),.int .i64 (s 1),.int .i64 (s 2),.int .i64 (s 3),.slice aC nC cC,.slice aE nE cE,.slice aI nI cI,.int .i64 (g 0),.int .i64 (g 1),.int .i64 (g 2),.int .i64 (g 3)] 29)).alloc (.cells #[.int .i64 0,.int .i64 0,.int .i64 0,.int .i64 0,.int .i64 0,.int .i64 0,.int .i64 0,.int .i64 0] 79):=⟨_,rfl⟩
 have hg0:w.grownBy w0 none:=by rw [hw0];exact gal (World.grownBy_alloc _ _ _) _
 obtain ⟨B,hBe⟩:∃B,w.heap.size=B:=⟨_,rfl⟩
 have hB:Lie w0 B 29 11 (fun j=>#[Value.int .i64 (s 0),.int .i64 (s 1),.int .i64 (s 2),.int .i64 (s 3),.slice aC nC cC,.slice aE nE cE,.slice aI nI cI,.int .i64 (g 0),.int .i64 (g 1),.int .i64 (g 2),.int .i64 (g 3)][j]?.getD undef):=by
  rw [hw0,←hBe]
  exact ((Arr.lit (heap_alloc_new w _)).alloc _).lie
 have hR:Lie w0 (B+1) 79 8 (fun j=>#[Value.int .i64 0,.int .i64 0,.int .i64 0,.int .i64 0,.int .i64 0,.int .i64 0,.int .i64 0,.int .i64 0][j]?.getD undef):=by
  rw [hw0,←hBe]
  have h:=heap_alloc_new (w.alloc (.cells #[.int .i64 (s 0),.int .i64 (s 1),.int .i64 (s 2),.int .i64 (s 3),.slice aC nC cC,.slice aE nE cE,.slice aI nI cI,.int .i64 (g 0),.int .i64 (g 1),.int .i64 (g 2),.int .i64 (g 3)] 29)) (.cells #[.int .i64 0,.int .i64 0,.int .i64 0,.int .i64 0,.int .i64 0,.int .i64 0,.int .i64 0,.int .i64 0] 79)
  rw [show (w.alloc (.cells #[.int .i64 (s 0),.int .i64 (s 1),.int .i64 (s 2),.int .i64 (s 3),.slice aC nC cC,.slice aE nE cE,.slice aI nI cI,.int .i64 (g 0),.int .i64 (g 1),.int .i64 (g 2),.int .i64 (g 3)] 29)).heap.size=w.heap.size+1 by simp] at h
  exact (Arr.lit h).lie
 have hgo:Hid (∀l,w.grownBy (w0.setCells (B+1) 0 l) none):=fun l=>own_sets (by omega) l 0 w0 hg0
 have fR:=hR.free
 have b0:w0.cell? ⟨B,0,none⟩=some (.int .i64 (s 0)):=hB.cell (c:=0) (by omega)
 have b1:w0.cell? ⟨B,1,none⟩=some (.int .i64 (s 1)):=hB.cell (c:=1) (by omega)
 have b2:w0.cell? ⟨B,2,none⟩=some (.int .i64 (s 2)):=hB.cell (c:=2) (by omega)
 have b3:w0.cell? ⟨B,3,none⟩=some (.int .i64 (s 3)):=hB.cell (c:=3) (by omega)
 have b7:w0.cell? ⟨B,7,none⟩=some (.int .i64 (g 0)):=hB.cell (c:=7) (by omega)
 have b8:w0.cell? ⟨B,8,none⟩=some (.int .i64 (g 1)):=hB.cell (c:=8) (by omega)
 have b9:w0.cell? ⟨B,9,none⟩=some (.int .i64 (g 2)):=hB.cell (c:=9) (by omega)
 have b10:w0.cell? ⟨B,10,none⟩=some (.int .i64 (g 3)):=hB.cell (c:=10) (by omega)
 have z0:w0.cell? ⟨B+1,0,none⟩=some (.int .i64 0):=hR.cell (c:=0) (by omega)
 have z1:w0.cell? ⟨B+1,1,none⟩=some (.int .i64 0):=hR.cell (c:=1) (by omega)
 have z2:w0.cell? ⟨B+1,2,none⟩=some (.int .i64 0):=hR.cell (c:=2) (by omega)
 have z3:w0.cell? ⟨B+1,3,none⟩=some (.int .i64 0):=hR.cell (c:=3) (by omega)
 have z4:w0.cell? ⟨B+1,4,none⟩=some (.int .i64 0):=hR.cell (c:=4) (by omega)
 have z5:w0.cell? ⟨B+1,5,none⟩=some (.int .i64 0):=hR.cell (c:=5) (by omega)
 have z6:w0.cell? ⟨B+1,6,none⟩=some (.int .i64 0):=hR.cell (c:=6) (by omega)
 have z7:w0.cell? ⟨B+1,7,none⟩=some (.int .i64 0):=hR.cell (c:=7) (by omega)
 have HBe:=hide hBe
 clear hB hR hg0 hBe
 go_enter Try.func39,Try.ntmps39
 go_upto_region 1 with fail
 rw [←hw0,uh HBe]
 clear hw0 HBe
 go_wp2
 refine bodyPost_ret (v:=.agg #[.int .i64 (s 0),.int .i64 (s 1),.int .i64 (s 2),.int .i64 (s 3),.int .i64 (g 0),.int .i64 (g 1),.int .i64 (g 2),.int .i64 (g 3)]) (by simp [results,Try.results39,go_sem,z0,z1,z2,z3,z4,z5,z6,z7]) rfl ?_
 exact ⟨rfl,uh hgo [_,_,_,_,_,_,_,_]⟩

end Go.Proofs.Ytapgkgbpekkdjaa
