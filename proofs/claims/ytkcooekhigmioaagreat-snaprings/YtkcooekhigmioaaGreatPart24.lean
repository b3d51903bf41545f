import Derived.Test.YtkcooekhigmioaaGreatPart22
namespace Go.Proofs.YtkcooekhigmioaaGreat
open Go.RowKit

theorem Sn.born (x:World) (e:Nat→Int) (T:TypeId):Lie (x.alloc (.cells (En.cells e) T)) x.heap.size T 11 (Ints e) :=
 Lie.congr (m:=11) (Arr.lit (heap_alloc_new x (.cells (En.cells e) T))).lie fun j hj=>by
  rcases (show j=0∨j=1∨j=2∨j=3∨j=4∨j=5∨j=6∨j=7∨j=8∨j=9∨j=10 by omega) with rfl | rfl | rfl | rfl | rfl | rfl | rfl | rfl | rfl | rfl | rfl <;> rfl

theorem Sn.row {x:World} {D:Nat} {T:TypeId} {e:Nat→Int} (h:Lie x D T 11 (Ints e)) :
  x.cell? ⟨D,0,none⟩=some (.int .i64 (e 0))∧x.cell? ⟨D,1,none⟩=some (.int .i64 (e 1))∧x.cell? ⟨D,2,none⟩=some (.int .i64 (e 2))∧x.cell? ⟨D,3,none⟩=some (.int .i64 (e 3))∧x.cell? ⟨D,4,none⟩=some (.int .i64 (e 4))∧x.cell? ⟨D,5,none⟩=some (.int .i64 (e 5))∧x.cell? ⟨D,6,none⟩=some (.int .i64 (e 6))∧x.cell? ⟨D,7,none⟩=some (.int .i64 (e 7))∧x.cell? ⟨D,8,none⟩=some (.int .i64 (e 8))∧x.cell? ⟨D,9,none⟩=some (.int .i64 (e 9))∧x.cell? ⟨D,10,none⟩=some (.int .i64 (e 10)) :=
 ⟨h.cell (c:=0) (by omega),h.cell (c:=1) (by omega),h.cell (c:=2) (by omega),h.cell (c:=3) (by omega),h.cell (c:=4) (by omega),h.cell (c:=5) (by omega),h.cell (c:=6) (by omega),h.cell (c:=7) (by omega),h.cell (c:=8) (by omega),h.cell (c:=9) (by omega),h.cell (c:=10) (by omega)⟩

def Sn.inB (n a b:Int):Bool:=decide (a≤n∧n≤b)

set_option maxHeartbeats 400000 in
theorem snWithin_any (n a b:Int) (w:World):Calls Tryz.prog 49 #[.int .i64 n,.int .i64 a,.int .i64 b] w fun e w'=>e=.returned (.bool (Sn.inB n a b))∧w'=w:=by
 by_cases h1:a≤n
 ·have h1':n≥a:=h1
  by_cases h2:n≤b
  ·have hd:Hid (Sn.inB n a b=true):=by show Sn.inB n a b=true;unfold Sn.inB;rw [decide_eq_true_eq];exact ⟨h1,h2⟩
   clear h1
   go_enter Tryz.func49,Tryz.ntmps49
   go_wp2
   go_ret
   exact ⟨ret_bool (uh hd).symm,rfl⟩
  ·have hd:Hid (Sn.inB n a b=false):=by show Sn.inB n a b=false;unfold Sn.inB;rw [decide_eq_false_iff_not];exact fun h=>h2 h.2
   clear h1
   go_enter Tryz.func49,Tryz.ntmps49
   go_wp2
   go_ret
   exact ⟨ret_bool (uh hd).symm,rfl⟩
 ·have h1':¬n≥a:=h1
  have hd:Hid (Sn.inB n a b=false):=by show Sn.inB n a b=false;unfold Sn.inB;rw [decide_eq_false_iff_not];exact fun h=>h1 h.1
  clear h1
  go_enter Tryz.func49,Tryz.ntmps49
  go_wp2
  go_ret
  exact ⟨ret_bool (uh hd).symm,rfl⟩

set_option maxRecDepth 8000 in
set_option maxHeartbeats 800000 in
theorem snCount_any (G cap:Nat) (c:Nat→Int) (kind:Int) (w:World) (hC:Lie w G 5 384 (Byts c)) :
  Calls Tryz.prog 34 #[.slice (some ⟨G,0,none⟩) 384 cap,.int .u8 kind] w fun e w'=>e=.returned (.int .i64 (Sn.cnt c kind 384))∧w'=w:=by
 have hC':=hide hC
 clear hC
 go_enter Tryz.func34,Tryz.ntmps34
 go_wp2_with fail
 go_loop [5,10] (fun v5 v10=>∃i:Nat,i≤384∧v5=.int .i64 (Sn.cnt c kind i)∧v10=.int .i64 (i:Int)) (fun _ v10=>400 - (intOf v10).toNat)
 case atStart=>exact ⟨0,by omega,rfl,rfl⟩
 case round =>
  obtain ⟨i,hi,rfl,rfl⟩:=hrel
  by_cases hlt:i<384
  ·have hlt':(i:Int)<384:=by omega
   have HL:=hide hlt
   have u0:w.cell? ⟨G,i,none⟩=some (.int .u8 (c i)):=(uh hC').cell hlt
   have hb:=Sn.cnt_bound c kind i
   obtain ⟨X,hX⟩:∃X,Sn.cnt c kind i=X:=⟨_,rfl⟩
   have hn:Hid (Sn.cnt c kind (i+1)=X+if c i=kind then 1 else 0):=by
    show Sn.cnt c kind (i+1)=_
    rw [←hX]
    rfl
   rw [hX] at hb ⊢
   clear hlt hi hX
   by_cases k3:c i=kind
   ·have k3':(c i == kind)=true:=by simp [k3]
    rw [if_pos k3] at hn
    clear k3
    go_wp2
    go_round
    case rel=>exact ⟨i+1,by have:=uh HL;omega,by rw [uh hn],by go_num⟩
    case measure=>simp [intOf];have:=uh HL;omega
   ·have k3':(c i == kind)=false:=by simp [k3]
    rw [if_neg k3] at hn
    clear k3
    go_wp2
    go_round
    case rel=>exact ⟨i+1,by have:=uh HL;omega,by rw [uh hn];simp,by go_num⟩
    case measure=>simp [intOf];have:=uh HL;omega
  ·obtain rfl:i=384:=by omega
   have hge:¬((384:Nat):Int)<384:=by omega
   clear hlt hi
   obtain ⟨X,hX⟩:∃X,Sn.cnt c kind 384=X:=⟨_,rfl⟩
   rw [hX]
   have hX':=hide hX
   clear hX
   go_wp2
   go_ret
   exact ⟨rti (uh hX').symm,rfl⟩

set_option maxRecDepth 8000 in
set_option maxHeartbeats 800000 in
theorem snMax_any (G cap:Nat) (c:Nat→Int) (w:World) (hC:Lie w G 5 384 (Byts c)) :
  Calls Tryz.prog 33 #[.slice (some ⟨G,0,none⟩) 384 cap] w fun e w'=>e=.returned (.int .u8 (Sn.mx c 383))∧w'=w:=by
 have hC':=hide hC
 have u0:w.cell? ⟨G,0,none⟩=some (.int .u8 (c 0)):=hC.cell (by omega)
 clear hC
 go_enter Tryz.func33,Tryz.ntmps33
 go_wp2_with fail
 go_loop [3,4] (fun v3 v4=>∃i:Nat,1≤i∧i≤384∧v3=.int .u8 (Sn.mx c (i - 1))∧v4=.int .i64 (i:Int)) (fun _ v4=>400 - (intOf v4).toNat)
 case atStart=>exact ⟨1,by omega,by omega,rfl,rfl⟩
 case round =>
  obtain ⟨i,h1,hi,rfl,rfl⟩:=hrel
  by_cases hlt:i<384
  ·have hlt':(i:Int)<384:=by omega
   have HL:=hide hlt
   have u0:w.cell? ⟨G,i,none⟩=some (.int .u8 (c i)):=(uh hC').cell hlt
   obtain ⟨X,hX⟩:∃X,Sn.mx c (i - 1)=X:=⟨_,rfl⟩
   have hn:Hid (Sn.mx c (i+1 - 1)=max X (c i)):=by
    show Sn.mx c (i+1 - 1)=_
    rw [←hX,show i+1 - 1=(i - 1)+1 by omega]
    show max _ (c (i - 1+1))=_
    rw [show i - 1+1=i by omega]
   rw [hX]
   clear hlt hi hX
   have hm:(if X<c i then c i else X)=max X (c i):=by split <;> omega
   rw [←hm] at hn
   clear hm
   go_wp2
   go_round
   case rel=>exact ⟨i+1,by omega,by have:=uh HL;omega,by rw [uh hn],by go_num⟩
   case measure=>simp [intOf];have:=uh HL;omega
  ·have hge:¬(i:Int)<384:=by omega
   have hie:i=384:=by omega
   obtain ⟨X,hX⟩:∃X,Sn.mx c (i - 1)=X:=⟨_,rfl⟩
   have hX':Hid (Sn.mx c 383=X):=by
    rw [←hX,hie]
    exact rfl
   clear hlt hi h1 hie
   rw [hX]
   clear hX
   go_wp2
   go_ret
   exact ⟨rti (uh hX').symm,rfl⟩

theorem run_index_gold (g:Nat→Int) (t:Nat) (ht:t<4) (w:World):(Instr.index 29 (.agg #[.int .i64 (g 0),.int .i64 (g 1),.int .i64 (g 2),.int .i64 (g 3)]) (.int .i64 (t:Int))).run Tryz.prog w=.ok (.int .i64 (g t)) w:=by
 rcases (show t=0∨t=1∨t=2∨t=3 by omega) with rfl | rfl | rfl | rfl <;> kernel_rfl

set_option maxRecDepth 8000 in
set_option maxHeartbeats 1600000 in
theorem headFits_any (s g:Nat→Int) (nC nE nI cC cE cI:Nat) (aC aE aI:Option Addr) (w:World) :
  Calls Tryz.prog 32 #[.agg #[.int .i64 (s 0),.int .i64 (s 1),.int .i64 (s 2),.int .i64 (s 3),.slice aC nC cC,.slice aE nE cE,.slice aI nI cI,.int .i64 (g 0),.int .i64 (g 1),.int .i64 (g 2),.int .i64 (g 3)]] w (Says w (.bool (Sn.headB s g))):=by
 obtain ⟨w0,hw0⟩:∃w0,w0=w.alloc (.cells #[.int .i64 (s 0),.int .i64 (s 1),.int .i64 (s 2),.int .i64 (s 3),.slice aC nC cC,.slice aE nE cE,.slice aI nI cI,.int .i64 (g 0),.int .i64 (g 1),.int .i64 (g 2),.int .i64 (g 3)] 31):=⟨_,rfl⟩
 have hg0:w.grownBy w0 none:=by rw [hw0];exact World.grownBy_alloc _ _ _
 have hB:=(Arr.lit (heap_alloc_new w (.cells #[.int .i64 (s 0),.int .i64 (s 1),.int .i64 (s 2),.int .i64 (s 3),.slice aC nC cC,.slice aE nE cE,.slice aI nI cI,.int .i64 (g 0),.int .i64 (g 1),.int .i64 (g 2),.int .i64 (g 3)] 31))).lie
 rw [←hw0] at hB
 have hgr:=hide hg0
 clear hg0
 go_enter Tryz.func32,Tryz.ntmps32
 go_upto_region 1 with fail
 rw [←hw0]
 clear hw0
 obtain ⟨B,hBe⟩:∃B,w.heap.size=B:=⟨_,rfl⟩
 rw [hBe] at hB ⊢
 clear hBe
 have b1:w0.cell? ⟨B,1,none⟩=some (.int .i64 (s 1)):=hB.cell (c:=1) (by simp)
 have b2:w0.cell? ⟨B,2,none⟩=some (.int .i64 (s 2)):=hB.cell (c:=2) (by simp)
 have b3:w0.cell? ⟨B,3,none⟩=some (.int .i64 (s 3)):=hB.cell (c:=3) (by simp)
 have b7:w0.cell? ⟨B,7,none⟩=some (.int .i64 (g 0)):=hB.cell (c:=7) (by simp)
 have b8:w0.cell? ⟨B,8,none⟩=some (.int .i64 (g 1)):=hB.cell (c:=8) (by simp)
 have b9:w0.cell? ⟨B,9,none⟩=some (.int .i64 (g 2)):=hB.cell (c:=9) (by simp)
 have b10:w0.cell? ⟨B,10,none⟩=some (.int .i64 (g 3)):=hB.cell (c:=10) (by simp)
 clear hB
 go_wp2_with fail
 go_loop [7] (fun v7=>∃t:Nat,t≤4∧v7=.int .i64 (t:Int)∧Hid (∀j,j<t→Sn.goldB g j=true)) (fun v7=>10 - (intOf v7).toNat)
 case atStart=>exact ⟨0,by omega,rfl,fun j hj=>absurd hj (by omega)⟩
 case round =>
  obtain ⟨t,ht,rfl,hall⟩:=hrel
  by_cases hlt:t<4
  ·have hlt':(t:Int)<4:=by omega
   have HL:=hide hlt
   have hix:=fun x=>run_index_gold g t hlt x
   have cw:=hide (fun x=>snWithin_any (g t) 0 999 x)
   have hq:Hid (Sn.goldB g t=Sn.inB (g t) 0 999):=rfl
   obtain ⟨q,hqe⟩:∃q,Sn.inB (g t) 0 999=q:=⟨_,rfl⟩
   rw [hqe] at cw hq
   clear hlt ht hqe
   go_wp2_with fail
   refine (uh cw _).mono ?_
   rintro e w1 ⟨rfl,rfl⟩
   cases q with
   | true =>
    go_wp2
    go_round
    case rel=>exact ⟨t+1,by have:=uh HL;omega,by go_num,fun j hj=>by
     by_cases e:j=t
     ·rw [e];exact uh hq
     ·exact uh hall j (by omega)⟩
    case measure=>simp [intOf];have:=uh HL;omega
   | false =>
    have hno:Hid (Sn.headB s g=false):=by
     show Sn.headB s g=false
     unfold Sn.headB
     rw [Sn.goldsB_no (uh hq) (uh HL),Bool.false_and]
    go_wp2
    go_ret
    exact ⟨ret_bool (uh hno).symm,uh hgr⟩
  ·obtain rfl:t=4:=by omega
   have hge:¬((4:Nat):Int)<4:=by omega
   have c1:=hide (fun x=>snWithin_any (s 1) 0 1073741823 x)
   have c2:=hide (fun x=>snWithin_any (s 2) 1 3 x)
   have c3:=hide (fun x=>snWithin_any (s 3) 0 2 x)
   have hd:Hid (Sn.headB s g=(Sn.inB (s 1) 0 1073741823 && (Sn.inB (s 2) 1 3 && Sn.inB (s 3) 0 2))):=by
    show Sn.headB s g=_
    unfold Sn.headB Sn.numB Sn.inB
    rw [Sn.goldsB_of (uh hall),Bool.true_and,←Bool.decide_and,←Bool.decide_and,decide_eq_decide]
    omega
   obtain ⟨q1,e1⟩:∃q,Sn.inB (s 1) 0 1073741823=q:=⟨_,rfl⟩
   obtain ⟨q2,e2⟩:∃q,Sn.inB (s 2) 1 3=q:=⟨_,rfl⟩
   obtain ⟨q3,e3⟩:∃q,Sn.inB (s 3) 0 2=q:=⟨_,rfl⟩
   rw [e1] at c1 hd
   rw [e2] at c2 hd
   rw [e3] at c3 hd
   clear hlt ht hall e1 e2 e3
   go_wp2_with fail
   refine (uh c1 _).mono ?_
   rintro e w1 ⟨rfl,rfl⟩
   cases q1 with
   | false =>
    go_wp2
    go_ret
    exact ⟨ret_bool (uh hd).symm,uh hgr⟩
   | true =>
    go_wp2_with fail
    refine (uh c2 _).mono ?_
    rintro e w1 ⟨rfl,rfl⟩
    cases q2 with
    | false =>
     go_wp2
     go_ret
     exact ⟨ret_bool (uh hd).symm,uh hgr⟩
    | true =>
     go_wp2_with fail
     refine (uh c3 _).mono ?_
     rintro e w1 ⟨rfl,rfl⟩
     go_wp2
     go_ret
     exact ⟨ret_bool (by rw [uh hd];rfl),uh hgr⟩


open Go.RowKit

set_option maxRecDepth 8000 in
set_option maxHeartbeats 3200000 in
theorem isSound_any (e:Nat→Int) (w:World):Calls Tryz.prog 69 #[.agg (En.cells e)] w (Says w (.bool (Sn.soundB e))):=by
 obtain ⟨w0,hw0⟩:∃w0,w0=w.alloc (.cells (En.cells e) 70):=⟨_,rfl⟩
 have hg0:Hid (w.grownBy w0 none):=by show w.grownBy w0 none;rw [hw0];exact World.grownBy_alloc _ _ _
 have hD:Hid (Lie w0 w.heap.size 70 11 (Ints e)):=by show Lie w0 _ _ _ _;rw [hw0];exact Sn.born w e 70
 obtain ⟨st,hst⟩:∃st,En.stats (e 0)=st:=⟨_,rfl⟩
 have cst:=hide (fun x=>entStats_any (e 0) x)
 rw [hst] at cst
 have hd:Hid (Sn.soundB e=((e 6 == st 6) && ((e 7 == st 7) && ((e 8 == st 8) && (Sn.inB (e 5) 1 (e 6) && (Sn.inB (e 9) 0 9 && Sn.inB (e 10) 0 9)))))):=by
  show Sn.soundB e=_
  unfold Sn.soundB Sn.inB
  rw [hst,Bool.eq_iff_iff]
  simp only [decide_eq_true_eq,Bool.and_eq_true,beq_iff_eq]
  omega
 obtain ⟨k1,h1⟩:∃k,(e 6 == st 6)=k:=⟨_,rfl⟩
 obtain ⟨k2,h2⟩:∃k,(e 7 == st 7)=k:=⟨_,rfl⟩
 obtain ⟨k3,h3⟩:∃k,(e 8 == st 8)=k:=⟨_,rfl⟩
 have c4:=hide (fun x=>snWithin_any (e 5) 1 (e 6) x)
 have c5:=hide (fun x=>snWithin_any (e 9) 0 9 x)
 have c6:=hide (fun x=>snWithin_any (e 10) 0 9 x)
 obtain ⟨k4,h4⟩:∃k,Sn.inB (e 5) 1 (e 6)=k:=⟨_,rfl⟩
 obtain ⟨k5,h5⟩:∃k,Sn.inB (e 9) 0 9=k:=⟨_,rfl⟩
 obtain ⟨k6,h6⟩:∃k,Sn.inB (e 10) 0 9=k:=⟨_,rfl⟩
 rw [h1,h2,h3,h4,h5,h6] at hd
 rw [h4] at c4
 rw [h5] at c5
 rw [h6] at c6
 clear hst h4 h5 h6
 unfold En.cells at hw0 cst ⊢
 go_enter Tryz.func69,Tryz.ntmps69
 go_upto_region 1 with fail
 rw [←hw0]
 clear hw0
 obtain ⟨B,hBe⟩:∃B,w.heap.size=B:=⟨_,rfl⟩
 rw [hBe] at hD ⊢
 clear hBe
 have d0:=(Sn.row (uh hD)).1
 go_wp2_with fail
 refine (uh cst _).mono ?_
 rintro _ w2 ⟨rfl,hg2⟩
 have hF:=hide (Sn.born w2 st 70)
 have hgB:=hide (gtr hg2 (World.grownBy_alloc w2 (.cells (En.cells st) 70) none))
 have hD2:=hide ((uh hD).on (uh hgB))
 have hg3:=hide (gtr (uh hg0) (uh hgB))
 clear hg2 hgB cst d0 hD hg0
 unfold En.cells at hF hD2 hg3
 go_upto_region 2 with fail
 obtain ⟨F,hFe⟩:∃F,w2.heap.size=F:=⟨_,rfl⟩
 rw [hFe] at hF ⊢
 generalize w2.alloc (.cells #[.int .i64 (st 0),.int .i64 (st 1),.int .i64 (st 2),.int .i64 (st 3),.int .i64 (st 4),.int .i64 (st 5),.int .i64 (st 6),.int .i64 (st 7),.int .i64 (st 8),.int .i64 (st 9),.int .i64 (st 10)] 70)=w3 at hF hD2 hg3 ⊢
 clear hFe w2
 obtain ⟨-,-,-,-,-,d5,d6,d7,d8,d9,d10⟩:=Sn.row (uh hD2)
 obtain ⟨-,-,-,-,-,-,z6,z7,z8,-,-⟩:=Sn.row (uh hF)
 clear hF hD2
 cases k1 with
 | false=>go_wp2;go_ret;exact ⟨ret_bool (uh hd).symm,uh hg3⟩
 | true =>
 cases k2 with
 | false=>go_wp2;go_ret;exact ⟨ret_bool (uh hd).symm,uh hg3⟩
 | true =>
 cases k3 with
 | false=>go_wp2;go_ret;exact ⟨ret_bool (uh hd).symm,uh hg3⟩
 | true =>
 go_wp2_with fail
 refine (uh c4 _).mono ?_
 rintro _ w4 ⟨rfl,rfl⟩
 cases k4 with
 | false=>go_wp2;go_ret;exact ⟨ret_bool (uh hd).symm,uh hg3⟩
 | true =>
 go_wp2_with fail
 refine (uh c5 _).mono ?_
 rintro _ w4 ⟨rfl,rfl⟩
 cases k5 with
 | false=>go_wp2;go_ret;exact ⟨ret_bool (uh hd).symm,uh hg3⟩
 | true =>
 go_wp2_with fail
 refine (uh c6 _).mono ?_
 rintro _ w4 ⟨rfl,rfl⟩
 go_wp2
 go_ret
 exact ⟨ret_bool (by rw [uh hd];rfl),uh hg3⟩

theorem Sn.first_row {q:Nat→Bool} {k n:Nat} (hk:k<n) (hq:q k=true):(En.first q n=(k:Int)↔En.first q k=-1):=by
 constructor
 ·intro h
  refine En.first_none fun j hj=>?_
  rcases En.first_cases q n with ⟨h1,_⟩ | ⟨m,_,h1,_,hno⟩
  ·omega
  ·have:m=k:=by omega
   subst this
   exact hno j hj
 ·intro h
  refine En.first_hit (fun j hj=>?_) hq hk
  rcases En.first_cases q k with ⟨_,hno⟩ | ⟨m,_,h1,_,_⟩
  ·exact hno j hj
  ·omega

set_option maxRecDepth 8000 in
set_option maxHeartbeats 3200000 in
theorem standsAlone_any (s g c:Nat→Int) (E I:Nat→Nat→Int) (gC gE gI cC cE cI k:Nat) (w:World) (hL:Gd.Lists w gC gE gI c E I) (hc:∀i,0≤c i∧c i≤255) (hcE:32≤cE) (hk:k<32) (h0:E k 0≠0) :
  Calls Tryz.prog 70 #[.agg (Gd.world s gC gE gI cC cE cI g),.int .i64 (k:Int)] w (Says w (.bool (Sn.aloneB c E k))):=by
 obtain ⟨w0,hw0⟩:∃w0,w0=w.alloc (.cells (Gd.world s gC gE gI cC cE cI g) 31):=⟨_,rfl⟩
 have hg0:w.grownBy w0 none:=by rw [hw0];exact World.grownBy_alloc _ _ _
 have hB:Hid (Lie w0 w.heap.size 31 11 (Gd.box s gC gE gI cC cE cI g)):=by show Lie w0 _ _ _ _;rw [hw0];exact (Arr.world (heap_alloc_new w _)).lie
 have hL0:=hide (hL.on hg0)
 have hgr:=hide hg0
 have HK:=hide hk
 have hk':(k:Int)<32:=by omega
 have ca:=hide (fun z (hz:Gd.Lists z gC gE gI c E I)=>at_any z.heap.size (some ⟨gC,0,none⟩) 384 cC c (E k 3) (E k 4) z hz.vec hc)
 have ck:=hide (fun x=>walk_any (Gr.at 384 c (E k 3) (E k 4)) x)
 have ce:=hide (fun z (hz:Gd.Lists z gC gE gI c E I)=>entAt_any gE 32 cE E (E k 3) (E k 4) z hz.own.ents hcE)
 have hd:Hid (Sn.aloneB c E k=(Gr.walkB (Gr.at 384 c (E k 3) (E k 4)) && (En.first (En.atQ E (E k 3) (E k 4)) 32 == (k:Int)))):=by
  show Sn.aloneB c E k=_
  unfold Sn.aloneB
  have hq:En.atQ E (E k 3) (E k 4) k=true:=by simp [En.atQ,h0]
  rw [Bool.eq_iff_iff]
  simp only [Bool.and_eq_true,decide_eq_true_eq,beq_iff_eq]
  rw [Sn.first_row hk hq]
 obtain ⟨a,ha⟩:∃a,Gr.at 384 c (E k 3) (E k 4)=a:=⟨_,rfl⟩
 rw [ha] at ca ck hd
 obtain ⟨q,hq⟩:∃q,Gr.walkB a=q:=⟨_,rfl⟩
 rw [hq] at ck hd
 obtain ⟨f,hf⟩:∃f,En.first (En.atQ E (E k 3) (E k 4)) 32=f:=⟨_,rfl⟩
 rw [hf] at ce hd
 obtain ⟨p,hp⟩:∃p,(f == (k:Int))=p:=⟨_,rfl⟩
 rw [hp] at hd
 clear hL hc hcE hk h0 hg0 ha hq hf
 unfold Gd.world at hw0 ⊢
 go_enter Tryz.func70,Tryz.ntmps70
 go_upto_region 1 with fail
 rw [←hw0]
 clear hw0
 obtain ⟨B,hBe⟩:∃B,w.heap.size=B:=⟨_,rfl⟩
 rw [hBe] at hB ⊢
 clear hBe
 have b5:=(uh hB).eleven.2.2.2.2.2.1
 obtain ⟨r0,r1,r2,r3,r4,r5,r6,r7,r8,r9,r10⟩:=(uh hL0).own.ents.row (uh HK)
 obtain ⟨w1,hw1⟩:∃w1,w1=w0.alloc (.cells (En.cells (E k)) 70):=⟨_,rfl⟩
 have hgA:w0.grownBy w1 none:=by rw [hw1];exact World.grownBy_alloc _ _ _
 have hD:Hid (Lie w1 w0.heap.size 70 11 (Ints (E k))):=by show Lie w1 _ _ _ _;rw [hw1];exact Sn.born w0 (E k) 70
 have hL1:=hide ((uh hL0).on hgA)
 have hB1:=hide ((uh hB).on hgA)
 have hg1:=hide (gtr (uh hgr) hgA)
 clear hgA hB hL0 hgr
 unfold En.cells at hw1
 go_upto_region 2 with fail
 rw [←hw1]
 clear hw1 b5 r0 r1 r2 r3 r4 r5 r6 r7 r8 r9 r10
 obtain ⟨D,hDe⟩:∃D,w0.heap.size=D:=⟨_,rfl⟩
 rw [hDe] at hD ⊢
 clear hDe w0
 have b4:=(uh hB1).eleven.2.2.2.2.1
 have b5:=(uh hB1).eleven.2.2.2.2.2.1
 obtain ⟨-,-,-,d3,d4,-,-,-,-,-,-⟩:=Sn.row (uh hD)
 go_wp2_with fail
 refine (uh ca _ (uh hL1)).mono ?_
 rintro _ w2 ⟨rfl,rfl⟩
 go_wp2_with fail
 refine (uh ck _).mono ?_
 rintro _ w2 ⟨rfl,rfl⟩
 cases q with
 | false=>go_wp2;go_ret;exact ⟨ret_bool (uh hd).symm,uh hg1⟩
 | true =>
  go_wp2_with fail
  refine (uh ce _ (uh hL1)).mono ?_
  rintro _ w2 ⟨rfl,hg2⟩
  have hgf:=hide (gtr (uh hg1) hg2)
  clear hg2 b4 b5 d3 d4 hL1 hB1 hD hg1
  go_wp2
  go_ret
  exact ⟨ret_bool (by rw [uh hd];rfl),uh hgf⟩

set_option maxRecDepth 8000 in
set_option maxHeartbeats 3200000 in
theorem isSeated_any (gE cE k:Nat) (E:Nat→Nat→Int) (w:World) (hE:Ents w gE 32 E) (hcE:32≤cE) (hk:k<32) :
  Calls Tryz.prog 71 #[.slice (some ⟨gE,0,none⟩) 32 cE,.int .i64 (k:Int)] w (Says w (.bool (Sn.seatedB E k))):=by
 have hk':(k:Int)<32:=by omega
 obtain ⟨r0,-,r2,-,-,-,-,-,-,-,-⟩:=hE.row hk
 have cw:=hide (fun x=>snWithin_any (E k 2) 0 3 x)
 have ch:=hide (hero_any gE 32 cE E (E k 2) w hE hcE)
 by_cases h1:E k 0=1
 ·have hd:Hid (Sn.seatedB E k=(Sn.inB (E k 2) 0 3 && (En.first (En.heroQ E (E k 2)) 32 == (k:Int)))):=by
   show Sn.seatedB E k=_
   unfold Sn.seatedB Sn.inB
   have hq:En.heroQ E (E k 2) k=true:=by simp [En.heroQ,h1]
   rw [if_pos h1,Bool.eq_iff_iff]
   simp only [Bool.and_eq_true,decide_eq_true_eq,beq_iff_eq]
   rw [Sn.first_row hk hq,and_assoc]
  obtain ⟨q,hq⟩:∃q,Sn.inB (E k 2) 0 3=q:=⟨_,rfl⟩
  rw [hq] at cw hd
  obtain ⟨f,hf⟩:∃f,En.first (En.heroQ E (E k 2)) 32=f:=⟨_,rfl⟩
  rw [hf] at ch hd
  obtain ⟨p,hp⟩:∃p,(f == (k:Int))=p:=⟨_,rfl⟩
  rw [hp] at hd
  rw [h1] at r0
  clear hE hcE hk h1 hq hf
  go_enter Tryz.func71,Tryz.ntmps71
  go_wp2_with fail
  refine (uh cw _).mono ?_
  rintro _ w2 ⟨rfl,rfl⟩
  cases q with
  | false=>go_wp2;go_ret;exact ⟨ret_bool (uh hd).symm,World.grownBy.refl _ _⟩
  | true =>
   go_wp2_with fail
   refine (uh ch).mono ?_
   rintro _ w2 ⟨rfl,hg2⟩
   have hgf:=hide hg2
   clear hg2 r0 r2
   go_wp2
   go_ret
   exact ⟨ret_bool (by rw [uh hd];rfl),uh hgf⟩
 ·have h1':(E k 0 != 1)=true:=by simp [h1]
  have hd:Hid (Sn.seatedB E k=(E k 2 == 0)):=by
   show Sn.seatedB E k=_
   unfold Sn.seatedB
   rw [if_neg h1,Bool.eq_iff_iff]
   simp only [decide_eq_true_eq,beq_iff_eq]
  obtain ⟨p,hp⟩:∃p,(E k 2 == 0)=p:=⟨_,rfl⟩
  rw [hp] at hd
  clear hE hcE hk h1 cw ch
  go_enter Tryz.func71,Tryz.ntmps71
  go_wp2
  go_ret
  exact ⟨ret_bool (uh hd).symm,World.grownBy.refl _ _⟩


open Go.RowKit

theorem Row.four (w:World) (a b c d:Int) (T:TypeId):Row (w.alloc (.cells #[.int .i64 a,.int .i64 b,.int .i64 c,.int .i64 d] T)) (some ⟨w.heap.size,0,none⟩) 4 [a,b,c,d]:=by
 refine ⟨rfl,by unfold maxLen;omega,.inr ⟨w.heap.size,0,rfl,fun i hi=>?_⟩⟩
 have h:=Arr.lit (heap_alloc_new w (.cells #[.int .i64 a,.int .i64 b,.int .i64 c,.int .i64 d] T))
 rw [Nat.zero_add,h.cell (i:=i) hi]
 rcases (show i=0∨i=1∨i=2∨i=3 by omega) with rfl | rfl | rfl | rfl <;> rfl

end Go.Proofs.YtkcooekhigmioaaGreat
