import Derived.Test.YtldgbkjceildfaaGreatBy18
import Derived.Deep.Fields
import Derived.Deep.Grids
import Derived.SizedLaws
namespace Go.Proofs.YtldgbkjceildfaaGreat
open Go.RowKit

theorem Sn.born (x:World) (e:Nat→Int) (T:TypeId):Lie (x.alloc (.cells (En.cells e) T)) x.heap.size T 11 (Ints e) :=
 Lie.congr (m:=11) (Arr.lit (heap_alloc_new x (.cells (En.cells e) T))).lie fun j hj=>by
  rcases (show j=0∨j=1∨j=2∨j=3∨j=4∨j=5∨j=6∨j=7∨j=8∨j=9∨j=10 by omega) with rfl|rfl|rfl|rfl|rfl|rfl|rfl|rfl|rfl|rfl|rfl <;> rfl

theorem Sn.row {x:World} {D:Nat} {T:TypeId} {e:Nat→Int} (h:Lie x D T 11 (Ints e)) :
  x.cell? ⟨D,0,none⟩=some (.int .i64 (e 0))∧x.cell? ⟨D,1,none⟩=some (.int .i64 (e 1))∧x.cell? ⟨D,2,none⟩=some (.int .i64 (e 2))∧x.cell? ⟨D,3,none⟩=some (.int .i64 (e 3))∧x.cell? ⟨D,4,none⟩=some (.int .i64 (e 4))∧x.cell? ⟨D,5,none⟩=some (.int .i64 (e 5))∧x.cell? ⟨D,6,none⟩=some (.int .i64 (e 6))∧x.cell? ⟨D,7,none⟩=some (.int .i64 (e 7))∧x.cell? ⟨D,8,none⟩=some (.int .i64 (e 8))∧x.cell? ⟨D,9,none⟩=some (.int .i64 (e 9))∧x.cell? ⟨D,10,none⟩=some (.int .i64 (e 10)) :=
 ⟨h.cell (c:=0) (by omega),h.cell (c:=1) (by omega),h.cell (c:=2) (by omega),h.cell (c:=3) (by omega),h.cell (c:=4) (by omega),h.cell (c:=5) (by omega),h.cell (c:=6) (by omega),h.cell (c:=7) (by omega),h.cell (c:=8) (by omega),h.cell (c:=9) (by omega),h.cell (c:=10) (by omega)⟩

def Sn.inB (n a b:Int):Bool:=decide (a≤n∧n≤b)

set_option maxHeartbeats 400000 in
theorem snWithin_any (n a b:Int) (w:World):Calls Tryz.prog 105 #[.int .i64 n,.int .i64 a,.int .i64 b] w fun e w'=>e=.returned (.bool (Sn.inB n a b))∧w'=w:=by
 by_cases h1:a≤n
 ·have h1':n≥a:=h1;by_cases h2:n≤b
  ·have hd:Hid (Sn.inB n a b=true):=by show Sn.inB n a b=true;unfold Sn.inB;rw [decide_eq_true_eq];exact ⟨h1,h2⟩
   clear h1;go_enter Tryz.func105,Tryz.ntmps105;go_wp2;go_ret;exact ⟨ret_bool (uh hd).symm,rfl⟩
  ·have hd:Hid (Sn.inB n a b=false):=by show Sn.inB n a b=false;unfold Sn.inB;rw [decide_eq_false_iff_not];exact fun h=>h2 h.2
   clear h1;go_enter Tryz.func105,Tryz.ntmps105;go_wp2;go_ret;exact ⟨ret_bool (uh hd).symm,rfl⟩
 ·have h1':¬n≥a:=h1;have hd:Hid (Sn.inB n a b=false):=by show Sn.inB n a b=false;unfold Sn.inB;rw [decide_eq_false_iff_not];exact fun h=>h1 h.1
  clear h1;go_enter Tryz.func105,Tryz.ntmps105;go_wp2;go_ret;exact ⟨ret_bool (uh hd).symm,rfl⟩

set_option maxRecDepth 8000 in
set_option maxHeartbeats 800000 in
theorem snCount_any (G cap:Nat) (c:Nat→Int) (kind:Int) (w:World) (hC:Lie w G 5 384 (Byts c)) :
  Calls Tryz.prog 87 #[.slice (some ⟨G,0,none⟩) 384 cap,.int .u8 kind] w fun e w'=>e=.returned (.int .i64 (Sn.cnt c kind 384))∧w'=w:=by
 have hC':=hide hC;clear hC;go_enter Tryz.func87,Tryz.ntmps87;go_wp2_with fail
 go_loop [5,10] (fun v5 v10=>∃i:Nat,i≤384∧v5=.int .i64 (Sn.cnt c kind i)∧v10=.int .i64 (i:Int)) (fun _ v10=>400 - (intOf v10).toNat)
 case atStart=>exact ⟨0,by omega,rfl,rfl⟩
 case round =>
  obtain ⟨i,hi,rfl,rfl⟩:=hrel;by_cases hlt:i<384
  ·have hlt':(i:Int)<384:=by omega
   have HL:=hide hlt;have u0:w.cell? ⟨G,i,none⟩=some (.int .u8 (c i)):=(uh hC').cell hlt;have hb:=Sn.cnt_bound c kind i;obtain ⟨X,hX⟩:∃X,Sn.cnt c kind i=X:=⟨_,rfl⟩;have hn:Hid (Sn.cnt c kind (i+1)=X+if c i=kind then 1 else 0):=by
    show Sn.cnt c kind (i+1)=_;rw [←hX];rfl
   rw [hX] at hb ⊢;clear hlt hi hX;by_cases k3:c i=kind
   ·have k3':(c i == kind)=true:=by simp [k3]
    rw [if_pos k3] at hn;clear k3;go_wp2;go_round;case rel=>exact ⟨i+1,by have:=uh HL;omega,by rw [uh hn],by go_num⟩
    case measure=>simp [intOf];have:=uh HL;omega
   ·have k3':(c i == kind)=false:=by simp [k3]
    rw [if_neg k3] at hn;clear k3;go_wp2;go_round;case rel=>exact ⟨i+1,by have:=uh HL;omega,by rw [uh hn];simp,by go_num⟩
    case measure=>simp [intOf];have:=uh HL;omega
  ·obtain rfl:i=384:=by omega
   have hge:¬((384:Nat):Int)<384:=by omega
   clear hlt hi;obtain ⟨X,hX⟩:∃X,Sn.cnt c kind 384=X:=⟨_,rfl⟩;rw [hX];have hX':=hide hX;clear hX;go_wp2;go_ret;exact ⟨rti (uh hX').symm,rfl⟩

set_option maxRecDepth 8000 in
set_option maxHeartbeats 800000 in
theorem snMax_any (G cap:Nat) (c:Nat→Int) (w:World) (hC:Lie w G 5 384 (Byts c)) :
  Calls Tryz.prog 86 #[.slice (some ⟨G,0,none⟩) 384 cap] w fun e w'=>e=.returned (.int .u8 (Sn.mx c 383))∧w'=w:=by
 have hC':=hide hC;have u0:w.cell? ⟨G,0,none⟩=some (.int .u8 (c 0)):=hC.cell (by omega);clear hC;go_enter Tryz.func86,Tryz.ntmps86;go_wp2_with fail
 go_loop [3,4] (fun v3 v4=>∃i:Nat,1≤i∧i≤384∧v3=.int .u8 (Sn.mx c (i - 1))∧v4=.int .i64 (i:Int)) (fun _ v4=>400 - (intOf v4).toNat)
 case atStart=>exact ⟨1,by omega,by omega,rfl,rfl⟩
 case round =>
  obtain ⟨i,h1,hi,rfl,rfl⟩:=hrel;by_cases hlt:i<384
  ·have hlt':(i:Int)<384:=by omega
   have HL:=hide hlt;have u0:w.cell? ⟨G,i,none⟩=some (.int .u8 (c i)):=(uh hC').cell hlt;obtain ⟨X,hX⟩:∃X,Sn.mx c (i - 1)=X:=⟨_,rfl⟩;have hn:Hid (Sn.mx c (i+1 - 1)=max X (c i)):=by
    show Sn.mx c (i+1 - 1)=_;rw [←hX,show i+1 - 1=(i - 1)+1 by omega];show max _ (c (i - 1+1))=_;rw [show i - 1+1=i by omega]
   rw [hX];clear hlt hi hX;have hm:(if X<c i then c i else X)=max X (c i):=by split <;> omega
   rw [←hm] at hn;clear hm;go_wp2;go_round;case rel=>exact ⟨i+1,by omega,by have:=uh HL;omega,by rw [uh hn],by go_num⟩
   case measure=>simp [intOf];have:=uh HL;omega
  ·have hge:¬(i:Int)<384:=by omega
   have hie:i=384:=by omega
   obtain ⟨X,hX⟩:∃X,Sn.mx c (i - 1)=X:=⟨_,rfl⟩;have hX':Hid (Sn.mx c 383=X):=by
    rw [←hX,hie];exact rfl
   clear hlt hi h1 hie;rw [hX];clear hX;go_wp2;go_ret;exact ⟨rti (uh hX').symm,rfl⟩

theorem run_index_gold (g:Nat→Int) (t:Nat) (ht:t<4) (w:World):(Instr.index 28 (.agg #[.int .i64 (g 0),.int .i64 (g 1),.int .i64 (g 2),.int .i64 (g 3)]) (.int .i64 (t:Int))).run Tryz.prog w=.ok (.int .i64 (g t)) w:=by
 rcases (show t=0∨t=1∨t=2∨t=3 by omega) with rfl|rfl|rfl|rfl <;> kernel_rfl

set_option maxRecDepth 8000 in
set_option maxHeartbeats 1600000 in
theorem headFits_any (s g:Nat→Int) (nC nE nI cC cE cI:Nat) (aC aE aI:Option Addr) (w:World) :
  Calls Tryz.prog 85 #[.agg #[.int .i64 (s 0),.int .i64 (s 1),.int .i64 (s 2),.int .i64 (s 3),.slice aC nC cC,.slice aE nE cE,.slice aI nI cI,.int .i64 (g 0),.int .i64 (g 1),.int .i64 (g 2),.int .i64 (g 3)]] w (Says w (.bool (Sn.headB s g))):=by
 obtain ⟨w0,hw0⟩:∃w0,w0=w.alloc (.cells #[.int .i64 (s 0),.int .i64 (s 1),.int .i64 (s 2),.int .i64 (s 3),.slice aC nC cC,.slice aE nE cE,.slice aI nI cI,.int .i64 (g 0),.int .i64 (g 1),.int .i64 (g 2),.int .i64 (g 3)] 30):=⟨_,rfl⟩;have hg0:w.grownBy w0 none:=by rw [hw0];exact World.grownBy_alloc _ _ _
 have hB:=(Arr.lit (heap_alloc_new w (.cells #[.int .i64 (s 0),.int .i64 (s 1),.int .i64 (s 2),.int .i64 (s 3),.slice aC nC cC,.slice aE nE cE,.slice aI nI cI,.int .i64 (g 0),.int .i64 (g 1),.int .i64 (g 2),.int .i64 (g 3)] 30))).lie;rw [←hw0] at hB;have hgr:=hide hg0;clear hg0;go_enter Tryz.func85,Tryz.ntmps85;go_upto_region 1 with fail;rw [←hw0];clear hw0;obtain ⟨B,hBe⟩:∃B,w.heap.size=B:=⟨_,rfl⟩;rw [hBe] at hB ⊢;clear hBe;have b1:w0.cell? ⟨B,1,none⟩=some (.int .i64 (s 1)):=hB.cell (c:=1) (by simp);have b2:w0.cell? ⟨B,2,none⟩=some (.int .i64 (s 2)):=hB.cell (c:=2) (by simp);have b3:w0.cell? ⟨B,3,none⟩=some (.int .i64 (s 3)):=hB.cell (c:=3) (by simp);have b7:w0.cell? ⟨B,7,none⟩=some (.int .i64 (g 0)):=hB.cell (c:=7) (by simp);have b8:w0.cell? ⟨B,8,none⟩=some (.int .i64 (g 1)):=hB.cell (c:=8) (by simp);have b9:w0.cell? ⟨B,9,none⟩=some (.int .i64 (g 2)):=hB.cell (c:=9) (by simp);have b10:w0.cell? ⟨B,10,none⟩=some (.int .i64 (g 3)):=hB.cell (c:=10) (by simp);clear hB;go_wp2_with fail
 go_loop [7] (fun v7=>∃t:Nat,t≤4∧v7=.int .i64 (t:Int)∧Hid (∀j,j<t→Sn.goldB g j=true)) (fun v7=>10 - (intOf v7).toNat)
 case atStart=>exact ⟨0,by omega,rfl,fun j hj=>absurd hj (by omega)⟩
 case round =>
  obtain ⟨t,ht,rfl,hall⟩:=hrel;by_cases hlt:t<4
  ·have hlt':(t:Int)<4:=by omega
   have HL:=hide hlt;have hix:=fun x=>run_index_gold g t hlt x;have cw:=hide (fun x=>snWithin_any (g t) 0 999 x);have hq:Hid (Sn.goldB g t=Sn.inB (g t) 0 999):=rfl;obtain ⟨q,hqe⟩:∃q,Sn.inB (g t) 0 999=q:=⟨_,rfl⟩;rw [hqe] at cw hq;clear hlt ht hqe;go_wp2_with fail;refine (uh cw _).mono ?_;rintro e w1 ⟨rfl,rfl⟩;cases q with
   | true =>
    go_wp2;go_round;case rel=>exact ⟨t+1,by have:=uh HL;omega,by go_num,fun j hj=>by
     by_cases e:j=t
     ·rw [e];exact uh hq
     ·exact uh hall j (by omega)⟩
    case measure=>simp [intOf];have:=uh HL;omega
   | false =>
    have hno:Hid (Sn.headB s g=false):=by
     show Sn.headB s g=false;unfold Sn.headB;rw [Sn.goldsB_no (uh hq) (uh HL),Bool.false_and]
    go_wp2;go_ret;exact ⟨ret_bool (uh hno).symm,uh hgr⟩
  ·obtain rfl:t=4:=by omega
   have hge:¬((4:Nat):Int)<4:=by omega
   have c1:=hide (fun x=>snWithin_any (s 1) 0 1073741823 x);have c2:=hide (fun x=>snWithin_any (s 2) 1 3 x);have c3:=hide (fun x=>snWithin_any (s 3) 0 2 x);have hd:Hid (Sn.headB s g=(Sn.inB (s 1) 0 1073741823 && (Sn.inB (s 2) 1 3 && Sn.inB (s 3) 0 2))):=by
    show Sn.headB s g=_;unfold Sn.headB Sn.numB Sn.inB;rw [Sn.goldsB_of (uh hall),Bool.true_and,←Bool.decide_and,←Bool.decide_and,decide_eq_decide];omega
   obtain ⟨q1,e1⟩:∃q,Sn.inB (s 1) 0 1073741823=q:=⟨_,rfl⟩;obtain ⟨q2,e2⟩:∃q,Sn.inB (s 2) 1 3=q:=⟨_,rfl⟩;obtain ⟨q3,e3⟩:∃q,Sn.inB (s 3) 0 2=q:=⟨_,rfl⟩;rw [e1] at c1 hd;rw [e2] at c2 hd;rw [e3] at c3 hd;clear hlt ht hall e1 e2 e3;go_wp2_with fail;refine (uh c1 _).mono ?_;rintro e w1 ⟨rfl,rfl⟩;cases q1 with
   | false =>
    go_wp2;go_ret;exact ⟨ret_bool (uh hd).symm,uh hgr⟩
   | true =>
    go_wp2_with fail;refine (uh c2 _).mono ?_;rintro e w1 ⟨rfl,rfl⟩;cases q2 with
    | false =>
     go_wp2;go_ret;exact ⟨ret_bool (uh hd).symm,uh hgr⟩
    | true =>
     go_wp2_with fail;refine (uh c3 _).mono ?_;rintro e w1 ⟨rfl,rfl⟩;go_wp2;go_ret;exact ⟨ret_bool (by rw [uh hd];rfl),uh hgr⟩


open Go.RowKit

set_option maxRecDepth 8000 in
set_option maxHeartbeats 3200000 in
theorem isSound_any (e:Nat→Int) (w:World):Calls Tryz.prog 106 #[.agg (En.cells e)] w (Says w (.bool (Sn.soundB e))):=by
 obtain ⟨w0,hw0⟩:∃w0,w0=w.alloc (.cells (En.cells e) 70):=⟨_,rfl⟩;have hg0:Hid (w.grownBy w0 none):=by show w.grownBy w0 none;rw [hw0];exact World.grownBy_alloc _ _ _
 have hD:Hid (Lie w0 w.heap.size 70 11 (Ints e)):=by show Lie w0 _ _ _ _;rw [hw0];exact Sn.born w e 70
 obtain ⟨st,hst⟩:∃st,En.stats (e 0)=st:=⟨_,rfl⟩;have cst:=hide (fun x=>entStats_any (e 0) x);rw [hst] at cst;have hd:Hid (Sn.soundB e=((e 6 == st 6) && ((e 7 == st 7) && ((e 8 == st 8) && (Sn.inB (e 5) 1 (e 6) && (Sn.inB (e 9) 0 9 && Sn.inB (e 10) 0 9)))))):=by
  show Sn.soundB e=_;unfold Sn.soundB Sn.inB;rw [hst,Bool.eq_iff_iff];simp only [decide_eq_true_eq,Bool.and_eq_true,beq_iff_eq];omega
 obtain ⟨k1,h1⟩:∃k,(e 6 == st 6)=k:=⟨_,rfl⟩;obtain ⟨k2,h2⟩:∃k,(e 7 == st 7)=k:=⟨_,rfl⟩;obtain ⟨k3,h3⟩:∃k,(e 8 == st 8)=k:=⟨_,rfl⟩;have c4:=hide (fun x=>snWithin_any (e 5) 1 (e 6) x);have c5:=hide (fun x=>snWithin_any (e 9) 0 9 x);have c6:=hide (fun x=>snWithin_any (e 10) 0 9 x);obtain ⟨k4,h4⟩:∃k,Sn.inB (e 5) 1 (e 6)=k:=⟨_,rfl⟩;obtain ⟨k5,h5⟩:∃k,Sn.inB (e 9) 0 9=k:=⟨_,rfl⟩;obtain ⟨k6,h6⟩:∃k,Sn.inB (e 10) 0 9=k:=⟨_,rfl⟩;rw [h1,h2,h3,h4,h5,h6] at hd;rw [h4] at c4;rw [h5] at c5;rw [h6] at c6;clear hst h4 h5 h6;unfold En.cells at hw0 cst ⊢;go_enter Tryz.func106,Tryz.ntmps106;go_upto_region 1 with fail;rw [←hw0];clear hw0;obtain ⟨B,hBe⟩:∃B,w.heap.size=B:=⟨_,rfl⟩;rw [hBe] at hD ⊢;clear hBe;have d0:=(Sn.row (uh hD)).1;go_wp2_with fail;refine (uh cst _).mono ?_;rintro _ w2 ⟨rfl,hg2⟩;have hF:=hide (Sn.born w2 st 70);have hgB:=hide (gtr hg2 (World.grownBy_alloc w2 (.cells (En.cells st) 70) none));have hD2:=hide ((uh hD).on (uh hgB));have hg3:=hide (gtr (uh hg0) (uh hgB));clear hg2 hgB cst d0 hD hg0;unfold En.cells at hF hD2 hg3;go_upto_region 2 with fail;obtain ⟨F,hFe⟩:∃F,w2.heap.size=F:=⟨_,rfl⟩;rw [hFe] at hF ⊢;generalize w2.alloc (.cells #[.int .i64 (st 0),.int .i64 (st 1),.int .i64 (st 2),.int .i64 (st 3),.int .i64 (st 4),.int .i64 (st 5),.int .i64 (st 6),.int .i64 (st 7),.int .i64 (st 8),.int .i64 (st 9),.int .i64 (st 10)] 70)=w3 at hF hD2 hg3 ⊢;clear hFe w2;obtain ⟨-,-,-,-,-,d5,d6,d7,d8,d9,d10⟩:=Sn.row (uh hD2);obtain ⟨-,-,-,-,-,-,z6,z7,z8,-,-⟩:=Sn.row (uh hF);clear hF hD2;cases k1 with
 | false=>go_wp2;go_ret;exact ⟨ret_bool (uh hd).symm,uh hg3⟩
 | true =>
 cases k2 with
 | false=>go_wp2;go_ret;exact ⟨ret_bool (uh hd).symm,uh hg3⟩
 | true =>
 cases k3 with
 | false=>go_wp2;go_ret;exact ⟨ret_bool (uh hd).symm,uh hg3⟩
 | true =>
 go_wp2_with fail;refine (uh c4 _).mono ?_;rintro _ w4 ⟨rfl,rfl⟩;cases k4 with
 | false=>go_wp2;go_ret;exact ⟨ret_bool (uh hd).symm,uh hg3⟩
 | true =>
 go_wp2_with fail;refine (uh c5 _).mono ?_;rintro _ w4 ⟨rfl,rfl⟩;cases k5 with
 | false=>go_wp2;go_ret;exact ⟨ret_bool (uh hd).symm,uh hg3⟩
 | true =>
 go_wp2_with fail;refine (uh c6 _).mono ?_;rintro _ w4 ⟨rfl,rfl⟩;go_wp2;go_ret;exact ⟨ret_bool (by rw [uh hd];rfl),uh hg3⟩

theorem Sn.first_row {q:Nat→Bool} {k n:Nat} (hk:k<n) (hq:q k=true):(En.first q n=(k:Int)↔En.first q k=-1):=by
 constructor
 ·intro h;refine En.first_none fun j hj=>?_;rcases En.first_cases q n with ⟨h1,_⟩|⟨m,_,h1,_,hno⟩
  ·omega
  ·have:m=k:=by omega
   subst this;exact hno j hj
 ·intro h;refine En.first_hit (fun j hj=>?_) hq hk;rcases En.first_cases q k with ⟨_,hno⟩|⟨m,_,h1,_,_⟩
  ·exact hno j hj
  ·omega

set_option maxRecDepth 8000 in
set_option maxHeartbeats 3200000 in
theorem standsAlone_any (s g c:Nat→Int) (E I:Nat→Nat→Int) (gC gE gI cC cE cI k:Nat) (w:World) (hL:Gd.Lists w gC gE gI c E I) (hc:∀i,0≤c i∧c i≤255) (hcE:32≤cE) (hk:k<32) (h0:E k 0≠0) :
  Calls Tryz.prog 107 #[.agg (Gd.world s gC gE gI cC cE cI g),.int .i64 (k:Int)] w (Says w (.bool (Sn.aloneB c E k))):=by
 obtain ⟨w0,hw0⟩:∃w0,w0=w.alloc (.cells (Gd.world s gC gE gI cC cE cI g) 30):=⟨_,rfl⟩;have hg0:w.grownBy w0 none:=by rw [hw0];exact World.grownBy_alloc _ _ _
 have hB:Hid (Lie w0 w.heap.size 30 11 (Gd.box s gC gE gI cC cE cI g)):=by show Lie w0 _ _ _ _;rw [hw0];exact (Arr.world (heap_alloc_new w _)).lie
 have hL0:=hide (hL.on hg0);have hgr:=hide hg0;have HK:=hide hk;have hk':(k:Int)<32:=by omega
 have ca:=hide (fun z (hz:Gd.Lists z gC gE gI c E I)=>at_any z.heap.size (some ⟨gC,0,none⟩) 384 cC c (E k 3) (E k 4) z hz.vec hc);have ck:=hide (fun x=>walk_any (Gr.at 384 c (E k 3) (E k 4)) x);have ce:=hide (fun z (hz:Gd.Lists z gC gE gI c E I)=>entAt_any gE 32 cE E (E k 3) (E k 4) z hz.own.ents hcE);have hd:Hid (Sn.aloneB c E k=(Gr.walkB (Gr.at 384 c (E k 3) (E k 4)) && (En.first (En.atQ E (E k 3) (E k 4)) 32 == (k:Int)))):=by
  show Sn.aloneB c E k=_;unfold Sn.aloneB;have hq:En.atQ E (E k 3) (E k 4) k=true:=by simp [En.atQ,h0]
  rw [Bool.eq_iff_iff];simp only [Bool.and_eq_true,decide_eq_true_eq,beq_iff_eq];rw [Sn.first_row hk hq]
 obtain ⟨a,ha⟩:∃a,Gr.at 384 c (E k 3) (E k 4)=a:=⟨_,rfl⟩;rw [ha] at ca ck hd;obtain ⟨q,hq⟩:∃q,Gr.walkB a=q:=⟨_,rfl⟩;rw [hq] at ck hd;obtain ⟨f,hf⟩:∃f,En.first (En.atQ E (E k 3) (E k 4)) 32=f:=⟨_,rfl⟩;rw [hf] at ce hd;obtain ⟨p,hp⟩:∃p,(f == (k:Int))=p:=⟨_,rfl⟩;rw [hp] at hd;clear hL hc hcE hk h0 hg0 ha hq hf;unfold Gd.world at hw0 ⊢;go_enter Tryz.func107,Tryz.ntmps107;go_upto_region 1 with fail;rw [←hw0];clear hw0;obtain ⟨B,hBe⟩:∃B,w.heap.size=B:=⟨_,rfl⟩;rw [hBe] at hB ⊢;clear hBe;have b5:=(uh hB).eleven.2.2.2.2.2.1;obtain ⟨r0,r1,r2,r3,r4,r5,r6,r7,r8,r9,r10⟩:=(uh hL0).own.ents.row (uh HK);obtain ⟨w1,hw1⟩:∃w1,w1=w0.alloc (.cells (En.cells (E k)) 70):=⟨_,rfl⟩;have hgA:w0.grownBy w1 none:=by rw [hw1];exact World.grownBy_alloc _ _ _
 have hD:Hid (Lie w1 w0.heap.size 70 11 (Ints (E k))):=by show Lie w1 _ _ _ _;rw [hw1];exact Sn.born w0 (E k) 70
 have hL1:=hide ((uh hL0).on hgA);have hB1:=hide ((uh hB).on hgA);have hg1:=hide (gtr (uh hgr) hgA);clear hgA hB hL0 hgr;unfold En.cells at hw1;go_upto_region 2 with fail;rw [←hw1];clear hw1 b5 r0 r1 r2 r3 r4 r5 r6 r7 r8 r9 r10;obtain ⟨D,hDe⟩:∃D,w0.heap.size=D:=⟨_,rfl⟩;rw [hDe] at hD ⊢;clear hDe w0;have b4:=(uh hB1).eleven.2.2.2.2.1;have b5:=(uh hB1).eleven.2.2.2.2.2.1;obtain ⟨-,-,-,d3,d4,-,-,-,-,-,-⟩:=Sn.row (uh hD);go_wp2_with fail;refine (uh ca _ (uh hL1)).mono ?_;rintro _ w2 ⟨rfl,rfl⟩;go_wp2_with fail;refine (uh ck _).mono ?_;rintro _ w2 ⟨rfl,rfl⟩;cases q with
 | false=>go_wp2;go_ret;exact ⟨ret_bool (uh hd).symm,uh hg1⟩
 | true =>
  go_wp2_with fail;refine (uh ce _ (uh hL1)).mono ?_;rintro _ w2 ⟨rfl,hg2⟩;have hgf:=hide (gtr (uh hg1) hg2);clear hg2 b4 b5 d3 d4 hL1 hB1 hD hg1;go_wp2;go_ret;exact ⟨ret_bool (by rw [uh hd];rfl),uh hgf⟩

set_option maxRecDepth 8000 in
set_option maxHeartbeats 3200000 in
theorem isSeated_any (gE cE k:Nat) (E:Nat→Nat→Int) (w:World) (hE:Ents w gE 32 E) (hcE:32≤cE) (hk:k<32) :
  Calls Tryz.prog 108 #[.slice (some ⟨gE,0,none⟩) 32 cE,.int .i64 (k:Int)] w (Says w (.bool (Sn.seatedB E k))):=by
 have hk':(k:Int)<32:=by omega
 obtain ⟨r0,-,r2,-,-,-,-,-,-,-,-⟩:=hE.row hk;have cw:=hide (fun x=>snWithin_any (E k 2) 0 3 x);have ch:=hide (hero_any gE 32 cE E (E k 2) w hE hcE);by_cases h1:E k 0=1
 ·have hd:Hid (Sn.seatedB E k=(Sn.inB (E k 2) 0 3 && (En.first (En.heroQ E (E k 2)) 32 == (k:Int)))):=by
   show Sn.seatedB E k=_;unfold Sn.seatedB Sn.inB;have hq:En.heroQ E (E k 2) k=true:=by simp [En.heroQ,h1]
   rw [if_pos h1,Bool.eq_iff_iff];simp only [Bool.and_eq_true,decide_eq_true_eq,beq_iff_eq];rw [Sn.first_row hk hq,and_assoc]
  obtain ⟨q,hq⟩:∃q,Sn.inB (E k 2) 0 3=q:=⟨_,rfl⟩;rw [hq] at cw hd;obtain ⟨f,hf⟩:∃f,En.first (En.heroQ E (E k 2)) 32=f:=⟨_,rfl⟩;rw [hf] at ch hd;obtain ⟨p,hp⟩:∃p,(f == (k:Int))=p:=⟨_,rfl⟩;rw [hp] at hd;rw [h1] at r0;clear hE hcE hk h1 hq hf;go_enter Tryz.func108,Tryz.ntmps108;go_wp2_with fail;refine (uh cw _).mono ?_;rintro _ w2 ⟨rfl,rfl⟩;cases q with
  | false=>go_wp2;go_ret;exact ⟨ret_bool (uh hd).symm,World.grownBy.refl _ _⟩
  | true =>
   go_wp2_with fail;refine (uh ch).mono ?_;rintro _ w2 ⟨rfl,hg2⟩;have hgf:=hide hg2;clear hg2 r0 r2;go_wp2;go_ret;exact ⟨ret_bool (by rw [uh hd];rfl),uh hgf⟩
 ·have h1':(E k 0 != 1)=true:=by simp [h1]
  have hd:Hid (Sn.seatedB E k=(E k 2 == 0)):=by
   show Sn.seatedB E k=_;unfold Sn.seatedB;rw [if_neg h1,Bool.eq_iff_iff];simp only [decide_eq_true_eq,beq_iff_eq]
  obtain ⟨p,hp⟩:∃p,(E k 2 == 0)=p:=⟨_,rfl⟩;rw [hp] at hd;clear hE hcE hk h1 cw ch;go_enter Tryz.func108,Tryz.ntmps108;go_wp2;go_ret;exact ⟨ret_bool (uh hd).symm,World.grownBy.refl _ _⟩


open Go.RowKit

set_option maxRecDepth 8000 in
set_option maxHeartbeats 3200000 in
theorem refSpot_any (ca:Option Addr) (cc b n c:Nat) (f:Nat→Int) (E:Nat→Nat→Int) (x y:Int) (w:World)
  (hc:Vec w.heap.size w ca 384 (Byts f)) (hf:∀i,0≤f i∧f i≤255) (hE:Ents w b n E) :
  Calls Tryz.prog 67 #[.slice ca 384 cc,.slice (some ⟨b,0,none⟩) n c,.int .i64 x,.int .i64 y] w (Nv.SaysSpot w f E n x y):=by
 have hc':=hide hc;have hf':=hide hf;have hE':=hide hE;clear hc hf hE;by_cases hin:Gr.inB x y=true;case neg =>
  rw [Bool.not_eq_true] at hin;have he:=hide (Nv.spot_out (f:=f) (E:=E) (n:=n) (show Nv.num x y=-1 from if_neg (by rw [hin];simp)));have cI:=hide (fun wq=>refIn_any x y wq);rw [hin] at cI;clear hin;go_enter Tryz.func67,Tryz.ntmps67;go_wp2_with fail;refine (uh cI _).mono ?_;rintro e w1 ⟨rfl,rfl⟩;go_wp2;go_ret;exact ⟨_,uh he,rfl,World.grownBy.refl _ _⟩
 obtain ⟨b1,b2,b3,b4⟩:=(Gr.inB_iff _ _).1 hin;obtain ⟨X,rfl⟩:∃X:Nat,x=(X:Int):=⟨x.toNat,by omega⟩;obtain ⟨Y,rfl⟩:∃Y:Nat,y=(Y:Int):=⟨y.toNat,by omega⟩;have hX:X<24:=by omega
 have hY:Y<16:=by omega
 have hme:Nv.num (X:Int) (Y:Int)=(Y:Int)*24+X:=by unfold Nv.num;rw [if_pos hin]
 have hs0:Hid (∀F,Gr.IsField (fun i=>Gr.openB f 0 (fun _=>false) i=true) (Gr.tgt f (fun _=>(Y:Int)*24+X) 1) F→Nv.IsSpot f E n X Y (Nv.best F (Nv.st E n) 384)):=fun F h=>⟨F,by rw [hme];exact h,rfl⟩;have cI:=hide (fun wq=>refIn_any (X:Int) (Y:Int) wq);rw [hin] at cI;clear hin b1 b2 b3 b4 hme;go_enter Tryz.func67,Tryz.ntmps67;go_wp2_with fail;refine (uh cI _).mono ?_;rintro e w1 ⟨rfl,rfl⟩;go_wp2_with fail;obtain ⟨w3,hw3⟩:∃w3,w3=w1.alloc (.cells #[.int .i64 ((Y:Int)*24+X)] 3):=⟨_,rfl⟩;have hB3:Below w1.heap.size w1 w3:=by rw [hw3];exact (Below.refl _ _).alloc (Nat.le_refl _) _
 have hV:Vec w3.heap.size w3 (some ⟨w1.heap.size,0,none⟩) 1 (Ints fun _=>(Y:Int)*24+X):=by rw [hw3];exact Nv.one_row w1 _ _
 rw [←hw3];refine (refField_any ca none (some ⟨w1.heap.size,0,none⟩) 0 1 cc 0 1 f (fun _=>(Y:Int)*24+X) (fun _=>false) w3 (((uh hc').kept hB3).mono hB3.size) (uh hf') ⟨by unfold maxLen;omega,.inl rfl⟩ hV (fun _=>⟨by omega,by omega⟩)).mono ?_;rintro e w4 ⟨F,⟨g2,rfl,hg2,hA4,hB4⟩,hF⟩;have hspot:=hide (uh hs0 F hF);have hgw:=below_grown (hB3.trans (hB4.mono hB3.size));have hgw':=hide hgw;have hEw:=hide ((uh hE').on hgw);have hA4':=hide hA4;clear hA4 hB4 hV hB3 hw3 hF hs0 hg2 hgw cI hE' hc';go_wp2_with fail
 go_loopw [10,11] (fun s i wr=>∃k:Nat,k≤384∧s=.int .i64 (Nv.best F (Nv.st E n) k)∧i=.int .i64 (k:Int)∧w4.grownBy wr none) (fun _ i _=>384 - (intOf i).toNat)
 case atStart=>exact ⟨0,by omega,rfl,rfl,World.grownBy.refl _ _⟩
 case round =>
  obtain ⟨k,hk,rfl,rfl,hgr⟩:=hrel;by_cases hlt:k<384
  ·have hlt':(k:Int)<384:=by omega
   have HL:=hide hlt;have hck:wr.cell? ⟨g2,k,none⟩=some (.int .i64 (F k)):=((uh hA4').grown hgr (by simp)).cell hlt;have cA:∀q,Calls Tryz.prog 50 #[.slice (some ⟨b,0,none⟩) n c,.int .i64 ((k % 24:Nat):Int),.int .i64 ((k / 24:Nat):Int)] (wr.drewN q) fun e w'=>e=.returned (.int .i64 (En.first (En.atQ E ((k % 24:Nat):Int) ((k / 24:Nat):Int)) n))∧w'=wr.drewN q:=fun q=>entRefAt_same b n c E _ _ _ ((uh hEw).on (gdw hgr q));have hgd:Hid (∀q,w4.grownBy (wr.drewN q) none):=fun q=>gdw hgr q;have hst:Nv.st E n k=decide (0≤En.first (En.atQ E ((k % 24:Nat):Int) ((k / 24:Nat):Int)) n):=rfl;generalize En.first (En.atQ E ((k % 24:Nat):Int) ((k / 24:Nat):Int)) n=r at cA hst;have hcp:Hid (∀p,p<k→wr.cell? ⟨g2,p,none⟩=some (.int .i64 (F p))):=fun p hp=>((uh hA4').grown hgr (by simp)).cell (by omega);clear hlt hk hgr;by_cases h1:F k<0
   ·have hb:=hide (Nv.best_skip (F:=F) (st:=Nv.st E n) (k:=k) (.inl h1));generalize Nv.best F (Nv.st E n) k=B at hb;have h1':decide (F k≥0)=false:=decide_eq_false (by omega);clear hst;go_wp2_with fail;go_quiet ((go_at_call 50;exact Calls.quiet_of_same (cA _)));go_wp2;go_roundw;case rel=>exact ⟨k+1,by have:=uh HL;omega,by rw [uh hb],by go_num,uh hgd _⟩
    case measure=>have:=uh HL;simp [intOf];omega
   have h1':decide (F k≥0)=true:=decide_eq_true (by omega);by_cases h2:0≤r
   ·have hb:=hide (Nv.best_skip (F:=F) (st:=Nv.st E n) (k:=k) (.inr (by rw [hst];exact decide_eq_true h2)));generalize Nv.best F (Nv.st E n) k=B at hb;have h2':decide (r<0)=false:=decide_eq_false (by omega);clear hst;go_wp2_with fail;go_quiet ((go_at_call 50;exact Calls.quiet_of_same (cA _)));go_wp2;go_roundw;case rel=>exact ⟨k+1,by have:=uh HL;omega,by rw [uh hb],by go_num,uh hgd _⟩
    case measure=>have:=uh HL;simp [intOf];omega
   have hsf:Nv.st E n k=false:=by rw [hst];exact decide_eq_false h2
   have h2':decide (r<0)=true:=decide_eq_true (by omega);rcases Nv.best_cases F (Nv.st E n) k with e|⟨p,hp,e⟩
   ·have hb:=hide (Nv.best_first (by omega) hsf e);rw [e];clear hst hsf e;go_wp2_with fail;go_quiet ((go_at_call 50;exact Calls.quiet_of_same (cA _)));go_wp2;go_roundw;case rel=>exact ⟨k+1,by have:=uh HL;omega,by rw [uh hb],by go_num,uh hgd _⟩
    case measure=>have:=uh HL;simp [intOf];omega
   have hcp':=uh hcp p hp;have hp':(p:Int)<384:=by have:=uh HL;omega
   have hp0:decide ((p:Int)<0)=false:=decide_eq_false (by omega);by_cases h3:F k<F p
   ·have hb:=hide (Nv.best_less (by omega) hsf e h3);have h3':decide (F k<F p)=true:=decide_eq_true h3;rw [e];clear hst hsf e hp h3;go_wp2_with fail;go_quiet ((go_at_call 50;exact Calls.quiet_of_same (cA _)));go_wp2;go_roundw;case rel=>exact ⟨k+1,by have:=uh HL;omega,by rw [uh hb],by go_num,uh hgd _⟩
    case measure=>have:=uh HL;simp [intOf];omega
   ·have hb:=hide ((Nv.best_more (st:=Nv.st E n) e h3).trans e);have h3':decide (F k<F p)=false:=decide_eq_false h3;rw [e];clear hst hsf e hp h3;go_wp2_with fail;go_quiet ((go_at_call 50;exact Calls.quiet_of_same (cA _)));go_wp2;go_roundw;case rel=>exact ⟨k+1,by have:=uh HL;omega,by rw [uh hb],by go_num,uh hgd _⟩
    case measure=>have:=uh HL;simp [intOf];omega
  ·have hge:¬(k:Int)<384:=by omega
   obtain rfl:k=384:=by omega
   have hgr':=hide hgr;generalize Nv.best F (Nv.st E n) 384=r at hspot;clear hgr;go_wp2;go_ret;exact ⟨_,uh hspot,rfl,gtr (uh hgw') (uh hgr')⟩


open Go.RowKit

set_option maxHeartbeats 6400000 in
theorem refLay_any (b cp n cm:Nat) (a:Option Addr) (I M:Nat→Nat→Int) (w:World) (hL:Lie w b 72 160 (Gd.flat I)) (hM:Gd.Some w a n M) :
  Calls Tryz.prog 66 #[.slice (some ⟨b,0,none⟩) 40 cp,.slice a n cm] w (Gd.Gives40 w (Gd.lay I M n)):=by
 have hn:=hM.1;have hL':=hide hL;have hM':=hide hM;obtain ⟨iI,hiI,hzI0,hzI1,hzI2⟩:=info_parts info_item;clear hL hM;go_enter Tryz.func66,Tryz.ntmps66;go_wp2_with (at_builtin;refine wpList_append_own _ rfl _ _ 27 rfl w.heap.size 72 iI (.agg #[.int .i64 0,.int .i64 0,.int .i64 0,.int .i64 0]) 4 32 Tryz.underlying27 hiI hzI0 hzI1 hzI2 rfl (by decide) _ 0 [] rfl (World.ownsRow_made _ _ _ (Nat.le_refl _) (by decide) (by simp)) ⟨b,0,none⟩ 40 cp (Gd.list 160 (Gd.flat I)) rfl (Gd.list_len _ _) (Gd.list_src fun q hq=>(gce (World.grownBy_alloc _ _ none) b q (uh hL').lt (by simp)).trans ((uh hL').cell hq)) (Gd.list_one fun _=>rfl) ?c4 ?c5 ?c6 ?_);case c4=>unfold maxLen;omega
 case c5=>omega
 case c6=>simp
 intro v' w1 hown hgrow hnil;obtain ⟨g,cap,rfl,hlo,hnc,hlie⟩:=Lie.of_append (n:=40) (z:=4) (F:=Gd.flat I) hown (by simpa using hnil);have hg1:=hide (gow (World.grownBy_alloc w _ none) hgrow (fun k e=>by cases e;exact Nat.le_refl _));have hl1:=hide hlie;have hlo':=hide hlo;clear hown hgrow hnil hlie hlo hnc hiI hzI0 hzI1 hzI2;go_wp2_with fail
 go_loopw [6] (fun i wr=>∃m:Nat,m≤n∧i=.int .i64 (m:Int)∧Lie wr g 72 160 (Gd.flat (Gd.lay I M m))∧w.grownBy wr none) (fun i _=>200 - (intOf i).toNat)
 case atStart=>exact ⟨0,by omega,rfl,uh hl1,uh hg1⟩
 case round =>
  obtain ⟨m,hm,rfl,hJ,hgr⟩:=hrel;have hJ':=hide hJ;have hgr':=hide hgr;clear hJ hgr;by_cases hlt:m<n
  ·have hlt':(m:Int)<(n:Int):=by omega
   have HL:=hide hlt;obtain ⟨bm,om,rfl,lbm,v0,v1,v2,v3⟩:=((uh hM').on (uh hgr')).row hlt;have hbg:bm≠g:=by
    have h1:=uh hlo';obtain ⟨_,h0|⟨b',o',e,h3⟩⟩:=uh hM'
    ·omega
    ·simp only [Option.some.injEq,Addr.mk.injEq] at e;have:=h3.2.1;omega
   have hbg':=hbg.symm;clear hlt;go_wp2_with fail
   go_loop [7] (fun i=>∃r:Nat,r≤40∧i=.int .i64 (r:Int)∧∀j,j<r→Gd.goneQ (Gd.lay I M m) j=false) (fun i=>200 - (intOf i).toNat)
   case atStart=>exact ⟨0,by omega,rfl,fun j hj=>by omega⟩
   case round =>
    obtain ⟨r,hr,rfl,hno⟩:=hrel;have hno':=hide hno;clear hno;by_cases hr40:r<40
    ·have hr':(r:Int)<40:=by omega
     have HR:=hide hr40;obtain ⟨u0,u1,u2,u3⟩:=((uh hJ').its (n:=40) (by omega) (by omega)).row hr40;have fI:=(uh hJ').free;have hgq:=hide (show Gd.goneQ (Gd.lay I M m) r=Gd.zeroB (Gd.lay I M m r 0) (Gd.lay I M m r 1) (Gd.lay I M m r 2) (Gd.lay I M m r 3) from rfl);by_cases hz:Gd.zeroB (Gd.lay I M m r 0) (Gd.lay I M m r 1) (Gd.lay I M m r 2) (Gd.lay I M m r 3)=true
     ·have hs:=hide (Gd.lay_some (uh hno') ((uh hgq).trans hz) hr40);obtain ⟨e0,e1,e2,e3⟩:=(of_decide_eq_true hz:_∧_∧_∧_);rw [e0] at u0;rw [e1] at u1;rw [e2] at u2;rw [e3] at u3;have hJn:=hide ((uh hJ').put r (M m 0) (M m 1) (M m 2) (M m 3));have hgn:=hide (gow (uh hgr') (grown_put4 (World.grownBy.refl _ (some g)) r (.int .i64 (M m 0)) (.int .i64 (M m 1)) (.int .i64 (M m 2)) (.int .i64 (M m 3))) (fun k e=>by cases e;exact uh hlo'));clear hz e0 e1 e2 e3 hgq hr40;go_wp2;go_roundw;case rel=>exact ⟨m+1,by have:=uh HL;omega,by go_num,by rw [uh hs];exact uh hJn,uh hgn⟩
      case measure=>simp [intOf];omega
     ·have hz':Gd.zeroB (Gd.lay I M m r 0) (Gd.lay I M m r 1) (Gd.lay I M m r 2) (Gd.lay I M m r 3)=false:=by simpa using hz
      have hq:=hide ((uh hgq).trans hz');have hcmp:∀wx:World,(binOp .eql 72 (.agg #[.int .i64 (Gd.lay I M m r 0),.int .i64 (Gd.lay I M m r 1),.int .i64 (Gd.lay I M m r 2),.int .i64 (Gd.lay I M m r 3)]) (.agg #[.int .i64 0,.int .i64 0,.int .i64 0,.int .i64 0])).run Tryz.prog wx=.ok (.bool false) wx:=fun wx=>by
       rw [run_eq_item];refine congrArg (fun z=>Result.ok (Value.bool z) wx) ?_;have h:=of_decide_eq_false hz';rw [←Bool.not_eq_true];simp only [Bool.and_eq_true,decide_eq_true_eq];exact h
      clear hz hz' hgq hr40;go_wp2;go_round;case rel=>exact ⟨r+1,by have:=uh HR;omega,by go_num,fun j hj=>by
       by_cases e:j=r
       ·rw [e];exact uh hq
       ·exact uh hno' j (by omega)⟩
      case measure=>simp [intOf];omega
    ·have hge:¬(r:Int)<40:=by omega
     have hs:=hide (Gd.lay_none (I:=I) (M:=M) (m:=m) (fun j hj=>uh hno' j (by omega)));go_wp2;go_roundw;case rel=>exact ⟨m+1,by have:=uh HL;omega,by go_num,by rw [uh hs];exact uh hJ',uh hgr'⟩
     case measure=>simp [intOf];omega
  ·have hge:¬(m:Int)<(n:Int):=by omega
   obtain rfl:m=n:=by omega
   go_wp2;go_ret;exact ⟨g,cap,rfl,uh hlo',uh hJ',uh hgr'⟩

end Go.Proofs.YtldgbkjceildfaaGreat

namespace Go.Proofs.YtldgbkjceildfaaGreat
open Go.RowKit Go.Maps

theorem exec_load_row {P:Program} {o:Oper} {a:Act} {w:World} (ty:TypeId) (x:Operand) (ho:o.op=.load ty x) (g:Nat) (hx:a.eval x=.pointer (some ⟨g,0,none⟩)) {v:Value} (hl:(loadVar ty ⟨g,0,none⟩).run P w=.ok v w):(execOp a.eval o).run P w=.ok (.value v) w:=by
 unfold execOp;simp only [ho,hx,Instr.loadAt,Instr.sureAddr,Sem.run_bind,Sem.run_pure,Result.andThen_ok,hl]

def Dk.putF (f:Int→List Int) (n:Int) (l:List Int):Int→List Int:=fun m=>if m=n then l else f m

theorem Dk.key_ne {m n:Int} (h:m≠n):(Lit.int .i64 m)≠(Lit.int .i64 n):=fun e=>h (by simpa using e)

theorem Dk.Own.write {x z:World} {base p b cnt:Nat} {f:Int→List Int} {done:Nat} {left:Int} {dead:Bool} (H:Dk.Own x base p b cnt f done left dead) {D:DataW Value} (hf:∀n:Int,D.atKey (.int .i64 n) (.held (Dk.arr Dk.noughts))=.held (Dk.arr (f n))) (hM:IsMap D) (n:Int) (hk:WideAt.IsKeyLit (.int .i64 n)) (l:List Int) (h64:l.length=64)
  (hz:z.ownsMap Tryz.prog 3 Dk.R b (done+1) (D.put (.int .i64 n) (.held (Dk.arr l)))) (hg:x.grownBy z (some b)):Dk.Own (z.setCell ⟨p,2,none⟩ (.int .i64 ((done:Int)+1))) base p b cnt (Dk.putF f n l) (done+1) left dead:=by
 have hA:Arr z p 78 5 _:=H.box.grown hg (fun e=>H.apart (by simpa using e));refine { H with box:=(hA.store 2 _).congr fun j hj=>?_,map:=⟨_,hz.setCell H.apart _,fun m=>?_⟩,sect:=fun m=>?_ }
 ·rcases (show j=0∨j=1∨j=2∨j=3∨j=4 by omega) with rfl|rfl|rfl|rfl|rfl <;> simp
 ·unfold Dk.putF;by_cases e:m=n
  ·subst e;rw [if_pos rfl,atKey_put_same hM hk]
  ·rw [if_neg e,atKey_put_other (Dk.key_ne e),hf m]
 ·unfold Dk.putF;split
  ·exact h64
  ·exact H.sect m

set_option maxRecDepth 8000 in
set_option maxHeartbeats 3200000 in
theorem dkWrite_ok (base p b cnt:Nat) (f:Int→List Int) (done:Nat) (left:Int) (n:Int) (ad:Addr) (cb:Nat) (l:List Int) (w:World) (H:Dk.Own w base p b cnt f done left false) (h:Dk.has cnt n=true) (hs:∀j u,(Ck.bys l)[j]?=some u→w.cell? (ad.add j)=some u) (hsp:ad.block≠p) (h64:l.length=64) (hl0:left≠0) (hl2:left≤9223372036854775807) (hd1:done≤1099511627776) :
  Calls Tryz.prog 60 #[.pointer (some ⟨p,0,none⟩),.int .i64 n,.slice (some ad) 64 cb] w fun e w'=>e=.returned (.int .i64 0)∧Dk.Own w' base p b cnt (Dk.putF f n l) (done+1) (if 0<left then left - 1 else left) false∧Turn (fun k=>k=p∨k=b) w w':=by
 obtain ⟨c0,c1,c2,c3,c4,f0⟩:=H.cells;have hc:=dkHas_any p cnt n w c0;rw [h] at hc;have hwf:=hide (Dk.wf h H.most);obtain ⟨left',hle⟩:∃x,(if 0<left then left - 1 else left)=x:=⟨_,rfl⟩;rw [hle];have e0:(left == 0)=false:=by simp [hl0]
 obtain ⟨P,hP⟩:∃P:Ending→World→Prop,(fun e w'=>e=.returned (.int .i64 0)∧Dk.Own w' base p b cnt (Dk.putF f n l) (done+1) left' false∧Turn (fun k=>k=p∨k=b) w w')=P:=⟨_,rfl⟩;rw [hP];have hpost:Hid (∀x,Dk.Own x base p b cnt (Dk.putF f n l) (done+1) left' false→Turn (fun k=>k=p∨k=b) w x→P (.returned (.int .i64 0)) x):=fun x h1 h2=>by
  rw [←hP];exact ⟨rfl,h1,h2⟩
 have H0:=hide H;have HS:=hide hs;have HSP:=hide hsp;have H64:=hide h64;have HD1:=hide hd1;clear hP H h hs hsp h64 hl0 hd1;go_enter Tryz.func60,Tryz.ntmps60;go_upto_block 0 with fail
 go_cut [] from 7 to 60 (fun wx=>Hid (Dk.Own wx base p b cnt f done left' false∧Turn (fun k=>k=p) w wx))
 case first =>
  clear hpost;by_cases h:0<left
  ·have hst:Hid (Dk.Own (w.setCell ⟨p,3,none⟩ (.int .i64 (left - 1))) base p b cnt f done left' false∧Turn (fun k=>k=p) w (w.setCell ⟨p,3,none⟩ (.int .i64 (left - 1)))):=by
    rw [if_pos h] at hle;rw [←hle];exact ⟨(uh H0).set 3 _ (fun j hj=>by rcases (show j=0∨j=1∨j=2∨j=3∨j=4 by omega) with rfl | rfl | rfl | rfl | rfl <;> rfl),(Turn.refl (fun k=>k=p) w).store p 3 _ rfl⟩
   clear hle;go_wp2_with fail;refine hc.mono ?_;rintro e wq ⟨rfl,hq⟩;obtain rfl:w=wq:=hq.symm;go_wp2_with fail;go_meet;exact hst
  ·have hst:Hid (Dk.Own w base p b cnt f done left' false∧Turn (fun k=>k=p) w w):=by
    rw [if_neg h] at hle;rw [←hle];exact ⟨uh H0,Turn.refl _ _⟩
   clear hle;go_wp2_with fail;refine hc.mono ?_;rintro e wq ⟨rfl,hq⟩;obtain rfl:w=wq:=hq.symm;go_wp2_with fail;go_meet;exact hst
 case rest =>
 obtain ⟨w1,hw1⟩:∃w1,wc=w1:=⟨_,rfl⟩;rw [hw1] at hcut ⊢;clear hw1 wc;have hD1:=hide (uh hcut).1;have ht1:=hide (uh hcut).2;clear hcut c0 c1 c2 c3 c4 f0 hle e0 hl2 H0 hc;obtain ⟨Z,hZ,hz64⟩:∃Z:Array Value,(∀w,(zeroValue 107).run Tryz.prog w=.ok (.agg Z) w)∧Z.size=64:=⟨_,fun w=>Dk.zeroE w,by unfold Dk.noughts Ck.bys;simp⟩;obtain ⟨g,hg⟩:∃g,w1.heap.size=g:=⟨_,rfl⟩;obtain ⟨x1,hx1⟩:∃x,w1.alloc (.cells Z 107)=x:=⟨_,rfl⟩;have g1:w1.grownBy x1 none:=by rw [←hx1];exact World.grownBy_alloc _ _ _
 have hx1g:x1.heap[g]?=some (.cells Z 107 (0,0)):=by rw [←hx1,←hg];exact heap_alloc_new w1 _
 have hsrc:∀j v,(Ck.bys l)[j]?=some v→x1.cell? (ad.add j)=some v:=fun j v hj=>by
  have h3:=uh HS j v hj;have hb:(ad.add j).block=ad.block:=by unfold Addr.add;split <;> rfl
  have h4:w1.cell? (ad.add j)=some v:=(World.cell?_of_block ((uh ht1).block _ (Go.block_lt_of_cell h3) (by rw [hb];exact uh HSP))).trans h3;exact (World.cell?_of_block (g1.block _ (Go.block_lt_of_cell h4) (by simp))).trans h4
 obtain ⟨x2,hcp,hx2,g2⟩:=run_copy_whole (P:=Tryz.prog) (w:=x1) 24 24 3 5 Tryz.underlying24 1 (by kernel_rfl) g 64 64 ad cb Z _ hx1g (Ck.bys l) (by rw [Dk.bys_len,uh H64]) hsrc (by rw [Dk.bys_len,uh H64,hz64]) (fun v hv=>by obtain ⟨q,-,rfl⟩:=List.mem_map.1 hv;rfl);have g2':w1.grownBy x2 none:=gow g1 g2 (fun q e=>by cases e;rw [hg];exact Nat.le_refl _);obtain ⟨Y,hY⟩:∃Y,(Ck.bys l).toArray=Y:=⟨_,rfl⟩;rw [hY] at hx2;have hY64:Y.size=64:=by rw [←hY];simp [Dk.bys_len,uh H64]
 have H2:=(uh hD1).on g2';obtain ⟨D,hD,hf⟩:=H2.map;have hDd:x2.drew.ownsMap Tryz.prog 3 Dk.R b done D:=hD.drew;obtain ⟨x3,hup,hD3,g3⟩:=hDd.update Dk.keyed Tryz.underlying76 (by have:=uh HD1;unfold maxLen;omega) (keyOf_int_mk Tryz.underlying3 (uh hwf)) (val:=.agg Y) (d:=.held (.agg Y)) (ps:=[]) rfl;have g3':x2.grownBy x3 (some b):=⟨g3.os,g3.tape,g3.output,g3.size,g3.block⟩;have hA3:Arr x3 p 78 5 _:=H2.box.grown g3' (fun e=>H2.apart (by simpa using e));have k2:=hA3.cell (i:=2) (by omega);have kf:∀i,x3.frozen? ⟨p,i,none⟩=false:=fun i=>hA3.free i;have hDI:(done:Int)≤1099511627776:=by have:=uh HD1;omega
 have hfin:Hid (P (.returned (.int .i64 0)) (x3.setCell ⟨p,2,none⟩ (.int .i64 ((done:Int)+1)))):=by
  rw [←hY] at hD3;refine uh hpost _ (H2.write hf hD.isMap n (Dk.keyed.key (keyOf_int_mk Tryz.underlying3 (uh hwf))) l (uh H64) hD3 g3') ?_;refine Turn.store (((uh ht1).mono (C:=fun k=>k=p∨k=b) (fun k e=>.inl e)).trans ?_ (fun k _ e=>e)) p 2 _ (.inl rfl);exact ((Turn.new (B:=fun k=>k=p∨k=b) g2').trans (Turn.grown (B:=fun k=>k=p∨k=b) g3' (fun k e=>by cases e;exact .inr rfl)) (fun k _ e=>e))
 have b1:Hid (x2.drew.cell? ⟨p,1,none⟩=some (.map (some b))∧x2.drew.heap[g]?=some (.cells Y 107 (0,0))):=⟨H2.cells.2.1,hx2⟩;have hup':(Instr.mapUpdate 76 (.map (some b)) (.int .i64 n) (.agg Y)).run Tryz.prog x2.drew=.ok () x3:=hup;have k2':x3.cell? ⟨p,2,none⟩=some (.int .i64 (done:Int)):=k2;clear k2;clear hpost hD1 ht1 hsrc HS HSP hD hDd hf hD3 g3 g3' hA3 H2 g1 g2 g2' hx1g hz64 hY hup HD1 hwf hx2;go_upto_region 12 with fail;refine wp_region_till (h:=6) (S:=fun x=>Hid (x.cell? ⟨p,1,none⟩=some (.map (some b))∧x.heap[g]?=some (.cells Y 107 (0,0)))) (by kernel_rfl) ?_;refine wtj 0 (v:=?_) [6] rfl (by kernel_rfl) (fun _ _ _ h=>h) b1 ⟨by rfl,?_⟩ ?_;rotate_left
 ·intro x hSx;clear hSx;go_simp;try with_reducible rfl
 simp only [Act.put,pa,pb,pd,pe,pf];refine wtj 1 (v:=?_) [6] rfl (by kernel_rfl) (fun _ _ _ h=>h) b1 ⟨by rfl,?_⟩ ?_;rotate_left
 ·intro x hSx;clear hSx;go_simp;try with_reducible rfl
 simp only [Act.put,pa,pb,pc,pd,pe,pf];refine wtj 2 (v:=?_) [6] rfl (by kernel_rfl) (fun _ _ _ h=>h) b1 ⟨by rfl,?_⟩ ?_;rotate_left
 ·intro x hSx;clear hSx;go_simp;try with_reducible rfl
 simp only [Act.put,pa,pb,pc,pd,pe,pf];refine wtj 3 (v:=?_) [6] rfl (by kernel_rfl) (fun _ _ _ h=>h) b1 ⟨by rfl,?_⟩ ?_;rotate_left
 ·intro x hSx;have b0:=(uh hSx).1;clear hSx;go_simp;try with_reducible rfl
 simp only [Act.put,pa,pb,pc,pd,pe,pf];refine wtj 4 (v:=?_) [6] rfl (by kernel_rfl) (fun _ _ _ h=>h) b1 ⟨by rfl,?_⟩ ?_;rotate_left
 ·intro x hSx;clear hSx;go_simp;try with_reducible rfl
 simp only [Act.put,pa,pb,pc,pd,pe,pf];refine wtk (i:=5) (v:=.agg Y) [6] rfl (by kernel_rfl) (by kernel_rfl) (by kernel_rfl) (by kernel_rfl) (fun _ _ _ h=>h) b1 (Or.inl ⟨by rfl,?_⟩) ?_
 ·intro x hSx;have l0:=run_loadVar_row (P:=Tryz.prog) x g 107 107 Y (0,0) _ (uh hSx).2 Tryz.underlying107 rfl (by rw [Dk.sizeE,hY64]);clear hSx;exact exec_load_row 107 (.tmp 7) rfl g rfl l0
 simp only [Act.put,pa,pb,pc,pd,pe,pf];refine wto (j:=6) (by kernel_rfl) rfl (fun K hK=>?_);go_simp;refine hK.out _ _ (fun hx=>absurd (hx.symm.trans (by kernel_rfl)) Bool.false_ne_true) ?_;clear hK K;refine wpTill_done (by kernel_rfl) ?_ _;clear b1 hup' hcp hx1 hZ;go_wp2;exact uh hfin

end Go.Proofs.YtldgbkjceildfaaGreat

namespace Go.Proofs.YtldgbkjceildfaaGreat
open Go.RowKit Go.Maps

structure Dk.St where
 f:Int→List Int
 done:Nat
 left:Int
 dead:Bool

def Dk.fresh:Dk.St:=⟨fun _=>Dk.noughts,0,-1,false⟩

def Dk.Mine (x:World) (base p b cnt:Nat) (s:Dk.St):Prop:=Dk.Own x base p b cnt s.f s.done s.left s.dead

def Dk.wr (cnt:Nat) (s:Dk.St) (n:Int) (l:List Int):Int × Dk.St :=
 if s.dead=true then (11,s) else if Dk.has cnt n=false∨l.length≠64 then (1,s) else if s.left=0 then (11,⟨s.f,s.done,0,true⟩) else (0,⟨Dk.putF s.f n l,s.done+1,if 0<s.left then s.left - 1 else s.left,false⟩)

theorem Dk.wr_done (cnt:Nat) (s:Dk.St) (n:Int) (l:List Int):s.done≤(Dk.wr cnt s n l).2.done∧(Dk.wr cnt s n l).2.done≤s.done+1:=by
 unfold Dk.wr;split
 ·simp
 ·split
  ·simp
  ·split <;> simp

theorem Dk.wr_left (cnt:Nat) (s:Dk.St) (n:Int) (l:List Int) (h:s.left≤9223372036854775807):(Dk.wr cnt s n l).2.left≤9223372036854775807:=by
 unfold Dk.wr;split
 ·exact h
 ·split
  ·exact h
  ·split
   ·simp
   ·simp only;split <;> omega

theorem Dk.mine_write (base p b cnt:Nat) (s:Dk.St) (n:Int) (a:Option Addr) (c:Nat) (l:List Int) (w:World) (H:Dk.Mine w base p b cnt s) (hs:Ck.Src w (.slice a l.length c) l) (hb:∀ad,l.length=64→a=some ad→ad.block≠p) (hl2:s.left≤9223372036854775807) (hd1:s.done≤1099511627776) :
  Calls Tryz.prog 60 #[.pointer (some ⟨p,0,none⟩),.int .i64 n,.slice a l.length c] w fun e w'=>e=.returned (.int .i64 (Dk.wr cnt s n l).1)∧Dk.Mine w' base p b cnt (Dk.wr cnt s n l).2∧Turn (fun k=>k=p∨k=b) w w':=by
 obtain ⟨f,done,left,dead⟩:=s;unfold Dk.wr;cases dead with
 | true =>
  refine (dkWrite_dead base p b cnt f done left n _ w H).mono ?_;rintro e w' ⟨rfl,rfl⟩;exact ⟨rfl,H,Turn.refl _ _⟩
 | false =>
  by_cases h:Dk.has cnt n=false∨l.length≠64
  ·rw [if_neg (by simp),if_pos h];refine (dkWrite_arg base p b cnt f done left n a l.length c w H h).mono ?_;rintro e w' ⟨rfl,rfl⟩;exact ⟨rfl,H,Turn.refl _ _⟩
  ·have h1:Dk.has cnt n=true:=by
    cases q:Dk.has cnt n
    ·exact absurd (.inl q) h
    ·rfl
   have h2:l.length=64:=Decidable.byContradiction fun q=>h (.inr q);rw [if_neg (by simp),if_neg h];by_cases h0:left=0
   ·subst h0;rw [if_pos rfl,h2];refine (dkWrite_cut base p b cnt f done n a c w H h1).mono ?_;rintro e w' ⟨rfl,h3,h4⟩;exact ⟨rfl,h3,h4.mono fun k q=>.inl q⟩
   ·rw [if_neg h0];rcases hs with ⟨_,rfl⟩|⟨ad,c',e,hc⟩
    ·simp at h2
    ·simp only [Value.slice.injEq,true_and] at e;obtain ⟨rfl,rfl⟩:=e;rw [h2];refine (dkWrite_ok base p b cnt f done left n ad c l w H h1 hc (hb ad h2 rfl) h2 h0 hl2 hd1).mono ?_;rintro e w' ⟨rfl,h3,h4⟩;exact ⟨rfl,h3,h4⟩

theorem Dk.Mine.turn {x y:World} {B:Nat→Prop} {base p b cnt:Nat} {s:Dk.St} (H:Dk.Mine x base p b cnt s) (ht:Turn B x y) (hp:¬B p) (hb:¬B b):Dk.Mine y base p b cnt s:=Dk.Own.turn H ht hp hb

theorem Dk.Mine.on {x y:World} {base p b cnt:Nat} {s:Dk.St} (H:Dk.Mine x base p b cnt s) (hg:x.grownBy y none):Dk.Mine y base p b cnt s:=Dk.Own.on H hg

end Go.Proofs.YtldgbkjceildfaaGreat

namespace Go.Proofs.YtldgbkjceildfaaGreat
open Go.RowKit Go.Maps

theorem Dk.still {w x y:World} {p b:Nat} (h:Turn (fun _=>False) w x) (ht:Turn (fun k=>k=p∨k=b) x y) (hp:w.heap.size≤p) (hb:w.heap.size≤b):Turn (fun _=>False) w y :=
 h.trans ht (fun i hi e=>by rcases e with rfl | rfl <;> omega)

theorem Dk.mine_new (n:Nat) (w:World) (h1:1≤n) (h2:n≤1024) :
  Calls Tryz.prog 16 #[.int .i64 (n:Int)] w fun e w'=>∃p b,e=.returned (.tuple #[.pointer (some ⟨p,0,none⟩),.int .i64 0])∧Dk.Mine w' w.heap.size p b n Dk.fresh∧w.grownBy w' none:=by
 refine (dkNew_any n w h1 h2).mono ?_;rintro e w' ⟨p,b,rfl,h3,h4⟩;exact ⟨p,b,rfl,h3,h4⟩

end Go.Proofs.YtldgbkjceildfaaGreat

namespace Go.Proofs.YtldgbkjceildfaaGreat
open Go.RowKit Go.Maps

theorem wpList_append_wide {w:World} {ops:Array Oper} {rest:List Oper} {o:Oper} {a:Act} {Q:Exit→Act→World→Prop} (hgd:o.guard=none) (s x:Operand) (ho:o.op=.call { callee:=.builtin .append,args:=#[s,x],argTypes:=#[24,24] })
  (base:Nat) (v:Value) (n:Nat) (xs:List Value) (hs:a.eval s=v) (hown:w.ownsRow base 5 1 v n xs) (u:Value) (l:List Int) (hx:a.eval x=u) (hsrc:Ck.Src w u l) (hn:n+l.length≤140737488355328) (hbase:base≤w.heap.size)
  (h:∀v' w',w'.ownsRow base 5 1 v' (n+l.length) (xs ++ Ck.bys l)→w.grownBy w' v.ownBlock→(v≠.slice none 0 0→v'≠.slice none 0 0)→wpList Tryz.prog ops Q rest (a.put o.dst v') w'):wpList Tryz.prog ops Q (o :: rest) a w:=by
 obtain ⟨i0,hi,hz0,hz1,hz2⟩:=info_parts info_by;rcases hsrc with ⟨rfl,rfl⟩|⟨ad,c,rfl,h2⟩
 ·refine wpList_append_own_none hgd s x 24 ho base 5 i0 1 Tryz.underlying24 hi v n xs hs hown hx ?_;exact h v w (by simpa [Ck.bys] using hown) (World.grownBy.refl _ _) (fun q=>q)
 ·refine wpList_append_own w hgd s x 24 ho base 5 i0 (.int .u8 0) 1 1 Tryz.underlying24 hi hz0 hz1 hz2 rfl (by decide) v n xs hs hown ad l.length c (Ck.bys l) hx (by unfold Ck.bys;simp) h2 (fun u hu=>?_) (by unfold maxLen;omega) (by omega) hbase ?_
  ·obtain ⟨q,-,rfl⟩:=List.mem_map.1 hu;rfl
  ·intro v' w' h3 h4 h5;exact h v' w' h3 h4 (fun q r=>q (h5.1 r).1)

end Go.Proofs.YtldgbkjceildfaaGreat
