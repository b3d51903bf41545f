import Derived.Test.YtldgbkjceildfaaGreatBy23
import Derived.Test.YtldgbkjceildfaaGreatBy24
namespace Go.Proofs.YtldgbkjceildfaaGreat
open Go.RowKit

def Sn.Bytes (w:World) (base:Nat) (v:Value) (l:List Int):Prop:=w.ownsRow base 5 1 v l.length (l.map (Value.int .u8))

theorem Sn.Bytes.lt {w:World} {base:Nat} {v:Value} {l:List Int} (h:Sn.Bytes w base v l):∀k,v.ownBlock=some k→base≤k∧k<w.heap.size:=World.ownsRow.lt h

theorem Sn.Bytes.on {w w':World} {base:Nat} {v:Value} {l:List Int} (h:Sn.Bytes w base v l) (hg:w.grownBy w' none):Sn.Bytes w' base v l:=World.ownsRow.kept h hg (by cases v.ownBlock <;> simp)

theorem Sn.below {w w':World} {base:Nat} {r:Option Nat} (h:w.grownBy w' r) (hr:∀k,r=some k→base≤k) (hb:base≤w.heap.size):Below base w w' :=
 ⟨h.os,h.tape,h.output,h.size,fun i hi=>h.block i (by omega) (fun e=>by have:=hr i e.symm;omega)⟩

theorem Sn.below_trans {a b c:World} {base:Nat} (h:Below base a b) (k:Below base b c):Below base a c :=
 ⟨k.os.trans h.os,k.tape.trans h.tape,k.output.trans h.output,Nat.le_trans h.size k.size,fun i hi=>(k.block i hi).trans (h.block i hi)⟩

theorem Sn.bt_two (x:Int) (L:Nat):x / 2 ^ (8*L) % 256=Sn.bt x L:=by
 unfold Sn.bt;rw [Int.pow_mul];rfl

theorem Sn.snoc {w:World} {base m:Nat} {v:Value} {l:List Int} {f:Nat→Int} (h:w.ownsRow base 5 1 v (l.length+m+1) (List.map (Value.int .u8) l ++ (List.map (Value.int .u8 ∘ f) (List.range m) ++ [Value.int .u8 (f m)]))):Sn.Bytes w base v (l ++ (List.range (m+1)).map f):=by
 unfold Sn.Bytes;rw [List.range_succ];simpa [Nat.add_assoc] using h

def Sn.Adds (w:World) (base:Nat) (l:List Int) (e:Ending) (w':World):Prop:=∃v,e=.returned v∧Sn.Bytes w' base v l∧Below base w w'

set_option maxRecDepth 8000 in
set_option maxHeartbeats 1600000 in
theorem withNumber_any (n base:Nat) (x:Int) (v:Value) (l:List Int) (w:World) (hn:n≤8) (h:Sn.Bytes w base v l) (hb:base≤w.heap.size) (hl:l.length≤1000) :
  Calls Tryz.prog 90 #[v,.int .i64 (n:Int),.int .u64 x] w (Sn.Adds w base (l ++ Sn.num n x)):=by
 have hH:Hid (Sn.Bytes w base v l):=h;have hB:=hide hb;have hN:=hide hn;have hLl:=hide hl;obtain ⟨i0,hi,hz0,hz1,hz2⟩:=info_parts info_byte;have hs1:IntKind.i64.wrap ((n:Int) - 1)=(n:Int) - 1:=by rw [IntKind.wrap_i64];omega
 clear h hb hn hl;go_enter Tryz.func90,Tryz.ntmps90;go_wp2_with fail
 go_loopw [0,7] (fun v0 v7 wr=>∃m:Nat,m≤n∧v7=.int .i64 ((n:Int) - 1 - (m:Int))∧Hid (Sn.Bytes wr base v0 (l ++ (List.range m).map fun j=>Sn.bt x (n - 1 - j))∧Below base w wr)) (fun _ v7 _=>(intOf v7+1).toNat)
 case atStart=>exact ⟨0,by omega,by simp,by simpa using uh hH,Below.refl _ _⟩
 case round =>
  obtain ⟨m,hm,rfl,hX⟩:=hrel;clear hH hs1;by_cases hlt:m<n
  ·obtain ⟨L,hL⟩:∃L:Nat,L=n - 1 - m:=⟨_,rfl⟩;have hLe:(n:Int) - 1 - (m:Int)=(L:Int):=by omega
   have hL8:(L:Int)<8:=by have:=uh hN;omega
   have hmul:IntKind.i64.wrap (8*(L:Int))=8*(L:Int):=by rw [IntKind.wrap_i64];omega
   have hge:(L:Int)≥0:=by omega
   have hs1:IntKind.i64.wrap ((L:Int) - 1)=(L:Int) - 1:=by rw [IntKind.wrap_i64];omega
   have hbt:Hid (x / 2 ^ (8*L) % 256=Sn.bt x (n - 1 - m)):=by
    show x / 2 ^ (8*L) % 256=_;rw [←hL];exact Sn.bt_two x L
   have HM:=hide hm;have HLT:=hide hlt;have HL:=hide hLe;rw [hLe];clear hm hlt hLe hL;go_wp2_with (at_builtin;refine wpList_append_own _ rfl _ _ 24 rfl base 5 i0 (.int .u8 0) 1 1 Tryz.underlying24 hi hz0 hz1 hz2 rfl (by decide) _ _ _ rfl ((uh hX).1.alloc _) ⟨wr.heap.size,0,none⟩ 1 1 [.int .u8 (x / 2 ^ (8*L) % 256)] rfl rfl ?_ ?_ ?_ ?_ ?_ ?_)
   ·exact one_at _ _ _ _ rfl
   ·intro u hu;simp at hu;subst hu;rfl
   ·have:=uh hLl;have:=uh HM;have:=uh hN;simp;unfold maxLen;omega
   ·have:=uh hLl;have:=uh HM;have:=uh hN;simp;omega
   ·have:=(uh hX).2.size;have:=uh hB;simp;omega
   intro v' w1 hown' hgrow _;have hX2:Hid (Sn.Bytes w1 base v' (l ++ (List.range (m+1)).map fun j=>Sn.bt x (n - 1 - j))∧Below base w w1):=by
    refine ⟨?_,?_⟩
    ·rw [uh hbt] at hown';exact Sn.snoc hown'
    ·have hb1:Below base wr (wr.alloc (.cells #[.int .u8 (x / 2 ^ (8*L) % 256)] 5)):=Sn.below (World.grownBy_alloc wr _ none) (fun k e=>by cases e) (Nat.le_trans (uh hB) (uh hX).2.size);have hb2:=Sn.below hgrow (fun k e=>((uh hX).1.lt k e).1) (Nat.le_trans (Nat.le_trans (uh hB) (uh hX).2.size) hb1.size);exact (uh hX).2.trans (hb1.trans hb2)
   clear hown' hgrow hX;go_wp2;go_roundw;case rel=>exact ⟨m+1,by have:=uh HLT;omega,by have:=uh HL;rw [show (L:Int) - 1=(n:Int) - 1 - ((m+1:Nat):Int) by omega],hX2⟩
   case measure=>simp [intOf]
  ·obtain rfl:m=n:=by omega
   have hge:¬((m:Int) - 1 - (m:Int))≥0:=by omega
   have hfin:Hid (Sn.Adds w base (l ++ Sn.num m x)=Sn.Adds w base (l ++ (List.range m).map fun j=>Sn.bt x (m - 1 - j))):=rfl;clear hlt hm;go_wp2;go_ret;rw [uh hfin];exact ⟨_,rfl,(uh hX).1,(uh hX).2⟩

set_option maxRecDepth 8000 in
set_option maxHeartbeats 1600000 in
theorem refNum_any (n base:Nat) (x:Int) (v:Value) (l:List Int) (w:World) (hn:n≤8) (h:Sn.Bytes w base v l) (hb:base≤w.heap.size) (hl:l.length≤1000) :
  Calls Tryz.prog 27 #[v,.int .i64 (n:Int),.int .u64 x] w (Sn.Adds w base (l ++ Sn.num n x)):=by
 have hH:Hid (Sn.Bytes w base v l):=h;have hB:=hide hb;have hN:=hide hn;have hLl:=hide hl;obtain ⟨i0,hi,hz0,hz1,hz2⟩:=info_parts info_byte;have hs1:IntKind.i64.wrap ((n:Int) - 1)=(n:Int) - 1:=by rw [IntKind.wrap_i64];omega
 clear h hb hn hl;go_enter Tryz.func27,Tryz.ntmps27;go_wp2_with fail
 go_loopw [0,7] (fun v0 v7 wr=>∃m:Nat,m≤n∧v7=.int .i64 ((n:Int) - 1 - (m:Int))∧Hid (Sn.Bytes wr base v0 (l ++ (List.range m).map fun j=>Sn.bt x (n - 1 - j))∧Below base w wr)) (fun _ v7 _=>(intOf v7+1).toNat)
 case atStart=>exact ⟨0,by omega,by simp,by simpa using uh hH,Below.refl _ _⟩
 case round =>
  obtain ⟨m,hm,rfl,hX⟩:=hrel;clear hH hs1;by_cases hlt:m<n
  ·obtain ⟨L,hL⟩:∃L:Nat,L=n - 1 - m:=⟨_,rfl⟩;have hLe:(n:Int) - 1 - (m:Int)=(L:Int):=by omega
   have hL8:(L:Int)<8:=by have:=uh hN;omega
   have hmul:IntKind.i64.wrap (8*(L:Int))=8*(L:Int):=by rw [IntKind.wrap_i64];omega
   have hge:(L:Int)≥0:=by omega
   have hs1:IntKind.i64.wrap ((L:Int) - 1)=(L:Int) - 1:=by rw [IntKind.wrap_i64];omega
   have hbt:Hid (x / 2 ^ (8*L) % 256=Sn.bt x (n - 1 - m)):=by
    show x / 2 ^ (8*L) % 256=_;rw [←hL];exact Sn.bt_two x L
   have HM:=hide hm;have HLT:=hide hlt;have HL:=hide hLe;rw [hLe];clear hm hlt hLe hL;go_wp2_with (at_builtin;refine wpList_append_own _ rfl _ _ 24 rfl base 5 i0 (.int .u8 0) 1 1 Tryz.underlying24 hi hz0 hz1 hz2 rfl (by decide) _ _ _ rfl ((uh hX).1.alloc _) ⟨wr.heap.size,0,none⟩ 1 1 [.int .u8 (x / 2 ^ (8*L) % 256)] rfl rfl ?_ ?_ ?_ ?_ ?_ ?_)
   ·exact one_at _ _ _ _ rfl
   ·intro u hu;simp at hu;subst hu;rfl
   ·have:=uh hLl;have:=uh HM;have:=uh hN;simp;unfold maxLen;omega
   ·have:=uh hLl;have:=uh HM;have:=uh hN;simp;omega
   ·have:=(uh hX).2.size;have:=uh hB;simp;omega
   intro v' w1 hown' hgrow _;have hX2:Hid (Sn.Bytes w1 base v' (l ++ (List.range (m+1)).map fun j=>Sn.bt x (n - 1 - j))∧Below base w w1):=by
    refine ⟨?_,?_⟩
    ·rw [uh hbt] at hown';exact Sn.snoc hown'
    ·have hb1:Below base wr (wr.alloc (.cells #[.int .u8 (x / 2 ^ (8*L) % 256)] 5)):=Sn.below (World.grownBy_alloc wr _ none) (fun k e=>by cases e) (Nat.le_trans (uh hB) (uh hX).2.size);have hb2:=Sn.below hgrow (fun k e=>((uh hX).1.lt k e).1) (Nat.le_trans (Nat.le_trans (uh hB) (uh hX).2.size) hb1.size);exact (uh hX).2.trans (hb1.trans hb2)
   clear hown' hgrow hX;go_wp2;go_roundw;case rel=>exact ⟨m+1,by have:=uh HLT;omega,by have:=uh HL;rw [show (L:Int) - 1=(n:Int) - 1 - ((m+1:Nat):Int) by omega],hX2⟩
   case measure=>simp [intOf]
  ·obtain rfl:m=n:=by omega
   have hge:¬((m:Int) - 1 - (m:Int))≥0:=by omega
   have hfin:Hid (Sn.Adds w base (l ++ Sn.num m x)=Sn.Adds w base (l ++ (List.range m).map fun j=>Sn.bt x (m - 1 - j))):=rfl;clear hlt hm;go_wp2;go_ret;rw [uh hfin];exact ⟨_,rfl,(uh hX).1,(uh hX).2⟩


open Go.RowKit

def Sn.bare (v:Int):Nat→Int
 | 1=>v
 | _=>0

def Sn.ansE (q0 q1 z p k1 k2 k3:Bool):Int:=bif q0 then bif q1 then bif z then (bif p then 0 else 9) else bif k1 && (k2 && k3) then 0 else 9 else 9 else 3

theorem Sn.entC_ans (c:Nat→Int) (E:Nat→Nat→Int) (k:Nat):Sn.entC c E k=Sn.ansE (Sn.inB (E k 0) 0 4) (Sn.inB (E k 1) 0 255) (decide (E k 0=0)) (Sn.sameE (E k) (Sn.bare (E k 1))) (Sn.soundB (E k)) (Sn.aloneB c E k) (Sn.seatedB E k):=by
 unfold Sn.entC Sn.ansE Sn.inB;by_cases a0:0≤E k 0∧E k 0≤4
 ·rw [if_pos a0,decide_eq_true a0,cond_true];by_cases a1:0≤E k 1∧E k 1≤255
  ·rw [if_pos a1,decide_eq_true a1,cond_true];by_cases h0:E k 0=0
   ·rw [if_pos h0,decide_eq_true h0,cond_true];have e:(Sn.freeB (E k)=true↔Sn.sameE (E k) (Sn.bare (E k 1))=true):=by
     rw [Sn.sameE_iff];unfold Sn.freeB;rw [decide_eq_true_eq];constructor
     ·rintro ⟨h2,h3,h4,h5,h6,h7,h8,h9,h10⟩ j hj;rcases (show j=0∨j=1∨j=2∨j=3∨j=4∨j=5∨j=6∨j=7∨j=8∨j=9∨j=10 by omega) with rfl|rfl|rfl|rfl|rfl|rfl|rfl|rfl|rfl|rfl|rfl <;> first|assumption|rfl
     ·intro h;exact ⟨h 2 (by omega),h 3 (by omega),h 4 (by omega),h 5 (by omega),h 6 (by omega),h 7 (by omega),h 8 (by omega),h 9 (by omega),h 10 (by omega)⟩
    by_cases q:Sn.freeB (E k)=true
    ·rw [if_pos q,e.1 q];rfl
    ·have q':Sn.sameE (E k) (Sn.bare (E k 1))=false:=by
      rw [←Bool.not_eq_true];exact fun h=>q (e.2 h)
     rw [if_neg q,q'];rfl
   ·rw [if_neg h0,decide_eq_false h0,cond_false];by_cases q:Sn.soundB (E k)=true∧Sn.aloneB c E k=true∧Sn.seatedB E k=true
    ·rw [if_pos q,q.1,q.2.1,q.2.2];rfl
    ·rw [if_neg q];cases h1:Sn.soundB (E k) <;> cases h2:Sn.aloneB c E k <;> cases h3:Sn.seatedB E k <;> first | rfl | exact absurd ⟨h1,h2,h3⟩ q
  ·rw [if_neg a1,decide_eq_false a1,cond_false]
 ·rw [if_neg a0,decide_eq_false a0,cond_false]

set_option maxRecDepth 8000 in
set_option maxHeartbeats 6400000 in
theorem checkEnt_any (s g c:Nat→Int) (E I:Nat→Nat→Int) (gC gE gI cC cE cI k:Nat) (w:World) (hL:Gd.Lists w gC gE gI c E I) (hc:∀i,0≤c i∧c i≤255) (hcE:32≤cE) (hk:k<32) :
  Calls Tryz.prog 88 #[.agg (Gd.world s gC gE gI cC cE cI g),.int .i64 (k:Int)] w (Says w (.int .i64 (Sn.entC c E k))):=by
 obtain ⟨w0,hw0⟩:∃w0,w0=w.alloc (.cells (Gd.world s gC gE gI cC cE cI g) 30):=⟨_,rfl⟩;have hg0:w.grownBy w0 none:=by rw [hw0];exact World.grownBy_alloc _ _ _
 have hB:Hid (Lie w0 w.heap.size 30 11 (Gd.box s gC gE gI cC cE cI g)):=by show Lie w0 _ _ _ _;rw [hw0];exact (Arr.world (heap_alloc_new w _)).lie
 have hL0:=hide (hL.on hg0);have hgr:=hide hg0;have HK:=hide hk;have HCE:=hide hcE;have hk':(k:Int)<32:=by omega
 have c0:=hide (fun x=>snWithin_any (E k 0) 0 4 x);have c1:=hide (fun x=>snWithin_any (E k 1) 0 255 x);have cs:=hide (fun x=>isSound_any (E k) x);have ca:=hide (fun z (hz:Gd.Lists z gC gE gI c E I) (h0:E k 0≠0)=>standsAlone_any s g c E I gC gE gI cC cE cI k z hz hc hcE hk h0);have ct:=hide (fun z (hz:Gd.Lists z gC gE gI c E I)=>isSeated_any gE cE k E z hz.own.ents hcE hk);have hd:=hide (Sn.entC_ans c E k);obtain ⟨z,hz'⟩:∃z,decide (E k 0=0)=z:=⟨_,rfl⟩;rw [hz'] at hd;have hz:Hid (decide (E k 0=0)=z):=hz';clear hz';have hcmp:=fun wx=>run_ne_ent (E k) (Sn.bare (E k 1)) wx;obtain ⟨p,hp⟩:∃p,Sn.sameE (E k) (Sn.bare (E k 1))=p:=⟨_,rfl⟩;rw [hp] at hd;have hcmp':∀wx:World,(binOp .neq 70 (.agg #[.int .i64 (E k 0),.int .i64 (E k 1),.int .i64 (E k 2),.int .i64 (E k 3),.int .i64 (E k 4),.int .i64 (E k 5),.int .i64 (E k 6),.int .i64 (E k 7),.int .i64 (E k 8),.int .i64 (E k 9),.int .i64 (E k 10)]) (.agg #[.int .i64 0,.int .i64 (E k 1),.int .i64 0,.int .i64 0,.int .i64 0,.int .i64 0,.int .i64 0,.int .i64 0,.int .i64 0,.int .i64 0,.int .i64 0])).run Tryz.prog wx=.ok (.bool (!p)) wx:=fun wx=>by
  rw [←hp];exact hcmp wx
 obtain ⟨q0,e0⟩:∃q,Sn.inB (E k 0) 0 4=q:=⟨_,rfl⟩;obtain ⟨q1,e1⟩:∃q,Sn.inB (E k 1) 0 255=q:=⟨_,rfl⟩;rw [e0] at c0 hd;rw [e1] at c1 hd;obtain ⟨k1,f1⟩:∃q,Sn.soundB (E k)=q:=⟨_,rfl⟩;obtain ⟨k2,f2⟩:∃q,Sn.aloneB c E k=q:=⟨_,rfl⟩;obtain ⟨k3,f3⟩:∃q,Sn.seatedB E k=q:=⟨_,rfl⟩;rw [f1] at cs hd;rw [f2] at ca hd;rw [f3] at ct hd;obtain ⟨A,hA⟩:∃A,Sn.entC c E k=A:=⟨_,rfl⟩;rw [hA] at hd ⊢;clear hL hc hcE hk hg0 hcmp hp e0 e1 f1 f2 f3 hA;unfold Gd.world at hw0 ca ⊢;unfold En.cells at cs;go_enter Tryz.func88,Tryz.ntmps88;go_upto_region 1 with fail;rw [←hw0];clear hw0;obtain ⟨B,hBe⟩:∃B,w.heap.size=B:=⟨_,rfl⟩;rw [hBe] at hB ⊢;clear hBe;have b5:=(uh hB).eleven.2.2.2.2.2.1;obtain ⟨r0,r1,r2,r3,r4,r5,r6,r7,r8,r9,r10⟩:=(uh hL0).own.ents.row (uh HK);obtain ⟨w1,hw1⟩:∃w1,w1=w0.alloc (.cells (En.cells (E k)) 70):=⟨_,rfl⟩;have hgA:w0.grownBy w1 none:=by rw [hw1];exact World.grownBy_alloc _ _ _
 have hD:Hid (Lie w1 w0.heap.size 70 11 (Ints (E k))):=by show Lie w1 _ _ _ _;rw [hw1];exact Sn.born w0 (E k) 70
 have hL1:=hide ((uh hL0).on hgA);have hB1:=hide ((uh hB).on hgA);have hg1:=hide (gtr (uh hgr) hgA);clear hgA hB hL0 hgr;unfold En.cells at hw1;go_upto_region 2 with fail;rw [←hw1];clear hw1 b5 r0 r1 r2 r3 r4 r5 r6 r7 r8 r9 r10;obtain ⟨D,hDe⟩:∃D,w0.heap.size=D:=⟨_,rfl⟩;rw [hDe] at hD ⊢;clear hDe w0;obtain ⟨d0,d1,d2,d3,d4,d5,d6,d7,d8,d9,d10⟩:=Sn.row (uh hD);go_wp2_with fail;refine (uh c0 _).mono ?_;rintro _ w2 ⟨rfl,rfl⟩;cases q0 with
 | false=>go_wp2;go_ret;exact ⟨rti (uh hd).symm,uh hg1⟩
 | true =>
 go_wp2_with fail;refine (uh c1 _).mono ?_;rintro _ w2 ⟨rfl,rfl⟩;cases q1 with
 | false=>go_wp2;go_ret;exact ⟨rti (uh hd).symm,uh hg1⟩
 | true =>
 cases z with
 | true =>
  have h0:E k 0=0:=of_decide_eq_true (uh hz);have h0':(E k 0 == 0)=true:=by simp [h0]
  have h0'':(E k 0 != 0)=false:=by simp [h0]
  clear h0 hz;cases p with
  | false=>go_wp2;go_ret;exact ⟨rti (uh hd).symm,uh hg1⟩
  | true=>go_wp2;go_ret;exact ⟨rti (uh hd).symm,uh hg1⟩
 | false =>
  have h0:¬E k 0=0:=of_decide_eq_false (uh hz);have h0':(E k 0 == 0)=false:=by simp [h0]
  have h0'':(E k 0 != 0)=true:=by simp [h0]
  have H0:=hide h0;clear h0 hcmp' hz;go_wp2_with fail;refine (uh cs _).mono ?_;rintro _ w2 ⟨rfl,hg2⟩;have hL2:=hide ((uh hL1).on hg2);have hB2:=hide ((uh hB1).on hg2);have hD2:=hide ((uh hD).on hg2);have hg3:=hide (gtr (uh hg1) hg2);clear hg2 hL1 hB1 hD hg1 d0 d1 d2 d3 d4 d5 d6 d7 d8 d9 d10;cases k1 with
  | false=>go_wp2;go_ret;exact ⟨rti (uh hd).symm,uh hg3⟩
  | true =>
  obtain ⟨b0,b1,b2,b3,b4,b5,b6,b7,b8,b9,b10⟩:=(uh hB2).eleven;go_wp2_with fail;refine (uh ca _ (uh hL2) (uh H0)).mono ?_;rintro _ w3 ⟨rfl,hg2⟩;have hL3:=hide ((uh hL2).on hg2);have hB3:=hide ((uh hB2).on hg2);have hg4:=hide (gtr (uh hg3) hg2);clear hg2 hL2 hB2 hD2 hg3 b0 b1 b2 b3 b4 b5 b6 b7 b8 b9 b10;cases k2 with
  | false=>go_wp2;go_ret;exact ⟨rti (uh hd).symm,uh hg4⟩
  | true =>
  have b5:=(uh hB3).eleven.2.2.2.2.2.1;go_wp2_with fail;refine (uh ct _ (uh hL3)).mono ?_;rintro _ w4 ⟨rfl,hg2⟩;have hg5:=hide (gtr (uh hg4) hg2);clear hg2 hL3 hB3 hg4 b5;cases k3 with
  | false=>go_wp2;go_ret;exact ⟨rti (uh hd).symm,uh hg5⟩
  | true=>go_wp2;go_ret;exact ⟨rti (uh hd).symm,uh hg5⟩

structure Sn.Shown (w x:World) (B gC gE gI cC cE cI:Nat) (s g c:Nat→Int) (E I:Nat→Nat→Int):Prop where
 box:Lie x B 30 11 (Gd.box s gC gE gI cC cE cI g)
 lists:Gd.Lists x gC gE gI c E I
 grown:w.grownBy x none

theorem Sn.Shown.on {w x y:World} {B gC gE gI cC cE cI:Nat} {s g c:Nat→Int} {E I:Nat→Nat→Int} (h:Sn.Shown w x B gC gE gI cC cE cI s g c E I) (hg:x.grownBy y none):Sn.Shown w y B gC gE gI cC cE cI s g c E I :=
 ⟨h.box.on hg,h.lists.on hg,gtr h.grown hg⟩

def Sn.ChkBy (q:Bool) (m n3 n4:Int) (c:Nat→Int) (E I:Nat→Nat→Int) (v:Int):Prop :=
 if q=true then if m≤5 then if n3=1∧n4=1 then if Sn.rowC c E 32=0 then (v=0∧Gd.Ok c 40 I)∨(v=9∧¬Gd.Ok c 40 I) else v=Sn.rowC c E 32 else v=2 else v=3 else v=1

def Sn.ChkRows (c:Nat→Int) (E I:Nat→Nat→Int) (v:Int):Prop :=
 if Sn.rowC c E 32=0 then (v=0∧Gd.Ok c 40 I)∨(v=9∧¬Gd.Ok c 40 I) else v=Sn.rowC c E 32

def Sn.Told (w:World) (s g c:Nat→Int) (E I:Nat→Nat→Int) (e:Ending) (w':World):Prop:=∃v,e=.returned (.int .i64 v)∧Sn.Chk s g c E I v∧w.grownBy w' none

set_option maxRecDepth 8000 in
set_option maxHeartbeats 6400000 in
theorem snCheck_any (s g c:Nat→Int) (E I:Nat→Nat→Int) (gC gE gI cC cE cI:Nat) (w:World) (hL:Gd.Lists w gC gE gI c E I) (hc:∀i,0≤c i∧c i≤255) (hcE:32≤cE) :
  Calls Tryz.prog 52 #[.agg (Gd.world s gC gE gI cC cE cI g)] w (Sn.Told w s g c E I):=by
 obtain ⟨w0,hw0⟩:∃w0,w0=w.alloc (.cells (Gd.world s gC gE gI cC cE cI g) 30):=⟨_,rfl⟩;have hg0:w.grownBy w0 none:=by rw [hw0];exact World.grownBy_alloc _ _ _
 have hO:Hid (Sn.Shown w w0 w.heap.size gC gE gI cC cE cI s g c E I):=by
  refine ⟨?_,hL.on hg0,hg0⟩;rw [hw0];exact (Arr.world (heap_alloc_new w _)).lie
 have ch:=hide (fun x=>headFits_any s g 384 32 40 cC cE cI (some ⟨gC,0,none⟩) (some ⟨gE,0,none⟩) (some ⟨gI,0,none⟩) x);have cm:=hide (fun x (hx:Gd.Lists x gC gE gI c E I)=>snMax_any gC cC c x hx.cells);have cn:=hide (fun x (hx:Gd.Lists x gC gE gI c E I) kd=>snCount_any gC cC c kd x hx.cells);have ce:=hide (fun x (hx:Gd.Lists x gC gE gI c E I) k (hk:k<32)=>checkEnt_any s g c E I gC gE gI cC cE cI k x hx hc hcE hk);have cd:=hide (fun x (hx:Gd.Lists x gC gE gI c E I)=>check_any s g c E I gC gE gI cC cE cI x hx hc);obtain ⟨q,hq⟩:∃q,Sn.headB s g=q:=⟨_,rfl⟩;obtain ⟨m,hm⟩:∃m,Sn.mx c 383=m:=⟨_,rfl⟩;obtain ⟨n3,h3⟩:∃m,Sn.cnt c 3 384=m:=⟨_,rfl⟩;obtain ⟨n4,h4⟩:∃m,Sn.cnt c 4 384=m:=⟨_,rfl⟩;have hT:Hid (∀v,Sn.Chk s g c E I v↔Sn.ChkBy q m n3 n4 c E I v):=fun v=>by
  unfold Sn.Chk Sn.ChkBy;rw [hq,hm,h3,h4]
 have c3:Hid (∀x,Gd.Lists x gC gE gI c E I→Calls Tryz.prog 87 #[.slice (some ⟨gC,0,none⟩) 384 cC,.int .u8 3] x fun e w'=>e=.returned (.int .i64 n3)∧w'=x):=fun x hx=>by
  rw [←h3];exact uh cn x hx 3
 have c4:Hid (∀x,Gd.Lists x gC gE gI c E I→Calls Tryz.prog 87 #[.slice (some ⟨gC,0,none⟩) 384 cC,.int .u8 4] x fun e w'=>e=.returned (.int .i64 n4)∧w'=x):=fun x hx=>by
  rw [←h4];exact uh cn x hx 4
 rw [hq] at ch;rw [hm] at cm;clear hL hc hcE hg0 cn hq hm h3 h4;unfold Gd.world at hw0 ce cd ⊢;go_enter Tryz.func52,Tryz.ntmps52;go_upto_region 1 with fail;rw [←hw0];clear hw0;obtain ⟨B,hB⟩:∃B,w.heap.size=B:=⟨_,rfl⟩;rw [hB] at hO ⊢;clear hB;obtain ⟨b0,b1,b2,b3,b4,b5,b6,b7,b8,b9,b10⟩:=(uh hO).box.eleven;go_wp2_with fail;refine (uh ch _).mono ?_;rintro e w1 ⟨rfl,hg⟩;have hO1:=hide ((uh hO).on hg);clear hg hO ch b0 b1 b2 b3 b4 b5 b6 b7 b8 b9 b10;cases q with
 | false =>
  have hfin:Hid (Sn.Told w s g c E I (.returned (.int .i64 1)) w1):=⟨1,rfl,((uh hT) 1).2 (by unfold Sn.ChkBy;rw [if_neg (by simp)]),(uh hO1).grown⟩;go_wp2;go_ret;exact uh hfin
 | true =>
 obtain ⟨b0,b1,b2,b3,b4,b5,b6,b7,b8,b9,b10⟩:=(uh hO1).box.eleven;go_wp2_with fail;refine (uh cm _ (uh hO1).lists).mono ?_;rintro e w1 ⟨rfl,rfl⟩;by_cases hm:m≤5;case neg =>
  have hm':m > 5:=by omega
  have hfin:Hid (Sn.Told w s g c E I (.returned (.int .i64 3)) w1):=⟨3,rfl,((uh hT) 3).2 (by unfold Sn.ChkBy;rw [if_pos rfl,if_neg hm]),(uh hO1).grown⟩;clear hm;go_wp2;go_ret;exact uh hfin
 have hm':¬m > 5:=by omega
 have HM:=hide hm;clear hm;go_wp2_with fail;refine (uh c3 _ (uh hO1).lists).mono ?_;rintro e w1 ⟨rfl,rfl⟩;by_cases k3:n3=1;case neg =>
  have k3':(n3 != 1)=true:=by simp [k3]
  have hfin:Hid (Sn.Told w s g c E I (.returned (.int .i64 2)) w1):=⟨2,rfl,((uh hT) 2).2 (by unfold Sn.ChkBy;rw [if_pos rfl,if_pos (uh HM),if_neg (fun h=>k3 h.1)]),(uh hO1).grown⟩;clear k3;go_wp2;go_ret;exact uh hfin
 have k3':(n3 != 1)=false:=by simp [k3]
 have K3:=hide k3;clear k3;go_wp2_with fail;refine (uh c4 _ (uh hO1).lists).mono ?_;rintro e w1 ⟨rfl,rfl⟩;by_cases k4:n4=1;case neg =>
  have k4':(n4 != 1)=true:=by simp [k4]
  have hfin:Hid (Sn.Told w s g c E I (.returned (.int .i64 2)) w1):=⟨2,rfl,((uh hT) 2).2 (by unfold Sn.ChkBy;rw [if_pos rfl,if_pos (uh HM),if_neg (fun h=>k4 h.2)]),(uh hO1).grown⟩;clear k4;go_wp2;go_ret;exact uh hfin
 have k4':(n4 != 1)=false:=by simp [k4]
 have hT2:Hid (∀v,Sn.Chk s g c E I v↔Sn.ChkRows c E I v):=fun v=>by
  rw [uh hT v];unfold Sn.ChkBy Sn.ChkRows;rw [if_pos rfl,if_pos (uh HM),if_pos ⟨uh K3,k4⟩]
 clear k4 hT HM K3;go_wp2_with fail
 go_loopw [45] (fun v45 wr=>∃i:Nat,i≤32∧v45=.int .i64 (i:Int)∧Hid (∀j,j<i→Sn.entC c E j=0)∧Hid (Sn.Shown w wr B gC gE gI cC cE cI s g c E I)) (fun v45 _=>40 - (intOf v45).toNat)
 case atStart=>exact ⟨0,by omega,rfl,fun j hj=>absurd hj (by omega),hO1⟩
 case round =>
  clear hO1 b0 b1 b2 b3 b4 b5 b6 b7 b8 b9 b10 k3' k4' hm';obtain ⟨i,hi,rfl,hz,hO⟩:=hrel;obtain ⟨b0,b1,b2,b3,b4,b5,b6,b7,b8,b9,b10⟩:=(uh hO).box.eleven;by_cases hlt:i<32
  ·have hlt':(i:Int)<32:=by omega
   have HL:=hide hlt;have cx:=hide (uh ce wr (uh hO).lists i hlt);obtain ⟨r,hr⟩:∃r,Sn.entC c E i=r:=⟨_,rfl⟩;rw [hr] at cx;have HR:=hide hr;clear hlt hi hr;go_wp2_with fail;refine (uh cx).mono ?_;rintro e w2 ⟨rfl,hg⟩;have hO2:=hide ((uh hO).on hg);clear hg hO cx b0 b1 b2 b3 b4 b5 b6 b7 b8 b9 b10;by_cases hr0:r=0
   ·have hr':(r != 0)=false:=by simp [hr0]
    have HZ:Hid (∀j,j<i+1→Sn.entC c E j=0):=fun j hj=>by
     by_cases e:j=i
     ·rw [e,uh HR,hr0]
     ·exact uh hz j (by omega)
    clear hr0;go_wp2;go_roundw;case rel=>exact ⟨i+1,by have:=uh HL;omega,by go_num,HZ,hO2⟩
    case measure=>simp [intOf];have:=uh HL;omega
   ·have hr':(r != 0)=true:=by simp [hr0]
    have hre:Sn.rowC c E (i+1)=r:=by
     show (if Sn.rowC c E i=0 then Sn.entC c E i else Sn.rowC c E i)=r;rw [if_pos (Sn.rowC_zero (uh hz)),uh HR]
    have h32:=Sn.rowC_stays hre hr0 32 (by have:=uh HL;omega);have hfin:Hid (Sn.Told w s g c E I (.returned (.int .i64 r)) w2):=⟨r,rfl,((uh hT2) r).2 (by unfold Sn.ChkRows;rw [if_neg (by rw [h32];exact hr0),h32]),(uh hO2).grown⟩;clear hr0 hre h32;go_wp2;go_ret;exact uh hfin
  ·have hge:¬(i:Int)<32:=by omega
   have h32:Sn.rowC c E 32=0:=Sn.rowC_zero fun j hj=>uh hz j (by omega);have hT3:Hid (∀v,Sn.Chk s g c E I v↔(v=0∧Gd.Ok c 40 I)∨(v=9∧¬Gd.Ok c 40 I)):=fun v=>by rw [uh hT2 v];unfold Sn.ChkRows;rw [if_pos h32]
   clear hlt hi h32;go_wp2_with fail;refine (uh cd _ (uh hO).lists).mono ?_;rintro e w3 ⟨b,rfl,hb,hg⟩;have hgf:=hide (gtr (uh hO).grown hg);have HB:=hide hb;clear hb hg hO b0 b1 b2 b3 b4 b5 b6 b7 b8 b9 b10 cd ce;cases b with
   | true =>
    have hfin:Hid (Sn.Told w s g c E I (.returned (.int .i64 0)) w3):=⟨0,rfl,((uh hT3) 0).2 (.inl ⟨rfl,(uh HB).1 rfl⟩),uh hgf⟩;go_wp2;go_ret;exact uh hfin
   | false =>
    have hfin:Hid (Sn.Told w s g c E I (.returned (.int .i64 9)) w3):=⟨9,rfl,((uh hT3) 9).2 (.inr ⟨rfl,fun h=>absurd ((uh HB).2 h) (by simp)⟩),uh hgf⟩;go_wp2;go_ret;exact uh hfin

end Go.Proofs.YtldgbkjceildfaaGreat
