import Derived.Test.YtldgbkjceildfaaGreatBy33
import Derived.Test.YtldgbkjceildfaaGreatBy26
namespace Go.Proofs.YtldgbkjceildfaaGreat
open Go.RowKit

set_option maxRecDepth 16000 in
set_option maxHeartbeats 12800000 in
theorem Sn.seated_low {w:World} {B D F gC gE gI cC cE cI k:Nat} {s g c:Nat→Int} {E I:Nat→Nat→Int} {st:Nat→Int} (h:Sn.Looks w B D F gC gE gI cC cE cI k s g c E I st) (k1:E k 0=1) (s1:E k 2<0):Sn.Seated w B D F k true:=by
 have hL:=hide h.lists;obtain ⟨d0,-,d2,-,-,-,-,-,-,-,-⟩:=Sn.row h.ent;have k1':(E k 0 == 1)=true:=by simp [k1]
 have k1'':(E k 0 != 1)=false:=by simp [k1]
 rw [k1] at d0;clear k1;clear h;unfold Sn.Seated
 intros
 rename_i hQ;have HQ:=hide hQ;clear hQ
 conv=>arg 2;whnf
 dsimp only;go_quiet (fail);exact uh HQ _ _ _ _ _ _ _ _ _ _ _ _ _ _ _ _ _ _ _ _ _ _ _ _ _ _ _ _ _ _ _ _ nq

set_option maxRecDepth 16000 in
set_option maxHeartbeats 12800000 in
theorem Sn.seated_high {w:World} {B D F gC gE gI cC cE cI k:Nat} {s g c:Nat→Int} {E I:Nat→Nat→Int} {st:Nat→Int} (h:Sn.Looks w B D F gC gE gI cC cE cI k s g c E I st) (k1:E k 0=1) (s1:¬E k 2<0) (s2:E k 2≥4):Sn.Seated w B D F k true:=by
 have hL:=hide h.lists;obtain ⟨d0,-,d2,-,-,-,-,-,-,-,-⟩:=Sn.row h.ent;have k1':(E k 0 == 1)=true:=by simp [k1]
 have k1'':(E k 0 != 1)=false:=by simp [k1]
 rw [k1] at d0;clear k1;clear h;unfold Sn.Seated
 intros
 rename_i hQ;have HQ:=hide hQ;clear hQ
 conv=>arg 2;whnf
 dsimp only;go_quiet (fail);exact uh HQ _ _ _ _ _ _ _ _ _ _ _ _ _ _ _ _ _ _ _ _ _ _ _ _ _ _ _ _ _ _ _ _ nq

set_option maxRecDepth 16000 in
set_option maxHeartbeats 12800000 in
theorem Sn.seated_two {w:World} {B D F gC gE gI cC cE cI k:Nat} {s g c:Nat→Int} {E I:Nat→Nat→Int} {st:Nat→Int} (h:Sn.Looks w B D F gC gE gI cC cE cI k s g c E I st) (k1:E k 0=1) (s1:¬E k 2<0) (s2:¬E k 2≥4) {f:Int} (hf:En.first (En.heroQ E (E k 2)) k=f) (f0:f≥0):Sn.Seated w B D F k true:=by
 have hL:=hide h.lists;have cH:=hide (fun z (hz:Gd.Lists z gC gE gI c E I)=>refHero_still gE k cE E (E k 2) z (Sn.front hz.own.ents (by have:=h.row;omega)));rw [hf] at cH;have b5:=h.box.eleven.2.2.2.2.2.1;have q7:(k:Int)≤(cE:Int):=by have:=h.cap;have:=h.row;omega
 have q8:¬(k:Int)<0:=by omega
 clear hf;obtain ⟨d0,-,d2,-,-,-,-,-,-,-,-⟩:=Sn.row h.ent;have k1':(E k 0 == 1)=true:=by simp [k1]
 have k1'':(E k 0 != 1)=false:=by simp [k1]
 rw [k1] at d0;clear k1;clear h;unfold Sn.Seated
 intros
 rename_i hQ;have HQ:=hide hQ;clear hQ
 conv=>arg 2;whnf
 dsimp only;go_quiet (first | (go_at_call 39;refine Calls.quiet_of_same (uh cH _ ?_);exact (uh hL).on (gdw (World.grownBy.refl _ none) _)) | fail);exact uh HQ _ _ _ _ _ _ _ _ _ _ _ _ _ _ _ _ _ _ _ _ _ _ _ _ _ _ _ _ _ _ _ _ nq

set_option maxRecDepth 16000 in
set_option maxHeartbeats 12800000 in
theorem Sn.seated_hero {w:World} {B D F gC gE gI cC cE cI k:Nat} {s g c:Nat→Int} {E I:Nat→Nat→Int} {st:Nat→Int} (h:Sn.Looks w B D F gC gE gI cC cE cI k s g c E I st) (k1:E k 0=1) (s1:¬E k 2<0) (s2:¬E k 2≥4) {f:Int} (hf:En.first (En.heroQ E (E k 2)) k=f) (f0:¬f≥0):Sn.Seated w B D F k false:=by
 have hL:=hide h.lists;have cH:=hide (fun z (hz:Gd.Lists z gC gE gI c E I)=>refHero_still gE k cE E (E k 2) z (Sn.front hz.own.ents (by have:=h.row;omega)));rw [hf] at cH;have b5:=h.box.eleven.2.2.2.2.2.1;have q7:(k:Int)≤(cE:Int):=by have:=h.cap;have:=h.row;omega
 have q8:¬(k:Int)<0:=by omega
 clear hf;obtain ⟨d0,-,d2,-,-,-,-,-,-,-,-⟩:=Sn.row h.ent;have k1':(E k 0 == 1)=true:=by simp [k1]
 have k1'':(E k 0 != 1)=false:=by simp [k1]
 rw [k1] at d0;clear k1;clear h;unfold Sn.Seated
 intros
 rename_i hQ;have HQ:=hide hQ;clear hQ
 conv=>arg 2;whnf
 dsimp only;go_quiet (first | (go_at_call 39;refine Calls.quiet_of_same (uh cH _ ?_);exact (uh hL).on (gdw (World.grownBy.refl _ none) _)) | fail);exact uh HQ _ _ _ _ _ _ _ _ _ _ _ _ _ _ _ _ _ _ _ _ _ _ _ _ _ _ _ _ _ _ _ _ nq

set_option maxRecDepth 16000 in
set_option maxHeartbeats 12800000 in
theorem Sn.seated_none {w:World} {B D F gC gE gI cC cE cI k:Nat} {s g c:Nat→Int} {E I:Nat→Nat→Int} {st:Nat→Int} (h:Sn.Looks w B D F gC gE gI cC cE cI k s g c E I st) (k0:¬E k 0=1) (s0:(E k 2 != 0)=false):Sn.Seated w B D F k false:=by
 have hL:=hide h.lists;obtain ⟨d0,-,d2,-,-,-,-,-,-,-,-⟩:=Sn.row h.ent;have k1':(E k 0 == 1)=false:=by simp [k0]
 have k1'':(E k 0 != 1)=true:=by simp [k0]
 clear k0;clear h;unfold Sn.Seated
 intros
 rename_i hQ;have HQ:=hide hQ;clear hQ
 conv=>arg 2;whnf
 dsimp only;go_quiet (fail);exact uh HQ _ _ _ _ _ _ _ _ _ _ _ _ _ _ _ _ _ _ _ _ _ _ _ _ _ _ _ _ _ _ _ _ nq

set_option maxRecDepth 16000 in
set_option maxHeartbeats 12800000 in
theorem Sn.seated_some {w:World} {B D F gC gE gI cC cE cI k:Nat} {s g c:Nat→Int} {E I:Nat→Nat→Int} {st:Nat→Int} (h:Sn.Looks w B D F gC gE gI cC cE cI k s g c E I st) (k0:¬E k 0=1) (s0:(E k 2 != 0)=true):Sn.Seated w B D F k true:=by
 have hL:=hide h.lists;obtain ⟨d0,-,d2,-,-,-,-,-,-,-,-⟩:=Sn.row h.ent;have k1':(E k 0 == 1)=false:=by simp [k0]
 have k1'':(E k 0 != 1)=true:=by simp [k0]
 clear k0;clear h;unfold Sn.Seated
 intros
 rename_i hQ;have HQ:=hide hQ;clear hQ
 conv=>arg 2;whnf
 dsimp only;go_quiet (fail);exact uh HQ _ _ _ _ _ _ _ _ _ _ _ _ _ _ _ _ _ _ _ _ _ _ _ _ _ _ _ _ _ _ _ _ nq


open Go.RowKit

theorem Sn.tests_any {w:World} {B D F gC gE gI cC cE cI k:Nat} {s g c:Nat→Int} {E I:Nat→Nat→Int} (h:Sn.Looks w B D F gC gE gI cC cE cI k s g c E I (En.stats (E k 0))):∃t,Sn.Tests w B D F k t∧(t=true→¬(Sn.soundB (E k)=true∧Sn.aloneB c E k=true))∧(t=false→Sn.soundB (E k)=true∧Sn.aloneB c E k=true):=by
 cases hw:Gr.walkB (Gr.at 384 c (E k 3) (E k 4)) with
 | false =>
  refine ⟨true,Sn.tests_walk h hw,fun _ q=>?_,fun e=>by cases e⟩;have q2:=q.2;unfold Sn.aloneB at q2;rw [hw,Bool.false_and] at q2;cases q2
 | true =>
 by_cases hf:En.first (En.atQ E (E k 3) (E k 4)) k≥0
 ·refine ⟨true,Sn.tests_one h hw rfl hf,fun _ q=>?_,fun e=>by cases e⟩;have q2:=q.2;unfold Sn.aloneB at q2;rw [hw,Bool.true_and] at q2;have:=of_decide_eq_true q2;omega
 have hal:Sn.aloneB c E k=true:=by
  unfold Sn.aloneB;rw [hw,Bool.true_and];have:=Sn.first_least (En.atQ E (E k 3) (E k 4)) k;exact decide_eq_true (by omega)
 have hno:¬(E k 6=En.stats (E k 0) 6∧E k 7=En.stats (E k 0) 7∧E k 8=En.stats (E k 0) 8∧1≤E k 5∧E k 5≤E k 6∧0≤E k 9∧E k 9≤9∧0≤E k 10∧E k 10≤9)→¬(Sn.soundB (E k)=true∧Sn.aloneB c E k=true):=fun hn q=>hn (of_decide_eq_true q.1);by_cases m0:E k 5<1
 ·exact ⟨true,Sn.tests_hp1 h hw rfl hf m0,fun _=>hno (by omega),fun e=>by cases e⟩
 by_cases m1:E k 5 > E k 6
 ·exact ⟨true,Sn.tests_hpm h hw rfl hf m0 m1,fun _=>hno (by omega),fun e=>by cases e⟩
 by_cases n2:E k 6=En.stats (E k 0) 6;case neg=>exact ⟨true,Sn.tests_max h hw rfl hf m0 m1 (by simp [n2]),fun _=>hno (fun q=>n2 (by omega)),fun e=>by cases e⟩
 have m2:(E k 6 != En.stats (E k 0) 6)=false:=by simp [n2]
 by_cases n3:E k 7=En.stats (E k 0) 7;case neg=>exact ⟨true,Sn.tests_atk h hw rfl hf m0 m1 m2 (by simp [n3]),fun _=>hno (fun q=>n3 (by omega)),fun e=>by cases e⟩
 have m3:(E k 7 != En.stats (E k 0) 7)=false:=by simp [n3]
 by_cases n4:E k 8=En.stats (E k 0) 8;case neg=>exact ⟨true,Sn.tests_def h hw rfl hf m0 m1 m2 m3 (by simp [n4]),fun _=>hno (fun q=>n4 (by omega)),fun e=>by cases e⟩
 have m4:(E k 8 != En.stats (E k 0) 8)=false:=by simp [n4]
 by_cases m5:E k 9<0
 ·exact ⟨true,Sn.tests_po0 h hw rfl hf m0 m1 m2 m3 m4 m5,fun _=>hno (by omega),fun e=>by cases e⟩
 by_cases m6:E k 9 > 9
 ·exact ⟨true,Sn.tests_po9 h hw rfl hf m0 m1 m2 m3 m4 m5 m6,fun _=>hno (by omega),fun e=>by cases e⟩
 by_cases m7:E k 10<0
 ·exact ⟨true,Sn.tests_st0 h hw rfl hf m0 m1 m2 m3 m4 m5 m6 m7,fun _=>hno (by omega),fun e=>by cases e⟩
 by_cases m8:E k 10 > 9
 ·exact ⟨true,Sn.tests_st9 h hw rfl hf m0 m1 m2 m3 m4 m5 m6 m7 m8,fun _=>hno (by omega),fun e=>by cases e⟩
 refine ⟨false,Sn.tests_none h hw rfl hf m0 m1 m2 m3 m4 m5 m6 m7 m8,fun e=>absurd e (by simp),fun _=>⟨?_,hal⟩⟩;unfold Sn.soundB;exact decide_eq_true ⟨n2,n3,n4,by omega,by omega,by omega,by omega,by omega,by omega⟩

theorem Sn.seated_any {w:World} {B D F gC gE gI cC cE cI k:Nat} {s g c:Nat→Int} {E I:Nat→Nat→Int} {st:Nat→Int} (h:Sn.Looks w B D F gC gE gI cC cE cI k s g c E I st):∃t,Sn.Seated w B D F k t∧(t=true→Sn.seatedB E k=false)∧(t=false→Sn.seatedB E k=true):=by
 unfold Sn.seatedB;by_cases k1:E k 0=1
 ·rw [if_pos k1];by_cases s1:E k 2<0
  ·exact ⟨true,Sn.seated_low h k1 s1,fun _=>decide_eq_false (by omega),fun e=>by cases e⟩
  by_cases s2:E k 2≥4
  ·exact ⟨true,Sn.seated_high h k1 s1 s2,fun _=>decide_eq_false (by omega),fun e=>by cases e⟩
  by_cases f0:En.first (En.heroQ E (E k 2)) k≥0
  ·exact ⟨true,Sn.seated_two h k1 s1 s2 rfl f0,fun _=>decide_eq_false (by omega),fun e=>by cases e⟩
  have:=Sn.first_least (En.heroQ E (E k 2)) k;exact ⟨false,Sn.seated_hero h k1 s1 s2 rfl f0,fun e=>absurd e (by simp),fun _=>decide_eq_true (by omega)⟩
 ·rw [if_neg k1];by_cases s0:E k 2=0
  ·exact ⟨false,Sn.seated_none h k1 (by simp [s0]),fun e=>absurd e (by simp),fun _=>decide_eq_true s0⟩
  ·exact ⟨true,Sn.seated_some h k1 (by simp [s0]),fun _=>decide_eq_false s0,fun e=>by cases e⟩

set_option maxRecDepth 16000 in
set_option maxHeartbeats 12800000 in
theorem refEnt11_any (s g c:Nat→Int) (E I:Nat→Nat→Int) (gC gE gI cC cE cI k:Nat) (w:World) (hL:Gd.Lists w gC gE gI c E I) (hc8:∀i,0≤c i∧c i≤255) (hc:32≤cE) (hk:k<32) :
  Calls Tryz.prog 55 #[.agg (Gd.world s gC gE gI cC cE cI g),.int .i64 (k:Int)] w (Says w (.int .i64 (Sn.entC c E k))):=by
 obtain ⟨w0,hw0⟩:∃w0,w0=w.alloc (.cells (Gd.world s gC gE gI cC cE cI g) 30):=⟨_,rfl⟩;have hg0:w.grownBy w0 none:=by rw [hw0];exact World.grownBy_alloc _ _ _
 have hB:Hid (Lie w0 w.heap.size 30 11 (Gd.box s gC gE gI cC cE cI g)):=by show Lie w0 _ _ _ _;rw [hw0];exact (Arr.world (heap_alloc_new w _)).lie
 have hL0:=hide (hL.on hg0);have hgr:=hide hg0;have HK:=hide hk;have HC:=hide hc;have H8:=hide hc8;have hk':(k:Int)<32:=by omega
 have hd:=hide (Sn.entC_ans c E k);have hcmp:=fun wx=>run_ne_ent (E k) (Sn.bare (E k 1)) wx;obtain ⟨p,hp⟩:∃p,Sn.sameE (E k) (Sn.bare (E k 1))=p:=⟨_,rfl⟩;rw [hp] at hd;have hcmp':∀wx:World,(binOp .neq 70 (.agg #[.int .i64 (E k 0),.int .i64 (E k 1),.int .i64 (E k 2),.int .i64 (E k 3),.int .i64 (E k 4),.int .i64 (E k 5),.int .i64 (E k 6),.int .i64 (E k 7),.int .i64 (E k 8),.int .i64 (E k 9),.int .i64 (E k 10)]) (.agg #[.int .i64 0,.int .i64 (E k 1),.int .i64 0,.int .i64 0,.int .i64 0,.int .i64 0,.int .i64 0,.int .i64 0,.int .i64 0,.int .i64 0,.int .i64 0])).run Tryz.prog wx=.ok (.bool (!p)) wx:=fun wx=>by
  rw [←hp];exact hcmp wx
 obtain ⟨A,hA⟩:∃A,Sn.entC c E k=A:=⟨_,rfl⟩;rw [hA] at hd ⊢;clear hL hg0 hk hc hc8 hcmp hp hA;unfold Gd.world at hw0 ⊢;go_enter Tryz.func55,Tryz.ntmps55;go_upto_region 1 with fail;rw [←hw0];clear hw0;obtain ⟨B,hBe⟩:∃B,w.heap.size=B:=⟨_,rfl⟩;rw [hBe] at hB ⊢;clear hBe;have b5:=(uh hB).eleven.2.2.2.2.2.1;obtain ⟨r0,r1,r2,r3,r4,r5,r6,r7,r8,r9,r10⟩:=(uh hL0).own.ents.row (uh HK);obtain ⟨w1,hw1⟩:∃w1,w1=w0.alloc (.cells (En.cells (E k)) 70):=⟨_,rfl⟩;have hgA:w0.grownBy w1 none:=by rw [hw1];exact World.grownBy_alloc _ _ _
 have hD:Hid (Lie w1 w0.heap.size 70 11 (Ints (E k))):=by show Lie w1 _ _ _ _;rw [hw1];exact Sn.born w0 (E k) 70
 have hL1:=hide ((uh hL0).on hgA);have hB1:=hide ((uh hB).on hgA);have hg1:=hide (gtr (uh hgr) hgA);clear hgA hB hL0 hgr;unfold En.cells at hw1;go_upto_region 2 with fail;rw [←hw1];clear hw1 b5 r0 r1 r2 r3 r4 r5 r6 r7 r8 r9 r10;obtain ⟨D,hDe⟩:∃D,w0.heap.size=D:=⟨_,rfl⟩;rw [hDe] at hD ⊢;clear hDe w0;obtain ⟨d0,d1,d2,d3,d4,d5,d6,d7,d8,d9,d10⟩:=Sn.row (uh hD);have hi0:Hid (¬(0≤E k 0∧E k 0≤4)→3=A):=fun h=>by rw [uh hd,show Sn.inB (E k 0) 0 4=false from decide_eq_false h];rfl
 by_cases a0:E k 0<0
 ·have hf:=hide (uh hi0 (by omega));go_wp2;go_ret;exact ⟨rti (uh hf),uh hg1⟩
 by_cases a4:E k 0 > 4
 ·have hf:=hide (uh hi0 (by omega));go_wp2;go_ret;exact ⟨rti (uh hf),uh hg1⟩
 have ok0:Sn.inB (E k 0) 0 4=true:=decide_eq_true (by omega);rw [ok0] at hd;have hi1:Hid (¬(0≤E k 1∧E k 1≤255)→9=A):=fun h=>by rw [uh hd,show Sn.inB (E k 1) 0 255=false from decide_eq_false h];rfl
 clear hi0 ok0;by_cases g0:E k 1<0
 ·have hf:=hide (uh hi1 (by omega));go_wp2;go_ret;exact ⟨rti (uh hf),uh hg1⟩
 by_cases g1:E k 1 > 255
 ·have hf:=hide (uh hi1 (by omega));go_wp2;go_ret;exact ⟨rti (uh hf),uh hg1⟩
 have ok1:Sn.inB (E k 1) 0 255=true:=decide_eq_true (by omega);rw [ok1] at hd;clear hi1 ok1;by_cases h0:E k 0=0
 ·rw [decide_eq_true h0] at hd;have h0':(E k 0 == 0)=true:=by simp [h0]
  clear h0;cases p with
  | true =>
   have hf:Hid (0=A):=(uh hd).symm;go_wp2;go_ret;exact ⟨rti (uh hf),uh hg1⟩
  | false =>
   have hf:Hid (9=A):=(uh hd).symm;go_wp2;go_ret;exact ⟨rti (uh hf),uh hg1⟩
 rw [decide_eq_false h0] at hd;have h0':(E k 0 == 0)=false:=by simp [h0]
 have H0:=hide h0;have hbad:Hid (¬(Sn.soundB (E k)=true∧Sn.aloneB c E k=true∧Sn.seatedB E k=true)→9=A):=fun h=>by
  rw [uh hd];cases h1:Sn.soundB (E k) <;> cases h2:Sn.aloneB c E k <;> cases h3:Sn.seatedB E k <;> first | rfl | exact absurd ⟨h1,h2,h3⟩ h
 have hgood:Hid (Sn.soundB (E k)=true→Sn.aloneB c E k=true→Sn.seatedB E k=true→0=A):=fun h1 h2 h3=>by
  rw [uh hd,h1,h2,h3];rfl
 have cst:=hide (fun x=>entRefStats_any (E k 0) x);have hta:=hide (fun (x:World) (D F B:Nat) (hx:Sn.Looks x B D F gC gE gI cC cE cI k s g c E I (En.stats (E k 0)))=>Sn.tests_any hx);have hsa:=hide (fun (x:World) (D F B:Nat) (hx:Sn.Looks x B D F gC gE gI cC cE cI k s g c E I (En.stats (E k 0)))=>Sn.seated_any hx);obtain ⟨st,hst⟩:∃st,En.stats (E k 0)=st:=⟨_,rfl⟩;rw [hst] at cst hta hsa;clear hst h0 hcmp' hd p;unfold En.cells at cst;go_wp2_with fail;refine (uh cst _).mono ?_;rintro e w2 ⟨rfl,hg2⟩;have hF:=hide (Sn.born w2 st 70);have hgB:=hide (gtr hg2 (World.grownBy_alloc w2 (.cells (En.cells st) 70) none));have hL2:=hide ((uh hL1).on (uh hgB));have hB2:=hide ((uh hB1).on (uh hgB));have hD2:=hide ((uh hD).on (uh hgB));have hg3:=hide (gtr (uh hg1) (uh hgB));clear hg2 hgB cst d0 d1 d2 d3 d4 d5 d6 d7 d8 d9 d10 hL1 hB1 hD hg1 a0 a4 h0' g0 g1;unfold En.cells at hF hL2 hB2 hD2 hg3;go_upto_region 11 with fail;obtain ⟨F,hFe⟩:∃F,w2.heap.size=F:=⟨_,rfl⟩;rw [hFe] at hF ⊢;generalize w2.alloc (.cells #[.int .i64 (st 0),.int .i64 (st 1),.int .i64 (st 2),.int .i64 (st 3),.int .i64 (st 4),.int .i64 (st 5),.int .i64 (st 6),.int .i64 (st 7),.int .i64 (st 8),.int .i64 (st 9),.int .i64 (st 10)] 70)=w3 at hF hL2 hB2 hD2 hg3 ⊢;clear hFe w2 w1;have hX:Hid (Sn.Looks w3 B D F gC gE gI cC cE cI k s g c E I st):=⟨uh hB2,uh hD2,uh hF,uh hL2,uh H8,uh HK,uh HC⟩;obtain ⟨t,ht,ht1,ht0⟩:=uh hta w3 D F B (uh hX);have HT:=hide ht;have HT1:=hide ht1;have HT0:=hide ht0;clear ht ht1 ht0 hta hB2 hD2 hF hL2;refine uh HT _ _ _ _ _ _ _ _ _ _ _ _ _ _ _ _ _ _ _ _ _ _ _ _ _ _ _ _ _ _ _ _ _ _ _ _ _ _ _ _ _ _ _ _ _ _ _ _ _ _ _ _ _ _ _ _ _ _ _ _ _ _ _ _ _ _ _ _ _ _ _ _ _ _ _ _ _ _ _ _ _ _ _ _ _ _ _ _ _ _ _ _ _ _ _ _ _ _ _ _ _ _ _ _ _ _ _ _ _ _ _ _ _ _ _ _ _ _ _ _ _ _ _ _ _ _ _ _ _ _ _ _ _ _ _ _ _ _ _ _ _ _ _ (fun u39 u40 u41 u42 u43 u44 u45 u46 u47 u48 u49 u50 u51 u52 u53 u54 u55 u56 u57 u58 u59 u60 u61 u62 u63 u64 u65 u66 u67 u68 u69 u70 u71 u72 u73 u74 u75 u76 u77 u78 u79 u80 u81 u82 u83 u84 u85 u86 u87 u88 u89 u90 u91 u92 u93 u94 u95 u96 u97 u98 u99 u100 u101 u102 u103 u104 u105 u106 u107 u108 u109 u110 u111 n=>?_);have hX3:Hid (Sn.Looks (w3.drewN n) B D F gC gE gI cC cE cI k s g c E I st):=by
  have hh:=gdw (World.grownBy.refl w3 none) n;have h:=uh hX;exact ⟨h.box.on hh,h.ent.on hh,h.fresh.on hh,h.lists.on hh,h.cells,h.row,h.cap⟩
 have hg4:=hide (gdw (uh hg3) n);clear hX HT hg3;generalize w3.drewN n=w4 at hX3 hg4 ⊢;clear w3 n;cases t with
 | true =>
  have hf:=hide (uh hbad (fun q=>uh HT1 rfl ⟨q.1,q.2.1⟩));clear HT1 HT0 hsa hX3;go_wp2;go_ret;exact ⟨rti (uh hf),uh hg4⟩
 | false =>
 have hok:=hide (uh HT0 rfl);clear HT1 HT0;obtain ⟨t,ht,ht1,ht0⟩:=uh hsa w4 D F B (uh hX3);have HT:=hide ht;have HT1:=hide ht1;have HT0:=hide ht0;clear ht ht1 ht0 hsa hX3;go_upto_region 13 with fail;refine uh HT _ _ _ _ _ _ _ _ _ _ _ _ _ _ _ _ _ _ _ _ _ _ _ _ _ _ _ _ _ _ _ _ _ _ _ _ _ _ _ _ _ _ _ _ _ _ _ _ _ _ _ _ _ _ _ _ _ _ _ _ _ _ _ _ _ _ _ _ _ _ _ _ _ _ _ _ _ _ _ _ _ _ _ _ _ _ _ _ _ _ _ _ _ _ _ _ _ _ _ _ _ _ _ _ _ _ _ _ _ _ _ _ _ _ _ _ _ _ _ _ _ _ _ _ _ _ _ _ _ _ _ _ _ _ _ _ _ _ _ _ _ _ _ (fun u113 u114 u115 u116 u117 u118 u119 u120 u121 u122 u123 u124 u125 u126 u127 u128 u129 u130 u131 u132 u133 u134 u135 u136 u137 u138 u139 u140 u141 u142 u143 u144 n=>?_);have hg5:=hide (gdw (uh hg4) n);clear HT hg4;generalize w4.drewN n=w5 at hg5 ⊢;clear w4 n;cases t with
 | true =>
  have hf:=hide (uh hbad (fun q=>by have h1:=uh HT1 rfl;rw [h1] at q;exact absurd q.2.2 (by simp)));clear HT1 HT0;go_wp2;go_ret;exact ⟨rti (uh hf),uh hg5⟩
 | false =>
  have hf:=hide (uh hgood (uh hok).1 (uh hok).2 (uh HT0 rfl));clear HT1 HT0;go_wp2;go_ret;exact ⟨rti (uh hf),uh hg5⟩


open Go.RowKit

theorem Sn.headC_cases {q:Bool} {m n3 n4:Int} (h:Sn.headC q m n3 n4=0):q=true∧m≤5∧n3=1∧n4=1:=by
 unfold Sn.headC at h;split at h
 ·split at h
  ·split at h
   ·rename_i h1 h2 h3;exact ⟨h1,h2,h3.1,h3.2⟩
   ·omega
  ·omega
 ·omega

set_option maxRecDepth 8000 in
theorem Sn.chk_head {s g c:Nat→Int} {E I:Nat→Nat→Int} {v:Int} (h:Sn.headC (Sn.headB s g) (Sn.mx c 383) (Sn.cnt c 3 384) (Sn.cnt c 4 384)=v) (hv:v≠0):Sn.Chk s g c E I v:=by
 unfold Sn.headC at h;unfold Sn.Chk;split at h
 ·rename_i h1;rw [if_pos h1];split at h
  ·rename_i h2;rw [if_pos h2];split at h
   ·exact absurd h.symm hv
   ·rename_i h3;rw [if_neg h3];exact h.symm
  ·rename_i h2;rw [if_neg h2];exact h.symm
 ·rename_i h1;rw [if_neg h1];exact h.symm

theorem Sn.chk_rows {s g c:Nat→Int} {E I:Nat→Nat→Int} (h:Sn.headC (Sn.headB s g) (Sn.mx c 383) (Sn.cnt c 3 384) (Sn.cnt c 4 384)=0) (v:Int):Sn.Chk s g c E I v↔Sn.ChkRows c E I v:=by
 obtain ⟨h1,h2,h3,h4⟩:=Sn.headC_cases h;unfold Sn.Chk Sn.ChkRows;rw [if_pos h1,if_pos h2,if_pos ⟨h3,h4⟩]

set_option maxRecDepth 16000 in
set_option maxHeartbeats 6400000 in
theorem refCheck11_any (s g c:Nat→Int) (E I:Nat→Nat→Int) (gC gE gI cC cE cI:Nat) (w:World) (hL:Gd.Lists w gC gE gI c E I) (hc:∀i,0≤c i∧c i≤255) (hcE:32≤cE) :
  Calls Tryz.prog 26 #[.agg (Gd.world s gC gE gI cC cE cI g)] w (Sn.Told w s g c E I):=by
 obtain ⟨w0,hw0⟩:∃w0,w0=w.alloc (.cells (Gd.world s gC gE gI cC cE cI g) 30):=⟨_,rfl⟩;have hg0:w.grownBy w0 none:=by rw [hw0];exact World.grownBy_alloc _ _ _
 have hO:Hid (Sn.Shown w w0 w.heap.size gC gE gI cC cE cI s g c E I):=by
  refine ⟨?_,hL.on hg0,hg0⟩;rw [hw0];exact (Arr.world (heap_alloc_new w _)).lie
 have hh:=hide (fun x (hx:Gd.Lists x gC gE gI c E I)=>refHead11_any s g c E I gC gE gI cC cE cI x hx);have he:=hide (fun x (hx:Gd.Lists x gC gE gI c E I) k (hk:k<32)=>refEnt11_any s g c E I gC gE gI cC cE cI k x hx hc hcE hk);have hd:=hide (fun x (hx:Gd.Lists x gC gE gI c E I)=>refCheck_any s g c E I gC gE gI cC cE cI x hx hc);have hk1:=hide (fun v=>Sn.chk_head (s:=s) (g:=g) (c:=c) (E:=E) (I:=I) (v:=v));have hk2:=hide (Sn.chk_rows (s:=s) (g:=g) (c:=c) (E:=E) (I:=I));obtain ⟨H,hH⟩:∃H,Sn.headC (Sn.headB s g) (Sn.mx c 383) (Sn.cnt c 3 384) (Sn.cnt c 4 384)=H:=⟨_,rfl⟩;rw [hH] at hh hk1 hk2;clear hL hg0 hc hcE hH;unfold Gd.world at hw0 hh he hd ⊢;go_enter Tryz.func26,Tryz.ntmps26;go_upto_region 1 with fail;rw [←hw0];clear hw0;obtain ⟨B,hB⟩:∃B,w.heap.size=B:=⟨_,rfl⟩;rw [hB] at hO ⊢;clear hB;obtain ⟨b0,b1,b2,b3,b4,b5,b6,b7,b8,b9,b10⟩:=(uh hO).box.eleven;go_wp2_with fail;refine (uh hh _ (uh hO).lists).mono ?_;rintro e w1 ⟨rfl,hg⟩;have hO1:=hide ((uh hO).on hg);clear hg hO hh b0 b1 b2 b3 b4 b5 b6 b7 b8 b9 b10;by_cases h0:H=0;case neg =>
  have h0':(H != 0)=true:=by simp [h0]
  have hfin:Hid (Sn.Told w s g c E I (.returned (.int .i64 H)) w1):=⟨H,rfl,uh hk1 H rfl h0,(uh hO1).grown⟩;clear h0;go_wp2;go_ret;exact uh hfin
 subst h0;have hT2:=hide (uh hk2 rfl);clear hk1 hk2;go_wp2_with fail
 go_loopw [3,4] (fun v3 v4 wr=>∃i:Nat,i≤32∧v3=.int .i64 0∧v4=.int .i64 (i:Int)∧Hid (∀j,j<i→Sn.entC c E j=0)∧Hid (Sn.Shown w wr B gC gE gI cC cE cI s g c E I)) (fun _ v4 _=>40 - (intOf v4).toNat)
 case atStart=>exact ⟨0,by omega,rfl,rfl,fun j hj=>absurd hj (by omega),hO1⟩
 case round =>
  clear hO1;obtain ⟨i,hi,rfl,rfl,hz,hO⟩:=hrel;obtain ⟨b0,b1,b2,b3,b4,b5,b6,b7,b8,b9,b10⟩:=(uh hO).box.eleven;by_cases hlt:i<32
  ·have hlt':(i:Int)<32:=by omega
   have HL:=hide hlt;have ce:=hide (uh he wr (uh hO).lists i hlt);obtain ⟨r,hr⟩:∃r,Sn.entC c E i=r:=⟨_,rfl⟩;rw [hr] at ce;have HR:=hide hr;clear hlt hi hr;go_wp2_with fail;refine (uh ce).mono ?_;rintro e w2 ⟨rfl,hg⟩;have hO2:=hide ((uh hO).on hg);clear hg hO ce b0 b1 b2 b3 b4 b5 b6 b7 b8 b9 b10;by_cases hr0:r=0
   ·subst hr0;have HZ:Hid (∀j,j<i+1→Sn.entC c E j=0):=fun j hj=>by
     by_cases e:j=i
     ·rw [e];exact uh HR
     ·exact uh hz j (by omega)
    go_wp2;go_roundw;case rel=>exact ⟨i+1,by have:=uh HL;omega,rfl,by go_num,HZ,hO2⟩
    case measure=>simp [intOf];have:=uh HL;omega
   ·have hr':(r != 0)=true:=by simp [hr0]
    have hre:Sn.rowC c E (i+1)=r:=by
     show (if Sn.rowC c E i=0 then Sn.entC c E i else Sn.rowC c E i)=r;rw [if_pos (Sn.rowC_zero (uh hz)),uh HR]
    have h32:=Sn.rowC_stays hre hr0 32 (by have:=uh HL;omega);have hfin:Hid (Sn.Told w s g c E I (.returned (.int .i64 r)) w2):=⟨r,rfl,((uh hT2) r).2 (by unfold Sn.ChkRows;rw [if_neg (by rw [h32];exact hr0),h32]),(uh hO2).grown⟩;clear hr0 hre h32;go_wp2;go_ret;exact uh hfin
  ·have hge:¬(i:Int)<32:=by omega
   have h32:Sn.rowC c E 32=0:=Sn.rowC_zero fun j hj=>uh hz j (by omega);have hT3:Hid (∀v,Sn.Chk s g c E I v↔(v=0∧Gd.Ok c 40 I)∨(v=9∧¬Gd.Ok c 40 I)):=fun v=>by rw [uh hT2 v];unfold Sn.ChkRows;rw [if_pos h32]
   clear hlt hi h32;go_wp2_with fail;refine (uh hd _ (uh hO).lists).mono ?_;rintro e w3 ⟨b,rfl,hb,hg⟩;have hgf:=hide (gtr (uh hO).grown hg);have HB:=hide hb;clear hb hg hO b0 b1 b2 b3 b4 b5 b6 b7 b8 b9 b10 hd he;cases b with
   | true =>
    have hfin:Hid (Sn.Told w s g c E I (.returned (.int .i64 0)) w3):=⟨0,rfl,((uh hT3) 0).2 (.inl ⟨rfl,(uh HB).1 rfl⟩),uh hgf⟩;go_wp2;go_ret;exact uh hfin
   | false =>
    have hfin:Hid (Sn.Told w s g c E I (.returned (.int .i64 9)) w3):=⟨9,rfl,((uh hT3) 9).2 (.inr ⟨rfl,fun h=>absurd ((uh HB).2 h) (by simp)⟩),uh hgf⟩;go_wp2;go_ret;exact uh hfin


open Go.RowKit

theorem Sn.wanted {c a b:Prop} [Decidable c] (hc:c) (h:a):if c then a else b:=by
 rw [if_pos hc];exact h

set_option maxRecDepth 16000 in
set_option maxHeartbeats 12800000 in
theorem refEncode_any (s g c:Nat→Int) (E I:Nat→Nat→Int) (gC gE gI cC cE cI:Nat) (w:World) (hL:Gd.Lists w gC gE gI c E I) (hck:∀x,Gd.Lists x gC gE gI c E I→Calls Tryz.prog 26 #[.agg (Gd.world s gC gE gI cC cE cI g)] x (Sn.Told x s g c E I)) :
  Calls Tryz.prog 10 #[.agg (Gd.world s gC gE gI cC cE cI g)] w (Sn.Encodes w s g c E I):=by
 obtain ⟨wz,hwz⟩:∃wz,wz=w.alloc (.cells (Gd.world s gC gE gI cC cE cI g) 30):=⟨_,rfl⟩;have hg0:w.grownBy wz none:=by rw [hwz];exact World.grownBy_alloc _ _ _
 have hO:Hid (Sn.Shown w wz w.heap.size gC gE gI cC cE cI s g c E I):=by
  refine ⟨?_,hL.on hg0,hg0⟩;rw [hwz];exact (Arr.world (heap_alloc_new w _)).lie
 obtain ⟨i0,hi,hz0,hz1,hz2⟩:=info_parts info_byte;have lE:=hide (And.intro hL.cells.lt (And.intro hL.ents.lt hL.items.lt));have cc:=hide hck;have sz:Hid (wz.heap.size=w.heap.size+1):=by
  show wz.heap.size=_;rw [hwz];simp
 clear hL hg0 hck;unfold Gd.world at hwz cc ⊢;go_enter Tryz.func10,Tryz.ntmps10;go_upto_region 1 with fail;rw [←hwz];clear hwz;obtain ⟨B,hBe⟩:∃B,w.heap.size=B:=⟨_,rfl⟩;have HBe:=hide hBe;rw [hBe] at hO ⊢;clear hBe;obtain ⟨b0,b1,b2,b3,b4,b5,b6,b7,b8,b9,b10⟩:=(uh hO).box.eleven;go_wp2_with fail;refine (uh cc _ (uh hO).lists).mono ?_;rintro e w0 ⟨r,rfl,hr,hg⟩;have hO1:=hide ((uh hO).on hg);have HR:=hide hr;have HS:Hid (w.heap.size+1≤w0.heap.size):=(show w.heap.size+1≤w0.heap.size by have:=hg.size;have:=uh sz;omega);clear hg hO cc b0 b1 b2 b3 b4 b5 b6 b7 b8 b9 b10 hr sz;by_cases h0:r=0;case neg =>
  have h0':(r != 0)=true:=by simp [h0]
  have hfin:Hid (Sn.Encodes w s g c E I (.returned (.tuple #[.slice none 0 0,.int .i64 r])) w0):=⟨_,r,rfl,uh HR,fun _=>rfl,fun h=>absurd h h0,(uh hO1).grown⟩;clear h0;go_wp2;go_ret2;exact uh hfin
 have h0':(r != 0)=false:=by simp [h0]
 have HC:Hid (Sn.Chk s g c E I 0):=by
  have e:=uh HR;rw [h0] at e;exact e
 clear h0 HR;obtain ⟨base,hbase⟩:∃base,w0.heap.size=base:=⟨_,rfl⟩;have HB0:Hid (base≤w0.heap.size):=(show base≤w0.heap.size by omega);have HB:Hid (w.heap.size+1≤base):=(show w.heap.size+1≤base by have:=uh HS;omega);have hlists:Hid (∀x,Below base w0 x→Lie x B 30 11 (Gd.box s gC gE gI cC cE cI g)∧Gd.Lists x gC gE gI c E I):=fun x hx=>by
  have:=uh HB;have:=uh HBe;obtain ⟨l1,l2,l3⟩:=uh lE;exact ⟨(uh hO1).box.below hx (by omega),(uh hO1).lists.below hx (by omega) (by omega) (by omega)⟩
 have cN:=hide (fun (n:Nat) (x:Int) (v:Value) (l:List Int) (y:World) (hn:n≤8) (h:Sn.Bytes y base v l) (hb:base≤y.heap.size) (hl:l.length≤1000)=>refNum_any n base x v l y hn h hb hl);have hW1:Hid (Sn.Wr w0 w0.drew base (.slice none 0 0) []):=⟨World.ownsRow_nil _ _ _ _,below_drewN (Below.refl _ _) 1⟩;clear HS hbase;have hG0:=hide (uh hO1).grown;go_upto_region 4 with fail;have hk4:Hid (∀x,Below base w0 x→x.cell? ⟨B,0,none⟩=some (.int .i64 (s 0))∧x.cell? ⟨B,1,none⟩=some (.int .i64 (s 1))):=fun x hx=>⟨(uh hlists x hx).1.eleven.1,(uh hlists x hx).1.eleven.2.1⟩
 go_cut [5] from 15 to 23 (fun v3 wx=>Hid (Sn.Wr w0 wx base v3 (Sn.num 8 (s 0 % 18446744073709551616) ++ Sn.num 4 (s 1 % 18446744073709551616))))
 case first =>
  refine wp_region_till (h:=8) (S:=fun x=>x.cell? ⟨B,0,none⟩=some (.int .i64 (s 0))∧x.cell? ⟨B,1,none⟩=some (.int .i64 (s 1))) (by kernel_rfl) ?_;have hS0:=uh hk4 _ (uh hW1).bel;refine wtj 0 (v:=?_) [8] rfl (by kernel_rfl) (fun _ _ _ h=>h) hS0 ⟨by rfl,?_⟩ ?_;rotate_left
  ·intro x hSx;try dsimp only at hSx
   go_simp;try with_reducible rfl
  simp only [Act.put];refine wtj 1 (v:=?_) [8] rfl (by kernel_rfl) (fun _ _ _ h=>h) hS0 ⟨by rfl,?_⟩ ?_;rotate_left
  ·intro x hSx;try dsimp only at hSx
   go_simp;try with_reducible rfl
  simp only [Act.put];refine wtj 2 (v:=?_) [8] rfl (by kernel_rfl) (fun _ _ _ h=>h) hS0 ⟨by rfl,?_⟩ ?_;rotate_left
  ·intro x hSx;try dsimp only at hSx
   go_simp;try with_reducible rfl
  simp only [Act.put];refine wtj 4 (v:=?_) [8] rfl (by kernel_rfl) (fun _ _ _ h=>h) hS0 ⟨by rfl,?_⟩ ?_;rotate_left
  ·intro x hSx;try dsimp only at hSx
   go_simp;try with_reducible rfl
  simp only [Act.put];refine wtj 5 (v:=?_) [8] rfl (by kernel_rfl) (fun _ _ _ h=>h) hS0 ⟨by rfl,?_⟩ ?_;rotate_left
  ·intro x hSx;try dsimp only at hSx
   go_simp;try with_reducible rfl
  simp only [Act.put];refine wtj 6 (v:=?_) [8] rfl (by kernel_rfl) (fun _ _ _ h=>h) hS0 ⟨by rfl,?_⟩ ?_;rotate_left
  ·intro x hSx;try dsimp only at hSx
   go_simp;try with_reducible rfl
  simp only [Act.put];refine wto (j:=3) (by kernel_rfl) rfl (fun K hK=>?_);go_simp;refine (uh cN 8 _ _ [] _ (by omega) (uh hW1).own ((uh hW1).top (uh HB0)) (by simp)).mono ?_;rintro e w2 ⟨v2,rfl,hown,hbel⟩;have hW2:=hide ((uh hW1).adds hown hbel);rw [List.nil_append,Sn.wrap64] at hW2;have hS2:=uh hk4 _ (uh hW2).bel;clear hown hbel hW1;try go_simp
  refine hK.out _ _ (fun _=>hS2) ?_;clear hK K;refine wto (j:=7) (by kernel_rfl) rfl (fun K hK=>?_);go_simp;refine (uh cN 4 _ _ _ _ (by omega) (uh hW2).own ((uh hW2).top (uh HB0)) (by rw [Sn.num_len];omega)).mono ?_;rintro e w3 ⟨v3,rfl,hown,hbel⟩;have hW3:=hide ((uh hW2).adds hown hbel);rw [Sn.wrap64] at hW3;have hS3:=uh hk4 _ (uh hW3).bel;clear hown hbel hW2;try go_simp
  refine hK.out _ _ (fun _=>hS3) ?_;clear hK K;refine wto (j:=8) (by kernel_rfl) rfl (fun K hK=>?_);go_simp;refine hK.out _ _ (fun hx=>absurd (hx.symm.trans (by kernel_rfl)) Bool.false_ne_true) ?_;clear hK K;refine wpTill_done (by kernel_rfl) ?_ _;go_wp2_with fail;go_meet;exact hW3
 case rest =>
 have hW3:Hid (Sn.Wr w0 wc base u5 (Sn.num 8 (s 0 % 18446744073709551616) ++ Sn.num 4 (s 1 % 18446744073709551616))):=hcut;clear hcut hW1 hk4;obtain ⟨b0,b1,b2,b3,b4,b5,b6,b7,b8,b9,b10⟩:=(uh hlists wc (uh hW3).bel).1.eleven;have t2:IntKind.u8.wrap (s 2)=s 2 % 256:=Sn.wrap8 _;have t3:IntKind.u8.wrap (s 3)=s 3 % 256:=Sn.wrap8 _;go_upto_region 5 with fail;go_wp2_with (at_builtin;refine wpList_append_own _ rfl _ _ 24 rfl base 5 i0 (.int .u8 0) 1 1 Tryz.underlying24 hi hz0 hz1 hz2 rfl (by decide) _ _ _ rfl ((uh hW3).own.alloc _) ⟨wc.heap.size,0,none⟩ 2 2 [.int .u8 (s 2 % 256),.int .u8 (s 3 % 256)] rfl rfl (Sn.news wc #[.int .u8 (s 2 % 256),.int .u8 (s 3 % 256)] _ _ rfl) ?_ ?_ ?_ ?_ ?_)
 ·intro u hu;simp only [List.mem_cons,List.not_mem_nil,or_false] at hu;rcases hu with rfl|rfl <;> rfl
 ·simp [Sn.num_len];unfold maxLen;omega
 ·simp [Sn.num_len]
 ·have:=(uh hW3).top (uh HB0);simp;omega
 intro v4 w4 hown hgrow _;have hW4:Hid (Sn.Wr w0 w4 base v4 (Sn.head s)):=(uh hW3).more (m:=2) (ns:=[s 2 % 256,s 3 % 256]) (uh HB0) (World.grownBy_alloc _ _ _) (by simpa using hown) rfl hgrow;clear hown hgrow hW3 b0 b1 b2 b3 b4 b5 b6 b7 b8 b9 b10 t2 t3;go_wp2_with fail
 go_loopw [5,6] (fun v5 v6 wr=>∃k:Nat,k≤4∧v6=.int .i64 (k:Int)∧Hid (Sn.Wr w0 wr base v5 (Sn.head s ++ Sn.golds k g))) (fun _ v6 _=>10 - (intOf v6).toNat)
 case atStart=>exact ⟨0,by omega,rfl,by simpa [Sn.golds] using hW4⟩
 case round =>
  clear hW4;obtain ⟨k,hk,rfl,hX⟩:=hrel;have hlen:Hid ((Sn.head s ++ Sn.golds k g).length=14+k*2):=by show (Sn.head s ++ Sn.golds k g).length=_;rw [List.length_append,Sn.head_len,Sn.golds_len]
  by_cases hlt:k<4
  ·have hlt':(k:Int)<4:=by omega
   have HL:=hide hlt;have bk:wr.cell? ⟨B,7+k,none⟩=some (.int .i64 (g k)):=by
    rw [(uh hlists wr (uh hX).bel).1.cell (c:=7+k) (by omega),Gd.box_gold _ _ _ _ _ _ _ _ k hlt]
   clear hlt hk;go_wp2_with fail;refine (uh cN 2 _ _ _ _ (by omega) (uh hX).own ((uh hX).top (uh HB0)) (by have:=uh hlen;have:=uh HL;omega)).mono ?_;rintro e w5 ⟨v5,rfl,hown,hbel⟩;have hX2:=hide ((uh hX).adds hown hbel);rw [Sn.wrap64,List.append_assoc,←Sn.golds_more] at hX2;clear hown hbel hX bk hlen;go_wp2;go_roundw;case rel=>exact ⟨k+1,by have:=uh HL;omega,by go_num,hX2⟩
   case measure=>simp [intOf];have:=uh HL;omega
  ·obtain rfl:k=4:=by omega
   have hge:¬((4:Nat):Int)<4:=by omega
   clear hlt hk;have b4:=(uh hlists wr (uh hX).bel).1.eleven.2.2.2.2.1;go_upto_region 10 with fail;go_wp2_with (at_builtin;refine wpList_append_own _ rfl _ _ 24 rfl base 5 i0 (.int .u8 0) 1 1 Tryz.underlying24 hi hz0 hz1 hz2 rfl (by decide) _ _ _ rfl (uh hX).own ⟨gC,0,none⟩ 384 cC (((List.range 384).map c).map (Value.int .u8)) rfl (by simp) (Sn.cells_src (uh hlists wr (uh hX).bel).2.cells) ?_ ?_ ?_ ?_ ?_)
   ·intro u hu;obtain ⟨x,_,rfl⟩:=List.mem_map.1 hu;rfl
   ·have:=Sn.head_len s;have:=Sn.golds_len g 4;unfold maxLen;omega
   ·have:=Sn.head_len s;have:=Sn.golds_len g 4;omega
   ·exact (uh hX).top (uh HB0)
   intro v6 w6 hown hgrow _;have hW6:Hid (Sn.Wr w0 w6 base v6 (Sn.head s ++ Sn.golds 4 g ++ (List.range 384).map c)):=(uh hX).more (m:=384) (uh HB0) (World.grownBy.refl _ _) hown (by simp) hgrow;clear hown hgrow hX b4 hlen hge;go_upto_region 11 with fail;go_wp2_with fail
   go_loopw [5,7,8] (fun v5 v7 v8 wr=>∃k:Nat,k≤32∧v7=.int .i64 (k:Int)∧Hid (Sn.Wr w0 wr base v5 (Sn.head s ++ Sn.golds 4 g ++ (List.range 384).map c ++ Sn.rows k 11 E))) (fun _ v7 _ _=>40 - (intOf v7).toNat)
   case atStart=>exact ⟨0,by omega,rfl,by simpa [Sn.rows] using hW6⟩
   case round =>
    clear hW6;obtain ⟨k,hk,rfl,hX⟩:=hrel;have hlen:Hid ((Sn.head s ++ Sn.golds 4 g ++ (List.range 384).map c ++ Sn.rows k 11 E).length=406+k*11):=by show (Sn.head s ++ Sn.golds 4 g ++ (List.range 384).map c ++ Sn.rows k 11 E).length=_;rw [List.length_append,Sn.len22,Sn.rows_len]
    have b5:=(uh hlists wr (uh hX).bel).1.eleven.2.2.2.2.2.1;by_cases hlt:k<32
    ·have hlt':(k:Int)<32:=by omega
     have HL:=hide hlt;obtain ⟨r0,r1,r2,r3,r4,r5,r6,r7,r8,r9,r10⟩:=(uh hlists wr (uh hX).bel).2.own.ents.row hlt;clear hlt hk;obtain ⟨l,hl⟩:∃l,Sn.head s ++ Sn.golds 4 g ++ (List.range 384).map c ++ Sn.rows k 11 E=l:=⟨_,rfl⟩;rw [hl] at hX hlen;have hl':=hide hl;clear hl;go_upto_region 15 with fail;obtain ⟨wd,hwd⟩:∃wd,wd=wr.alloc (.cells (En.cells (E k)) 70):=⟨_,rfl⟩;have hgd:wr.grownBy wd none:=by rw [hwd];exact World.grownBy_alloc _ _ _
     have hD:Hid (Lie wd wr.heap.size 70 11 (Ints (E k))):=by show Lie wd _ _ _ _;rw [hwd];exact Sn.born wr (E k) 70
     have hXd:=hide ((uh hX).on (uh HB0) hgd);unfold En.cells at hwd;rw [←hwd];clear hwd hgd hX b5 r0 r1 r2 r3 r4 r5 r6 r7 r8 r9 r10;obtain ⟨D,hDe⟩:∃D,wr.heap.size=D:=⟨_,rfl⟩;rw [hDe] at hD ⊢;clear hDe wr;obtain ⟨d0,d1,d2,d3,d4,d5,d6,d7,d8,d9,d10⟩:=Sn.row (uh hD);have tw:∀j,IntKind.u8.wrap (E k j)=E k j % 256:=fun j=>Sn.wrap8 _;go_wp2_with (at_builtin;refine wpList_append_own _ rfl _ _ 24 rfl base 5 i0 (.int .u8 0) 1 1 Tryz.underlying24 hi hz0 hz1 hz2 rfl (by decide) _ _ _ rfl ((uh hXd).own.alloc _) ⟨wd.heap.size,0,none⟩ 11 11 (#[.int .u8 (E k 0 % 256),.int .u8 (E k 1 % 256),.int .u8 (E k 2 % 256),.int .u8 (E k 3 % 256),.int .u8 (E k 4 % 256),.int .u8 (E k 5 % 256),.int .u8 (E k 6 % 256),.int .u8 (E k 7 % 256),.int .u8 (E k 8 % 256),.int .u8 (E k 9 % 256),.int .u8 (E k 10 % 256)]:Array Value).toList rfl rfl (Sn.news wd _ _ _ rfl) ?_ ?_ ?_ ?_ ?_)
     ·exact ⟨rfl,rfl,rfl,rfl,rfl,rfl,rfl,rfl,rfl,rfl,rfl⟩
     ·have:=uh hlen;have:=uh HL;unfold maxLen;omega
     ·have:=uh hlen;have:=uh HL;omega
     ·have:=(uh hXd).top (uh HB0);simp;omega
     intro v8 w8 hown hgrow _;have hX2:Hid (Sn.Wr w0 w8 base v8 (l ++ (List.range 11).map fun j=>E k j % 256)):=(uh hXd).more (m:=11) (uh HB0) (World.grownBy_alloc _ _ _) hown (by simp) hgrow;rw [←uh hl',List.append_assoc,←Sn.rows_more] at hX2;clear hown hgrow hXd hD d0 d1 d2 d3 d4 d5 d6 d7 d8 d9 d10 tw hlen;go_wp2;go_roundw;case rel=>exact ⟨k+1,by have:=uh HL;omega,by go_num,hX2⟩
     case measure=>simp [intOf];have:=uh HL;omega
    ·obtain rfl:k=32:=by omega
     have hge:¬((32:Nat):Int)<32:=by omega
     clear hlt hk;go_upto_region 16 with fail;go_wp2_with fail
     go_loopw [5,9] (fun v5 v9 wr=>∃k:Nat,k≤40∧v9=.int .i64 (k:Int)∧Hid (Sn.Wr w0 wr base v5 (Sn.head s ++ Sn.golds 4 g ++ (List.range 384).map c ++ Sn.rows 32 11 E ++ Sn.rows k 4 I))) (fun _ v9 _=>50 - (intOf v9).toNat)
     case atStart=>exact ⟨0,by omega,rfl,by simpa [Sn.rows] using hX⟩
     case round =>
      clear hX b5 hge hlen;obtain ⟨k,hk,rfl,hX⟩:=hrel;have hlen:Hid ((Sn.head s ++ Sn.golds 4 g ++ (List.range 384).map c ++ Sn.rows 32 11 E ++ Sn.rows k 4 I).length=758+k*4):=by show (Sn.head s ++ Sn.golds 4 g ++ (List.range 384).map c ++ Sn.rows 32 11 E ++ Sn.rows k 4 I).length=_;rw [List.length_append,Sn.len406,Sn.rows_len]
      have b6:=(uh hlists wr (uh hX).bel).1.eleven.2.2.2.2.2.2.1;by_cases hlt:k<40
      ·have hlt':(k:Int)<40:=by omega
       have HL:=hide hlt;obtain ⟨l,hl⟩:∃l,Sn.head s ++ Sn.golds 4 g ++ (List.range 384).map c ++ Sn.rows 32 11 E ++ Sn.rows k 4 I=l:=⟨_,rfl⟩;rw [hl] at hX hlen;have hl':=hide hl;clear hl;have hks:Hid (∀x,Below base w0 x→x.cell? ⟨B,6,none⟩=some (.slice (some ⟨gI,0,none⟩) 40 cI)∧x.cell? ⟨gI,k*4,none⟩=some (.int .i64 (I k 0))∧x.cell? ⟨gI,k*4+1,none⟩=some (.int .i64 (I k 1))∧x.cell? ⟨gI,k*4+2,none⟩=some (.int .i64 (I k 2))∧x.cell? ⟨gI,k*4+3,none⟩=some (.int .i64 (I k 3))):=fun x hx=>⟨(uh hlists x hx).1.eleven.2.2.2.2.2.2.1,(uh hlists x hx).2.its.row (uh HL)⟩;have tw:∀j,IntKind.u8.wrap (I k j)=I k j % 256:=fun j=>Sn.wrap8 _;clear hlt hk;have hXd':Hid (Sn.Wr w0 wr.drew base u5 l):=(uh hX).on (uh HB0) (gd1 (World.grownBy.refl _ none));go_upto_region 19 with fail;clear b6;have hsrc0:∀j u,(#[.int .u8 (I k 0 % 256),.int .u8 (I k 1 % 256),.int .u8 (I k 2 % 256),.int .u8 (I k 3 % 256)]:Array Value).toList[j]?=some u→(wr.drew.alloc (.cells #[.int .u8 (I k 0 % 256),.int .u8 (I k 1 % 256),.int .u8 (I k 2 % 256),.int .u8 (I k 3 % 256)] 5)).cell? ((⟨wr.heap.size,0,none⟩:Addr).add j)=some u:=Sn.news wr.drew _ _ _ (by simp);have hsrc:=hide hsrc0;clear hsrc0;have hSb:=uh hks (wr.drew.alloc (.cells #[.int .u8 (I k 0 % 256),.int .u8 (I k 1 % 256),.int .u8 (I k 2 % 256),.int .u8 (I k 3 % 256)] 5)) ((uh hXd').on (uh HB0) (World.grownBy_alloc _ _ _)).bel;have hS0:=uh hks wr.drew (uh hXd').bel;clear hX;refine wp_region_till (h:=31) (S:=fun x=>x.cell? ⟨B,6,none⟩=some (.slice (some ⟨gI,0,none⟩) 40 cI)∧x.cell? ⟨gI,k*4,none⟩=some (.int .i64 (I k 0))∧x.cell? ⟨gI,k*4+1,none⟩=some (.int .i64 (I k 1))∧x.cell? ⟨gI,k*4+2,none⟩=some (.int .i64 (I k 2))∧x.cell? ⟨gI,k*4+3,none⟩=some (.int .i64 (I k 3))) (by kernel_rfl) ?_;refine wtj 0 (v:=?_) [31] rfl (by kernel_rfl) (fun _ _ _ h=>h) hS0 ⟨by rfl,?_⟩ ?_;rotate_left
       ·intro x hSx;try dsimp only at hSx
        go_simp;try with_reducible rfl
       simp only [Act.put];refine wtj 1 (v:=?_) [31] rfl (by kernel_rfl) (fun _ _ _ h=>h) hS0 ⟨by rfl,?_⟩ ?_;rotate_left
       ·intro x hSx;try dsimp only at hSx
        go_simp;try with_reducible rfl
       simp only [Act.put];refine wtj 2 (v:=?_) [31] rfl (by kernel_rfl) (fun _ _ _ h=>h) hS0 ⟨by rfl,?_⟩ ?_;rotate_left
       ·intro x hSx;try dsimp only at hSx
        go_simp;try with_reducible rfl
       simp only [Act.put];refine wtj 3 (v:=?_) [31] rfl (by kernel_rfl) (fun _ _ _ h=>h) hS0 ⟨by rfl,?_⟩ ?_;rotate_left
       ·intro x hSx;try dsimp only at hSx
        go_simp;try with_reducible rfl
       simp only [Act.put];refine wtj 4 (v:=?_) [31] rfl (by kernel_rfl) (fun _ _ _ h=>h) hS0 ⟨by rfl,?_⟩ ?_;rotate_left
       ·intro x hSx;try dsimp only at hSx
        go_simp;try with_reducible rfl
       simp only [Act.put];refine wtj 5 (v:=?_) [31] rfl (by kernel_rfl) (fun _ _ _ h=>h) hS0 ⟨by rfl,?_⟩ ?_;rotate_left
       ·intro x hSx;try dsimp only at hSx
        go_simp;try with_reducible rfl
       simp only [Act.put];refine wtj 6 (v:=?_) [31] rfl (by kernel_rfl) (fun _ _ _ h=>h) hS0 ⟨by rfl,?_⟩ ?_;rotate_left
       ·intro x hSx;try dsimp only at hSx
        go_simp;try with_reducible rfl
       simp only [Act.put];refine wtj 7 (v:=?_) [31] rfl (by kernel_rfl) (fun _ _ _ h=>h) hS0 ⟨by rfl,?_⟩ ?_;rotate_left
       ·intro x hSx;try dsimp only at hSx
        go_simp;try with_reducible rfl
       simp only [Act.put];refine wtj 8 (v:=?_) [31] rfl (by kernel_rfl) (fun _ _ _ h=>h) hS0 ⟨by rfl,?_⟩ ?_;rotate_left
       ·intro x hSx;try dsimp only at hSx
        go_simp;try with_reducible rfl
       simp only [Act.put];refine wtj 9 (v:=?_) [31] rfl (by kernel_rfl) (fun _ _ _ h=>h) hS0 ⟨by rfl,?_⟩ ?_;rotate_left
       ·intro x hSx;try dsimp only at hSx
        go_simp;try with_reducible rfl
       simp only [Act.put];refine wtj 10 (v:=?_) [31] rfl (by kernel_rfl) (fun _ _ _ h=>h) hS0 ⟨by rfl,?_⟩ ?_;rotate_left
       ·intro x hSx;try dsimp only at hSx
        go_simp;try with_reducible rfl
       simp only [Act.put];refine wtj 11 (v:=?_) [31] rfl (by kernel_rfl) (fun _ _ _ h=>h) hS0 ⟨by rfl,?_⟩ ?_;rotate_left
       ·intro x hSx;try dsimp only at hSx
        go_simp;try with_reducible rfl
       simp only [Act.put];refine wtj 12 (v:=?_) [31] rfl (by kernel_rfl) (fun _ _ _ h=>h) hS0 ⟨by rfl,?_⟩ ?_;rotate_left
       ·intro x hSx;try dsimp only at hSx
        go_simp;try with_reducible rfl
       simp only [Act.put];refine wtj 13 (v:=?_) [31] rfl (by kernel_rfl) (fun _ _ _ h=>h) hS0 ⟨by rfl,?_⟩ ?_;rotate_left
       ·intro x hSx;try dsimp only at hSx
        go_simp;try with_reducible rfl
       simp only [Act.put];refine wtj 14 (v:=?_) [31] rfl (by kernel_rfl) (fun _ _ _ h=>h) hS0 ⟨by rfl,?_⟩ ?_;rotate_left
       ·intro x hSx;try dsimp only at hSx
        go_simp;try with_reducible rfl
       simp only [Act.put];refine wtj 15 (v:=?_) [31] rfl (by kernel_rfl) (fun _ _ _ h=>h) hS0 ⟨by rfl,?_⟩ ?_;rotate_left
       ·intro x hSx;try dsimp only at hSx
        go_simp;try with_reducible rfl
       simp only [Act.put];refine wtj 16 (v:=?_) [31] rfl (by kernel_rfl) (fun _ _ _ h=>h) hS0 ⟨by rfl,?_⟩ ?_;rotate_left
       ·intro x hSx;try dsimp only at hSx
        go_simp;try with_reducible rfl
       simp only [Act.put];refine wtj 17 (v:=?_) [31] rfl (by kernel_rfl) (fun _ _ _ h=>h) hS0 ⟨by rfl,?_⟩ ?_;rotate_left
       ·intro x hSx;try dsimp only at hSx
        go_simp;try with_reducible rfl
       simp only [Act.put];refine wtj 18 (v:=?_) [31] rfl (by kernel_rfl) (fun _ _ _ h=>h) hS0 ⟨by rfl,?_⟩ ?_;rotate_left
       ·intro x hSx;try dsimp only at hSx
        go_simp;try with_reducible rfl
       simp only [Act.put];refine wtj 19 (v:=?_) [31] rfl (by kernel_rfl) (fun _ _ _ h=>h) hS0 ⟨by rfl,?_⟩ ?_;rotate_left
       ·intro x hSx;try dsimp only at hSx
        go_simp;try with_reducible rfl
       simp only [Act.put];refine wtj 20 (v:=?_) [31] rfl (by kernel_rfl) (fun _ _ _ h=>h) hS0 ⟨by rfl,?_⟩ ?_;rotate_left
       ·intro x hSx;try dsimp only at hSx
        go_simp;try with_reducible rfl
       simp only [Act.put];refine wtj 21 (v:=?_) [31] rfl (by kernel_rfl) (fun _ _ _ h=>h) hS0 ⟨by rfl,?_⟩ ?_;rotate_left
       ·intro x hSx;try dsimp only at hSx
        go_simp;try with_reducible rfl
       simp only [Act.put];refine wtj 22 (v:=?_) [31] rfl (by kernel_rfl) (fun _ _ _ h=>h) hS0 ⟨by rfl,?_⟩ ?_;rotate_left
       ·intro x hSx;try dsimp only at hSx
        go_simp;try with_reducible rfl
       simp only [Act.put];refine wtj 23 (v:=?_) [31] rfl (by kernel_rfl) (fun _ _ _ h=>h) hS0 ⟨by rfl,?_⟩ ?_;rotate_left
       ·intro x hSx;try dsimp only at hSx
        go_simp;try with_reducible rfl
       simp only [Act.put];refine wtj 24 (v:=?_) [31] rfl (by kernel_rfl) (fun _ _ _ h=>h) hS0 ⟨by rfl,?_⟩ ?_;rotate_left
       ·intro x hSx;try dsimp only at hSx
        go_simp;try with_reducible rfl
       simp only [Act.put];refine wtj 25 (v:=?_) [31] rfl (by kernel_rfl) (fun _ _ _ h=>h) hS0 ⟨by rfl,?_⟩ ?_;rotate_left
       ·intro x hSx;try dsimp only at hSx
        go_simp;try with_reducible rfl
       simp only [Act.put];refine wtj 26 (v:=?_) [31] rfl (by kernel_rfl) (fun _ _ _ h=>h) hS0 ⟨by rfl,?_⟩ ?_;rotate_left
       ·intro x hSx;try dsimp only at hSx
        go_simp;try with_reducible rfl
       simp only [Act.put];refine wtj 27 (v:=?_) [31] rfl (by kernel_rfl) (fun _ _ _ h=>h) hS0 ⟨by rfl,?_⟩ ?_;rotate_left
       ·intro x hSx;try dsimp only at hSx
        go_simp;try with_reducible rfl
       simp only [Act.put];refine wtj 28 (v:=?_) [31] rfl (by kernel_rfl) (fun _ _ _ h=>h) hS0 ⟨by rfl,?_⟩ ?_;rotate_left
       ·intro x hSx;try dsimp only at hSx
        go_simp;try with_reducible rfl
       simp only [Act.put];refine wto (j:=29) (by kernel_rfl) rfl (fun K hK=>?_);go_simp;try go_simp
       refine hK.out _ _ (fun _=>hSb) ?_;clear hK K;refine wto (j:=30) (by kernel_rfl) rfl (fun K hK=>?_);refine Sn.wanted (by rfl) ?_;refine wp_append_own _ _ _ 24 rfl base 5 i0 (.int .u8 0) 1 1 Tryz.underlying24 hi hz0 hz1 hz2 rfl (by decide) u5 l.length (l.map (Value.int .u8)) rfl ((uh hXd').own.alloc _) ⟨wr.heap.size,0,none⟩ 4 4 (#[.int .u8 (I k 0 % 256),.int .u8 (I k 1 % 256),.int .u8 (I k 2 % 256),.int .u8 (I k 3 % 256)]:Array Value).toList rfl rfl (uh hsrc) (by simp [Value.oneCell']) (by have:=uh hlen;have:=uh HL;unfold maxLen;omega) (by have:=uh hlen;have:=uh HL;omega) (by have:=(uh hXd').top (uh HB0);simp at this ⊢;omega) ?_;intro v8 w8 hown hgrow _;have hX2:Hid (Sn.Wr w0 w8 base v8 (l ++ (List.range 4).map fun j=>I k j % 256)):=(uh hXd').more (m:=4) (uh HB0) (World.grownBy_alloc _ _ _) hown (by simp) hgrow;rw [←uh hl',List.append_assoc,←Sn.rows_more] at hX2;have hSc:=uh hks w8 (uh hX2).bel;clear hown hgrow hsrc;refine hK.out _ _ (fun _=>hSc) ?_;clear hK K;refine wto (j:=31) (by kernel_rfl) rfl (fun K hK=>?_);go_simp;refine hK.out _ _ (fun hx=>absurd (hx.symm.trans (by kernel_rfl)) Bool.false_ne_true) ?_;clear hK K;refine wpTill_done (by kernel_rfl) ?_ _;go_wp2;go_roundw;case rel=>exact ⟨k+1,by have:=uh HL;omega,by go_num,hX2⟩
       case measure=>simp [intOf];have:=uh HL;omega
      ·obtain rfl:k=40:=by omega
       have hge:¬((40:Nat):Int)<40:=by omega
       have hfin:Hid (∀v,Sn.Wr w0 wr base v (Sn.bytes s g c E I)→Sn.Encodes w s g c E I (.returned (.tuple #[v,.int .i64 0])) wr):=fun v hv=>by
        have e1:=uh HB;exact ⟨v,0,rfl,uh HC,fun h=>absurd rfl h,fun _=>hv.own.mono (by omega),below_grown (Sn.below_trans (none_below (uh hG0)) (hv.bel.mono (by omega)))⟩
       have hf:=hide (uh hfin _ (uh hX));clear hlt hk hX hfin;go_wp2;go_ret2;exact uh hf

end Go.Proofs.YtldgbkjceildfaaGreat
