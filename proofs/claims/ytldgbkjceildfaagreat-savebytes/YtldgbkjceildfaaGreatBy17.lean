import Derived.Test.YtldgbkjceildfaaGreatBy15
import Derived.Test.YtldgbkjceildfaaGreatBy14
import Derived.Test.YtldgbkjceildfaaGreatBy16
namespace Go.Proofs.YtldgbkjceildfaaGreat
open Go.RowKit

def Gd.fitsB (c:Nat→Int) (k p a b:Int):Bool :=
 decide (1≤k∧k≤4) && (if p=1 then Gr.walkB (Gr.at 384 c a b) else if p=2 then Gd.isSeat a && (decide (0≤b) && (decide (b<4) && decide (k≠4)))
  else if p=3 then Gd.isSeat a && (Gd.serves k 7 && decide (b=k - 2)) else if p=4 then decide (0≤a) && (decide (a<3) && (decide (b=0) && decide (k≠4))) else false)

theorem Gd.serves_7 (k:Int):Gd.serves k 7=(decide (k=2) || decide (k=3)):=by
 unfold Gd.serves;rw [if_neg (by decide),if_pos rfl]

theorem Gd.at_out {c:Nat→Int} {x y:Int} (h:Gr.inB x y=false):Gr.at 384 c x y=0:=by
 unfold Gr.at;rw [if_neg (by rw [h];simp)]

theorem Gd.fits_iff (c r:Nat→Int):Gd.fitsB c (r 0) (r 1) (r 2) (r 3)=true↔Gd.Placed c r:=by
 unfold Gd.fitsB Gd.Placed;rw [Bool.and_eq_true,decide_eq_true_eq];constructor
 ·rintro ⟨⟨h1,h2⟩,h⟩;refine ⟨h1,h2,?_⟩;by_cases p1:r 1=1
  ·rw [if_pos p1] at h;refine .inl ⟨p1,?_,h⟩;cases hin:Gr.inB (r 2) (r 3) with
   | true=>rfl
   | false=>rw [Gd.at_out hin] at h;simp [Gr.walkB] at h
  ·rw [if_neg p1] at h;by_cases p2:r 1=2
   ·rw [if_pos p2] at h;simp only [Gd.isSeat,Bool.and_eq_true,decide_eq_true_eq] at h;exact .inr (.inl ⟨p2,h.1.1,h.1.2,h.2.1,h.2.2.1,h.2.2.2⟩)
   ·rw [if_neg p2] at h;by_cases p3:r 1=3
    ·rw [if_pos p3] at h;simp only [Gd.isSeat,Gd.serves_7,Bool.and_eq_true,Bool.or_eq_true,decide_eq_true_eq] at h;obtain ⟨⟨s0,s1⟩,hs,hb⟩:=h;exact .inr (.inr (.inl ⟨p3,s0,s1,by omega⟩))
    ·rw [if_neg p3] at h;by_cases p4:r 1=4
     ·rw [if_pos p4] at h;simp only [Bool.and_eq_true,decide_eq_true_eq] at h;exact .inr (.inr (.inr ⟨p4,h.1,h.2.1,h.2.2.1,h.2.2.2⟩))
     ·rw [if_neg p4] at h;cases h
 ·rintro ⟨h1,h2,h|h|h|h⟩
  ·exact ⟨⟨h1,h2⟩,by rw [if_pos h.1];exact h.2.2⟩
  ·refine ⟨⟨h1,h2⟩,?_⟩;rw [if_neg (by omega),if_pos h.1];simp only [Gd.isSeat,Bool.and_eq_true,decide_eq_true_eq];exact ⟨⟨h.2.1,h.2.2.1⟩,h.2.2.2.1,h.2.2.2.2.1,h.2.2.2.2.2⟩
  ·refine ⟨⟨h1,h2⟩,?_⟩;rw [if_neg (by omega),if_neg (by omega),if_pos h.1];simp only [Gd.isSeat,Gd.serves_7,Bool.and_eq_true,Bool.or_eq_true,decide_eq_true_eq];exact ⟨⟨h.2.1,h.2.2.1⟩,by omega,by omega⟩
  ·refine ⟨⟨h1,h2⟩,?_⟩;rw [if_neg (by omega),if_neg (by omega),if_neg (by omega),if_pos h.1];simp only [Bool.and_eq_true,decide_eq_true_eq];exact ⟨h.2.1,h.2.2.1,h.2.2.2.1,h.2.2.2.2⟩

theorem ret_says {w w':World} {a b:Bool} (h:a=b) (hg:w.grownBy w' none):Says w (.bool b) (.returned (.bool a)) w':=⟨ret_bool h,hg⟩

set_option maxHeartbeats 3200000 in
theorem fits_any (gC cC:Nat) (c:Nat→Int) (k p a b:Int) (w:World) (hC:Vec w.heap.size w (some ⟨gC,0,none⟩) 384 (Byts c)) (hc:∀i,0≤c i∧c i≤255) :
  Calls Tryz.prog 110 #[.slice (some ⟨gC,0,none⟩) 384 cC,.agg #[.int .i64 k,.int .i64 p,.int .i64 a,.int .i64 b]] w (Says w (.bool (Gd.fitsB c k p a b))):=by
 obtain ⟨r,hr⟩:∃r,Gd.fitsB c k p a b=r:=⟨_,rfl⟩;rw [hr];have hr':=hide hr;have hg:=hide (fun (o1:Obj)=>World.grownBy_alloc w o1 none);have hC':=hide hC;have hc':=hide hc;clear hr hC hc;by_cases hk1:1≤k
 ·by_cases hk4:k≤4
  ·have ek:Hid (decide (1≤k∧k≤4)=true):=decide_eq_true ⟨hk1,hk4⟩;have nk1:¬k<1:=by omega
   have nk4:¬k > 4:=by omega
   by_cases p1:p=1
   ·subst p1;have he:=uh hr';unfold Gd.fitsB at he;rw [uh ek,Bool.true_and,if_pos rfl] at he;have he':=hide he;clear he;have cA:Hid (∀o:Obj,Calls Tryz.prog 117 #[.slice (some ⟨gC,0,none⟩) 384 cC,.int .i64 a,.int .i64 b] (w.alloc o) fun e w'=>e=.returned (.int .i64 (Gr.at 384 c a b))∧w'=w.alloc o):=fun o=>at_any w.heap.size (some ⟨gC,0,none⟩) 384 cC c a b (w.alloc o) ((uh hC').kept (none_below (World.grownBy_alloc _ _ _))) (uh hc');obtain ⟨A,hA⟩:∃A,Gr.at 384 c a b=A:=⟨_,rfl⟩;rw [hA] at cA he';clear hA;go_enter Tryz.func110,Tryz.ntmps110;go_wp2_with fail;refine (uh cA _).mono ?_;rintro e w' ⟨rfl,hw⟩;subst w';go_wp2_with fail;refine (walk_any A _).mono ?_;rintro e w' ⟨rfl,hw⟩;subst w';go_wp2;go_ret;exact ret_says (uh he') (uh hg _)
   ·by_cases p2:p=2
    ·subst p2;have he:=uh hr';unfold Gd.fitsB at he;rw [uh ek,Bool.true_and,if_neg (by decide),if_pos rfl] at he;have cs:=fun wx=>isSeat_any a wx;obtain ⟨S,hS⟩:∃S,Gd.isSeat a=S:=⟨_,rfl⟩;rw [hS] at he cs;have cs':=hide cs;clear cs hS p1;cases S with
     | false =>
      rw [Bool.false_and] at he;have he':=hide he;clear he;go_enter Tryz.func110,Tryz.ntmps110;go_wp2_with fail;refine (uh cs' _).mono ?_;rintro e w' ⟨rfl,hw⟩;subst w';go_wp2;go_ret;exact ret_says (uh he') (uh hg _)
     | true =>
      rw [Bool.true_and] at he;have he':=hide he;clear he;by_cases b0:0≤b
      ·by_cases b4:b<4
       ·by_cases k4:k=4
        ·have hf:=hide (show false=r by rw [←uh he'];simp [k4]);subst k4;go_enter Tryz.func110,Tryz.ntmps110;go_wp2_with fail;refine (uh cs' _).mono ?_;rintro e w' ⟨rfl,hw⟩;subst w';go_wp2;go_ret;exact ret_says (uh hf) (uh hg _)
        ·have hf:=hide (show true=r by rw [←uh he'];simp [k4,b0,b4]);have k4':(k == 4)=false:=by simp [k4]
         go_enter Tryz.func110,Tryz.ntmps110;go_wp2_with fail;refine (uh cs' _).mono ?_;rintro e w' ⟨rfl,hw⟩;subst w';go_wp2;go_ret;exact ret_says (by rw [←uh hf];simp [k4]) (uh hg _)
       ·have hf:=hide (show false=r by rw [←uh he'];simp [b4]);go_enter Tryz.func110,Tryz.ntmps110;go_wp2_with fail;refine (uh cs' _).mono ?_;rintro e w' ⟨rfl,hw⟩;subst w';go_wp2;go_ret;exact ret_says (uh hf) (uh hg _)
      ·have hf:=hide (show false=r by rw [←uh he'];simp [b0]);go_enter Tryz.func110,Tryz.ntmps110;go_wp2_with fail;refine (uh cs' _).mono ?_;rintro e w' ⟨rfl,hw⟩;subst w';go_wp2;go_ret;exact ret_says (uh hf) (uh hg _)
    ·by_cases p3:p=3
     ·subst p3;have he:=uh hr';unfold Gd.fitsB at he;rw [uh ek,Bool.true_and,if_neg (by decide),if_neg (by decide),if_pos rfl] at he;have cs0:=fun wx=>isSeat_any a wx;have cv0:=fun wx=>serves_any k 7 wx;obtain ⟨S,hS⟩:∃S,Gd.isSeat a=S:=⟨_,rfl⟩;obtain ⟨V,hV⟩:∃V,Gd.serves k 7=V:=⟨_,rfl⟩;rw [hS,hV] at he;rw [hS] at cs0;rw [hV] at cv0;have cs0':=hide cs0;have cv0':=hide cv0;have he':=hide he;have hcmp:∀wx:World,(binOp .eql 157 (.agg #[.int .i64 3,.int .i64 a,.int .i64 b]) (.agg #[.int .i64 3,.int .i64 a,.int .i64 (k - 2)])).run Tryz.prog wx=.ok (.bool (decide (b=k - 2))) wx:=fun wx=>by rw [run_eq_place];simp
      obtain ⟨D,hD⟩:∃D,decide (b=k - 2)=D:=⟨_,rfl⟩;rw [hD] at hcmp;have hD':=hide hD;have k0:0≤k:=by omega
      have k100:k≤100:=by omega
      clear he cs0 cv0 hS hV hD p1 p2;go_enter Tryz.func110,Tryz.ntmps110;go_wp2_with fail;obtain ⟨w1,hw1⟩:∃w1,w.alloc (.cells #[.int .i64 k,.int .i64 3,.int .i64 a,.int .i64 b] 72)=w1:=⟨_,rfl⟩;have hnew:=fun j (hj:j<4)=>(Arr.lit (heap_alloc_new w (.cells #[.int .i64 k,.int .i64 3,.int .i64 a,.int .i64 b] 72))).cell (i:=j) hj;have hg1:=hide (show w.grownBy w1 none by rw [←hw1];exact World.grownBy_alloc _ _ _);have hl1:w.heap.size<w1.heap.size:=by rw [←hw1];simp
      rw [hw1] at hnew ⊢;clear hw1;refine wp_region_grown (by kernel_rfl) (by kernel_rfl) ?_;intro St hN W hI hx;have c0:∀σ,(W σ).cell? ⟨w.heap.size,0,none⟩=some (.int .i64 k):=fun σ=>(gce (hI σ) _ 0 hl1 (by simp)).trans (hnew 0 (by omega));have c1:∀σ,(W σ).cell? ⟨w.heap.size,1,none⟩=some (.int .i64 3):=fun σ=>(gce (hI σ) _ 1 hl1 (by simp)).trans (hnew 1 (by omega));have c2:∀σ,(W σ).cell? ⟨w.heap.size,2,none⟩=some (.int .i64 a):=fun σ=>(gce (hI σ) _ 2 hl1 (by simp)).trans (hnew 2 (by omega));have c3:∀σ,(W σ).cell? ⟨w.heap.size,3,none⟩=some (.int .i64 b):=fun σ=>(gce (hI σ) _ 3 hl1 (by simp)).trans (hnew 3 (by omega));have cs:∀σ,Calls Tryz.prog 120 #[.int .i64 a] (W σ) fun e w''=>e=.returned (.bool S)∧∃σ',w''=W σ':=fun σ=>(uh cs0' (W σ)).mono fun e w'' ⟨h1,h2⟩=>⟨h1,σ,h2⟩;have cv:∀σ,Calls Tryz.prog 121 #[.int .i64 k,.int .i64 7] (W σ) fun e w''=>e=.returned (.bool V)∧∃σ',w''=W σ':=fun σ=>(uh cv0' (W σ)).mono fun e w'' ⟨h1,h2⟩=>⟨h1,σ,h2⟩;have cp:∀σ,Calls Tryz.prog 112 #[.agg #[.int .i64 k,.int .i64 3,.int .i64 a,.int .i64 b]] (W σ) fun e w''=>e=.returned (.agg #[.int .i64 3,.int .i64 a,.int .i64 b])∧∃σ',w''=W σ':=fun σ=>calls_class hI hx (goodsPlace_any _ _ _ _ _);have cw:∀σ,Calls Tryz.prog 122 #[.int .i64 a,.int .i64 k] (W σ) fun e w''=>e=.returned (.agg #[.int .i64 3,.int .i64 a,.int .i64 (k - 2)])∧∃σ',w''=W σ':=fun σ=>calls_class hI hx (wornBy_any a k k0 k100 _);have hI2:=hide hI;clear hI hx hnew hl1 k0 k100;cases S with
      | false =>
       repeat (go_big_quiet_step (first | (go_at_call 120;exact cs _) | (go_at_call 121;exact cv _) | (go_at_call 112;exact cp _) | (go_at_call 122;exact cw _)))
       refine wpQuiet_nil ?_;rintro _ ⟨σ,rfl⟩;obtain ⟨wq,hwq⟩:∃wq,W σ=wq:=⟨_,rfl⟩;have hgq:=hide (gtr (uh hg1) (uh hI2 σ));rw [hwq] at hgq ⊢;have hf:=hide (show false=r by rw [←uh he'];simp);clear c0 c1 c2 c3 cs cv cp cw hI2 hwq hcmp;clear σ W hN St;go_wp2;go_ret;exact ret_says (uh hf) (uh hgq)
      | true =>
       cases V with
       | false =>
        repeat (go_big_quiet_step (first | (go_at_call 120;exact cs _) | (go_at_call 121;exact cv _) | (go_at_call 112;exact cp _) | (go_at_call 122;exact cw _)))
        refine wpQuiet_nil ?_;rintro _ ⟨σ,rfl⟩;obtain ⟨wq,hwq⟩:∃wq,W σ=wq:=⟨_,rfl⟩;have hgq:=hide (gtr (uh hg1) (uh hI2 σ));rw [hwq] at hgq ⊢;have hf:=hide (show false=r by rw [←uh he'];simp);clear c0 c1 c2 c3 cs cv cp cw hI2 hwq hcmp;clear σ W hN St;go_wp2;go_ret;exact ret_says (uh hf) (uh hgq)
       | true =>
        repeat (go_big_quiet_step (first | (go_at_call 120;exact cs _) | (go_at_call 121;exact cv _) | (go_at_call 112;exact cp _) | (go_at_call 122;exact cw _)))
        refine wpQuiet_nil ?_;rintro _ ⟨σ,rfl⟩;obtain ⟨wq,hwq⟩:∃wq,W σ=wq:=⟨_,rfl⟩;have hgq:=hide (gtr (uh hg1) (uh hI2 σ));rw [hwq] at hgq ⊢;have hf:=hide (show D=r by rw [←uh he',uh hD'];simp);clear c0 c1 c2 c3 cs cv cp cw hI2 hwq hcmp;clear σ W hN St;go_wp2;go_ret;exact ret_says (uh hf) (uh hgq)
     ·by_cases p4:p=4
      ·subst p4;have he:=uh hr';unfold Gd.fitsB at he;rw [uh ek,Bool.true_and,if_neg (by decide),if_neg (by decide),if_neg (by decide),if_pos rfl] at he;have he':=hide he;clear he p1 p2 p3;by_cases a0:0≤a
       ·by_cases a3:a<3
        ·by_cases b0:b=0
         ·by_cases k4:k=4
          ·have hf:=hide (show false=r by rw [←uh he'];simp [k4]);subst k4;go_enter Tryz.func110,Tryz.ntmps110;go_wp2;go_ret;exact ret_says (uh hf) (uh hg _)
          ·have hf:=hide (show true=r by rw [←uh he'];simp [k4,a0,a3,b0]);have k4':(k == 4)=false:=by simp [k4]
           subst b0;go_enter Tryz.func110,Tryz.ntmps110;go_wp2;go_ret;exact ret_says (by rw [←uh hf];simp [k4]) (uh hg _)
         ·have hf:=hide (show false=r by rw [←uh he'];simp [b0]);have b0':(b == 0)=false:=by simp [b0]
          go_enter Tryz.func110,Tryz.ntmps110;go_wp2;go_ret;exact ret_says (uh hf) (uh hg _)
        ·have hf:=hide (show false=r by rw [←uh he'];simp [a3]);go_enter Tryz.func110,Tryz.ntmps110;go_wp2;go_ret;exact ret_says (uh hf) (uh hg _)
       ·have hf:=hide (show false=r by rw [←uh he'];simp [a0]);go_enter Tryz.func110,Tryz.ntmps110;go_wp2;go_ret;exact ret_says (uh hf) (uh hg _)
      ·have he:=uh hr';unfold Gd.fitsB at he;rw [uh ek,Bool.true_and,if_neg p1,if_neg p2,if_neg p3,if_neg p4] at he;have he':=hide he;clear he;go_enter Tryz.func110,Tryz.ntmps110;go_wp2;go_ret;exact ret_says (uh he') (uh hg _)
  ·have he:=uh hr';unfold Gd.fitsB at he;rw [decide_eq_false (show ¬(1≤k∧k≤4) by omega),Bool.false_and] at he;have he':=hide he;have nk1:¬k<1:=by omega
   have nk4:k > 4:=by omega
   clear he;go_enter Tryz.func110,Tryz.ntmps110;go_wp2;go_ret;exact ret_says (uh he') (uh hg _)
 ·have he:=uh hr';unfold Gd.fitsB at he;rw [decide_eq_false (show ¬(1≤k∧k≤4) by omega),Bool.false_and] at he;have he':=hide he;have nk1:k<1:=by omega
  clear he;go_enter Tryz.func110,Tryz.ntmps110;go_wp2;go_ret;exact ret_says (uh he') (uh hg _)


open Go.RowKit

def Gd.good (c:Nat→Int) (I:Nat→Nat→Int) (j:Nat):Prop:=Gd.zeroB (I j 0) (I j 1) (I j 2) (I j 3)=true∨(Gd.fitsB c (I j 0) (I j 1) (I j 2) (I j 3)=true∧Gd.find I 40 (I j 1) (I j 2) (I j 3)=(j:Int))

theorem Gd.zero_iff (r:Nat→Int):Gd.zeroB (r 0) (r 1) (r 2) (r 3)=true↔Gd.Zero r:=by
 unfold Gd.zeroB Gd.Zero;rw [decide_eq_true_eq]

theorem Gd.ok_good {c:Nat→Int} {I:Nat→Nat→Int} (h:Gd.Ok c 40 I) {k:Nat} (hk:k<40):Gd.good c I k:=by
 rcases h.each k hk with hz|hp
 ·exact .inl ((Gd.zero_iff (I k)).2 hz)
 ·refine .inr ⟨(Gd.fits_iff c (I k)).2 hp,?_⟩;rcases Gd.find_cases I 40 (I k 1) (I k 2) (I k 3) with ⟨_,hno⟩|⟨m,hm,e,h1,h2,h3,_⟩
  ·exact absurd ⟨rfl,rfl,rfl⟩ (hno k hk)
  ·by_cases em:m=k
   ·rw [e,em]
   ·exact absurd (⟨h1,h2,h3⟩:Gd.Share (I m) (I k)) (h.one k m hk hm (fun e=>em e.symm) hp.where_ne)

theorem Gd.good_ok {c:Nat→Int} {I:Nat→Nat→Int} (h:∀k,k<40→Gd.good c I k):Gd.Ok c 40 I:=by
 refine ⟨fun i hi=>?_,fun i k hi hk hik hw hs=>?_⟩
 ·rcases h i hi with hz|⟨hp,_⟩
  ·exact .inl ((Gd.zero_iff (I i)).1 hz)
  ·exact .inr ((Gd.fits_iff c (I i)).1 hp)
 ·have fi:Gd.find I 40 (I i 1) (I i 2) (I i 3)=(i:Int):=by
   rcases h i hi with hz|⟨_,hf⟩
   ·exact absurd ((Gd.zero_iff (I i)).1 hz).2.1 hw
   ·exact hf
  have fk:Gd.find I 40 (I k 1) (I k 2) (I k 3)=(k:Int):=by
   rcases h k hk with hz|⟨_,hf⟩
   ·exact absurd (hs.1 ▸ ((Gd.zero_iff (I k)).1 hz).2.1) hw
   ·exact hf
  rw [hs.1,hs.2.1,hs.2.2,fi] at fk;omega

def Tells7 (w:World) (p:Prop) (e:Ending) (w':World):Prop:=∃r:Bool,e=.returned (.bool r)∧(r=true↔p)∧w.grownBy w' none

set_option maxHeartbeats 6400000 in
theorem check_any (s g c:Nat→Int) (E I:Nat→Nat→Int) (gC gE gI cC cE cI:Nat) (w:World) (hL:Gd.Lists w gC gE gI c E I) (hc:∀i,0≤c i∧c i≤255) :
  Calls Tryz.prog 89 #[.agg (Gd.world s gC gE gI cC cE cI g)] w (Tells7 w (Gd.Ok c 40 I)):=by
 obtain ⟨w0,hw0⟩:∃w0,w0=w.alloc (.cells (Gd.world s gC gE gI cC cE cI g) 30):=⟨_,rfl⟩;have hbox:Lie w0 w.heap.size 30 11 (Gd.box s gC gE gI cC cE cI g):=by rw [hw0];exact (Arr.world (heap_alloc_new w _)).lie
 have hg0:w.grownBy w0 none:=by rw [hw0];exact World.grownBy_alloc _ _ _
 have hL0:=hide (hL.on hg0);obtain ⟨B,hB⟩:∃B,w.heap.size=B:=⟨_,rfl⟩;rw [hB] at hbox;have hbox':=hide hbox;have hg0':=hide hg0;have hc':=hide hc;obtain ⟨_,_,_,_,b4,_,b6,_⟩:=hbox.eleven;have hlB:=hbox.lt;clear hL hc hbox hg0;unfold Gd.world at hw0 ⊢;go_enter Tryz.func89,Tryz.ntmps89;go_upto_region 1 with fail;rw [←hw0];clear hw0 hB;go_wp2_with fail
 go_loopw [12] (fun i wr=>∃k:Nat,k≤40∧i=.int .i64 (k:Int)∧(∀j,j<k→Gd.good c I j)∧w0.grownBy wr none) (fun i _=>200 - (intOf i).toNat)
 case atStart=>exact ⟨0,by omega,rfl,fun j hj=>by omega,World.grownBy.refl _ _⟩
 case round =>
  obtain ⟨k,hk,rfl,hno,hgr⟩:=hrel;have hno':=hide hno;have hgr':=hide hgr;clear hno hgr b4 b6;by_cases hlt:k<40
  ·obtain ⟨u0,u1,u2,u3⟩:=((uh hL0).on (uh hgr')).its.row hlt;have hlt':(k:Int)<40:=by omega
   have HL:=hide hlt;clear hlt;go_wp2_with fail;obtain ⟨wb,hwb⟩:∃wb,wr.alloc (.cells #[.int .i64 (I k 0),.int .i64 (I k 1),.int .i64 (I k 2),.int .i64 (I k 3)] 72)=wb:=⟨_,rfl⟩;have hga:wr.grownBy wb none:=by rw [←hwb];exact World.grownBy_alloc _ _ _
   have hnew:=(Arr.lit (heap_alloc_new wr (.cells #[.int .i64 (I k 0),.int .i64 (I k 1),.int .i64 (I k 2),.int .i64 (I k 3)] 72))).lie;rw [hwb] at hnew;have hgb:=hide (gtr (uh hgr') hga);have hnew':=hide hnew;obtain ⟨P,hP⟩:∃P,wr.heap.size=P:=⟨_,rfl⟩;rw [hP] at hnew';clear hnew hga;have cg:=isGone_any (I k 0) (I k 1) (I k 2) (I k 3) wb;have hgd:Hid (Gd.good c I k↔(Gd.zeroB (I k 0) (I k 1) (I k 2) (I k 3)=true∨(Gd.fitsB c (I k 0) (I k 1) (I k 2) (I k 3)=true∧Gd.find I 40 (I k 1) (I k 2) (I k 3)=(k:Int)))):=Iff.rfl;obtain ⟨z,hz⟩:∃z,Gd.zeroB (I k 0) (I k 1) (I k 2) (I k 3)=z:=⟨_,rfl⟩;rw [hz] at cg hgd;have cg':=hide cg;rw [hwb,hP];clear cg hz hwb hP u0 u1 u2 u3;refine (uh cg').mono ?_;rintro e w1 ⟨rfl,hg1⟩;have hg1':=hide (gtr (uh hgb) hg1);have hn1:=hide ((uh hnew').on hg1);clear cg' hg1 hgb hnew';cases z with
   | true =>
    have hq:=hide ((uh hgd).2 (.inl rfl));clear hgd;go_wp2;go_roundw;case rel=>exact ⟨k+1,by have:=uh HL;omega,by go_num,fun j hj=>by
     by_cases e:j=k
     ·rw [e];exact uh hq
     ·exact uh hno' j (by omega),uh hg1'⟩
    case measure=>simp [intOf];omega
   | false =>
    have b4:=((uh hbox').on (uh hg1')).eleven.2.2.2.2.1;have b6:=((uh hbox').on (uh hg1')).eleven.2.2.2.2.2.2.1;have lB1:=Nat.lt_of_lt_of_le hlB (uh hg1').size;have lP1:=(uh hn1).lt;have cf0:=fun (x:World) (hx:w1.grownBy x none)=>fits_any gC cC c (I k 0) (I k 1) (I k 2) (I k 3) x ((uh hL0).on (gtr (uh hg1') hx)).vec (uh hc');have ca0:=fun (x:World) (hx:w1.grownBy x none)=>goodsAt_any gI 40 cI I (I k 1) (I k 2) (I k 3) x ((uh hL0).on (gtr (uh hg1') hx)).its;obtain ⟨f,hf⟩:∃f,Gd.find I 40 (I k 1) (I k 2) (I k 3)=f:=⟨_,rfl⟩;obtain ⟨V,hV⟩:∃V,Gd.fitsB c (I k 0) (I k 1) (I k 2) (I k 3)=V:=⟨_,rfl⟩;rw [hf] at ca0 hgd;rw [hV] at cf0 hgd;have ca0':=hide ca0;have cf0':=hide cf0;clear ca0 cf0 hf hV;go_wp2_with fail;refine wp_region_grown (by kernel_rfl) (by kernel_rfl) ?_;intro St hN W hI hx;have c0:∀σ,(W σ).cell? ⟨P,0,none⟩=some (.int .i64 (I k 0)):=fun σ=>(gce (hI σ) _ 0 lP1 (by simp)).trans ((uh hn1).cell (c:=0) (by simp));have c1:∀σ,(W σ).cell? ⟨P,1,none⟩=some (.int .i64 (I k 1)):=fun σ=>(gce (hI σ) _ 1 lP1 (by simp)).trans ((uh hn1).cell (c:=1) (by simp));have c2:∀σ,(W σ).cell? ⟨P,2,none⟩=some (.int .i64 (I k 2)):=fun σ=>(gce (hI σ) _ 2 lP1 (by simp)).trans ((uh hn1).cell (c:=2) (by simp));have c3:∀σ,(W σ).cell? ⟨P,3,none⟩=some (.int .i64 (I k 3)):=fun σ=>(gce (hI σ) _ 3 lP1 (by simp)).trans ((uh hn1).cell (c:=3) (by simp));have d4:∀σ,(W σ).cell? ⟨B,4,none⟩=some (.slice (some ⟨gC,0,none⟩) 384 cC):=fun σ=>(gce (hI σ) _ 4 lB1 (by simp)).trans b4;have d6:∀σ,(W σ).cell? ⟨B,6,none⟩=some (.slice (some ⟨gI,0,none⟩) 40 cI):=fun σ=>(gce (hI σ) _ 6 lB1 (by simp)).trans b6;have cf:∀σ,Calls Tryz.prog 110 #[.slice (some ⟨gC,0,none⟩) 384 cC,.agg #[.int .i64 (I k 0),.int .i64 (I k 1),.int .i64 (I k 2),.int .i64 (I k 3)]] (W σ) fun e w''=>e=.returned (.bool V)∧∃σ',w''=W σ':=fun σ=>calls_class hI hx (uh cf0' _ (hI σ));have cp:∀σ,Calls Tryz.prog 112 #[.agg #[.int .i64 (I k 0),.int .i64 (I k 1),.int .i64 (I k 2),.int .i64 (I k 3)]] (W σ) fun e w''=>e=.returned (.agg #[.int .i64 (I k 1),.int .i64 (I k 2),.int .i64 (I k 3)])∧∃σ',w''=W σ':=fun σ=>calls_class hI hx (goodsPlace_any _ _ _ _ _);have ca:∀σ,Calls Tryz.prog 111 #[.slice (some ⟨gI,0,none⟩) 40 cI,.agg #[.int .i64 (I k 1),.int .i64 (I k 2),.int .i64 (I k 3)]] (W σ) fun e w''=>e=.returned (.int .i64 f)∧∃σ',w''=W σ':=fun σ=>calls_class hI hx (uh ca0' _ (hI σ));have hI2:=hide hI;clear hI hx b4 b6 lB1 lP1 ca0' cf0' hn1;cases V with
    | false =>
     repeat (go_big_quiet_step (first | (go_at_call 110;exact cf _) | (go_at_call 112;exact cp _) | (go_at_call 111;exact ca _)))
     refine wpQuiet_nil ?_;rintro _ ⟨σ,rfl⟩;obtain ⟨wq,hwq⟩:∃wq,W σ=wq:=⟨_,rfl⟩;have hgq:=hide (gtr (uh hg1') (uh hI2 σ));rw [hwq] at hgq ⊢;clear c0 c1 c2 c3 d4 d6 cf cp ca hI2 hwq;clear σ W hN St;have hnok:=hide (show ¬Gd.Ok c 40 I from fun h=>by
      have hg:=Gd.ok_good h (uh HL);rw [uh hgd] at hg;simp at hg)
     have hfin:=hide (gtr (uh hg0') (uh hgq));go_wp2;go_ret;exact ⟨false,rfl,⟨(fun h=>absurd h (by simp)),(fun h=>absurd h (uh hnok))⟩,uh hfin⟩
    | true =>
     by_cases hfk:f=(k:Int)
     ·subst hfk;have hq:=hide ((uh hgd).2 (.inr ⟨rfl,rfl⟩))
      repeat (go_big_quiet_step (first | (go_at_call 110;exact cf _) | (go_at_call 112;exact cp _) | (go_at_call 111;exact ca _)))
      refine wpQuiet_nil ?_;rintro _ ⟨σ,rfl⟩;obtain ⟨wq,hwq⟩:∃wq,W σ=wq:=⟨_,rfl⟩;have hgq:=hide (gtr (uh hg1') (uh hI2 σ));rw [hwq] at hgq ⊢;clear c0 c1 c2 c3 d4 d6 cf cp ca hI2 hwq;clear σ W hN St;go_wp2;go_roundw;case rel=>exact ⟨k+1,by have:=uh HL;omega,by go_num,fun j hj=>by
       by_cases e:j=k
       ·rw [e];exact uh hq
       ·exact uh hno' j (by omega),uh hgq⟩
      case measure=>simp [intOf];omega
     ·have hfk':(f == (k:Int))=false:=by simp [hfk]
      repeat (go_big_quiet_step (first | (go_at_call 110;exact cf _) | (go_at_call 112;exact cp _) | (go_at_call 111;exact ca _)))
      refine wpQuiet_nil ?_;rintro _ ⟨σ,rfl⟩;obtain ⟨wq,hwq⟩:∃wq,W σ=wq:=⟨_,rfl⟩;have hgq:=hide (gtr (uh hg1') (uh hI2 σ));rw [hwq] at hgq ⊢;clear c0 c1 c2 c3 d4 d6 cf cp ca hI2 hwq;clear σ W hN St;have hnok:=hide (show ¬Gd.Ok c 40 I from fun h=>by
       have hg:=Gd.ok_good h (uh HL);rw [uh hgd] at hg;simp at hg;exact hfk hg)
      have hfin:=hide (gtr (uh hg0') (uh hgq));go_wp2;go_ret;exact ⟨false,rfl,⟨(fun h=>absurd h (by simp)),(fun h=>absurd h (uh hnok))⟩,uh hfin⟩
  ·have hge:¬(k:Int)<40:=by omega
   have he:=hide (Gd.good_ok (fun j hj=>uh hno' j (by omega)));have hfin:=hide (gtr (uh hg0') (uh hgr'));go_wp2;go_ret;exact ⟨true,rfl,⟨fun _=>uh he,fun _=>rfl⟩,uh hfin⟩


open Go.RowKit

theorem dice_of (s f:Int):∃d:Gn.Dice,(∀a b n,Gn.D s f a b n=d a b n)∧Gn.Fair d:=⟨fun a b n=>Gn.D s f a b n,fun _ _ _=>rfl,fun a b n h=>Gn.D_bd s f a b n h⟩


open Go.RowKit

theorem Lie.of_append {w:World} {base n z:Nat} {T:TypeId} {v:Value} {F:Nat→Value} (h:w.ownsRow base T z v n (Gd.list (n*z) F)) (hv:v≠.slice none 0 0):∃g cap,v=.slice (some ⟨g,0,none⟩) n cap∧base≤g∧n≤cap∧Lie w g T (n*z) F:=by
 rcases h.2 with ⟨h',_⟩|⟨g,cap,cur,rfl,hb,hg,hnc,hcm,hcs,htake⟩
 ·exact absurd h' hv
 ·refine ⟨g,cap,rfl,hb,hnc,cur.size,fun j=>cur[j]?.getD undef,Arr.lit hg,by rw [hcs];exact Nat.mul_le_mul_right z hnc,fun c hc=>?_⟩;have e:=Gd.list_at (F:=F) hc;rw [←htake,List.getElem?_take,if_pos hc,Array.getElem?_toList] at e;show cur[c]?.getD undef=_;rw [e];rfl

theorem Lie.type7 {x:World} {B G:Nat} {T U:TypeId} {m n:Nat} {F K:Nat→Value} (h1:Lie x B T m F) (h2:Lie x G U n K) (h:T≠U):B≠G:=by
 rintro rfl;obtain ⟨_,_,⟨c1,e1,_⟩,_⟩:=h1;obtain ⟨_,_,⟨c2,e2,_⟩,_⟩:=h2;rw [e1] at e2;simp only [Option.some.injEq,Obj.cells.injEq] at e2;exact h e2.2.1

structure Gd.Part (w x:World) (B gC gE gI cC cE cI:Nat) (s g:Nat→Int):Prop where
 box:Lie x B 30 11 (Gd.box s gC gE gI cC cE cI g)
 res:Lie x (B+1) 30 11 (fun j=>#[.int .i64 0,.int .i64 0,.int .i64 0,.int .i64 0,.slice none 0 0,.slice none 0 0,.slice none 0 0,.int .i64 0,.int .i64 0,.int .i64 0,Value.int .i64 0][j]?.getD undef)
 at_:w.heap.size=B
 two:B+2≤x.heap.size
 grown:w.grownBy x none

theorem Gd.Part.on {w x y:World} {B gC gE gI cC cE cI:Nat} {s g:Nat→Int} (h:Gd.Part w x B gC gE gI cC cE cI s g) (hg:x.grownBy y none):Gd.Part w y B gC gE gI cC cE cI s g :=
 ⟨h.box.on hg,h.res.on hg,h.at_,Nat.le_trans h.two hg.size,gtr h.grown hg⟩

theorem Gd.Part.set {w x:World} {B gC gE gI cC cE cI:Nat} {s g:Nat→Int} (h:Gd.Part w x B gC gE gI cC cE cI s g) (i:Nat) (v:Value) (gC' gE' gI' cC' cE' cI':Nat) (he:∀j,j<11→(if j=i then v else Gd.box s gC gE gI cC cE cI g j)=Gd.box s gC' gE' gI' cC' cE' cI' g j):Gd.Part w (x.setCell ⟨B,i,none⟩ v) B gC' gE' gI' cC' cE' cI' s g:=by
 have hB:=h.at_;have r:=gs0 x B i v;exact ⟨(h.box.store i v).congr he,h.res.grown r (by simp),h.at_,by simpa using h.two,gsr h.grown ⟨B,i,none⟩ (by show w.heap.size≤B;omega) v⟩

theorem Gd.box_4 (s g:Nat→Int) (gC gE gI cC cE cI g1 c1:Nat):∀j,j<11→(if j=4 then Value.slice (some ⟨g1,0,none⟩) 384 c1 else Gd.box s gC gE gI cC cE cI g j)=Gd.box s g1 gE gI c1 cE cI g j:=by
 intro j hj;rcases (show j=0∨j=1∨j=2∨j=3∨j=4∨j=5∨j=6∨j=7∨j=8∨j=9∨j=10 by omega) with rfl|rfl|rfl|rfl|rfl|rfl|rfl|rfl|rfl|rfl|rfl <;> rfl

theorem Gd.box_5 (s g:Nat→Int) (gC gE gI cC cE cI g1 c1:Nat):∀j,j<11→(if j=5 then Value.slice (some ⟨g1,0,none⟩) 32 c1 else Gd.box s gC gE gI cC cE cI g j)=Gd.box s gC g1 gI cC c1 cI g j:=by
 intro j hj;rcases (show j=0∨j=1∨j=2∨j=3∨j=4∨j=5∨j=6∨j=7∨j=8∨j=9∨j=10 by omega) with rfl|rfl|rfl|rfl|rfl|rfl|rfl|rfl|rfl|rfl|rfl <;> rfl

theorem Gd.box_6 (s g:Nat→Int) (gC gE gI cC cE cI g1 c1:Nat):∀j,j<11→(if j=6 then Value.slice (some ⟨g1,0,none⟩) 40 c1 else Gd.box s gC gE gI cC cE cI g j)=Gd.box s gC gE g1 cC cE c1 g j:=by
 intro j hj;rcases (show j=0∨j=1∨j=2∨j=3∨j=4∨j=5∨j=6∨j=7∨j=8∨j=9∨j=10 by omega) with rfl|rfl|rfl|rfl|rfl|rfl|rfl|rfl|rfl|rfl|rfl <;> rfl

set_option maxHeartbeats 6400000 in
theorem refTwin_any (s g c:Nat→Int) (E I:Nat→Nat→Int) (gC gE gI cC cE cI:Nat) (w:World) (hL:Gd.Lists w gC gE gI c E I) :
  Calls Tryz.prog 37 #[.agg (Gd.world s gC gE gI cC cE cI g)] w (Gd.Worlds w s g c E I):=by
 obtain ⟨w0,hw0,hbox,hres,hg0,hsz⟩:=Gd.boxes w gC gE gI cC cE cI s g;obtain ⟨B,hB⟩:∃B,w.heap.size=B:=⟨_,rfl⟩;rw [hB] at hbox hres hsz;have hP0:Hid (Gd.Part w w0 B gC gE gI cC cE cI s g):=⟨hbox,hres,hB,by omega,hg0⟩;have hL':=hide hL;have lC:=hide hL.cells.lt;have lE:=hide hL.ents.lt;have lI:=hide hL.items.lt;obtain ⟨iB,hiB,hzB0,hzB1,hzB2⟩:=info_parts info_byte;obtain ⟨iE,hiE,hzE0,hzE1,hzE2⟩:=info_parts info_ent;obtain ⟨iI,hiI,hzI0,hzI1,hzI2⟩:=info_parts info_item;have hB':=hide hB;clear hL hbox hres hg0 hsz;unfold Gd.world at hw0 ⊢;clear hB;go_enter Tryz.func37,Tryz.ntmps37;go_upto_region 1 with fail;rw [←hw0,uh hB'];clear hw0;have q4:=(uh hP0).box.eleven.2.2.2.2.1;have fB:=(uh hP0).box.free;have lB:=(uh hP0).box.lt;go_upto_region 1 with fail
 go_cut [] from 3 (fun wx=>∃g1 c1,Hid (Gd.Part w wx B g1 gE gI c1 cE cI s g)∧Hid (Lie wx g1 5 384 (Byts c)∧B+2≤g1))
 case first =>
  go_wp2_with (at_builtin;refine wpList_append_own _ rfl _ _ 24 rfl w0.heap.size 5 iB (.int .u8 0) 1 1 Tryz.underlying24 hiB hzB0 hzB1 hzB2 rfl (by decide) _ 0 [] rfl (World.ownsRow_made _ _ _ (Nat.le_refl _) (by decide) (by simp)) ⟨gC,0,none⟩ 384 cC (Gd.list 384 (Byts c)) rfl (Gd.list_len _ _) (Gd.list_src fun q hq=>(gce (gtr (uh hP0).grown (World.grownBy_alloc _ _ _)) gC q (uh lC) (by simp)).trans ((uh hL').read.1 q hq)) (Gd.list_one fun _=>rfl) ?c4 ?c5 ?c6 ?_);case c4=>unfold maxLen;omega
  case c5=>omega
  case c6=>simp
  intro v' w1 hown hgrow hnil;obtain ⟨g9,c9,rfl,hlo,hnc,hlie⟩:=Lie.of_append (n:=384) (z:=1) (F:=(Byts c)) hown (by simpa using hnil);have hg9:=gow (World.grownBy_alloc w0 _ none) hgrow (fun k e=>by cases e;exact Nat.le_refl _);have hP9:=hide ((uh hP0).on hg9);have y4:=(uh hP9).box.eleven.2.2.2.2.1;have fB9:=(uh hP9).box.free;have hl9:=hide hlie;have hlo9:=hide hlo;have hnc9:=hide hnc;have hg9':=hide hg9;clear hown hgrow hnil hlie hlo hnc hg9 q4 fB lB;go_wp2_with fail;go_meet;have htw:=(uh hP0).two;have hlo:=uh hlo9;exact ⟨g9,c9,(uh hP9).set 4 _ _ _ _ _ _ _ (Gd.box_4 s g gC gE gI cC cE cI g9 c9),(uh hl9).other (by omega) _ _,by omega⟩
 case rest =>
  obtain ⟨g1,c1,hP1,hL1⟩:=hcut;clear q4 fB lB hP0;have q5:=(uh hP1).box.eleven.2.2.2.2.2.1;have fB:=(uh hP1).box.free;have lB:=(uh hP1).box.lt;go_upto_region 2 with fail
  go_cut [] from 8 (fun wx=>∃g2 c2,Hid (Gd.Part w wx B g1 g2 gI c1 c2 cI s g)∧Hid (Lie wx g1 5 384 (Byts c)∧B+2≤g1∧Lie wx g2 70 352 (En.flat E)∧B+2≤g2∧32≤c2))
  case first =>
   go_wp2_with (at_builtin;refine wpList_append_own _ rfl _ _ 26 rfl wc.heap.size 70 iE (.agg #[.int .i64 0,.int .i64 0,.int .i64 0,.int .i64 0,.int .i64 0,.int .i64 0,.int .i64 0,.int .i64 0,.int .i64 0,.int .i64 0,.int .i64 0]) 11 88 Tryz.underlying26 hiE hzE0 hzE1 hzE2 rfl (by decide) _ 0 [] rfl (World.ownsRow_made _ _ _ (Nat.le_refl _) (by decide) (by simp)) ⟨gE,0,none⟩ 32 cE (Gd.list 352 (En.flat E)) rfl (Gd.list_len _ _) (Gd.list_src fun q hq=>(gce (gtr (uh hP1).grown (World.grownBy_alloc _ _ _)) gE q (uh lE) (by simp)).trans ((uh hL').read.2.1 q hq)) (Gd.list_one fun _=>rfl) ?c4 ?c5 ?c6 ?_);case c4=>unfold maxLen;omega
   case c5=>omega
   case c6=>simp
   intro v' w1 hown hgrow hnil;obtain ⟨g9,c9,rfl,hlo,hnc,hlie⟩:=Lie.of_append (n:=32) (z:=11) (F:=(En.flat E)) hown (by simpa using hnil);have hg9:=gow (World.grownBy_alloc wc _ none) hgrow (fun k e=>by cases e;exact Nat.le_refl _);have hP9:=hide ((uh hP1).on hg9);have y5:=(uh hP9).box.eleven.2.2.2.2.2.1;have fB9:=(uh hP9).box.free;have hl9:=hide hlie;have hlo9:=hide hlo;have hnc9:=hide hnc;have hg9':=hide hg9;clear hown hgrow hnil hlie hlo hnc hg9 q5 fB lB;go_wp2_with fail;go_meet;have htw:=(uh hP1).two;have hlo:=uh hlo9;obtain ⟨k1,k2⟩:=uh hL1;exact ⟨g9,c9,(uh hP9).set 5 _ _ _ _ _ _ _ (Gd.box_5 s g g1 gE gI c1 cE cI g9 c9),(k1.on (uh hg9')).other (by omega) _ _,k2,(uh hl9).other (by omega) _ _,by omega,uh hnc9⟩
  case rest =>
   obtain ⟨g2,c2,hP2,hL2⟩:=hcut;clear q5 fB lB hP1 hL1;have q6:=(uh hP2).box.eleven.2.2.2.2.2.2.1;have fB:=(uh hP2).box.free;have lB:=(uh hP2).box.lt;go_upto_region 3 with fail
   go_cut [] from 13 (fun wx=>∃g3 c3,Hid (Gd.Boxed w wx B g1 g2 g3 c1 c2 c3 s g c E I))
   case first =>
    go_wp2_with (at_builtin;refine wpList_append_own _ rfl _ _ 27 rfl wc.heap.size 72 iI (.agg #[.int .i64 0,.int .i64 0,.int .i64 0,.int .i64 0]) 4 32 Tryz.underlying27 hiI hzI0 hzI1 hzI2 rfl (by decide) _ 0 [] rfl (World.ownsRow_made _ _ _ (Nat.le_refl _) (by decide) (by simp)) ⟨gI,0,none⟩ 40 cI (Gd.list 160 (Gd.flat I)) rfl (Gd.list_len _ _) (Gd.list_src fun q hq=>(gce (gtr (uh hP2).grown (World.grownBy_alloc _ _ _)) gI q (uh lI) (by simp)).trans ((uh hL').read.2.2 q hq)) (Gd.list_one fun _=>rfl) ?c4 ?c5 ?c6 ?_);case c4=>unfold maxLen;omega
    case c5=>omega
    case c6=>simp
    intro v' w1 hown hgrow hnil;obtain ⟨g9,c9,rfl,hlo,hnc,hlie⟩:=Lie.of_append (n:=40) (z:=4) (F:=(Gd.flat I)) hown (by simpa using hnil);have hg9:=gow (World.grownBy_alloc wc _ none) hgrow (fun k e=>by cases e;exact Nat.le_refl _);have hP9:=hide ((uh hP2).on hg9);have y6:=(uh hP9).box.eleven.2.2.2.2.2.2.1;have fB9:=(uh hP9).box.free;have hl9:=hide hlie;have hlo9:=hide hlo;have hnc9:=hide hnc;have hg9':=hide hg9;clear hown hgrow hnil hlie hlo hnc hg9 q6 fB lB;go_wp2_with fail;go_meet;have htw:=(uh hP2).two;have hlo:=uh hlo9;obtain ⟨k1,k2,k3,k4,k5⟩:=uh hL2;have hPz:=(uh hP9).set 6 _ _ _ _ _ _ _ (Gd.box_6 s g g1 g2 gI c1 c2 cI g9 c9);have m1:=(k1.on (uh hg9')).other (p:=B) (by omega) 6 (.slice (some ⟨g9,0,none⟩) 40 c9);have m2:=(k3.on (uh hg9')).other (p:=B) (by omega) 6 (.slice (some ⟨g9,0,none⟩) 40 c9);have m3:=(uh hl9).other (p:=B) (by omega) 6 (.slice (some ⟨g9,0,none⟩) 40 c9);exact ⟨g9,c9,⟨hPz.box,⟨m1,m2,m3⟩,by omega,by omega,by omega,m1.type7 m2 (by decide),m1.type7 m3 (by decide),m2.type7 m3 (by decide)⟩,hPz.at_,k2,k4,by omega,k5,hPz.res,hPz.grown⟩
   case rest =>
    obtain ⟨g3,c3,hX⟩:=hcut;clear q6 fB lB hP2 hL2;obtain ⟨b0,b1,b2,b3,b4,b5,b6,b7,b8,b9,b10⟩:=(uh hX).hold.box.eleven;have fz:=(uh hX).res.free;obtain ⟨z0,z1,z2,z3,z4,z5,z6,z7,z8,z9,z10⟩:=Gd.res_cells (uh hX).res;have hfin:=hide (fun vs=>(uh hX).worlds vs);go_wp2;refine bodyPost_ret (v:=.agg (Gd.world s g1 g2 g3 c1 c2 c3 g)) (by simp [results,Tryz.results37,go_sem,Gd.world,z0,z1,z2,z3,z4,z5,z6,z7,z8,z9,z10]) rfl ?_;exact uh hfin [_,_,_,_,_,_,_,_,_,_,_]


open Go.RowKit

set_option maxHeartbeats 800000 in
theorem refHero_any (b n c:Nat) (E:Nat→Nat→Int) (seat:Int) (w:World) (hE:Ents w b n E) :
  Calls Tryz.prog 39 #[.slice (some ⟨b,0,none⟩) n c,.int .i64 seat] w (Says w (.int .i64 (En.first (En.heroQ E seat) n))):=by
 have hn:=hE.1;have hE':=hide hE
 skip
 clear hE;go_enter Tryz.func39,Tryz.ntmps39;go_wp2_with fail
 go_loop [5] (fun i=>∃k:Nat,k≤n∧i=.int .i64 (k:Int)∧∀j,j<k→En.heroQ E seat j=false) (fun i=>40 - (intOf i).toNat)
 case atStart=>exact ⟨0,by omega,rfl,fun j hj=>by omega⟩
 case round =>
  obtain ⟨k,hk,rfl,hno⟩:=hrel;have hno':=hide hno;clear hno;by_cases hlt:k<n
  ·obtain ⟨u0,_,u2,_⟩:=(uh hE').row hlt;have hlt':(k:Int)<(n:Int):=by omega
   have HL:=hide hlt
   skip
   clear hlt;by_cases hf:E k 0=1
   ·by_cases h3:E k 2=seat
    ·have hq:Hid (En.heroQ E seat k=true):=by show En.heroQ E seat k=true;simp [En.heroQ,hf,h3]
     have he:=hide (En.first_hit (uh hno') (uh hq) (uh HL));go_wp2;go_ret;exact ⟨rti (uh he).symm,World.grownBy.refl _ _⟩
    ·have hq:Hid (En.heroQ E seat k=false):=by show En.heroQ E seat k=false;simp [En.heroQ,h3]
     have h3':(E k 2 == seat)=false:=by simp [h3]
     go_wp2;go_round;case rel=>exact ⟨k+1,by have:=uh HL;omega,by go_num,fun j hj=>by
      by_cases e:j=k
      ·rw [e];exact uh hq
      ·exact uh hno' j (by omega)⟩
     case measure=>simp [intOf];omega
   ·have hq:Hid (En.heroQ E seat k=false):=by show En.heroQ E seat k=false;simp [En.heroQ,hf]
    have hf':(E k 0 == 1)=false:=by simp [hf]
    go_wp2;go_round;case rel=>exact ⟨k+1,by have:=uh HL;omega,by go_num,fun j hj=>by
     by_cases e:j=k
     ·rw [e];exact uh hq
     ·exact uh hno' j (by omega)⟩
    case measure=>simp [intOf];omega
  ·have hge:¬(k:Int)<(n:Int):=by omega
   have he:=hide (En.first_none (n:=n) (fun j hj=>uh hno' j (by omega)));go_wp2;go_ret;exact ⟨rti (uh he).symm,World.grownBy.refl _ _⟩

theorem refHero7_any (g c:Nat) (E:Nat→Nat→Int) (seat:Int) (w:World) (h:Own w g 32 E) :
  Calls Tryz.prog 39 #[.slice (some ⟨g,0,none⟩) 32 c,.int .i64 seat] w (Says w (.int .i64 (Gd.hero E seat))):=refHero_any g 32 c E seat w h.ents


open Go.RowKit

def Gd.goneQ (J:Nat→Nat→Int):Nat→Bool:=fun i=>Gd.zeroB (J i 0) (J i 1) (J i 2) (J i 3)

def Gd.lay (I M:Nat→Nat→Int):Nat→Nat→Nat→Int
 | 0=>I
 | m+1=>if 0≤En.first (Gd.goneQ (Gd.lay I M m)) 40 then En.put (Gd.lay I M m) (En.first (Gd.goneQ (Gd.lay I M m)) 40).toNat (Gd.row (M m 0) (M m 1) (M m 2) (M m 3)) else Gd.lay I M m

theorem Gd.lay_none {I M:Nat→Nat→Int} {m:Nat} (h:∀j,j<40→Gd.goneQ (Gd.lay I M m) j=false):Gd.lay I M (m+1)=Gd.lay I M m:=by
 show (if _ then _ else _)=_;rw [En.first_none h,if_neg (by omega)]

theorem Gd.lay_some {I M:Nat→Nat→Int} {m r:Nat} (hno:∀j,j<r→Gd.goneQ (Gd.lay I M m) j=false) (hr:Gd.goneQ (Gd.lay I M m) r=true) (h40:r<40):Gd.lay I M (m+1)=En.put (Gd.lay I M m) r (Gd.row (M m 0) (M m 1) (M m 2) (M m 3)):=by
 show (if _ then _ else _)=_;rw [En.first_hit hno hr h40,if_pos (by omega),Int.toNat_natCast]

def Gd.Some (w:World) (a:Option Addr) (n:Nat) (M:Nat→Nat→Int):Prop:=n≤100∧(n=0∨∃b o,a=some ⟨b,o,none⟩∧Its w b o n M)

theorem Gd.Some.on {w w':World} {a:Option Addr} {n:Nat} {M:Nat→Nat→Int} (h:Gd.Some w a n M) (hg:w.grownBy w' none):Gd.Some w' a n M:=by
 obtain ⟨h1,h0|⟨b,o,h2,h3⟩⟩:=h
 ·exact ⟨h1,.inl h0⟩
 ·exact ⟨h1,.inr ⟨b,o,h2,h3.on hg⟩⟩

theorem Gd.Some.row {w:World} {a:Option Addr} {n:Nat} {M:Nat→Nat→Int} (h:Gd.Some w a n M) {k:Nat} (hk:k<n):∃b o,a=some ⟨b,o,none⟩∧b<w.heap.size∧w.cell? ⟨b,o+k*4,none⟩=some (.int .i64 (M k 0))∧w.cell? ⟨b,o+k*4+1,none⟩=some (.int .i64 (M k 1))∧w.cell? ⟨b,o+k*4+2,none⟩=some (.int .i64 (M k 2))∧w.cell? ⟨b,o+k*4+3,none⟩=some (.int .i64 (M k 3)):=by
 obtain ⟨_,h0|⟨b,o,h2,h3⟩⟩:=h
 ·omega
 ·exact ⟨b,o,h2,h3.2.1,h3.2.2 k 0 hk (by omega),h3.2.2 k 1 hk (by omega),h3.2.2 k 2 hk (by omega),h3.2.2 k 3 hk (by omega)⟩

def Gd.Gives40 (w:World) (J:Nat→Nat→Int) (e:Ending) (w':World):Prop :=
 ∃g cap,e=.returned (.slice (some ⟨g,0,none⟩) 40 cap)∧w.heap.size≤g∧Lie w' g 72 160 (Gd.flat J)∧w.grownBy w' none


open Go.RowKit

def En.hole (g:Int):Nat→Int:=fun j=>if j=1 then g else 0

end Go.Proofs.YtldgbkjceildfaaGreat
