import Derived.Test.YtldgbkjceildfaaGreatBy20
namespace Go.Proofs.YtldgbkjceildfaaGreat
open Go.RowKit

set_option maxHeartbeats 3200000 in
theorem refPlaced_any (s g c:Nat→Int) (gC gE gI cC cE cI:Nat) (k p a b:Int) (w:World) (hC:Vec w.heap.size w (some ⟨gC,0,none⟩) 384 (Byts c)) (hc:∀i,0≤c i∧c i≤255) (k1:1≤k) (k5:k≤4) :
  Calls Tryz.prog 91 #[.agg (Gd.world s gC gE gI cC cE cI g),.agg #[.int .i64 k,.int .i64 p,.int .i64 a,.int .i64 b]] w (Says w (.bool (Gd.fitsB c k p a b))):=by
 obtain ⟨r,hr⟩:∃r,Gd.fitsB c k p a b=r:=⟨_,rfl⟩;rw [hr];have hr':=hide hr;have hg:=hide (fun (o1 o2:Obj)=>gal (World.grownBy_alloc w o1 none) o2);have hC':=hide hC;have hc':=hide hc;have ek:Hid (decide (1≤k∧k≤4)=true):=decide_eq_true ⟨k1,k5⟩;unfold Gd.world;clear hr hC hc;by_cases p1:p=1
 ·subst p1;have he:=uh hr';unfold Gd.fitsB at he;rw [uh ek,Bool.true_and,if_pos rfl] at he;have he':=hide he;clear he;have cI:=fun wx=>refIn_any a b wx;by_cases hin:Gr.inB a b=true
  ·rw [hin] at cI;have cI':=hide cI;have cA:Hid (∀o o':Obj,Calls Tryz.prog 45 #[.slice (some ⟨gC,0,none⟩) 384 cC,.int .i64 a,.int .i64 b] ((w.alloc o).alloc o') fun e w'=>e=.returned (.int .i64 (Gr.at 384 c a b))∧w'=(w.alloc o).alloc o'):=fun o o'=>refAt_any w.heap.size (some ⟨gC,0,none⟩) 384 cC c a b _ ((uh hC').kept (none_below (uh hg o o'))) (uh hc');obtain ⟨A,hA⟩:∃A,Gr.at 384 c a b=A:=⟨_,rfl⟩;rw [hA] at cA he';clear hA cI;go_enter Tryz.func91,Tryz.ntmps91;go_wp2_with fail;refine (uh cI' _).mono ?_;rintro e w' ⟨rfl,hw⟩;subst w';go_wp2_with fail;refine (uh cA _ _).mono ?_;rintro e w' ⟨rfl,hw⟩;subst w';go_wp2_with fail;refine (refWalk_any A _).mono ?_;rintro e w' ⟨rfl,hw⟩;subst w';go_wp2;go_ret;exact ret_says (uh he') (uh hg _ _)
  ·have hin':Gr.inB a b=false:=by simpa using hin
   rw [hin'] at cI;have cI':=hide cI;have hf:=hide (show false=r by rw [←uh he',Gd.at_out hin'];rfl);clear cI hin;go_enter Tryz.func91,Tryz.ntmps91;go_wp2_with fail;refine (uh cI' _).mono ?_;rintro e w' ⟨rfl,hw⟩;subst w';go_wp2;go_ret;exact ret_says (uh hf) (uh hg _ _)
 ·by_cases p2:p=2
  ·subst p2;have he:=uh hr';unfold Gd.fitsB at he;rw [uh ek,Bool.true_and,if_neg (by decide),if_pos rfl] at he;have he':=hide he;clear he p1;unfold Gd.isSeat at he';by_cases a0:0≤a
   ·by_cases a4:a<4
    ·by_cases b0:0≤b
     ·by_cases b4:b<4
      ·by_cases k4:k=4
       ·have hf:=hide (show false=r by rw [←uh he'];simp [k4]);subst k4;go_enter Tryz.func91,Tryz.ntmps91;go_wp2;go_ret;exact ret_says (uh hf) (uh hg _ _)
       ·have hf:=hide (show true=r by rw [←uh he'];simp [k4,a0,a4,b0,b4]);have k4':(k == 4)=false:=by simp [k4]
        go_enter Tryz.func91,Tryz.ntmps91;go_wp2;go_ret;exact ret_says (by rw [←uh hf];simp [k4]) (uh hg _ _)
      ·have hf:=hide (show false=r by rw [←uh he'];simp [b4]);go_enter Tryz.func91,Tryz.ntmps91;go_wp2;go_ret;exact ret_says (uh hf) (uh hg _ _)
     ·have hf:=hide (show false=r by rw [←uh he'];simp [b0]);go_enter Tryz.func91,Tryz.ntmps91;go_wp2;go_ret;exact ret_says (uh hf) (uh hg _ _)
    ·have hf:=hide (show false=r by rw [←uh he'];simp [a4]);go_enter Tryz.func91,Tryz.ntmps91;go_wp2;go_ret;exact ret_says (uh hf) (uh hg _ _)
   ·have hf:=hide (show false=r by rw [←uh he'];simp [a0]);go_enter Tryz.func91,Tryz.ntmps91;go_wp2;go_ret;exact ret_says (uh hf) (uh hg _ _)
  ·by_cases p3:p=3
   ·subst p3;have he:=uh hr';unfold Gd.fitsB at he;rw [uh ek,Bool.true_and,if_neg (by decide),if_neg (by decide),if_pos rfl,Gd.serves_7] at he;have he':=hide he;clear he p1 p2;unfold Gd.isSeat at he';by_cases a0:0≤a
    ·by_cases a4:a<4
     ·by_cases k2:k=2
      ·subst k2;by_cases b0:b=0
       ·have hf:=hide (show true=r by rw [←uh he'];simp [a0,a4,b0]);subst b0;go_enter Tryz.func91,Tryz.ntmps91;go_wp2;go_ret;exact ret_says (uh hf) (uh hg _ _)
       ·have hf:=hide (show false=r by rw [←uh he'];simp [b0]);have b0':(b == 0)=false:=by simp [b0]
        go_enter Tryz.func91,Tryz.ntmps91;go_wp2;go_ret;exact ret_says (uh hf) (uh hg _ _)
      ·have k2':(k == 2)=false:=by simp [k2]
       by_cases k3:k=3
       ·subst k3;by_cases b1:b=1
        ·have hf:=hide (show true=r by rw [←uh he'];simp [a0,a4,b1]);subst b1;go_enter Tryz.func91,Tryz.ntmps91;go_wp2;go_ret;exact ret_says (uh hf) (uh hg _ _)
        ·have hf:=hide (show false=r by rw [←uh he'];simp [b1]);have b1':(b == 1)=false:=by simp [b1]
         go_enter Tryz.func91,Tryz.ntmps91;go_wp2;go_ret;exact ret_says (uh hf) (uh hg _ _)
       ·have hf:=hide (show false=r by rw [←uh he'];simp [k2,k3]);have k3':(k == 3)=false:=by simp [k3]
        go_enter Tryz.func91,Tryz.ntmps91;go_wp2;go_ret;exact ret_says (uh hf) (uh hg _ _)
     ·have hf:=hide (show false=r by rw [←uh he'];simp [a4]);go_enter Tryz.func91,Tryz.ntmps91;go_wp2;go_ret;exact ret_says (uh hf) (uh hg _ _)
    ·have hf:=hide (show false=r by rw [←uh he'];simp [a0]);go_enter Tryz.func91,Tryz.ntmps91;go_wp2;go_ret;exact ret_says (uh hf) (uh hg _ _)
   ·by_cases p4:p=4
    ·subst p4;have he:=uh hr';unfold Gd.fitsB at he;rw [uh ek,Bool.true_and,if_neg (by decide),if_neg (by decide),if_neg (by decide),if_pos rfl] at he;have he':=hide he;clear he p1 p2 p3;by_cases a0:0≤a
     ·by_cases a3:a<3
      ·by_cases b0:b=0
       ·by_cases k4:k=4
        ·have hf:=hide (show false=r by rw [←uh he'];simp [k4]);subst k4;go_enter Tryz.func91,Tryz.ntmps91;go_wp2;go_ret;exact ret_says (uh hf) (uh hg _ _)
        ·have hf:=hide (show true=r by rw [←uh he'];simp [k4,a0,a3,b0]);have k4':(k == 4)=false:=by simp [k4]
         subst b0;go_enter Tryz.func91,Tryz.ntmps91;go_wp2;go_ret;exact ret_says (by rw [←uh hf];simp [k4]) (uh hg _ _)
       ·have hf:=hide (show false=r by rw [←uh he'];simp [b0]);have b0':(b == 0)=false:=by simp [b0]
        go_enter Tryz.func91,Tryz.ntmps91;go_wp2;go_ret;exact ret_says (uh hf) (uh hg _ _)
      ·have hf:=hide (show false=r by rw [←uh he'];simp [a3]);go_enter Tryz.func91,Tryz.ntmps91;go_wp2;go_ret;exact ret_says (uh hf) (uh hg _ _)
     ·have hf:=hide (show false=r by rw [←uh he'];simp [a0]);go_enter Tryz.func91,Tryz.ntmps91;go_wp2;go_ret;exact ret_says (uh hf) (uh hg _ _)
    ·have he:=uh hr';unfold Gd.fitsB at he;rw [uh ek,Bool.true_and,if_neg p1,if_neg p2,if_neg p3,if_neg p4] at he;have he':=hide he;clear he;go_enter Tryz.func91,Tryz.ntmps91;go_wp2;go_ret;exact ret_says (uh he') (uh hg _ _)


open Go.RowKit

theorem Gd.find_self {I:Nat→Nat→Int} {k:Nat} (hk:k<40):Gd.find I 40 (I k 1) (I k 2) (I k 3)=(k:Int)↔∀j,j<k→¬(I j 1=I k 1∧I j 2=I k 2∧I j 3=I k 3):=by
 rcases Gd.find_cases I 40 (I k 1) (I k 2) (I k 3) with ⟨_,hno⟩|⟨m,hm,e,h1,h2,h3,hlow⟩
 ·exact absurd ⟨rfl,rfl,rfl⟩ (hno k hk)
 ·rw [e];constructor
  ·intro h j hj;exact hlow j (by omega)
  ·intro h;by_cases lt:m<k
   ·exact absurd ⟨h1,h2,h3⟩ (h m lt)
   ·by_cases gt:k<m
    ·exact absurd ⟨rfl,rfl,rfl⟩ (hlow k gt)
    ·have:m=k:=by omega
     rw [this]

theorem Gd.fits_where {c:Nat→Int} {k p a b:Int} (h:Gd.fitsB c k p a b=true):p≠0∧1≤k∧k≤4:=by
 have:=(Gd.fits_iff c (Gd.row k p a b)).1 h;exact ⟨this.where_ne,this.1,this.2.1⟩

set_option maxHeartbeats 6400000 in
theorem refCheck_any (s g c:Nat→Int) (E I:Nat→Nat→Int) (gC gE gI cC cE cI:Nat) (w:World) (hL:Gd.Lists w gC gE gI c E I) (hc:∀i,0≤c i∧c i≤255) :
  Calls Tryz.prog 56 #[.agg (Gd.world s gC gE gI cC cE cI g)] w (Tells7 w (Gd.Ok c 40 I)):=by
 obtain ⟨w0,hw0⟩:∃w0,w0=w.alloc (.cells (Gd.world s gC gE gI cC cE cI g) 30):=⟨_,rfl⟩;have hbox:Lie w0 w.heap.size 30 11 (Gd.box s gC gE gI cC cE cI g):=by rw [hw0];exact (Arr.world (heap_alloc_new w _)).lie
 have hg0:w.grownBy w0 none:=by rw [hw0];exact World.grownBy_alloc _ _ _
 have hL0:=hide (hL.on hg0);obtain ⟨B,hB⟩:∃B,w.heap.size=B:=⟨_,rfl⟩;rw [hB] at hbox;have hbox':=hide hbox;have hg0':=hide hg0;have hc':=hide hc;obtain ⟨_,_,_,_,_,_,b6,_⟩:=hbox.eleven;clear hL hc hbox hg0;unfold Gd.world at hw0 ⊢;go_enter Tryz.func56,Tryz.ntmps56;go_upto_region 1 with fail;rw [←hw0];clear hw0 hB;go_wp2_with fail
 go_loopw [3] (fun i wr=>∃k:Nat,k≤40∧i=.int .i64 (k:Int)∧(∀j,j<k→Gd.good c I j)∧w0.grownBy wr none) (fun i _=>200 - (intOf i).toNat)
 case atStart=>exact ⟨0,by omega,rfl,fun j hj=>by omega,World.grownBy.refl _ _⟩
 case round =>
  obtain ⟨k,hk,rfl,hno,hgr⟩:=hrel;have hno':=hide hno;have hgr':=hide hgr;clear hno hgr b6;obtain ⟨b0,b1,b2,b3,b4,b5,b6,b7,b8,b9,b10⟩:=((uh hbox').on (uh hgr')).eleven;by_cases hlt:k<40
  ·obtain ⟨u0,u1,u2,u3⟩:=((uh hL0).on (uh hgr')).its.row hlt;have hlt':(k:Int)<40:=by omega
   have HL:=hide hlt;have lB:=((uh hbox').on (uh hgr')).lt;clear hlt;have hnx:=hide (fun (o:Obj)=>gal (uh hgr') o);by_cases hz:Gd.zeroB (I k 0) (I k 1) (I k 2) (I k 3)=true
   ·have hq:Hid (Gd.good c I k):=.inl hz;obtain ⟨e0,e1,e2,e3⟩:I k 0=0∧I k 1=0∧I k 2=0∧I k 3=0:=of_decide_eq_true hz;rw [e0] at u0;rw [e1] at u1;rw [e2] at u2;rw [e3] at u3;clear hz e0 e1 e2 e3;go_wp2;go_roundw;case rel=>exact ⟨k+1,by have:=uh HL;omega,by go_num,fun j hj=>by
     by_cases e:j=k
     ·rw [e];exact uh hq
     ·exact uh hno' j (by omega),uh hnx _⟩
    case measure=>simp [intOf];omega
   ·have hz':Gd.zeroB (I k 0) (I k 1) (I k 2) (I k 3)=false:=by simpa using hz
    have hcmp:∀wx:World,(binOp .eql 72 (.agg #[.int .i64 (I k 0),.int .i64 (I k 1),.int .i64 (I k 2),.int .i64 (I k 3)]) (.agg #[.int .i64 0,.int .i64 0,.int .i64 0,.int .i64 0])).run Tryz.prog wx=.ok (.bool false) wx:=fun wx=>by
     rw [run_eq_item];refine congrArg (fun z=>Result.ok (Value.bool z) wx) ?_;have h:=of_decide_eq_false hz';rw [←Bool.not_eq_true];simp only [Bool.and_eq_true,decide_eq_true_eq];exact h
    have nz:=hide hz';clear hz hz';by_cases k1:1≤I k 0
    ·by_cases k4:I k 0≤4
     ·have nk1:¬I k 0<1:=by omega
      have nk4:¬I k 0 > 4:=by omega
      have cpl0:=fun (o:Obj)=>refPlaced_any s g c gC gE gI cC cE cI (I k 0) (I k 1) (I k 2) (I k 3) (wr.alloc o) ((uh hL0).on (uh hnx o)).vec (uh hc') k1 k4;unfold Gd.world at cpl0;obtain ⟨V,hV⟩:∃V,Gd.fitsB c (I k 0) (I k 1) (I k 2) (I k 3)=V:=⟨_,rfl⟩;rw [hV] at cpl0;have hV':=hide hV;have cpl:=hide cpl0;clear cpl0 hV k1 k4;have hnew:=hide (Arr.lit (heap_alloc_new wr (.cells #[.int .i64 (I k 0),.int .i64 (I k 1),.int .i64 (I k 2),.int .i64 (I k 3)] 72))).lie;have hgb:=hide (uh hnx (.cells #[.int .i64 (I k 0),.int .i64 (I k 1),.int .i64 (I k 2),.int .i64 (I k 3)] 72));go_wp2_with fail;refine (uh cpl _).mono ?_;rintro e w1 ⟨rfl,hg1⟩;have hn1:=hide ((uh hnew).on hg1);have hg1':=hide (gtr (uh hgb) hg1);obtain ⟨P,hP⟩:∃P,wr.heap.size=P:=⟨_,rfl⟩;rw [hP] at hn1 ⊢;clear hP hnew hgb hg1 cpl hcmp u0 u1 u2 u3 b0 b1 b2 b3 b4 b5 b6 b7 b8 b9 b10 lB;cases V with
      | false =>
       have hnok:=hide (show ¬Gd.Ok c 40 I from fun h=>by
        rcases Gd.ok_good h (uh HL) with h1|⟨h1,_⟩
        ·rw [uh nz] at h1;cases h1
        ·rw [uh hV'] at h1;cases h1)
       have hfin:=hide (gtr (uh hg0') (uh hg1'));go_wp2;go_ret;exact ⟨false,rfl,⟨(fun h=>absurd h (by simp)),(fun h=>absurd h (uh hnok))⟩,uh hfin⟩
      | true =>
       have hwh:=hide (Gd.fits_where (uh hV')).1;go_wp2_with fail
       go_loopw [5] (fun i wz=>∃j:Nat,j≤k∧i=.int .i64 (j:Int)∧(∀q,q<j→¬(I q 1=I k 1∧I q 2=I k 2∧I q 3=I k 3))∧w1.grownBy wz none) (fun i _=>200 - (intOf i).toNat)
       case atStart=>exact ⟨0,by omega,rfl,fun j hj=>by omega,World.grownBy.refl _ _⟩
       case round =>
        obtain ⟨j,hj,rfl,hlow,hgz⟩:=hrel;have hlow':=hide hlow;have hgz':=hide hgz;clear hlow hgz;have x1:wr.cell? ⟨P,1,none⟩=some (.int .i64 (I k 1)):=((uh hn1).on (uh hgz')).cell (c:=1) (by simp);have x2:wr.cell? ⟨P,2,none⟩=some (.int .i64 (I k 2)):=((uh hn1).on (uh hgz')).cell (c:=2) (by simp);have x3:wr.cell? ⟨P,3,none⟩=some (.int .i64 (I k 3)):=((uh hn1).on (uh hgz')).cell (c:=3) (by simp);have lP:=((uh hn1).on (uh hgz')).lt;have hgt:=hide (gtr (uh hg1') (uh hgz'));have b6:=((uh hbox').on (uh hgt)).eleven.2.2.2.2.2.2.1;by_cases hjk:j<k
        ·have hj40:j<40:=by have:=uh HL;omega
         obtain ⟨v0,v1,v2,v3⟩:=((uh hL0).on (uh hgt)).its.row hj40;have hj40':(j:Int)<40:=by omega
         have hjk':(j:Int)<(k:Int):=by omega
         have hnz:=hide (fun (o:Obj)=>gal (uh hgz') o);have hft:=hide (fun (o:Obj)=>gtr (uh hg0') (gal (uh hgt) o));have HJ:=hide hjk;clear hjk hj40;by_cases c1:I j 1=I k 1
         ·by_cases c2:I j 2=I k 2
          ·by_cases c3:I j 3=I k 3
           ·have hnok:=hide (show ¬Gd.Ok c 40 I from fun h=>by
             rcases Gd.ok_good h (uh HL) with h1|⟨_,h1⟩
             ·rw [uh nz] at h1;cases h1
             ·exact (Gd.find_self (uh HL)).1 h1 j (uh HJ) ⟨c1,c2,c3⟩)
            have hne:¬I k 1=0:=uh hwh;have hne':(I k 1 == 0)=false:=by simp [hne]
            rw [c1] at v1;rw [c2] at v2;rw [c3] at v3;clear c1 c2 c3;go_wp2;go_ret;exact ⟨false,rfl,⟨(fun h=>absurd h (by simp)),(fun h=>absurd h (uh hnok))⟩,uh hft _⟩
           ·have c3':(I j 3 == I k 3)=false:=by simp [c3]
            rw [c1] at v1;rw [c2] at v2;have hq:=hide (show ¬(I j 1=I k 1∧I j 2=I k 2∧I j 3=I k 3) from fun h=>c3 h.2.2);clear c1 c2;go_wp2;go_roundw;case rel=>exact ⟨j+1,by have:=uh HJ;omega,by go_num,fun q hq1=>by
             by_cases e:q=j
             ·rw [e];exact uh hq
             ·exact uh hlow' q (by omega),uh hnz _⟩
            case measure=>simp [intOf];omega
          ·have c2':(I j 2 == I k 2)=false:=by simp [c2]
           rw [c1] at v1;have hq:=hide (show ¬(I j 1=I k 1∧I j 2=I k 2∧I j 3=I k 3) from fun h=>c2 h.2.1);clear c1;go_wp2;go_roundw;case rel=>exact ⟨j+1,by have:=uh HJ;omega,by go_num,fun q hq1=>by
            by_cases e:q=j
            ·rw [e];exact uh hq
            ·exact uh hlow' q (by omega),uh hnz _⟩
           case measure=>simp [intOf];omega
         ·have c1':(I j 1 == I k 1)=false:=by simp [c1]
          have hq:=hide (show ¬(I j 1=I k 1∧I j 2=I k 2∧I j 3=I k 3) from fun h=>c1 h.1);go_wp2;go_roundw;case rel=>exact ⟨j+1,by have:=uh HJ;omega,by go_num,fun q hq1=>by
           by_cases e:q=j
           ·rw [e];exact uh hq
           ·exact uh hlow' q (by omega),uh hnz _⟩
          case measure=>simp [intOf];omega
        ·have hge:¬(j:Int)<(k:Int):=by omega
         have hq:Hid (Gd.good c I k):=.inr ⟨uh hV',(Gd.find_self (uh HL)).2 (fun q hq1=>uh hlow' q (by omega))⟩;go_wp2;go_roundw;case rel=>exact ⟨k+1,by have:=uh HL;omega,by go_num,fun q hq1=>by
          by_cases e:q=k
          ·rw [e];exact uh hq
          ·exact uh hno' q (by omega),uh hgt⟩
         case measure=>simp [intOf];omega
     ·have nk1:¬I k 0<1:=by omega
      have nk4:I k 0 > 4:=by omega
      have hnok:=hide (show ¬Gd.Ok c 40 I from fun h=>by
       rcases Gd.ok_good h (uh HL) with h1|⟨h1,_⟩
       ·rw [uh nz] at h1;cases h1
       ·have:=(Gd.fits_where h1).2;omega)
      have hfin:=hide (fun (o:Obj)=>gtr (uh hg0') (uh hnx o));go_wp2;go_ret;exact ⟨false,rfl,⟨(fun h=>absurd h (by simp)),(fun h=>absurd h (uh hnok))⟩,uh hfin _⟩
    ·have nk1:I k 0<1:=by omega
     have hnok:=hide (show ¬Gd.Ok c 40 I from fun h=>by
      rcases Gd.ok_good h (uh HL) with h1|⟨h1,_⟩
      ·rw [uh nz] at h1;cases h1
      ·have:=(Gd.fits_where h1).2;omega)
     have hfin:=hide (fun (o:Obj)=>gtr (uh hg0') (uh hnx o));go_wp2;go_ret;exact ⟨false,rfl,⟨(fun h=>absurd h (by simp)),(fun h=>absurd h (uh hnok))⟩,uh hfin _⟩
  ·have hge:¬(k:Int)<40:=by omega
   have he:=hide (Gd.good_ok (fun j hj=>uh hno' j (by omega)));have hfin:=hide (gtr (uh hg0') (uh hgr'));go_wp2;go_ret;exact ⟨true,rfl,⟨fun _=>uh he,fun _=>rfl⟩,uh hfin⟩


open Go.RowKit

def Gd.Wares (I:Nat→Nat→Int) (q:Nat) (iv:Int):Prop:=(iv=-1∧∀j:Nat,j<q→Gd.find I 40 4 (j:Int) 0<0)∨(0≤iv∧iv=Gd.ware I 40)

theorem Gd.Wares.next {I:Nat→Nat→Int} {q:Nat} {iv:Int} (h:Gd.Wares I q iv) (hn:iv<0) (hq:q<3):Gd.Wares I (q+1) (Gd.find I 40 4 (q:Int) 0):=by
 rcases h with ⟨_,hno⟩|⟨h0,_⟩
 ·by_cases hf:Gd.find I 40 4 (q:Int) 0<0
  ·refine .inl ⟨(Gd.find_neg hf).1,fun j hj=>?_⟩;by_cases e:j=q
   ·rw [e];exact hf
   ·exact hno j (by omega)
  ·refine .inr ⟨by omega,?_⟩;have he:En.first (fun k=>decide (0≤Gd.find I 40 4 (k:Int) 0)) 3=(q:Int):=En.first_hit (fun j hj=>decide_eq_false (by have:=hno j hj;omega)) (decide_eq_true (by omega)) hq;unfold Gd.ware;rw [he,if_pos (by omega)]
 ·omega

theorem Gd.Wares.done {I:Nat→Nat→Int} {q:Nat} {iv:Int} (h:Gd.Wares I q iv) (hd:0≤iv∨3≤q):iv=Gd.ware I 40:=by
 rcases h with ⟨h1,hno⟩|⟨_,he⟩
 ·have he:En.first (fun k=>decide (0≤Gd.find I 40 4 (k:Int) 0)) 3=-1:=En.first_none (fun j hj=>decide_eq_false (by have:=hno j (by omega);omega));unfold Gd.ware;rw [he,if_neg (by omega)];exact h1
 ·exact he


open Go.RowKit

theorem Gd.slot_neg {I:Nat→Nat→Int} {n:Nat} {seat:Int} (h:Gd.slot I n seat<0):Gd.slot I n seat=-1:=by
 unfold Gd.slot at *
 rcases En.first_cases (fun b=>decide (Gd.find I n 2 seat (b:Int)<0)) 4 with ⟨h',_⟩|⟨k,hk,h',hq,_⟩
 ·exact h'
 ·omega

theorem Gd.has_neg {I:Nat→Nat→Int} {n:Nat} {seat lo hi:Int} (h:Gd.has I n seat lo hi<0):Gd.has I n seat lo hi=-1:=by
 unfold Gd.has at *
 split at h
 ·rename_i hp;rw [if_pos hp];exact (Gd.find_neg h).1
 ·rename_i hp;rw [if_neg hp]

theorem Gd.ware_neg {I:Nat→Nat→Int} {n:Nat} (h:Gd.ware I n<0):Gd.ware I n=-1:=by
 unfold Gd.ware at *
 split at h
 ·rename_i hp;rw [if_pos hp];exact (Gd.find_neg h).1
 ·rename_i hp;rw [if_neg hp]

def Gd.Res (c g:Nat→Int) (E I:Nat→Nat→Int) (t k:Nat) (input:Int) (G:Nat→Int) (F J:Nat→Nat→Int):Prop :=
 Gd.give g t (Gd.goldOf I (t:Int) (E k 3) (E k 4) (decide (Gr.at 384 c (E k 3) (E k 4)=5)) (g t) input)=G∧Gd.entsOf E I k (t:Int) input=F∧Gd.act I 40 (t:Int) (E k 3) (E k 4) (decide (Gr.at 384 c (E k 3) (E k 4)=5)) (g t) input=J

theorem Gd.does {P:Prop} {c g:Nat→Int} {E I:Nat→Nat→Int} {t k:Nat} {input:Int} (F:Gd.Fine c g E I) (ht:t<4) (hk:k<32)
  (other:input≠5→input≠6→input≠7→input≠8→input≠10→Gd.Res c g E I t k input g E I→P)
  (pickNone:input=5→Gd.find I 40 1 (E k 3) (E k 4)=-1→Gd.Res c g E I t k input g E I→P)
  (pickFull:∀m:Nat,input=5→m<40→Gd.find I 40 1 (E k 3) (E k 4)=(m:Int)→I m 0≠4→Gd.slot I 40 (t:Int)=-1→Gd.Res c g E I t k input g E I→P)
  (pickTake:∀m f:Nat,input=5→m<40→Gd.find I 40 1 (E k 3) (E k 4)=(m:Int)→I m 0≠4→Gd.slot I 40 (t:Int)=(f:Int)→Gd.Res c g E I t k input g E (En.put I m (Gd.row (I m 0) 2 (t:Int) (f:Int)))→P)
  (pickGold:∀m:Nat,input=5→m<40→Gd.find I 40 1 (E k 3) (E k 4)=(m:Int)→I m 0=4→0≤g t→g t≤999→Gd.Res c g E I t k input (Gd.give g t (min (g t+5) 999)) E (En.put I m Gd.gone)→P)
  (useNo:input=6→Gd.has I 40 (t:Int) 1 1=-1→Gd.Res c g E I t k input g E I→P)
  (useYes:∀m:Nat,input=6→m<40→Gd.has I 40 (t:Int) 1 1=(m:Int)→0≤E k 5→E k 5≤1000→Gd.Res c g E I t k input g (Gd.heal E k) (En.put I m Gd.gone)→P)
  (wearNo:input=7→Gd.has I 40 (t:Int) 2 3=-1→Gd.Res c g E I t k input g E I→P)
  (wearOne:∀m:Nat,input=7→m<40→Gd.has I 40 (t:Int) 2 3=(m:Int)→2≤I m 0→I m 0≤3→Gd.find I 40 3 (t:Int) (I m 0 - 2)=-1→Gd.Res c g E I t k input g E (En.put I m (Gd.row (I m 0) 3 (I m 2) (I m 0 - 2)))→P)
  (wearTwo:∀m j:Nat,input=7→m<40→j<40→m≠j→Gd.has I 40 (t:Int) 2 3=(m:Int)→2≤I m 0→I m 0≤3→Gd.find I 40 3 (t:Int) (I m 0 - 2)=(j:Int)→Gd.Res c g E I t k input g E (En.put (En.put I j (Gd.row (I j 0) 2 (I j 2) (I m 3))) m (Gd.row (I m 0) 3 (I m 2) (I m 0 - 2)))→P)
  (dropNo:input=8→Gd.has I 40 (t:Int) 1 3=-1→Gd.Res c g E I t k input g E I→P)
  (dropLies:∀m j:Nat,input=8→Gd.has I 40 (t:Int) 1 3=(m:Int)→Gd.find I 40 1 (E k 3) (E k 4)=(j:Int)→Gd.Res c g E I t k input g E I→P)
  (dropYes:∀m:Nat,input=8→m<40→Gd.has I 40 (t:Int) 1 3=(m:Int)→Gd.find I 40 1 (E k 3) (E k 4)=-1→Gd.Res c g E I t k input g E (En.put I m (Gd.row (I m 0) 1 (E k 3) (E k 4)))→P)
  (buyAway:input=10→Gr.at 384 c (E k 3) (E k 4)≠5→Gd.Res c g E I t k input g E I→P)
  (buyPoor:input=10→Gr.at 384 c (E k 3) (E k 4)=5→g t<5→Gd.Res c g E I t k input g E I→P)
  (buyFull:input=10→Gr.at 384 c (E k 3) (E k 4)=5→5≤g t→Gd.slot I 40 (t:Int)=-1→Gd.Res c g E I t k input g E I→P)
  (buyOut:∀f:Nat,input=10→Gr.at 384 c (E k 3) (E k 4)=5→5≤g t→Gd.slot I 40 (t:Int)=(f:Int)→Gd.ware I 40=-1→Gd.Res c g E I t k input g E I→P)
  (buyYes:∀m f:Nat,input=10→m<40→Gr.at 384 c (E k 3) (E k 4)=5→5≤g t→g t≤999→Gd.slot I 40 (t:Int)=(f:Int)→Gd.ware I 40=(m:Int)→Gd.Res c g E I t k input (Gd.give g t (g t - 5)) E (En.put I m (Gd.row (I m 0) 2 (t:Int) (f:Int)))→P):P:=by
 obtain ⟨g0,g9⟩:=F.gold t ht;obtain ⟨p0,p9⟩:=F.hp k hk;by_cases i5:input=5
 ·have e6:Gd.entsOf E I k (t:Int) input=E:=by subst i5;exact if_neg (by omega)
  have eg:Gd.goldOf I (t:Int) (E k 3) (E k 4) (decide (Gr.at 384 c (E k 3) (E k 4)=5)) (g t) input=if 0≤Gd.find I 40 1 (E k 3) (E k 4)∧I (Gd.find I 40 1 (E k 3) (E k 4)).toNat 0=4 then min (g t+5) 999 else g t:=by subst i5;rfl
  have ea:Gd.act I 40 (t:Int) (E k 3) (E k 4) (decide (Gr.at 384 c (E k 3) (E k 4)=5)) (g t) input=Gd.pick I 40 (t:Int) (E k 3) (E k 4):=by subst i5;rfl
  unfold Gd.pick at ea;rcases Gd.find_cases I 40 1 (E k 3) (E k 4) with ⟨hf,_⟩|⟨m,hm,hf,_⟩
  ·rw [hf,if_neg (by omega)] at eg;rw [hf,if_neg (by omega),if_neg (by omega)] at ea;exact pickNone i5 hf ⟨by rw [eg,Gd.give_same],e6,ea⟩
  ·rw [hf,Int.toNat_natCast] at eg ea;by_cases h4:I m 0=4
   ·rw [if_pos ⟨by omega,h4⟩] at eg ea;exact pickGold m i5 hm hf h4 g0 g9 ⟨by rw [eg],e6,ea⟩
   ·rw [if_neg (by omega)] at eg ea;by_cases hs:0≤Gd.slot I 40 (t:Int)
    ·obtain ⟨f,hf'⟩:∃f:Nat,Gd.slot I 40 (t:Int)=(f:Int):=⟨(Gd.slot I 40 (t:Int)).toNat,by omega⟩;rw [if_pos ⟨by omega,hs⟩,hf'] at ea;exact pickTake m f i5 hm hf h4 hf' ⟨by rw [eg,Gd.give_same],e6,ea⟩
    ·rw [if_neg (by omega)] at ea;exact pickFull m i5 hm hf h4 (Gd.slot_neg (by omega)) ⟨by rw [eg,Gd.give_same],e6,ea⟩
 by_cases i6:input=6
 ·have eg:Gd.goldOf I (t:Int) (E k 3) (E k 4) (decide (Gr.at 384 c (E k 3) (E k 4)=5)) (g t) input=g t:=by subst i6;rfl
  have ee:Gd.entsOf E I k (t:Int) input=if (6:Int)=6∧0≤Gd.has I 40 (t:Int) 1 1 then Gd.heal E k else E:=by subst i6;rfl
  have ea:Gd.act I 40 (t:Int) (E k 3) (E k 4) (decide (Gr.at 384 c (E k 3) (E k 4)=5)) (g t) input=Gd.use I 40 (t:Int):=by subst i6;rfl
  unfold Gd.use at ea;by_cases hp:0≤Gd.has I 40 (t:Int) 1 1
  ·obtain ⟨m,hm,hm',_⟩:=Gd.has_pos hp;rw [if_pos ⟨rfl,hp⟩] at ee;rw [if_pos hp,hm',Int.toNat_natCast] at ea;exact useYes m i6 hm hm' p0 p9 ⟨by rw [eg,Gd.give_same],ee,ea⟩
  ·rw [if_neg (by omega)] at ee;rw [if_neg hp] at ea;exact useNo i6 (Gd.has_neg (by omega)) ⟨by rw [eg,Gd.give_same],ee,ea⟩
 have e6:Gd.entsOf E I k (t:Int) input=E:=if_neg (by omega);by_cases i7:input=7
 ·have eg:Gd.goldOf I (t:Int) (E k 3) (E k 4) (decide (Gr.at 384 c (E k 3) (E k 4)=5)) (g t) input=g t:=by subst i7;rfl
  have ea:Gd.act I 40 (t:Int) (E k 3) (E k 4) (decide (Gr.at 384 c (E k 3) (E k 4)=5)) (g t) input=Gd.wear I 40 (t:Int):=by subst i7;rfl
  unfold Gd.wear at ea;by_cases hp:0≤Gd.has I 40 (t:Int) 2 3
  ·obtain ⟨m,hm,hm',w2,_,_,_,k2,k3⟩:=Gd.has_pos hp;rw [if_pos hp,hm',Int.toNat_natCast] at ea;unfold Gd.wearAt at ea;rcases Gd.find_cases I 40 3 (t:Int) (I m 0 - 2) with ⟨hf,_⟩|⟨j,hj,hf,j1,_⟩
   ·rw [hf,if_neg (by omega)] at ea;exact wearOne m i7 hm hm' k2 k3 hf ⟨by rw [eg,Gd.give_same],e6,ea⟩
   ·rw [hf,if_pos (by omega),Int.toNat_natCast] at ea;exact wearTwo m j i7 hm hj (by rintro rfl;omega) hm' k2 k3 hf ⟨by rw [eg,Gd.give_same],e6,ea⟩
  ·rw [if_neg hp] at ea;exact wearNo i7 (Gd.has_neg (by omega)) ⟨by rw [eg,Gd.give_same],e6,ea⟩
 by_cases i8:input=8
 ·have eg:Gd.goldOf I (t:Int) (E k 3) (E k 4) (decide (Gr.at 384 c (E k 3) (E k 4)=5)) (g t) input=g t:=by subst i8;rfl
  have ea:Gd.act I 40 (t:Int) (E k 3) (E k 4) (decide (Gr.at 384 c (E k 3) (E k 4)=5)) (g t) input=Gd.drop I 40 (t:Int) (E k 3) (E k 4):=by subst i8;rfl
  unfold Gd.drop at ea;by_cases hp:0≤Gd.has I 40 (t:Int) 1 3
  ·obtain ⟨m,hm,hm',_⟩:=Gd.has_pos hp;rcases Gd.find_cases I 40 1 (E k 3) (E k 4) with ⟨hf,_⟩|⟨j,hj,hf,_⟩
   ·rw [if_pos ⟨hp,by omega⟩,hm',Int.toNat_natCast] at ea;exact dropYes m i8 hm hm' hf ⟨by rw [eg,Gd.give_same],e6,ea⟩
   ·rw [if_neg (by omega)] at ea;exact dropLies m j i8 hm' hf ⟨by rw [eg,Gd.give_same],e6,ea⟩
  ·rw [if_neg (by omega)] at ea;exact dropNo i8 (Gd.has_neg (by omega)) ⟨by rw [eg,Gd.give_same],e6,ea⟩
 by_cases i10:input=10
 ·have eg:Gd.goldOf I (t:Int) (E k 3) (E k 4) (decide (Gr.at 384 c (E k 3) (E k 4)=5)) (g t) input=if Gd.buys I 40 (t:Int) (decide (Gr.at 384 c (E k 3) (E k 4)=5)) (g t)=true then g t - 5 else g t:=by subst i10;rfl
  have ea:Gd.act I 40 (t:Int) (E k 3) (E k 4) (decide (Gr.at 384 c (E k 3) (E k 4)=5)) (g t) input=Gd.buy I 40 (t:Int) (decide (Gr.at 384 c (E k 3) (E k 4)=5)) (g t):=by subst i10;rfl
  unfold Gd.buy at ea;have hbx:Gd.buys I 40 (t:Int) (decide (Gr.at 384 c (E k 3) (E k 4)=5)) (g t)=true↔Gr.at 384 c (E k 3) (E k 4)=5∧5≤g t∧0≤Gd.slot I 40 (t:Int)∧0≤Gd.ware I 40:=by
   unfold Gd.buys;simp only [Bool.and_eq_true,decide_eq_true_eq]
  have no:¬(Gr.at 384 c (E k 3) (E k 4)=5∧5≤g t∧0≤Gd.slot I 40 (t:Int)∧0≤Gd.ware I 40)→Gd.Res c g E I t k input g E I:=fun h=>by
   rw [if_neg (fun q=>h (hbx.1 q))] at eg ea;exact ⟨by rw [eg,Gd.give_same],e6,ea⟩
  by_cases hsh:Gr.at 384 c (E k 3) (E k 4)=5
  ·by_cases hg:5≤g t
   ·by_cases hs:0≤Gd.slot I 40 (t:Int)
    ·obtain ⟨f,hf⟩:∃f:Nat,Gd.slot I 40 (t:Int)=(f:Int):=⟨(Gd.slot I 40 (t:Int)).toNat,by omega⟩;by_cases hw:0≤Gd.ware I 40
     ·obtain ⟨m,hm,hm',_⟩:=Gd.ware_pos hw;rw [if_pos (hbx.2 ⟨hsh,hg,hs,hw⟩)] at eg ea;rw [hm',hf,Int.toNat_natCast] at ea;exact buyYes m f i10 hm hsh hg g9 hf hm' ⟨by rw [eg],e6,ea⟩
     ·exact buyOut f i10 hsh hg hf (Gd.ware_neg (by omega)) (no fun h=>hw h.2.2.2)
    ·exact buyFull i10 hsh hg (Gd.slot_neg (by omega)) (no fun h=>hs h.2.2.1)
   ·exact buyPoor i10 hsh (by omega) (no fun h=>hg h.2.1)
  ·exact buyAway i10 hsh (no fun h=>hsh h.1)
 have hgo:Gd.goldOf I (t:Int) (E k 3) (E k 4) (decide (Gr.at 384 c (E k 3) (E k 4)=5)) (g t) input=g t:=by
  unfold Gd.goldOf;rw [if_neg i5,if_neg i10]
 have hac:Gd.act I 40 (t:Int) (E k 3) (E k 4) (decide (Gr.at 384 c (E k 3) (E k 4)=5)) (g t) input=I:=by
  unfold Gd.act;rw [if_neg i5,if_neg i6,if_neg i7,if_neg i8,if_neg i10]
 exact other i5 i6 i7 i8 i10 ⟨by rw [hgo,Gd.give_same],e6,hac⟩

theorem Gd.Boxed.new {w w0 w1:World} {B g1 g2 g3 c1 c2 c3:Nat} {s g c:Nat→Int} {E I:Nat→Nat→Int} {F:Nat→Value} (hbx:Lie w0 B 30 11 F) (hrs:Lie w0 (B+1) 30 11 (fun j=>#[.int .i64 0,.int .i64 0,.int .i64 0,.int .i64 0,.slice none 0 0,.slice none 0 0,.slice none 0 0,.int .i64 0,.int .i64 0,.int .i64 0,Value.int .i64 0][j]?.getD undef)) (hg0:w.grownBy w0 none) (hB:w.heap.size=B) (hs:w0.heap.size=B+2) (hcap:32≤c2) (l1:w0.heap.size≤g1) (l2:w0.heap.size≤g2) (l3:w0.heap.size≤g3) (n1:g1≠g2) (n2:g1≠g3) (n3:g2≠g3) (hL1:Gd.Lists w1 g1 g2 g3 c E I) (hg1:w0.grownBy w1 none):Gd.Boxed w (w1.setCells B 0 (Gd.world s g1 g2 g3 c1 c2 c3 g).toList) B g1 g2 g3 c1 c2 c3 s g c E I:=by
 have r:=gss (g:=B) (Gd.world s g1 g2 g3 c1 c2 c3 g).toList 0 w1 (World.grownBy.refl _ _);exact ⟨⟨(hbx.on hg1).whole s g g1 g2 g3 c1 c2 c3,⟨hL1.cells.grown r (by simp;omega),hL1.ents.grown r (by simp;omega),hL1.items.grown r (by simp;omega)⟩,by omega,by omega,by omega,n1,n2,n3⟩,hB,by omega,by omega,by omega,hcap,(hrs.on hg1).grown r (by simp),own_sets (by omega) _ 0 w1 (gtr hg0 hg1)⟩

end Go.Proofs.YtldgbkjceildfaaGreat
