import Derived.Test.YtbanjoflgoiegaaGreatPs33
import Derived.Test.YtbanjoflgoiegaaGreatPs39
namespace Go.Proofs.YtbanjoflgoiegaaGreat
open Go.RowKit

def Cr.upto (u i:Nat):Int:=if u<i then 1 else 0

theorem Cr.upto_more {u i:Nat} (h:i≠u):Cr.upto u (i+1)=Cr.upto u i:=by
 unfold Cr.upto
 by_cases e:u<i
 ·rw [if_pos e,if_pos (by omega)]
 ·rw [if_neg e,if_neg (by omega)]

theorem Cr.upto_one (u:Nat):Cr.upto u u=0∧Cr.upto u (u+1)=1:=by
 unfold Cr.upto
 rw [if_neg (by omega),if_pos (by omega)]
 exact ⟨rfl,rfl⟩

set_option maxRecDepth 16000 in
set_option maxHeartbeats 3200000 in
theorem snapHead_any (s g c:Nat→Int) (E I:Nat→Nat→Int) (gC gE gI cC cE cI:Nat) (w:World) (hL:Gd.Lists w gC gE gI c E I) (hG:Cr.Good ⟨s,g,c,E,I⟩) (a1:0≤s 1) (a2:s 1<1073741824) :
  Calls Tryz.prog 48 #[.agg (Gd.world s gC gE gI cC cE cI g)] w (Says w (.int .i64 0)):=by
 obtain ⟨w0,hw0⟩:∃w0,w0=w.alloc (.cells (Gd.world s gC gE gI cC cE cI g) 30):=⟨_,rfl⟩
 have hg0:w.grownBy w0 none:=by rw [hw0];exact World.grownBy_alloc _ _ _
 have hB:Hid (Lie w0 w.heap.size 30 11 (Gd.box s gC gE gI cC cE cI g)):=by rw [hw0];exact (Arr.world (heap_alloc_new w _)).lie
 have hL0:=hide (hL.on hg0)
 have hgr:=hide hg0
 have hG':=hide hG
 obtain ⟨u,hu,hfu,hcu,hu1⟩:=Cr.up_stair hG.floor
 obtain ⟨u',d,hu'',hd,h3,h4⟩:=hG.floor.stairs
 have HU:=hide (And.intro hu (And.intro hcu hu1))
 have HD:=hide (And.intro hd h4)
 have n1:¬s 1<0:=by omega
 have n2:¬s 1≥1073741824:=by omega
 have n3:¬s 2<1:=by have:1≤s 2:=hG.f1;omega
 have n4:¬s 2 > 3:=by have:s 2≤3:=hG.f3;omega
 have n5:¬s 3<0:=by have:0≤s 3:=hG.s0;omega
 have n6:¬s 3 > 2:=by have:s 3≤2:=hG.s2;omega
 clear hL hG a1 a2 hg0 hu hfu hcu hu1 hu'' hd h3 h4
 unfold Gd.world at hw0 ⊢
 go_enter Tryz.func48,Tryz.ntmps48
 go_upto_region 1 with fail
 rw [←hw0]
 clear hw0
 obtain ⟨B,hBe⟩:∃B,w.heap.size=B:=⟨_,rfl⟩
 rw [hBe] at hB ⊢
 clear hBe
 obtain ⟨b0,b1,b2,b3,b4,b5,b6,b7,b8,b9,b10⟩:=(uh hB).eleven
 go_wp2_with fail
 clear n1 n2 n3 n4 n5 n6
 go_loop [3] (fun v3=>∃t:Nat,t≤4∧v3=.int .i64 (t:Int)) (fun v3=>10 - (intOf v3).toNat)
 case atStart=>exact ⟨0,by omega,rfl⟩
 case round =>
  obtain ⟨t,ht,rfl⟩:=hrel
  by_cases hlt:t<4
  ·have hlt':(t:Int)<4:=by omega
   have HL:=hide hlt
   have hgt:=(uh hG').gold t hlt
   have k1:¬g t<0:=by have:0≤g t:=hgt.1;omega
   have k2:¬g t > 999:=by have:g t≤999:=hgt.2;omega
   have bt:w0.cell? ⟨B,7+t,none⟩=some (.int .i64 (g t)):=by
    rw [(uh hB).cell (c:=7+t) (by omega),Gd.box_gold _ _ _ _ _ _ _ _ t hlt]
   clear hlt ht hgt
   go_wp2
   go_round
   case rel=>exact ⟨t+1,by have:=uh HL;omega,by go_num⟩
   case measure=>simp [intOf];have:=uh HL;omega
  ·obtain rfl:t=4:=by omega
   have hge:¬((4:Nat):Int)<4:=by omega
   clear hlt ht
   go_wp2_with fail
   go_loop [4,5,6] (fun v4 v5 v6=>∃i:Nat,i≤384∧v4=.int .i64 (Cr.upto u i)∧v5=.int .i64 (Cr.upto d i)∧v6=.int .i64 (i:Int)) (fun _ _ v6=>400 - (intOf v6).toNat)
   case atStart=>exact ⟨0,by omega,rfl,rfl,rfl⟩
   case round =>
    obtain ⟨i,hi,rfl,rfl,rfl⟩:=hrel
    by_cases hlt:i<384
    ·have hlt':(i:Int)<384:=by omega
     have HL:=hide hlt
     have u0:w0.cell? ⟨gC,i,none⟩=some (.int .u8 (c i)):=(uh hL0).cells.cell hlt
     have c5:=(uh hG').floor.five i
     try dsimp only at c5
     have k5:¬c i > 5:=by omega
     clear hlt hi c5
     by_cases k3:c i=3
     ·have hiu:i=u:=(uh HU).2.2 i k3
      have hid:i≠d:=fun e=>by have h4:c i=4:=((uh HD).2 i).2 e;omega
      subst hiu
      have e1:=Cr.upto_one i
      have e2:=Cr.upto_more (u:=d) hid
      rw [e1.1]
      rw [k3] at u0 k5
      clear k3 hid
      go_wp2
      go_round
      case rel=>exact ⟨i+1,by have:=uh HL;omega,by rw [e1.2],by rw [e2],by go_num⟩
      case measure=>simp [intOf];have:=uh HL;omega
     ·have k3':(c i == 3)=false:=by simp [k3]
      have hiu:i≠u:=fun e=>k3 (by rw [e];exact (uh HU).2.1)
      have e2:=Cr.upto_more hiu
      by_cases k4:c i=4
      ·have hid:i=d:=((uh HD).2 i).1 k4
       subst hid
       have e1:=Cr.upto_one i
       rw [e1.1]
       rw [k4] at u0 k5 k3'
       clear k3 k4 hiu
       go_wp2
       go_round
       case rel=>exact ⟨i+1,by have:=uh HL;omega,by rw [e2],by rw [e1.2],by go_num⟩
       case measure=>simp [intOf];have:=uh HL;omega
      ·have k4':(c i == 4)=false:=by simp [k4]
       have hid:i≠d:=fun e=>k4 (((uh HD).2 i).2 e)
       have e3:=Cr.upto_more hid
       clear k3 k4 hid hiu
       go_wp2
       go_round
       case rel=>exact ⟨i+1,by have:=uh HL;omega,by rw [e2],by rw [e3],by go_num⟩
       case measure=>simp [intOf];have:=uh HL;omega
    ·obtain rfl:i=384:=by omega
     have hge:¬((384:Nat):Int)<384:=by omega
     have e1:Cr.upto u 384=1:=by unfold Cr.upto;rw [if_pos (uh HU).1]
     have e2:Cr.upto d 384=1:=by unfold Cr.upto;rw [if_pos (uh HD).1]
     rw [e1,e2]
     clear hlt hi e1 e2
     go_wp2
     go_ret
     exact ⟨rfl,uh hgr⟩


open Go.RowKit

set_option maxHeartbeats 3200000 in
theorem refPlaced_any (s g c:Nat→Int) (gC gE gI cC cE cI:Nat) (k p a b:Int) (w:World) (hC:Vec w.heap.size w (some ⟨gC,0,none⟩) 384 (Byts c)) (hc:∀i,0≤c i∧c i≤255) (k1:1≤k) (k5:k≤4) :
  Calls Tryz.prog 96 #[.agg (Gd.world s gC gE gI cC cE cI g),.agg #[.int .i64 k,.int .i64 p,.int .i64 a,.int .i64 b]] w (Says w (.bool (Gd.fitsB c k p a b))):=by
 obtain ⟨r,hr⟩:∃r,Gd.fitsB c k p a b=r:=⟨_,rfl⟩
 rw [hr]
 have hr':=hide hr
 have hg:=hide (fun (o1 o2:Obj)=>gal (World.grownBy_alloc w o1 none) o2)
 have hC':=hide hC
 have hc':=hide hc
 have ek:Hid (decide (1≤k∧k≤4)=true):=decide_eq_true ⟨k1,k5⟩
 unfold Gd.world
 clear hr hC hc
 by_cases p1:p=1
 ·subst p1
  have he:=uh hr'
  unfold Gd.fitsB at he
  rw [uh ek,Bool.true_and,if_pos rfl] at he
  have he':=hide he
  clear he
  have cI:=fun wx=>refIn_any a b wx
  by_cases hin:Gr.inB a b=true
  ·rw [hin] at cI
   have cI':=hide cI
   have cA:Hid (∀o o':Obj,Calls Tryz.prog 40 #[.slice (some ⟨gC,0,none⟩) 384 cC,.int .i64 a,.int .i64 b] ((w.alloc o).alloc o') fun e w'=>e=.returned (.int .i64 (Gr.at 384 c a b))∧w'=(w.alloc o).alloc o'):=fun o o'=>refAt_any w.heap.size (some ⟨gC,0,none⟩) 384 cC c a b _ ((uh hC').kept (none_below (uh hg o o'))) (uh hc')
   obtain ⟨A,hA⟩:∃A,Gr.at 384 c a b=A:=⟨_,rfl⟩
   rw [hA] at cA he'
   clear hA cI
   go_enter Tryz.func96,Tryz.ntmps96
   go_wp2_with fail
   refine (uh cI' _).mono ?_
   rintro e w' ⟨rfl,hw⟩
   subst w'
   go_wp2_with fail
   refine (uh cA _ _).mono ?_
   rintro e w' ⟨rfl,hw⟩
   subst w'
   go_wp2_with fail
   refine (refWalk_any A _).mono ?_
   rintro e w' ⟨rfl,hw⟩
   subst w'
   go_wp2
   go_ret
   exact ret_says (uh he') (uh hg _ _)
  ·have hin':Gr.inB a b=false:=by simpa using hin
   rw [hin'] at cI
   have cI':=hide cI
   have hf:=hide (show false=r by rw [←uh he',Gd.at_out hin'];rfl)
   clear cI hin
   go_enter Tryz.func96,Tryz.ntmps96
   go_wp2_with fail
   refine (uh cI' _).mono ?_
   rintro e w' ⟨rfl,hw⟩
   subst w'
   go_wp2
   go_ret
   exact ret_says (uh hf) (uh hg _ _)
 ·by_cases p2:p=2
  ·subst p2
   have he:=uh hr'
   unfold Gd.fitsB at he
   rw [uh ek,Bool.true_and,if_neg (by decide),if_pos rfl] at he
   have he':=hide he
   clear he p1
   unfold Gd.isSeat at he'
   by_cases a0:0≤a
   ·by_cases a4:a<4
    ·by_cases b0:0≤b
     ·by_cases b4:b<4
      ·by_cases k4:k=4
       ·have hf:=hide (show false=r by rw [←uh he'];simp [k4])
        subst k4
        go_enter Tryz.func96,Tryz.ntmps96
        go_wp2
        go_ret
        exact ret_says (uh hf) (uh hg _ _)
       ·have hf:=hide (show true=r by rw [←uh he'];simp [k4,a0,a4,b0,b4])
        have k4':(k == 4)=false:=by simp [k4]
        go_enter Tryz.func96,Tryz.ntmps96
        go_wp2
        go_ret
        exact ret_says (by rw [←uh hf];simp [k4]) (uh hg _ _)
      ·have hf:=hide (show false=r by rw [←uh he'];simp [b4])
       go_enter Tryz.func96,Tryz.ntmps96
       go_wp2
       go_ret
       exact ret_says (uh hf) (uh hg _ _)
     ·have hf:=hide (show false=r by rw [←uh he'];simp [b0])
      go_enter Tryz.func96,Tryz.ntmps96
      go_wp2
      go_ret
      exact ret_says (uh hf) (uh hg _ _)
    ·have hf:=hide (show false=r by rw [←uh he'];simp [a4])
     go_enter Tryz.func96,Tryz.ntmps96
     go_wp2
     go_ret
     exact ret_says (uh hf) (uh hg _ _)
   ·have hf:=hide (show false=r by rw [←uh he'];simp [a0])
    go_enter Tryz.func96,Tryz.ntmps96
    go_wp2
    go_ret
    exact ret_says (uh hf) (uh hg _ _)
  ·by_cases p3:p=3
   ·subst p3
    have he:=uh hr'
    unfold Gd.fitsB at he
    rw [uh ek,Bool.true_and,if_neg (by decide),if_neg (by decide),if_pos rfl,Gd.serves_7] at he
    have he':=hide he
    clear he p1 p2
    unfold Gd.isSeat at he'
    by_cases a0:0≤a
    ·by_cases a4:a<4
     ·by_cases k2:k=2
      ·subst k2
       by_cases b0:b=0
       ·have hf:=hide (show true=r by rw [←uh he'];simp [a0,a4,b0])
        subst b0
        go_enter Tryz.func96,Tryz.ntmps96
        go_wp2
        go_ret
        exact ret_says (uh hf) (uh hg _ _)
       ·have hf:=hide (show false=r by rw [←uh he'];simp [b0])
        have b0':(b == 0)=false:=by simp [b0]
        go_enter Tryz.func96,Tryz.ntmps96
        go_wp2
        go_ret
        exact ret_says (uh hf) (uh hg _ _)
      ·have k2':(k == 2)=false:=by simp [k2]
       by_cases k3:k=3
       ·subst k3
        by_cases b1:b=1
        ·have hf:=hide (show true=r by rw [←uh he'];simp [a0,a4,b1])
         subst b1
         go_enter Tryz.func96,Tryz.ntmps96
         go_wp2
         go_ret
         exact ret_says (uh hf) (uh hg _ _)
        ·have hf:=hide (show false=r by rw [←uh he'];simp [b1])
         have b1':(b == 1)=false:=by simp [b1]
         go_enter Tryz.func96,Tryz.ntmps96
         go_wp2
         go_ret
         exact ret_says (uh hf) (uh hg _ _)
       ·have hf:=hide (show false=r by rw [←uh he'];simp [k2,k3])
        have k3':(k == 3)=false:=by simp [k3]
        go_enter Tryz.func96,Tryz.ntmps96
        go_wp2
        go_ret
        exact ret_says (uh hf) (uh hg _ _)
     ·have hf:=hide (show false=r by rw [←uh he'];simp [a4])
      go_enter Tryz.func96,Tryz.ntmps96
      go_wp2
      go_ret
      exact ret_says (uh hf) (uh hg _ _)
    ·have hf:=hide (show false=r by rw [←uh he'];simp [a0])
     go_enter Tryz.func96,Tryz.ntmps96
     go_wp2
     go_ret
     exact ret_says (uh hf) (uh hg _ _)
   ·by_cases p4:p=4
    ·subst p4
     have he:=uh hr'
     unfold Gd.fitsB at he
     rw [uh ek,Bool.true_and,if_neg (by decide),if_neg (by decide),if_neg (by decide),if_pos rfl] at he
     have he':=hide he
     clear he p1 p2 p3
     by_cases a0:0≤a
     ·by_cases a3:a<3
      ·by_cases b0:b=0
       ·by_cases k4:k=4
        ·have hf:=hide (show false=r by rw [←uh he'];simp [k4])
         subst k4
         go_enter Tryz.func96,Tryz.ntmps96
         go_wp2
         go_ret
         exact ret_says (uh hf) (uh hg _ _)
        ·have hf:=hide (show true=r by rw [←uh he'];simp [k4,a0,a3,b0])
         have k4':(k == 4)=false:=by simp [k4]
         subst b0
         go_enter Tryz.func96,Tryz.ntmps96
         go_wp2
         go_ret
         exact ret_says (by rw [←uh hf];simp [k4]) (uh hg _ _)
       ·have hf:=hide (show false=r by rw [←uh he'];simp [b0])
        have b0':(b == 0)=false:=by simp [b0]
        go_enter Tryz.func96,Tryz.ntmps96
        go_wp2
        go_ret
        exact ret_says (uh hf) (uh hg _ _)
      ·have hf:=hide (show false=r by rw [←uh he'];simp [a3])
       go_enter Tryz.func96,Tryz.ntmps96
       go_wp2
       go_ret
       exact ret_says (uh hf) (uh hg _ _)
     ·have hf:=hide (show false=r by rw [←uh he'];simp [a0])
      go_enter Tryz.func96,Tryz.ntmps96
      go_wp2
      go_ret
      exact ret_says (uh hf) (uh hg _ _)
    ·have he:=uh hr'
     unfold Gd.fitsB at he
     rw [uh ek,Bool.true_and,if_neg p1,if_neg p2,if_neg p3,if_neg p4] at he
     have he':=hide he
     clear he
     go_enter Tryz.func96,Tryz.ntmps96
     go_wp2
     go_ret
     exact ret_says (uh he') (uh hg _ _)


open Go.RowKit

theorem Gd.find_self {I:Nat→Nat→Int} {k:Nat} (hk:k<40):Gd.find I 40 (I k 1) (I k 2) (I k 3)=(k:Int)↔∀j,j<k→¬(I j 1=I k 1∧I j 2=I k 2∧I j 3=I k 3):=by
 rcases Gd.find_cases I 40 (I k 1) (I k 2) (I k 3) with ⟨_,hno⟩ | ⟨m,hm,e,h1,h2,h3,hlow⟩
 ·exact absurd ⟨rfl,rfl,rfl⟩ (hno k hk)
 ·rw [e]
  constructor
  ·intro h j hj
   exact hlow j (by omega)
  ·intro h
   by_cases lt:m<k
   ·exact absurd ⟨h1,h2,h3⟩ (h m lt)
   ·by_cases gt:k<m
    ·exact absurd ⟨rfl,rfl,rfl⟩ (hlow k gt)
    ·have:m=k:=by omega
     rw [this]

theorem Gd.fits_where {c:Nat→Int} {k p a b:Int} (h:Gd.fitsB c k p a b=true):p≠0∧1≤k∧k≤4:=by
 have:=(Gd.fits_iff c (Gd.row k p a b)).1 h
 exact ⟨this.where_ne,this.1,this.2.1⟩

set_option maxHeartbeats 6400000 in
theorem refCheck_any (s g c:Nat→Int) (E I:Nat→Nat→Int) (gC gE gI cC cE cI:Nat) (w:World) (hL:Gd.Lists w gC gE gI c E I) (hc:∀i,0≤c i∧c i≤255) :
  Calls Tryz.prog 50 #[.agg (Gd.world s gC gE gI cC cE cI g)] w (Tells7 w (Gd.Ok c 40 I)):=by
 obtain ⟨w0,hw0⟩:∃w0,w0=w.alloc (.cells (Gd.world s gC gE gI cC cE cI g) 30):=⟨_,rfl⟩
 have hbox:Lie w0 w.heap.size 30 11 (Gd.box s gC gE gI cC cE cI g):=by rw [hw0];exact (Arr.world (heap_alloc_new w _)).lie
 have hg0:w.grownBy w0 none:=by rw [hw0];exact World.grownBy_alloc _ _ _
 have hL0:=hide (hL.on hg0)
 obtain ⟨B,hB⟩:∃B,w.heap.size=B:=⟨_,rfl⟩
 rw [hB] at hbox
 have hbox':=hide hbox
 have hg0':=hide hg0
 have hc':=hide hc
 obtain ⟨_,_,_,_,_,_,b6,_⟩:=hbox.eleven
 clear hL hc hbox hg0
 unfold Gd.world at hw0 ⊢
 go_enter Tryz.func50,Tryz.ntmps50
 go_upto_region 1 with fail
 rw [←hw0]
 clear hw0 hB
 go_wp2_with fail
 go_loopw [3] (fun i wr=>∃k:Nat,k≤40∧i=.int .i64 (k:Int)∧(∀j,j<k→Gd.good c I j)∧w0.grownBy wr none) (fun i _=>200 - (intOf i).toNat)
 case atStart=>exact ⟨0,by omega,rfl,fun j hj=>by omega,World.grownBy.refl _ _⟩
 case round =>
  obtain ⟨k,hk,rfl,hno,hgr⟩:=hrel
  have hno':=hide hno
  have hgr':=hide hgr
  clear hno hgr b6
  obtain ⟨b0,b1,b2,b3,b4,b5,b6,b7,b8,b9,b10⟩:=((uh hbox').on (uh hgr')).eleven
  by_cases hlt:k<40
  ·obtain ⟨u0,u1,u2,u3⟩:=((uh hL0).on (uh hgr')).its.row hlt
   have hlt':(k:Int)<40:=by omega
   have HL:=hide hlt
   have lB:=((uh hbox').on (uh hgr')).lt
   clear hlt
   have hnx:=hide (fun (o:Obj)=>gal (uh hgr') o)
   by_cases hz:Gd.zeroB (I k 0) (I k 1) (I k 2) (I k 3)=true
   ·have hq:Hid (Gd.good c I k):=.inl hz
    obtain ⟨e0,e1,e2,e3⟩:I k 0=0∧I k 1=0∧I k 2=0∧I k 3=0:=of_decide_eq_true hz
    rw [e0] at u0
    rw [e1] at u1
    rw [e2] at u2
    rw [e3] at u3
    clear hz e0 e1 e2 e3
    go_wp2
    go_roundw
    case rel=>exact ⟨k+1,by have:=uh HL;omega,by go_num,fun j hj=>by
     by_cases e:j=k
     ·rw [e];exact uh hq
     ·exact uh hno' j (by omega),uh hnx _⟩
    case measure=>simp [intOf];omega
   ·have hz':Gd.zeroB (I k 0) (I k 1) (I k 2) (I k 3)=false:=by simpa using hz
    have hcmp:∀wx:World,(binOp .eql 62 (.agg #[.int .i64 (I k 0),.int .i64 (I k 1),.int .i64 (I k 2),.int .i64 (I k 3)]) (.agg #[.int .i64 0,.int .i64 0,.int .i64 0,.int .i64 0])).run Tryz.prog wx=.ok (.bool false) wx:=fun wx=>by
     rw [run_eq_item]
     refine congrArg (fun z=>Result.ok (Value.bool z) wx) ?_
     have h:=of_decide_eq_false hz'
     rw [←Bool.not_eq_true]
     simp only [Bool.and_eq_true,decide_eq_true_eq]
     exact h
    have nz:=hide hz'
    clear hz hz'
    by_cases k1:1≤I k 0
    ·by_cases k4:I k 0≤4
     ·have nk1:¬I k 0<1:=by omega
      have nk4:¬I k 0 > 4:=by omega
      have cpl0:=fun (o:Obj)=>refPlaced_any s g c gC gE gI cC cE cI (I k 0) (I k 1) (I k 2) (I k 3) (wr.alloc o) ((uh hL0).on (uh hnx o)).vec (uh hc') k1 k4
      unfold Gd.world at cpl0
      obtain ⟨V,hV⟩:∃V,Gd.fitsB c (I k 0) (I k 1) (I k 2) (I k 3)=V:=⟨_,rfl⟩
      rw [hV] at cpl0
      have hV':=hide hV
      have cpl:=hide cpl0
      clear cpl0 hV k1 k4
      have hnew:=hide (Arr.lit (heap_alloc_new wr (.cells #[.int .i64 (I k 0),.int .i64 (I k 1),.int .i64 (I k 2),.int .i64 (I k 3)] 62))).lie
      have hgb:=hide (uh hnx (.cells #[.int .i64 (I k 0),.int .i64 (I k 1),.int .i64 (I k 2),.int .i64 (I k 3)] 62))
      go_wp2_with fail
      refine (uh cpl _).mono ?_
      rintro e w1 ⟨rfl,hg1⟩
      have hn1:=hide ((uh hnew).on hg1)
      have hg1':=hide (gtr (uh hgb) hg1)
      obtain ⟨P,hP⟩:∃P,wr.heap.size=P:=⟨_,rfl⟩
      rw [hP] at hn1 ⊢
      clear hP hnew hgb hg1 cpl hcmp u0 u1 u2 u3 b0 b1 b2 b3 b4 b5 b6 b7 b8 b9 b10 lB
      cases V with
      | false =>
       have hnok:=hide (show ¬Gd.Ok c 40 I from fun h=>by
        rcases Gd.ok_good h (uh HL) with h1 | ⟨h1,_⟩
        ·rw [uh nz] at h1;cases h1
        ·rw [uh hV'] at h1;cases h1)
       have hfin:=hide (gtr (uh hg0') (uh hg1'))
       go_wp2
       go_ret
       exact ⟨false,rfl,⟨(fun h=>absurd h (by simp)),(fun h=>absurd h (uh hnok))⟩,uh hfin⟩
      | true =>
       have hwh:=hide (Gd.fits_where (uh hV')).1
       go_wp2_with fail
       go_loopw [5] (fun i wz=>∃j:Nat,j≤k∧i=.int .i64 (j:Int)∧(∀q,q<j→¬(I q 1=I k 1∧I q 2=I k 2∧I q 3=I k 3))∧w1.grownBy wz none) (fun i _=>200 - (intOf i).toNat)
       case atStart=>exact ⟨0,by omega,rfl,fun j hj=>by omega,World.grownBy.refl _ _⟩
       case round =>
        obtain ⟨j,hj,rfl,hlow,hgz⟩:=hrel
        have hlow':=hide hlow
        have hgz':=hide hgz
        clear hlow hgz
        have x1:wr.cell? ⟨P,1,none⟩=some (.int .i64 (I k 1)):=((uh hn1).on (uh hgz')).cell (c:=1) (by simp)
        have x2:wr.cell? ⟨P,2,none⟩=some (.int .i64 (I k 2)):=((uh hn1).on (uh hgz')).cell (c:=2) (by simp)
        have x3:wr.cell? ⟨P,3,none⟩=some (.int .i64 (I k 3)):=((uh hn1).on (uh hgz')).cell (c:=3) (by simp)
        have lP:=((uh hn1).on (uh hgz')).lt
        have hgt:=hide (gtr (uh hg1') (uh hgz'))
        have b6:=((uh hbox').on (uh hgt)).eleven.2.2.2.2.2.2.1
        by_cases hjk:j<k
        ·have hj40:j<40:=by have:=uh HL;omega
         obtain ⟨v0,v1,v2,v3⟩:=((uh hL0).on (uh hgt)).its.row hj40
         have hj40':(j:Int)<40:=by omega
         have hjk':(j:Int)<(k:Int):=by omega
         have hnz:=hide (fun (o:Obj)=>gal (uh hgz') o)
         have hft:=hide (fun (o:Obj)=>gtr (uh hg0') (gal (uh hgt) o))
         have HJ:=hide hjk
         clear hjk hj40
         by_cases c1:I j 1=I k 1
         ·by_cases c2:I j 2=I k 2
          ·by_cases c3:I j 3=I k 3
           ·have hnok:=hide (show ¬Gd.Ok c 40 I from fun h=>by
             rcases Gd.ok_good h (uh HL) with h1 | ⟨_,h1⟩
             ·rw [uh nz] at h1;cases h1
             ·exact (Gd.find_self (uh HL)).1 h1 j (uh HJ) ⟨c1,c2,c3⟩)
            have hne:¬I k 1=0:=uh hwh
            have hne':(I k 1 == 0)=false:=by simp [hne]
            rw [c1] at v1
            rw [c2] at v2
            rw [c3] at v3
            clear c1 c2 c3
            go_wp2
            go_ret
            exact ⟨false,rfl,⟨(fun h=>absurd h (by simp)),(fun h=>absurd h (uh hnok))⟩,uh hft _⟩
           ·have c3':(I j 3 == I k 3)=false:=by simp [c3]
            rw [c1] at v1
            rw [c2] at v2
            have hq:=hide (show ¬(I j 1=I k 1∧I j 2=I k 2∧I j 3=I k 3) from fun h=>c3 h.2.2)
            clear c1 c2
            go_wp2
            go_roundw
            case rel=>exact ⟨j+1,by have:=uh HJ;omega,by go_num,fun q hq1=>by
             by_cases e:q=j
             ·rw [e];exact uh hq
             ·exact uh hlow' q (by omega),uh hnz _⟩
            case measure=>simp [intOf];omega
          ·have c2':(I j 2 == I k 2)=false:=by simp [c2]
           rw [c1] at v1
           have hq:=hide (show ¬(I j 1=I k 1∧I j 2=I k 2∧I j 3=I k 3) from fun h=>c2 h.2.1)
           clear c1
           go_wp2
           go_roundw
           case rel=>exact ⟨j+1,by have:=uh HJ;omega,by go_num,fun q hq1=>by
            by_cases e:q=j
            ·rw [e];exact uh hq
            ·exact uh hlow' q (by omega),uh hnz _⟩
           case measure=>simp [intOf];omega
         ·have c1':(I j 1 == I k 1)=false:=by simp [c1]
          have hq:=hide (show ¬(I j 1=I k 1∧I j 2=I k 2∧I j 3=I k 3) from fun h=>c1 h.1)
          go_wp2
          go_roundw
          case rel=>exact ⟨j+1,by have:=uh HJ;omega,by go_num,fun q hq1=>by
           by_cases e:q=j
           ·rw [e];exact uh hq
           ·exact uh hlow' q (by omega),uh hnz _⟩
          case measure=>simp [intOf];omega
        ·have hge:¬(j:Int)<(k:Int):=by omega
         have hq:Hid (Gd.good c I k):=.inr ⟨uh hV',(Gd.find_self (uh HL)).2 (fun q hq1=>uh hlow' q (by omega))⟩
         go_wp2
         go_roundw
         case rel=>exact ⟨k+1,by have:=uh HL;omega,by go_num,fun q hq1=>by
          by_cases e:q=k
          ·rw [e];exact uh hq
          ·exact uh hno' q (by omega),uh hgt⟩
         case measure=>simp [intOf];omega
     ·have nk1:¬I k 0<1:=by omega
      have nk4:I k 0 > 4:=by omega
      have hnok:=hide (show ¬Gd.Ok c 40 I from fun h=>by
       rcases Gd.ok_good h (uh HL) with h1 | ⟨h1,_⟩
       ·rw [uh nz] at h1;cases h1
       ·have:=(Gd.fits_where h1).2
        omega)
      have hfin:=hide (fun (o:Obj)=>gtr (uh hg0') (uh hnx o))
      go_wp2
      go_ret
      exact ⟨false,rfl,⟨(fun h=>absurd h (by simp)),(fun h=>absurd h (uh hnok))⟩,uh hfin _⟩
    ·have nk1:I k 0<1:=by omega
     have hnok:=hide (show ¬Gd.Ok c 40 I from fun h=>by
      rcases Gd.ok_good h (uh HL) with h1 | ⟨h1,_⟩
      ·rw [uh nz] at h1;cases h1
      ·have:=(Gd.fits_where h1).2
       omega)
     have hfin:=hide (fun (o:Obj)=>gtr (uh hg0') (uh hnx o))
     go_wp2
     go_ret
     exact ⟨false,rfl,⟨(fun h=>absurd h (by simp)),(fun h=>absurd h (uh hnok))⟩,uh hfin _⟩
  ·have hge:¬(k:Int)<40:=by omega
   have he:=hide (Gd.good_ok (fun j hj=>uh hno' j (by omega)))
   have hfin:=hide (gtr (uh hg0') (uh hgr'))
   go_wp2
   go_ret
   exact ⟨true,rfl,⟨fun _=>uh he,fun _=>rfl⟩,uh hfin⟩


open Go.RowKit

theorem info_row:(Tryz.prog.info? 78).map (fun i=>(i.zero,i.size,i.bytes))=some (some (.agg #[.int .i64 0,.int .i64 0]),2,16):=by kernel_rfl

theorem row_news (w:World) (a0 a1:Value) (T:TypeId):∀j u,[a0,a1][j]?=some u→(w.alloc (.cells #[a0,a1] T)).cell? ((⟨w.heap.size,0,none⟩:Addr).add j)=some u:=by
 intro j u hj
 have hlt:j<2:=(List.getElem?_eq_some_iff.1 hj).1
 rcases (show j=0∨j=1 by omega) with rfl | rfl
 all_goals
  simp at hj
  subst hj
  simp [Addr.add,go_sem]

set_option maxRecDepth 8000 in
set_option maxHeartbeats 6400000 in
theorem snapRows_any (s t g c:Nat→Int) (E I:Nat→Nat→Int) (gC gE gI cC cE cI hC hE hI dC dE dI:Nat) (w:World) (hL:Gd.Lists w gC gE gI c E I) (hL2:Gd.Lists w hC hE hI c E I) (e0:t 0=s 0) (e1:t 1≠s 1) :
  Calls Tryz.prog 20 #[.agg (Gd.world s gC gE gI cC cE cI g),.agg (Gd.world t hC hE hI dC dE dI g)] w fun e w'=>(∃a cap,e=.returned (.slice a 1 cap))∧w.grownBy w' none:=by
 obtain ⟨W,hW⟩:∃W,W=(w.alloc (.cells (Gd.world s gC gE gI cC cE cI g) 30)).alloc (.cells (Gd.world t hC hE hI dC dE dI g) 30):=⟨_,rfl⟩
 have hg:w.grownBy W none:=by rw [hW];exact gal (World.grownBy_alloc _ _ _) _
 have x1:Lie W w.heap.size 30 11 (Gd.box s gC gE gI cC cE cI g):=by
  rw [hW]
  exact ((Arr.world (heap_alloc_new w _)).alloc _).lie
 have x2:Lie W (w.heap.size+1) 30 11 (Gd.box t hC hE hI dC dE dI g):=by
  rw [hW]
  have h:=heap_alloc_new (w.alloc (.cells (Gd.world s gC gE gI cC cE cI g) 30)) (.cells (Gd.world t hC hE hI dC dE dI g) 30)
  rw [show (w.alloc (.cells (Gd.world s gC gE gI cC cE cI g) 30)).heap.size=w.heap.size+1 by simp] at h
  exact (Arr.world h).lie
 obtain ⟨B,hB⟩:∃B,w.heap.size=B:=⟨_,rfl⟩
 rw [hB] at x1 x2
 have x1':=hide x1
 have x2':=hide x2
 have hL':=hide (hL.on hg)
 have hL2':=hide (hL2.on hg)
 have hg':=hide hg
 obtain ⟨a0,a1,a2,a3,a4,a5,a6,a7,a8,a9,a10⟩:=x1.eleven
 obtain ⟨b0,b1,b2,b3,b4,b5,b6,b7,b8,b9,b10⟩:=x2.eleven
 rw [e0] at b0
 have hne:(s 1 != t 1)=true:=by simp;omega
 have keep:Hid (∀x,W.grownBy x none→(x.cell? ⟨B,5,none⟩=some (.slice (some ⟨gE,0,none⟩) 32 cE)∧x.cell? ⟨B,6,none⟩=some (.slice (some ⟨gI,0,none⟩) 40 cI)∧x.cell? ⟨B+1,5,none⟩=some (.slice (some ⟨hE,0,none⟩) 32 dE)∧x.cell? ⟨B+1,6,none⟩=some (.slice (some ⟨hI,0,none⟩) 40 dI))):=fun x h =>
  ⟨((uh x1').on h).eleven.2.2.2.2.2.1,((uh x1').on h).eleven.2.2.2.2.2.2.1,((uh x2').on h).eleven.2.2.2.2.2.1,((uh x2').on h).eleven.2.2.2.2.2.2.1⟩
 have HB:Hid (w.heap.size=B):=hB
 have HW:Hid (W.heap.size=B+2):=by
  show W.heap.size=B+2
  rw [hW,←hB]
  simp
 clear hL hL2 hg x1 x2 e0 e1
 unfold Gd.world at hW ⊢
 obtain ⟨i0,hi,hz0,hz1,hz2⟩:=info_parts info_row
 go_enter Tryz.func20,Tryz.ntmps20
 go_upto_region 1 with fail
 rw [←hW]
 clear hW hB
 go_wp2_with (at_builtin;refine wpList_append_own _ rfl _ _ 47 rfl B 78 i0 (.agg #[.int .i64 0,.int .i64 0]) 2 16 Tryz.underlying47 hi hz0 hz1 hz2 rfl (by decide) _ _ _ rfl (World.ownsRow_nil _ _ _ _) ⟨W.heap.size,0,none⟩ 1 1 [.int .i64 0,.int .i64 0] rfl rfl ?_ ?_ ?_ ?_ ?_ ?_)
 ·exact row_news _ _ _ _
 ·intro u hu
  simp only [List.mem_cons,List.not_mem_nil,or_false] at hu
  rcases hu with rfl | rfl <;> rfl
 ·unfold maxLen;omega
 ·omega
 ·have:=uh HW
  simp
  omega
 intro v5 w5 hown5 hgrow5 _
 have hg5:W.grownBy w5 none:=gow (World.grownBy_alloc W _ none) hgrow5 (by intro m hm;simp [Value.ownBlock] at hm)
 obtain ⟨ga,cap5,rfl⟩:∃a cap,v5=.slice a 1 cap:=by
  obtain ⟨_,⟨_,h⟩ | ⟨g5,cap5,cur,h,_⟩⟩:=hown5
  ·omega
  ·exact ⟨_,_,h⟩
 clear hown5 hgrow5 hi hz0 hz1 hz2 hne a0 a1 a2 a3 a4 a5 a6 a7 a8 a9 a10 b0 b1 b2 b3 b4 b5 b6 b7 b8 b9 b10
 have h5:=hide hg5
 have y1:=hide ((uh x1').on hg5)
 have y2:=hide ((uh x2').on hg5)
 have a4:=(uh y1).eleven.2.2.2.2.1
 have b4:=(uh y2).eleven.2.2.2.2.1
 have t1:=((uh hL').on hg5).cells.text (cap:=cC)
 have t2:=((uh hL2').on hg5).cells.text (cap:=dC)
 obtain ⟨X,hX⟩:∃X,X=Gd.text c:=⟨_,rfl⟩
 rw [←hX] at t1 t2
 clear hg5 hX
 go_wp2_with fail
 go_loopw [5,6] (fun vr vi wr=>∃k:Nat,k≤32∧vr=.slice ga 1 cap5∧vi=.int .i64 (k:Int)∧W.grownBy wr none) (fun _ vi _=>200 - (intOf vi).toNat)
 case atStart=>exact ⟨0,by omega,rfl,rfl,uh h5⟩
 case round =>
  clear t1 t2 a4 b4 h5 y1 y2
  obtain ⟨k,hk,rfl,rfl,hgr⟩:=hrel
  have hgr':=hide hgr
  obtain ⟨k1,k2,k3,k4⟩:=uh keep wr hgr
  clear hgr
  by_cases hlt:k<32
  ·have hlt':(k:Int)<32:=by omega
   obtain ⟨u0,u1,u2,u3,u4,u5,u6,u7,u8,u9,u10⟩:=((uh hL').on (uh hgr')).own.ents.row hlt
   obtain ⟨v0,v1,v2,v3,v4,v5,v6,v7,v8,v9,v10⟩:=((uh hL2').on (uh hgr')).own.ents.row hlt
   have hdr:Hid (∀m,W.grownBy (wr.drewN m) none):=fun m=>gdw (uh hgr') m
   have HL:=hide hlt
   clear hlt
   go_wp2_with fail
   go_quiet (fail)
   go_wp2
   go_roundw
   case rel=>exact ⟨k+1,by have:=uh HL;omega,rfl,by go_num,uh hdr _⟩
   case measure=>simp [intOf];omega
  ·have hge:¬(k:Int)<32:=by omega
   clear hlt
   go_wp2_with fail
   go_loopw [5,7] (fun vr vi wr=>∃k:Nat,k≤40∧vr=.slice ga 1 cap5∧vi=.int .i64 (k:Int)∧W.grownBy wr none) (fun _ vi _=>200 - (intOf vi).toNat)
   case atStart=>exact ⟨0,by omega,rfl,rfl,uh hgr'⟩
   case round =>
    clear k1 k2 k3 k4 hge hgr'
    obtain ⟨k,hk,rfl,rfl,hgr⟩:=hrel
    have hgr':=hide hgr
    obtain ⟨k1,k2,k3,k4⟩:=uh keep wr hgr
    clear hgr
    by_cases hlt:k<40
    ·have hlt':(k:Int)<40:=by omega
     obtain ⟨u0,u1,u2,u3⟩:=((uh hL').on (uh hgr')).its.row hlt
     obtain ⟨v0,v1,v2,v3⟩:=((uh hL2').on (uh hgr')).its.row hlt
     have hdr:Hid (∀m,W.grownBy (wr.drewN m) none):=fun m=>gdw (uh hgr') m
     have HL:=hide hlt
     clear hlt
     go_wp2_with fail
     go_quiet (fail)
     go_wp2
     go_roundw
     case rel=>exact ⟨k+1,by have:=uh HL;omega,rfl,by go_num,uh hdr _⟩
     case measure=>simp [intOf];omega
    ·have hge:¬(k:Int)<40:=by omega
     have hfin:=hide (gtr (uh hg') (uh hgr'))
     go_wp2
     go_ret
     exact ⟨⟨ga,cap5,rfl⟩,uh hfin⟩

end Go.Proofs.YtbanjoflgoiegaaGreat
