import Derived.Test.YtldgbkjceildfaaGreatBy25
import Derived.Test.YtldgbkjceildfaaGreatBy29
namespace Go.Proofs.YtldgbkjceildfaaGreat
open Go.RowKit

def Sn.allB (q:Nat→Bool):Nat→Bool
 | 0=>true
 | n+1=>Sn.allB q n && q n

theorem Sn.allB_yes {q:Nat→Bool}:∀{n:Nat},(∀k,k<n→q k=true)→Sn.allB q n=true
 | 0,_=>rfl
 | n+1,h=>by
  show (Sn.allB q n && q n)=true;rw [Sn.allB_yes (fun k hk=>h k (by omega)),h n (by omega)];rfl

theorem Sn.allB_no {q:Nat→Bool} {k:Nat} (hk:q k=false):∀{n:Nat},k<n→Sn.allB q n=false
 | 0,h=>absurd h (by omega)
 | n+1,h=>by
  show (Sn.allB q n && q n)=false;by_cases e:k=n
  ·rw [←e,hk,Bool.and_false]
  ·rw [Sn.allB_no hk (by omega),Bool.false_and]


open Go.RowKit

def Sn.sameG (g h:Nat→Int):Bool:=decide (g 0=h 0) && (decide (g 1=h 1) && (decide (g 2=h 2) && decide (g 3=h 3)))
def Sn.sameH (s t g h:Nat→Int):Bool:=decide (s 0=t 0) && (decide (s 1=t 1) && (decide (s 2=t 2) && (decide (s 3=t 3) && Sn.sameG g h)))

theorem Sn.sameG_iff (g h:Nat→Int):Sn.sameG g h=true↔∀j,j<4→g j=h j:=by
 unfold Sn.sameG;simp only [Bool.and_eq_true,decide_eq_true_eq];constructor
 ·rintro ⟨h0,h1,h2,h3⟩ j hj;rcases (show j=0∨j=1∨j=2∨j=3 by omega) with rfl|rfl|rfl|rfl <;> assumption
 ·intro h;exact ⟨h 0 (by omega),h 1 (by omega),h 2 (by omega),h 3 (by omega)⟩

theorem Sn.sameH_iff (s t g h:Nat→Int):Sn.sameH s t g h=true↔(∀j,j<4→s j=t j)∧∀j,j<4→g j=h j:=by
 unfold Sn.sameH;simp only [Bool.and_eq_true,decide_eq_true_eq,Sn.sameG_iff];constructor
 ·rintro ⟨h0,h1,h2,h3,h4⟩;refine ⟨fun j hj=>?_,h4⟩;rcases (show j=0∨j=1∨j=2∨j=3 by omega) with rfl|rfl|rfl|rfl <;> assumption
 ·rintro ⟨h,k⟩;exact ⟨h 0 (by omega),h 1 (by omega),h 2 (by omega),h 3 (by omega),k⟩

theorem run_equal_gold (d:Nat) (g h:Nat→Int) (w:World):(Op.equalIn (d+2) 28 (.agg #[.int .i64 (g 0),.int .i64 (g 1),.int .i64 (g 2),.int .i64 (g 3)]) (.agg #[.int .i64 (h 0),.int .i64 (h 1),.int .i64 (h 2),.int .i64 (h 3)])).run Tryz.prog w=.ok (Sn.sameG g h) w:=by
 obtain ⟨i0,hi,_,_,_⟩:=info_parts info_int;have hc:Tryz.prog.cellsOf 3=1:=by kernel_rfl
 have hh:=run_equalIn_array (P:=Tryz.prog) (w:=w) (d+1) #[.int .i64 (g 0),.int .i64 (g 1),.int .i64 (g 2),.int .i64 (g 3)] #[.int .i64 (h 0),.int .i64 (h 1),.int .i64 (h 2),.int .i64 (h 3)] Tryz.underlying28 hi;have hr:(Op.eqItems (d+1) 3 (Tryz.prog.cellsOf 3) #[Value.int .i64 (g 0),.int .i64 (g 1),.int .i64 (g 2),.int .i64 (g 3)] #[.int .i64 (h 0),.int .i64 (h 1),.int .i64 (h 2),.int .i64 (h 3)] (List.range 4)).run Tryz.prog w=.ok (Sn.sameG g h) w:=by
  rw [hc];unfold Sn.sameG;by_cases h0:g 0=h 0
  ·by_cases h1:g 1=h 1
   ·by_cases h2:g 2=h 2
    ·by_cases h3:g 3=h 3 <;> simp [List.range,List.range.loop,Op.eqItems,go_sem,h0,h1,h2,h3]
    ·simp [List.range,List.range.loop,Op.eqItems,go_sem,h0,h1,h2]
   ·simp [List.range,List.range.loop,Op.eqItems,go_sem,h0,h1]
  ·simp [List.range,List.range.loop,Op.eqItems,go_sem,h0]
 rw [hr] at hh;exact hh


open Go.RowKit

theorem Sn.text_eq {c d:Nat→Int} (hc:∀i,0≤c i∧c i≤255) (hd:∀i,0≤d i∧d i≤255):Gd.text c=Gd.text d↔∀i,i<384→c i=d i:=by
 constructor
 ·intro e i hi;have e2:(Gd.text c).data.toList=(Gd.text d).data.toList:=by rw [e]
  unfold Gd.text at e2;rw [strOfNums_data,strOfNums_data,List.map_map,List.map_map] at e2;have e3:=congrArg (fun l:List UInt8=>l[i]?) e2;simp [List.getElem?_map,List.getElem?_range hi] at e3;have e4:=congrArg UInt8.toNat e3;simp at e4;have h1:=hc i;have h2:=hd i;omega
 ·intro e;unfold Gd.text;congr 1;exact List.map_congr_left fun i hi=>e i (List.mem_range.1 hi)

theorem Sn.text_ne {c d:Nat→Int} (hc:∀i,0≤c i∧c i≤255) (hd:∀i,0≤d i∧d i≤255):((Gd.text c).toList == (Gd.text d).toList)=Sn.allB (fun i=>c i == d i) 384:=by
 by_cases e:∀i,i<384→c i=d i
 ·rw [Sn.allB_yes fun i hi=>by simpa using e i hi,(Sn.text_eq hc hd).2 e];simp
 ·have hn:(Gd.text c).toList≠(Gd.text d).toList:=fun q=>by
   rw [ByteArray.toList_eq,ByteArray.toList_eq] at q;exact e ((Sn.text_eq hc hd).1 (congrArg ByteArray.mk (Array.toList_inj.1 q)))
  have hx:∃i,i<384∧c i≠d i:=Classical.byContradiction fun q=>e fun i hi=>Classical.byContradiction fun r=>q ⟨i,hi,r⟩;obtain ⟨i,hi,hne⟩:=hx;rw [Sn.allB_no (k:=i) (by simpa using hne) hi];simpa using hn

theorem run_ne_gold (g h:Nat→Int) (w:World):(binOp .neq 28 (.agg #[.int .i64 (g 0),.int .i64 (g 1),.int .i64 (g 2),.int .i64 (g 3)]) (.agg #[.int .i64 (h 0),.int .i64 (h 1),.int .i64 (h 2),.int .i64 (h 3)])).run Tryz.prog w=.ok (.bool (!Sn.sameG g h)) w:=by
 have hg:=fun d w=>run_equal_gold d g h w;generalize Sn.sameG g h=q at hg ⊢;simp [go_sem,hg]

theorem Sn.sameH_no_s {s t g h:Nat→Int} {j:Nat} (hj:j<4) (hn:s j≠t j):Sn.sameH s t g h=false:=by
 cases e:Sn.sameH s t g h with
 | false=>rfl
 | true=>exact absurd (((Sn.sameH_iff s t g h).1 e).1 j hj) hn


open Go.RowKit

def Sn.sameW (s t g h c d:Nat→Int) (E F I J:Nat→Nat→Int):Bool :=
 Sn.sameH s t g h && (Sn.allB (fun i=>c i == d i) 384 && (Sn.allB (fun i=>Sn.sameE (E i) (F i)) 32 && Sn.allB (fun i=>Sn.sameI (I i) (J i)) 40))


open Go.RowKit

set_option maxRecDepth 16000 in
set_option maxHeartbeats 12800000 in
theorem same7_two (s t g h c d:Nat→Int) (E F I J:Nat→Nat→Int) (gC gE gI cC cE cI jC jE jI dC dE dI:Nat) (w:World) (hL:Gd.Lists w gC gE gI c E I) (hL2:Gd.Lists w jC jE jI d F J) (hc:∀i,0≤c i∧c i≤255) (hd:∀i,0≤d i∧d i≤255) :
  Calls Tryz.prog 15 #[.agg (Gd.world s gC gE gI cC cE cI g),.agg (Gd.world t jC jE jI dC dE dI h)] w (Says w (.bool (Sn.sameW s t g h c d E F I J))):=by
 obtain ⟨W0,hW⟩:∃W,W=(w.alloc (.cells (Gd.world s gC gE gI cC cE cI g) 30)).alloc (.cells (Gd.world t jC jE jI dC dE dI h) 30):=⟨_,rfl⟩;have hg:w.grownBy W0 none:=by rw [hW];exact gal (World.grownBy_alloc _ _ _) _
 have x1:Lie W0 w.heap.size 30 11 (Gd.box s gC gE gI cC cE cI g):=by
  rw [hW];exact ((Arr.world (heap_alloc_new w _)).alloc _).lie
 have x2:Lie W0 (w.heap.size+1) 30 11 (Gd.box t jC jE jI dC dE dI h):=by
  rw [hW];have hh:=heap_alloc_new (w.alloc (.cells (Gd.world s gC gE gI cC cE cI g) 30)) (.cells (Gd.world t jC jE jI dC dE dI h) 30);rw [show (w.alloc (.cells (Gd.world s gC gE gI cC cE cI g) 30)).heap.size=w.heap.size+1 by simp] at hh;exact (Arr.world hh).lie
 obtain ⟨B,hB⟩:∃B,w.heap.size=B:=⟨_,rfl⟩;rw [hB] at x1 x2;have x1':=hide x1;have x2':=hide x2;have hL':=hide (hL.on hg);have hL2':=hide (hL2.on hg);have hg':=hide hg;have t1:=(uh hL').cells.text (cap:=cC);have t2:=(uh hL2').cells.text (cap:=dC);obtain ⟨X,hX⟩:∃T,Gd.text c=T:=⟨_,rfl⟩;obtain ⟨Y,hY⟩:∃T,Gd.text d=T:=⟨_,rfl⟩;obtain ⟨k1,e1⟩:∃k,Sn.allB (fun i=>c i == d i) 384=k:=⟨_,rfl⟩;have hXY:(X.toList == Y.toList)=k1:=by rw [←hX,←hY,←e1];exact Sn.text_ne hc hd
 rw [hX] at t1;rw [hY] at t2;obtain ⟨a0,a1,a2,a3,a4,a5,a6,a7,a8,a9,a10⟩:=x1.eleven;obtain ⟨b0,b1,b2,b3,b4,b5,b6,b7,b8,b9,b10⟩:=x2.eleven;have keep:Hid (∀x,W0.grownBy x none→(x.cell? ⟨B,5,none⟩=some (.slice (some ⟨gE,0,none⟩) 32 cE)∧x.cell? ⟨B,6,none⟩=some (.slice (some ⟨gI,0,none⟩) 40 cI)∧x.cell? ⟨B+1,5,none⟩=some (.slice (some ⟨jE,0,none⟩) 32 dE)∧x.cell? ⟨B+1,6,none⟩=some (.slice (some ⟨jI,0,none⟩) 40 dI))):=fun x h =>
  ⟨((uh x1').on h).eleven.2.2.2.2.2.1,((uh x1').on h).eleven.2.2.2.2.2.2.1,((uh x2').on h).eleven.2.2.2.2.2.1,((uh x2').on h).eleven.2.2.2.2.2.2.1⟩
 have hgold:=fun wx=>run_ne_gold g h wx;obtain ⟨D,hD⟩:∃D,Says w (.bool (Sn.sameW s t g h c d E F I J))=D:=⟨_,rfl⟩;have hyes:Hid (∀x,W0.grownBy x none→Sn.sameW s t g h c d E F I J=true→D (.returned (.bool true)) x):=fun x hx e=>by
  rw [←hD,e];exact ⟨rfl,gtr (uh hg') hx⟩
 have hno:Hid (∀x,W0.grownBy x none→Sn.sameW s t g h c d E F I J=false→D (.returned (.bool false)) x):=fun x hx e=>by
  rw [←hD,e];exact ⟨rfl,gtr (uh hg') hx⟩
 have hW4:Hid (∀j,j<4→s j≠t j→Sn.sameW s t g h c d E F I J=false):=fun j hj hn=>by
  unfold Sn.sameW;rw [Sn.sameH_no_s hj hn];rfl
 have hWg:Hid (Sn.sameG g h=false→Sn.sameW s t g h c d E F I J=false):=fun e=>by
  unfold Sn.sameW Sn.sameH;rw [e];simp
 have hWc:Hid (k1=false→Sn.sameW s t g h c d E F I J=false):=fun e=>by
  unfold Sn.sameW;rw [e1,e];simp
 have hWe:Hid (∀k,k<32→Sn.sameE (E k) (F k)=false→Sn.sameW s t g h c d E F I J=false):=fun k hk e=>by
  unfold Sn.sameW;rw [Sn.allB_no (q:=fun i=>Sn.sameE (E i) (F i)) (k:=k) e hk];simp
 have hWi:Hid (∀k,k<40→Sn.sameI (I k) (J k)=false→Sn.sameW s t g h c d E F I J=false):=fun k hk e=>by
  unfold Sn.sameW;rw [Sn.allB_no (q:=fun i=>Sn.sameI (I i) (J i)) (k:=k) e hk];simp
 have hWy:Hid ((∀j,j<4→s j=t j)→Sn.sameG g h=true→k1=true→(∀k,k<32→Sn.sameE (E k) (F k)=true)→(∀k,k<40→Sn.sameI (I k) (J k)=true)→Sn.sameW s t g h c d E F I J=true):=fun h1 h2 h3 h4 h5=>by
  unfold Sn.sameW;rw [(Sn.sameH_iff s t g h).2 ⟨h1,(Sn.sameG_iff g h).1 h2⟩,e1,h3,Sn.allB_yes (q:=fun i=>Sn.sameE (E i) (F i)) fun k hk=>h4 k hk,Sn.allB_yes (q:=fun i=>Sn.sameI (I i) (J i)) fun k hk=>h5 k hk];rfl
 rw [hD];obtain ⟨m,hm⟩:∃m,Sn.sameG g h=m:=⟨_,rfl⟩;rw [hm] at hgold hWg hWy;clear hL hL2 hg hX hY x1 x2 e1 hD hm hc hd;unfold Gd.world at hW ⊢;go_enter Tryz.func15,Tryz.ntmps15;go_upto_region 1 with fail;rw [←hW];clear hW hB;by_cases q0:s 0=t 0
 ·have r0:(s 0 != t 0)=false:=by simp [q0]
  clear q0;by_cases q1:s 1=t 1
  ·have r1:(s 1 != t 1)=false:=by simp [q1]
   clear q1;by_cases q2:s 2=t 2
   ·have r2:(s 2 != t 2)=false:=by simp [q2]
    clear q2;by_cases q3:s 3=t 3
    ·have r3:(s 3 != t 3)=false:=by simp [q3]
     clear q3;have HS:Hid (∀j,j<4→s j=t j):=fun j hj=>by
      have e0:s 0=t 0:=by simpa using r0
      have e1:s 1=t 1:=by simpa using r1
      have e2:s 2=t 2:=by simpa using r2
      have e3:s 3=t 3:=by simpa using r3
      rcases (show j=0∨j=1∨j=2∨j=3 by omega) with rfl|rfl|rfl|rfl <;> assumption
     cases m with
     | false =>
      have hn:=hide (uh hno W0 (World.grownBy.refl _ _) (uh hWg rfl));go_wp2;exact uh hn
     | true =>
      cases k1 with
      | false =>
       have hn:=hide (uh hno W0 (World.grownBy.refl _ _) (uh hWc rfl));have hXY':(X.toList == Y.toList)=false:=hXY;clear hXY;go_wp2;exact uh hn
      | true =>
       have hXY':(X.toList == Y.toList)=true:=hXY;clear hXY;have hW5:=hide (uh hWy (uh HS) rfl rfl);clear hWy hWg hWc hW4;go_wp2_with fail
       go_loopw [5] (fun vi wr=>∃k:Nat,k≤32∧vi=.int .i64 (k:Int)∧Hid (∀i,i<k→Sn.sameE (E i) (F i)=true)∧W0.grownBy wr none) (fun vi _=>200 - (intOf vi).toNat)
       case atStart=>exact ⟨0,by omega,rfl,fun i hi=>absurd hi (by omega),World.grownBy.refl _ _⟩
       case round =>
        clear hgold t1 t2 a0 a1 a2 a3 a4 a5 a6 a7 a8 a9 a10 b0 b1 b2 b3 b4 b5 b6 b7 b8 b9 b10 hXY' r0 r1 r2 r3;obtain ⟨k,hk,rfl,hall,hgr⟩:=hrel;have hgr':=hide hgr;obtain ⟨k1,k2,k3,k4⟩:=uh keep wr hgr;clear hgr;by_cases hlt:k<32
        ·have hlt':(k:Int)<32:=by omega
         obtain ⟨u0,u1,u2,u3,u4,u5,u6,u7,u8,u9,u10⟩:=((uh hL').on (uh hgr')).own.ents.row hlt;obtain ⟨s0,s1,s2,s3,s4,s5,s6,s7,s8,s9,s10⟩:=((uh hL2').on (uh hgr')).own.ents.row hlt;have hdr:Hid (∀m,W0.grownBy (wr.drewN m) none):=fun m=>gdw (uh hgr') m;have hcmp:∀wx:World,(binOp .neq 70 (.agg #[.int .i64 (E k 0),.int .i64 (E k 1),.int .i64 (E k 2),.int .i64 (E k 3),.int .i64 (E k 4),.int .i64 (E k 5),.int .i64 (E k 6),.int .i64 (E k 7),.int .i64 (E k 8),.int .i64 (E k 9),.int .i64 (E k 10)]) (.agg #[.int .i64 (F k 0),.int .i64 (F k 1),.int .i64 (F k 2),.int .i64 (F k 3),.int .i64 (F k 4),.int .i64 (F k 5),.int .i64 (F k 6),.int .i64 (F k 7),.int .i64 (F k 8),.int .i64 (F k 9),.int .i64 (F k 10)])).run Tryz.prog wx=.ok (.bool (!Sn.sameE (E k) (F k))) wx:=fun wx=>run_ne_ent (E k) (F k) wx;obtain ⟨p,hp⟩:∃p,Sn.sameE (E k) (F k)=p:=⟨_,rfl⟩;have HP:=hide hp;rw [hp] at hcmp;have HL:=hide hlt;clear hlt hp;cases p with
         | true =>
          have hall2:Hid (∀i,i<k+1→Sn.sameE (E i) (F i)=true):=fun i hi=>by
           by_cases e:i=k
           ·rw [e];exact uh HP
           ·exact uh hall i (by omega)
          go_wp2_with fail;go_quiet (fail);go_wp2;go_roundw;case rel=>exact ⟨k+1,by have:=uh HL;omega,by go_num,hall2,uh hdr _⟩
          case measure=>simp [intOf];have:=uh HL;omega
         | false =>
          have hn:=hide (fun m=>uh hno _ (uh hdr m) (uh hWe k (uh HL) (uh HP)));go_wp2_with fail;go_quiet (fail);go_wp2;exact uh hn _
        ·have hge:¬(k:Int)<32:=by omega
         have hallE:Hid (∀i,i<32→Sn.sameE (E i) (F i)=true):=fun i hi=>uh hall i (by omega);have hW6:=hide (uh hW5 (uh hallE));clear hlt;go_wp2_with fail
         go_loopw [6] (fun vi wr=>∃k:Nat,k≤40∧vi=.int .i64 (k:Int)∧Hid (∀i,i<k→Sn.sameI (I i) (J i)=true)∧W0.grownBy wr none) (fun vi _=>200 - (intOf vi).toNat)
         case atStart=>exact ⟨0,by omega,rfl,fun i hi=>absurd hi (by omega),uh hgr'⟩
         case round =>
          clear k1 k2 k3 k4 hge hgr' hall hallE hk;obtain ⟨k,hk,rfl,hall,hgr⟩:=hrel;have hgr':=hide hgr;obtain ⟨k1,k2,k3,k4⟩:=uh keep wr hgr;clear hgr;by_cases hlt:k<40
          ·have hlt':(k:Int)<40:=by omega
           obtain ⟨u0,u1,u2,u3⟩:=((uh hL').on (uh hgr')).its.row hlt;obtain ⟨s0,s1,s2,s3⟩:=((uh hL2').on (uh hgr')).its.row hlt;have hdr:Hid (∀m,W0.grownBy (wr.drewN m) none):=fun m=>gdw (uh hgr') m;have hcmp:∀wx:World,(binOp .neq 72 (.agg #[.int .i64 (I k 0),.int .i64 (I k 1),.int .i64 (I k 2),.int .i64 (I k 3)]) (.agg #[.int .i64 (J k 0),.int .i64 (J k 1),.int .i64 (J k 2),.int .i64 (J k 3)])).run Tryz.prog wx=.ok (.bool (!Sn.sameI (I k) (J k))) wx:=fun wx=>run_ne_item (I k 0) (I k 1) (I k 2) (I k 3) (J k 0) (J k 1) (J k 2) (J k 3) wx;obtain ⟨p,hp⟩:∃p,Sn.sameI (I k) (J k)=p:=⟨_,rfl⟩;have HP:=hide hp;rw [hp] at hcmp;have HL:=hide hlt;clear hlt hp;cases p with
           | true =>
            have hall2:Hid (∀i,i<k+1→Sn.sameI (I i) (J i)=true):=fun i hi=>by
             by_cases e:i=k
             ·rw [e];exact uh HP
             ·exact uh hall i (by omega)
            go_wp2_with fail;go_quiet (fail);go_wp2;go_roundw;case rel=>exact ⟨k+1,by have:=uh HL;omega,by go_num,hall2,uh hdr _⟩
            case measure=>simp [intOf];have:=uh HL;omega
           | false =>
            have hn:=hide (fun m=>uh hno _ (uh hdr m) (uh hWi k (uh HL) (uh HP)));go_wp2_with fail;go_quiet (fail);go_wp2;exact uh hn _
          ·have hge:¬(k:Int)<40:=by omega
           have hfin:=hide (uh hyes _ (uh hgr') (uh hW6 fun i hi=>uh hall i (by omega)));clear hlt hk;go_wp2;exact uh hfin
    ·have r3:(s 3 != t 3)=true:=by simp [q3]
     have hn:=hide (uh hno W0 (World.grownBy.refl _ _) (uh hW4 3 (by omega) q3));clear q3;go_wp2;exact uh hn
   ·have r2:(s 2 != t 2)=true:=by simp [q2]
    have hn:=hide (uh hno W0 (World.grownBy.refl _ _) (uh hW4 2 (by omega) q2));clear q2;go_wp2;exact uh hn
  ·have r1:(s 1 != t 1)=true:=by simp [q1]
   have hn:=hide (uh hno W0 (World.grownBy.refl _ _) (uh hW4 1 (by omega) q1));clear q1;go_wp2;exact uh hn
 ·have r0:(s 0 != t 0)=true:=by simp [q0]
  have hn:=hide (uh hno W0 (World.grownBy.refl _ _) (uh hW4 0 (by omega) q0));clear q0;go_wp2;exact uh hn


open Go.RowKit

def Sn.Li (x:World) (T:TypeId) (z:Nat) (v:Value) (n:Nat) (F:Nat→Value):Prop :=
 (v=.slice none 0 0∧n=0)∨∃g cap,v=.slice (some ⟨g,0,none⟩) n cap∧Lie x g T (n*z) F

theorem Sn.Li.on {x y:World} {T:TypeId} {z n:Nat} {v:Value} {F:Nat→Value} (h:Sn.Li x T z v n F) (hg:x.grownBy y none):Sn.Li y T z v n F:=by
 rcases h with h|⟨g,cap,h1,h4⟩
 ·exact .inl h
 ·exact .inr ⟨g,cap,h1,h4.on hg⟩

theorem Sn.Li.is {x:World} {T:TypeId} {z n:Nat} {v:Value} {F:Nat→Value} (h:Sn.Li x T z v n F):∃a cap,v=.slice a n cap:=by
 rcases h with ⟨rfl,rfl⟩|⟨g,cap,h1,h4⟩
 ·exact ⟨none,0,rfl⟩
 ·exact ⟨_,cap,h1⟩

theorem Sn.Li.lie {x:World} {T:TypeId} {z n:Nat} {a:Option Addr} {c:Nat} {F:Nat→Value} (h:Sn.Li x T z (.slice a n c) n F) (h0:0<n):∃g,a=some ⟨g,0,none⟩∧Lie x g T (n*z) F:=by
 rcases h with ⟨_,h1⟩|⟨g,cap,h1,h4⟩
 ·omega
 ·simp only [Value.slice.injEq] at h1;exact ⟨g,h1.1,h4⟩

theorem Sn.Li.src {x:World} {n:Nat} {v:Value} {c:Nat→Int} (h:Sn.Li x 5 1 v n (Byts c)):Ck.Src x v ((List.range n).map c):=by
 rcases h with ⟨rfl,rfl⟩|⟨g,cap,rfl,h4⟩
 ·exact .inl ⟨rfl,rfl⟩
 ·refine .inr ⟨⟨g,0,none⟩,cap,by simp,fun j u hj=>?_⟩;unfold Ck.bys at hj;rw [List.getElem?_map,List.getElem?_map] at hj;by_cases hjn:j<n
  ·rw [List.getElem?_range hjn] at hj;simp only [Option.map_some,Option.some.injEq] at hj;rw [Go.WideShapes.add_plain,Nat.zero_add,h4.cell (by omega),←hj];rfl
  ·rw [List.getElem?_eq_none (by simpa using hjn)] at hj;cases hj

def Sn.wide (s g:Nat→Int) (vC vE vI:Value):Array Value :=
 #[.int .i64 (s 0),.int .i64 (s 1),.int .i64 (s 2),.int .i64 (s 3),vC,vE,vI,.int .i64 (g 0),.int .i64 (g 1),.int .i64 (g 2),.int .i64 (g 3)]

structure Sn.Lis (x:World) (vC vE vI:Value) (nC nE nI:Nat) (c:Nat→Int) (E I:Nat→Nat→Int):Prop where
 cells:Sn.Li x 5 1 vC nC (Byts c)
 ents:Sn.Li x 70 11 vE nE (En.flat E)
 items:Sn.Li x 72 4 vI nI (Gd.flat I)
 capE:∀a m cap,vE=.slice a m cap→m≤cap

theorem Sn.Lis.on {x y:World} {vC vE vI:Value} {nC nE nI:Nat} {c:Nat→Int} {E I:Nat→Nat→Int} (h:Sn.Lis x vC vE vI nC nE nI c E I) (hg:x.grownBy y none):Sn.Lis y vC vE vI nC nE nI c E I :=
 ⟨h.cells.on hg,h.ents.on hg,h.items.on hg,h.capE⟩

theorem Sn.sameE_refl (e:Nat→Int):Sn.sameE e e=true:=(Sn.sameE_iff e e).2 fun _ _=>rfl

theorem Sn.sameG_refl (g:Nat→Int):Sn.sameG g g=true:=(Sn.sameG_iff g g).2 (fun _ _=>rfl)

set_option maxRecDepth 16000 in
set_option maxHeartbeats 12800000 in
theorem same7_alike (s g c:Nat→Int) (E I:Nat→Nat→Int) (vC vE vI uC uE uI:Value) (nC nE nI:Nat) (w:World) (hL:Sn.Lis w vC vE vI nC nE nI c E I) (hL2:Sn.Lis w uC uE uI nC nE nI c E I) (hE:nE≤32) (hI:nI≤60) :
  Calls Tryz.prog 15 #[.agg (Sn.wide s g vC vE vI),.agg (Sn.wide s g uC uE uI)] w (Says w (.bool true)):=by
 have q1:=hL.cells.src.text;have q2:=hL2.cells.src.text;obtain ⟨aC,kC,rfl⟩:=hL.cells.is;obtain ⟨aE,kE,rfl⟩:=hL.ents.is;obtain ⟨aI,kI,rfl⟩:=hL.items.is;obtain ⟨bC,jC,rfl⟩:=hL2.cells.is;obtain ⟨bE,jE,rfl⟩:=hL2.ents.is;obtain ⟨bI,jI,rfl⟩:=hL2.items.is;obtain ⟨W0,hW⟩:∃W,W=(w.alloc (.cells (Sn.wide s g (.slice aC nC kC) (.slice aE nE kE) (.slice aI nI kI)) 30)).alloc (.cells (Sn.wide s g (.slice bC nC jC) (.slice bE nE jE) (.slice bI nI jI)) 30):=⟨_,rfl⟩;have hg:w.grownBy W0 none:=by rw [hW];exact gal (World.grownBy_alloc _ _ _) _
 have t1:=(hL.on hg).cells.src.text;have t2:=(hL2.on hg).cells.src.text;clear q1 q2;have x1:Lie W0 w.heap.size 30 11 (fun j=>(Sn.wide s g (.slice aC nC kC) (.slice aE nE kE) (.slice aI nI kI))[j]?.getD undef):=by
  rw [hW];exact ((Arr.lit (heap_alloc_new w _)).alloc _).lie
 have x2:Lie W0 (w.heap.size+1) 30 11 (fun j=>(Sn.wide s g (.slice bC nC jC) (.slice bE nE jE) (.slice bI nI jI))[j]?.getD undef):=by
  rw [hW];have hh:=heap_alloc_new (w.alloc (.cells (Sn.wide s g (.slice aC nC kC) (.slice aE nE kE) (.slice aI nI kI)) 30)) (.cells (Sn.wide s g (.slice bC nC jC) (.slice bE nE jE) (.slice bI nI jI)) 30);rw [show (w.alloc (.cells (Sn.wide s g (.slice aC nC kC) (.slice aE nE kE) (.slice aI nI kI)) 30)).heap.size=w.heap.size+1 by simp] at hh;exact (Arr.lit hh).lie
 obtain ⟨B,hB⟩:∃B,w.heap.size=B:=⟨_,rfl⟩;rw [hB] at x1 x2;have x1':=hide x1;have x2':=hide x2;have hL':=hide (hL.on hg);have hL2':=hide (hL2.on hg);have hg':=hide hg;obtain ⟨X,hX⟩:∃T,strOfNums ((List.range nC).map c)=T:=⟨_,rfl⟩;rw [hX] at t1 t2;have row:∀{z:World} {p:Nat} {K:Nat→Value},Lie z p 30 11 K→z.cell? ⟨p,0,none⟩=some (K 0)∧z.cell? ⟨p,1,none⟩=some (K 1)∧z.cell? ⟨p,2,none⟩=some (K 2)∧z.cell? ⟨p,3,none⟩=some (K 3)∧z.cell? ⟨p,4,none⟩=some (K 4)∧z.cell? ⟨p,5,none⟩=some (K 5)∧z.cell? ⟨p,6,none⟩=some (K 6)∧z.cell? ⟨p,7,none⟩=some (K 7)∧z.cell? ⟨p,8,none⟩=some (K 8)∧z.cell? ⟨p,9,none⟩=some (K 9)∧z.cell? ⟨p,10,none⟩=some (K 10):=fun h=>⟨h.cell (by omega),h.cell (by omega),h.cell (by omega),h.cell (by omega),h.cell (by omega),h.cell (by omega),h.cell (by omega),h.cell (by omega),h.cell (by omega),h.cell (by omega),h.cell (by omega)⟩;have keep:Hid (∀x,W0.grownBy x none→(x.cell? ⟨B,5,none⟩=some (.slice aE nE kE)∧x.cell? ⟨B,6,none⟩=some (.slice aI nI kI)∧x.cell? ⟨B+1,5,none⟩=some (.slice bE nE jE)∧x.cell? ⟨B+1,6,none⟩=some (.slice bI nI jI))):=fun x h =>
  ⟨((uh x1').on h).cell (c:=5) (by omega),((uh x1').on h).cell (c:=6) (by omega),((uh x2').on h).cell (c:=5) (by omega),((uh x2').on h).cell (c:=6) (by omega)⟩
 obtain ⟨a0,a1,a2,a3,a4,a5,a6,a7,a8,a9,a10⟩:=row x1;obtain ⟨b0,b1,b2,b3,b4,b5,b6,b7,b8,b9,b10⟩:=row x2;clear row;have hgold:=fun wx=>run_ne_gold g g wx;rw [Sn.sameG_refl] at hgold;obtain ⟨D,hD⟩:∃D,Says w (.bool true)=D:=⟨_,rfl⟩;have hyes:Hid (∀x,W0.grownBy x none→D (.returned (.bool true)) x):=fun x hx=>by
  rw [←hD];exact ⟨rfl,gtr (uh hg') hx⟩
 rw [hD];have HE:=hide hE;have HI:=hide hI;have c1:(nE:Int)≤32:=by omega
 have c2:(nI:Int)≤60:=by omega
 clear hL hL2 hg hX x1 x2 hD hE hI;unfold Sn.wide at hW a0 a1 a2 a3 a4 a5 a6 a7 a8 a9 a10 b0 b1 b2 b3 b4 b5 b6 b7 b8 b9 b10 ⊢;simp only [List.getElem?_toArray,List.getElem?_cons_zero,List.getElem?_cons_succ,Option.getD_some] at a0 a1 a2 a3 a4 a5 a6 a7 a8 a9 a10 b0 b1 b2 b3 b4 b5 b6 b7 b8 b9 b10;go_enter Tryz.func15,Tryz.ntmps15;go_upto_region 1 with fail;rw [←hW];clear hW hB;go_wp2_with fail
 go_loopw [5] (fun vi wr=>∃k:Nat,k≤nE∧vi=.int .i64 (k:Int)∧W0.grownBy wr none) (fun vi _=>200 - (intOf vi).toNat)
 case atStart=>exact ⟨0,by omega,rfl,World.grownBy.refl _ _⟩
 case round =>
  clear hgold t1 t2 a0 a1 a2 a3 a4 a5 a6 a7 a8 a9 a10 b0 b1 b2 b3 b4 b5 b6 b7 b8 b9 b10;obtain ⟨k,hk,rfl,hgr⟩:=hrel;have hgr':=hide hgr;obtain ⟨k1,k2,k3,k4⟩:=uh keep wr hgr;clear hgr;by_cases hlt:k<nE
  ·have hlt':(k:Int)<(nE:Int):=by omega
   obtain ⟨gE,rfl,hGE⟩:=((uh hL').on (uh hgr')).ents.lie (by omega);obtain ⟨pE,rfl,hPE⟩:=((uh hL2').on (uh hgr')).ents.lie (by omega);obtain ⟨u0,u1,u2,u3,u4,u5,u6,u7,u8,u9,u10⟩:=(hGE.own (n:=nE) rfl (uh HE)).ents.row hlt;obtain ⟨s0,s1,s2,s3,s4,s5,s6,s7,s8,s9,s10⟩:=(hPE.own (n:=nE) rfl (uh HE)).ents.row hlt;have hdr:Hid (∀m,W0.grownBy (wr.drewN m) none):=fun m=>gdw (uh hgr') m;have hcmp:∀wx:World,(binOp .neq 70 (.agg #[.int .i64 (E k 0),.int .i64 (E k 1),.int .i64 (E k 2),.int .i64 (E k 3),.int .i64 (E k 4),.int .i64 (E k 5),.int .i64 (E k 6),.int .i64 (E k 7),.int .i64 (E k 8),.int .i64 (E k 9),.int .i64 (E k 10)]) (.agg #[.int .i64 (E k 0),.int .i64 (E k 1),.int .i64 (E k 2),.int .i64 (E k 3),.int .i64 (E k 4),.int .i64 (E k 5),.int .i64 (E k 6),.int .i64 (E k 7),.int .i64 (E k 8),.int .i64 (E k 9),.int .i64 (E k 10)])).run Tryz.prog wx=.ok (.bool (!Sn.sameE (E k) (E k))) wx:=fun wx=>run_ne_ent (E k) (E k) wx;rw [Sn.sameE_refl] at hcmp;have HL:=hide hlt;clear hlt hGE hPE hk;go_wp2_with fail;go_quiet (fail);go_wp2;go_roundw;case rel=>exact ⟨k+1,by have:=uh HL;omega,by go_num,uh hdr _⟩
   case measure=>simp [intOf];have:=uh HL;omega
  ·have hge:¬(k:Int)<(nE:Int):=by omega
   clear hlt hk;go_wp2_with fail
   go_loopw [6] (fun vi wr=>∃k:Nat,k≤nI∧vi=.int .i64 (k:Int)∧W0.grownBy wr none) (fun vi _=>200 - (intOf vi).toNat)
   case atStart=>exact ⟨0,by omega,rfl,uh hgr'⟩
   case round =>
    clear k1 k2 k3 k4 hge hgr';obtain ⟨k,hk,rfl,hgr⟩:=hrel;have hgr':=hide hgr;obtain ⟨k1,k2,k3,k4⟩:=uh keep wr hgr;clear hgr;by_cases hlt:k<nI
    ·have hlt':(k:Int)<(nI:Int):=by omega
     obtain ⟨gI,rfl,hGI⟩:=((uh hL').on (uh hgr')).items.lie (by omega);obtain ⟨pI,rfl,hPI⟩:=((uh hL2').on (uh hgr')).items.lie (by omega);obtain ⟨u0,u1,u2,u3⟩:=(hGI.its (n:=nI) rfl (by have:=uh HI;omega)).row hlt;obtain ⟨s0,s1,s2,s3⟩:=(hPI.its (n:=nI) rfl (by have:=uh HI;omega)).row hlt;have hdr:Hid (∀m,W0.grownBy (wr.drewN m) none):=fun m=>gdw (uh hgr') m;have hcmp:∀wx:World,(binOp .neq 72 (.agg #[.int .i64 (I k 0),.int .i64 (I k 1),.int .i64 (I k 2),.int .i64 (I k 3)]) (.agg #[.int .i64 (I k 0),.int .i64 (I k 1),.int .i64 (I k 2),.int .i64 (I k 3)])).run Tryz.prog wx=.ok (.bool false) wx:=fun wx=>by
      have h:=run_ne_item (I k 0) (I k 1) (I k 2) (I k 3) (I k 0) (I k 1) (I k 2) (I k 3) wx;simpa using h
     have HL:=hide hlt;clear hlt hGI hPI hk;go_wp2_with fail;go_quiet (fail);go_wp2;go_roundw;case rel=>exact ⟨k+1,by have:=uh HL;omega,by go_num,uh hdr _⟩
     case measure=>simp [intOf];have:=uh HL;omega
    ·have hge:¬(k:Int)<(nI:Int):=by omega
     have hfin:=hide (uh hyes _ (uh hgr'));clear hlt hk;go_wp2;exact uh hfin


open Go.RowKit

def trim (x:World) (k:Nat):World:={ x with heap:=x.heap.extract 0 k }

theorem trim_at (x:World) {k b:Nat} (hb:b<k):(trim x k).heap[b]?=x.heap[b]?:=by
 show (x.heap.extract 0 k)[b]?=x.heap[b]?;rw [Array.getElem?_extract];split
 ·rw [Nat.zero_add]
 ·rename_i h;rw [Array.getElem?_eq_none (by omega)]

theorem trim_size (x:World) {k:Nat} (hk:k≤x.heap.size):(trim x k).heap.size=k:=by
 show (x.heap.extract 0 k).size=k;rw [Array.size_extract];omega

theorem trim_grown (x:World) {k:Nat} (hk:k≤x.heap.size):(trim x k).grownBy x none :=
 ⟨rfl,rfl,rfl,by rw [trim_size x hk];exact hk,fun b hb _=>(trim_at x (by rw [trim_size x hk] at hb;exact hb)).symm⟩

theorem grown_trim {v x:World} {k:Nat} (h:v.grownBy x none) (h1:v.heap.size≤k) (hk:k≤x.heap.size):v.grownBy (trim x k) none:=by
 obtain ⟨a,b,c,d,e⟩:=h;exact ⟨a,b,c,by rw [trim_size x hk];exact h1,fun i hi hn=>(trim_at x (by omega)).trans (e i hi hn)⟩

theorem Lie.trim {x:World} {g k:Nat} {T:TypeId} {m:Nat} {F:Nat→Value} (h:Lie x g T m F) (hg:g<k):Lie (trim x k) g T m F:=by
 obtain ⟨M,G,⟨cur,hc,h1,h2⟩,h3,h4⟩:=h;exact ⟨M,G,⟨cur,(trim_at x hg).trans hc,h1,h2⟩,h3,h4⟩


open Go.RowKit

set_option maxRecDepth 8000 in
set_option maxHeartbeats 6400000 in
theorem refAil8_any (s g c:Nat→Int) (E I:Nat→Nat→Int) (gC gE gI cC cE cI:Nat) (w:World) (hL:Gd.Lists w gC gE gI c E I) (hF:Ft.Fit c E I) :
  Calls Tryz.prog 48 #[.agg (Gd.world s gC gE gI cC cE cI g)] w (Gd.Worlds w s g c (Ft.ailE E I 32).1 (Ft.ailE E I 32).2):=by
 have hFm:=hide (fun m hm=>hF.ail m hm);clear hF;obtain ⟨w0,hw0,hbox,hres,hg0,hsz⟩:=Gd.boxes w gC gE gI cC cE cI s g;have ca':=hide (refTwin_any s g c E I gC gE gI cC cE cI w0 (hL.on hg0));obtain ⟨b0,b1,b2,b3,b4,b5,b6,b7,b8,b9,b10⟩:=hbox.eleven;have hbx:=hide hbox;have hrs:=hide hres;have hg0':=hide hg0;have hsz':=hide hsz;have hfB:=hbox.free;clear hL hbox hres hg0 hsz;unfold Gd.world at hw0 ca' ⊢;go_enter Tryz.func48,Tryz.ntmps48;go_upto_region 1 with fail;rw [←hw0];clear hw0;obtain ⟨B,hB⟩:∃B,w.heap.size=B:=⟨_,rfl⟩;rw [hB] at hbx hrs hsz' b0 b1 b2 b3 b4 b5 b6 b7 b8 b9 b10 ⊢;have hB':=hide hB;rw [hB] at hfB;clear hB
 go_cut [] from 4 (fun wx=>∃g1 g2 g3 c1 c2 c3,Hid (Gd.Boxed w wx B g1 g2 g3 c1 c2 c3 s g c E I))
 case first =>
  go_wp2_with fail;refine (uh ca').mono ?_;rintro e w1 ⟨g1,g2,g3,c1,c2,c3,rfl,hcap,l1,l2,l3,n1,n2,n3,hL1,hg1⟩;obtain ⟨y0,y1,y2,y3,y4,y5,y6,y7,y8,y9,y10⟩:=((uh hbx).on hg1).eleven;have fB:=((uh hbx).on hg1).free;have fin:Hid (Gd.Boxed w (w1.setCells B 0 (Gd.world s g1 g2 g3 c1 c2 c3 g).toList) B g1 g2 g3 c1 c2 c3 s g c E I):=by
   have r:=gss (g:=B) (Gd.world s g1 g2 g3 c1 c2 c3 g).toList 0 w1 (World.grownBy.refl _ _);have hB:=uh hB';have hs:=uh hsz';exact ⟨⟨((uh hbx).on hg1).whole s g g1 g2 g3 c1 c2 c3,⟨hL1.cells.grown r (by simp;omega),hL1.ents.grown r (by simp;omega),hL1.items.grown r (by simp;omega)⟩,by omega,by omega,by omega,n1,n2,n3⟩,hB,by omega,by omega,by omega,hcap,((uh hrs).on hg1).grown r (by simp),own_sets (by omega) _ 0 w1 (gtr (uh hg0') hg1)⟩
  unfold Gd.world at fin ⊢;clear hcap l1 l2 l3 n1 n2 n3 hL1 hg1 b0 b1 b2 b3 b4 b5 b6 b7 b8 b9 b10 hfB ca';go_wp2_with fail;go_meet;exact ⟨g1,g2,g3,c1,c2,c3,fin⟩
 case rest =>
  obtain ⟨g1,g2,g3,c1,c2,c3,hX⟩:=hcut;clear b0 b1 b2 b3 b4 b5 b6 b7 b8 b9 b10 hfB ca' hbx hrs hg0' hsz' hB';clear w0;have b5:=(uh hX).hold.box.eleven.2.2.2.2.2.1;go_wp2_with fail
  go_loopw [3] (fun vk wr=>∃(k h1 h2 h3 d1 d2 d3:Nat),k≤32∧vk=.int .i64 (k:Int)∧Hid (Gd.Boxed w wr B h1 h2 h3 d1 d2 d3 s g c (Ft.ailE E I k).1 (Ft.ailE E I k).2)) (fun vk _=>40 - (intOf vk).toNat)
  case atStart=>exact ⟨0,g1,g2,g3,c1,c2,c3,by omega,rfl,hX⟩
  case round =>
   clear hX b5;obtain ⟨k,h1,h2,h3,d1,d2,d3,hk,rfl,hX⟩:=hrel;by_cases hlt:k<32
   ·have hlt':(k:Int)<32:=by omega
    have HK:=hide hlt;obtain ⟨b0,b1,b2,b3,b4,b5,b6,b7,b8,b9,b10⟩:=(uh hX).hold.box.eleven;have hFk:=hide (uh hFm k hk);have hnx:Hid (Ft.ailE E I (k+1)=if (Ft.ailE E I k).1 k 0≠0 then (Ft.oneE (Ft.ailE E I k).1 k,Ft.oneI (Ft.ailE E I k).1 (Ft.ailE E I k).2 k) else Ft.ailE E I k):=rfl;obtain ⟨P,hP⟩:∃P,Ft.ailE E I k=P:=⟨_,rfl⟩;obtain ⟨E2,I2⟩:=P;rw [hP] at hX hFk hnx;have ct:=refThere8_any s g c E2 I2 h1 h2 h3 d1 d2 d3 (k:Int) wr (uh hX).hold.lists;rw [Ft.there_at hlt] at ct;unfold Gd.world at ct;by_cases hz:E2 k 0=0
    ·rw [decide_eq_false (by simpa using hz)] at ct;rw [if_neg (by simpa using hz)] at hnx;have ct':=hide ct;clear ct hz hP hlt hk;go_wp2_with fail;refine (uh ct').mono ?_;rintro e wy ⟨rfl,hg⟩;have hY:=hide ((uh hX).on hg);clear ct' b0 b1 b2 b3 b4 b5 b6 b7 b8 b9 b10 hg;go_wp2;go_roundw;case rel=>exact ⟨k+1,h1,h2,h3,d1,d2,d3,by have:=uh HK;omega,by go_num,by rw [uh hnx];exact hY⟩
     case measure=>simp [intOf];have:=uh HK;omega
    ·rw [decide_eq_true hz] at ct;rw [if_pos hz] at hnx;have hFk2:Ft.Fit c E2 I2:=uh hFk;have hT:=(hFk2.rows k hlt).taken hz;have hs9:Ft.stunE E2 k k 9=E2 k 9:=Ft.stun_other E2 k 9 (by omega);have hs0:Ft.stunE E2 k k 0≠0:=by rw [Ft.stun_other E2 k 0 (by omega)];exact hz
     have hFs:=hide (hFk2.stun hlt hz);have hFp:Hid (0<E2 k 9→Ft.Fit c (Ft.poisE (Ft.stunE E2 k) k) I2):=fun hp=>(uh hFs).stat hlt hs0 (.inl rfl) (by rw [hs9];omega) (by rw [hs9];omega);have hp0:Hid (Ft.poisE (Ft.stunE E2 k) k k 0≠0):=by
      show Ft.poisE (Ft.stunE E2 k) k k 0≠0;unfold Ft.poisE;rw [Gd.set_other (by omega)];exact hs0
     have hth:Hid (Ft.there (Ft.poisE (Ft.stunE E2 k) k) (k:Int)=true∧(1:Int)≤1):=⟨(Ft.there_at hlt).trans (by simpa using uh hp0),by omega⟩;have hhE:Hid (Ft.hE (Ft.poisE (Ft.stunE E2 k) k) (k:Int) 1=Ft.hurtE (Ft.poisE (Ft.stunE E2 k) k) k 1):=by
      show _=_;unfold Ft.hE;rw [if_pos (uh hth),Int.toNat_natCast]
     have hhI:Hid (Ft.hI (Ft.poisE (Ft.stunE E2 k) k) I2 (k:Int) 1=Ft.hurtI (Ft.poisE (Ft.stunE E2 k) k) I2 k 1):=by
      show _=_;unfold Ft.hI;rw [if_pos (uh hth),Int.toNat_natCast]
     have ct':=hide ct;have t10:0≤E2 k 10:=by omega
     have t109:E2 k 10≤9:=by omega
     have t9:0≤E2 k 9:=by omega
     have t99:E2 k 9≤9:=by omega
     have HS9:=hide hs9;clear ct hz hP hlt hk hT hFk hFk2 hs9 hs0 hp0 hth;go_wp2_with fail;refine (uh ct').mono ?_;rintro e wy ⟨rfl,hg⟩;have hY:=hide ((uh hX).on hg);clear ct' b0 b1 b2 b3 b4 b5 b6 b7 b8 b9 b10 hg hX;have b5:=(uh hY).hold.box.eleven.2.2.2.2.2.1;have u10:=((uh hY).hold.lists.own.ents.row (uh HK)).2.2.2.2.2.2.2.2.2.2;have fE:=(uh hY).hold.lists.ents.free;go_upto_if 23 with fail
     go_cut [] from 23 to 32 (fun wx=>Hid (Gd.Boxed w wx B h1 h2 h3 d1 d2 d3 s g c (Ft.stunE E2 k) I2))
     case first =>
      by_cases hp:0<E2 k 10
      ·have hst:Hid (Gd.Boxed w (wy.setCell ⟨h2,k*11+10,none⟩ (.int .i64 (E2 k 10 - 1))) B h1 h2 h3 d1 d2 d3 s g c (Ft.stunE E2 k) I2):=by
        show Gd.Boxed _ _ _ _ _ _ _ _ _ _ _ _ _ _;unfold Ft.stunE;rw [if_pos hp];exact (uh hY).stat k 10 (by omega) (E2 k 10 - 1)
       go_wp2_with fail;go_meet;exact hst
      ·have hst:Hid (Gd.Boxed w wy B h1 h2 h3 d1 d2 d3 s g c (Ft.stunE E2 k) I2):=by
        show Gd.Boxed _ _ _ _ _ _ _ _ _ _ _ _ _ _;unfold Ft.stunE;rw [if_neg hp];exact uh hY
       go_wp2_with fail;go_meet;exact hst
     case rest =>
      clear hY b5 u10 fE;have hY:=hide (uh hcut);clear hcut;have b5:=(uh hY).hold.box.eleven.2.2.2.2.2.1;have u9:=((uh hY).hold.lists.own.ents.row (uh HK)).2.2.2.2.2.2.2.2.2.1;rw [uh HS9] at u9;have fE:=(uh hY).hold.lists.ents.free;by_cases hp:0<E2 k 9
      ·have hn2:Hid (Ft.ailE E I (k+1)=(Ft.hurtE (Ft.poisE (Ft.stunE E2 k) k) k 1,Ft.hurtI (Ft.poisE (Ft.stunE E2 k) k) I2 k 1)):=by
        show _=_;rw [uh hnx];unfold Ft.oneE Ft.oneI;rw [if_pos hp,if_pos hp]
       have hst:Hid (Gd.Boxed w (wc.setCell ⟨h2,k*11+9,none⟩ (.int .i64 (E2 k 9 - 1))) B h1 h2 h3 d1 d2 d3 s g c (Ft.poisE (Ft.stunE E2 k) k) I2):=by
        have h:=(uh hY).stat k 9 (by omega) (E2 k 9 - 1);show Gd.Boxed _ _ _ _ _ _ _ _ _ _ _ _ _ _;unfold Ft.poisE;rw [uh HS9];exact h
       have hFq:=hide (uh hFp hp);clear hnx hFp;go_upto_region 10 with fail;generalize wc.setCell ⟨h2,k*11+9,none⟩ (.int .i64 (E2 k 9 - 1))=wz at hst ⊢;clear hY b5 u9 fE;have ch:=hide (refHurt8_any s g c (Ft.poisE (Ft.stunE E2 k) k) I2 h1 h2 h3 d1 d2 d3 (k:Int) 1 wz (uh hst).hold.lists (uh hFq));rw [uh hhE,uh hhI] at ch;obtain ⟨b0,b1,b2,b3,b4,b5,b6,b7,b8,b9,b10⟩:=(uh hst).hold.box.eleven;unfold Gd.world at ch;go_wp2_with fail;refine (uh ch).mono ?_;rintro e w6 ⟨jC,jE,jI,dC,dE,dI,rfl,hcap,l1,l2,l3,n1,n2,n3,hL,hg⟩;obtain ⟨y0,y1,y2,y3,y4,y5,y6,y7,y8,y9,y10⟩:=((uh hst).on hg).hold.box.eleven;have fB:=((uh hst).on hg).hold.box.free;have hZ:Hid (Gd.Boxed w (((((((((((w6.setCell ⟨B,0,none⟩ (.int .i64 (s 0))).setCell ⟨B,1,none⟩ (.int .i64 (s 1))).setCell ⟨B,2,none⟩ (.int .i64 (s 2))).setCell ⟨B,3,none⟩ (.int .i64 (s 3))).setCell ⟨B,4,none⟩ (.slice (some ⟨jC,0,none⟩) 384 dC)).setCell ⟨B,5,none⟩ (.slice (some ⟨jE,0,none⟩) 32 dE)).setCell ⟨B,6,none⟩ (.slice (some ⟨jI,0,none⟩) 40 dI)).setCell ⟨B,7,none⟩ (.int .i64 (g 0))).setCell ⟨B,8,none⟩ (.int .i64 (g 1))).setCell ⟨B,9,none⟩ (.int .i64 (g 2))).setCell ⟨B,10,none⟩ (.int .i64 (g 3))) B jC jE jI dC dE dI s g c (Ft.ailE E I (k+1)).1 (Ft.ailE E I (k+1)).2):=by
        show Gd.Boxed _ _ _ _ _ _ _ _ _ _ _ _ _ _;rw [uh hn2];exact (uh hst).over (s':=s) (g':=g) (dC:=dC) (dI:=dI) hcap l1 l2 l3 n1 n2 n3 hL hg
       clear hcap l1 l2 l3 n1 n2 n3 hL hg ch b0 b1 b2 b3 b4 b5 b6 b7 b8 b9 b10 hst hn2;unfold Gd.world;go_wp2;go_roundw;case rel=>exact ⟨k+1,jC,jE,jI,dC,dE,dI,by have:=uh HK;omega,by go_num,hZ⟩
       case measure=>simp [intOf];have:=uh HK;omega
      ·have hn2:Hid (Ft.ailE E I (k+1)=(Ft.stunE E2 k,I2)):=by
        show _=_;rw [uh hnx];unfold Ft.oneE Ft.oneI;rw [if_neg hp,if_neg hp]
       clear hnx;go_wp2;go_roundw;case rel=>exact ⟨k+1,h1,h2,h3,d1,d2,d3,by have:=uh HK;omega,by go_num,by rw [uh hn2];exact hY⟩
       case measure=>simp [intOf];have:=uh HK;omega
   ·obtain rfl:k=32:=by omega
    have hge:¬((32:Nat):Int)<32:=by omega
    clear hlt hk hFm;obtain ⟨b0,b1,b2,b3,b4,b5,b6,b7,b8,b9,b10⟩:=(uh hX).hold.box.eleven;have fz:=(uh hX).res.free;obtain ⟨z0,z1,z2,z3,z4,z5,z6,z7,z8,z9,z10⟩:=Gd.res_cells (uh hX).res;have hfin:=hide (fun vs=>(uh hX).worlds vs);go_wp2;refine bodyPost_ret (v:=.agg (Gd.world s h1 h2 h3 d1 d2 d3 g)) (by simp [results,Tryz.results48,go_sem,Gd.world,z0,z1,z2,z3,z4,z5,z6,z7,z8,z9,z10]) rfl ?_;exact uh hfin [_,_,_,_,_,_,_,_,_,_,_]

end Go.Proofs.YtldgbkjceildfaaGreat
