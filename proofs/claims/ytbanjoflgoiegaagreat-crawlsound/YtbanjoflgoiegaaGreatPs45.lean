import Derived.Test.YtbanjoflgoiegaaGreatPs33
namespace Go.Proofs.YtbanjoflgoiegaaGreat
open Go.RowKit

def Md.BagIs (I:Nat→Nat→Int) (seat:Int) (n:Nat) (f:Nat→Int):Prop:=∀b:Nat,b<4→(∃i,i<n∧I i 1=2∧I i 2=seat∧I i 3=(b:Int)∧f b=I i 0)∨((∀i,i<n→¬(I i 1=2∧I i 2=seat∧I i 3=(b:Int)))∧f b=0)

theorem Md.BagIs.skip {I:Nat→Nat→Int} {seat:Int} {n:Nat} {f:Nat→Int} (h:Md.BagIs I seat n f) (hno:∀b:Nat,b<4→¬(I n 1=2∧I n 2=seat∧I n 3=(b:Int))):Md.BagIs I seat (n+1) f:=fun b hb=>by
 rcases h b hb with ⟨i,hi,r⟩ | ⟨h1,h2⟩
 ·exact .inl ⟨i,by omega,r⟩
 ·refine .inr ⟨fun i hi=>?_,h2⟩
  by_cases e:i=n
  ·rw [e];exact hno b hb
  ·exact h1 i (by omega)

theorem Md.BagIs.take {I:Nat→Nat→Int} {seat:Int} {n b:Nat} {f:Nat→Int} (h:Md.BagIs I seat n f) (h1:I n 1=2) (h2:I n 2=seat) (h3:I n 3=(b:Int)):Md.BagIs I seat (n+1) (Gr.upd f b (I n 0)):=fun b' hb=>by
 by_cases e:b'=b
 ·subst e
  refine .inl ⟨n,by omega,h1,h2,h3,?_⟩
  simp [Gr.upd]
 ·have hu:Gr.upd f b (I n 0) b'=f b':=by simp [Gr.upd,e]
  rw [hu]
  rcases h b' hb with ⟨i,hi,r⟩ | ⟨g1,g2⟩
  ·exact .inl ⟨i,by omega,r⟩
  ·refine .inr ⟨fun i hi=>?_,g2⟩
   by_cases e2:i=n
   ·rw [e2];rintro ⟨_,_,h⟩;omega
   ·exact g1 i (by omega)

theorem Gd.Ok.same {c:Nat→Int} {I:Nat→Nat→Int} (h:Gd.Ok c 40 I) {i k:Nat} (hi:i<40) (hk:k<40) (h0:I i 1≠0) (h1:I k 1=I i 1) (h2:I k 2=I i 2) (h3:I k 3=I i 3):i=k:=by
 by_cases e:i=k
 ·exact e
 ·exact absurd ⟨h1,h2,h3⟩ (h.one i k hi hk e h0)

def Md.among (f:Nat→Int) (v:Int):Bool:=decide (0≤En.first (fun b=>decide (v=f b)) 4)

theorem Md.among_iff (f:Nat→Int) (v:Int):Md.among f v=true↔∃b,b<4∧f b=v:=by
 unfold Md.among
 rcases En.first_cases (fun b=>decide (v=f b)) 4 with ⟨he,hno⟩ | ⟨k,hk,he,hq,_⟩
 ·rw [he]
  refine ⟨fun h=>by simp at h,fun ⟨b,hb,e⟩=>?_⟩
  have:=hno b hb
  simp [e] at this
 ·rw [he]
  refine ⟨fun _=>⟨k,hk,?_⟩,fun _=>by simp⟩
  have:=of_decide_eq_true hq
  exact this.symm

theorem Md.has_iff {c:Nat→Int} {I:Nat→Nat→Int} {seat:Int} {f:Nat→Int} (hok:Gd.Ok c 40 I) (h:Md.BagIs I seat 40 f):Md.among f 1=decide (0≤Gd.has I 40 seat 1 1):=by
 rw [Bool.eq_iff_iff,Md.among_iff,decide_eq_true_iff]
 constructor
 ·rintro ⟨b,hb,e⟩
  rcases h b hb with ⟨i,hi,i1,i2,i3,hf⟩ | ⟨_,h0⟩
  ·have hfi:∃k:Nat,k<40∧Gd.find I 40 2 seat (b:Int)=(k:Int)∧I k 1=2∧I k 2=seat∧I k 3=(b:Int):=by
    rcases Gd.find_cases I 40 2 seat (b:Int) with ⟨_,hno⟩ | ⟨k,hk,he,k1,k2,k3,_⟩
    ·exact absurd ⟨i1,i2,i3⟩ (hno i hi)
    ·exact ⟨k,hk,he,k1,k2,k3⟩
   obtain ⟨k,hk,he,k1,k2,k3⟩:=hfi
   obtain rfl:i=k:=hok.same hi hk (by omega) (by omega) (by omega) (by omega)
   have hQ:Gd.hasQ I 40 seat 1 1 b=true:=by
    simp only [Gd.hasQ,Bool.and_eq_true,decide_eq_true_eq]
    rw [he,Int.toNat_natCast]
    omega
   unfold Gd.has
   rcases En.first_cases (Gd.hasQ I 40 seat 1 1) 4 with ⟨hf1,hno⟩ | ⟨m,hm,hf1,hq,_⟩
   ·rw [hno b hb] at hQ;cases hQ
   ·rw [if_pos (by omega),hf1]
    simp only [Gd.hasQ,Bool.and_eq_true,decide_eq_true_eq] at hq
    exact hq.1
  ·omega
 ·intro hh
  obtain ⟨k,hk,_,k1,k2,k3,k4,k5,k6⟩:=Gd.has_pos hh
  refine ⟨(I k 3).toNat,by omega,?_⟩
  rcases h (I k 3).toNat (by omega) with ⟨i,hi,i1,i2,i3,hf⟩ | ⟨hno,_⟩
  ·obtain rfl:i=k:=hok.same hi hk (by omega) (by omega) (by omega) (by omega)
   omega
  ·exact absurd ⟨k1,k2,by omega⟩ (hno k hk)

theorem Md.slot_iff {c:Nat→Int} {I:Nat→Nat→Int} {seat:Int} {f:Nat→Int} (hok:Gd.Ok c 40 I) (h:Md.BagIs I seat 40 f):Md.among f 0=decide (0≤Gd.slot I 40 seat):=by
 rw [Bool.eq_iff_iff,Md.among_iff,decide_eq_true_iff]
 constructor
 ·rintro ⟨b,hb,e⟩
  rcases h b hb with ⟨i,hi,i1,i2,i3,hf⟩ | ⟨hno,_⟩
  ·rcases hok.each i hi with hz | hp
   ·have:=hz.2.1;omega
   ·have:=hp.1;omega
  ·unfold Gd.slot
   rcases En.first_cases (fun b=>decide (Gd.find I 40 2 seat (b:Int)<0)) 4 with ⟨_,hn⟩ | ⟨m,hm,hf1,_⟩
   ·have:=hn b hb
    simp only [decide_eq_false_iff_not] at this
    obtain ⟨k,hk,_,k1,k2,k3⟩:=Gd.find_pos (I:=I) (n:=40) (w:=2) (a:=seat) (b:=(b:Int)) (by omega)
    exact absurd ⟨k1,k2,k3⟩ (hno k hk)
   ·omega
 ·intro hs
  obtain ⟨h4,hno⟩:=Gd.slot_pos hs
  refine ⟨(Gd.slot I 40 seat).toNat,by omega,?_⟩
  rcases h (Gd.slot I 40 seat).toNat (by omega) with ⟨i,hi,i1,i2,i3,_⟩ | ⟨_,h0⟩
  ·exact absurd ⟨i1,i2,by omega⟩ (hno i hi)
  ·exact h0

def Md.liesQ (I:Nat→Nat→Int) (x y:Int) (room:Bool):Nat→Bool:=fun i=>(decide (I i 1=1) && (decide (I i 2=x) && decide (I i 3=y))) && (room || decide (I i 0=4))

def Md.lies (I:Nat→Nat→Int) (x y:Int) (room:Bool):Bool:=decide (0≤En.first (Md.liesQ I x y room) 40)

theorem Md.lies_iff {c:Nat→Int} {I:Nat→Nat→Int} {x y S:Int} (hok:Gd.Ok c 40 I):Md.lies I x y (decide (0≤S))=decide (0≤Gd.find I 40 1 x y∧(I (Gd.find I 40 1 x y).toNat 0=4∨0≤S)):=by
 unfold Md.lies
 rw [Bool.eq_iff_iff,decide_eq_true_iff,decide_eq_true_iff]
 constructor
 ·intro h
  rcases En.first_cases (Md.liesQ I x y (decide (0≤S))) 40 with ⟨he,_⟩ | ⟨k,hk,he,hq,_⟩
  ·omega
  ·simp only [Md.liesQ,Bool.and_eq_true,Bool.or_eq_true,decide_eq_true_eq] at hq
   obtain ⟨⟨k1,k2,k3⟩,k4⟩:=hq
   rcases Gd.find_cases I 40 1 x y with ⟨_,hno⟩ | ⟨j,hj,hf,j1,j2,j3,_⟩
   ·exact absurd ⟨k1,k2,k3⟩ (hno k hk)
   ·obtain rfl:k=j:=hok.same hk hj (by omega) (by omega) (by omega) (by omega)
    rw [hf,Int.toNat_natCast]
    exact ⟨by omega,by rcases k4 with h | h <;> omega⟩
 ·rintro ⟨h1,h2⟩
  obtain ⟨k,hk,he,k1,k2,k3⟩:=Gd.find_pos h1
  rw [he,Int.toNat_natCast] at h2
  rcases En.first_cases (Md.liesQ I x y (decide (0≤S))) 40 with ⟨_,hno⟩ | ⟨m,hm,hf,_⟩
  ·have:=hno k hk
   have hq:Md.liesQ I x y (decide (0≤S)) k=true:=by
    simp only [Md.liesQ,Bool.and_eq_true,Bool.or_eq_true,decide_eq_true_eq]
    exact ⟨⟨k1,k2,k3⟩,by rcases h2 with h | h <;> omega⟩
   rw [hq] at this;cases this
  ·omega

def Md.BagSays (w:World) (I:Nat→Nat→Int) (seat:Int) (e:Ending) (w':World):Prop:=∃G f,e=.returned (.slice (some ⟨G,0,none⟩) 4 4)∧Arr w' G 3 4 (Ints f)∧Md.BagIs I seat 40 f∧w.grownBy w' none

set_option maxRecDepth 8000 in
set_option maxHeartbeats 3200000 in
theorem mBag_any (I:Nat→Nat→Int) (gI cI:Nat) (seat:Int) (w:World) (hI:Its w gI 0 40 I) :
  Calls Tryz.prog 227 #[.slice (some ⟨gI,0,none⟩) 40 cI,.int .i64 seat] w (Md.BagSays w I seat):=by
 have hI':=hide hI
 obtain ⟨i0,hi,hz0,hz1,hz2⟩:=info_parts info_int
 clear hI
 go_enter Tryz.func227,Tryz.ntmps227
 obtain ⟨G,hG⟩:∃G,G=w.heap.size:=⟨_,rfl⟩
 have hG':=hide hG
 clear hG
 go_wp2_with (at_make;refine wpList_make_full _ rfl _ _ 38 rfl G 3 i0 (.int .i64 0) 1 Tryz.underlying38 hi hz0 hz1 .i64 .i64 _ _ 4 rfl rfl rfl rfl ?q3 ?q4 (Nat.le_of_eq (uh hG')) ?_)
 case q3=>rw [hz2];omega
 case q4=>unfold maxLen;omega
 intro w2 hown hgrow
 rw [←uh hG'] at hown ⊢
 have hA:=hide (Arr.zero hown)
 have hB0:Hid (w.grownBy w2 none):=below_grown (by rw [←uh hG'];exact (Below.refl _ _).grown hgrow (Nat.le_of_eq (uh hG')) (by intro k hk;cases hk))
 clear hown hgrow hi hz0 hz1 hz2
 go_wp2_with fail
 go_loopw [7,11] (fun _ i wr=>∃(k:Nat) (f:Nat→Int),k≤40∧i=.int .i64 (k:Int)∧Hid (Arr wr G 3 4 (Ints f))∧Hid (Md.BagIs I seat k f)∧Hid (w.grownBy wr none)) (fun _ i _=>50 - (intOf i).toNat)
 case atStart=>exact ⟨0,fun _=>0,Nat.zero_le _,rfl,(uh hA).congr fun _ _=>rfl,fun b _=>.inr ⟨fun i hi=>by omega,rfl⟩,hB0⟩
 case round =>
  obtain ⟨k,f,hk,rfl,hA1,hB1,hg1⟩:=hrel
  clear hA hB0
  by_cases hlt:k<40
  ·have hlt':(k:Int)<40:=by omega
   have HL:=hide hlt
   obtain ⟨u0,u1,u2,u3⟩:=((uh hI').on (uh hg1)).row hlt
   obtain ⟨p0,h0⟩:∃p,I k 0=p:=⟨_,rfl⟩
   obtain ⟨p1,h1⟩:∃p,I k 1=p:=⟨_,rfl⟩
   obtain ⟨p2,h2⟩:∃p,I k 2=p:=⟨_,rfl⟩
   obtain ⟨p3,h3⟩:∃p,I k 3=p:=⟨_,rfl⟩
   rw [h0] at u0
   rw [h1] at u1
   rw [h2] at u2
   rw [h3] at u3
   have hP:=hide (show I k 0=p0∧I k 1=p1∧I k 2=p2∧I k 3=p3 from ⟨h0,h1,h2,h3⟩)
   clear h0 h1 h2 h3 hlt hk
   have hga:=hide (World.grownBy_alloc wr (.cells #[.int .i64 p0,.int .i64 p1,.int .i64 p2,.int .i64 p3] 62) none)
   by_cases m:p1=2∧p2=seat∧0≤p3∧p3<4
   ·obtain ⟨rfl,rfl,m3,m4⟩:=m
    obtain ⟨b,rfl⟩:∃b:Nat,p3=(b:Int):=⟨p3.toNat,by omega⟩
    have HB:=hide (show b<4 by omega)
    have hA2:=hide ((uh hA1).grown (uh hga) (by simp))
    have hcc:=(uh hA2).cell (uh HB)
    have hff:=(uh hA2).free b
    have hB2:Hid (Md.BagIs I p2 (k+1) (Gr.upd f b p0)):=by
     have hP':=uh hP
     have:=(uh hB1).take hP'.2.1 hP'.2.2.1 hP'.2.2.2
     rw [hP'.1] at this
     exact this
    have hfin:Hid (∀v:Int,w.grownBy ((wr.alloc (.cells #[.int .i64 p0,.int .i64 2,.int .i64 p2,.int .i64 (b:Int)] 62)).setCell ⟨G,b,none⟩ (.int .i64 v)) none):=fun v=>gsr (gtr (uh hg1) (uh hga)) ⟨G,b,none⟩ (Nat.le_of_eq (uh hG').symm) _
    clear hP hga hA1 hB1 hg1
    go_wp2
    go_roundw
    case rel=>exact ⟨k+1,Gr.upd f b p0,by have:=uh HL;omega,by go_num,(uh hA2).upd p0,hB2,uh hfin p0⟩
    case measure=>have:=uh HL;simp [intOf];omega
   ·have hB2:Hid (Md.BagIs I seat (k+1) f):=(uh hB1).skip fun b hb ⟨j1,j2,j3⟩=>m (by have:=uh hP;omega)
    have hA2:=hide ((uh hA1).grown (uh hga) (by simp))
    have hg2:=hide (gtr (uh hg1) (uh hga))
    clear hP hga hA1 hB1 hg1
    by_cases m1:p1=2
    ·subst m1
     by_cases m2:p2=seat
     ·subst m2
      by_cases m3:p3<0
      ·have m3':¬p3≥0:=by omega
       clear m
       go_wp2
       go_roundw
       case rel=>exact ⟨k+1,f,by have:=uh HL;omega,by go_num,hA2,hB2,hg2⟩
       case measure=>have:=uh HL;simp [intOf];omega
      ·have m3':p3≥0:=by omega
       have m4':¬p3<4:=by omega
       clear m
       go_wp2
       go_roundw
       case rel=>exact ⟨k+1,f,by have:=uh HL;omega,by go_num,hA2,hB2,hg2⟩
       case measure=>have:=uh HL;simp [intOf];omega
     ·have m2':(p2 == seat)=false:=by simpa using m2
      clear m m2
      go_wp2
      go_roundw
      case rel=>exact ⟨k+1,f,by have:=uh HL;omega,by go_num,hA2,hB2,hg2⟩
      case measure=>have:=uh HL;simp [intOf];omega
    ·have m1':(p1 == 2)=false:=by simpa using m1
     clear m m1
     go_wp2
     go_roundw
     case rel=>exact ⟨k+1,f,by have:=uh HL;omega,by go_num,hA2,hB2,hg2⟩
     case measure=>have:=uh HL;simp [intOf];omega
  ·obtain rfl:k=40:=by omega
   have hge:¬((40:Nat):Int)<40:=by omega
   have hfin:Hid (Md.BagSays w I seat (.returned (.slice (some ⟨G,0,none⟩) 4 4)) wr):=⟨G,f,rfl,uh hA1,uh hB1,uh hg1⟩
   clear hlt hk
   go_wp2
   go_ret
   exact uh hfin

set_option maxHeartbeats 800000 in
theorem mIndex_any (G:Nat) (f:Nat→Int) (v:Int) (w:World) (hA:Arr w G 3 4 (Ints f)) :
  Calls Tryz.prog 133 #[.slice (some ⟨G,0,none⟩) 4 4,.int .i64 v] w fun e w'=>e=.returned (.int .i64 (En.first (fun b=>decide (v=f b)) 4))∧w'=w:=by
 have hA':=hide hA
 have hhit:Hid (∀k:Nat,k<4→(∀j,j<k→v≠f j)→v=f k→En.first (fun b=>decide (v=f b)) 4=(k:Int)):=fun k hk hno e=>En.first_hit (fun j hj=>decide_eq_false (hno j hj)) (decide_eq_true e) hk
 have hnone:Hid ((∀j,j<4→v≠f j)→En.first (fun b=>decide (v=f b)) 4=-1):=fun hno=>En.first_none (fun j hj=>decide_eq_false (hno j hj))
 generalize En.first (fun b=>decide (v=f b)) 4=r at hhit hnone ⊢
 clear hA
 go_enter Tryz.func133,Tryz.ntmps133
 go_wp2_with fail
 go_loop [5,8] (fun _ i=>∃k:Nat,k≤4∧i=.int .i64 (k:Int)∧Hid (∀j,j<k→v≠f j)) (fun _ i=>10 - (intOf i).toNat)
 case atStart=>exact ⟨0,by omega,rfl,fun j hj=>by omega⟩
 case round =>
  obtain ⟨k,hk,rfl,hno⟩:=hrel
  by_cases hlt:k<4
  ·have q:w.cell? ⟨G,k,none⟩=some (.int .i64 (f k)):=(uh hA').cell hlt
   have hlt':(k:Int)<4:=by omega
   have HL:=hide hlt
   obtain ⟨u,hu⟩:∃u,f k=u:=⟨_,rfl⟩
   rw [hu] at q
   have hu':=hide hu
   clear hu hlt hk
   by_cases e:v=u
   ·have he:Hid (r=(k:Int)):=uh hhit k (uh HL) (uh hno) (by rw [uh hu'];exact e)
    subst e
    go_wp2
    go_ret
    exact ⟨rti (uh he).symm,rfl⟩
   ·have e':(v == u)=false:=by simpa using e
    have hno2:Hid (∀j,j<k+1→v≠f j):=fun j hj=>by
     by_cases ej:j=k
     ·rw [ej,uh hu'];exact e
     ·exact uh hno j (by omega)
    clear e
    go_wp2
    go_round
    case rel=>exact ⟨k+1,by have:=uh HL;omega,by go_num,hno2⟩
    case measure=>have:=uh HL;simp [intOf];omega
  ·obtain rfl:k=4:=by omega
   have hge:¬((4:Nat):Int)<4:=by omega
   have he:Hid (r=-1):=uh hnone (uh hno)
   clear hlt hk
   go_wp2
   go_ret
   exact ⟨rti (uh he).symm,rfl⟩

theorem mContains_any (G:Nat) (f:Nat→Int) (v:Int) (w:World) (hA:Arr w G 3 4 (Ints f)) :
  Calls Tryz.prog 229 #[.slice (some ⟨G,0,none⟩) 4 4,.int .i64 v] w fun e w'=>e=.returned (.bool (Md.among f v))∧w'=w:=by
 have ci:=hide (mIndex_any G f v w hA)
 have hd:Hid (Md.among f v=decide (0≤En.first (fun b=>decide (v=f b)) 4)):=rfl
 rw [uh hd]
 generalize En.first (fun b=>decide (v=f b)) 4=r at ci ⊢
 clear hA hd
 go_enter Tryz.func229,Tryz.ntmps229
 go_wp2_with fail
 refine (uh ci).mono ?_
 rintro e wy ⟨rfl,hw⟩
 subst wy
 go_wp2
 go_ret
 exact ⟨by simp,rfl⟩


open Go.RowKit

set_option maxHeartbeats 1600000 in
theorem mLies_any (I:Nat→Nat→Int) (k:Nat) (x y:Int) (room:Bool) (Bh Br:Nat) (w:World) (h3:w.cell? ⟨Bh,3,none⟩=some (.int .i64 x)) (h4:w.cell? ⟨Bh,4,none⟩=some (.int .i64 y)) (hr:w.cell? ⟨Br,0,none⟩=some (.bool room)) (l1:Bh<w.heap.size) (l2:Br<w.heap.size) :
  Calls Tryz.prog 232 #[.agg #[.int .i64 (I k 0),.int .i64 (I k 1),.int .i64 (I k 2),.int .i64 (I k 3)],.pointer (some ⟨Bh,0,none⟩),.pointer (some ⟨Br,0,none⟩)] w (Says w (.bool (Md.liesQ I x y room k))):=by
 have hd:Hid (Md.liesQ I x y room k=((decide (I k 1=1) && (decide (I k 2=x) && decide (I k 3=y))) && (room || decide (I k 0=4)))):=rfl
 rw [uh hd]
 obtain ⟨p0,h0⟩:∃p,I k 0=p:=⟨_,rfl⟩
 obtain ⟨p1,h1⟩:∃p,I k 1=p:=⟨_,rfl⟩
 obtain ⟨p2,h2⟩:∃p,I k 2=p:=⟨_,rfl⟩
 obtain ⟨p3,hp3⟩:∃p,I k 3=p:=⟨_,rfl⟩
 rw [h0,h1,h2,hp3]
 clear hd h0 h1 h2 hp3
 have hg:=hide (World.grownBy_alloc w (.cells #[.int .i64 p0,.int .i64 p1,.int .i64 p2,.int .i64 p3] 62) none)
 have g3:=(gce (uh hg) Bh 3 l1 (by simp)).trans h3
 have g4:=(gce (uh hg) Bh 4 l1 (by simp)).trans h4
 have gr:=(gce (uh hg) Br 0 l2 (by simp)).trans hr
 by_cases m1:p1=1
 ·subst m1
  by_cases m2:p2=x
  ·subst m2
   by_cases m3:p3=y
   ·subst m3
    cases room
    ·go_enter Tryz.func232,Tryz.ntmps232
     go_wp2
     go_ret
     exact ⟨by simp [Bool.beq_eq_decide_eq],uh hg⟩
    ·go_enter Tryz.func232,Tryz.ntmps232
     go_wp2
     go_ret
     exact ⟨by simp,uh hg⟩
   ·have m3':(p3 == y)=false:=by simpa using m3
    go_enter Tryz.func232,Tryz.ntmps232
    go_wp2
    go_ret
    exact ⟨by simp [m3],uh hg⟩
  ·have m2':(p2 == x)=false:=by simpa using m2
   go_enter Tryz.func232,Tryz.ntmps232
   go_wp2
   go_ret
   exact ⟨by simp [m2],uh hg⟩
 ·have m1':(p1 == 1)=false:=by simpa using m1
  go_enter Tryz.func232,Tryz.ntmps232
  go_wp2
  go_ret
  exact ⟨by simp [m1],uh hg⟩

set_option maxHeartbeats 1600000 in
theorem mIndexFunc_any (I:Nat→Nat→Int) (gI cI:Nat) (x y:Int) (room:Bool) (Bh Br:Nat) (w:World) (hI:Its w gI 0 40 I) (h3:w.cell? ⟨Bh,3,none⟩=some (.int .i64 x)) (h4:w.cell? ⟨Bh,4,none⟩=some (.int .i64 y)) (hr:w.cell? ⟨Br,0,none⟩=some (.bool room)) (l1:Bh<w.heap.size) (l2:Br<w.heap.size) :
  Calls Tryz.prog 233 #[.slice (some ⟨gI,0,none⟩) 40 cI,.func (.func 232) #[] #[.pointer (some ⟨Bh,0,none⟩),.pointer (some ⟨Br,0,none⟩)]] w (Says w (.int .i64 (En.first (Md.liesQ I x y room) 40))):=by
 have hI':=hide hI
 have cq:Hid (∀(k:Nat) (z:World),w.grownBy z none→Calls Tryz.prog 232 #[.agg #[.int .i64 (I k 0),.int .i64 (I k 1),.int .i64 (I k 2),.int .i64 (I k 3)],.pointer (some ⟨Bh,0,none⟩),.pointer (some ⟨Br,0,none⟩)] z (Says z (.bool (Md.liesQ I x y room k)))):=fun k z hz=>mLies_any I k x y room Bh Br z ((gce hz Bh 3 l1 (by simp)).trans h3) ((gce hz Bh 4 l1 (by simp)).trans h4) ((gce hz Br 0 l2 (by simp)).trans hr) (Nat.lt_of_lt_of_le l1 hz.size) (Nat.lt_of_lt_of_le l2 hz.size)
 have hhit:Hid (∀k:Nat,k<40→(∀j,j<k→Md.liesQ I x y room j=false)→Md.liesQ I x y room k=true→En.first (Md.liesQ I x y room) 40=(k:Int)):=fun k hk hno e=>En.first_hit hno e hk
 have hnone:Hid ((∀j,j<40→Md.liesQ I x y room j=false)→En.first (Md.liesQ I x y room) 40=-1):=fun hno=>En.first_none hno
 generalize En.first (Md.liesQ I x y room) 40=r at hhit hnone ⊢
 clear hI h3 h4 hr l1 l2
 go_enter Tryz.func233,Tryz.ntmps233
 go_wp2_with fail
 go_loopw [5,8] (fun _ i wr=>∃k:Nat,k≤40∧i=.int .i64 (k:Int)∧Hid (∀j,j<k→Md.liesQ I x y room j=false)∧Hid (w.grownBy wr none)) (fun _ i _=>50 - (intOf i).toNat)
 case atStart=>exact ⟨0,by omega,rfl,fun j hj=>by omega,World.grownBy.refl _ _⟩
 case round =>
  obtain ⟨k,hk,rfl,hno,hg⟩:=hrel
  by_cases hlt:k<40
  ·obtain ⟨u0,u1,u2,u3⟩:=((uh hI').on (uh hg)).row hlt
   have hlt':(k:Int)<40:=by omega
   have HL:=hide hlt
   clear hlt hk
   have ck:=hide (uh cq k wr (uh hg))
   obtain ⟨q,hq⟩:∃q,Md.liesQ I x y room k=q:=⟨_,rfl⟩
   rw [hq] at ck
   have hq':=hide hq
   clear hq
   go_wp2_with fail
   refine (uh ck).mono ?_
   rintro e w1 ⟨rfl,hg1⟩
   have hg2:=hide (gtr (uh hg) hg1)
   clear hg1 ck u0 u1 u2 u3
   cases q
   ·have hno2:Hid (∀j,j<k+1→Md.liesQ I x y room j=false):=fun j hj=>by
     by_cases ej:j=k
     ·rw [ej];exact uh hq'
     ·exact uh hno j (by omega)
    go_wp2
    go_roundw
    case rel=>exact ⟨k+1,by have:=uh HL;omega,by go_num,hno2,hg2⟩
    case measure=>have:=uh HL;simp [intOf];omega
   ·have he:Hid (r=(k:Int)):=uh hhit k (uh HL) (uh hno) (uh hq')
    go_wp2
    go_ret
    exact ⟨rti (uh he).symm,uh hg2⟩
  ·obtain rfl:k=40:=by omega
   have hge:¬((40:Nat):Int)<40:=by omega
   have he:Hid (r=-1):=uh hnone (uh hno)
   clear hlt hk
   go_wp2
   go_ret
   exact ⟨rti (uh he).symm,uh hg⟩

theorem mContainsFunc_any (I:Nat→Nat→Int) (gI cI:Nat) (x y:Int) (room:Bool) (Bh Br:Nat) (w:World) (hI:Its w gI 0 40 I) (h3:w.cell? ⟨Bh,3,none⟩=some (.int .i64 x)) (h4:w.cell? ⟨Bh,4,none⟩=some (.int .i64 y)) (hr:w.cell? ⟨Br,0,none⟩=some (.bool room)) (l1:Bh<w.heap.size) (l2:Br<w.heap.size) :
  Calls Tryz.prog 231 #[.slice (some ⟨gI,0,none⟩) 40 cI,.func (.func 232) #[] #[.pointer (some ⟨Bh,0,none⟩),.pointer (some ⟨Br,0,none⟩)]] w (Says w (.bool (Md.lies I x y room))):=by
 have ci:=hide (mIndexFunc_any I gI cI x y room Bh Br w hI h3 h4 hr l1 l2)
 have hd:Hid (Md.lies I x y room=decide (0≤En.first (Md.liesQ I x y room) 40)):=rfl
 rw [uh hd]
 generalize En.first (Md.liesQ I x y room) 40=r at ci ⊢
 clear hI h3 h4 hr l1 l2 hd
 go_enter Tryz.func231,Tryz.ntmps231
 go_wp2_with fail
 refine (uh ci).mono ?_
 rintro e w1 ⟨rfl,hg⟩
 have hg':=hide hg
 clear hg
 go_wp2
 go_ret
 exact ⟨by simp,uh hg'⟩

theorem mFinds_any (I:Nat→Nat→Int) (e:Nat→Int) (gI cI:Nat) (room:Bool) (w:World) (hI:Its w gI 0 40 I) :
  Calls Tryz.prog 230 #[.slice (some ⟨gI,0,none⟩) 40 cI,.agg (En.cells e),.bool room] w (Says w (.bool (Md.lies I (e 3) (e 4) room))):=by
 obtain ⟨w1,hw1⟩:∃w1,w1=w.alloc (.cells (En.cells e) 54):=⟨_,rfl⟩
 obtain ⟨w2,hw2⟩:∃w2,w2=w1.alloc (.cells #[.bool room] 4):=⟨_,rfl⟩
 have hg1:w.grownBy w1 none:=by rw [hw1];exact World.grownBy_alloc _ _ _
 have hg2:w1.grownBy w2 none:=by rw [hw2];exact World.grownBy_alloc _ _ _
 have hg:=hide (gtr hg1 hg2)
 have hQ:Lie w1 w.heap.size 54 11 (Ints e):=by rw [hw1];exact Lie.copied _ _ _
 have h3:w2.cell? ⟨w.heap.size,3,none⟩=some (.int .i64 (e 3)):=(hQ.on hg2).cell (c:=3) (by omega)
 have h4:w2.cell? ⟨w.heap.size,4,none⟩=some (.int .i64 (e 4)):=(hQ.on hg2).cell (c:=4) (by omega)
 have hr:w2.cell? ⟨w1.heap.size,0,none⟩=some (.bool room):=by rw [hw2];exact (Arr.lit (heap_alloc_new w1 (.cells #[.bool room] 4))).cell (i:=0) (by simp)
 have s1:w1.heap.size=w.heap.size+1:=by rw [hw1];simp
 have s2:w2.heap.size=w1.heap.size+1:=by rw [hw2];simp
 have cf:=hide (mContainsFunc_any I gI cI (e 3) (e 4) room w.heap.size w1.heap.size w2 (hI.on (uh hg)) h3 h4 hr (by omega) (by omega))
 obtain ⟨R,hR⟩:∃R,Md.lies I (e 3) (e 4) room=R:=⟨_,rfl⟩
 rw [hR] at cf ⊢
 rw [s1] at cf
 clear hR hI hg1 hg2 hQ h3 h4 hr s1 s2
 rw [hw1] at hw2
 unfold En.cells at hw2 ⊢
 clear hw1
 go_enter Tryz.func230,Tryz.ntmps230
 go_upto_region 1 with fail
 rw [←hw2]
 clear hw2
 go_wp2_with fail
 refine (uh cf).mono ?_
 rintro x w3 ⟨rfl,hg3⟩
 have hfin:=hide (gtr (uh hg) hg3)
 clear hg3 cf
 go_wp2
 go_ret
 exact ⟨rfl,uh hfin⟩


open Go.RowKit

set_option maxRecDepth 8000 in
set_option maxHeartbeats 12800000 in
theorem mRobot_next (s g c:Nat→Int) (E I:Nat→Nat→Int) (gC gE gI cC cE cI k:Nat) (w:World) (hL:Gd.Lists w gC gE gI c E I) (hc:∀i,0≤c i∧c i≤255) (hcE:32≤cE) (hcC:384≤cC) (hE:Md.Good c E I) (hk:k<32) (hk0:E k 0≠0) :
  Calls Tryz.prog 226 #[.agg #[],.agg (Gd.world s gC gE gI cC cE cI g),.int .i64 (k:Int)] w (Md.Says w (Md.robotAt c E I (E k 2) k)):=by
 obtain ⟨wz,hwz⟩:∃wz,wz=w.alloc (.cells #[] 158):=⟨_,rfl⟩
 obtain ⟨w0,hw0⟩:∃w0,w0=wz.alloc (.cells (Gd.world s gC gE gI cC cE cI g) 30):=⟨_,rfl⟩
 have hgz:w.grownBy wz none:=by rw [hwz];exact World.grownBy_alloc _ _ _
 have hg0:w.grownBy w0 none:=by rw [hw0];exact gtr hgz (World.grownBy_alloc _ _ _)
 have hO:Hid (Gd.Shown w w0 wz.heap.size gC gE gI cC cE cI s g c E I):=by
  refine ⟨?_,hL.on hg0,hg0⟩
  rw [hw0]
  exact (Arr.world (heap_alloc_new wz _)).lie
 have hsz:wz.heap.size=w.heap.size+1:=by rw [hwz];simp
 have hc':=hide hc
 have hcE':=hide hcE
 have hcC':=hide hcC
 have hE':=hide hE
 clear hL hc hcE hcC hE hg0 hgz
 unfold Gd.world at hw0 ⊢
 rw [hwz] at hw0
 rw [hsz] at hO
 clear hwz hsz
 go_enter Tryz.func226,Tryz.ntmps226
 go_upto_region 1 with fail
 rw [←hw0]
 clear hw0
 obtain ⟨B,hB⟩:∃B,w.heap.size+1=B:=⟨_,rfl⟩
 rw [hB] at hO ⊢
 clear hB
 obtain ⟨x0,x9,y0,y9,m0,m9⟩:=(uh hE').fine k hk hk0
 have hk':(k:Int)<32:=by omega
 have HK:=hide hk
 have q5:=(uh hO).box.eleven.2.2.2.2.2.1
 obtain ⟨u0,u1,u2,u3,u4,u5,u6,u7,u8,u9,u10⟩:=(uh hO).lists.own.ents.row hk
 have hQ:=hide (Lie.copied w0 (E k) 54)
 have hO2:=hide ((uh hO).on (World.grownBy_alloc w0 (.cells (En.cells (E k)) 54) none))
 clear hk hk0
 unfold En.cells at hQ hO2
 go_upto_region 2 with fail
 obtain ⟨Q,hQe⟩:∃Q,w0.heap.size=Q:=⟨_,rfl⟩
 rw [hQe] at hQ ⊢
 generalize w0.alloc (.cells #[.int .i64 (E k 0),.int .i64 (E k 1),.int .i64 (E k 2),.int .i64 (E k 3),.int .i64 (E k 4),.int .i64 (E k 5),.int .i64 (E k 6),.int .i64 (E k 7),.int .i64 (E k 8),.int .i64 (E k 9),.int .i64 (E k 10)] 54)=w2 at hQ hO2 ⊢
 clear hQe q5 u0 u1 u2 u3 u4 u5 u6 u7 u8 u9 u10 hO
 have q6:=(uh hO2).box.eleven.2.2.2.2.2.2.1
 have z2:w2.cell? ⟨Q,2,none⟩=some (.int .i64 (E k 2)):=(uh hQ).cell (c:=2) (by omega)
 have cb:=hide (mBag_any I gI cI (E k 2) w2 (uh hO2).lists.its)
 go_wp2_with fail
 refine (uh cb).mono ?_
 rintro e w3 ⟨G,f,rfl,hA,hbag,hg⟩
 have hA3:=hide hA
 have hO3:=hide ((uh hO2).on hg)
 have hQ3:=hide ((uh hQ).on hg)
 have hhas:=hide (Md.has_iff (uh hE').ok hbag)
 have hslt:=hide (Md.slot_iff (uh hE').ok hbag)
 clear q6 z2 cb hA hbag hg hO2 hQ
 have q5:=(uh hO3).box.eleven.2.2.2.2.2.1
 obtain ⟨z0,z1,z2,z3,z4,z5,z6,z7,z8,z9,z10⟩:=(uh hQ3).elevenInts
 have cf:=hide (mFoe_any E (E k) gE cE w3 (uh hO3).lists.own (uh hcE') x0 x9 y0 y9)
 unfold En.cells at cf
 obtain ⟨FO,hFO⟩:∃F,Nv.wayFrom (Md.foe E (E k 3) (E k 4)) 4 1=F:=⟨_,rfl⟩
 rw [hFO] at cf
 have hFO':=hide hFO
 clear hFO
 go_wp2_with fail
 refine (uh cf).mono ?_
 rintro e w4 ⟨rfl,hg⟩
 have hA4:=hide ((uh hA3).grown hg (by simp))
 have hO4:=hide ((uh hO3).on hg)
 have hQ4:=hide ((uh hQ3).on hg)
 clear q5 z0 z1 z2 z3 z4 z5 z6 z7 z8 z9 z10 cf hg hA3 hO3 hQ3
 have hat:Hid (∀v,Md.robotAt c E I (E k 2) k v↔if E k 5≤E k 6 / 3∧0≤Gd.has I 40 (E k 2) 1 1 then v=6 else if FO≠0 then v=FO else if 0≤Gd.find I 40 1 (E k 3) (E k 4)∧(I (Gd.find I 40 1 (E k 3) (E k 4)).toNat 0=4∨0≤Gd.slot I 40 (E k 2)) then v=5 else if Gr.at 384 c (E k 3) (E k 4)=4 then v=9 else Nv.IsToward c (fun _=>Gr.find 384 c 4) 1 E 32 (E k 3) (E k 4) v):=fun v=>by
  rw [←uh hFO']
  exact Iff.rfl
 have hlie:=hide (Md.lies_iff (x:=E k 3) (y:=E k 4) (S:=Gd.slot I 40 (E k 2)) (uh hE').ok)
 have z5:w4.cell? ⟨Q,5,none⟩=some (.int .i64 (E k 5)):=(uh hQ4).cell (c:=5) (by omega)
 have z6:w4.cell? ⟨Q,6,none⟩=some (.int .i64 (E k 6)):=(uh hQ4).cell (c:=6) (by omega)
 have c1:=hide (mContains_any G f 1 w4 (uh hA4))
 rw [uh hhas] at c1
 obtain ⟨P,hP⟩:∃P,Gd.has I 40 (E k 2) 1 1=P:=⟨_,rfl⟩
 rw [hP] at c1 hat
 clear hP hhas hFO'
 obtain ⟨p,hp⟩:∃p:Bool,decide (E k 5≤E k 6 / 3∧0≤P)=p:=⟨_,rfl⟩
 go_upto_region 4 with fail
 go_cut [24] from 25 (fun va wx=>va=.bool p∧wx=w4)
 case first =>
  have hd:(E k 6).tdiv 3=E k 6 / 3:=Int.tdiv_eq_ediv_of_nonneg m0
  by_cases h1:E k 5≤E k 6 / 3
  ·have hpd:Hid (decide (0≤P)=p):=(show decide (0≤P)=p by rw [←hp];simp [h1])
   clear hp
   go_wp2_with fail
   refine (uh c1).mono ?_
   rintro e wy ⟨rfl,hy⟩
   subst wy
   go_wp2_with fail
   go_meet
   exact ⟨by rw [uh hpd],rfl⟩
  ·obtain rfl:p=false:=by rw [←hp];simp [h1]
   clear hp
   go_wp2_with fail
   go_meet
   exact ⟨rfl,rfl⟩
 case rest =>
  obtain ⟨rfl,hwe⟩:=hcut
  subst hwe
  clear z5 z6 c1 m0 m9
  cases p
  rotate_left
  ·have hfin:Hid (Md.Says w (Md.robotAt c E I (E k 2) k) (.returned (.int .i64 6)) wc):=⟨6,(uh hat 6).2 (by rw [if_pos (by simpa using hp)]),rfl,(uh hO4).grown⟩
   clear hp
   go_wp2
   go_ret
   exact uh hfin
  have hat2:Hid (∀v,(if FO≠0 then v=FO else if 0≤Gd.find I 40 1 (E k 3) (E k 4)∧(I (Gd.find I 40 1 (E k 3) (E k 4)).toNat 0=4∨0≤Gd.slot I 40 (E k 2)) then v=5 else if Gr.at 384 c (E k 3) (E k 4)=4 then v=9 else Nv.IsToward c (fun _=>Gr.find 384 c 4) 1 E 32 (E k 3) (E k 4) v)→Md.robotAt c E I (E k 2) k v):=fun v hv=>(uh hat v).2 (by rw [if_neg (by simpa using hp)];exact hv)
  clear hp hat
  by_cases hF0:FO=0
  rotate_left
  ·have hF0':(FO != 0)=true:=by simpa using hF0
   have hfin:Hid (Md.Says w (Md.robotAt c E I (E k 2) k) (.returned (.int .i64 FO)) wc):=⟨FO,uh hat2 FO (by rw [if_pos hF0]),rfl,(uh hO4).grown⟩
   clear hF0
   go_wp2
   go_ret
   exact uh hfin
  have hat3:Hid (∀v,(if 0≤Gd.find I 40 1 (E k 3) (E k 4)∧(I (Gd.find I 40 1 (E k 3) (E k 4)).toNat 0=4∨0≤Gd.slot I 40 (E k 2)) then v=5 else if Gr.at 384 c (E k 3) (E k 4)=4 then v=9 else Nv.IsToward c (fun _=>Gr.find 384 c 4) 1 E 32 (E k 3) (E k 4) v)→Md.robotAt c E I (E k 2) k v):=fun v hv=>uh hat2 v (by rw [if_neg (by simpa using hF0)];exact hv)
  subst hF0
  clear hat2
  have c0:Hid (∀z,wc.grownBy z none→Calls Tryz.prog 229 #[.slice (some ⟨G,0,none⟩) 4 4,.int .i64 0] z fun e w'=>e=.returned (.bool (decide (0≤Gd.slot I 40 (E k 2))))∧w'=z):=fun z hz=>by
   rw [←uh hslt]
   exact mContains_any G f 0 z ((uh hA4).grown hz (by simp))
  have cl:Hid (∀z,wc.grownBy z none→Calls Tryz.prog 230 #[.slice (some ⟨gI,0,none⟩) 40 cI,.agg (En.cells (E k)),.bool (decide (0≤Gd.slot I 40 (E k 2)))] z (Says z (.bool (decide (0≤Gd.find I 40 1 (E k 3) (E k 4)∧(I (Gd.find I 40 1 (E k 3) (E k 4)).toNat 0=4∨0≤Gd.slot I 40 (E k 2))))))):=fun z hz=>by
   rw [←uh hlie]
   exact mFinds_any I (E k) gI cI _ z ((uh hO4).lists.on hz).its
  unfold En.cells at cl
  obtain ⟨sl,hsl⟩:∃sl:Bool,decide (0≤Gd.slot I 40 (E k 2))=sl:=⟨_,rfl⟩
  obtain ⟨p,hp⟩:∃p:Bool,decide (0≤Gd.find I 40 1 (E k 3) (E k 4)∧(I (Gd.find I 40 1 (E k 3) (E k 4)).toNat 0=4∨0≤Gd.slot I 40 (E k 2)))=p:=⟨_,rfl⟩
  rw [hsl] at c0
  rw [hp,hsl] at cl
  have hp':=hide hp
  clear hsl hp hslt hlie hA4
  have hdr:=hide (gd1 (World.grownBy.refl wc none))
  have hkeep:Hid (∀z,wc.grownBy z none→(z.cell? ⟨B,6,none⟩=some (.slice (some ⟨gI,0,none⟩) 40 cI)∧z.cell? ⟨Q,0,none⟩=some (.int .i64 (E k 0))∧z.cell? ⟨Q,1,none⟩=some (.int .i64 (E k 1))∧z.cell? ⟨Q,2,none⟩=some (.int .i64 (E k 2))∧z.cell? ⟨Q,3,none⟩=some (.int .i64 (E k 3))∧z.cell? ⟨Q,4,none⟩=some (.int .i64 (E k 4))∧z.cell? ⟨Q,5,none⟩=some (.int .i64 (E k 5))∧z.cell? ⟨Q,6,none⟩=some (.int .i64 (E k 6))∧z.cell? ⟨Q,7,none⟩=some (.int .i64 (E k 7))∧z.cell? ⟨Q,8,none⟩=some (.int .i64 (E k 8))∧z.cell? ⟨Q,9,none⟩=some (.int .i64 (E k 9))∧z.cell? ⟨Q,10,none⟩=some (.int .i64 (E k 10)))):=fun z hz=>⟨((uh hO4).on hz).box.eleven.2.2.2.2.2.2.1,((uh hQ4).on hz).elevenInts⟩
  have hS0:=uh hkeep wc (World.grownBy.refl _ none)
  go_upto_region 8 with fail
  go_region_held3 (fun z=>z.cell? ⟨B,6,none⟩=some (.slice (some ⟨gI,0,none⟩) 40 cI)∧z.cell? ⟨Q,0,none⟩=some (.int .i64 (E k 0))∧z.cell? ⟨Q,1,none⟩=some (.int .i64 (E k 1))∧z.cell? ⟨Q,2,none⟩=some (.int .i64 (E k 2))∧z.cell? ⟨Q,3,none⟩=some (.int .i64 (E k 3))∧z.cell? ⟨Q,4,none⟩=some (.int .i64 (E k 4))∧z.cell? ⟨Q,5,none⟩=some (.int .i64 (E k 5))∧z.cell? ⟨Q,6,none⟩=some (.int .i64 (E k 6))∧z.cell? ⟨Q,7,none⟩=some (.int .i64 (E k 7))∧z.cell? ⟨Q,8,none⟩=some (.int .i64 (E k 8))∧z.cell? ⟨Q,9,none⟩=some (.int .i64 (E k 9))∧z.cell? ⟨Q,10,none⟩=some (.int .i64 (E k 10))) (go_keep) (first
   | (go_at_call 229;refine (uh c0 _ (uh hdr)).mono ?_;rintro e wy ⟨rfl,hy⟩;subst wy)
   | (go_at_call 230;refine (uh cl _ (uh hdr)).mono ?_;rintro e w5 ⟨rfl,hg⟩;have hg5:=hide (gtr (uh hdr) hg);have hS1:=uh hkeep _ (uh hg5);clear hg))
  have hO5:=hide ((uh hO4).on (uh hg5))
  have hQ5:=hide ((uh hQ4).on (uh hg5))
  clear hS0 hS1 hkeep hdr c0 cl hO4 hQ4 hg5
  cases p
  rotate_left
  ·have hfin:Hid (Md.Says w (Md.robotAt c E I (E k 2) k) (.returned (.int .i64 5)) w5):=⟨5,uh hat3 5 (by rw [if_pos (by simpa using uh hp')]),rfl,(uh hO5).grown⟩
   clear hp'
   go_wp2
   go_ret
   exact uh hfin
  have hat4:Hid (∀v,(if Gr.at 384 c (E k 3) (E k 4)=4 then v=9 else Nv.IsToward c (fun _=>Gr.find 384 c 4) 1 E 32 (E k 3) (E k 4) v)→Md.robotAt c E I (E k 2) k v):=fun v hv=>uh hat3 v (by rw [if_neg (by simpa using uh hp')];exact hv)
  clear hat3 hp'
  have hQ6:Hid (∀z,w5.grownBy z none→z.cell? ⟨Q,3,none⟩=some (.int .i64 (E k 3))∧z.cell? ⟨Q,4,none⟩=some (.int .i64 (E k 4))):=fun z hz=>by
   have h3:=((uh hQ5).on hz).cell (c:=3) (by omega)
   have h4:=((uh hQ5).on hz).cell (c:=4) (by omega)
   exact ⟨h3,h4⟩
  clear hQ5
  have cg:=hide (at_any w5.heap.size (some ⟨gC,0,none⟩) 384 cC c (E k 3) (E k 4) w5 (uh hO5).lists.vec (uh hc'))
  obtain ⟨a,ha⟩:∃a,Gr.at 384 c (E k 3) (E k 4)=a:=⟨_,rfl⟩
  rw [ha] at cg hat4
  clear ha
  have q4:=(uh hO5).box.eleven.2.2.2.2.1
  obtain ⟨z3,z4⟩:=uh hQ6 _ (World.grownBy.refl _ none)
  go_wp2_with fail
  refine (uh cg).mono ?_
  rintro e wy ⟨rfl,hy⟩
  subst wy
  clear cg
  by_cases h4:a=4
  ·have hfin:Hid (Md.Says w (Md.robotAt c E I (E k 2) k) (.returned (.int .i64 9)) w5):=⟨9,uh hat4 9 (by rw [if_pos h4]),rfl,(uh hO5).grown⟩
   subst h4
   go_wp2
   go_ret
   exact uh hfin
  have h4':(a == 4)=false:=by simpa using h4
  have hat5:Hid (∀v,Nv.IsToward c (fun _=>Gr.find 384 c 4) 1 E 32 (E k 3) (E k 4) v→Md.robotAt c E I (E k 2) k v):=fun v hv=>uh hat4 v (by rw [if_neg h4];exact hv)
  clear h4 hat4 q4 z3 z4
  have cF:=hide (fun z (hz:w5.grownBy z none)=>find_any z.heap.size (some ⟨gC,0,none⟩) 384 cC c 4 z ((uh hO5).lists.on hz).vec (uh hc') (uh hcC'))
  have hfb:=Md.find_bd c 4 384 0
  obtain ⟨F,hF⟩:∃F,Gr.find 384 c 4=F:=⟨_,rfl⟩
  have hfb':-1≤F∧F≤384:=by rw [←hF];exact hfb
  rw [hF] at cF hat5
  have hgz:=hide (gd1 (World.grownBy_alloc w5 (.cells #[.int .i64 F] 3) none))
  have ct:Hid (∀b,b=w5.heap.size→Calls Tryz.prog 215 #[.slice (some ⟨gC,0,none⟩) 384 cC,.slice (some ⟨gE,0,none⟩) 32 cE,.int .i64 (E k 3),.int .i64 (E k 4),.slice (some ⟨b,0,none⟩) 1 1] (w5.alloc (.cells #[.int .i64 F] 3)).drew (Nv.SaysToward (w5.alloc (.cells #[.int .i64 F] 3)).drew c (fun _=>F) 1 E 32 (E k 3) (E k 4))):=fun b hb=>by
   subst hb
   have hL:=(uh hO5).lists.on (uh hgz)
   exact navToward_any (some ⟨gC,0,none⟩) (some ⟨gE,0,none⟩) (some ⟨w5.heap.size,0,none⟩) cC 32 cE 1 1 c (fun _=>F) E (E k 3) (E k 4) _ hL.vec (uh hc') ⟨by omega,uh hcE',.inr ⟨gE,rfl,hL.own.ents⟩⟩ (uh hE').words (Nv.one_row w5 F 3) (fun _=>by omega) (by omega) (by omega) (by omega) (by omega)
  have hdr:=hide (gd1 (World.grownBy.refl w5 none))
  have hkeep:Hid (∀z,w5.grownBy z none→(z.cell? ⟨B,4,none⟩=some (.slice (some ⟨gC,0,none⟩) 384 cC)∧z.cell? ⟨B,5,none⟩=some (.slice (some ⟨gE,0,none⟩) 32 cE)∧z.cell? ⟨Q,3,none⟩=some (.int .i64 (E k 3))∧z.cell? ⟨Q,4,none⟩=some (.int .i64 (E k 4)))):=fun z hz=>⟨((uh hO5).on hz).box.eleven.2.2.2.2.1,((uh hO5).on hz).box.eleven.2.2.2.2.2.1,(uh hQ6 z hz).1,(uh hQ6 z hz).2⟩
  have hS0:=uh hkeep w5 (World.grownBy.refl _ none)
  clear hfb hF hfb'
  go_upto_region 12 with fail
  go_region_held3 (fun z=>z.cell? ⟨B,4,none⟩=some (.slice (some ⟨gC,0,none⟩) 384 cC)∧z.cell? ⟨B,5,none⟩=some (.slice (some ⟨gE,0,none⟩) 32 cE)∧z.cell? ⟨Q,3,none⟩=some (.int .i64 (E k 3))∧z.cell? ⟨Q,4,none⟩=some (.int .i64 (E k 4))) (go_keep) (first
   | (go_at_call 78;refine (uh cF _ (uh hdr)).mono ?_;rintro e wy ⟨rfl,hy⟩;subst wy)
   | (go_at_call 215;refine (uh ct _ rfl).mono ?_;rintro e w6 ⟨v,hv,rfl,hg⟩;have hg6:=hide (gtr (uh hgz) hg);have hv':=hide hv;have hS1:=uh hkeep _ (uh hg6);clear hg hv))
  have hfin:Hid (Md.Says w (Md.robotAt c E I (E k 2) k) (.returned (.int .i64 v)) w6):=⟨v,uh hat5 v (uh hv'),rfl,gtr (uh hO5).grown (uh hg6)⟩
  clear hS0 hS1
  go_wp2
  go_ret
  exact uh hfin

end Go.Proofs.YtbanjoflgoiegaaGreat
