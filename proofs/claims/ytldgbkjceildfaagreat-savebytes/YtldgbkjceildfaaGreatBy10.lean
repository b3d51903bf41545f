import Derived.Test.YtldgbkjceildfaaGreatBy08
import Derived.Test.YtldgbkjceildfaaGreatBy09
namespace Go.Proofs.YtldgbkjceildfaaGreat

namespace Gd

def row (k w a b:Int):Nat→Int
 | 0=>k
 | 1=>w
 | 2=>a
 | 3=>b
 | _=>0

def gone:Nat→Int:=fun _=>0

def inQ (I:Nat→Nat→Int) (w a b:Int):Nat→Bool:=fun i=>decide (I i 1=w) && (decide (I i 2=a) && decide (I i 3=b))

def find (I:Nat→Nat→Int) (n:Nat) (w a b:Int):Int:=En.first (inQ I w a b) n

def slot (I:Nat→Nat→Int) (n:Nat) (seat:Int):Int:=En.first (fun b=>decide (find I n 2 seat (b:Int)<0)) 4

def hasQ (I:Nat→Nat→Int) (n:Nat) (seat lo hi:Int):Nat→Bool:=fun b=>decide (0≤find I n 2 seat (b:Int)) && (decide (lo≤I (find I n 2 seat (b:Int)).toNat 0) && decide (I (find I n 2 seat (b:Int)).toNat 0≤hi))

def has (I:Nat→Nat→Int) (n:Nat) (seat lo hi:Int):Int:=if 0≤En.first (hasQ I n seat lo hi) 4 then find I n 2 seat (En.first (hasQ I n seat lo hi) 4) else -1

def ware (I:Nat→Nat→Int) (n:Nat):Int:=if 0≤En.first (fun k=>decide (0≤find I n 4 (k:Int) 0)) 3 then find I n 4 (En.first (fun k=>decide (0≤find I n 4 (k:Int) 0)) 3) 0 else -1

theorem find_cases (I:Nat→Nat→Int) (n:Nat) (w a b:Int):(find I n w a b=-1∧∀j,j<n→¬(I j 1=w∧I j 2=a∧I j 3=b))∨∃k:Nat,k<n∧find I n w a b=(k:Int)∧I k 1=w∧I k 2=a∧I k 3=b∧∀j,j<k→¬(I j 1=w∧I j 2=a∧I j 3=b):=by
 have conv:∀j,inQ I w a b j=false→¬(I j 1=w∧I j 2=a∧I j 3=b):=fun j h ⟨h1,h2,h3⟩=>by simp [inQ,h1,h2,h3] at h
 rcases En.first_cases (inQ I w a b) n with ⟨h,hno⟩|⟨k,hk,h,hq,hno⟩
 ·exact .inl ⟨h,fun j hj=>conv j (hno j hj)⟩
 ·simp only [inQ,Bool.and_eq_true,decide_eq_true_eq] at hq;exact .inr ⟨k,hk,h,hq.1,hq.2.1,hq.2.2,fun j hj=>conv j (hno j hj)⟩

theorem find_neg {I:Nat→Nat→Int} {n:Nat} {w a b:Int} (h:find I n w a b<0):find I n w a b=-1∧∀j,j<n→¬(I j 1=w∧I j 2=a∧I j 3=b):=by
 rcases find_cases I n w a b with h'|⟨k,_,h',_⟩
 ·exact h'
 ·omega

theorem find_pos {I:Nat→Nat→Int} {n:Nat} {w a b:Int} (h:0≤find I n w a b):∃k:Nat,k<n∧find I n w a b=(k:Int)∧I k 1=w∧I k 2=a∧I k 3=b:=by
 rcases find_cases I n w a b with ⟨h',_⟩|⟨k,hk,h',h1,h2,h3,_⟩
 ·omega
 ·exact ⟨k,hk,h',h1,h2,h3⟩

theorem slot_pos {I:Nat→Nat→Int} {n:Nat} {seat:Int} (h:0≤slot I n seat):slot I n seat<4∧∀j,j<n→¬(I j 1=2∧I j 2=seat∧I j 3=slot I n seat):=by
 unfold slot at *
 rcases En.first_cases (fun b=>decide (find I n 2 seat (b:Int)<0)) 4 with ⟨h',_⟩|⟨k,hk,h',hq,_⟩
 ·omega
 ·rw [h'];exact ⟨by omega,(find_neg (by simpa using hq)).2⟩

theorem has_pos {I:Nat→Nat→Int} {n:Nat} {seat lo hi:Int} (h:0≤has I n seat lo hi):∃k:Nat,k<n∧has I n seat lo hi=(k:Int)∧I k 1=2∧I k 2=seat∧0≤I k 3∧I k 3<4∧lo≤I k 0∧I k 0≤hi:=by
 unfold has at *
 rcases En.first_cases (hasQ I n seat lo hi) 4 with ⟨h',_⟩|⟨b,hb,h',hq,_⟩
 ·rw [if_neg (by omega)] at h;omega
 ·rw [if_pos (by omega),h'] at *
  simp only [hasQ,Bool.and_eq_true,decide_eq_true_eq] at hq;obtain ⟨k,hk,e,h1,h2,h3⟩:=find_pos hq.1;rw [e,Int.toNat_natCast] at hq;exact ⟨k,hk,e,h1,h2,by omega,by omega,hq.2.1,hq.2.2⟩

theorem ware_pos {I:Nat→Nat→Int} {n:Nat} (h:0≤ware I n):∃k:Nat,k<n∧ware I n=(k:Int)∧I k 1=4:=by
 unfold ware at *
 rcases En.first_cases (fun k=>decide (0≤find I n 4 (k:Int) 0)) 3 with ⟨h',_⟩|⟨b,hb,h',hq,_⟩
 ·rw [if_neg (by omega)] at h;omega
 ·rw [if_pos (by omega)] at h ⊢;obtain ⟨k,hk,e,h1,_⟩:=find_pos h;exact ⟨k,hk,e,h1⟩

def Zero (r:Nat→Int):Prop:=r 0=0∧r 1=0∧r 2=0∧r 3=0

def Placed (c:Nat→Int) (r:Nat→Int):Prop:=1≤r 0∧r 0≤4 ∧
  ((r 1 = 1 ∧ Gr.inB (r 2) (r 3) = true ∧ Gr.walkB (Gr.at 384 c (r 2) (r 3)) = true) ∨
   (r 1 = 2 ∧ 0 ≤ r 2 ∧ r 2 < 4 ∧ 0 ≤ r 3 ∧ r 3 < 4 ∧ r 0 ≠ 4) ∨
   (r 1 = 3 ∧ 0 ≤ r 2 ∧ r 2 < 4 ∧ (r 0 = 2 ∧ r 3 = 0 ∨ r 0 = 3 ∧ r 3 = 1)) ∨
   (r 1=4∧0≤r 2∧r 2<3∧r 3=0∧r 0≠4))

def Share (r s:Nat→Int):Prop:=r 1=s 1∧r 2=s 2∧r 3=s 3

structure Ok (c:Nat→Int) (n:Nat) (I:Nat→Nat→Int):Prop where
 each:∀i,i<n→Zero (I i)∨Placed c (I i)
 one:∀i k,i<n→k<n→i≠k→I i 1≠0→¬Share (I k) (I i)

theorem Placed.where_ne {c r:Nat→Int} (h:Placed c r):r 1≠0:=by
 obtain ⟨_,_,h|h|h|h⟩:=h <;> omega

theorem Ok.put {c:Nat→Int} {n:Nat} {I:Nat→Nat→Int} (h:Ok c n I) {i:Nat} {r:Nat→Int} (hr:Zero r∨(Placed c r∧∀k,k<n→k≠i→¬Share (I k) r)):Ok c n (En.put I i r):=by
 refine ⟨fun k hk=>?_,fun j k hj hk hjk hw hs=>?_⟩
 ·by_cases e:k=i
  ·rw [e,En.put_same];exact hr.imp id And.left
  ·rw [En.put_other e];exact h.each k hk
 ·by_cases ej:j=i
  ·rw [ej,En.put_same] at hw hs;rw [En.put_other (by omega)] at hs;rcases hr with hz|⟨_,hno⟩
   ·exact hw hz.2.1
   ·exact hno k hk (by omega) hs
  ·rw [En.put_other ej] at hw hs;by_cases ek:k=i
   ·rw [ek,En.put_same] at hs;rcases hr with hz|⟨_,hno⟩
    ·exact hw (by rw [←hs.1];exact hz.2.1)
    ·exact hno j hj ej ⟨hs.1.symm,hs.2.1.symm,hs.2.2.symm⟩
   ·rw [En.put_other ek] at hs;exact h.one j k hj hk hjk hw hs

theorem Ok.swap {c:Nat→Int} {n:Nat} {I:Nat→Nat→Int} (h:Ok c n I) {i j:Nat} (hij:i≠j) {r s:Nat→Int} (hi:i<n) (hj:j<n) (hwi:I i 1≠0) (hwj:I j 1≠0) (hr:Placed c r) (hs:Placed c s) (ri:Share r (I j)) (sj:Share s (I i)):Ok c n (En.put (En.put I j s) i r):=by
 have at_i:En.put (En.put I j s) i r i=r:=En.put_same _ _ _;have at_j:En.put (En.put I j s) i r j=s:=by rw [En.put_other (by omega),En.put_same]
 have at_k:∀k,k≠i→k≠j→En.put (En.put I j s) i r k=I k:=fun k h1 h2=>by rw [En.put_other h1,En.put_other h2]
 have tr:∀{a b d:Nat→Int},Share a b→Share b d→Share a d:=fun h1 h2=>⟨h1.1.trans h2.1,h1.2.1.trans h2.2.1,h1.2.2.trans h2.2.2⟩;have sy:∀{a b:Nat→Int},Share a b→Share b a:=fun h1=>⟨h1.1.symm,h1.2.1.symm,h1.2.2.symm⟩;have hrs:¬Share r s:=fun e=>h.one i j hi hj hij hwi (tr (sy ri) (tr e sj));have hk:∀k,k<n→k≠i→k≠j→¬Share (I k) r∧¬Share (I k) s:=fun k hk h1 h2 =>
  ⟨fun e=>h.one j k hj hk (by omega) hwj (tr e ri),fun e=>h.one i k hi hk (by omega) hwi (tr e sj)⟩
 refine ⟨fun k hk=>?_,fun a b ha hb hab hw he=>?_⟩
 ·by_cases e1:k=i
  ·rw [e1,at_i];exact .inr hr
  ·by_cases e2:k=j
   ·rw [e2,at_j];exact .inr hs
   ·rw [at_k k e1 e2];exact h.each k hk
 ·by_cases a1:a=i
  ·rw [a1,at_i] at he;by_cases b2:b=j
   ·rw [b2,at_j] at he;exact hrs (sy he)
   ·rw [at_k b (by omega) b2] at he;exact (hk b hb (by omega) b2).1 he
  ·by_cases a2:a=j
   ·rw [a2,at_j] at he;by_cases b1:b=i
    ·rw [b1,at_i] at he;exact hrs he
    ·rw [at_k b b1 (by omega)] at he;exact (hk b hb b1 (by omega)).2 he
   ·rw [at_k a a1 a2] at he hw;by_cases b1:b=i
    ·rw [b1,at_i] at he;exact (hk a ha a1 a2).1 (sy he)
    ·by_cases b2:b=j
     ·rw [b2,at_j] at he;exact (hk a ha a1 a2).2 (sy he)
     ·rw [at_k b b1 b2] at he;exact h.one a b ha hb hab hw he

def pick (I:Nat→Nat→Int) (n:Nat) (seat x y:Int):Nat→Nat→Int :=
 if 0≤find I n 1 x y∧I (find I n 1 x y).toNat 0=4 then En.put I (find I n 1 x y).toNat gone
 else if 0≤find I n 1 x y∧0≤slot I n seat then En.put I (find I n 1 x y).toNat (row (I (find I n 1 x y).toNat 0) 2 seat (slot I n seat))
 else I

def use (I:Nat→Nat→Int) (n:Nat) (seat:Int):Nat→Nat→Int:=if 0≤has I n seat 1 1 then En.put I (has I n seat 1 1).toNat gone else I

def wearAt (I:Nat→Nat→Int) (n:Nat) (seat:Int) (i:Nat):Nat→Nat→Int :=
 if 0≤find I n 3 seat (I i 0 - 2) then En.put (En.put I (find I n 3 seat (I i 0 - 2)).toNat (row (I (find I n 3 seat (I i 0 - 2)).toNat 0) 2 (I (find I n 3 seat (I i 0 - 2)).toNat 2) (I i 3))) i (row (I i 0) 3 (I i 2) (I i 0 - 2))
 else En.put I i (row (I i 0) 3 (I i 2) (I i 0 - 2))

def wear (I:Nat→Nat→Int) (n:Nat) (seat:Int):Nat→Nat→Int:=if 0≤has I n seat 2 3 then wearAt I n seat (has I n seat 2 3).toNat else I

def drop (I:Nat→Nat→Int) (n:Nat) (seat x y:Int):Nat→Nat→Int:=if 0≤has I n seat 1 3∧find I n 1 x y<0 then En.put I (has I n seat 1 3).toNat (row (I (has I n seat 1 3).toNat 0) 1 x y) else I

def buys (I:Nat→Nat→Int) (n:Nat) (seat:Int) (shop:Bool) (gold:Int):Bool:=shop && (decide (5≤gold) && (decide (0≤slot I n seat) && decide (0≤ware I n)))

def buy (I:Nat→Nat→Int) (n:Nat) (seat:Int) (shop:Bool) (gold:Int):Nat→Nat→Int:=if buys I n seat shop gold=true then En.put I (ware I n).toNat (row (I (ware I n).toNat 0) 2 seat (slot I n seat)) else I

def act (I:Nat→Nat→Int) (n:Nat) (seat x y:Int) (shop:Bool) (gold input:Int):Nat→Nat→Int :=
 if input=5 then pick I n seat x y else if input=6 then use I n seat else if input=7 then wear I n seat else if input=8 then drop I n seat x y else if input=10 then buy I n seat shop gold else I

theorem Ok.of {c:Nat→Int} {n:Nat} {I:Nat→Nat→Int} (h:Ok c n I) {k:Nat} (hk:k<n) (hw:I k 1≠0):Placed c (I k):=by
 rcases h.each k hk with hz|hp
 ·exact absurd hz.2.1 hw
 ·exact hp

theorem zero_gone:Zero gone:=⟨rfl,rfl,rfl,rfl⟩

theorem Ok.pick {c:Nat→Int} {n:Nat} {I:Nat→Nat→Int} (h:Ok c n I) {seat x y:Int} (s0:0≤seat) (s4:seat<4):Ok c n (pick I n seat x y):=by
 unfold Gd.pick;split
 ·exact h.put (.inl zero_gone)
 ·rename_i hg;split
  ·rename_i hf;obtain ⟨k,hk,e,h1,h2,h3⟩:=find_pos hf.1;obtain ⟨f4,hno⟩:=slot_pos hf.2;have hp:=h.of hk (by omega);have hg':I k 0≠4:=fun e4=>hg ⟨hf.1,by rw [e,Int.toNat_natCast];exact e4⟩;rw [e,Int.toNat_natCast];refine h.put (.inr ⟨⟨hp.1,hp.2.1,.inr (.inl ⟨rfl,s0,s4,hf.2,f4,hg'⟩)⟩,fun j hj _ hs=>hno j hj ⟨hs.1,hs.2.1,hs.2.2⟩⟩)
  ·exact h

theorem Ok.use {c:Nat→Int} {n:Nat} {I:Nat→Nat→Int} (h:Ok c n I) (seat:Int):Ok c n (use I n seat):=by
 unfold Gd.use;split
 ·exact h.put (.inl zero_gone)
 ·exact h

theorem Ok.drop {c:Nat→Int} {n:Nat} {I:Nat→Nat→Int} (h:Ok c n I) {seat x y:Int} (hin:Gr.inB x y=true) (hw:Gr.walkB (Gr.at 384 c x y)=true):Ok c n (drop I n seat x y):=by
 unfold Gd.drop;split
 ·rename_i hf;obtain ⟨k,hk,e,h1,h2,h3,h4,k1,k3⟩:=has_pos hf.1;rw [e,Int.toNat_natCast];refine h.put (.inr ⟨⟨k1,by show I k 0≤4;omega,.inl ⟨rfl,hin,hw⟩⟩,fun j hj _ hs=>(find_neg hf.2).2 j hj ⟨hs.1,hs.2.1,hs.2.2⟩⟩)
 ·exact h

theorem Ok.buy {c:Nat→Int} {n:Nat} {I:Nat→Nat→Int} (h:Ok c n I) {seat:Int} (s0:0≤seat) (s4:seat<4) (shop:Bool) (gold:Int):Ok c n (buy I n seat shop gold):=by
 unfold Gd.buy;split
 ·rename_i hb;simp only [buys,Bool.and_eq_true,decide_eq_true_eq] at hb;obtain ⟨_,_,hs,hw⟩:=hb;obtain ⟨k,hk,e,h1⟩:=ware_pos hw;obtain ⟨f4,hno⟩:=slot_pos hs;rw [e,Int.toNat_natCast];have hp:=h.of hk (by omega);have hg:I k 0≠4:=by
   obtain ⟨_,_,h'|h'|h'|h'⟩:=hp <;> omega
  refine h.put (.inr ⟨⟨hp.1,hp.2.1,.inr (.inl ⟨rfl,s0,s4,hs,f4,hg⟩)⟩,fun j hj _ hs=>hno j hj ⟨hs.1,hs.2.1,hs.2.2⟩⟩)
 ·exact h

theorem Ok.wear {c:Nat→Int} {n:Nat} {I:Nat→Nat→Int} (h:Ok c n I) {seat:Int} (s0:0≤seat) (s4:seat<4):Ok c n (wear I n seat):=by
 unfold Gd.wear;split
 ·rename_i hf;obtain ⟨k,hk,e,h1,h2,h3,h4,k2,k3⟩:=has_pos hf;rw [e,Int.toNat_natCast];unfold wearAt;have hr:Placed c (row (I k 0) 3 (I k 2) (I k 0 - 2)):=⟨by show 1≤I k 0;omega,by show I k 0≤4;omega,.inr (.inr (.inl ⟨rfl,by show 0≤I k 2;omega,by show I k 2<4;omega,by
   show I k 0=2∧I k 0 - 2=0∨I k 0=3∧I k 0 - 2=1;omega⟩))⟩
  split
  ·rename_i hw;obtain ⟨j,hj,ej,j1,j2,j3⟩:=find_pos hw;rw [ej,Int.toNat_natCast];have hpj:=h.of hj (by omega);have hs:Placed c (row (I j 0) 2 (I j 2) (I k 3)):=⟨hpj.1,hpj.2.1,.inr (.inl ⟨rfl,by show 0≤I j 2;omega,by show I j 2<4;omega,h3,h4,by
    show I j 0≠4;obtain ⟨_,_,h'|h'|h'|h'⟩:=hpj <;> omega⟩)⟩
   exact h.swap (i:=k) (j:=j) (by rintro rfl;omega) hk hj (by omega) (by omega) hr hs ⟨j1.symm,by show I k 2=I j 2;omega,j3.symm⟩ ⟨h1.symm,by show I j 2=I k 2;omega,rfl⟩
  ·rename_i hw;have hno:=(find_neg (I:=I) (n:=n) (w:=3) (a:=seat) (b:=I k 0 - 2) (by omega)).2;exact h.put (.inr ⟨hr,fun j hj _ hs=>hno j hj ⟨hs.1,hs.2.1.trans h2,hs.2.2⟩⟩)
 ·exact h

theorem Ok.act {c:Nat→Int} {n:Nat} {I:Nat→Nat→Int} (h:Ok c n I) {seat x y:Int} (s0:0≤seat) (s4:seat<4) (hin:Gr.inB x y=true) (hw:Gr.walkB (Gr.at 384 c x y)=true) (shop:Bool) (gold input:Int):Ok c n (act I n seat x y shop gold input):=by
 unfold Gd.act;split
 ·exact h.pick s0 s4
 ·split
  ·exact h.use seat
  ·split
   ·exact h.wear s0 s4
   ·split
    ·exact h.drop hin hw
    ·split
     ·exact h.buy s0 s4 shop gold
     ·exact h

def sweep (I:Nat→Nat→Int) (seat:Int):Nat→Nat→Int:=fun i=>if (I i 1=2∨I i 1=3)∧I i 2=seat then gone else I i

theorem Ok.sweep {c:Nat→Int} {n:Nat} {I:Nat→Nat→Int} (h:Ok c n I) (seat:Int):Ok c n (Gd.sweep I seat):=by
 have z:∀{i},((I i 1=2∨I i 1=3)∧I i 2=seat)→Gd.sweep I seat i=gone:=fun h=>if_pos h;have o:∀{i},¬((I i 1=2∨I i 1=3)∧I i 2=seat)→Gd.sweep I seat i=I i:=fun h=>if_neg h;refine ⟨fun i hi=>?_,fun i k hi hk hik hw hs=>?_⟩
 ·by_cases e:(I i 1=2∨I i 1=3)∧I i 2=seat
  ·rw [z e];exact .inl zero_gone
  ·rw [o e];exact h.each i hi
 ·by_cases e:(I i 1=2∨I i 1=3)∧I i 2=seat
  ·rw [z e] at hw;exact hw rfl
  ·rw [o e] at hw hs;by_cases ek:(I k 1=2∨I k 1=3)∧I k 2=seat
   ·rw [z ek] at hs;exact hw hs.1.symm
   ·rw [o ek] at hs;exact h.one i k hi hk hik hw hs

end Gd


open Go.RowKit

def Lie (x:World) (g:Nat) (T:TypeId) (m:Nat) (F:Nat→Value):Prop:=∃M G,Arr x g T M G∧m≤M∧∀c,c<m→G c=F c

theorem Arr.lie {x:World} {g:Nat} {T:TypeId} {m:Nat} {F:Nat→Value} (h:Arr x g T m F):Lie x g T m F:=⟨m,F,h,Nat.le_refl _,fun _ _=>rfl⟩

theorem Lie.cell {x:World} {g:Nat} {T:TypeId} {m:Nat} {F:Nat→Value} (h:Lie x g T m F) {c:Nat} (hc:c<m):x.cell? ⟨g,c,none⟩=some (F c):=by
 obtain ⟨M,G,hA,hm,he⟩:=h;rw [hA.cell (i:=c) (by omega),he c hc]

theorem Lie.free {x:World} {g:Nat} {T:TypeId} {m:Nat} {F:Nat→Value} (h:Lie x g T m F) (i:Nat):x.frozen? ⟨g,i,none⟩=false:=by
 obtain ⟨M,G,hA,_,_⟩:=h;exact hA.free i

theorem Lie.lt {x:World} {g:Nat} {T:TypeId} {m:Nat} {F:Nat→Value} (h:Lie x g T m F):g<x.heap.size:=by
 obtain ⟨M,G,hA,_,_⟩:=h;exact hA.lt

theorem Lie.congr {x:World} {g:Nat} {T:TypeId} {m:Nat} {F G:Nat→Value} (h:Lie x g T m F) (he:∀c,c<m→F c=G c):Lie x g T m G:=by
 obtain ⟨M,K,hA,hm,hk⟩:=h;exact ⟨M,K,hA,hm,fun c hc=>(hk c hc).trans (he c hc)⟩

theorem Lie.grown {x y:World} {g:Nat} {T:TypeId} {m:Nat} {F:Nat→Value} {r:Option Nat} (h:Lie x g T m F) (hg:x.grownBy y r) (hr:r≠some g):Lie y g T m F:=by
 obtain ⟨M,K,hA,hm,hk⟩:=h;exact ⟨M,K,hA.grown hg hr,hm,hk⟩

theorem Lie.on {x y:World} {g:Nat} {T:TypeId} {m:Nat} {F:Nat→Value} (h:Lie x g T m F) (hg:x.grownBy y none):Lie y g T m F:=h.grown hg (by simp)

theorem Lie.below {x y:World} {B g:Nat} {T:TypeId} {m:Nat} {F:Nat→Value} (h:Lie x g T m F) (hb:Below B x y) (hg:g<B):Lie y g T m F:=by
 obtain ⟨M,K,hA,hm,hk⟩:=h;exact ⟨M,K,hA.kept hb hg,hm,hk⟩

theorem Lie.other {x:World} {g:Nat} {T:TypeId} {m:Nat} {F:Nat→Value} (h:Lie x g T m F) {p:Nat} (hp:p≠g) (i:Nat) (u:Value):Lie (x.setCell ⟨p,i,none⟩ u) g T m F :=
 h.grown (gs0 x p i u) (by simpa using hp)

theorem Lie.others {x:World} {g:Nat} {T:TypeId} {m:Nat} {F:Nat→Value} (h:Lie x g T m F) {p:Nat} (hp:p≠g) (o:Nat) (vs:List Value):Lie (x.setCells p o vs) g T m F :=
 h.grown (gss vs o x (World.grownBy.refl _ _)) (by simpa using hp)

theorem Lie.store {x:World} {g:Nat} {T:TypeId} {m:Nat} {F:Nat→Value} (h:Lie x g T m F) (i:Nat) (u:Value):Lie (x.setCell ⟨g,i,none⟩ u) g T m (fun j=>if j=i then u else F j):=by
 obtain ⟨M,K,hA,hm,hk⟩:=h;refine ⟨M,_,hA.store i u,hm,fun c hc=>?_⟩;show (if c=i then u else K c)=_;rw [hk c hc]

theorem Lie.stores {x:World} {g:Nat} {T:TypeId} {m:Nat} {F:Nat→Value} (h:Lie x g T m F) (o:Nat) (vs:List Value):Lie (x.setCells g o vs) g T m (fun j=>if o≤j∧j<o+vs.length then vs[j - o]?.getD undef else F j):=by
 obtain ⟨M,K,hA,hm,hk⟩:=h;refine ⟨M,_,hA.stores vs o,hm,fun c hc=>?_⟩;show (if o≤c∧c<o+vs.length then vs[c - o]?.getD undef else K c)=_;rw [hk c hc]

def Gd.cells (r:Nat→Int):Array Value:=#[.int .i64 (r 0),.int .i64 (r 1),.int .i64 (r 2),.int .i64 (r 3)]

def Gd.flat (I:Nat→Nat→Int):Nat→Value:=fun c=>.int .i64 (I (c / 4) (c % 4))

theorem Gd.flat_at (I:Nat→Nat→Int) (i j:Nat) (hj:j<4):Gd.flat I (i*4+j)=.int .i64 (I i j):=by
 unfold Gd.flat;rw [show (i*4+j) / 4=i by omega,show (i*4+j) % 4=j by omega]

def Its (w:World) (b o n:Nat) (I:Nat→Nat→Int):Prop:=n≤100∧b<w.heap.size∧∀i j,i<n→j<4→w.cell? ⟨b,o+i*4+j,none⟩=some (.int .i64 (I i j))

theorem Its.on {w w':World} {b o n:Nat} {I:Nat→Nat→Int} (h:Its w b o n I) (hg:w.grownBy w' none):Its w' b o n I :=
 ⟨h.1,Nat.lt_of_lt_of_le h.2.1 hg.size,fun i j hi hj=>(gce hg b _ h.2.1 (by simp)).trans (h.2.2 i j hi hj)⟩

theorem Its.row {w:World} {b n:Nat} {I:Nat→Nat→Int} (h:Its w b 0 n I) {k:Nat} (hk:k<n) :
  w.cell? ⟨b,k*4,none⟩=some (.int .i64 (I k 0))∧w.cell? ⟨b,k*4+1,none⟩=some (.int .i64 (I k 1))∧w.cell? ⟨b,k*4+2,none⟩=some (.int .i64 (I k 2))∧w.cell? ⟨b,k*4+3,none⟩=some (.int .i64 (I k 3)):=by
 have:=fun j hj=>h.2.2 k j hk hj;simp only [Nat.zero_add] at this;exact ⟨this 0 (by omega),this 1 (by omega),this 2 (by omega),this 3 (by omega)⟩

theorem Lie.its {x:World} {g n m:Nat} {T:TypeId} {I:Nat→Nat→Int} (h:Lie x g T m (Gd.flat I)) (hm:n*4=m) (hn:n≤100):Its x g 0 n I :=
 ⟨hn,h.lt,fun i j hi hj=>by rw [Nat.zero_add,h.cell (c:=i*4+j) (by omega),Gd.flat_at I i j hj]⟩

theorem Lie.own {x:World} {g n m:Nat} {E:Nat→Nat→Int} (h:Lie x g 70 m (En.flat E)) (hm:n*11=m) (hn:n≤32):Own x g n E:=by
 obtain ⟨M,K,hA,hl,hk⟩:=h;exact ⟨hn,M,K,hA,by omega,fun c hc=>hk c (by omega)⟩

theorem Own.lie {x:World} {g n m:Nat} {E:Nat→Nat→Int} (h:Own x g n E) (hm:n*11=m):Lie x g 70 m (En.flat E):=by
 obtain ⟨_,M,K,hA,hl,hk⟩:=h;exact ⟨M,K,hA,by omega,fun c hc=>hk c (by omega)⟩

theorem Gd.cells_at (r:Nat→Int) (j:Nat) (hj:j<4):(Gd.cells r).toList[j]?.getD undef=.int .i64 (r j):=by
 rcases (show j=0∨j=1∨j=2∨j=3 by omega) with rfl|rfl|rfl|rfl <;> rfl

theorem Lie.item {x:World} {g m:Nat} {T:TypeId} {I:Nat→Nat→Int} (h:Lie x g T m (Gd.flat I)) (k:Nat) (r:Nat→Int):Lie (x.setCells g (k*4) (Gd.cells r).toList) g T m (Gd.flat (En.put I k r)):=by
 refine (h.stores (k*4) (Gd.cells r).toList).congr fun c hc=>?_;show (if k*4≤c∧c<k*4+4 then (Gd.cells r).toList[c - k*4]?.getD undef else Gd.flat I c)=Gd.flat (En.put I k r) c;unfold Gd.flat;by_cases hk:k*4≤c∧c<k*4+4
 ·rw [if_pos hk,Gd.cells_at r _ (by omega),show c / 4=k by omega,En.put_same,show c - k*4=c % 4 by omega]
 ·rw [if_neg hk,En.put_other (by omega)]

def Gd.set (I:Nat→Nat→Int) (k j:Nat) (v:Int):Nat→Nat→Int:=fun i l=>if i=k∧l=j then v else I i l

theorem Lie.field {x:World} {g m:Nat} {T:TypeId} {I:Nat→Nat→Int} (h:Lie x g T m (Gd.flat I)) (k j:Nat) (hj:j<4) (v:Int):Lie (x.setCell ⟨g,k*4+j,none⟩ (.int .i64 v)) g T m (Gd.flat (Gd.set I k j v)):=by
 refine (h.store (k*4+j) (.int .i64 v)).congr fun c hc=>?_;unfold Gd.flat Gd.set;by_cases hk:c=k*4+j
 ·rw [if_pos hk,if_pos ⟨by omega,by omega⟩]
 ·rw [if_neg hk,if_neg (by omega)]

theorem Lie.stat {x:World} {g m:Nat} {T:TypeId} {E:Nat→Nat→Int} (h:Lie x g T m (En.flat E)) (k j:Nat) (hj:j<11) (v:Int):Lie (x.setCell ⟨g,k*11+j,none⟩ (.int .i64 v)) g T m (En.flat (Gd.set E k j v)):=by
 refine (h.store (k*11+j) (.int .i64 v)).congr fun c hc=>?_;unfold En.flat Gd.set;by_cases hk:c=k*11+j
 ·rw [if_pos hk,if_pos ⟨by omega,by omega⟩]
 ·rw [if_neg hk,if_neg (by omega)]

def Gd.box (s:Nat→Int) (gC gE gI:Nat) (cC cE cI:Nat) (g:Nat→Int):Nat→Value
 | 0=>.int .i64 (s 0)
 | 1=>.int .i64 (s 1)
 | 2=>.int .i64 (s 2)
 | 3=>.int .i64 (s 3)
 | 4=>.slice (some ⟨gC,0,none⟩) 384 cC
 | 5=>.slice (some ⟨gE,0,none⟩) 32 cE
 | 6=>.slice (some ⟨gI,0,none⟩) 40 cI
 | 7=>.int .i64 (g 0)
 | 8=>.int .i64 (g 1)
 | 9=>.int .i64 (g 2)
 | 10=>.int .i64 (g 3)
 | _=>undef

def Gd.world (s:Nat→Int) (gC gE gI:Nat) (cC cE cI:Nat) (g:Nat→Int):Array Value :=
 #[.int .i64 (s 0),.int .i64 (s 1),.int .i64 (s 2),.int .i64 (s 3),.slice (some ⟨gC,0,none⟩) 384 cC,.slice (some ⟨gE,0,none⟩) 32 cE,.slice (some ⟨gI,0,none⟩) 40 cI,.int .i64 (g 0),.int .i64 (g 1),.int .i64 (g 2),.int .i64 (g 3)]

theorem Gd.world_at (s:Nat→Int) (gC gE gI cC cE cI:Nat) (g:Nat→Int) (j:Nat) (hj:j<11):(Gd.world s gC gE gI cC cE cI g)[j]?=some (Gd.box s gC gE gI cC cE cI g j):=by
 rcases (show j=0∨j=1∨j=2∨j=3∨j=4∨j=5∨j=6∨j=7∨j=8∨j=9∨j=10 by omega) with rfl|rfl|rfl|rfl|rfl|rfl|rfl|rfl|rfl|rfl|rfl <;> rfl

theorem Arr.world {w:World} {B:Nat} {s:Nat→Int} {gC gE gI cC cE cI:Nat} {g:Nat→Int} (h:w.heap[B]?=some (.cells (Gd.world s gC gE gI cC cE cI g) 30 (0,0))):Arr w B 30 11 (Gd.box s gC gE gI cC cE cI g) :=
 ⟨_,h,rfl,fun i hi=>Gd.world_at s gC gE gI cC cE cI g i hi⟩

def Gd.give (g:Nat→Int) (k:Nat) (v:Int):Nat→Int:=fun i=>if i=k then v else g i

theorem Lie.gold {x:World} {B:Nat} {T:TypeId} {s:Nat→Int} {gC gE gI cC cE cI:Nat} {g:Nat→Int} (h:Lie x B T 11 (Gd.box s gC gE gI cC cE cI g)) (k:Nat) (hk:k<4) (v:Int):Lie (x.setCell ⟨B,7+k,none⟩ (.int .i64 v)) B T 11 (Gd.box s gC gE gI cC cE cI (Gd.give g k v)):=by
 refine (h.store (7+k) (.int .i64 v)).congr fun c hc=>?_;rcases (show k=0∨k=1∨k=2∨k=3 by omega) with rfl|rfl|rfl|rfl <;>
 rcases (show c=0∨c=1∨c=2∨c=3∨c=4∨c=5∨c=6∨c=7∨c=8∨c=9∨c=10 by omega) with rfl|rfl|rfl|rfl|rfl|rfl|rfl|rfl|rfl|rfl|rfl <;> rfl

theorem Gd.box_gold (s:Nat→Int) (gC gE gI cC cE cI:Nat) (g:Nat→Int) (k:Nat) (hk:k<4):Gd.box s gC gE gI cC cE cI g (7+k)=.int .i64 (g k):=by
 rcases (show k=0∨k=1∨k=2∨k=3 by omega) with rfl|rfl|rfl|rfl <;> rfl

structure Gd.Lists (x:World) (gC gE gI:Nat) (c:Nat→Int) (E I:Nat→Nat→Int):Prop where
 cells:Lie x gC 5 384 (Byts c)
 ents:Lie x gE 70 352 (En.flat E)
 items:Lie x gI 72 160 (Gd.flat I)

theorem Gd.Lists.on {x y:World} {gC gE gI:Nat} {c:Nat→Int} {E I:Nat→Nat→Int} (h:Gd.Lists x gC gE gI c E I) (hg:x.grownBy y none):Gd.Lists y gC gE gI c E I :=
 ⟨h.cells.on hg,h.ents.on hg,h.items.on hg⟩

theorem Gd.Lists.below {x y:World} {B gC gE gI:Nat} {c:Nat→Int} {E I:Nat→Nat→Int} (h:Gd.Lists x gC gE gI c E I) (hb:Below B x y) (h1:gC<B) (h2:gE<B) (h3:gI<B):Gd.Lists y gC gE gI c E I :=
 ⟨h.cells.below hb h1,h.ents.below hb h2,h.items.below hb h3⟩

theorem Gd.Lists.its {x:World} {gC gE gI:Nat} {c:Nat→Int} {E I:Nat→Nat→Int} (h:Gd.Lists x gC gE gI c E I):Its x gI 0 40 I:=h.items.its (by omega) (by omega)

theorem Gd.Lists.own {x:World} {gC gE gI:Nat} {c:Nat→Int} {E I:Nat→Nat→Int} (h:Gd.Lists x gC gE gI c E I):Own x gE 32 E:=h.ents.own (by omega) (by omega)

theorem Gd.Lists.vec {x:World} {gC gE gI:Nat} {c:Nat→Int} {E I:Nat→Nat→Int} (h:Gd.Lists x gC gE gI c E I):Vec x.heap.size x (some ⟨gC,0,none⟩) 384 (Byts c) :=
 ⟨by unfold maxLen;omega,.inr ⟨gC,0,rfl,h.cells.lt,fun i hi=>by rw [Nat.zero_add];exact h.cells.cell hi⟩⟩

structure Gd.Hold (x:World) (B gC gE gI:Nat) (cC cE cI:Nat) (s:Nat→Int) (g:Nat→Int) (c:Nat→Int) (E I:Nat→Nat→Int):Prop where
 box:Lie x B 30 11 (Gd.box s gC gE gI cC cE cI g)
 lists:Gd.Lists x gC gE gI c E I
 bC:B≠gC
 bE:B≠gE
 bI:B≠gI
 cE:gC≠gE
 cI:gC≠gI
 eI:gE≠gI

theorem Gd.Hold.on {x y:World} {B gC gE gI cC cE cI:Nat} {s g c:Nat→Int} {E I:Nat→Nat→Int} (h:Gd.Hold x B gC gE gI cC cE cI s g c E I) (hg:x.grownBy y none):Gd.Hold y B gC gE gI cC cE cI s g c E I :=
 { h with box:=h.box.on hg,lists:=h.lists.on hg }

theorem Gd.Hold.items {x:World} {B gC gE gI cC cE cI:Nat} {s g c:Nat→Int} {E I J:Nat→Nat→Int} (h:Gd.Hold x B gC gE gI cC cE cI s g c E I) {y:World} (hg:x.grownBy y (some gI)) (hI:Lie y gI 72 160 (Gd.flat J)):Gd.Hold y B gC gE gI cC cE cI s g c E J :=
 { h with box:=h.box.grown hg (by simpa using h.bI.symm),lists:=⟨h.lists.cells.grown hg (by simpa using h.cI.symm),h.lists.ents.grown hg (by simpa using h.eI.symm),hI⟩ }

theorem Gd.Hold.ents {x:World} {B gC gE gI cC cE cI:Nat} {s g c:Nat→Int} {E I F:Nat→Nat→Int} (h:Gd.Hold x B gC gE gI cC cE cI s g c E I) {y:World} (hg:x.grownBy y (some gE)) (hE:Lie y gE 70 352 (En.flat F)):Gd.Hold y B gC gE gI cC cE cI s g c F I :=
 { h with box:=h.box.grown hg (by simpa using h.bE.symm),lists:=⟨h.lists.cells.grown hg (by simpa using h.cE.symm),hE,h.lists.items.grown hg (by simpa using h.eI)⟩ }

theorem Gd.Hold.gold {x:World} {B gC gE gI cC cE cI:Nat} {s g c:Nat→Int} {E I:Nat→Nat→Int} (h:Gd.Hold x B gC gE gI cC cE cI s g c E I) (k:Nat) (hk:k<4) (v:Int):Gd.Hold (x.setCell ⟨B,7+k,none⟩ (.int .i64 v)) B gC gE gI cC cE cI s (Gd.give g k v) c E I :=
 { h with box:=h.box.gold k hk v,lists:=⟨h.lists.cells.other h.bC _ _,h.lists.ents.other h.bE _ _,h.lists.items.other h.bI _ _⟩ }

def Gd.list (m:Nat) (F:Nat→Value):List Value:=(List.range m).map F

theorem Gd.list_len (m:Nat) (F:Nat→Value):(Gd.list m F).length=m:=by simp [Gd.list]

theorem Gd.list_at {m:Nat} {F:Nat→Value} {c:Nat} (hc:c<m):(Gd.list m F)[c]?=some (F c):=by
 unfold Gd.list;rw [List.getElem?_map,List.getElem?_range hc];rfl

theorem Gd.list_one {m:Nat} {F:Nat→Value} (h:∀c,(F c).oneCell'=true):∀v∈Gd.list m F,v.oneCell'=true:=by
 intro v hv;unfold Gd.list at hv;obtain ⟨c,_,rfl⟩:=List.mem_map.1 hv;exact h c

theorem Gd.list_src {w:World} {b m:Nat} {F:Nat→Value} (h:∀c,c<m→w.cell? ⟨b,c,none⟩=some (F c)):∀j v,(Gd.list m F)[j]?=some v→w.cell? ((⟨b,0,none⟩:Addr).add j)=some v:=by
 intro j v hj;have hlt:j<m:=by
  have:=(List.getElem?_eq_some_iff.1 hj).1
  rwa [Gd.list_len] at this
 rw [Gd.list_at hlt] at hj;rw [show (⟨b,0,none⟩:Addr).add j=⟨b,j,none⟩ by rw [Go.WideShapes.add_plain,Nat.zero_add],h j hlt];exact hj

theorem Arr.of_list {w:World} {g m:Nat} {T:TypeId} {F:Nat→Value} (h:w.heap[g]?=some (.cells (Gd.list m F).toArray T (0,0))):Arr w g T m F:=by
 refine ⟨_,h,by simp [Gd.list_len],fun c hc=>?_⟩;rw [List.getElem?_toArray,Gd.list_at hc]

def Copies (w:World) (T:TypeId) (n m:Nat) (F:Nat→Value) (e:Ending) (w':World):Prop :=
 ∃g,e=.returned (.slice (some ⟨g,0,none⟩) n n)∧w.heap.size≤g∧Arr w' g T m F∧w.grownBy w' none


open Go.RowKit

def Nv.best (F:Nat→Int) (st:Nat→Bool):Nat→Int
 | 0=>-1
 | k+1=>if 0≤F k∧st k=false∧(Nv.best F st k<0∨F k<F (Nv.best F st k).toNat) then (k:Int) else Nv.best F st k

theorem Nv.best_cases (F:Nat→Int) (st:Nat→Bool):∀k,Nv.best F st k=-1∨∃p:Nat,p<k∧Nv.best F st k=(p:Int)
  | 0=>.inl rfl
  | k + 1 => by
      unfold Nv.best
      split
      · exact .inr ⟨k,by omega,rfl⟩
      · rcases Nv.best_cases F st k with h | ⟨p,hp,h⟩
        · exact .inl h
        · exact .inr ⟨p,by omega,h⟩

theorem Nv.best_none {F:Nat→Int} {st:Nat→Bool}:∀k,(∀i,i<k→F i<0)→Nv.best F st k=-1
  | 0,_=>rfl
  | k + 1, h => by
      unfold Nv.best
      rw [if_neg (by rintro ⟨h1,_⟩;have:=h k (by omega);omega)]
      exact Nv.best_none k fun i hi=>h i (by omega)

theorem Nv.best_skip {F:Nat→Int} {st:Nat→Bool} {k:Nat} (h:F k<0∨st k=true):Nv.best F st (k+1)=Nv.best F st k:=by
 show (if _ then _ else _)=_;rw [if_neg];rintro ⟨h1,h2,_⟩;rcases h with h|h
 ·omega
 ·rw [h] at h2;cases h2

theorem Nv.best_first {F:Nat→Int} {st:Nat→Bool} {k:Nat} (h1:0≤F k) (h2:st k=false) (h:Nv.best F st k=-1):Nv.best F st (k+1)=(k:Int):=by
 show (if _ then _ else _)=_;rw [if_pos ⟨h1,h2,.inl (by omega)⟩]

theorem Nv.best_less {F:Nat→Int} {st:Nat→Bool} {k p:Nat} (h1:0≤F k) (h2:st k=false) (h:Nv.best F st k=(p:Int)) (hlt:F k<F p):Nv.best F st (k+1)=(k:Int):=by
 show (if _ then _ else _)=_;rw [if_pos ⟨h1,h2,.inr (by rw [h,Int.toNat_natCast];exact hlt)⟩]

theorem Nv.best_more {F:Nat→Int} {st:Nat→Bool} {k p:Nat} (h:Nv.best F st k=(p:Int)) (hlt:¬F k<F p):Nv.best F st (k+1)=Nv.best F st k:=by
 show (if _ then _ else _)=_;rw [if_neg];rintro ⟨_,_,h3|h3⟩
 ·omega
 ·rw [h,Int.toNat_natCast] at h3;exact hlt h3

def Nv.IsSpot (f:Nat→Int) (E:Nat→Nat→Int) (n:Nat) (x y v:Int):Prop :=
 ∃F:Nat→Int,Gr.IsField (fun i=>Gr.openB f 0 (fun _=>false) i=true) (Gr.tgt f (fun _=>Nv.num x y) 1) F∧v=Nv.best F (Nv.st E n) 384

theorem Nv.spot_out {f:Nat→Int} {E:Nat→Nat→Int} {n:Nat} {x y:Int} (h:Nv.num x y=-1):Nv.IsSpot f E n x y (-1) :=
 ⟨fun _=>-1,
  { lo:=fun _ _=>(by omega),zero:=fun i _=>⟨fun e=>(by omega),fun ⟨_,j,_,e⟩=>(by simp only [h] at e;omega)⟩,back:=fun _ _ e=>(by omega),fwd:=fun _ _ e=>(by omega) },
  (Nv.best_none 384 fun _ _=>by omega).symm⟩

def Nv.SaysSpot (w:World) (f:Nat→Int) (E:Nat→Nat→Int) (n:Nat) (x y:Int) (e:Ending) (w':World):Prop:=∃v,Nv.IsSpot f E n x y v∧e=.returned (.int .i64 v)∧w.grownBy w' none

theorem Nv.one_row (w:World) (v:Int) (T:TypeId):Vec (w.alloc (.cells #[.int .i64 v] T)).heap.size (w.alloc (.cells #[.int .i64 v] T)) (some ⟨w.heap.size,0,none⟩) 1 (Ints fun _=>v) :=
 ⟨by unfold maxLen;omega,.inr ⟨_,0,rfl,by simp,fun i hi=>by
  obtain rfl:i=0:=by omega
  exact cell_boxed w _ T _ rfl⟩⟩


open Go.RowKit

def Nv.blTo (E:Nat→Nat→Int) (m:Nat):Nat→Nat→Bool
 | 0,_=>false
 | k+1,c=>if ¬E k 0=0∧Nv.num (E k 3) (E k 4)=(c:Int)∧c≠m then true else Nv.blTo E m k c

theorem Nv.blTo_iff (E:Nat→Nat→Int) (m c:Nat):∀k,Nv.blTo E m k c=true↔c≠m∧∃j,j<k∧¬E j 0=0∧Nv.num (E j 3) (E j 4)=(c:Int)
  | 0=>⟨fun h=>by simp [Nv.blTo] at h,fun ⟨_,j,h,_⟩=>by omega⟩
  | k + 1 => by
      have ih:=Nv.blTo_iff E m c k
      unfold Nv.blTo
      by_cases e:¬E k 0=0∧Nv.num (E k 3) (E k 4)=(c:Int)∧c≠m
      · rw [if_pos e]
        exact ⟨fun _=>⟨e.2.2,k,by omega,e.1,e.2.1⟩,fun _=>rfl⟩
      · rw [if_neg e,ih]
        constructor
        · rintro ⟨h1,j,hj,h2⟩
          exact ⟨h1,j,by omega,h2⟩
        · rintro ⟨h1,j,hj,h2,h3⟩
          refine ⟨h1,j,?_,h2,h3⟩
          by_cases ej:j=k
          · subst ej;exact absurd ⟨h2,h3,h1⟩ e
          · omega

theorem Nv.blTo_all (E:Nat→Nat→Int) (n m c:Nat) (hc:c<384):Nv.blTo E m n c=Nv.blk E n m c:=by
 have h:=Nv.blTo_iff E m c n;have hs:Nv.st E n c=true↔∃j,j<n∧¬E j 0=0∧Nv.num (E j 3) (E j 4)=(c:Int):=by
  unfold Nv.st;rw [decide_eq_true_eq];rcases En.first_cases (En.atQ E ((c % 24:Nat):Int) ((c / 24:Nat):Int)) n with ⟨h0,hno⟩|⟨k,hk,h0,hq,_⟩
  ·rw [h0];refine ⟨fun h=>by omega,fun ⟨j,hj,h1,h2⟩=>?_⟩;obtain ⟨e1,e2,_⟩:=Nv.num_at h2;have:=hno j hj;simp [En.atQ,h1,e1,e2] at this
  ·refine ⟨fun _=>⟨k,hk,?_⟩,fun _=>by rw [h0];omega⟩;simp only [En.atQ,Bool.and_eq_true,decide_eq_true_eq,Bool.not_eq_true',decide_eq_false_iff_not] at hq;rw [hq.2.1,hq.2.2];exact ⟨hq.1,Nv.num_of hc⟩
 unfold Nv.blk;by_cases e:c=m
 ·rw [if_pos e];have hn:¬Nv.blTo E m n c=true:=fun h'=>(h.1 h').1 e
  rwa [Bool.not_eq_true] at hn
 ·rw [if_neg e];by_cases hst:Nv.st E n c=true
  ·rw [hst];exact h.2 ⟨e,hs.1 hst⟩
  ·have hn:¬Nv.blTo E m n c=true:=fun h'=>hst (hs.2 (h.1 h').2);rw [Bool.not_eq_true] at hst hn;rw [hst,hn]

theorem Nv.bl_same {E:Nat→Nat→Int} {m k:Nat} (h:¬(¬E k 0=0∧Gr.inB (E k 3) (E k 4)=true∧Nv.num (E k 3) (E k 4)≠(m:Int))) (j:Nat):Nv.blTo E m k j=Nv.blTo E m (k+1) j:=by
 show _=if _ then _ else _
 rw [if_neg];rintro ⟨h1,h2,h3⟩;obtain ⟨e1,e2,e3⟩:=Nv.num_at h2;refine h ⟨h1,?_,by rw [h2];omega⟩;rw [Gr.inB_iff];omega

theorem Nv.bl_more {E:Nat→Nat→Int} {m k p:Nat} (h0:¬E k 0=0) (hp:Nv.num (E k 3) (E k 4)=(p:Int)) (hm:p≠m) (j:Nat):(if j=p then Value.bool true else .bool (Nv.blTo E m k j))=.bool (Nv.blTo E m (k+1) j):=by
 show _=Value.bool (if ¬E k 0=0∧Nv.num (E k 3) (E k 4)=(j:Int)∧j≠m then true else Nv.blTo E m k j);rw [hp];by_cases e:j=p
 ·rw [if_pos e,if_pos ⟨h0,by omega,by omega⟩]
 ·rw [if_neg e,if_neg (by rintro ⟨_,h,_⟩;omega)]

set_option maxRecDepth 8000 in
set_option maxHeartbeats 3200000 in
theorem refBlocked_any (a:Option Addr) (n c:Nat) (E:Nat→Nat→Int) (x y:Int) (m:Nat) (w:World) (hL:Nv.Lst w a n c E) (hm:Nv.num x y=(m:Int)) :
  Calls Tryz.prog 98 #[.slice a n c,.int .i64 x,.int .i64 y] w (Made w 4 384 (Bols (Nv.blk E n m))):=by
 have hn:=hL.1;have hL':=hide hL;have hm':=hide hm;obtain ⟨i0,hi,hz0,hz1,hz2⟩:=info_parts info_bools;clear hL hm;go_enter Tryz.func98,Tryz.ntmps98;obtain ⟨G,hG⟩:∃G,G=w.heap.size:=⟨_,rfl⟩;have hG':=hide hG;clear hG;go_wp2_with (at_make;refine wpList_make_full _ rfl _ _ 116 rfl G 4 i0 (.bool false) 1 Tryz.underlying116 hi hz0 hz1 .i64 .i64 _ _ 384 rfl rfl rfl rfl ?q3 ?q4 (Nat.le_of_eq (uh hG')) ?_);case q3=>rw [hz2];omega
 case q4=>unfold maxLen;omega
 intro w2 hown hgrow;rw [←uh hG'] at hown ⊢;have hA:=hide (Arr.zero hown);have hB0:Below G w w2:=(Below.refl _ _).grown hgrow (Nat.le_of_eq (uh hG')) (by intro k hk;cases hk);clear hown hgrow hi hz0 hz1 hz2;go_wp2_with fail
 go_loopw [8] (fun i wr=>∃k:Nat,k≤n∧i=.int .i64 (k:Int)∧Arr wr G 4 384 (Bols (Nv.blTo E m k))∧Below G w wr) (fun i _=>40 - (intOf i).toNat)
 case atStart=>exact ⟨0,Nat.zero_le _,rfl,uh hA,hB0⟩
 case round =>
  obtain ⟨k,hk,rfl,hA1,hB1⟩:=hrel;have hA2:=hide hA1;have hB2:=hide hB1;clear hA1 hA hB0 hB1;by_cases hlt:k<n
  ·obtain ⟨_,hnc,h0|⟨b,rfl,hE⟩⟩:=uh hL'
   ·omega
   have hgr:w.grownBy wr none:=below_grown (by rw [←uh hG'];exact uh hB2);obtain ⟨u0,u1,u2,u3,u4,u5,u6,u7,u8,u9,u10⟩:=(hE.on hgr).row hlt;have hlt':(k:Int)<(n:Int):=by omega
   have HL:=hide hlt;have dA:Hid (∀q,Arr (wr.drewN q) G 4 384 (Bols (Nv.blTo E m k))):=fun q=>(uh hA2).grown (gdw (World.grownBy.refl _ none) q) (by simp);have dB:Hid (∀q,Below G w (wr.drewN q)):=fun q=>below_drewN (uh hB2) q;clear hE hgr hlt u1 u2 u5 u6 u7 u8 u9 u10;have cI:=fun wq=>refIn_any (E k 3) (E k 4) wq;by_cases h0:E k 0=0
   ·have h0':(E k 0 != 0)=false:=by simp [h0]
    have hs:Hid (∀j,Nv.blTo E m k j=Nv.blTo E m (k+1) j):=fun j=>Nv.bl_same (fun h=>h.1 h0) j;clear h0;go_wp2_with fail;go_quiet ((go_at_call 76;exact Calls.quiet_of_same (cI _)));go_wp2;go_roundw;case rel=>exact ⟨k+1,by have:=uh HL;omega,by go_num,(uh dA _).congr fun j _=>by show Value.bool _=Value.bool _;rw [uh hs j],uh dB _⟩
    case measure=>have:=uh HL;simp [intOf];omega
   have h0':(E k 0 != 0)=true:=by simp [h0]
   by_cases hin:Gr.inB (E k 3) (E k 4)=true
   ·rw [hin] at cI;obtain ⟨b1,b2,b3,b4⟩:=(Gr.inB_iff _ _).1 hin;obtain ⟨p,hpv⟩:∃p:Nat,(p:Int)=E k 4*24+E k 3:=⟨(E k 4*24+E k 3).toNat,by omega⟩;have hnp:Nv.num (E k 3) (E k 4)=(p:Int):=by unfold Nv.num;rw [if_pos hin,hpv]
    have hp:p<384:=by omega
    by_cases hpm:p=m
    ·obtain ⟨e1,e2,_⟩:=Nv.num_at hnp;obtain ⟨f1,f2,_⟩:=Nv.num_at (uh hm');have g1:(E k 3 != x)=false:=by rw [bne_eq_false_iff_eq,e1,f1,hpm]
     have g2:(E k 4 != y)=false:=by rw [bne_eq_false_iff_eq,e2,f2,hpm]
     have hs:Hid (∀j,Nv.blTo E m k j=Nv.blTo E m (k+1) j):=fun j=>Nv.bl_same (fun h=>h.2.2 (by rw [hnp,hpm])) j;clear h0 hin b1 b2 b3 b4 hpv hnp hp hpm e1 e2 f1 f2;go_wp2_with fail;go_quiet ((go_at_call 76;exact Calls.quiet_of_same (cI _)));go_wp2;go_roundw;case rel=>exact ⟨k+1,by have:=uh HL;omega,by go_num,(uh dA _).congr fun j _=>by show Value.bool _=Value.bool _;rw [uh hs j],uh dB _⟩
     case measure=>have:=uh HL;simp [intOf];omega
    ·have hs:Hid (∀j,(if j=p then Value.bool true else .bool (Nv.blTo E m k j))=.bool (Nv.blTo E m (k+1) j)):=fun j=>Nv.bl_more h0 hnp hpm j;obtain ⟨X,hX⟩:∃X:Nat,E k 3=(X:Int):=⟨(E k 3).toNat,by omega⟩;obtain ⟨Y,hY⟩:∃Y:Nat,E k 4=(Y:Int):=⟨(E k 4).toNat,by omega⟩;obtain rfl:p=Y*24+X:=by omega
     rw [hX,hY] at cI;rw [hX] at u3;rw [hY] at u4;have hX':X<24:=by omega
     have hY':Y<16:=by omega
     by_cases hx:(X:Int)=x
     ·have hy:¬(Y:Int)=y:=fun hy=>hpm (by
       have:((Y*24+X:Nat):Int)=(m:Int):=by rw [←hnp,←uh hm',hX,hY,hx,hy]
       omega)
      have g1:((X:Int) != x)=false:=by rw [bne_eq_false_iff_eq];exact hx
      have g2:((Y:Int) != y)=true:=by rw [bne_iff_ne];exact hy
      clear h0 hin hnp hpm hx hy hX hY b1 b2 b3 b4 hpv;go_wp2_with fail;go_quiet ((go_at_call 76;exact Calls.quiet_of_same (cI _)));go_wp2_with fail;have hA3:=hide (uh dA nq);have hB3:=hide (uh dB nq);have v3:(wr.drewN nq).cell? ⟨b,k*11+3,none⟩=some (.int .i64 (X:Int)):=u3;have v4:(wr.drewN nq).cell? ⟨b,k*11+4,none⟩=some (.int .i64 (Y:Int)):=u4;generalize wr.drewN nq=wd at hA3 hB3 v3 v4 ⊢;have hcc:wd.cell? ⟨G,Y*24+X,none⟩=some (.bool (Nv.blTo E m k (Y*24+X))):=(uh hA3).cell hp;have hff:=(uh hA3).free (Y*24+X);clear u0 u3 u4 dA dB g1 g2 cI h0' hA2 hB2
      go_region
      all_goals
       go_wp2;go_roundw;case rel=>exact ⟨k+1,by have:=uh HL;omega,by go_num,((Arr.store (uh hA3) _ _).congr fun j _=>uh hs j).grown (gdw (World.grownBy.refl _ none) _) (by simp),((uh hB3).setCell (p:=⟨G,_,none⟩) (Nat.le_refl _) _).drew⟩
       case measure=>have:=uh HL;simp [intOf];omega
     ·have g1:((X:Int) != x)=true:=by rw [bne_iff_ne];exact hx
      clear h0 hin hnp hpm hx hX hY b1 b2 b3 b4 hpv;go_wp2_with fail;go_quiet ((go_at_call 76;exact Calls.quiet_of_same (cI _)));go_wp2_with fail;have hA3:=hide (uh dA nq);have hB3:=hide (uh dB nq);have v3:(wr.drewN nq).cell? ⟨b,k*11+3,none⟩=some (.int .i64 (X:Int)):=u3;have v4:(wr.drewN nq).cell? ⟨b,k*11+4,none⟩=some (.int .i64 (Y:Int)):=u4;generalize wr.drewN nq=wd at hA3 hB3 v3 v4 ⊢;have hcc:wd.cell? ⟨G,Y*24+X,none⟩=some (.bool (Nv.blTo E m k (Y*24+X))):=(uh hA3).cell hp;have hff:=(uh hA3).free (Y*24+X);clear u0 u3 u4 dA dB g1 cI h0' hA2 hB2
      go_region
      all_goals
       go_wp2;go_roundw;case rel=>exact ⟨k+1,by have:=uh HL;omega,by go_num,((Arr.store (uh hA3) _ _).congr fun j _=>uh hs j).grown (gdw (World.grownBy.refl _ none) _) (by simp),((uh hB3).setCell (p:=⟨G,_,none⟩) (Nat.le_refl _) _).drew⟩
       case measure=>have:=uh HL;simp [intOf];omega
   ·rw [Bool.not_eq_true] at hin;rw [hin] at cI;have hs:Hid (∀j,Nv.blTo E m k j=Nv.blTo E m (k+1) j):=fun j=>Nv.bl_same (fun h=>by rw [hin] at h;cases h.2.1) j;clear h0 hin;go_wp2_with fail;go_quiet ((go_at_call 76;exact Calls.quiet_of_same (cI _)));go_wp2;go_roundw;case rel=>exact ⟨k+1,by have:=uh HL;omega,by go_num,(uh dA _).congr fun j _=>by show Value.bool _=Value.bool _;rw [uh hs j],uh dB _⟩
    case measure=>have:=uh HL;simp [intOf];omega
  ·have hge:¬(k:Int)<(n:Int):=by omega
   obtain rfl:k=n:=by omega
   have hA3:=hide ((uh hA2).congr (G:=Bols (Nv.blk E k m)) fun j hj=>by show Value.bool _=Value.bool _;rw [Nv.blTo_all E k m j hj]);clear hA2 hk hlt;go_wp2;go_ret;exact ⟨G,rfl,Nat.le_of_eq (uh hG').symm,uh hA3,by rw [←uh hG'];exact uh hB2⟩


open Go.RowKit

set_option maxRecDepth 8000 in
set_option maxHeartbeats 3200000 in
theorem refToward_any (ca ta:Option Addr) (cc b n c tlen tc:Nat) (f t:Nat→Int) (E:Nat→Nat→Int) (x y:Int) (w:World)
  (hc:Vec w.heap.size w ca 384 (Byts f)) (hf:∀i,0≤f i∧f i≤255) (hE:Ents w b n E) (hnc:n≤c) (ht:Vec w.heap.size w ta tlen (Ints t)) (htb:∀i,-9223372036854775808≤t i∧t i≤9223372036854775807) :
  Calls Tryz.prog 73 #[.slice ca 384 cc,.slice (some ⟨b,0,none⟩) n c,.int .i64 x,.int .i64 y,.slice ta tlen tc] w (Nv.SaysToward w f t tlen E n x y):=by
 have hc':=hide hc;have hf':=hide hf;have hE':=hide hE;have ht':=hide ht;have htb':=hide htb;have hL':Hid (Nv.Lst w (some ⟨b,0,none⟩) n c E):=⟨hE.1,hnc,.inr ⟨b,rfl,hE⟩⟩;clear hc hf hE ht htb hnc;by_cases hin:Gr.inB x y=true;case neg =>
  rw [Bool.not_eq_true] at hin;have he:Hid (Nv.IsToward f t tlen E n x y 0):=.inl ⟨if_neg (by rw [hin];simp),rfl⟩;have cI:=hide (fun wq=>refIn_any x y wq);rw [hin] at cI;clear hin;go_enter Tryz.func73,Tryz.ntmps73;go_wp2_with fail;refine (uh cI _).mono ?_;rintro e w1 ⟨rfl,rfl⟩;go_wp2;go_ret;exact ⟨0,uh he,rfl,World.grownBy.refl _ _⟩
 obtain ⟨b1,b2,b3,b4⟩:=(Gr.inB_iff _ _).1 hin;obtain ⟨X,rfl⟩:∃X:Nat,x=(X:Int):=⟨x.toNat,by omega⟩;obtain ⟨Y,rfl⟩:∃Y:Nat,y=(Y:Int):=⟨y.toNat,by omega⟩;have hX:X<24:=by omega
 have hY:Y<16:=by omega
 have hme:Nv.num (X:Int) (Y:Int)=((Y*24+X:Nat):Int):=by unfold Nv.num;rw [if_pos hin];omega
 have cI:=hide (fun wq=>refIn_any (X:Int) (Y:Int) wq);rw [hin] at cI;have hme':=hide hme;clear hin b1 b2 b3 b4 hme;go_enter Tryz.func73,Tryz.ntmps73;go_wp2_with fail;refine (uh cI _).mono ?_;rintro e w1 ⟨rfl,rfl⟩;go_wp2_with fail;refine (refBlocked_any _ n c E _ _ (Y*24+X) _ (uh hL') (uh hme')).mono ?_;rintro e w2 ⟨g,rfl,hg,hA,hB⟩;have cF:=hide (refField_any ca (some ⟨g,0,none⟩) ta 384 tlen cc 384 tc f t (Nv.blk E n (Y*24+X)) w2 (((uh hc').kept hB).mono hB.size) (uh hf') (hA.vec _ hA.lt (by unfold maxLen;omega)) (((uh ht').kept hB).mono hB.size) (uh htb'));have hB':=hide hB;clear hA hB hg;go_wp2_with fail;refine (uh cF).mono ?_;rintro e w4 ⟨F,⟨g2,rfl,hg2,hA4,hB4⟩,hF⟩;have hstep:Nv.IsToward f t tlen E n X Y (Nv.step F (Nv.st E n) (Y*24+X)):=.inr ⟨_,F,uh hme',hF,rfl⟩;have hgw:w1.grownBy w4 none:=below_grown ((uh hB').trans (hB4.mono (uh hB').size));have hhi:F (Y*24+X)≤400:=by
  by_cases h0:0≤F (Y*24+X)
  ·have:=fieldHigh hF (F (Y*24+X)).toNat (Y*24+X) (by omega) (by omega);omega
  ·omega
 have hA4':=hide hA4;have hgw':=hide hgw;have hst':=hide hstep;have hEw:=hide ((uh hE').on hgw);have hc4:w4.cell? ⟨g2,Y*24+X,none⟩=some (.int .i64 (F (Y*24+X))):=hA4.cell (by omega);obtain ⟨V,hV⟩:∃V,V=F (Y*24+X):=⟨_,rfl⟩;rw [←hV] at hc4 hhi;have hV':=hide hV;clear hA4 hgw hstep hg2 hB4 cF hF cI hE' hL' hc' ht' hB' hV;by_cases hlo:V<1
 ·have hr:Hid (Nv.IsToward f t tlen E n X Y 0):=by
   have h:=uh hst'
   rwa [show Nv.step F (Nv.st E n) (Y*24+X)=0 from if_pos (by rw [←uh hV'];exact hlo)] at h
  go_wp2;go_ret;exact ⟨0,uh hr,rfl,uh hgw'⟩
 have hr:Hid (Nv.IsToward f t tlen E n X Y (Nv.wayFrom (Nv.may F (Nv.st E n) (Y*24+X)) 4 1)):=by
  have h:=uh hst'
  rwa [show Nv.step F (Nv.st E n) (Y*24+X)=Nv.wayFrom (Nv.may F (Nv.st E n) (Y*24+X)) 4 1 from if_neg (by rw [←uh hV'];exact hlo)] at h
 clear hst';go_wp2_with fail
 go_loopw [13] (fun i wr=>∃k:Nat,1≤k∧k≤5∧i=.int .i64 (k:Int)∧(∀j:Nat,1≤j→j<k→Nv.may F (Nv.st E n) (Y*24+X) j=false)∧w4.grownBy wr none) (fun i _=>5 - (intOf i).toNat)
 case atStart=>exact ⟨1,by omega,by omega,rfl,fun j h1 h2=>by omega,World.grownBy.refl _ _⟩
 case round =>
  obtain ⟨k,h1,h5,rfl,hno,hgr⟩:=hrel;have hno':=hide hno;have hgr':=hide hgr;clear hno hgr hc4;by_cases hlt:k≤4
  ·have hlt':(k:Int)≤4:=by omega
   have HL:=hide hlt;have H1:=hide h1;have wb:=Fx.way_bd (k:Int);have hnx:Nv.next (Y*24+X) k=Nv.num ((X:Int)+(Fx.way (k:Int)).1) ((Y:Int)+(Fx.way (k:Int)).2):=by
    unfold Nv.next;rw [show (Y*24+X) % 24=X by omega,show (Y*24+X) / 24=Y by omega]
   have cw:=hide (fun wq=>refWay_any (k:Int) wq);have hup:Hid (Nv.may F (Nv.st E n) (Y*24+X) k=false→∀j:Nat,1≤j→j<k+1→Nv.may F (Nv.st E n) (Y*24+X) j=false):=fun h j h1 h2=>by
    by_cases e:j=k
    ·rw [e];exact h
    ·exact uh hno' j h1 (by omega)
   generalize (Fx.way (k:Int)).1=dx at *
   generalize (Fx.way (k:Int)).2=dy at *
   obtain ⟨d1,d2,d3,d4⟩:=wb;clear hlt h1 h5;by_cases hin:Gr.inB ((X:Int)+dx) ((Y:Int)+dy)=true
   ·obtain ⟨b1,b2,b3,b4⟩:=(Gr.inB_iff _ _).1 hin;obtain ⟨PX,hPX⟩:∃PX:Nat,(X:Int)+dx=(PX:Int):=⟨((X:Int)+dx).toNat,by omega⟩;obtain ⟨PY,hPY⟩:∃PY:Nat,(Y:Int)+dy=(PY:Int):=⟨((Y:Int)+dy).toNat,by omega⟩;have hn:Nv.next (Y*24+X) k=((PY*24+PX:Nat):Int):=by rw [hnx];unfold Nv.num;rw [if_pos hin,hPX,hPY];omega
    have hmay:=Nv.may_in (F:=F) (st:=Nv.st E n) hn;have hp:PY*24+PX<384:=by omega
    have hc6:wr.cell? ⟨g2,PY*24+PX,none⟩=some (.int .i64 (F (PY*24+PX))):=((uh hA4').grown (uh hgr') (by simp)).cell hp;have hst:Nv.st E n (PY*24+PX)=decide (0≤En.first (En.atQ E (PX:Int) (PY:Int)) n):=by
     unfold Nv.st;rw [show (PY*24+PX) % 24=PX by omega,show (PY*24+PX) / 24=PY by omega]
    have hPX':PX<24:=by omega
    have hPY':PY<16:=by omega
    have cI:=hide (fun wq=>refIn_any ((X:Int)+dx) ((Y:Int)+dy) wq);rw [hin,hPX,hPY] at cI;clear hin b1 b2 b3 b4 hnx hn;go_wp2_with fail;refine (uh cw _).mono ?_;rintro e wx ⟨rfl,rfl⟩;go_wp2_with fail;refine (uh cI _).mono ?_;rintro e wy ⟨rfl,rfl⟩;have hz:(PY:Int)*24+X+dx=((PY*24+PX:Nat):Int):=by omega
    have cA:=hide (entRefAt_any b n c E (PX:Int) (PY:Int) wy ((uh hEw).on (uh hgr')));clear cI cw;rw [hst,←uh hV'] at hmay;by_cases hq:F (PY*24+PX)=V - 1
    ·have hq':(F (PY*24+PX) == V - 1)=true:=by rw [beq_iff_eq];exact hq
     rw [decide_eq_true hq,Bool.true_and] at hmay;generalize En.first (En.atQ E (PX:Int) (PY:Int)) n=r at hmay cA;clear hq hst;by_cases hs:0≤r
     ·rw [decide_eq_true hs] at hmay;have hno2:=hide (uh hup hmay);have hs':¬r<0:=by omega
      clear hmay hs;go_wp2_with fail;refine (uh cA).mono ?_;rintro e wz ⟨rfl,hgz⟩;have hgz':=hide (gtr (uh hgr') hgz);clear hgz hc6;go_wp2;go_roundw;case rel=>exact ⟨k+1,by have:=uh H1;omega,by have:=uh HL;omega,by go_num,uh hno2,uh hgz'⟩
      case measure=>have:=uh HL;simp [intOf];omega
     ·rw [decide_eq_false hs] at hmay;have hr2:Hid (Nv.IsToward f t tlen E n X Y (k:Int)):=by
       have h:=uh hr
       rwa [Nv.way_hit 4 k 1 (uh hno') hmay (uh H1) (by have:=uh HL;omega)] at h
      have hs':r<0:=by omega
      clear hmay hs;go_wp2_with fail;refine (uh cA).mono ?_;rintro e wz ⟨rfl,hgz⟩;have hgz':=hide (gtr (uh hgr') hgz);clear hgz hc6;go_wp2;go_ret;exact ⟨_,uh hr2,rfl,gtr (uh hgw') (uh hgz')⟩
    ·have hq':(F (PY*24+PX) == V - 1)=false:=by rw [beq_eq_false_iff_ne];exact hq
     rw [decide_eq_false hq,Bool.false_and] at hmay;have hno2:=hide (uh hup hmay);clear hq hmay cA hst;go_wp2;go_roundw;case rel=>exact ⟨k+1,by have:=uh H1;omega,by have:=uh HL;omega,by go_num,uh hno2,uh hgr'⟩
     case measure=>have:=uh HL;simp [intOf];omega
   ·rw [Bool.not_eq_true] at hin;have hno2:=hide (uh hup (Nv.may_out (hnx.trans (if_neg (by rw [hin];simp)))));have cI:=hide (fun wq=>refIn_any ((X:Int)+dx) ((Y:Int)+dy) wq);rw [hin] at cI;clear hin hnx;go_wp2_with fail;refine (uh cw _).mono ?_;rintro e wx ⟨rfl,rfl⟩;go_wp2_with fail;refine (uh cI _).mono ?_;rintro e wx ⟨rfl,rfl⟩;go_wp2;go_roundw;case rel=>exact ⟨k+1,by have:=uh H1;omega,by have:=uh HL;omega,by go_num,uh hno2,uh hgr'⟩
    case measure=>have:=uh HL;simp [intOf];omega
  ·have hge:¬(k:Int)≤4:=by omega
   have hr2:Hid (Nv.IsToward f t tlen E n X Y 0):=by
    have h:=uh hr
    rwa [Nv.way_none 4 1 fun j h1 h2=>uh hno' j h1 (by omega)] at h
   go_wp2;go_ret;exact ⟨0,uh hr2,rfl,gtr (uh hgw') (uh hgr')⟩

end Go.Proofs.YtldgbkjceildfaaGreat
