import Derived.Test.YtldgbkjceildfaaGreatBy01
import Derived.Deep.RegionHeld3
namespace Go.Proofs.YtldgbkjceildfaaGreat
open Go.RowKit

def Gn.way (x y tx ty:Int) (first:Bool):Bool:=(y == ty) || (first && x != tx)
def Gn.stepX (x y tx ty:Int) (first:Bool):Int:=if Gn.way x y tx ty first then Gn.to1 x tx else x
def Gn.stepY (x y tx ty:Int) (first:Bool):Int:=if Gn.way x y tx ty first then y else Gn.to1 y ty

theorem gd1 {a b:World} {r:Option Nat} (h:a.grownBy b r):a.grownBy b.drew r:=⟨h.os,h.tape,h.output,h.size,h.block⟩

end Go.Proofs.YtldgbkjceildfaaGreat

namespace Go.Proofs.YtldgbkjceildfaaGreat

namespace Gn

abbrev Dice:=Int→Int→Int→Int

def Fair (d:Dice):Prop:=∀a b n,1≤n→0≤d a b n∧d a b n<n

def rw (d:Dice) (i:Nat):Int:=3+d i 0 5
def rh (d:Dice) (i:Nat):Int:=2+d i 1 4
def rx (d:Dice) (i:Nat):Int:=1+d i 2 (23 - rw d i)
def ry (d:Dice) (i:Nat):Int:=1+d i 3 (15 - rh d i)
def mx (d:Dice) (i:Nat):Int:=rx d i+rw d i / 2
def my (d:Dice) (i:Nat):Int:=ry d i+rh d i / 2

theorem room_bd {d:Dice} (hd:Fair d) (i:Nat):(3≤rw d i∧rw d i≤7)∧(2≤rh d i∧rh d i≤5)∧(1≤rx d i∧rx d i+rw d i≤23)∧(1≤ry d i∧ry d i+rh d i≤15):=by
 have hw:=hd i 0 5 (by omega);have hh:=hd i 1 4 (by omega);have h1:3≤rw d i∧rw d i≤7:=by unfold rw;omega
 have h2:2≤rh d i∧rh d i≤5:=by unfold rh;omega
 have hx:=hd i 2 (23 - rw d i) (by omega);have hy:=hd i 3 (15 - rh d i) (by omega);refine ⟨h1,h2,?_,?_⟩
 ·unfold rx;omega
 ·unfold ry;omega

theorem mid_bd {d:Dice} (hd:Fair d) (i:Nat):1≤mx d i∧mx d i≤22∧1≤my d i∧my d i≤14:=by
 have:=room_bd hd i;unfold mx my;omega

def paintTo (c:Nat→Int) (x y w h r q:Int) (i:Nat):Int :=
 if (x≤(i % 24:Nat)∧((i % 24:Nat):Int)<x+w∧y≤(i / 24:Nat)∧((i / 24:Nat):Int)<y+h)∧(((i / 24:Nat):Int)<r∨((i / 24:Nat):Int)=r∧((i % 24:Nat):Int)<q) then 1 else c i

def paint (c:Nat→Int) (x y w h:Int) (i:Nat):Int:=paintTo c x y w h (y+h) x i

theorem paint_start (c:Nat→Int) (x y w h:Int) (i:Nat):paintTo c x y w h y x i=c i:=by
 unfold paintTo;rw [if_neg (by omega)]

theorem paint_row (c:Nat→Int) (x y w h r:Int) (i:Nat):paintTo c x y w h r (x+w) i=paintTo c x y w h (r+1) x i:=by
 unfold paintTo;by_cases hc:(x≤(i % 24:Nat)∧((i % 24:Nat):Int)<x+w∧y≤(i / 24:Nat)∧((i / 24:Nat):Int)<y+h)∧(((i / 24:Nat):Int)<r∨((i / 24:Nat):Int)=r∧((i % 24:Nat):Int)<x+w)
 ·rw [if_pos hc,if_pos (by omega)]
 ·rw [if_neg hc,if_neg (by omega)]

theorem paint_one (c:Nat→Int) (x y w h r q:Int) (k:Nat) (h1:x≤q) (h2:q<x+w) (h3:y≤r) (h4:r<y+h) (h5:0≤x) (h6:x+w≤24) (hk:r*24+q=(k:Int)) (i:Nat):Gr.upd (paintTo c x y w h r q) k 1 i=paintTo c x y w h r (q+1) i:=by
 unfold Gr.upd paintTo;by_cases e:i=k
 ·subst e;rw [if_pos rfl,if_pos (by omega)]
 ·rw [if_neg e];by_cases hc:(x≤(i % 24:Nat)∧((i % 24:Nat):Int)<x+w∧y≤(i / 24:Nat)∧((i / 24:Nat):Int)<y+h)∧(((i / 24:Nat):Int)<r∨((i / 24:Nat):Int)=r∧((i % 24:Nat):Int)<q)
  ·rw [if_pos hc,if_pos (by omega)]
  ·rw [if_neg hc,if_neg (by omega)]

def roomed (d:Dice):Nat→Nat→Int
 | 0=>fun _=>0
 | n+1=>paint (roomed d n) (rx d n) (ry d n) (rw d n) (rh d n)

def digAt (st:(Nat→Int) × Bool) (k:Nat):(Nat→Int) × Bool:=if st.1 k=0 then (Gr.upd st.1 k (if st.2 then 1 else 2),true) else st

def digRun (tx ty:Int) (first:Bool):Nat→(Nat→Int) × Bool→Int→Int→(Nat→Int) × Bool
 | 0,st,x,y=>digAt st (y*24+x).toNat
 | n+1,st,x,y=>digRun tx ty first n (digAt st (y*24+x).toNat) (stepX x y tx ty first) (stepY x y tx ty first)

def steps (x y tx ty:Int):Nat:=(tx - x).natAbs+(ty - y).natAbs

theorem step_less (x y tx ty:Int) (first:Bool) (h:¬(x=tx∧y=ty)):steps (stepX x y tx ty first) (stepY x y tx ty first) tx ty+1=steps x y tx ty:=by
 unfold steps stepX stepY way to1;by_cases hy:y=ty
 ·have hx:x≠tx:=fun e=>h ⟨e,hy⟩;simp only [hy,beq_self_eq_true,Bool.true_or,ite_true];split
  ·omega
  ·split <;> omega
 ·have e:(y == ty)=false:=by simpa using hy
  rw [e,Bool.false_or];split
  ·rename_i hh;have hx:x≠tx:=by simp at hh;exact hh.2
   split
   ·omega
   ·split <;> omega
  ·split
   ·omega
   ·split <;> omega

theorem step_bd (x y tx ty:Int) (first:Bool) (h:(1≤x∧x≤22)∧1≤y∧y≤14) (ht:(1≤tx∧tx≤22)∧1≤ty∧ty≤14):(1≤stepX x y tx ty first∧stepX x y tx ty first≤22)∧1≤stepY x y tx ty first∧stepY x y tx ty first≤14:=by
 unfold stepX stepY to1;split
 ·split
  ·omega
  ·split <;> omega
 ·split
  ·omega
  ·split <;> omega

def dug (d:Dice):Nat→Nat→Int
 | 0=>roomed d 6
 | n+1=>(digRun (mx d (n+1)) (my d (n+1)) (d ((n+1:Nat):Int) 4 2 == 0) (steps (mx d n) (my d n) (mx d (n+1)) (my d (n+1))) (dug d n,false) (mx d n) (my d n)).1

theorem paint_01 {c:Nat→Int} {x y w h r q:Int} (hc:∀i,0≤c i∧c i≤5) (i:Nat):0≤paintTo c x y w h r q i∧paintTo c x y w h r q i≤5:=by
 unfold paintTo;split
 ·omega
 ·exact hc i

theorem upd_5 {c:Nat→Int} {k:Nat} {v:Int} (hc:∀i,0≤c i∧c i≤5) (hv:0≤v∧v≤5) (i:Nat):0≤Gr.upd c k v i∧Gr.upd c k v i≤5:=by
 unfold Gr.upd;split
 ·exact hv
 ·exact hc i

theorem digAt_5 {st:(Nat→Int) × Bool} {k:Nat} (hc:∀i,0≤st.1 i∧st.1 i≤5) (i:Nat):0≤(digAt st k).1 i∧(digAt st k).1 i≤5:=by
 unfold digAt;split
 ·exact upd_5 hc (by split <;> omega) i
 ·exact hc i

theorem digRun_5 (tx ty:Int) (first:Bool):∀(n:Nat) (st:(Nat→Int) × Bool) (x y:Int),(∀i,0≤st.1 i∧st.1 i≤5)→∀i,0≤(digRun tx ty first n st x y).1 i∧(digRun tx ty first n st x y).1 i≤5
 | 0,_,_,_,h=>digAt_5 h
 | n+1,_,_,_,h=>digRun_5 tx ty first n _ _ _ (digAt_5 h)

theorem roomed_5 (d:Dice):∀(n i:Nat),0≤roomed d n i∧roomed d n i≤5
 | 0,_=>by simp [roomed]
 | n+1,i=>paint_01 (roomed_5 d n) i

theorem dug_5 (d:Dice):∀(n i:Nat),0≤dug d n i∧dug d n i≤5
 | 0,i=>roomed_5 d 6 i
 | n+1,i=>by
  have h:=digRun_5 (mx d (n+1)) (my d (n+1)) (d ((n+1:Nat):Int) 4 2 == 0) (steps (mx d n) (my d n) (mx d (n+1)) (my d (n+1))) (dug d n,false) (mx d n) (my d n) (dug_5 d n) i;rw [dug];exact h

end Gn


open Go.RowKit

theorem grown_none {a b c:World} {r:Option Nat} (h:a.grownBy b r) (k:b.grownBy c none):a.grownBy c r:=gow h k (fun _ e=>by cases e)

theorem wp_region_grown {P:Program} {id:Nat} {Q:Exit→Act→World→Prop} {a:Act} {w:World} {l:List Oper} (hm:P.follows .mixedOrders=true) (hB:Region.lexB .any l.toArray=true)
  (h:∀(St:Type),Nonempty St→∀(W:St→World),(∀σ,w.grownBy (W σ) none)→(∀x,w.grownBy x none→∃σ,x=W σ) →
   wpQuiet P l.toArray (fun w'=>∃σ,w'=W σ) (fun a'=>∀w',(∃σ,w'=W σ)→Q .normal a' w') l a):(Code.region id l.toArray true).wp P Q a w:=by
 have h1:=h { x // w.grownBy x none } ⟨⟨_,World.grownBy.refl w none⟩⟩ (fun σ=>σ.val) (fun σ=>σ.property) (fun x hx=>⟨⟨x,hx⟩,rfl⟩);exact wp_region_quiet (C:=fun w'=>∃σ:{ x // w.grownBy x none },w'=σ.val) hm hB ⟨⟨_,gd1 (World.grownBy.refl _ _)⟩,rfl⟩ (by simpa using h1)

theorem calls_class {P:Program} {f:FuncId} {args:Array Value} {St:Type} {W:St→World} {w:World} {σ:St} {v:Value} (hI:∀σ,w.grownBy (W σ) none) (hx:∀x,w.grownBy x none→∃σ,x=W σ)
  (h:Calls P f args (W σ) (Says (W σ) v)):Calls P f args (W σ) fun e w''=>e=.returned v∧∃σ',w''=W σ' :=
 h.mono fun _ w' ⟨he,hg⟩=>⟨he,hx w' (gtr (hI σ) hg)⟩

theorem gce {w w':World} {r:Option Nat} (h:w.grownBy w' r) (b i:Nat) (hb:b<w.heap.size) (hr:r≠some b):w'.cell? ⟨b,i,none⟩=w.cell? ⟨b,i,none⟩ :=
 World.cell?_of_block (a:=⟨b,i,none⟩) (h.block b hb (fun e=>hr e.symm))

end Go.Proofs.YtldgbkjceildfaaGreat
