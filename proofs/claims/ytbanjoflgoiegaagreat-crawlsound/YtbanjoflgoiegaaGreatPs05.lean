import Derived.Test.YtbanjoflgoiegaaGreatPs04
import Derived.Deep.LoopGhost
namespace Go.Proofs.YtbanjoflgoiegaaGreat
open Go.RowKit

def Gn.way (x y tx ty:Int) (first:Bool):Bool:=(y == ty) || (first && x != tx)
def Gn.stepX (x y tx ty:Int) (first:Bool):Int:=if Gn.way x y tx ty first then Gn.to1 x tx else x
def Gn.stepY (x y tx ty:Int) (first:Bool):Int:=if Gn.way x y tx ty first then y else Gn.to1 y ty

theorem Gn.cmp_add (a b:Int):a+Gn.cmp b a=Gn.to1 a b:=by
 unfold Gn.cmp Gn.to1
 split
 ·split <;> omega
 ·split <;> omega

theorem Gn.cmp_bd (a b:Int):-1≤Gn.cmp a b∧Gn.cmp a b≤1:=by
 unfold Gn.cmp
 split
 ·omega
 ·split <;> omega

theorem gd1 {a b:World} {r:Option Nat} (h:a.grownBy b r):a.grownBy b.drew r:=⟨h.os,h.tape,h.output,h.size,h.block⟩

theorem grown_three (w:World) (o1 o2 o3:Obj):w.grownBy (((w.alloc o1).alloc o2).alloc o3).drew none:=gd1 (gal (gal (World.grownBy_alloc _ _ _) _) _)

set_option maxHeartbeats 2000000 in
theorem nearer_any (x y tx ty:Int) (first:Bool) (w:World) (h1:-1000≤x) (h2:x≤1000) (h3:-1000≤y) (h4:y≤1000) :
  Calls Tryz.prog 161 #[.agg #[.int .i64 x,.int .i64 y],.agg #[.int .i64 tx,.int .i64 ty],.bool first] w
   (Says w (.agg #[.int .i64 (Gn.stepX x y tx ty first),.int .i64 (Gn.stepY x y tx ty first)])):=by
 obtain ⟨b1,b2⟩:=Gn.cmp_bd tx x
 obtain ⟨b3,b4⟩:=Gn.cmp_bd ty y
 by_cases hw:Gn.way x y tx ty first=true
 ·have e1:Gn.stepX x y tx ty first=x+Gn.cmp tx x:=by unfold Gn.stepX;rw [if_pos hw,Gn.cmp_add]
  have e2:Gn.stepY x y tx ty first=y:=by unfold Gn.stepY;rw [if_pos hw]
  rw [e1,e2]
  unfold Gn.way at hw
  clear e1 e2
  by_cases hy:(y == ty)=true
  ·clear hw
   go_enter Tryz.func161,Tryz.ntmps161
   go_wp2
   go_region_with (go_at_call 175;refine (cmp_any _ _ _).mono ?_;rintro e w' ⟨rfl,rfl⟩)
   all_goals go_wp2
   all_goals go_returns
   all_goals exact ⟨rfl,grown_three _ _ _ _⟩
  ·have hy':(y == ty)=false:=by simpa using hy
   rw [hy',Bool.false_or,Bool.and_eq_true] at hw
   obtain ⟨rfl,hx⟩:=hw
   clear hy
   go_enter Tryz.func161,Tryz.ntmps161
   go_wp2
   go_region_with (go_at_call 175;refine (cmp_any _ _ _).mono ?_;rintro e w' ⟨rfl,rfl⟩)
   all_goals go_wp2
   all_goals go_returns
   all_goals exact ⟨rfl,grown_three _ _ _ _⟩
 ·have e1:Gn.stepX x y tx ty first=x:=by unfold Gn.stepX;rw [if_neg hw]
  have e2:Gn.stepY x y tx ty first=y+Gn.cmp ty y:=by unfold Gn.stepY;rw [if_neg hw,Gn.cmp_add]
  rw [e1,e2]
  have hw':Gn.way x y tx ty first=false:=by simpa using hw
  unfold Gn.way at hw'
  rw [Bool.or_eq_false_iff] at hw'
  obtain ⟨hy,hf⟩:=hw'
  clear e1 e2 hw
  cases first with
  | false =>
   clear hf
   go_enter Tryz.func161,Tryz.ntmps161
   go_wp2
   go_region_with (go_at_call 175;refine (cmp_any _ _ _).mono ?_;rintro e w' ⟨rfl,rfl⟩)
   all_goals go_wp2
   all_goals go_returns
   all_goals exact ⟨rfl,grown_three _ _ _ _⟩
  | true =>
   rw [Bool.true_and] at hf
   go_enter Tryz.func161,Tryz.ntmps161
   go_wp2
   go_region_with (go_at_call 175;refine (cmp_any _ _ _).mono ?_;rintro e w' ⟨rfl,rfl⟩)
   all_goals go_wp2
   all_goals go_returns
   all_goals exact ⟨rfl,grown_three _ _ _ _⟩

end Go.Proofs.YtbanjoflgoiegaaGreat

namespace Go.Proofs.YtbanjoflgoiegaaGreat

namespace Gn

abbrev Dice:=Int→Int→Int→Int

def Fair (d:Dice):Prop:=∀a b n,1≤n→0≤d a b n∧d a b n<n

def rw (d:Dice) (i:Nat):Int:=3+d i 0 5
def rh (d:Dice) (i:Nat):Int:=2+d i 1 4
def rx (d:Dice) (i:Nat):Int:=1+d i 2 (23 - rw d i)
def ry (d:Dice) (i:Nat):Int:=1+d i 3 (15 - rh d i)
def mx (d:Dice) (i:Nat):Int:=rx d i+rw d i / 2
def my (d:Dice) (i:Nat):Int:=ry d i+rh d i / 2

theorem room_bd {d:Dice} (hd:Fair d) (i:Nat):(3≤rw d i∧rw d i≤7)∧(2≤rh d i∧rh d i≤5)∧(1≤rx d i∧rx d i+rw d i≤23)∧(1≤ry d i∧ry d i+rh d i≤15):=by
 have hw:=hd i 0 5 (by omega)
 have hh:=hd i 1 4 (by omega)
 have h1:3≤rw d i∧rw d i≤7:=by unfold rw;omega
 have h2:2≤rh d i∧rh d i≤5:=by unfold rh;omega
 have hx:=hd i 2 (23 - rw d i) (by omega)
 have hy:=hd i 3 (15 - rh d i) (by omega)
 refine ⟨h1,h2,?_,?_⟩
 ·unfold rx;omega
 ·unfold ry;omega

theorem mid_bd {d:Dice} (hd:Fair d) (i:Nat):1≤mx d i∧mx d i≤22∧1≤my d i∧my d i≤14:=by
 have:=room_bd hd i
 unfold mx my
 omega

def paintTo (c:Nat→Int) (x y w h r q:Int) (i:Nat):Int :=
 if (x≤(i % 24:Nat)∧((i % 24:Nat):Int)<x+w∧y≤(i / 24:Nat)∧((i / 24:Nat):Int)<y+h)∧(((i / 24:Nat):Int)<r∨((i / 24:Nat):Int)=r∧((i % 24:Nat):Int)<q) then 1 else c i

def paint (c:Nat→Int) (x y w h:Int) (i:Nat):Int:=paintTo c x y w h (y+h) x i

theorem paint_start (c:Nat→Int) (x y w h:Int) (i:Nat):paintTo c x y w h y x i=c i:=by
 unfold paintTo
 rw [if_neg (by omega)]

theorem paint_row (c:Nat→Int) (x y w h r:Int) (i:Nat):paintTo c x y w h r (x+w) i=paintTo c x y w h (r+1) x i:=by
 unfold paintTo
 by_cases hc:(x≤(i % 24:Nat)∧((i % 24:Nat):Int)<x+w∧y≤(i / 24:Nat)∧((i / 24:Nat):Int)<y+h)∧(((i / 24:Nat):Int)<r∨((i / 24:Nat):Int)=r∧((i % 24:Nat):Int)<x+w)
 ·rw [if_pos hc,if_pos (by omega)]
 ·rw [if_neg hc,if_neg (by omega)]

theorem paint_one (c:Nat→Int) (x y w h r q:Int) (k:Nat) (h1:x≤q) (h2:q<x+w) (h3:y≤r) (h4:r<y+h) (h5:0≤x) (h6:x+w≤24) (hk:r*24+q=(k:Int)) (i:Nat):Gr.upd (paintTo c x y w h r q) k 1 i=paintTo c x y w h r (q+1) i:=by
 unfold Gr.upd paintTo
 by_cases e:i=k
 ·subst e
  rw [if_pos rfl,if_pos (by omega)]
 ·rw [if_neg e]
  by_cases hc:(x≤(i % 24:Nat)∧((i % 24:Nat):Int)<x+w∧y≤(i / 24:Nat)∧((i / 24:Nat):Int)<y+h)∧(((i / 24:Nat):Int)<r∨((i / 24:Nat):Int)=r∧((i % 24:Nat):Int)<q)
  ·rw [if_pos hc,if_pos (by omega)]
  ·rw [if_neg hc,if_neg (by omega)]

def roomed (d:Dice):Nat→Nat→Int
 | 0=>fun _=>0
 | n+1=>paint (roomed d n) (rx d n) (ry d n) (rw d n) (rh d n)

def digAt (st:(Nat→Int) × Bool) (k:Nat):(Nat→Int) × Bool:=if st.1 k=0 then (Gr.upd st.1 k (if st.2 then 1 else 2),true) else st

def digRun (tx ty:Int) (first:Bool):Nat→(Nat→Int) × Bool→Int→Int→(Nat→Int) × Bool
 | 0,st,x,y=>digAt st (y*24+x).toNat
 | n+1,st,x,y=>digRun tx ty first n (digAt st (y*24+x).toNat) (stepX x y tx ty first) (stepY x y tx ty first)

def steps (x y tx ty:Int):Nat:=(tx - x).natAbs+(ty - y).natAbs

theorem step_less (x y tx ty:Int) (first:Bool) (h:¬(x=tx∧y=ty)):steps (stepX x y tx ty first) (stepY x y tx ty first) tx ty+1=steps x y tx ty:=by
 unfold steps stepX stepY way to1
 by_cases hy:y=ty
 ·have hx:x≠tx:=fun e=>h ⟨e,hy⟩
  simp only [hy,beq_self_eq_true,Bool.true_or,ite_true]
  split
  ·omega
  ·split <;> omega
 ·have e:(y == ty)=false:=by simpa using hy
  rw [e,Bool.false_or]
  split
  ·rename_i hh
   have hx:x≠tx:=by simp at hh;exact hh.2
   split
   ·omega
   ·split <;> omega
  ·split
   ·omega
   ·split <;> omega

theorem step_bd (x y tx ty:Int) (first:Bool) (h:(1≤x∧x≤22)∧1≤y∧y≤14) (ht:(1≤tx∧tx≤22)∧1≤ty∧ty≤14):(1≤stepX x y tx ty first∧stepX x y tx ty first≤22)∧1≤stepY x y tx ty first∧stepY x y tx ty first≤14:=by
 unfold stepX stepY to1
 split
 ·split
  ·omega
  ·split <;> omega
 ·split
  ·omega
  ·split <;> omega

def dug (d:Dice):Nat→Nat→Int
 | 0=>roomed d 6
 | n+1=>(digRun (mx d (n+1)) (my d (n+1)) (d ((n+1:Nat):Int) 4 2 == 0) (steps (mx d n) (my d n) (mx d (n+1)) (my d (n+1))) (dug d n,false) (mx d n) (my d n)).1

theorem paint_01 {c:Nat→Int} {x y w h r q:Int} (hc:∀i,0≤c i∧c i≤5) (i:Nat):0≤paintTo c x y w h r q i∧paintTo c x y w h r q i≤5:=by
 unfold paintTo
 split
 ·omega
 ·exact hc i

theorem upd_5 {c:Nat→Int} {k:Nat} {v:Int} (hc:∀i,0≤c i∧c i≤5) (hv:0≤v∧v≤5) (i:Nat):0≤Gr.upd c k v i∧Gr.upd c k v i≤5:=by
 unfold Gr.upd
 split
 ·exact hv
 ·exact hc i

theorem digAt_5 {st:(Nat→Int) × Bool} {k:Nat} (hc:∀i,0≤st.1 i∧st.1 i≤5) (i:Nat):0≤(digAt st k).1 i∧(digAt st k).1 i≤5:=by
 unfold digAt
 split
 ·exact upd_5 hc (by split <;> omega) i
 ·exact hc i

theorem digRun_5 (tx ty:Int) (first:Bool):∀(n:Nat) (st:(Nat→Int) × Bool) (x y:Int),(∀i,0≤st.1 i∧st.1 i≤5)→∀i,0≤(digRun tx ty first n st x y).1 i∧(digRun tx ty first n st x y).1 i≤5
 | 0,_,_,_,h=>digAt_5 h
 | n+1,_,_,_,h=>digRun_5 tx ty first n _ _ _ (digAt_5 h)

theorem roomed_5 (d:Dice):∀(n i:Nat),0≤roomed d n i∧roomed d n i≤5
 | 0,_=>by simp [roomed]
 | n+1,i=>paint_01 (roomed_5 d n) i

theorem dug_5 (d:Dice):∀(n i:Nat),0≤dug d n i∧dug d n i≤5
 | 0,i=>roomed_5 d 6 i
 | n+1,i=>by
  have h:=digRun_5 (mx d (n+1)) (my d (n+1)) (d ((n+1:Nat):Int) 4 2 == 0) (steps (mx d n) (my d n) (mx d (n+1)) (my d (n+1))) (dug d n,false) (mx d n) (my d n) (dug_5 d n) i
  rw [dug]
  exact h

end Gn


open Go.RowKit

theorem grown_none {a b c:World} {r:Option Nat} (h:a.grownBy b r) (k:b.grownBy c none):a.grownBy c r:=gow h k (fun _ e=>by cases e)

theorem wp_region_grown {P:Program} {id:Nat} {Q:Exit→Act→World→Prop} {a:Act} {w:World} {l:List Oper} (hm:P.follows .mixedOrders=true) (hB:Region.lexB .any l.toArray=true)
  (h:∀(St:Type),Nonempty St→∀(W:St→World),(∀σ,w.grownBy (W σ) none)→(∀x,w.grownBy x none→∃σ,x=W σ) →
   wpQuiet P l.toArray (fun w'=>∃σ,w'=W σ) (fun a'=>∀w',(∃σ,w'=W σ)→Q .normal a' w') l a):(Code.region id l.toArray true).wp P Q a w:=by
 have h1:=h { x // w.grownBy x none } ⟨⟨_,World.grownBy.refl w none⟩⟩ (fun σ=>σ.val) (fun σ=>σ.property) (fun x hx=>⟨⟨x,hx⟩,rfl⟩)
 exact wp_region_quiet (C:=fun w'=>∃σ:{ x // w.grownBy x none },w'=σ.val) hm hB ⟨⟨_,gd1 (World.grownBy.refl _ _)⟩,rfl⟩ (by simpa using h1)

theorem calls_class {P:Program} {f:FuncId} {args:Array Value} {St:Type} {W:St→World} {w:World} {σ:St} {v:Value} (hI:∀σ,w.grownBy (W σ) none) (hx:∀x,w.grownBy x none→∃σ,x=W σ)
  (h:Calls P f args (W σ) (Says (W σ) v)):Calls P f args (W σ) fun e w''=>e=.returned v∧∃σ',w''=W σ' :=
 h.mono fun _ w' ⟨he,hg⟩=>⟨he,hx w' (gtr (hI σ) hg)⟩

theorem gce {w w':World} {r:Option Nat} (h:w.grownBy w' r) (b i:Nat) (hb:b<w.heap.size) (hr:r≠some b):w'.cell? ⟨b,i,none⟩=w.cell? ⟨b,i,none⟩ :=
 World.cell?_of_block (a:=⟨b,i,none⟩) (h.block b hb (fun e=>hr e.symm))


open Go.RowKit

def Gn.most (F:Nat→Int):Nat→Int
 | 0=>F 0
 | n+1=>if F (n+1) > Gn.most F n then F (n+1) else Gn.most F n

theorem Gn.most_ge (F:Nat→Int) (n i:Nat) (h:i≤n):F i≤Gn.most F n:=by
  induction n with
  | zero => obtain rfl : i = 0 := by omega
            exact Int.le_refl _
  | succ n ih =>
    unfold Gn.most
    by_cases e:i=n+1
    · subst e;split <;> omega
    · have:=ih (by omega)
      split <;> omega

theorem Gn.most_is (F:Nat→Int) (n:Nat):∃i,i≤n∧F i=Gn.most F n:=by
 induction n with
 | zero=>exact ⟨0,Nat.le_refl _,rfl⟩
 | succ n ih =>
  obtain ⟨i,hi,he⟩:=ih
  by_cases h:F (n+1) > Gn.most F n
  ·exact ⟨n+1,Nat.le_refl _,by rw [Gn.most,if_pos h]⟩
  ·exact ⟨i,by omega,by rw [Gn.most,if_neg h];exact he⟩

set_option maxHeartbeats 800000 in
theorem max_any (B:Nat) (a:Option Addr) (cap:Nat) (F:Nat→Int) (w:World) (h:Vec B w a 384 (Ints F)) :
  Calls Tryz.prog 132 #[.slice a 384 cap] w fun e w'=>e=.returned (.int .i64 (Gn.most F 383))∧w'=w:=by
 obtain ⟨b,off,rfl,_,hc0⟩:=h.at (k:=0) (by omega)
 have hc0':w.cell? ⟨b,off,none⟩=some (.int .i64 (F 0)):=hc0
 have hv:=hide h
 clear h hc0
 go_enter Tryz.func132,Tryz.ntmps132
 go_wp2_with fail
 go_loop [3,4] (fun m i=>∃k j:Nat,j=k+1∧k≤383∧i=.int .i64 (j:Int)∧m=.int .i64 (Gn.most F k)) (fun _ i=>400 - (intOf i).toNat)
 case atStart=>exact ⟨0,1,rfl,by omega,rfl,rfl⟩
 case round =>
  obtain ⟨k,j,hj,hk,rfl,rfl⟩:=hrel
  obtain ⟨M,hM⟩:∃M,M=Gn.most F k:=⟨_,rfl⟩
  rw [←hM]
  by_cases hlt:k<383
  ·obtain ⟨b',off',heq,_,hcj⟩:=(uh hv).at (k:=j) (by omega)
   simp only [Option.some.injEq,Addr.mk.injEq,and_true] at heq
   obtain ⟨rfl,rfl⟩:=heq
   have hcj':w.cell? ⟨b,off+j,none⟩=some (.int .i64 (F j)):=hcj
   have hlt':(j:Int)<384:=by omega
   have hst:Gn.most F j=if F j > M then F j else M:=by rw [hM,hj,Gn.most]
   have hst':=hide hst
   have hj':=hide hj
   have HL:=hide hlt
   clear hcj hM hst hlt hj hk hc0'
   by_cases hgt:M<F j
   ·have e:=hide (show Gn.most F j=F j by rw [uh hst',if_pos hgt])
    go_wp2
    go_round
    case rel=>exact ⟨j,j+1,rfl,by have:=uh hj';have:=uh HL;omega,by go_num,by rw [uh e]⟩
    case measure=>simp [intOf];omega
   ·have e:=hide (show Gn.most F j=M by rw [uh hst',if_neg (by omega)])
    go_wp2
    go_round
    case rel=>exact ⟨j,j+1,rfl,by have:=uh hj';have:=uh HL;omega,by go_num,by rw [uh e]⟩
    case measure=>simp [intOf];omega
  ·have hge:¬(j:Int)<384:=by omega
   obtain rfl:k=383:=by omega
   have hM':=hide hM
   clear hlt hk hj hM
   go_wp2
   go_ret
   exact ⟨rti (uh hM'),rfl⟩

set_option maxHeartbeats 800000 in
theorem index_any (B:Nat) (a:Option Addr) (cap:Nat) (F:Nat→Int) (v:Int) (far:Nat) (w:World) (h:Vec B w a 384 (Ints F)) (hf:far<384) (he:F far=v) (hn:∀i,i<far→F i≠v) :
  Calls Tryz.prog 133 #[.slice a 384 cap,.int .i64 v] w fun e w'=>e=.returned (.int .i64 (far:Int))∧w'=w:=by
 have hv:=hide h
 have hn':=hide hn
 have he':=hide he
 clear h hn he
 go_enter Tryz.func133,Tryz.ntmps133
 go_wp2_with fail
 go_loop [8] (fun i=>∃k:Nat,k≤far∧i=.int .i64 (k:Int)) (fun i=>400 - (intOf i).toNat)
 case atStart=>exact ⟨0,by omega,rfl⟩
 case round =>
  obtain ⟨k,hk,rfl⟩:=hrel
  obtain ⟨b,off,rfl,_,hc⟩:=(uh hv).at (k:=k) (by omega)
  have hc':w.cell? ⟨b,off+k,none⟩=some (.int .i64 (F k)):=hc
  have hlt':(k:Int)<384:=by omega
  clear hc
  by_cases hkf:k=far
  ·subst hkf
   have hq:(v == F k)=true:=by rw [uh he'];simp
   go_wp2
   go_ret
   exact ⟨rfl,rfl⟩
  ·have hq:(v == F k)=false:=by
    have:=uh hn' k (by omega)
    rw [beq_eq_false_iff_ne]
    exact fun e=>this e.symm
   have HK:=hide hkf
   clear hkf
   go_wp2
   go_round
   case rel=>exact ⟨k+1,by have:=uh HK;omega,by go_num⟩
   case measure=>simp [intOf];omega

def Gn.those (p:Nat→Bool) (n:Nat):List Nat:=(List.range n).filter p

theorem Gn.those_yes {p:Nat→Bool} {n:Nat} (h:p n=true):Gn.those p (n+1)=Gn.those p n ++ [n]:=by
 unfold Gn.those
 rw [List.range_succ,List.filter_append,List.filter_cons_of_pos h,List.filter_nil]

theorem Gn.those_no {p:Nat→Bool} {n:Nat} (h:p n=false):Gn.those p (n+1)=Gn.those p n:=by
 unfold Gn.those
 rw [List.range_succ,List.filter_append,List.filter_cons_of_neg (by simp [h]),List.filter_nil,List.append_nil]

theorem Gn.those_len (p:Nat→Bool) (n:Nat):(Gn.those p n).length≤n:=by
 have h:=List.length_filter_le p (List.range n)
 rw [List.length_range] at h
 exact h

def Lst (w:World) (base:Nat) (v:Value) (l:List Nat):Prop:=w.ownsRow base 3 1 v l.length ((natInts l).map (Value.int .i64))

set_option maxRecDepth 8000 in
set_option maxHeartbeats 1600000 in
theorem floorCells_any (B:Nat) (a:Option Addr) (cap:Nat) (c:Nat→Int) (w:World) (h:Vec B w a 384 (Byts c)) (hB:B≤w.heap.size) :
  Calls Tryz.prog 134 #[.slice a 384 cap] w fun e w'=>∃v,e=.returned v∧Lst w' w.heap.size v (Gn.those (fun i=>c i == 1) 384)∧w.grownBy w' none:=by
 have hv:=hide h
 obtain ⟨i0,hi,hz0,hz1,hz2⟩:=info_parts info_int
 clear h
 go_enter Tryz.func134,Tryz.ntmps134
 go_wp2_with fail
 go_loopw [3,8] (fun v i wr=>∃k:Nat,k≤384∧i=.int .i64 (k:Int)∧Lst wr w.heap.size v (Gn.those (fun i=>c i == 1) k)∧w.grownBy wr none) (fun _ i _=>400 - (intOf i).toNat)
 case atStart=>exact ⟨0,by omega,rfl,World.ownsRow_nil _ _ _ _,World.grownBy.refl _ _⟩
 case round =>
  obtain ⟨k,hk,rfl,hown,hg⟩:=hrel
  have hown1:=hide hown
  have hg1:=hide hg
  have hsz:=hg.size
  have hln:=Gn.those_len (fun i=>c i == 1) k
  clear hown hg
  by_cases hlt:k<384
  ·obtain ⟨b,off,rfl,hb,hc⟩:=((uh hv).kept (w':=wr) ⟨(uh hg1).os,(uh hg1).tape,(uh hg1).output,(uh hg1).size,fun i hi=>(uh hg1).block i (by omega) (by simp)⟩).at hlt
   have hc':wr.cell? ⟨b,off+k,none⟩=some (.int .u8 (c k)):=hc
   have hlt':(k:Int)<384:=by omega
   have HL:=hide hlt
   clear hc hlt hk
   by_cases hq:(c k == 1)=true
   ·have hyes:=hide (Gn.those_yes (p:=fun i=>c i == 1) hq)
    obtain ⟨l,hl⟩:∃l,l=Gn.those (fun i=>c i == 1) k:=⟨_,rfl⟩
    rw [←hl] at hown1 hln hyes
    have hl':=hide hl
    clear hl
    go_wp2_with (at_builtin;refine wpList_append_own _ rfl _ _ 38 rfl w.heap.size 3 i0 (.int .i64 0) 1 8 Tryz.underlying38 hi hz0 hz1 hz2 rfl (by decide) _ _ _ rfl ((uh hown1).alloc _) ⟨wr.heap.size,0,none⟩ 1 1 [.int .i64 (k:Int)] rfl rfl ?_ ?_ ?_ ?_ ?_ ?_)
    ·exact one_at _ _ _ _ rfl
    ·intro u hu;simp at hu;subst hu;rfl
    ·unfold maxLen;omega
    ·omega
    ·simp;omega
    intro v' w1 hown' hgrow _
    rw [natInts_more] at hown'
    have hown2:Hid (Lst w1 w.heap.size v' (Gn.those (fun i=>c i == 1) (k+1))):=by
     rw [uh hyes]
     show w1.ownsRow _ _ _ _ _ _
     rw [List.length_append]
     exact hown'
    have hg2:=hide (gow (gal (uh hg1) _) hgrow (fun n e=>((uh hown1).lt n e).1))
    clear hown' hgrow hown1 hg1
    go_wp2
    go_roundw
    case rel=>exact ⟨k+1,by have:=uh HL;omega,by go_num,uh hown2,uh hg2⟩
    case measure=>simp [intOf];omega
   ·have hq':(c k == 1)=false:=by simpa using hq
    have hno:=hide (Gn.those_no (p:=fun i=>c i == 1) hq')
    clear hq
    go_wp2
    go_roundw
    case rel=>exact ⟨k+1,by have:=uh HL;omega,by go_num,by rw [uh hno];exact uh hown1,uh hg1⟩
    case measure=>simp [intOf];omega
  ·have hge:¬(k:Int)<384:=by omega
   obtain rfl:k=384:=by omega
   clear hlt hk
   go_wp2
   go_ret
   exact ⟨_,rfl,uh hown1,uh hg1⟩

end Go.Proofs.YtbanjoflgoiegaaGreat
