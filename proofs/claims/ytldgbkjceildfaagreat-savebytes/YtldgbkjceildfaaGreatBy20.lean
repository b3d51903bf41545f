import Derived.Test.YtldgbkjceildfaaGreatBy17
import Derived.Test.YtldgbkjceildfaaGreatBy19
import Derived.Test.YtldgbkjceildfaaGreatBy18
import Derived.Deep.Fields
namespace Go.Proofs.YtldgbkjceildfaaGreat
open Go.RowKit

def Md.Takes (c:Nat→Int) (x y hx hy r b a:Int):Prop:=r≤1536∧Gr.Sees 384 c x y hx hy∧(a<0∨r<b)

def Md.Seen (c:Nat→Int) (E:Nat→Nat→Int) (x y:Int):Nat→Int→Int→Prop
  | 0,b,a=>b=0∧a=-1
  | t + 1, b, a => ∃ b0 a0, Md.Seen c E x y t b0 a0 ∧
      ((Gd.hero E (t : Int) < 0 ∧ b = b0 ∧ a = a0) ∨
       ∃ (h : Nat) (r : Int), Gd.hero E (t : Int) = (h : Int) ∧ Fx.isRoot (((E h 3 - x) * (E h 3 - x) + (E h 4 - y) * (E h 4 - y)) * 65536) r ∧
         ((Md.Takes c x y (E h 3) (E h 4) r b0 a0∧b=r∧a=(h:Int))∨(¬Md.Takes c x y (E h 3) (E h 4) r b0 a0∧b=b0∧a=a0)))

def Md.stray (s c:Nat→Int) (E:Nat→Nat→Int) (k:Nat):Int :=
 if (1≤Dc.die 8 (s 0) [s 1,(k:Int),90]∧Dc.die 8 (s 0) [s 1,(k:Int),90]≤4)∧Gr.walkB (Gr.at 384 c (E k 3+(Fx.way (Dc.die 8 (s 0) [s 1,(k:Int),90])).1) (E k 4+(Fx.way (Dc.die 8 (s 0) [s 1,(k:Int),90])).2))=true∧En.first (En.atQ E (E k 3+(Fx.way (Dc.die 8 (s 0) [s 1,(k:Int),90])).1) (E k 4+(Fx.way (Dc.die 8 (s 0) [s 1,(k:Int),90])).2)) 32<0
 then Dc.die 8 (s 0) [s 1,(k:Int),90] else 0

def Md.monsterAt (s c:Nat→Int) (E:Nat→Nat→Int) (k:Nat) (v:Int):Prop :=
  ∃b a,Md.Seen c E (E k 3) (E k 4) 4 b a ∧
    ((a < 0 ∧ v = Md.stray s c E k) ∨
     ∃ h : Nat, a = (h : Int) ∧
       if 0 < Nv.beside (E h 3 - E k 3) (E h 4 - E k 4) then v = Nv.beside (E h 3 - E k 3) (E h 4 - E k 4)
       else Nv.IsToward c (fun _=>E h 4*24+E h 3) 1 E 32 (E k 3) (E k 4) v)

def Md.IsMonster (s c:Nat→Int) (E:Nat→Nat→Int) (row v:Int):Prop :=
 if (row<0∨32≤row)∨E row.toNat 0=0∨E row.toNat 0=1 then v=0 else Md.monsterAt s c E row.toNat v


open Go.RowKit

structure Gd.Law (w x:World) (T gC gE gI cC cE cI:Nat) (s g c:Nat→Int) (E I:Nat→Nat→Int):Prop where
 hold:Gd.Hold x T gC gE gI cC cE cI s g c E I
 lT:w.heap.size≤T
 lE:w.heap.size≤gE
 lI:w.heap.size≤gI
 cap:32≤cE
 grown:w.grownBy x none

theorem Gd.Law.on {w x y:World} {T gC gE gI cC cE cI:Nat} {s g c:Nat→Int} {E I:Nat→Nat→Int} (h:Gd.Law w x T gC gE gI cC cE cI s g c E I) (hg:x.grownBy y none):Gd.Law w y T gC gE gI cC cE cI s g c E I :=
 { h with hold:=h.hold.on hg,grown:=gtr h.grown hg }

theorem Gd.law_new {w x x':World} {gC gE gI cC cE cI:Nat} {s g c:Nat→Int} {E I:Nat→Nat→Int} (hgx:w.grownBy x none) (hcap:32≤cE) (l1:x.heap.size≤gC) (l2:x.heap.size≤gE) (l3:x.heap.size≤gI) (n1:gC≠gE) (n2:gC≠gI) (n3:gE≠gI) (hL:Gd.Lists x' gC gE gI c E I) (hg:x.grownBy x' none) :
  Gd.Law w (x'.alloc (.cells (Gd.world s gC gE gI cC cE cI g) 30)) x'.heap.size gC gE gI cC cE cI s g c E I:=by
 have h1:=hL.cells.lt
 have h2:=hL.ents.lt
 have h3:=hL.items.lt
 have h4:=hgx.size
 have h5:=hg.size
 have _:=l1
 exact ⟨⟨(Arr.world (heap_alloc_new x' _)).lie,hL.on (World.grownBy_alloc _ _ _),by omega,by omega,by omega,n1,n2,n3⟩,by omega,by omega,by omega,hcap,gtr hgx (gal hg _)⟩

theorem Gd.Law.eleven {w x:World} {T gC gE gI cC cE cI:Nat} {s g c:Nat→Int} {E I:Nat→Nat→Int} (h:Gd.Law w x T gC gE gI cC cE cI s g c E I):x.cell? ⟨T,0,none⟩=some (.int .i64 (s 0))∧x.cell? ⟨T,1,none⟩=some (.int .i64 (s 1))∧x.cell? ⟨T,2,none⟩=some (.int .i64 (s 2))∧x.cell? ⟨T,3,none⟩=some (.int .i64 (s 3))∧x.cell? ⟨T,4,none⟩=some (.slice (some ⟨gC,0,none⟩) 384 cC)∧x.cell? ⟨T,5,none⟩=some (.slice (some ⟨gE,0,none⟩) 32 cE)∧x.cell? ⟨T,6,none⟩=some (.slice (some ⟨gI,0,none⟩) 40 cI)∧x.cell? ⟨T,7,none⟩=some (.int .i64 (g 0))∧x.cell? ⟨T,8,none⟩=some (.int .i64 (g 1))∧x.cell? ⟨T,9,none⟩=some (.int .i64 (g 2))∧x.cell? ⟨T,10,none⟩=some (.int .i64 (g 3)) :=
 h.hold.box.eleven


open Go.RowKit

theorem Gd.Law.over {w x x':World} {T gC gE gI cC cE cI jC jE jI dC dE dI:Nat} {s g c s' g' c':Nat→Int} {E I F J:Nat→Nat→Int} (h:Gd.Law w x T gC gE gI cC cE cI s g c E I) (hcap:32≤dE) (l1:x.heap.size≤jC) (l2:x.heap.size≤jE) (l3:x.heap.size≤jI) (n1:jC≠jE) (n2:jC≠jI) (n3:jE≠jI) (hL:Gd.Lists x' jC jE jI c' F J) (hg:x.grownBy x' none) :
  Gd.Law w (x'.setCells T 0 (Gd.world s' jC jE jI dC dE dI g').toList) T jC jE jI dC dE dI s' g' c' F J:=by
 have h1:=h.hold.box.lt
 have h2:=h.grown.size
 have r:=gss (g:=T) (Gd.world s' jC jE jI dC dE dI g').toList 0 x' (World.grownBy.refl _ _)
 exact ⟨⟨(h.hold.box.on hg).whole s' g' jC jE jI dC dE dI,⟨hL.cells.grown r (by simp;omega),hL.ents.grown r (by simp;omega),hL.items.grown r (by simp;omega)⟩,by omega,by omega,by omega,n1,n2,n3⟩,h.lT,by omega,by omega,hcap,own_sets h.lT _ 0 x' (gtr h.grown hg)⟩


open Go.RowKit

theorem Gd.set_same (E:Nat→Nat→Int) (k j:Nat) (v:Int):Gd.set E k j v k j=v:=if_pos ⟨rfl,rfl⟩

theorem Gd.set_other {E:Nat→Nat→Int} {k j i l:Nat} {v:Int} (h:¬(i=k∧l=j)):Gd.set E k j v i l=E i l:=if_neg h


open Go.RowKit

namespace Ft

def there (E:Nat→Nat→Int) (row:Int):Bool:=decide (0≤row∧row<32) && decide (E row.toNat 0≠0)

theorem there_at {E:Nat→Nat→Int} {k:Nat} (hk:k<32):there E (k:Int)=decide (E k 0≠0):=by
 unfold there
 rw [Int.toNat_natCast,decide_eq_true (by omega)]
 rfl

theorem there_pos {E:Nat→Nat→Int} {row:Int} (h:there E row=true):∃k:Nat,k<32∧row=(k:Int)∧E k 0≠0:=by
 unfold there at h
 simp only [Bool.and_eq_true,decide_eq_true_eq] at h
 exact ⟨row.toNat,by omega,by omega,h.2⟩

def hurtE (E:Nat→Nat→Int) (k:Nat) (n:Int):Nat→Nat→Int:=if n<E k 5 then Gd.set E k 5 (E k 5 - n) else En.put E k (En.hole (E k 1))

def hurtI (E I:Nat→Nat→Int) (k:Nat) (n:Int):Nat→Nat→Int:=if n<E k 5 then I else if E k 0=1 then Gd.sweep I (E k 2) else I

def hE (E:Nat→Nat→Int) (row n:Int):Nat→Nat→Int:=if there E row=true∧1≤n then hurtE E row.toNat n else E

def hI (E I:Nat→Nat→Int) (row n:Int):Nat→Nat→Int:=if there E row=true∧1≤n then hurtI E I row.toNat n else I

def arm (E I:Nat→Nat→Int) (k:Nat):Int:=E k 7+if E k 0=1 then Gd.three (Gd.wornK I (E k 2) 2 40) else 0

def guard (E I:Nat→Nat→Int) (k:Nat):Int:=E k 8+if E k 0=1 then Gd.two (Gd.wornK I (E k 2) 3 40) else 0

def force (s:Nat→Int) (E I:Nat→Nat→Int) (f t:Nat):Int:=max 1 (arm E I f - guard E I t)+Dc.die 3 (s 0) [s 1,(f:Int),(t:Int),77]

def leaveE (s:Nat→Int) (E:Nat→Nat→Int) (f t:Nat):Nat→Nat→Int :=
 if E f 0=4 then Gd.set E t 9 (min (E t 9+3) 9)
 else if E f 0=3∧Dc.die 4 (s 0) [s 1,(f:Int),(t:Int),78]=0 then Gd.set E t 10 (min (E t 10+2) 9) else E

def blowE (s:Nat→Int) (E I:Nat→Nat→Int) (f t:Nat):Nat→Nat→Int :=
 if hurtE E t (force s E I f t) t 0≠0 then leaveE s (hurtE E t (force s E I f t)) f t else hurtE E t (force s E I f t)

def blowI (s:Nat→Int) (E I:Nat→Nat→Int) (f t:Nat):Nat→Nat→Int:=hurtI E I t (force s E I f t)

def hitE (s:Nat→Int) (E I:Nat→Nat→Int) (f t:Int):Nat→Nat→Int:=if there E f=true∧there E t=true then blowE s E I f.toNat t.toNat else E

def hitI (s:Nat→Int) (E I:Nat→Nat→Int) (f t:Int):Nat→Nat→Int:=if there E f=true∧there E t=true then blowI s E I f.toNat t.toNat else I

def stunE (E:Nat→Nat→Int) (k:Nat):Nat→Nat→Int:=if 0<E k 10 then Gd.set E k 10 (E k 10 - 1) else E

def poisE (E:Nat→Nat→Int) (k:Nat):Nat→Nat→Int:=Gd.set E k 9 (E k 9 - 1)

def oneE (E:Nat→Nat→Int) (k:Nat):Nat→Nat→Int:=if 0<E k 9 then hurtE (poisE (stunE E k) k) k 1 else stunE E k

def oneI (E I:Nat→Nat→Int) (k:Nat):Nat→Nat→Int:=if 0<E k 9 then hurtI (poisE (stunE E k) k) I k 1 else I

def ailE (E I:Nat→Nat→Int):Nat→(Nat→Nat→Int) × (Nat→Nat→Int)
 | 0=>(E,I)
 | m+1=>if (ailE E I m).1 m 0≠0 then (oneE (ailE E I m).1 m,oneI (ailE E I m).1 (ailE E I m).2 m) else ailE E I m

def Row (e:Nat→Int):Prop:=0≤e 1∧e 1≤255 ∧
 ((∀j,j<11→j≠1→e j=0)∨(1≤e 0∧e 0≤4∧1≤e 5∧e 5≤e 6∧e 6≤20∧0≤e 7∧e 7≤5∧0≤e 8∧e 8≤1∧0≤e 9∧e 9≤9∧0≤e 10∧e 10≤9))

structure Fit (c:Nat→Int) (E I:Nat→Nat→Int):Prop where
 cells:∀i,0≤c i∧c i≤255
 ok:Gd.Ok c 40 I
 rows:∀k,k<32→Row (E k)

theorem Row.taken {e:Nat→Int} (h:Row e) (h0:e 0≠0):1≤e 0∧e 0≤4∧1≤e 5∧e 5≤e 6∧e 6≤20∧0≤e 7∧e 7≤5∧0≤e 8∧e 8≤1∧0≤e 9∧e 9≤9∧0≤e 10∧e 10≤9:=by
 rcases h.2.2 with hz | ht
 ·exact absurd (hz 0 (by omega) (by omega)) h0
 ·exact ht

theorem row_hole {g:Int} (h0:0≤g) (h9:g≤255):Row (En.hole g) :=
 ⟨h0,h9,.inl fun _ _ hj=>if_neg hj⟩

theorem set_row (E:Nat→Nat→Int) (k j:Nat) (v:Int) (i:Nat) (h:i≠k):Gd.set E k j v i=E i:=by
 funext l
 exact Gd.set_other (by omega)

theorem Fit.put {c:Nat→Int} {E I:Nat→Nat→Int} (h:Fit c E I) {k:Nat} {e:Nat→Int} (he:Row e):Fit c (En.put E k e) I :=
 ⟨h.cells,h.ok,fun i hi=>by
  by_cases x:i=k
  ·rw [x,En.put_same];exact he
  ·rw [En.put_other x];exact h.rows i hi⟩

theorem Fit.set {c:Nat→Int} {E I:Nat→Nat→Int} (h:Fit c E I) {k j:Nat} {v:Int} (he:Row (Gd.set E k j v k)):Fit c (Gd.set E k j v) I :=
 ⟨h.cells,h.ok,fun i hi=>by
  by_cases x:i=k
  ·rw [x];exact he
  ·rw [set_row E k j v i x];exact h.rows i hi⟩

theorem Fit.hurt {c:Nat→Int} {E I:Nat→Nat→Int} (h:Fit c E I) {k:Nat} (hk:k<32) (h0:E k 0≠0) {n:Int} (hn:1≤n):Fit c (hurtE E k n) (hurtI E I k n):=by
 have hr:=h.rows k hk
 have ht:=hr.taken h0
 unfold hurtE hurtI
 by_cases hlt:n<E k 5
 ·rw [if_pos hlt,if_pos hlt]
  refine h.set ⟨?_,?_,.inr ?_⟩
  ·rw [Gd.set_other (by omega)];exact hr.1
  ·rw [Gd.set_other (by omega)];exact hr.2.1
  ·rw [Gd.set_same,Gd.set_other (show ¬(k=k∧0=5) by omega),Gd.set_other (show ¬(k=k∧6=5) by omega),Gd.set_other (show ¬(k=k∧7=5) by omega),Gd.set_other (show ¬(k=k∧8=5) by omega),Gd.set_other (show ¬(k=k∧9=5) by omega),Gd.set_other (show ¬(k=k∧10=5) by omega)]
   omega
 ·rw [if_neg hlt,if_neg hlt]
  have hp:=h.put (k:=k) (row_hole hr.1 hr.2.1)
  by_cases h1:E k 0=1
  ·rw [if_pos h1]
   exact { hp with ok:=h.ok.sweep _ }
  ·rw [if_neg h1]
   exact hp

theorem hurt_other (E:Nat→Nat→Int) {k i:Nat} (n:Int) (h:i≠k):hurtE E k n i=E i:=by
 unfold hurtE
 split
 ·exact set_row E k 5 _ i h
 ·exact En.put_other h

theorem hurt_left {E:Nat→Nat→Int} {k:Nat} {n:Int} (h0:E k 0≠0):hurtE E k n k 0≠0↔n<E k 5:=by
 unfold hurtE
 by_cases hlt:n<E k 5
 ·rw [if_pos hlt,Gd.set_other (by omega)]
  exact ⟨fun _=>hlt,fun _=>h0⟩
 ·rw [if_neg hlt,En.put_same]
  exact ⟨fun h=>absurd rfl h,fun h=>absurd h hlt⟩

theorem Fit.stat {c:Nat→Int} {E I:Nat→Nat→Int} (h:Fit c E I) {k j:Nat} (hk:k<32) (h0:E k 0≠0) (hj:j=9∨j=10) {v:Int} (v0:0≤v) (v9:v≤9):Fit c (Gd.set E k j v) I:=by
 have hr:=h.rows k hk
 have ht:=hr.taken h0
 have e:∀l,l≠j→Gd.set E k j v k l=E k l:=fun l hl=>Gd.set_other (by omega)
 refine h.set ⟨?_,?_,.inr ?_⟩
 ·rw [e 1 (by omega)];exact hr.1
 ·rw [e 1 (by omega)];exact hr.2.1
 ·rw [e 0 (by omega),e 5 (by omega),e 6 (by omega),e 7 (by omega),e 8 (by omega)]
  rcases hj with rfl | rfl
  ·rw [Gd.set_same,e 10 (by omega)]
   omega
  ·rw [Gd.set_same,e 9 (by omega)]
   omega

theorem Fit.leave {c:Nat→Int} {E I:Nat→Nat→Int} (h:Fit c E I) {t:Nat} (ht:t<32) (h0:E t 0≠0) (s:Nat→Int) (f:Nat):Fit c (leaveE s E f t) I:=by
 have hx:=(h.rows t ht).taken h0
 unfold leaveE
 split
 ·exact h.stat ht h0 (.inl rfl) (by omega) (by omega)
 ·split
  ·exact h.stat ht h0 (.inr rfl) (by omega) (by omega)
  ·exact h

theorem force_pos (s:Nat→Int) (E I:Nat→Nat→Int) (f t:Nat):1≤force s E I f t:=by
 unfold force
 have:=(Dc.die_bd 3 (s 0) [s 1,(f:Int),(t:Int),77] (by omega)).1
 omega

theorem Fit.hit {c:Nat→Int} {E I:Nat→Nat→Int} (h:Fit c E I) (s:Nat→Int) (f t:Int):Fit c (hitE s E I f t) (hitI s E I f t):=by
 unfold hitE hitI
 by_cases hc:there E f=true∧there E t=true
 ·rw [if_pos hc,if_pos hc]
  obtain ⟨k,hk,rfl,hk0⟩:=there_pos hc.2
  rw [Int.toNat_natCast]
  have hh:=h.hurt hk hk0 (force_pos s E I f.toNat k)
  unfold blowE blowI
  split
  ·rename_i h0
   exact hh.leave hk h0 s f.toNat
  ·exact hh
 ·rw [if_neg hc,if_neg hc]
  exact h

theorem stun_other (E:Nat→Nat→Int) (k l:Nat) (hl:l≠10):stunE E k k l=E k l:=by
 unfold stunE
 split
 ·exact Gd.set_other (by omega)
 ·rfl

theorem Fit.stun {c:Nat→Int} {E I:Nat→Nat→Int} (h:Fit c E I) {k:Nat} (hk:k<32) (h0:E k 0≠0):Fit c (stunE E k) I:=by
 have ht:=(h.rows k hk).taken h0
 unfold stunE
 split
 ·exact h.stat hk h0 (.inr rfl) (by omega) (by omega)
 ·exact h

theorem Fit.one {c:Nat→Int} {E I:Nat→Nat→Int} (h:Fit c E I) {k:Nat} (hk:k<32) (h0:E k 0≠0):Fit c (oneE E k) (oneI E I k):=by
 have ht:=(h.rows k hk).taken h0
 have hs:=h.stun hk h0
 unfold oneE oneI
 split
 ·have h0':stunE E k k 0≠0:=by rw [stun_other E k 0 (by omega)];exact h0
  have hp:Fit c (poisE (stunE E k) k) I:=hs.stat hk h0' (.inl rfl) (by rw [stun_other E k 9 (by omega)];omega) (by rw [stun_other E k 9 (by omega)];omega)
  exact hp.hurt hk (by unfold poisE;rw [Gd.set_other (by omega)];exact h0') (by omega)
 ·exact hs

theorem Fit.ail {c:Nat→Int} {E I:Nat→Nat→Int} (h:Fit c E I):∀m,m≤32→Fit c (ailE E I m).1 (ailE E I m).2
 | 0,_=>h
 | m+1,hm=>by
  have ih:=h.ail m (by omega)
  unfold ailE
  split
  ·rename_i h0
   exact ih.one (by omega) h0
  ·exact ih

end Ft


open Go.RowKit

theorem Own.of_append {w:World} {base n:Nat} {v:Value} {E:Nat→Nat→Int} (h:w.ownsRow base 70 11 v n (En.list n E)) (hv:v≠.slice none 0 0) (hn:n≤32) :
  ∃g cap,v=.slice (some ⟨g,0,none⟩) n cap∧base≤g∧n≤cap∧cap≤maxLen∧Own w g n E:=by
 rcases h.2 with ⟨h',_⟩ | ⟨g,cap,cur,rfl,hb,hg,hnc,hcm,hcs,htake⟩
 ·exact absurd h' hv
 ·exact ⟨g,cap,rfl,hb,hnc,hcm,Own.of_owns h hn (fun c hc=>En.list_at hc)⟩

theorem En.flat_src {w w':World} {b n:Nat} {E:Nat→Nat→Int} (h:Ents w b n E) (hg:w.grownBy w' none):∀j v,(En.list n E)[j]?=some v→w'.cell? ((⟨b,0,none⟩:Addr).add j)=some v:=(h.on hg).src

set_option maxHeartbeats 1600000 in
theorem refFree_in (b n c k:Nat) (E:Nat→Nat→Int) (w:World) (hE:Ents w b n E) (hk:k<n) :
  Calls Tryz.prog 84 #[.slice (some ⟨b,0,none⟩) n c,.int .i64 (k:Int)] w (Lists w n (En.put E k (En.hole (E k 1)))):=by
 have hn:=hE.1
 have hk':(k:Int)<(n:Int):=by omega
 have hE':=hide hE
 have HK:=hide hk
 obtain ⟨i0,hi,hz0,hz1,hz2⟩:=info_parts info_ent
 have hst:Hid (∀(x:World) (g:Nat),Own x g n E→Own (x.setCells g (k*11) (En.cells (En.hole (E k 1))).toList) g n (En.put E k (En.hole (E k 1)))):=fun x g h=>h.store k _
 have hgs:Hid (∀(x:World) (g:Nat),w.grownBy x none→w.heap.size≤g→w.grownBy (x.setCells g (k*11) (En.cells (En.hole (E k 1))).toList) none):=fun x g h hg=>own_sets hg _ _ x h
 clear hE
 go_enter Tryz.func84,Tryz.ntmps84
 go_wp2_with (at_builtin;refine wpList_append_own _ rfl _ _ 26 rfl w.heap.size 70 i0 (.agg #[.int .i64 0,.int .i64 0,.int .i64 0,.int .i64 0,.int .i64 0,.int .i64 0,.int .i64 0,.int .i64 0,.int .i64 0,.int .i64 0,.int .i64 0]) 11 88 Tryz.underlying26 hi hz0 hz1 hz2 rfl (by decide) _ 0 [] rfl (World.ownsRow_made _ _ _ (Nat.le_refl _) (by decide) (by simp)) ⟨b,0,none⟩ n c (En.list n E) rfl (En.list_len n E) (En.flat_src (uh hE') (World.grownBy_alloc _ _ _)) En.list_one ?c4 ?c5 ?c6 ?_)
 case c4=>unfold maxLen;omega
 case c5=>omega
 case c6=>simp
 intro v' w1 hown hgrow hnil
 obtain ⟨g,cap,rfl,hlo,hnc,hcm,hown1⟩:=Own.of_append hown hnil hn
 have hgr1:=hide (gow (World.grownBy_alloc w (.cells #[] 70) none) hgrow (by intro m hm;simp [Value.ownBlock] at hm;omega))
 have hcapf:=hide (And.intro hlo (And.intro hnc hcm))
 obtain ⟨u0,u1,u2,u3,u4,u5,u6,u7,u8,u9,u10⟩:=hown1.ents.row hk
 have f:=fun i=>hown1.free i
 have s1:w1.cell? ⟨b,k*11+1,none⟩=some (.int .i64 (E k 1)):=((uh hE').on (uh hgr1)).2.2 k 1 hk (by omega)
 have hown1':=hide hown1
 clear hown hgrow hnil hlo hnc hcm hown1 hi hz0 hz1 hz2
 go_wp2
 go_ret
 exact ⟨g,cap,rfl,(uh hcapf).1,(uh hcapf).2.1,(uh hcapf).2.2,uh hst _ _ (uh hown1'),uh hgs _ _ (uh hgr1) (uh hcapf).1⟩

set_option maxHeartbeats 1600000 in
theorem refSpawn_full (b n c:Nat) (E:Nat→Nat→Int) (e:Nat→Int) (w:World) (hE:Ents w b n E) (hk:1≤e 0∧e 0≤4) (hf:∀j,j<n→En.freeQ E j=false) :
  Calls Tryz.prog 68 #[.slice (some ⟨b,0,none⟩) n c,.agg (En.cells e)] w (Says w (.tuple #[.slice none 0 0,.int .i64 0,.int .i64 5])):=by
 have hn:=hE.1
 have hg:=hide (World.grownBy_alloc w (.cells (En.cells e) 70) none)
 have hE':=hide (hE.on (uh hg))
 have hf':=hide hf
 obtain ⟨W,hW⟩:∃W,W=w.alloc (.cells (En.cells e) 70):=⟨_,rfl⟩
 rw [←hW] at hg hE'
 obtain ⟨k1,k2⟩:=hk
 have k3:¬e 0<1:=by omega
 have k4:¬4<e 0:=by omega
 have hW':=hide hW
 clear hE hf hW
 unfold En.cells at hW' ⊢
 go_enter Tryz.func68,Tryz.ntmps68
 go_wp2_with fail
 rw [←uh hW']
 clear hW' k1 k2 k3 k4
 go_loop [7] (fun i=>∃k:Nat,k≤n∧i=.int .i64 (k:Int)) (fun i=>40 - (intOf i).toNat)
 case atStart=>exact ⟨0,by omega,rfl⟩
 case round =>
  obtain ⟨k,hk,rfl⟩:=hrel
  by_cases hlt:k<n
  ·obtain ⟨u0,_⟩:=(uh hE').row hlt
   have hlt':(k:Int)<(n:Int):=by omega
   have h32:(k:Int)<32:=by omega
   have hz:(E k 0 == 0)=false:=by have:=uh hf' k hlt;simpa [En.freeQ] using this
   have HL:=hide hlt
   clear hlt
   go_wp2
   go_round
   case rel=>exact ⟨k+1,by have:=uh HL;omega,by go_num⟩
   case measure=>simp [intOf];omega
  ·have hge:¬(k:Int)<(n:Int):=by omega
   go_wp2
   go_ret3
   exact ⟨rfl,uh hg⟩

set_option maxRecDepth 8000 in
set_option maxHeartbeats 4000000 in
theorem refSpawn_some (b n c r:Nat) (E:Nat→Nat→Int) (e:Nat→Int) (w:World) (hE:Ents w b n E) (hk:1≤e 0∧e 0≤4) (hr:r<n) (hq:E r 0=0) (hf:∀j,j<r→En.freeQ E j=false) (hG:En.Gens n E) :
  Calls Tryz.prog 68 #[.slice (some ⟨b,0,none⟩) n c,.agg (En.cells e)] w (Spawns w n (En.put E r (En.gen e ((E r 1+1) % 256))) r):=by
 have hn:=hE.1
 have hg:=hide (World.grownBy_alloc w (.cells (En.cells e) 70) none)
 have hE':=hide (hE.on (uh hg))
 have hbox:=hide (Arr.lit (heap_alloc_new w (.cells (En.cells e) 70)))
 have hf':=hide hf
 obtain ⟨g0,g1⟩:=hG r hr
 obtain ⟨W,hW⟩:∃W,W=w.alloc (.cells (En.cells e) 70):=⟨_,rfl⟩
 have hWs:Hid (W.heap.size=w.heap.size+1):=by rw [hW];simp [Hid]
 rw [←hW] at hg hE' hbox
 obtain ⟨k1,k2⟩:=hk
 have k3:¬e 0<1:=by omega
 have k4:¬4<e 0:=by omega
 have hW':=hide hW
 have hbw:=hide hE.2.1
 obtain ⟨i0,hi,hz0,hz1,hz2⟩:=info_parts info_ent
 obtain ⟨G2,hG2⟩:∃G2,G2=(E r 1+1) % 256:=⟨_,rfl⟩
 have hst:Hid (∀(x:World) (g:Nat),Own x g n E→Own (x.setCells g (r*11) (En.cells (En.gen e G2)).toList) g n (En.put E r (En.gen e G2))):=fun x g h=>h.store r _
 have hgs:Hid (∀(x:World) (g:Nat),w.grownBy x none→w.heap.size≤g→w.grownBy (x.setCells g (r*11) (En.cells (En.gen e G2)).toList) none):=fun x g h hg=>own_sets hg _ _ x h
 obtain ⟨F,hF⟩:∃F,F=En.put E r (En.gen e G2):=⟨_,rfl⟩
 rw [←hF] at hst
 rw [←hG2,←hF]
 have hG2':=hide hG2
 have hq':=hide hq
 clear hE hf hW hG hF hG2 hq
 unfold En.cells at hW' hbox ⊢
 go_enter Tryz.func68,Tryz.ntmps68
 go_wp2_with fail
 rw [←uh hW']
 clear hW' k1 k2 k3 k4
 go_loop [7] (fun i=>∃k:Nat,k≤r∧i=.int .i64 (k:Int)) (fun i=>40 - (intOf i).toNat)
 case atStart=>exact ⟨0,by omega,rfl⟩
 case round =>
  obtain ⟨k,hk,rfl⟩:=hrel
  by_cases hlt:k<r
  ·obtain ⟨u0,_⟩:=(uh hE').row (k:=k) (by omega)
   have hlt':(k:Int)<(n:Int):=by omega
   have h32:(k:Int)<32:=by omega
   have hz:(E k 0 == 0)=false:=by have:=uh hf' k hlt;simpa [En.freeQ] using this
   have HL:=hide hlt
   clear hlt
   go_wp2
   go_round
   case rel=>exact ⟨k+1,by have:=uh HL;omega,by go_num⟩
   case measure=>simp [intOf];omega
  ·obtain rfl:k=r:=by omega
   obtain ⟨u0,u1,_⟩:=(uh hE').row hr
   rw [uh hq'] at u0
   have hlt':(k:Int)<(n:Int):=by omega
   have h32:(k:Int)<32:=by omega
   go_wp2_with (at_builtin;refine wpList_append_own _ rfl _ _ 26 rfl W.heap.size 70 i0 (.agg #[.int .i64 0,.int .i64 0,.int .i64 0,.int .i64 0,.int .i64 0,.int .i64 0,.int .i64 0,.int .i64 0,.int .i64 0,.int .i64 0,.int .i64 0]) 11 88 Tryz.underlying26 hi hz0 hz1 hz2 rfl (by decide) _ 0 [] rfl (World.ownsRow_made _ _ _ (Nat.le_refl _) (by decide) (by simp)) ⟨b,0,none⟩ n c (En.list n E) rfl (En.list_len n E) (En.flat_src (uh hE') (World.grownBy_alloc _ _ _)) En.list_one ?c4 ?c5 ?c6 ?_)
   case c4=>unfold maxLen;omega
   case c5=>omega
   try (case c6=>simp)
   intro v' w1 hown hgrow hnil
   obtain ⟨g,cap,rfl,hlo,hnc,hcm,hown1⟩:=Own.of_append hown hnil hn
   have hgW:=gow (World.grownBy_alloc W (.cells #[] 70) none) hgrow (by intro m hm;simp [Value.ownBlock] at hm;omega)
   have hgr1:=hide (gtr (uh hg) hgW)
   have hbox1:=hide ((uh hbox).grown hgW (by simp))
   have hlo':w.heap.size<g:=by have:=uh hWs;omega
   have hcapf:=hide (And.intro hlo' (And.intro hnc hcm))
   have hs1:w1.cell? ⟨b,k*11+1,none⟩=some (.int .i64 (E k 1)):=((uh hE').on hgW).2.2 k 1 hr (by omega)
   have hz:=fun j (hj:j<11)=>(uh hbox1).cell (i:=j) hj
   have z0:=hz 0 (by omega)
   have z1:=hz 1 (by omega)
   have z2:=hz 2 (by omega)
   have z3:=hz 3 (by omega)
   have z4:=hz 4 (by omega)
   have z5:=hz 5 (by omega)
   have z6:=hz 6 (by omega)
   have z7:=hz 7 (by omega)
   have z8:=hz 8 (by omega)
   have z9:=hz 9 (by omega)
   have z10:=hz 10 (by omega)
   simp only [List.getElem?_toArray,List.getElem?_cons_zero,List.getElem?_cons_succ,Option.getD_some] at z0 z1 z2 z3 z4 z5 z6 z7 z8 z9 z10
   have zf:=(uh hbox1).free 1
   have hown1':=hide hown1
   clear hown hgrow hnil hlo hnc hcm hown1 hi hz0 hz1 hz2 hgW hz u0 u1
   obtain ⟨w2,hw2⟩:∃w2,w2=w1.setCell ⟨w.heap.size,1,none⟩ (.int .i64 G2):=⟨_,rfl⟩
   have hown2:Hid (Own w2 g n E):=by
    have hne:w.heap.size≠g:=by omega
    obtain ⟨hn',m,F',hA,hm,hF'⟩:=uh hown1'
    obtain ⟨cur,q1,q2,q3⟩:=hA
    rw [hw2]
    exact ⟨hn',m,F',⟨cur,(heap_setCell_other w1 ⟨w.heap.size,1,none⟩ g _ hne.symm).trans q1,q2,q3⟩,hm,hF'⟩
   have hgr2:Hid (w.grownBy w2 none):=by rw [hw2];exact gsr (uh hgr1) ⟨w.heap.size,1,none⟩ (Nat.le_refl _) _
   obtain ⟨t0,t1,t2,t3,t4,t5,t6,t7,t8,t9,t10⟩:=(uh hown2).ents.row hr
   have f:=fun i=>(uh hown2).free i
   have hb2:=(uh hbox1).store 1 (.int .i64 G2)
   rw [←hw2] at hb2
   have y0:w2.cell? ⟨w.heap.size,0,none⟩=some (.int .i64 (e 0)):=hb2.cell (i:=0) (by show 0<11;omega)
   have y1:w2.cell? ⟨w.heap.size,1,none⟩=some (.int .i64 G2):=hb2.cell (i:=1) (by show 1<11;omega)
   have y2:w2.cell? ⟨w.heap.size,2,none⟩=some (.int .i64 (e 2)):=hb2.cell (i:=2) (by show 2<11;omega)
   have y3:w2.cell? ⟨w.heap.size,3,none⟩=some (.int .i64 (e 3)):=hb2.cell (i:=3) (by show 3<11;omega)
   have y4:w2.cell? ⟨w.heap.size,4,none⟩=some (.int .i64 (e 4)):=hb2.cell (i:=4) (by show 4<11;omega)
   have y5:w2.cell? ⟨w.heap.size,5,none⟩=some (.int .i64 (e 5)):=hb2.cell (i:=5) (by show 5<11;omega)
   have y6:w2.cell? ⟨w.heap.size,6,none⟩=some (.int .i64 (e 6)):=hb2.cell (i:=6) (by show 6<11;omega)
   have y7:w2.cell? ⟨w.heap.size,7,none⟩=some (.int .i64 (e 7)):=hb2.cell (i:=7) (by show 7<11;omega)
   have y8:w2.cell? ⟨w.heap.size,8,none⟩=some (.int .i64 (e 8)):=hb2.cell (i:=8) (by show 8<11;omega)
   have y9:w2.cell? ⟨w.heap.size,9,none⟩=some (.int .i64 (e 9)):=hb2.cell (i:=9) (by show 9<11;omega)
   have y10:w2.cell? ⟨w.heap.size,10,none⟩=some (.int .i64 (e 10)):=hb2.cell (i:=10) (by show 10<11;omega)
   have hw2':=hide hw2
   clear hb2
   clear hw2
   go_upto_region 9 with fail
   rw [←uh hG2',←uh hw2']
   clear hs1 z0 z1 z2 z3 z4 z5 z6 z7 z8 z9 z10 zf hw2'
   go_wp2
   go_ret3
   exact ⟨g,cap,rfl,Nat.le_of_lt (uh hcapf).1,(uh hcapf).2.1,(uh hcapf).2.2,uh hst _ _ (uh hown2),uh hgs _ _ (uh hgr2) (Nat.le_of_lt (uh hcapf).1)⟩


open Go.RowKit

def En.upd (e:Nat→Int) (j:Nat) (v:Int):Nat→Int:=fun l=>if l=j then v else e l

theorem En.upd_same (e:Nat→Int) (j:Nat) (v:Int):En.upd e j v j=v:=if_pos rfl
theorem En.upd_other {e:Nat→Int} {j l:Nat} {v:Int} (h:l≠j):En.upd e j v l=e l:=if_neg h

theorem Lie.upd {x:World} {Q:Nat} {T:TypeId} {e:Nat→Int} (h:Lie x Q T 11 (Ints e)) (j:Nat) (v:Int):Lie (x.setCell ⟨Q,j,none⟩ (.int .i64 v)) Q T 11 (Ints (En.upd e j v)):=by
 refine (h.store j (.int .i64 v)).congr fun l _=>?_
 unfold Ints En.upd
 split <;> rfl

theorem Lie.ent {x:World} {Q:Nat} {T:TypeId} {e:Nat→Int} (h:Lie x Q T 11 (Ints e)):x.cell? ⟨Q,0,none⟩=some (.int .i64 (e 0))∧x.cell? ⟨Q,1,none⟩=some (.int .i64 (e 1))∧x.cell? ⟨Q,2,none⟩=some (.int .i64 (e 2))∧x.cell? ⟨Q,3,none⟩=some (.int .i64 (e 3))∧x.cell? ⟨Q,4,none⟩=some (.int .i64 (e 4))∧x.cell? ⟨Q,5,none⟩=some (.int .i64 (e 5))∧x.cell? ⟨Q,6,none⟩=some (.int .i64 (e 6))∧x.cell? ⟨Q,7,none⟩=some (.int .i64 (e 7))∧x.cell? ⟨Q,8,none⟩=some (.int .i64 (e 8))∧x.cell? ⟨Q,9,none⟩=some (.int .i64 (e 9))∧x.cell? ⟨Q,10,none⟩=some (.int .i64 (e 10)) :=
 ⟨h.cell (by omega),h.cell (by omega),h.cell (by omega),h.cell (by omega),h.cell (by omega),h.cell (by omega),h.cell (by omega),h.cell (by omega),h.cell (by omega),h.cell (by omega),h.cell (by omega)⟩

theorem Lie.born (x:World) (e:Nat→Int) (T:TypeId):Lie (x.alloc (.cells (En.cells e) T)) x.heap.size T 11 (Ints e) :=
 Lie.congr (m:=11) (Arr.lit (heap_alloc_new x (.cells (En.cells e) T))).lie fun j hj=>by
  rcases (show j=0∨j=1∨j=2∨j=3∨j=4∨j=5∨j=6∨j=7∨j=8∨j=9∨j=10 by omega) with rfl | rfl | rfl | rfl | rfl | rfl | rfl | rfl | rfl | rfl | rfl <;> rfl

def Ft.Born (E:Nat→Nat→Int):Prop:=∀k,k<32→E k 0≠0→E k 6=En.stats (E k 0) 6∧E k 7=En.stats (E k 0) 7∧E k 8=En.stats (E k 0) 8

theorem Ft.Born.put {E:Nat→Nat→Int} (h:Ft.Born E) {r:Nat} {e:Nat→Int} (he:e 6=En.stats (e 0) 6∧e 7=En.stats (e 0) 7∧e 8=En.stats (e 0) 8):Ft.Born (En.put E r e):=fun k hk h0=>by
 by_cases x:k=r
 ·rw [x,En.put_same]
  exact he
 ·rw [En.put_other x] at h0 ⊢
  exact h k hk h0


open Go.RowKit

structure Ft.Stands (c:Nat→Int) (E:Nat→Nat→Int):Prop where
 on:∀k,k<32→E k 0≠0→0≤E k 3∧E k 3<24∧0≤E k 4∧E k 4<16∧Gr.walkB (c (E k 4*24+E k 3).toNat)=true
 apart:∀j k,j<32→k<32→E j 0≠0→E k 0≠0→E j 3=E k 3→E j 4=E k 4→j=k

structure Ft.Set (c:Nat→Int) (E:Nat→Nat→Int):Prop where
 born:Ft.Born E
 stands:Ft.Stands c E

def Ft.Room (c:Nat→Int) (E:Nat→Nat→Int) (q:Nat):Prop:=Gr.walkB (c q)=true∧En.first (En.atQ E ((q:Int) % 24) ((q:Int) / 24)) 32<0

theorem Ft.cell_num {q:Nat} (hq:q<384):0≤(q:Int) % 24∧(q:Int) % 24<24∧0≤(q:Int) / 24∧(q:Int) / 24<16∧((q:Int) / 24*24+(q:Int) % 24).toNat=q:=by omega

theorem Ft.room_none {E:Nat→Nat→Int} {x y:Int} (h:En.first (En.atQ E x y) 32<0):∀j,j<32→E j 0≠0→¬(E j 3=x∧E j 4=y):=by
 rcases En.first_cases (En.atQ E x y) 32 with ⟨_,hno⟩ | ⟨k,_,he,_⟩
 ·intro j hj h0 hxy
  have:=hno j hj
  simp [En.atQ,h0,hxy.1,hxy.2] at this
 ·omega

theorem Ft.Set.put {c:Nat→Int} {E:Nat→Nat→Int} (h:Ft.Set c E) {r q:Nat} {e:Nat→Int} {gn:Int} (_h0:E r 0=0) (hq:q<384) (hr:Ft.Room c E q) (hx:e 3=(q:Int) % 24) (hy:e 4=(q:Int) / 24) (he:e 6=En.stats (e 0) 6∧e 7=En.stats (e 0) 7∧e 8=En.stats (e 0) 8):Ft.Set c (En.put E r (En.gen e gn)):=by
 obtain ⟨n1,n2,n3,n4,n5⟩:=Ft.cell_num hq
 have hno:=Ft.room_none hr.2
 have e3:En.gen e gn 3=(q:Int) % 24:=hx
 have e4:En.gen e gn 4=(q:Int) / 24:=hy
 refine ⟨h.born.put he,⟨fun k hk k0=>?_,fun j k hj hk j0 k0 hx' hy'=>?_⟩⟩
 ·by_cases e':k=r
  ·subst e'
   rw [En.put_same,e3,e4,n5]
   exact ⟨n1,n2,n3,n4,hr.1⟩
  ·rw [En.put_other e'] at k0 ⊢
   exact h.stands.on k hk k0
 ·by_cases ej:j=r
  ·by_cases ek:k=r
   ·omega
   ·subst ej
    rw [En.put_same,En.put_other ek,e3] at hx'
    rw [En.put_same,En.put_other ek,e4] at hy'
    rw [En.put_other ek] at k0
    exact absurd ⟨hx'.symm,hy'.symm⟩ (hno k hk k0)
  ·by_cases ek:k=r
   ·subst ek
    rw [En.put_same,En.put_other ej,e3] at hx'
    rw [En.put_same,En.put_other ej,e4] at hy'
    rw [En.put_other ej] at j0
    exact absurd ⟨hx',hy'⟩ (hno j hj j0)
   ·rw [En.put_other ej,En.put_other ek] at hx' hy'
    rw [En.put_other ej] at j0
    rw [En.put_other ek] at k0
    exact h.stands.apart j k hj hk j0 k0 hx' hy'


open Go.RowKit

theorem Nv.reach_walk {f t:Nat→Int} {tlen blen:Nat} {g:Nat→Bool} {F:Nat→Int} (h:Gr.IsField (fun i=>Gr.openB f blen g i=true) (Gr.tgt f t tlen) F) {p:Nat} (hp:p<384) (h0:0≤F p):Gr.walkB (f p)=true:=by
 by_cases e:F p=0
 ·exact ((h.zero p hp).1 e).1
 ·have ho:=(h.back p hp (by omega)).1
  by_cases hw:Gr.walkB (f p)=true
  ·exact hw
  ·rw [Bool.not_eq_true] at hw
   rw [Gr.open_no hw] at ho
   cases ho

theorem Nv.Floor.all {cs:Nat→Int} (hf:Nv.Floor cs) {H:Nat→Int} {b:Nat} (hb:b<384) (hcb:cs b≠0) (h:Gr.IsField (fun i=>Gr.openB cs 0 (fun _=>false) i=true) (Gr.tgt cs (fun _=>(b:Int)) 1) H) (i:Nat) (hi:i<384) (hci:cs i≠0):0≤H i:=by
 have hw:∀j,cs j≠0→Gr.walkB (cs j)=true:=fun j hj=>(Gn.walk_nz (hf.five j)).2 hj
 refine hf.hang (fun j=>0≤H j) ?_ b hb hcb ?_ i hi hci
 ·intro j e hj he hP hn hc
  exact (h.fwd j hj hP e he hn (by show Gr.openB cs 0 (fun _=>false) _=true;exact Gr.open_past (hw _ hc) (by omega))).1
 ·have:H b=0:=(h.zero b hb).2 ⟨hw b hcb,0,by omega,rfl⟩
  show 0≤H b
  omega

theorem Md.at_stand {c:Nat→Int} {E:Nat→Nat→Int} (hS:Ft.Stands c E) {k:Nat} (hk:k<32) (k0:E k 0≠0):Gr.walkB (Gr.at 384 c (E k 3) (E k 4))=true:=by
 obtain ⟨a1,a2,a3,a4,a5⟩:=hS.on k hk k0
 unfold Gr.at
 rw [if_pos ⟨(Gr.inB_iff _ _).2 (by omega),by omega⟩]
 exact a5


open Go.RowKit

theorem Md.fine_of {c:Nat→Int} {E I:Nat→Nat→Int} (hF:Ft.Fit c E I) (hS:Ft.Set c E):Md.Fine E:=fun k hk k0=>by
 obtain ⟨a,b,d,e,_⟩:=hS.stands.on k hk k0
 have ht:=(hF.rows k hk).taken k0
 exact ⟨a,b,d,e,by omega,by omega⟩

theorem Md.good_fit {c:Nat→Int} {E I:Nat→Nat→Int} (hF:Ft.Fit c E I) (hS:Ft.Set c E):Md.Good c E I :=
 Md.good_of (Md.fine_of hF hS) (fun k hk=>⟨⟨(hF.rows k hk).1,(hF.rows k hk).2.1⟩,fun k0=>by
  rcases (hF.rows k hk).2.2 with hz | ht
  ·exact ⟨hz 3 (by omega) (by omega),hz 4 (by omega) (by omega)⟩
  ·omega⟩) hF.ok


open Go.RowKit

namespace Gn

theorem nodup_inj {l:List Nat} (h:l.Nodup) {i j:Nat} (hi:i<l.length) (hj:j<l.length) (e:l[i]=l[j]):i=j:=by
 rcases Nat.lt_trichotomy i j with g | g | g
 ·exact absurd e (List.pairwise_iff_getElem.1 h i j hi hj g)
 ·exact g
 ·exact absurd e.symm (List.pairwise_iff_getElem.1 h j i hj hi g)

theorem erase_mem {l:List Nat} {n x:Nat} (hl:l.Nodup) (hn:n<l.length) (h:x∈l.eraseIdx n):x≠l[n]?.getD 0:=by
 intro e
 rw [List.getElem?_eq_getElem hn] at e
 obtain ⟨i,hi,hx⟩:=List.getElem_of_mem h
 have hle:(l.eraseIdx n).length=l.length - 1:=by rw [List.length_eraseIdx,if_pos hn]
 rw [List.getElem_eraseIdx] at hx
 rw [e] at hx
 simp only [Option.getD_some] at hx
 split at hx
 ·have:=nodup_inj hl _ _ hx
  omega
 ·have:=nodup_inj hl _ _ hx
  omega

theorem pick_lt {d:Dice} (hd:Fair d) (a:Int) {l:List Nat} (hl:l.length≠0):(d a 0 (l.length:Int)).toNat<l.length:=by
 have:=hd a 0 (l.length:Int) (by omega)
 omega

theorem pick_mem {l:List Nat} {n:Nat} (hn:n<l.length):l[n]?.getD 0∈l:=by
 rw [List.getElem?_eq_getElem hn]
 exact List.getElem_mem hn

theorem mons_all {d:Dice} (hd:Fair d) (f:Int) (h1:1≤f):∀(m k:Nat) (l:List Nat) (p:Int × Nat),p∈mons d f m k l→p.2∈l∧2≤p.1∧p.1≤4
 | 0,_,_,_,h=>by cases h
 | m+1,k,l,p,h=>by
  unfold mons at h
  split at h
  ·cases h
  ·rename_i hl
   have hn:=pick_lt hd (7+(k:Int)) hl
   rcases List.mem_cons.1 h with rfl | h
   ·refine ⟨pick_mem hn,?_⟩
    have hM:1≤(if 3<f+1 then (3:Int) else f+1)∧(if 3<f+1 then (3:Int) else f+1)≤3:=by split <;> omega
    have:=hd (16+(k:Int)) 1 (if 3<f+1 then 3 else f+1) hM.1
    show 2≤kind d f k∧kind d f k≤4
    unfold kind
    omega
   ·have ih:=mons_all hd f h1 m (k+1) _ p h
    exact ⟨List.mem_of_mem_eraseIdx ih.1,ih.2⟩

theorem those_nodupS (p:Nat→Bool) (n:Nat):(those p n).Nodup:=List.Nodup.sublist List.filter_sublist List.nodup_range

theorem those_mem {p:Nat→Bool} {n i:Nat} (h:i∈those p n):i<n∧p i=true:=by
 have:=List.mem_filter.1 h
 exact ⟨List.mem_range.1 this.1,this.2⟩

theorem ents_at {d:Dice} (hd:Fair d) {f:Int} (h1:1≤f) {c F:Nat→Int} {i:Nat} {p:Int × Nat} (h:(ents d f c F)[i]?=some p):2≤p.1∧p.1≤4∧p.2<384∧c p.2=1∧4≤F p.2:=by
 have hm:=List.mem_of_getElem? h
 obtain ⟨h2,h3,h4⟩:=mons_all hd f h1 _ _ _ p hm
 obtain ⟨h5,h6⟩:=List.mem_filter.1 h2
 obtain ⟨h7,h8⟩:=those_mem h5
 refine ⟨h3,h4,h7,by simpa using h8,?_⟩
 unfold afar at h6
 simp at h6
 exact h6

theorem pair_at {α:Type} {R:α→α→Prop} {l:List α} (h:l.Pairwise R) {i j:Nat} {p q:α} (hij:i<j) (hp:l[i]?=some p) (hq:l[j]?=some q):R p q:=by
 obtain ⟨h1,rfl⟩:=List.getElem?_eq_some_iff.1 hp
 obtain ⟨h2,rfl⟩:=List.getElem?_eq_some_iff.1 hq
 exact List.pairwise_iff_getElem.1 h i j h1 h2 hij

theorem lie_all {d:Dice} (hd:Fair d):∀(m k:Nat) (l:List Nat) (p:Itm),p∈lie d m k l→∃(K:Int) (cl:Nat),p=(K,1,(cl:Int) % 24,(cl:Int) / 24)∧cl∈l∧1≤K∧K≤4
 | 0,_,_,_,h=>by cases h
 | m+1,k,l,p,h=>by
  unfold lie at h
  split at h
  ·cases h
  ·rename_i hl
   have hn:=pick_lt hd (40+(k:Int)) hl
   rcases List.mem_cons.1 h with rfl | h
   ·have:=hd (40+(k:Int)) 1 4 (by omega)
    exact ⟨_,_,rfl,pick_mem hn,by omega,by omega⟩
   ·obtain ⟨K,cl,he,hc,hk⟩:=lie_all hd m (k+1) _ p h
    exact ⟨K,cl,he,List.mem_of_mem_eraseIdx hc,hk⟩

theorem lie_apart {d:Dice} (hd:Fair d):∀(m k:Nat) (l:List Nat),l.Nodup→(lie d m k l).Pairwise (fun p q=>¬(p.2.2.1=q.2.2.1∧p.2.2.2=q.2.2.2))
 | 0,_,_,_=>List.Pairwise.nil
 | m+1,k,l,hl=>by
  unfold lie
  split
  ·exact List.Pairwise.nil
  ·rename_i h0
   have hn:=pick_lt hd (40+(k:Int)) h0
   refine List.Pairwise.cons (fun q hq=>?_) (lie_apart hd m (k+1) _ (hl.sublist (List.eraseIdx_sublist l _)))
   obtain ⟨K,cl,rfl,hc,_⟩:=lie_all hd m (k+1) _ q hq
   have:=erase_mem hl hn hc
   rintro ⟨e1,e2⟩
   simp only at e1 e2
   omega

def lying (d:Dice) (c:Nat→Int):Nat:=(lie d 4 0 (those (fun i=>c i == 1) 384)).length

theorem items_lie {d:Dice} (hd:Fair d) {c:Nat→Int} {i:Nat} {p:Itm} (hi:i<lying d c) (h:(items d c)[i]?=some p):∃(K:Int) (cl:Nat),p=(K,1,(cl:Int) % 24,(cl:Int) / 24)∧cl<384∧c cl=1∧1≤K∧K≤4:=by
 unfold items at h
 rw [List.getElem?_append_left hi] at h
 obtain ⟨K,cl,he,hc,hk⟩:=lie_all hd _ _ _ p (List.mem_of_getElem? h)
 obtain ⟨h7,h8⟩:=those_mem hc
 exact ⟨K,cl,he,h7,by simpa using h8,hk⟩

theorem items_apart {d:Dice} (hd:Fair d) {c:Nat→Int} {i j:Nat} {p q:Itm} (hij:i<j) (hj:j<lying d c) (hp:(items d c)[i]?=some p) (hq:(items d c)[j]?=some q):¬(p.2.2.1=q.2.2.1∧p.2.2.2=q.2.2.2):=by
 unfold items at hp hq
 rw [List.getElem?_append_left (by unfold lying at hj;omega)] at hp
 rw [List.getElem?_append_left hj] at hq
 exact pair_at (lie_apart hd 4 0 _ (those_nodupS _ _)) hij hp hq

theorem items_len (d:Dice) (c:Nat→Int):(items d c).length=lying d c+(if Gr.find 384 c 5<0 then 0 else 3)∧lying d c≤4:=by
 unfold items lying
 rw [List.length_append]
 refine ⟨?_,lie_len d 4 0 _⟩
 split <;> rfl

theorem flat_at (es:List (Int × Nat)):∀(i j:Nat) (p:Int × Nat),es[i]?=some p→j<11→(flat es)[i*11+j]?=(entCells p)[j]?:=by
 induction es with
 | nil=>intro i j p h;simp at h
 | cons q es ih =>
  intro i j p h hj
  have hf:flat (q :: es)=entCells q ++ flat es:=rfl
  have hq:(entCells q).length=11:=rfl
  rw [hf]
  cases i with
  | zero =>
   simp only [List.getElem?_cons_zero,Option.some.injEq] at h
   rw [List.getElem?_append_left (by omega),h]
   congr 1
   omega
  | succ i =>
   rw [List.getElem?_cons_succ] at h
   rw [List.getElem?_append_right (by omega),hq,show (i+1)*11+j - 11=i*11+j by omega]
   exact ih i j p h hj

theorem flatI_at (es:List Itm):∀(i j:Nat) (p:Itm),es[i]?=some p→j<4→(flatI es)[i*4+j]?=(itemCells p)[j]?:=by
 induction es with
 | nil=>intro i j p h;simp at h
 | cons q es ih =>
  intro i j p h hj
  have hf:flatI (q :: es)=itemCells q ++ flatI es:=rfl
  have hq:(itemCells q).length=4:=rfl
  rw [hf]
  cases i with
  | zero =>
   simp only [List.getElem?_cons_zero,Option.some.injEq] at h
   rw [List.getElem?_append_left (by omega),h]
   congr 1
   omega
  | succ i =>
   rw [List.getElem?_cons_succ] at h
   rw [List.getElem?_append_right (by omega),hq,show (i+1)*4+j - 4=i*4+j by omega]
   exact ih i j p h hj

end Gn

theorem ents_cells {w:World} {b nE cE:Nat} {aE:Option Addr} {es:List (Int × Nat)} (h:w.ownsRow b 70 11 (.slice aE nE cE) nE (Gn.flat es)) {i:Nat} {p:Int × Nat} (hp:es[i]?=some p) (hi:i<nE) :
  ∃g,aE=some ⟨g,0,none⟩∧g<w.heap.size∧∀j,j<11→w.cell? ⟨g,i*11+j,none⟩=(Gn.entCells p)[j]?:=by
 rcases h.2 with ⟨h',h0⟩ | ⟨g,cap,cur,h',_,hg,_⟩
 ·omega
 ·simp only [Value.slice.injEq] at h'
  obtain ⟨rfl,_,rfl⟩:=h'
  refine ⟨g,rfl,lt_of_block hg,fun j hj=>?_⟩
  rw [h.cellAt (i*11+j) (by omega)]
  exact Gn.flat_at es i j p hp hj

theorem items_cells {w:World} {b nE cE:Nat} {aE:Option Addr} {es:List Gn.Itm} (h:w.ownsRow b 72 4 (.slice aE nE cE) nE (Gn.flatI es)) {i:Nat} {p:Gn.Itm} (hp:es[i]?=some p) (hi:i<nE) :
  ∃g,aE=some ⟨g,0,none⟩∧g<w.heap.size∧∀j,j<4→w.cell? ⟨g,i*4+j,none⟩=(Gn.itemCells p)[j]?:=by
 rcases h.2 with ⟨h',h0⟩ | ⟨g,cap,cur,h',_,hg,_⟩
 ·omega
 ·simp only [Value.slice.injEq] at h'
  obtain ⟨rfl,_,rfl⟩:=h'
  refine ⟨g,rfl,lt_of_block hg,fun j hj=>?_⟩
  rw [h.cellAt (i*4+j) (by omega)]
  exact Gn.flatI_at es i j p hp hj

end Go.Proofs.YtldgbkjceildfaaGreat
