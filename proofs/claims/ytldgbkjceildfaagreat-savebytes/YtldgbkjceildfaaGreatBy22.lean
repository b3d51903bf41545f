import Derived.Test.YtldgbkjceildfaaGreatBy21
import Derived.Test.YtldgbkjceildfaaGreatBy18
import Derived.Test.YtldgbkjceildfaaGreatBy20
namespace Go.Proofs.YtldgbkjceildfaaGreat
open Go.RowKit

structure Gd.Law (w x:World) (T gC gE gI cC cE cI:Nat) (s g c:Nat→Int) (E I:Nat→Nat→Int):Prop where
 hold:Gd.Hold x T gC gE gI cC cE cI s g c E I
 lT:w.heap.size≤T
 lE:w.heap.size≤gE
 lI:w.heap.size≤gI
 cap:32≤cE
 grown:w.grownBy x none

theorem Gd.Law.on {w x y:World} {T gC gE gI cC cE cI:Nat} {s g c:Nat→Int} {E I:Nat→Nat→Int} (h:Gd.Law w x T gC gE gI cC cE cI s g c E I) (hg:x.grownBy y none):Gd.Law w y T gC gE gI cC cE cI s g c E I :=
 { h with hold:=h.hold.on hg,grown:=gtr h.grown hg }

theorem Gd.law_new {w x x':World} {gC gE gI cC cE cI:Nat} {s g c:Nat→Int} {E I:Nat→Nat→Int} (hgx:w.grownBy x none) (hcap:32≤cE) (l1:x.heap.size≤gC) (l2:x.heap.size≤gE) (l3:x.heap.size≤gI) (n1:gC≠gE) (n2:gC≠gI) (n3:gE≠gI) (hL:Gd.Lists x' gC gE gI c E I) (hg:x.grownBy x' none) :
  Gd.Law w (x'.alloc (.cells (Gd.world s gC gE gI cC cE cI g) 30)) x'.heap.size gC gE gI cC cE cI s g c E I:=by
 have h1:=hL.cells.lt;have h2:=hL.ents.lt;have h3:=hL.items.lt;have h4:=hgx.size;have h5:=hg.size;have _:=l1;exact ⟨⟨(Arr.world (heap_alloc_new x' _)).lie,hL.on (World.grownBy_alloc _ _ _),by omega,by omega,by omega,n1,n2,n3⟩,by omega,by omega,by omega,hcap,gtr hgx (gal hg _)⟩

theorem Gd.Law.eleven {w x:World} {T gC gE gI cC cE cI:Nat} {s g c:Nat→Int} {E I:Nat→Nat→Int} (h:Gd.Law w x T gC gE gI cC cE cI s g c E I):x.cell? ⟨T,0,none⟩=some (.int .i64 (s 0))∧x.cell? ⟨T,1,none⟩=some (.int .i64 (s 1))∧x.cell? ⟨T,2,none⟩=some (.int .i64 (s 2))∧x.cell? ⟨T,3,none⟩=some (.int .i64 (s 3))∧x.cell? ⟨T,4,none⟩=some (.slice (some ⟨gC,0,none⟩) 384 cC)∧x.cell? ⟨T,5,none⟩=some (.slice (some ⟨gE,0,none⟩) 32 cE)∧x.cell? ⟨T,6,none⟩=some (.slice (some ⟨gI,0,none⟩) 40 cI)∧x.cell? ⟨T,7,none⟩=some (.int .i64 (g 0))∧x.cell? ⟨T,8,none⟩=some (.int .i64 (g 1))∧x.cell? ⟨T,9,none⟩=some (.int .i64 (g 2))∧x.cell? ⟨T,10,none⟩=some (.int .i64 (g 3)) :=
 h.hold.box.eleven


open Go.RowKit

theorem Gd.Law.over {w x x':World} {T gC gE gI cC cE cI jC jE jI dC dE dI:Nat} {s g c s' g' c':Nat→Int} {E I F J:Nat→Nat→Int} (h:Gd.Law w x T gC gE gI cC cE cI s g c E I) (hcap:32≤dE) (l1:x.heap.size≤jC) (l2:x.heap.size≤jE) (l3:x.heap.size≤jI) (n1:jC≠jE) (n2:jC≠jI) (n3:jE≠jI) (hL:Gd.Lists x' jC jE jI c' F J) (hg:x.grownBy x' none) :
  Gd.Law w (x'.setCells T 0 (Gd.world s' jC jE jI dC dE dI g').toList) T jC jE jI dC dE dI s' g' c' F J:=by
 have h1:=h.hold.box.lt;have h2:=h.grown.size;have r:=gss (g:=T) (Gd.world s' jC jE jI dC dE dI g').toList 0 x' (World.grownBy.refl _ _);exact ⟨⟨(h.hold.box.on hg).whole s' g' jC jE jI dC dE dI,⟨hL.cells.grown r (by simp;omega),hL.ents.grown r (by simp;omega),hL.items.grown r (by simp;omega)⟩,by omega,by omega,by omega,n1,n2,n3⟩,h.lT,by omega,by omega,hcap,own_sets h.lT _ 0 x' (gtr h.grown hg)⟩


open Go.RowKit

theorem Gd.set_same (E:Nat→Nat→Int) (k j:Nat) (v:Int):Gd.set E k j v k j=v:=if_pos ⟨rfl,rfl⟩

theorem Gd.set_other {E:Nat→Nat→Int} {k j i l:Nat} {v:Int} (h:¬(i=k∧l=j)):Gd.set E k j v i l=E i l:=if_neg h


open Go.RowKit

namespace Ft

def there (E:Nat→Nat→Int) (row:Int):Bool:=decide (0≤row∧row<32) && decide (E row.toNat 0≠0)

theorem there_at {E:Nat→Nat→Int} {k:Nat} (hk:k<32):there E (k:Int)=decide (E k 0≠0):=by
 unfold there;rw [Int.toNat_natCast,decide_eq_true (by omega)];rfl

theorem there_pos {E:Nat→Nat→Int} {row:Int} (h:there E row=true):∃k:Nat,k<32∧row=(k:Int)∧E k 0≠0:=by
 unfold there at h;simp only [Bool.and_eq_true,decide_eq_true_eq] at h;exact ⟨row.toNat,by omega,by omega,h.2⟩

def hurtE (E:Nat→Nat→Int) (k:Nat) (n:Int):Nat→Nat→Int:=if n<E k 5 then Gd.set E k 5 (E k 5 - n) else En.put E k (En.hole (E k 1))

def hurtI (E I:Nat→Nat→Int) (k:Nat) (n:Int):Nat→Nat→Int:=if n<E k 5 then I else if E k 0=1 then Gd.sweep I (E k 2) else I

def hE (E:Nat→Nat→Int) (row n:Int):Nat→Nat→Int:=if there E row=true∧1≤n then hurtE E row.toNat n else E

def hI (E I:Nat→Nat→Int) (row n:Int):Nat→Nat→Int:=if there E row=true∧1≤n then hurtI E I row.toNat n else I

def arm (E I:Nat→Nat→Int) (k:Nat):Int:=E k 7+if E k 0=1 then Gd.three (Gd.wornK I (E k 2) 2 40) else 0

def guard (E I:Nat→Nat→Int) (k:Nat):Int:=E k 8+if E k 0=1 then Gd.two (Gd.wornK I (E k 2) 3 40) else 0

def force (s:Nat→Int) (E I:Nat→Nat→Int) (f t:Nat):Int:=max 1 (arm E I f - guard E I t)+Dc.die 3 (s 0) [s 1,(f:Int),(t:Int),77]

def leaveE (s:Nat→Int) (E:Nat→Nat→Int) (f t:Nat):Nat→Nat→Int :=
 if E f 0=4 then Gd.set E t 9 (min (E t 9+3) 9)
 else if E f 0=3∧Dc.die 4 (s 0) [s 1,(f:Int),(t:Int),78]=0 then Gd.set E t 10 (min (E t 10+2) 9) else E

def blowE (s:Nat→Int) (E I:Nat→Nat→Int) (f t:Nat):Nat→Nat→Int :=
 if hurtE E t (force s E I f t) t 0≠0 then leaveE s (hurtE E t (force s E I f t)) f t else hurtE E t (force s E I f t)

def blowI (s:Nat→Int) (E I:Nat→Nat→Int) (f t:Nat):Nat→Nat→Int:=hurtI E I t (force s E I f t)

def hitE (s:Nat→Int) (E I:Nat→Nat→Int) (f t:Int):Nat→Nat→Int:=if there E f=true∧there E t=true then blowE s E I f.toNat t.toNat else E

def hitI (s:Nat→Int) (E I:Nat→Nat→Int) (f t:Int):Nat→Nat→Int:=if there E f=true∧there E t=true then blowI s E I f.toNat t.toNat else I

def stunE (E:Nat→Nat→Int) (k:Nat):Nat→Nat→Int:=if 0<E k 10 then Gd.set E k 10 (E k 10 - 1) else E

def poisE (E:Nat→Nat→Int) (k:Nat):Nat→Nat→Int:=Gd.set E k 9 (E k 9 - 1)

def oneE (E:Nat→Nat→Int) (k:Nat):Nat→Nat→Int:=if 0<E k 9 then hurtE (poisE (stunE E k) k) k 1 else stunE E k

def oneI (E I:Nat→Nat→Int) (k:Nat):Nat→Nat→Int:=if 0<E k 9 then hurtI (poisE (stunE E k) k) I k 1 else I

def ailE (E I:Nat→Nat→Int):Nat→(Nat→Nat→Int) × (Nat→Nat→Int)
 | 0=>(E,I)
 | m+1=>if (ailE E I m).1 m 0≠0 then (oneE (ailE E I m).1 m,oneI (ailE E I m).1 (ailE E I m).2 m) else ailE E I m

def Row (e:Nat→Int):Prop:=0≤e 1∧e 1≤255 ∧
 ((∀j,j<11→j≠1→e j=0)∨(1≤e 0∧e 0≤4∧1≤e 5∧e 5≤e 6∧e 6≤20∧0≤e 7∧e 7≤5∧0≤e 8∧e 8≤1∧0≤e 9∧e 9≤9∧0≤e 10∧e 10≤9))

structure Fit (c:Nat→Int) (E I:Nat→Nat→Int):Prop where
 cells:∀i,0≤c i∧c i≤255
 ok:Gd.Ok c 40 I
 rows:∀k,k<32→Row (E k)

theorem Row.taken {e:Nat→Int} (h:Row e) (h0:e 0≠0):1≤e 0∧e 0≤4∧1≤e 5∧e 5≤e 6∧e 6≤20∧0≤e 7∧e 7≤5∧0≤e 8∧e 8≤1∧0≤e 9∧e 9≤9∧0≤e 10∧e 10≤9:=by
 rcases h.2.2 with hz|ht
 ·exact absurd (hz 0 (by omega) (by omega)) h0
 ·exact ht

theorem row_hole {g:Int} (h0:0≤g) (h9:g≤255):Row (En.hole g) :=
 ⟨h0,h9,.inl fun _ _ hj=>if_neg hj⟩

theorem set_row (E:Nat→Nat→Int) (k j:Nat) (v:Int) (i:Nat) (h:i≠k):Gd.set E k j v i=E i:=by
 funext l;exact Gd.set_other (by omega)

theorem Fit.put {c:Nat→Int} {E I:Nat→Nat→Int} (h:Fit c E I) {k:Nat} {e:Nat→Int} (he:Row e):Fit c (En.put E k e) I :=
 ⟨h.cells,h.ok,fun i hi=>by
  by_cases x:i=k
  ·rw [x,En.put_same];exact he
  ·rw [En.put_other x];exact h.rows i hi⟩

theorem Fit.set {c:Nat→Int} {E I:Nat→Nat→Int} (h:Fit c E I) {k j:Nat} {v:Int} (he:Row (Gd.set E k j v k)):Fit c (Gd.set E k j v) I :=
 ⟨h.cells,h.ok,fun i hi=>by
  by_cases x:i=k
  ·rw [x];exact he
  ·rw [set_row E k j v i x];exact h.rows i hi⟩

theorem Fit.hurt {c:Nat→Int} {E I:Nat→Nat→Int} (h:Fit c E I) {k:Nat} (hk:k<32) (h0:E k 0≠0) {n:Int} (hn:1≤n):Fit c (hurtE E k n) (hurtI E I k n):=by
 have hr:=h.rows k hk;have ht:=hr.taken h0;unfold hurtE hurtI;by_cases hlt:n<E k 5
 ·rw [if_pos hlt,if_pos hlt];refine h.set ⟨?_,?_,.inr ?_⟩
  ·rw [Gd.set_other (by omega)];exact hr.1
  ·rw [Gd.set_other (by omega)];exact hr.2.1
  ·rw [Gd.set_same,Gd.set_other (show ¬(k=k∧0=5) by omega),Gd.set_other (show ¬(k=k∧6=5) by omega),Gd.set_other (show ¬(k=k∧7=5) by omega),Gd.set_other (show ¬(k=k∧8=5) by omega),Gd.set_other (show ¬(k=k∧9=5) by omega),Gd.set_other (show ¬(k=k∧10=5) by omega)];omega
 ·rw [if_neg hlt,if_neg hlt];have hp:=h.put (k:=k) (row_hole hr.1 hr.2.1);by_cases h1:E k 0=1
  ·rw [if_pos h1];exact { hp with ok:=h.ok.sweep _ }
  ·rw [if_neg h1];exact hp

theorem hurt_other (E:Nat→Nat→Int) {k i:Nat} (n:Int) (h:i≠k):hurtE E k n i=E i:=by
 unfold hurtE;split
 ·exact set_row E k 5 _ i h
 ·exact En.put_other h

theorem hurt_left {E:Nat→Nat→Int} {k:Nat} {n:Int} (h0:E k 0≠0):hurtE E k n k 0≠0↔n<E k 5:=by
 unfold hurtE;by_cases hlt:n<E k 5
 ·rw [if_pos hlt,Gd.set_other (by omega)];exact ⟨fun _=>hlt,fun _=>h0⟩
 ·rw [if_neg hlt,En.put_same];exact ⟨fun h=>absurd rfl h,fun h=>absurd h hlt⟩

theorem Fit.stat {c:Nat→Int} {E I:Nat→Nat→Int} (h:Fit c E I) {k j:Nat} (hk:k<32) (h0:E k 0≠0) (hj:j=9∨j=10) {v:Int} (v0:0≤v) (v9:v≤9):Fit c (Gd.set E k j v) I:=by
 have hr:=h.rows k hk;have ht:=hr.taken h0;have e:∀l,l≠j→Gd.set E k j v k l=E k l:=fun l hl=>Gd.set_other (by omega);refine h.set ⟨?_,?_,.inr ?_⟩
 ·rw [e 1 (by omega)];exact hr.1
 ·rw [e 1 (by omega)];exact hr.2.1
 ·rw [e 0 (by omega),e 5 (by omega),e 6 (by omega),e 7 (by omega),e 8 (by omega)];rcases hj with rfl|rfl
  ·rw [Gd.set_same,e 10 (by omega)];omega
  ·rw [Gd.set_same,e 9 (by omega)];omega

theorem Fit.leave {c:Nat→Int} {E I:Nat→Nat→Int} (h:Fit c E I) {t:Nat} (ht:t<32) (h0:E t 0≠0) (s:Nat→Int) (f:Nat):Fit c (leaveE s E f t) I:=by
 have hx:=(h.rows t ht).taken h0;unfold leaveE;split
 ·exact h.stat ht h0 (.inl rfl) (by omega) (by omega)
 ·split
  ·exact h.stat ht h0 (.inr rfl) (by omega) (by omega)
  ·exact h

theorem force_pos (s:Nat→Int) (E I:Nat→Nat→Int) (f t:Nat):1≤force s E I f t:=by
 unfold force;have:=(Dc.die_bd 3 (s 0) [s 1,(f:Int),(t:Int),77] (by omega)).1;omega

theorem Fit.hit {c:Nat→Int} {E I:Nat→Nat→Int} (h:Fit c E I) (s:Nat→Int) (f t:Int):Fit c (hitE s E I f t) (hitI s E I f t):=by
 unfold hitE hitI;by_cases hc:there E f=true∧there E t=true
 ·rw [if_pos hc,if_pos hc];obtain ⟨k,hk,rfl,hk0⟩:=there_pos hc.2;rw [Int.toNat_natCast];have hh:=h.hurt hk hk0 (force_pos s E I f.toNat k);unfold blowE blowI;split
  ·rename_i h0;exact hh.leave hk h0 s f.toNat
  ·exact hh
 ·rw [if_neg hc,if_neg hc];exact h

theorem stun_other (E:Nat→Nat→Int) (k l:Nat) (hl:l≠10):stunE E k k l=E k l:=by
 unfold stunE;split
 ·exact Gd.set_other (by omega)
 ·rfl

theorem Fit.stun {c:Nat→Int} {E I:Nat→Nat→Int} (h:Fit c E I) {k:Nat} (hk:k<32) (h0:E k 0≠0):Fit c (stunE E k) I:=by
 have ht:=(h.rows k hk).taken h0;unfold stunE;split
 ·exact h.stat hk h0 (.inr rfl) (by omega) (by omega)
 ·exact h

theorem Fit.one {c:Nat→Int} {E I:Nat→Nat→Int} (h:Fit c E I) {k:Nat} (hk:k<32) (h0:E k 0≠0):Fit c (oneE E k) (oneI E I k):=by
 have ht:=(h.rows k hk).taken h0;have hs:=h.stun hk h0;unfold oneE oneI;split
 ·have h0':stunE E k k 0≠0:=by rw [stun_other E k 0 (by omega)];exact h0
  have hp:Fit c (poisE (stunE E k) k) I:=hs.stat hk h0' (.inl rfl) (by rw [stun_other E k 9 (by omega)];omega) (by rw [stun_other E k 9 (by omega)];omega);exact hp.hurt hk (by unfold poisE;rw [Gd.set_other (by omega)];exact h0') (by omega)
 ·exact hs

theorem Fit.ail {c:Nat→Int} {E I:Nat→Nat→Int} (h:Fit c E I):∀m,m≤32→Fit c (ailE E I m).1 (ailE E I m).2
 | 0,_=>h
 | m+1,hm=>by
  have ih:=h.ail m (by omega);unfold ailE;split
  ·rename_i h0;exact ih.one (by omega) h0
  ·exact ih

end Ft

end Go.Proofs.YtldgbkjceildfaaGreat
