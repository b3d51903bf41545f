/-
  MindsMath MindsRobot MindsSeen MindsWide MindsGood GenStock GoodsRefBox MindsPlace
-/
import Derived.Test.YtbanjoflgoiegaaGreatPart27
import Derived.Test.YtbanjoflgoiegaaGreatPart22
import Derived.BigQuiet
import Derived.Test.YtbanjoflgoiegaaGreatPart25
import Derived.Test.YtbanjoflgoiegaaGreatPart24
import Derived.Test.YtbanjoflgoiegaaGreatPart16
import Derived.Deep.Cut
import Derived.Deep.CutRange
import Derived.Deep.CutBlock
import Derived.Deep.RegionHeld3
import Derived.Test.YtbanjoflgoiegaaGreatPart04
import Derived.Test.YtbanjoflgoiegaaGreatPart31
import Derived.Test.YtbanjoflgoiegaaGreatPart15
import Derived.Test.YtbanjoflgoiegaaGreatPart19
import Derived.Laws.BytesArg
import Derived.ChangeKeysEq
import Derived.Test.YtbanjoflgoiegaaGreatPart21
import Derived.Test.YtbanjoflgoiegaaGreatPart11
namespace Go.Proofs.YtbanjoflgoiegaaGreat
open Go.RowKit

def Md.Fine (E:Nat→Nat→Int):Prop:=∀k,k<32→E k 0≠0→0≤E k 3∧E k 3<24∧0≤E k 4∧E k 4<16∧0≤E k 6∧E k 6≤20

def Md.who (E:Nat→Nat→Int) (x y:Int) (d:Nat):Int:=En.first (En.atQ E (x+(Fx.way (d:Int)).1) (y+(Fx.way (d:Int)).2)) 32

def Md.foe (E:Nat→Nat→Int) (x y:Int) (d:Nat):Bool:=decide (0≤Md.who E x y d) && !(decide (E (Md.who E x y d).toNat 0=1))

def Md.robotAt (c:Nat→Int) (E I:Nat→Nat→Int) (seat:Int) (k:Nat) (v:Int):Prop :=
 if E k 5≤E k 6 / 3∧0≤Gd.has I 40 seat 1 1 then v=6
 else if Nv.wayFrom (Md.foe E (E k 3) (E k 4)) 4 1≠0 then v=Nv.wayFrom (Md.foe E (E k 3) (E k 4)) 4 1
 else if 0≤Gd.find I 40 1 (E k 3) (E k 4)∧(I (Gd.find I 40 1 (E k 3) (E k 4)).toNat 0=4∨0≤Gd.slot I 40 seat) then v=5
 else if Gr.at 384 c (E k 3) (E k 4)=4 then v=9
 else Nv.IsToward c (fun _=>Gr.find 384 c 4) 1 E 32 (E k 3) (E k 4) v

def Md.IsRobot (c:Nat→Int) (E I:Nat→Nat→Int) (seat v:Int):Prop :=
 if Gd.hero E seat<0 then v=0 else Md.robotAt c E I seat (Gd.hero E seat).toNat v

theorem Md.hero_row {E:Nat→Nat→Int} {seat:Int} (h:¬Gd.hero E seat<0):∃k:Nat,k<32∧Gd.hero E seat=(k:Int)∧E k 0=1∧E k 2=seat:=by
 unfold Gd.hero at h ⊢
 rcases En.first_cases (En.heroQ E seat) 32 with ⟨he,_⟩ | ⟨k,hk,he,hq,_⟩
 ·omega
 ·simp only [En.heroQ,Bool.and_eq_true,decide_eq_true_eq] at hq
  exact ⟨k,hk,he,hq.1,hq.2⟩

theorem Md.who_row {E:Nat→Nat→Int} {x y:Int} {d:Nat}:Md.who E x y d=-1∨∃j:Nat,j<32∧Md.who E x y d=(j:Int):=by
 unfold Md.who
 rcases En.first_cases (En.atQ E (x+(Fx.way (d:Int)).1) (y+(Fx.way (d:Int)).2)) 32 with ⟨he,_⟩ | ⟨j,hj,he,_⟩
 ·exact .inl he
 ·exact .inr ⟨j,hj,he⟩

theorem Md.way_small (d:Nat):-1≤(Fx.way (d:Int)).1∧(Fx.way (d:Int)).1≤1∧-1≤(Fx.way (d:Int)).2∧(Fx.way (d:Int)).2≤1:=by
 unfold Fx.way
 split
 ·simp
 ·split
  ·simp
  ·split
   ·simp
   ·split <;> simp


open Go.RowKit

theorem Lie.copied (x:World) (e:Nat→Int) (T:TypeId):Lie (x.alloc (.cells (En.cells e) T)) x.heap.size T 11 (Ints e) :=
 Lie.congr (m:=11) (Arr.lit (heap_alloc_new x (.cells (En.cells e) T))).lie fun j hj=>by
  rcases (show j=0∨j=1∨j=2∨j=3∨j=4∨j=5∨j=6∨j=7∨j=8∨j=9∨j=10 by omega) with rfl | rfl | rfl | rfl | rfl | rfl | rfl | rfl | rfl | rfl | rfl <;> rfl

structure Gd.Shown (w x:World) (B gC gE gI cC cE cI:Nat) (s g c:Nat→Int) (E I:Nat→Nat→Int):Prop where
 box:Lie x B 30 11 (Gd.box s gC gE gI cC cE cI g)
 lists:Gd.Lists x gC gE gI c E I
 grown:w.grownBy x none

theorem Gd.Shown.on {w x y:World} {B gC gE gI cC cE cI:Nat} {s g c:Nat→Int} {E I:Nat→Nat→Int} (h:Gd.Shown w x B gC gE gI cC cE cI s g c E I) (hg:x.grownBy y none):Gd.Shown w y B gC gE gI cC cE cI s g c E I :=
 ⟨h.box.on hg,h.lists.on hg,gtr h.grown hg⟩

def Md.Says (w:World) (p:Int→Prop) (e:Ending) (w':World):Prop:=∃v,p v∧e=.returned (.int .i64 v)∧w.grownBy w' none

theorem Md.find_bd (f:Nat→Int) (kind:Int):∀(n k:Nat),-1≤Gr.findFrom f kind n k∧Gr.findFrom f kind n k≤(k:Int)+n
 | 0,k=>by unfold Gr.findFrom;omega
 | n+1,k=>by
  unfold Gr.findFrom
  have:=Md.find_bd f kind n (k+1)
  split <;> omega


open Go.RowKit

def Md.Takes (c:Nat→Int) (x y hx hy r b a:Int):Prop:=r≤1536∧Gr.Sees 384 c x y hx hy∧(a<0∨r<b)

def Md.Seen (c:Nat→Int) (E:Nat→Nat→Int) (x y:Int):Nat→Int→Int→Prop
  | 0,b,a=>b=0∧a=-1
  | t + 1, b, a => ∃ b0 a0, Md.Seen c E x y t b0 a0 ∧
      ((Gd.hero E (t : Int) < 0 ∧ b = b0 ∧ a = a0) ∨
       ∃ (h : Nat) (r : Int), Gd.hero E (t : Int) = (h : Int) ∧ Fx.isRoot (((E h 3 - x) * (E h 3 - x) + (E h 4 - y) * (E h 4 - y)) * 65536) r ∧
         ((Md.Takes c x y (E h 3) (E h 4) r b0 a0∧b=r∧a=(h:Int))∨(¬Md.Takes c x y (E h 3) (E h 4) r b0 a0∧b=b0∧a=a0)))

def Md.stray (s c:Nat→Int) (E:Nat→Nat→Int) (k:Nat):Int :=
 if (1≤Dc.die 8 (s 0) [s 1,(k:Int),90]∧Dc.die 8 (s 0) [s 1,(k:Int),90]≤4)∧Gr.walkB (Gr.at 384 c (E k 3+(Fx.way (Dc.die 8 (s 0) [s 1,(k:Int),90])).1) (E k 4+(Fx.way (Dc.die 8 (s 0) [s 1,(k:Int),90])).2))=true∧En.first (En.atQ E (E k 3+(Fx.way (Dc.die 8 (s 0) [s 1,(k:Int),90])).1) (E k 4+(Fx.way (Dc.die 8 (s 0) [s 1,(k:Int),90])).2)) 32<0
 then Dc.die 8 (s 0) [s 1,(k:Int),90] else 0

def Md.monsterAt (s c:Nat→Int) (E:Nat→Nat→Int) (k:Nat) (v:Int):Prop :=
  ∃b a,Md.Seen c E (E k 3) (E k 4) 4 b a ∧
    ((a < 0 ∧ v = Md.stray s c E k) ∨
     ∃ h : Nat, a = (h : Int) ∧
       if 0 < Nv.beside (E h 3 - E k 3) (E h 4 - E k 4) then v = Nv.beside (E h 3 - E k 3) (E h 4 - E k 4)
       else Nv.IsToward c (fun _=>E h 4*24+E h 3) 1 E 32 (E k 3) (E k 4) v)

def Md.IsMonster (s c:Nat→Int) (E:Nat→Nat→Int) (row v:Int):Prop :=
 if (row<0∨32≤row)∨E row.toNat 0=0∨E row.toNat 0=1 then v=0 else Md.monsterAt s c E row.toNat v


open Go.RowKit

theorem Md.snug_cap {s:Nat→Int} {gC gE gI cC cE cI:Nat} {g:Nat→Int} (h:Gd.Snug (.returned (.agg (Gd.world s gC gE gI cC cE cI g)))):384≤cC:=by
 obtain ⟨s',gC',gE',gI',g',he⟩:=h
 simp [Gd.world] at he
 omega


open Go.RowKit

structure Md.Good (c:Nat→Int) (E I:Nat→Nat→Int):Prop where
 fine:Md.Fine E
 gens:En.Gens 32 E
 words:Nv.Words 32 E
 ok:Gd.Ok c 40 I

theorem Md.good_of {c:Nat→Int} {E I:Nat→Nat→Int} (hE:Md.Fine E) (hz:∀k,k<32→(0≤E k 1∧E k 1≤255)∧(E k 0=0→E k 3=0∧E k 4=0)) (hok:Gd.Ok c 40 I):Md.Good c E I :=
 ⟨hE,fun k hk=>(hz k hk).1,fun k hk=>by
  by_cases k0:E k 0=0
  ·have:=(hz k hk).2 k0
   omega
  ·have:=hE k hk k0
   omega,hok⟩


open Go.RowKit

namespace Gn

theorem nodup_inj {l:List Nat} (h:l.Nodup) {i j:Nat} (hi:i<l.length) (hj:j<l.length) (e:l[i]=l[j]):i=j:=by
 rcases Nat.lt_trichotomy i j with g | g | g
 ·exact absurd e (List.pairwise_iff_getElem.1 h i j hi hj g)
 ·exact g
 ·exact absurd e.symm (List.pairwise_iff_getElem.1 h j i hj hi g)

theorem erase_mem {l:List Nat} {n x:Nat} (hl:l.Nodup) (hn:n<l.length) (h:x∈l.eraseIdx n):x≠l[n]?.getD 0:=by
 intro e
 rw [List.getElem?_eq_getElem hn] at e
 obtain ⟨i,hi,hx⟩:=List.getElem_of_mem h
 have hle:(l.eraseIdx n).length=l.length - 1:=by rw [List.length_eraseIdx,if_pos hn]
 rw [List.getElem_eraseIdx] at hx
 rw [e] at hx
 simp only [Option.getD_some] at hx
 split at hx
 ·have:=nodup_inj hl _ _ hx
  omega
 ·have:=nodup_inj hl _ _ hx
  omega

theorem pick_lt {d:Dice} (hd:Fair d) (a:Int) {l:List Nat} (hl:l.length≠0):(d a 0 (l.length:Int)).toNat<l.length:=by
 have:=hd a 0 (l.length:Int) (by omega)
 omega

theorem pick_mem {l:List Nat} {n:Nat} (hn:n<l.length):l[n]?.getD 0∈l:=by
 rw [List.getElem?_eq_getElem hn]
 exact List.getElem_mem hn

theorem mons_all {d:Dice} (hd:Fair d) (f:Int) (h1:1≤f):∀(m k:Nat) (l:List Nat) (p:Int × Nat),p∈mons d f m k l→p.2∈l∧2≤p.1∧p.1≤4
 | 0,_,_,_,h=>by cases h
 | m+1,k,l,p,h=>by
  unfold mons at h
  split at h
  ·cases h
  ·rename_i hl
   have hn:=pick_lt hd (7+(k:Int)) hl
   rcases List.mem_cons.1 h with rfl | h
   ·refine ⟨pick_mem hn,?_⟩
    have hM:1≤(if 3<f+1 then (3:Int) else f+1)∧(if 3<f+1 then (3:Int) else f+1)≤3:=by split <;> omega
    have:=hd (16+(k:Int)) 1 (if 3<f+1 then 3 else f+1) hM.1
    show 2≤kind d f k∧kind d f k≤4
    unfold kind
    omega
   ·have ih:=mons_all hd f h1 m (k+1) _ p h
    exact ⟨List.mem_of_mem_eraseIdx ih.1,ih.2⟩

theorem mons_apart {d:Dice} (hd:Fair d) (f:Int) (h1:1≤f):∀(m k:Nat) (l:List Nat),l.Nodup→(mons d f m k l).Pairwise (fun p q=>p.2≠q.2)
 | 0,_,_,_=>List.Pairwise.nil
 | m+1,k,l,hl=>by
  unfold mons
  split
  ·exact List.Pairwise.nil
  ·rename_i h0
   have hn:=pick_lt hd (7+(k:Int)) h0
   refine List.Pairwise.cons (fun q hq=>?_) (mons_apart hd f h1 m (k+1) _ (hl.sublist (List.eraseIdx_sublist l _)))
   have:=(mons_all hd f h1 m (k+1) _ q hq).1
   exact (erase_mem hl hn this).symm

theorem those_nodupS (p:Nat→Bool) (n:Nat):(those p n).Nodup:=List.Nodup.sublist List.filter_sublist List.nodup_range

theorem those_mem {p:Nat→Bool} {n i:Nat} (h:i∈those p n):i<n∧p i=true:=by
 have:=List.mem_filter.1 h
 exact ⟨List.mem_range.1 this.1,this.2⟩

theorem ents_at {d:Dice} (hd:Fair d) {f:Int} (h1:1≤f) {c F:Nat→Int} {i:Nat} {p:Int × Nat} (h:(ents d f c F)[i]?=some p):2≤p.1∧p.1≤4∧p.2<384∧c p.2=1∧4≤F p.2:=by
 have hm:=List.mem_of_getElem? h
 obtain ⟨h2,h3,h4⟩:=mons_all hd f h1 _ _ _ p hm
 obtain ⟨h5,h6⟩:=List.mem_filter.1 h2
 obtain ⟨h7,h8⟩:=those_mem h5
 refine ⟨h3,h4,h7,by simpa using h8,?_⟩
 unfold afar at h6
 simp at h6
 exact h6

theorem pair_at {α:Type} {R:α→α→Prop} {l:List α} (h:l.Pairwise R) {i j:Nat} {p q:α} (hij:i<j) (hp:l[i]?=some p) (hq:l[j]?=some q):R p q:=by
 obtain ⟨h1,rfl⟩:=List.getElem?_eq_some_iff.1 hp
 obtain ⟨h2,rfl⟩:=List.getElem?_eq_some_iff.1 hq
 exact List.pairwise_iff_getElem.1 h i j h1 h2 hij

theorem lie_all {d:Dice} (hd:Fair d):∀(m k:Nat) (l:List Nat) (p:Itm),p∈lie d m k l→∃(K:Int) (cl:Nat),p=(K,1,(cl:Int) % 24,(cl:Int) / 24)∧cl∈l∧1≤K∧K≤4
 | 0,_,_,_,h=>by cases h
 | m+1,k,l,p,h=>by
  unfold lie at h
  split at h
  ·cases h
  ·rename_i hl
   have hn:=pick_lt hd (40+(k:Int)) hl
   rcases List.mem_cons.1 h with rfl | h
   ·have:=hd (40+(k:Int)) 1 4 (by omega)
    exact ⟨_,_,rfl,pick_mem hn,by omega,by omega⟩
   ·obtain ⟨K,cl,he,hc,hk⟩:=lie_all hd m (k+1) _ p h
    exact ⟨K,cl,he,List.mem_of_mem_eraseIdx hc,hk⟩

theorem lie_apart {d:Dice} (hd:Fair d):∀(m k:Nat) (l:List Nat),l.Nodup→(lie d m k l).Pairwise (fun p q=>¬(p.2.2.1=q.2.2.1∧p.2.2.2=q.2.2.2))
 | 0,_,_,_=>List.Pairwise.nil
 | m+1,k,l,hl=>by
  unfold lie
  split
  ·exact List.Pairwise.nil
  ·rename_i h0
   have hn:=pick_lt hd (40+(k:Int)) h0
   refine List.Pairwise.cons (fun q hq=>?_) (lie_apart hd m (k+1) _ (hl.sublist (List.eraseIdx_sublist l _)))
   obtain ⟨K,cl,rfl,hc,_⟩:=lie_all hd m (k+1) _ q hq
   have:=erase_mem hl hn hc
   rintro ⟨e1,e2⟩
   simp only at e1 e2
   omega

def lying (d:Dice) (c:Nat→Int):Nat:=(lie d 4 0 (those (fun i=>c i == 1) 384)).length

theorem items_lie {d:Dice} (hd:Fair d) {c:Nat→Int} {i:Nat} {p:Itm} (hi:i<lying d c) (h:(items d c)[i]?=some p):∃(K:Int) (cl:Nat),p=(K,1,(cl:Int) % 24,(cl:Int) / 24)∧cl<384∧c cl=1∧1≤K∧K≤4:=by
 unfold items at h
 rw [List.getElem?_append_left hi] at h
 obtain ⟨K,cl,he,hc,hk⟩:=lie_all hd _ _ _ p (List.mem_of_getElem? h)
 obtain ⟨h7,h8⟩:=those_mem hc
 exact ⟨K,cl,he,h7,by simpa using h8,hk⟩

theorem items_apart {d:Dice} (hd:Fair d) {c:Nat→Int} {i j:Nat} {p q:Itm} (hij:i<j) (hj:j<lying d c) (hp:(items d c)[i]?=some p) (hq:(items d c)[j]?=some q):¬(p.2.2.1=q.2.2.1∧p.2.2.2=q.2.2.2):=by
 unfold items at hp hq
 rw [List.getElem?_append_left (by unfold lying at hj;omega)] at hp
 rw [List.getElem?_append_left hj] at hq
 exact pair_at (lie_apart hd 4 0 _ (those_nodupS _ _)) hij hp hq

theorem items_len (d:Dice) (c:Nat→Int):(items d c).length=lying d c+(if Gr.find 384 c 5<0 then 0 else 3)∧lying d c≤4:=by
 unfold items lying
 rw [List.length_append]
 refine ⟨?_,lie_len d 4 0 _⟩
 split <;> rfl

theorem flat_at (es:List (Int × Nat)):∀(i j:Nat) (p:Int × Nat),es[i]?=some p→j<11→(flat es)[i*11+j]?=(entCells p)[j]?:=by
 induction es with
 | nil=>intro i j p h;simp at h
 | cons q es ih =>
  intro i j p h hj
  have hf:flat (q :: es)=entCells q ++ flat es:=rfl
  have hq:(entCells q).length=11:=rfl
  rw [hf]
  cases i with
  | zero =>
   simp only [List.getElem?_cons_zero,Option.some.injEq] at h
   rw [List.getElem?_append_left (by omega),h]
   congr 1
   omega
  | succ i =>
   rw [List.getElem?_cons_succ] at h
   rw [List.getElem?_append_right (by omega),hq,show (i+1)*11+j - 11=i*11+j by omega]
   exact ih i j p h hj

theorem flatI_at (es:List Itm):∀(i j:Nat) (p:Itm),es[i]?=some p→j<4→(flatI es)[i*4+j]?=(itemCells p)[j]?:=by
 induction es with
 | nil=>intro i j p h;simp at h
 | cons q es ih =>
  intro i j p h hj
  have hf:flatI (q :: es)=itemCells q ++ flatI es:=rfl
  have hq:(itemCells q).length=4:=rfl
  rw [hf]
  cases i with
  | zero =>
   simp only [List.getElem?_cons_zero,Option.some.injEq] at h
   rw [List.getElem?_append_left (by omega),h]
   congr 1
   omega
  | succ i =>
   rw [List.getElem?_cons_succ] at h
   rw [List.getElem?_append_right (by omega),hq,show (i+1)*4+j - 4=i*4+j by omega]
   exact ih i j p h hj

end Gn

theorem ents_cells {w : World} {b nE cE : Nat} {aE : Option Addr} {es : List (Int × Nat)} (h : w.ownsRow b 54 11 (.slice aE nE cE) nE (Gn.flat es)) {i : Nat} {p : Int × Nat} (hp : es[i]? = some p) (hi : i < nE) :
    ∃g,aE=some ⟨g,0,none⟩∧g<w.heap.size∧∀j,j<11→w.cell? ⟨g,i*11+j,none⟩=(Gn.entCells p)[j]?:=by
  rcases h.2 with ⟨h',h0⟩ | ⟨g,cap,cur,h',_,hg,_⟩
  · omega
  · simp only [Value.slice.injEq] at h'
    obtain ⟨rfl,_,rfl⟩:=h'
    refine ⟨g,rfl,lt_of_block hg,fun j hj=>?_⟩
    rw [h.cellAt (i*11+j) (by omega)]
    exact Gn.flat_at es i j p hp hj

theorem items_cells {w : World} {b nE cE : Nat} {aE : Option Addr} {es : List Gn.Itm} (h : w.ownsRow b 62 4 (.slice aE nE cE) nE (Gn.flatI es)) {i : Nat} {p : Gn.Itm} (hp : es[i]? = some p) (hi : i < nE) :
    ∃g,aE=some ⟨g,0,none⟩∧g<w.heap.size∧∀j,j<4→w.cell? ⟨g,i*4+j,none⟩=(Gn.itemCells p)[j]?:=by
  rcases h.2 with ⟨h',h0⟩ | ⟨g,cap,cur,h',_,hg,_⟩
  · omega
  · simp only [Value.slice.injEq] at h'
    obtain ⟨rfl,_,rfl⟩:=h'
    refine ⟨g,rfl,lt_of_block hg,fun j hj=>?_⟩
    rw [h.cellAt (i*4+j) (by omega)]
    exact Gn.flatI_at es i j p hp hj


open Go.RowKit

theorem Gd.ent_box (w:World) (e:Nat→Int):(w.alloc (.cells (En.cells e) 54)).cell? ⟨w.heap.size,3,none⟩=some (.int .i64 (e 3))∧(w.alloc (.cells (En.cells e) 54)).cell? ⟨w.heap.size,4,none⟩=some (.int .i64 (e 4))∧(w.alloc (.cells (En.cells e) 54)).cell? ⟨w.heap.size,5,none⟩=some (.int .i64 (e 5))∧(w.alloc (.cells (En.cells e) 54)).cell? ⟨w.heap.size,6,none⟩=some (.int .i64 (e 6)):=by
 have h:=Arr.lit (heap_alloc_new w (.cells (En.cells e) 54))
 exact ⟨h.cell (i:=3) (by show 3<11;omega),h.cell (i:=4) (by show 4<11;omega),h.cell (i:=5) (by show 5<11;omega),h.cell (i:=6) (by show 6<11;omega)⟩

theorem Gd.ent_far {w x:World} {B gC gE gI cC cE cI:Nat} {s g c:Nat→Int} {E I:Nat→Nat→Int} (h:Gd.Boxed w x B gC gE gI cC cE cI s g c E I):x.heap.size≠gE∧x.heap.size≠gI∧x.heap.size≠B:=by
 have h1:=h.hold.lists.ents.lt
 have h2:=h.hold.lists.items.lt
 have h3:=h.hold.box.lt
 exact ⟨by omega,by omega,by omega⟩

theorem Gd.Boxed.items {w x y:World} {B gC gE gI cC cE cI:Nat} {s g c:Nat→Int} {E I J:Nat→Nat→Int} (h:Gd.Boxed w x B gC gE gI cC cE cI s g c E I) (hg:x.grownBy y (some gI)) (hI:Lie y gI 62 160 (Gd.flat J)):Gd.Boxed w y B gC gE gI cC cE cI s g c E J:=by
 have h1:=h.at_
 have h2:=h.lI
 exact { h with hold:=h.hold.items hg hI,res:=h.res.grown hg (by simp;omega),grown:=gow h.grown hg (fun n e=>by cases e;omega) }

theorem Gd.BoxW.ents {w x y:World} {B gC gE gI cC cE cI:Nat} {s g c:Nat→Int} {E I F:Nat→Nat→Int} (h:Gd.BoxW w x B gC gE gI cC cE cI s g c E I) (hg:x.grownBy y (some gE)) (hE:Lie y gE 54 352 (En.flat F)):Gd.BoxW w y B gC gE gI cC cE cI s g c F I:=by
 have h1:=h.at_
 have h2:=h.lE
 exact { h with hold:=h.hold.ents hg hE,res:=h.res.grown hg (by simp;omega),grown:=gow h.grown hg (fun n e=>by cases e;omega) }

theorem Gd.BoxW.stat {w x:World} {B gC gE gI cC cE cI:Nat} {s g c:Nat→Int} {E I:Nat→Nat→Int} (h:Gd.BoxW w x B gC gE gI cC cE cI s g c E I) (k j:Nat) (hj:j<11) (v:Int):Gd.BoxW w (x.setCell ⟨gE,k*11+j,none⟩ (.int .i64 v)) B gC gE gI cC cE cI s g c (Gd.set E k j v) I :=
 h.ents (gs0 x gE (k*11+j) (.int .i64 v)) (h.hold.lists.ents.stat k j hj v)


open Go.RowKit

theorem mPlace_at (x0 x1 x2 x3 x4 x5 x6 x7 x8 x9 x10:Int) (w:World):Calls Tryz.prog 219 #[.agg #[.int .i64 x0,.int .i64 x1,.int .i64 x2,.int .i64 x3,.int .i64 x4,.int .i64 x5,.int .i64 x6,.int .i64 x7,.int .i64 x8,.int .i64 x9,.int .i64 x10]] w fun x w'=>x=.returned (.complex .f64 (floatOfInt .f64 x3) (floatOfInt .f64 x4))∧w.grownBy w' none:=by
 go_enter Tryz.func219,Tryz.ntmps219
 go_wp2
 go_ret
 exact ⟨rfl,World.grownBy_alloc _ _ _⟩

theorem mPlace_any (e:Nat→Int) (w:World):Calls Tryz.prog 219 #[.agg (En.cells e)] w fun x w'=>x=.returned (.complex .f64 (floatOfInt .f64 (e 3)) (floatOfInt .f64 (e 4)))∧w.grownBy w' none:=mPlace_at _ _ _ _ _ _ _ _ _ _ _ w

theorem mParts_any (a b : Nat) (x y : Int) (w : World) (ha : Fl.Rep a x) (hb : Fl.Rep b y) (x1 : -9007199254740992 < x) (x2 : x < 9007199254740992) (y1 : -9007199254740992 < y) (y2 : y < 9007199254740992) :
    Calls Tryz.prog 218 #[.complex .f64 a b] w fun e w'=>e=.returned (.tuple #[.int .i64 x,.int .i64 y])∧w'=w:=by
  have t1:=Fl.rep_toInt ha x1 x2
  have t2:=Fl.rep_toInt hb y1 y2
  have hr1:=fun w:World=>run_convert_float_int (P:=Tryz.prog) w 176 3 .f64 .i64 a _ (by kernel_rfl) (by kernel_rfl) t1
  have hr2:=fun w:World=>run_convert_float_int (P:=Tryz.prog) w 176 3 .f64 .i64 b _ (by kernel_rfl) (by kernel_rfl) t2
  clear t1 t2 ha hb
  go_enter Tryz.func218,Tryz.ntmps218
  go_wp2
  go_ret2
  exact ⟨rfl,rfl⟩

theorem mAhead_any (e : Nat → Int) (d : Int) (w : World) (x0 : 0 ≤ e 3) (x9 : e 3 < 24) (y0 : 0 ≤ e 4) (y9 : e 4 < 16) :
    Calls Tryz.prog 220 #[.agg (En.cells e),.int .i64 d] w fun x w'=>(∃a b,x=.returned (.complex .f64 a b)∧Fl.Rep a (e 3+(Fx.way d).1)∧Fl.Rep b (e 4+(Fx.way d).2))∧w.grownBy w' none:=by
  have wb:=Fx.way_bd d
  obtain ⟨d1,d2,d3,d4⟩:=wb
  obtain ⟨r1,e1,R1⟩:=Fl.rep_add (Fl.rep_int (e 3) (by omega) (by omega)) (Fl.rep_int (Fx.way d).1 (by omega) (by omega)) (by omega) (by omega)
  obtain ⟨r2,e2,R2⟩:=Fl.rep_add (Fl.rep_int (e 4) (by omega) (by omega)) (Fl.rep_int (Fx.way d).2 (by omega) (by omega)) (by omega) (by omega)
  have hsum:=fun wq:World=>run_complex_sum (P:=Tryz.prog) wq .add (.inl rfl) 173 .f64 (floatOfInt .f64 (e 3)) (floatOfInt .f64 (e 4)) (floatOfInt .f64 (Fx.way d).1) (floatOfInt .f64 (Fx.way d).2) r1 r2 (by unfold cSumBits;rw [e1,e2];rfl)
  have hR:=hide (And.intro R1 R2)
  have cp:=hide (fun wq=>mPlace_any e wq)
  have hu:Hid (En.cells e=#[.int .i64 (e 0),.int .i64 (e 1),.int .i64 (e 2),.int .i64 (e 3),.int .i64 (e 4),.int .i64 (e 5),.int .i64 (e 6),.int .i64 (e 7),.int .i64 (e 8),.int .i64 (e 9),.int .i64 (e 10)]):=rfl
  rw [uh hu] at cp ⊢
  have hgw:Hid (w.grownBy (w.alloc (.cells #[.int .i64 (e 0),.int .i64 (e 1),.int .i64 (e 2),.int .i64 (e 3),.int .i64 (e 4),.int .i64 (e 5),.int .i64 (e 6),.int .i64 (e 7),.int .i64 (e 8),.int .i64 (e 9),.int .i64 (e 10)] 54)) none):=World.grownBy_alloc _ _ _
  clear R1 R2 e1 e2 x0 x9 y0 y9 d1 d2 d3 d4
  go_enter Tryz.func220,Tryz.ntmps220
  go_wp2_with fail
  refine (way_any _ _).mono ?_
  rintro x w1 ⟨rfl,hw⟩
  subst w1
  go_wp2_with fail
  refine (uh cp _).mono ?_
  rintro x w1 ⟨rfl,hg⟩
  have hg1:=hide (gtr (uh hgw) hg)
  clear hg hgw
  go_wp2
  go_ret
  exact ⟨⟨_,_,rfl,(uh hR).1,(uh hR).2⟩,uh hg1⟩

theorem mLess (e f : Nat → Int) (x0 : 0 ≤ e 3) (x9 : e 3 < 24) (y0 : 0 ≤ e 4) (y9 : e 4 < 16) (u0 : 0 ≤ f 3) (u9 : f 3 < 24) (v0 : 0 ≤ f 4) (v9 : f 4 < 16) :
    ∃r1 r2,(∀wq:World,(binOp .sub 173 (.complex .f64 (floatOfInt .f64 (f 3)) (floatOfInt .f64 (f 4))) (.complex .f64 (floatOfInt .f64 (e 3)) (floatOfInt .f64 (e 4)))).run Tryz.prog wq=.ok (.complex .f64 r1 r2) wq)∧Fl.Rep r1 (f 3 - e 3)∧Fl.Rep r2 (f 4 - e 4):=by
  obtain ⟨r1,e1,R1⟩:=Fl.rep_sub (Fl.rep_int (f 3) (by omega) (by omega)) (Fl.rep_int (e 3) (by omega) (by omega)) (by omega) (by omega)
  obtain ⟨r2,e2,R2⟩:=Fl.rep_sub (Fl.rep_int (f 4) (by omega) (by omega)) (Fl.rep_int (e 4) (by omega) (by omega)) (by omega) (by omega)
  exact ⟨r1,r2,fun wq=>run_complex_sum (P:=Tryz.prog) wq .sub (.inr rfl) 173 .f64 _ _ _ _ r1 r2 (by unfold cSumBits;rw [e1,e2];rfl),R1,R2⟩

end Go.Proofs.YtbanjoflgoiegaaGreat
