import Derived.Test.YtbanjoflgoiegaaGreatPs12
import Derived.Test.YtbanjoflgoiegaaGreatPs13
namespace Go.Proofs.YtbanjoflgoiegaaGreat
open Go.RowKit

def Lie (x:World) (g:Nat) (T:TypeId) (m:Nat) (F:Nat→Value):Prop:=∃M G,Arr x g T M G∧m≤M∧∀c,c<m→G c=F c

theorem Arr.lie {x:World} {g:Nat} {T:TypeId} {m:Nat} {F:Nat→Value} (h:Arr x g T m F):Lie x g T m F:=⟨m,F,h,Nat.le_refl _,fun _ _=>rfl⟩

theorem Lie.cell {x:World} {g:Nat} {T:TypeId} {m:Nat} {F:Nat→Value} (h:Lie x g T m F) {c:Nat} (hc:c<m):x.cell? ⟨g,c,none⟩=some (F c):=by
 obtain ⟨M,G,hA,hm,he⟩:=h
 rw [hA.cell (i:=c) (by omega),he c hc]

theorem Lie.free {x:World} {g:Nat} {T:TypeId} {m:Nat} {F:Nat→Value} (h:Lie x g T m F) (i:Nat):x.frozen? ⟨g,i,none⟩=false:=by
 obtain ⟨M,G,hA,_,_⟩:=h
 exact hA.free i

theorem Lie.lt {x:World} {g:Nat} {T:TypeId} {m:Nat} {F:Nat→Value} (h:Lie x g T m F):g<x.heap.size:=by
 obtain ⟨M,G,hA,_,_⟩:=h
 exact hA.lt

theorem Lie.congr {x:World} {g:Nat} {T:TypeId} {m:Nat} {F G:Nat→Value} (h:Lie x g T m F) (he:∀c,c<m→F c=G c):Lie x g T m G:=by
 obtain ⟨M,K,hA,hm,hk⟩:=h
 exact ⟨M,K,hA,hm,fun c hc=>(hk c hc).trans (he c hc)⟩

theorem Lie.grown {x y:World} {g:Nat} {T:TypeId} {m:Nat} {F:Nat→Value} {r:Option Nat} (h:Lie x g T m F) (hg:x.grownBy y r) (hr:r≠some g):Lie y g T m F:=by
 obtain ⟨M,K,hA,hm,hk⟩:=h
 exact ⟨M,K,hA.grown hg hr,hm,hk⟩

theorem Lie.on {x y:World} {g:Nat} {T:TypeId} {m:Nat} {F:Nat→Value} (h:Lie x g T m F) (hg:x.grownBy y none):Lie y g T m F:=h.grown hg (by simp)

theorem Lie.other {x:World} {g:Nat} {T:TypeId} {m:Nat} {F:Nat→Value} (h:Lie x g T m F) {p:Nat} (hp:p≠g) (i:Nat) (u:Value):Lie (x.setCell ⟨p,i,none⟩ u) g T m F :=
 h.grown (gs0 x p i u) (by simpa using hp)

theorem Lie.others {x:World} {g:Nat} {T:TypeId} {m:Nat} {F:Nat→Value} (h:Lie x g T m F) {p:Nat} (hp:p≠g) (o:Nat) (vs:List Value):Lie (x.setCells p o vs) g T m F :=
 h.grown (gss vs o x (World.grownBy.refl _ _)) (by simpa using hp)

theorem Lie.store {x:World} {g:Nat} {T:TypeId} {m:Nat} {F:Nat→Value} (h:Lie x g T m F) (i:Nat) (u:Value):Lie (x.setCell ⟨g,i,none⟩ u) g T m (fun j=>if j=i then u else F j):=by
 obtain ⟨M,K,hA,hm,hk⟩:=h
 refine ⟨M,_,hA.store i u,hm,fun c hc=>?_⟩
 show (if c=i then u else K c)=_
 rw [hk c hc]

theorem Lie.stores {x:World} {g:Nat} {T:TypeId} {m:Nat} {F:Nat→Value} (h:Lie x g T m F) (o:Nat) (vs:List Value):Lie (x.setCells g o vs) g T m (fun j=>if o≤j∧j<o+vs.length then vs[j - o]?.getD undef else F j):=by
 obtain ⟨M,K,hA,hm,hk⟩:=h
 refine ⟨M,_,hA.stores vs o,hm,fun c hc=>?_⟩
 show (if o≤c∧c<o+vs.length then vs[c - o]?.getD undef else K c)=_
 rw [hk c hc]

def Gd.cells (r:Nat→Int):Array Value:=#[.int .i64 (r 0),.int .i64 (r 1),.int .i64 (r 2),.int .i64 (r 3)]

def Gd.flat (I:Nat→Nat→Int):Nat→Value:=fun c=>.int .i64 (I (c / 4) (c % 4))

theorem Gd.flat_at (I:Nat→Nat→Int) (i j:Nat) (hj:j<4):Gd.flat I (i*4+j)=.int .i64 (I i j):=by
 unfold Gd.flat
 rw [show (i*4+j) / 4=i by omega,show (i*4+j) % 4=j by omega]

def Its (w:World) (b o n:Nat) (I:Nat→Nat→Int):Prop:=n≤100∧b<w.heap.size∧∀i j,i<n→j<4→w.cell? ⟨b,o+i*4+j,none⟩=some (.int .i64 (I i j))

theorem Its.on {w w':World} {b o n:Nat} {I:Nat→Nat→Int} (h:Its w b o n I) (hg:w.grownBy w' none):Its w' b o n I :=
 ⟨h.1,Nat.lt_of_lt_of_le h.2.1 hg.size,fun i j hi hj=>(gce hg b _ h.2.1 (by simp)).trans (h.2.2 i j hi hj)⟩

theorem Its.row {w:World} {b n:Nat} {I:Nat→Nat→Int} (h:Its w b 0 n I) {k:Nat} (hk:k<n) :
  w.cell? ⟨b,k*4,none⟩=some (.int .i64 (I k 0))∧w.cell? ⟨b,k*4+1,none⟩=some (.int .i64 (I k 1))∧w.cell? ⟨b,k*4+2,none⟩=some (.int .i64 (I k 2))∧w.cell? ⟨b,k*4+3,none⟩=some (.int .i64 (I k 3)):=by
 have:=fun j hj=>h.2.2 k j hk hj
 simp only [Nat.zero_add] at this
 exact ⟨this 0 (by omega),this 1 (by omega),this 2 (by omega),this 3 (by omega)⟩

theorem Lie.its {x:World} {g n m:Nat} {T:TypeId} {I:Nat→Nat→Int} (h:Lie x g T m (Gd.flat I)) (hm:n*4=m) (hn:n≤100):Its x g 0 n I :=
 ⟨hn,h.lt,fun i j hi hj=>by rw [Nat.zero_add,h.cell (c:=i*4+j) (by omega),Gd.flat_at I i j hj]⟩

theorem Lie.own {x:World} {g n m:Nat} {E:Nat→Nat→Int} (h:Lie x g 54 m (En.flat E)) (hm:n*11=m) (hn:n≤32):Own x g n E:=by
 obtain ⟨M,K,hA,hl,hk⟩:=h
 exact ⟨hn,M,K,hA,by omega,fun c hc=>hk c (by omega)⟩

theorem Own.lie {x:World} {g n m:Nat} {E:Nat→Nat→Int} (h:Own x g n E) (hm:n*11=m):Lie x g 54 m (En.flat E):=by
 obtain ⟨_,M,K,hA,hl,hk⟩:=h
 exact ⟨M,K,hA,by omega,fun c hc=>hk c (by omega)⟩

theorem Gd.cells_at (r:Nat→Int) (j:Nat) (hj:j<4):(Gd.cells r).toList[j]?.getD undef=.int .i64 (r j):=by
 rcases (show j=0∨j=1∨j=2∨j=3 by omega) with rfl | rfl | rfl | rfl <;> rfl

theorem Lie.item {x:World} {g m:Nat} {T:TypeId} {I:Nat→Nat→Int} (h:Lie x g T m (Gd.flat I)) (k:Nat) (r:Nat→Int):Lie (x.setCells g (k*4) (Gd.cells r).toList) g T m (Gd.flat (En.put I k r)):=by
 refine (h.stores (k*4) (Gd.cells r).toList).congr fun c hc=>?_
 show (if k*4≤c∧c<k*4+4 then (Gd.cells r).toList[c - k*4]?.getD undef else Gd.flat I c)=Gd.flat (En.put I k r) c
 unfold Gd.flat
 by_cases hk:k*4≤c∧c<k*4+4
 ·rw [if_pos hk,Gd.cells_at r _ (by omega),show c / 4=k by omega,En.put_same,show c - k*4=c % 4 by omega]
 ·rw [if_neg hk,En.put_other (by omega)]

def Gd.set (I:Nat→Nat→Int) (k j:Nat) (v:Int):Nat→Nat→Int:=fun i l=>if i=k∧l=j then v else I i l

theorem Lie.stat {x:World} {g m:Nat} {T:TypeId} {E:Nat→Nat→Int} (h:Lie x g T m (En.flat E)) (k j:Nat) (hj:j<11) (v:Int):Lie (x.setCell ⟨g,k*11+j,none⟩ (.int .i64 v)) g T m (En.flat (Gd.set E k j v)):=by
 refine (h.store (k*11+j) (.int .i64 v)).congr fun c hc=>?_
 unfold En.flat Gd.set
 by_cases hk:c=k*11+j
 ·rw [if_pos hk,if_pos ⟨by omega,by omega⟩]
 ·rw [if_neg hk,if_neg (by omega)]

def Gd.box (s:Nat→Int) (gC gE gI:Nat) (cC cE cI:Nat) (g:Nat→Int):Nat→Value
 | 0=>.int .i64 (s 0)
 | 1=>.int .i64 (s 1)
 | 2=>.int .i64 (s 2)
 | 3=>.int .i64 (s 3)
 | 4=>.slice (some ⟨gC,0,none⟩) 384 cC
 | 5=>.slice (some ⟨gE,0,none⟩) 32 cE
 | 6=>.slice (some ⟨gI,0,none⟩) 40 cI
 | 7=>.int .i64 (g 0)
 | 8=>.int .i64 (g 1)
 | 9=>.int .i64 (g 2)
 | 10=>.int .i64 (g 3)
 | _=>undef

def Gd.world (s:Nat→Int) (gC gE gI:Nat) (cC cE cI:Nat) (g:Nat→Int):Array Value :=
 #[.int .i64 (s 0),.int .i64 (s 1),.int .i64 (s 2),.int .i64 (s 3),.slice (some ⟨gC,0,none⟩) 384 cC,.slice (some ⟨gE,0,none⟩) 32 cE,.slice (some ⟨gI,0,none⟩) 40 cI,.int .i64 (g 0),.int .i64 (g 1),.int .i64 (g 2),.int .i64 (g 3)]

theorem Gd.world_at (s:Nat→Int) (gC gE gI cC cE cI:Nat) (g:Nat→Int) (j:Nat) (hj:j<11):(Gd.world s gC gE gI cC cE cI g)[j]?=some (Gd.box s gC gE gI cC cE cI g j):=by
 rcases (show j=0∨j=1∨j=2∨j=3∨j=4∨j=5∨j=6∨j=7∨j=8∨j=9∨j=10 by omega) with rfl | rfl | rfl | rfl | rfl | rfl | rfl | rfl | rfl | rfl | rfl <;> rfl

theorem Arr.world {w:World} {B:Nat} {s:Nat→Int} {gC gE gI cC cE cI:Nat} {g:Nat→Int} (h:w.heap[B]?=some (.cells (Gd.world s gC gE gI cC cE cI g) 30 (0,0))):Arr w B 30 11 (Gd.box s gC gE gI cC cE cI g) :=
 ⟨_,h,rfl,fun i hi=>Gd.world_at s gC gE gI cC cE cI g i hi⟩

def Gd.give (g:Nat→Int) (k:Nat) (v:Int):Nat→Int:=fun i=>if i=k then v else g i

theorem Lie.gold {x:World} {B:Nat} {T:TypeId} {s:Nat→Int} {gC gE gI cC cE cI:Nat} {g:Nat→Int} (h:Lie x B T 11 (Gd.box s gC gE gI cC cE cI g)) (k:Nat) (hk:k<4) (v:Int):Lie (x.setCell ⟨B,7+k,none⟩ (.int .i64 v)) B T 11 (Gd.box s gC gE gI cC cE cI (Gd.give g k v)):=by
 refine (h.store (7+k) (.int .i64 v)).congr fun c hc=>?_
 rcases (show k=0∨k=1∨k=2∨k=3 by omega) with rfl | rfl | rfl | rfl <;>
 rcases (show c=0∨c=1∨c=2∨c=3∨c=4∨c=5∨c=6∨c=7∨c=8∨c=9∨c=10 by omega) with rfl | rfl | rfl | rfl | rfl | rfl | rfl | rfl | rfl | rfl | rfl <;> rfl

theorem Gd.box_gold (s:Nat→Int) (gC gE gI cC cE cI:Nat) (g:Nat→Int) (k:Nat) (hk:k<4):Gd.box s gC gE gI cC cE cI g (7+k)=.int .i64 (g k):=by
 rcases (show k=0∨k=1∨k=2∨k=3 by omega) with rfl | rfl | rfl | rfl <;> rfl

structure Gd.Lists (x:World) (gC gE gI:Nat) (c:Nat→Int) (E I:Nat→Nat→Int):Prop where
 cells:Lie x gC 5 384 (Byts c)
 ents:Lie x gE 54 352 (En.flat E)
 items:Lie x gI 62 160 (Gd.flat I)

theorem Gd.Lists.on {x y:World} {gC gE gI:Nat} {c:Nat→Int} {E I:Nat→Nat→Int} (h:Gd.Lists x gC gE gI c E I) (hg:x.grownBy y none):Gd.Lists y gC gE gI c E I :=
 ⟨h.cells.on hg,h.ents.on hg,h.items.on hg⟩

theorem Gd.Lists.its {x:World} {gC gE gI:Nat} {c:Nat→Int} {E I:Nat→Nat→Int} (h:Gd.Lists x gC gE gI c E I):Its x gI 0 40 I:=h.items.its (by omega) (by omega)

theorem Gd.Lists.own {x:World} {gC gE gI:Nat} {c:Nat→Int} {E I:Nat→Nat→Int} (h:Gd.Lists x gC gE gI c E I):Own x gE 32 E:=h.ents.own (by omega) (by omega)

theorem Gd.Lists.vec {x:World} {gC gE gI:Nat} {c:Nat→Int} {E I:Nat→Nat→Int} (h:Gd.Lists x gC gE gI c E I):Vec x.heap.size x (some ⟨gC,0,none⟩) 384 (Byts c) :=
 ⟨by unfold maxLen;omega,.inr ⟨gC,0,rfl,h.cells.lt,fun i hi=>by rw [Nat.zero_add];exact h.cells.cell hi⟩⟩

structure Gd.Hold (x:World) (B gC gE gI:Nat) (cC cE cI:Nat) (s:Nat→Int) (g:Nat→Int) (c:Nat→Int) (E I:Nat→Nat→Int):Prop where
 box:Lie x B 30 11 (Gd.box s gC gE gI cC cE cI g)
 lists:Gd.Lists x gC gE gI c E I
 bC:B≠gC
 bE:B≠gE
 bI:B≠gI
 cE:gC≠gE
 cI:gC≠gI
 eI:gE≠gI

theorem Gd.Hold.on {x y:World} {B gC gE gI cC cE cI:Nat} {s g c:Nat→Int} {E I:Nat→Nat→Int} (h:Gd.Hold x B gC gE gI cC cE cI s g c E I) (hg:x.grownBy y none):Gd.Hold y B gC gE gI cC cE cI s g c E I :=
 { h with box:=h.box.on hg,lists:=h.lists.on hg }

theorem Gd.Hold.items {x:World} {B gC gE gI cC cE cI:Nat} {s g c:Nat→Int} {E I J:Nat→Nat→Int} (h:Gd.Hold x B gC gE gI cC cE cI s g c E I) {y:World} (hg:x.grownBy y (some gI)) (hI:Lie y gI 62 160 (Gd.flat J)):Gd.Hold y B gC gE gI cC cE cI s g c E J :=
 { h with box:=h.box.grown hg (by simpa using h.bI.symm),lists:=⟨h.lists.cells.grown hg (by simpa using h.cI.symm),h.lists.ents.grown hg (by simpa using h.eI.symm),hI⟩ }

theorem Gd.Hold.ents {x:World} {B gC gE gI cC cE cI:Nat} {s g c:Nat→Int} {E I F:Nat→Nat→Int} (h:Gd.Hold x B gC gE gI cC cE cI s g c E I) {y:World} (hg:x.grownBy y (some gE)) (hE:Lie y gE 54 352 (En.flat F)):Gd.Hold y B gC gE gI cC cE cI s g c F I :=
 { h with box:=h.box.grown hg (by simpa using h.bE.symm),lists:=⟨h.lists.cells.grown hg (by simpa using h.cE.symm),hE,h.lists.items.grown hg (by simpa using h.eI)⟩ }

theorem Gd.Hold.gold {x:World} {B gC gE gI cC cE cI:Nat} {s g c:Nat→Int} {E I:Nat→Nat→Int} (h:Gd.Hold x B gC gE gI cC cE cI s g c E I) (k:Nat) (hk:k<4) (v:Int):Gd.Hold (x.setCell ⟨B,7+k,none⟩ (.int .i64 v)) B gC gE gI cC cE cI s (Gd.give g k v) c E I :=
 { h with box:=h.box.gold k hk v,lists:=⟨h.lists.cells.other h.bC _ _,h.lists.ents.other h.bE _ _,h.lists.items.other h.bI _ _⟩ }

def Gd.list (m:Nat) (F:Nat→Value):List Value:=(List.range m).map F

theorem Gd.list_len (m:Nat) (F:Nat→Value):(Gd.list m F).length=m:=by simp [Gd.list]

theorem Gd.list_at {m:Nat} {F:Nat→Value} {c:Nat} (hc:c<m):(Gd.list m F)[c]?=some (F c):=by
 unfold Gd.list
 rw [List.getElem?_map,List.getElem?_range hc]
 rfl

theorem Gd.list_one {m:Nat} {F:Nat→Value} (h:∀c,(F c).oneCell'=true):∀v∈Gd.list m F,v.oneCell'=true:=by
 intro v hv
 unfold Gd.list at hv
 obtain ⟨c,_,rfl⟩:=List.mem_map.1 hv
 exact h c

theorem Gd.list_src {w:World} {b m:Nat} {F:Nat→Value} (h:∀c,c<m→w.cell? ⟨b,c,none⟩=some (F c)):∀j v,(Gd.list m F)[j]?=some v→w.cell? ((⟨b,0,none⟩:Addr).add j)=some v:=by
 intro j v hj
 have hlt:j<m:=by
  have:=(List.getElem?_eq_some_iff.1 hj).1
  rwa [Gd.list_len] at this
 rw [Gd.list_at hlt] at hj
 rw [show (⟨b,0,none⟩:Addr).add j=⟨b,j,none⟩ by rw [Go.WideShapes.add_plain,Nat.zero_add],h j hlt]
 exact hj

theorem Arr.of_list {w:World} {g m:Nat} {T:TypeId} {F:Nat→Value} (h:w.heap[g]?=some (.cells (Gd.list m F).toArray T (0,0))):Arr w g T m F:=by
 refine ⟨_,h,by simp [Gd.list_len],fun c hc=>?_⟩
 rw [List.getElem?_toArray,Gd.list_at hc]

def Copies (w:World) (T:TypeId) (n m:Nat) (F:Nat→Value) (e:Ending) (w':World):Prop :=
 ∃g,e=.returned (.slice (some ⟨g,0,none⟩) n n)∧w.heap.size≤g∧Arr w' g T m F∧w.grownBy w' none

set_option maxHeartbeats 800000 in
theorem twinBytes_any (b n m cp:Nat) (F:Nat→Value) (w:World) (hn:n≤1000) (hm:m=n*1) (h1:∀c,(F c).oneCell'=true) (hF:∀c,c<m→w.cell? ⟨b,c,none⟩=some (F c)) (hb:b<w.heap.size) :
  Calls Tryz.prog 178 #[.slice (some ⟨b,0,none⟩) n cp] w (Copies w 5 n m F):=by
 have hF':=hide hF
 have h1':=hide h1
 obtain ⟨i0,hi,hz0,hz1,hz2⟩:=info_parts info_byte
 have hsz:(Tryz.prog.info? 5).map (·.size)=some 1:=by rw [hi];simp [hz1]
 clear hF h1
 go_enter Tryz.func178,Tryz.ntmps178
 go_wp2_with (at_make;refine wpList_make_full _ rfl _ _ 25 rfl w.heap.size 5 i0 (.int .u8 0) 1 Tryz.underlying25 hi hz0 hz1 .i64 .i64 _ _ n rfl rfl rfl rfl ?q3 ?q4 ?q5 ?_)
 any_goals (first | (rw [hz2];omega) | (unfold maxLen;omega) | exact Nat.le_refl _)
 intro w1 hown hgrow
 obtain ⟨cur,hg,hcs⟩:∃cur,w1.heap[w.heap.size]?=some (.cells cur 5 (0,0))∧cur.size=n*1:=by
  rcases hown.2 with ⟨h',_⟩ | ⟨g',cap',cur,h',_,hg,_,_,hcs,_⟩
  ·simp at h'
  ·simp only [Value.slice.injEq,Option.some.injEq,Addr.mk.injEq,and_true,true_and] at h'
   obtain ⟨rfl,rfl⟩:=h'
   exact ⟨cur,hg,hcs⟩
 have hg':=hide hg
 have hgrow':=hide hgrow
 have hcs':=hide hcs
 clear hown hg hgrow hcs hi hz0 hz1 hz2
 obtain ⟨w2,hrun,hrow,hgr2⟩:=run_copy_whole 25 25 3 5 Tryz.underlying25 1 hsz w.heap.size n n ⟨b,0,none⟩ cp cur _ (uh hg') (Gd.list m F) ((Gd.list_len m F).trans hm) (Gd.list_src fun c hc=>(gce (uh hgrow') b c hb (by simp)).trans (uh hF' c hc)) (by rw [Gd.list_len,uh hcs',hm]) (Gd.list_one (uh h1'))
 have hfin:=hide (Arr.of_list hrow)
 have hgw:=hide (show w.grownBy w2 none from gow (uh hgrow') hgr2 (fun k e=>by cases e;exact Nat.le_refl _))
 clear hrow hgr2 hb hm hn hsz
 go_wp2
 go_ret
 exact ⟨w.heap.size,rfl,Nat.le_refl _,uh hfin,uh hgw⟩

set_option maxHeartbeats 800000 in
theorem twinEnts_any (b n m cp:Nat) (F:Nat→Value) (w:World) (hn:n≤1000) (hm:m=n*11) (h1:∀c,(F c).oneCell'=true) (hF:∀c,c<m→w.cell? ⟨b,c,none⟩=some (F c)) (hb:b<w.heap.size) :
  Calls Tryz.prog 179 #[.slice (some ⟨b,0,none⟩) n cp] w (Copies w 54 n m F):=by
 have hF':=hide hF
 have h1':=hide h1
 obtain ⟨i0,hi,hz0,hz1,hz2⟩:=info_parts info_ent
 have hsz:(Tryz.prog.info? 54).map (·.size)=some 11:=by rw [hi];simp [hz1]
 clear hF h1
 go_enter Tryz.func179,Tryz.ntmps179
 go_wp2_with (at_make;refine wpList_make_full _ rfl _ _ 26 rfl w.heap.size 54 i0 (.agg #[.int .i64 0,.int .i64 0,.int .i64 0,.int .i64 0,.int .i64 0,.int .i64 0,.int .i64 0,.int .i64 0,.int .i64 0,.int .i64 0,.int .i64 0]) 11 Tryz.underlying26 hi hz0 hz1 .i64 .i64 _ _ n rfl rfl rfl rfl ?q3 ?q4 ?q5 ?_)
 any_goals (first | (rw [hz2];omega) | (unfold maxLen;omega) | exact Nat.le_refl _)
 intro w1 hown hgrow
 obtain ⟨cur,hg,hcs⟩:∃cur,w1.heap[w.heap.size]?=some (.cells cur 54 (0,0))∧cur.size=n*11:=by
  rcases hown.2 with ⟨h',_⟩ | ⟨g',cap',cur,h',_,hg,_,_,hcs,_⟩
  ·simp at h'
  ·simp only [Value.slice.injEq,Option.some.injEq,Addr.mk.injEq,and_true,true_and] at h'
   obtain ⟨rfl,rfl⟩:=h'
   exact ⟨cur,hg,hcs⟩
 have hg':=hide hg
 have hgrow':=hide hgrow
 have hcs':=hide hcs
 clear hown hg hgrow hcs hi hz0 hz1 hz2
 obtain ⟨w2,hrun,hrow,hgr2⟩:=run_copy_whole 26 26 3 54 Tryz.underlying26 11 hsz w.heap.size n n ⟨b,0,none⟩ cp cur _ (uh hg') (Gd.list m F) ((Gd.list_len m F).trans hm) (Gd.list_src fun c hc=>(gce (uh hgrow') b c hb (by simp)).trans (uh hF' c hc)) (by rw [Gd.list_len,uh hcs',hm]) (Gd.list_one (uh h1'))
 have hfin:=hide (Arr.of_list hrow)
 have hgw:=hide (show w.grownBy w2 none from gow (uh hgrow') hgr2 (fun k e=>by cases e;exact Nat.le_refl _))
 clear hrow hgr2 hb hm hn hsz
 go_wp2
 go_ret
 exact ⟨w.heap.size,rfl,Nat.le_refl _,uh hfin,uh hgw⟩

set_option maxHeartbeats 800000 in
theorem twinItems_any (b n m cp:Nat) (F:Nat→Value) (w:World) (hn:n≤1000) (hm:m=n*4) (h1:∀c,(F c).oneCell'=true) (hF:∀c,c<m→w.cell? ⟨b,c,none⟩=some (F c)) (hb:b<w.heap.size) :
  Calls Tryz.prog 106 #[.slice (some ⟨b,0,none⟩) n cp] w (Copies w 62 n m F):=by
 have hF':=hide hF
 have h1':=hide h1
 obtain ⟨i0,hi,hz0,hz1,hz2⟩:=info_parts info_item
 have hsz:(Tryz.prog.info? 62).map (·.size)=some 4:=by rw [hi];simp [hz1]
 clear hF h1
 go_enter Tryz.func106,Tryz.ntmps106
 go_wp2_with (at_make;refine wpList_make_full _ rfl _ _ 27 rfl w.heap.size 62 i0 (.agg #[.int .i64 0,.int .i64 0,.int .i64 0,.int .i64 0]) 4 Tryz.underlying27 hi hz0 hz1 .i64 .i64 _ _ n rfl rfl rfl rfl ?q3 ?q4 ?q5 ?_)
 any_goals (first | (rw [hz2];omega) | (unfold maxLen;omega) | exact Nat.le_refl _)
 intro w1 hown hgrow
 obtain ⟨cur,hg,hcs⟩:∃cur,w1.heap[w.heap.size]?=some (.cells cur 62 (0,0))∧cur.size=n*4:=by
  rcases hown.2 with ⟨h',_⟩ | ⟨g',cap',cur,h',_,hg,_,_,hcs,_⟩
  ·simp at h'
  ·simp only [Value.slice.injEq,Option.some.injEq,Addr.mk.injEq,and_true,true_and] at h'
   obtain ⟨rfl,rfl⟩:=h'
   exact ⟨cur,hg,hcs⟩
 have hg':=hide hg
 have hgrow':=hide hgrow
 have hcs':=hide hcs
 clear hown hg hgrow hcs hi hz0 hz1 hz2
 obtain ⟨w2,hrun,hrow,hgr2⟩:=run_copy_whole 27 27 3 62 Tryz.underlying27 4 hsz w.heap.size n n ⟨b,0,none⟩ cp cur _ (uh hg') (Gd.list m F) ((Gd.list_len m F).trans hm) (Gd.list_src fun c hc=>(gce (uh hgrow') b c hb (by simp)).trans (uh hF' c hc)) (by rw [Gd.list_len,uh hcs',hm]) (Gd.list_one (uh h1'))
 have hfin:=hide (Arr.of_list hrow)
 have hgw:=hide (show w.grownBy w2 none from gow (uh hgrow') hgr2 (fun k e=>by cases e;exact Nat.le_refl _))
 clear hrow hgr2 hb hm hn hsz
 go_wp2
 go_ret
 exact ⟨w.heap.size,rfl,Nat.le_refl _,uh hfin,uh hgw⟩


open Go.RowKit

theorem run_eq_place (a b c a' b' c':Int) (w:World):(binOp .eql 189 (.agg #[.int .i64 a,.int .i64 b,.int .i64 c]) (.agg #[.int .i64 a',.int .i64 b',.int .i64 c'])).run Tryz.prog w=.ok (.bool (decide (a=a') && (decide (b=b') && decide (c=c')))) w:=by
 by_cases h1:a=a' <;> by_cases h2:b=b' <;> by_cases h3:c=c' <;> simp [go_sem,h1,h2,h3]

theorem run_eq_item (k a b c k' a' b' c':Int) (w:World):(binOp .eql 62 (.agg #[.int .i64 k,.int .i64 a,.int .i64 b,.int .i64 c]) (.agg #[.int .i64 k',.int .i64 a',.int .i64 b',.int .i64 c'])).run Tryz.prog w=.ok (.bool (decide (k=k') && (decide (a=a') && (decide (b=b') && decide (c=c'))))) w:=by
 by_cases h0:k=k' <;> by_cases h1:a=a' <;> by_cases h2:b=b' <;> by_cases h3:c=c' <;> simp [go_sem,h0,h1,h2,h3]

theorem goodsPlace_any (k p a b:Int) (w:World):Calls Tryz.prog 192 #[.agg #[.int .i64 k,.int .i64 p,.int .i64 a,.int .i64 b]] w (Says w (.agg #[.int .i64 p,.int .i64 a,.int .i64 b])):=by
 have hg:=hide (fun (o1 o2:Obj)=>gal (World.grownBy_alloc w o1 none) o2)
 go_enter Tryz.func192,Tryz.ntmps192
 go_wp2
 refine bodyPost_ret (v:=.agg #[.int .i64 p,.int .i64 a,.int .i64 b]) (by simp [results,Tryz.results192,go_sem]) rfl ?_
 exact ⟨rfl,uh hg _ _⟩

theorem moved_any (k p a b p' a' b':Int) (w:World):Calls Tryz.prog 183 #[.agg #[.int .i64 k,.int .i64 p,.int .i64 a,.int .i64 b],.agg #[.int .i64 p',.int .i64 a',.int .i64 b']] w (Says w (.agg #[.int .i64 k,.int .i64 p',.int .i64 a',.int .i64 b'])):=by
 have hg:=hide (fun (o1 o2 o3:Obj)=>gal (gal (World.grownBy_alloc w o1 none) o2) o3)
 go_enter Tryz.func183,Tryz.ntmps183
 go_wp2
 refine bodyPost_ret (v:=.agg #[.int .i64 k,.int .i64 p',.int .i64 a',.int .i64 b']) (by simp [results,Tryz.results183,go_sem]) rfl ?_
 exact ⟨rfl,uh hg _ _ _⟩

theorem wornBy_any (seat kind:Int) (h0:0≤kind) (h1:kind≤100) (w:World):Calls Tryz.prog 193 #[.int .i64 seat,.int .i64 kind] w (Says w (.agg #[.int .i64 3,.int .i64 seat,.int .i64 (kind - 2)])):=by
 have hg:=hide (fun (o1:Obj)=>World.grownBy_alloc w o1 none)
 go_enter Tryz.func193,Tryz.ntmps193
 go_wp2
 refine bodyPost_ret (v:=.agg #[.int .i64 3,.int .i64 seat,.int .i64 (kind - 2)]) (by simp [results,Tryz.results193,go_sem]) rfl ?_
 exact ⟨rfl,uh hg _⟩

theorem price_any (k p a b:Int) (w:World):Calls Tryz.prog 182 #[.agg #[.int .i64 k,.int .i64 p,.int .i64 a,.int .i64 b]] w (Says w (.int .i64 (if p=4 then 5 else 0))):=by
 have hg:=hide (fun (o1:Obj)=>World.grownBy_alloc w o1 none)
 by_cases h:p=4
 ·rw [if_pos h]
  go_enter Tryz.func182,Tryz.ntmps182
  go_wp2
  go_ret
  exact ⟨rfl,uh hg _⟩
 ·rw [if_neg h]
  go_enter Tryz.func182,Tryz.ntmps182
  go_wp2
  go_ret
  exact ⟨rfl,uh hg _⟩

def Gd.serves (k input:Int):Bool:=if input=6 then decide (k=1) else if input=7 then decide (k=2) || decide (k=3) else true

theorem serves_any (k input:Int) (w:World):Calls Tryz.prog 194 #[.int .i64 k,.int .i64 input] w fun e w'=>e=.returned (.bool (Gd.serves k input))∧w'=w:=by
 unfold Gd.serves
 by_cases h6:input=6
 ·rw [if_pos h6]
  go_enter Tryz.func194,Tryz.ntmps194
  go_wp2
  go_ret
  exact ⟨rfl,rfl⟩
 ·rw [if_neg h6]
  by_cases h7:input=7
  ·rw [if_pos h7]
   by_cases h2:k=2
   ·subst h2
    go_enter Tryz.func194,Tryz.ntmps194
    go_wp2
    go_ret
    exact ⟨rfl,rfl⟩
   ·rw [decide_eq_false h2]
    by_cases h3:k=3
    ·subst h3
     go_enter Tryz.func194,Tryz.ntmps194
     go_wp2
     go_ret
     exact ⟨rfl,rfl⟩
    ·rw [decide_eq_false h3]
     have h2':(k == 2)=false:=by simp [h2]
     have h3':(k == 3)=false:=by simp [h3]
     go_enter Tryz.func194,Tryz.ntmps194
     go_wp2
     go_ret
     exact ⟨by simp,rfl⟩
  ·rw [if_neg h7]
   go_enter Tryz.func194,Tryz.ntmps194
   go_wp2
   go_ret
   exact ⟨rfl,rfl⟩

def Gd.isSeat (s:Int):Bool:=decide (0≤s∧s<4)

theorem isSeat_any (s:Int) (w:World):Calls Tryz.prog 169 #[.int .i64 s] w fun e w'=>e=.returned (.bool (Gd.isSeat s))∧w'=w:=by
 unfold Gd.isSeat
 by_cases h0:0≤s
 ·have e:decide (0≤s∧s<4)=decide (s<4):=by simp [h0]
  rw [e]
  go_enter Tryz.func169,Tryz.ntmps169
  go_wp2
  go_ret
  exact ⟨rfl,rfl⟩
 ·have e:decide (0≤s∧s<4)=false:=by simp [h0]
  rw [e]
  go_enter Tryz.func169,Tryz.ntmps169
  go_wp2
  go_ret
  exact ⟨rfl,rfl⟩

def Gd.zeroB (k p a b:Int):Bool:=decide (k=0∧p=0∧a=0∧b=0)

theorem isGone_yes (w:World):Calls Tryz.prog 107 #[.agg #[.int .i64 0,.int .i64 0,.int .i64 0,.int .i64 0]] w (Says w (.bool true)):=by
 have hg:=hide (fun (o1:Obj)=>World.grownBy_alloc w o1 none)
 go_enter Tryz.func107,Tryz.ntmps107
 go_wp2
 go_ret
 exact ⟨rfl,uh hg _⟩

theorem isGone_no (k p a b:Int) (h:Gd.zeroB k p a b=false) (w:World):Calls Tryz.prog 107 #[.agg #[.int .i64 k,.int .i64 p,.int .i64 a,.int .i64 b]] w (Says w (.bool false)):=by
 have hg:=hide (fun (o1:Obj)=>World.grownBy_alloc w o1 none)
 have h':¬(k=0∧p=0∧a=0∧b=0):=of_decide_eq_false h
 have e:=hide h'
 clear h h'
 go_enter Tryz.func107,Tryz.ntmps107
 go_wp2
 all_goals first | exact absurd (And.intro ‹k=0› (And.intro ‹p=0› (And.intro ‹a=0› ‹b=0›))) (uh e) | (go_ret;exact ⟨rfl,uh hg _⟩)

theorem isGone_any (k p a b:Int) (w:World):Calls Tryz.prog 107 #[.agg #[.int .i64 k,.int .i64 p,.int .i64 a,.int .i64 b]] w (Says w (.bool (Gd.zeroB k p a b))):=by
 by_cases h:Gd.zeroB k p a b=true
 ·rw [h]
  obtain ⟨rfl,rfl,rfl,rfl⟩:k=0∧p=0∧a=0∧b=0:=of_decide_eq_true h
  exact isGone_yes w
 ·have h':Gd.zeroB k p a b=false:=by simpa using h
  rw [h']
  exact isGone_no k p a b h' w

theorem under_any (g o:Nat) (x y:Int) (w:World) (hx:w.cell? ⟨g,o+3,none⟩=some (.int .i64 x)) (hy:w.cell? ⟨g,o+4,none⟩=some (.int .i64 y)) (hg:g<w.heap.size) :
  Calls Tryz.prog 185 #[.pointer (some ⟨g,o,none⟩)] w (Says w (.agg #[.int .i64 1,.int .i64 x,.int .i64 y])):=by
 have hgr:=hide (fun (o1:Obj) (m:Nat)=>gdw (World.grownBy_alloc w o1 none) m)
 go_enter Tryz.func185,Tryz.ntmps185
 go_wp2_with fail
 go_region
 go_wp2
 refine bodyPost_ret (v:=.agg #[.int .i64 1,.int .i64 x,.int .i64 y]) (by simp [results,Tryz.results185,go_sem]) rfl ?_
 exact ⟨rfl,uh hgr _ 1⟩


open Go.RowKit

theorem Gd.inQ_no {I:Nat→Nat→Int} {p a q:Int} {k:Nat} (h:¬(I k 1=p∧I k 2=a∧I k 3=q)):Gd.inQ I p a q k=false:=by
 simp only [Gd.inQ,Bool.and_eq_false_iff,decide_eq_false_iff_not]
 by_cases h1:I k 1=p
 ·by_cases h2:I k 2=a
  ·exact .inr (.inr fun h3=>h ⟨h1,h2,h3⟩)
  ·exact .inr (.inl h2)
 ·exact .inl h1

theorem Gd.inQ_yes {I:Nat→Nat→Int} {p a q:Int} {k:Nat} (h1:I k 1=p) (h2:I k 2=a) (h3:I k 3=q):Gd.inQ I p a q k=true:=by
 simp [Gd.inQ,h1,h2,h3]

set_option maxHeartbeats 1600000 in
theorem goodsAt_any (b n c:Nat) (I:Nat→Nat→Int) (p a q:Int) (w:World) (hI:Its w b 0 n I) :
  Calls Tryz.prog 189 #[.slice (some ⟨b,0,none⟩) n c,.agg #[.int .i64 p,.int .i64 a,.int .i64 q]] w (Says w (.int .i64 (Gd.find I n p a q))):=by
 have hn:=hI.1
 have hI':=hide hI
 clear hI
 go_enter Tryz.func189,Tryz.ntmps189
 go_wp2_with fail
 go_loopw [9] (fun i wr=>∃k:Nat,k≤n∧i=.int .i64 (k:Int)∧(∀j,j<k→Gd.inQ I p a q j=false)∧Arr wr w.heap.size 189 3 (fun j=>#[Value.int .i64 p,.int .i64 a,.int .i64 q][j]?.getD undef)∧w.grownBy wr none) (fun i _=>200 - (intOf i).toNat)
 case atStart=>exact ⟨0,by omega,rfl,fun j hj=>by omega,Arr.lit (heap_alloc_new w _),World.grownBy_alloc _ _ _⟩
 case round =>
  obtain ⟨k,hk,rfl,hno,hp,hgr⟩:=hrel
  have hno':=hide hno
  have hgr':=hide hgr
  have hp':=hide hp
  have p0:wr.cell? ⟨w.heap.size,0,none⟩=some (.int .i64 p):=hp.cell (i:=0) (by omega)
  have p1:wr.cell? ⟨w.heap.size,1,none⟩=some (.int .i64 a):=hp.cell (i:=1) (by omega)
  have p2:wr.cell? ⟨w.heap.size,2,none⟩=some (.int .i64 q):=hp.cell (i:=2) (by omega)
  have hlw:=hp.lt
  clear hno hgr hp
  by_cases hlt:k<n
  ·obtain ⟨u0,u1,u2,u3⟩:=((uh hI').on (uh hgr')).row hlt
   have hlt':(k:Int)<(n:Int):=by omega
   have HL:=hide hlt
   clear hlt
   go_wp2_with fail
   obtain ⟨wb,hwb⟩:∃wb,wr.alloc (.cells #[.int .i64 (I k 0),.int .i64 (I k 1),.int .i64 (I k 2),.int .i64 (I k 3)] 62)=wb:=⟨_,rfl⟩
   have hga:wr.grownBy wb none:=by rw [←hwb];exact World.grownBy_alloc _ _ _
   have hnew:=fun j (hj:j<4)=>(Arr.lit (heap_alloc_new wr (.cells #[.int .i64 (I k 0),.int .i64 (I k 1),.int .i64 (I k 2),.int .i64 (I k 3)] 62))).cell (i:=j) hj
   rw [hwb] at hnew ⊢
   have hsz:wr.heap.size<wb.heap.size:=by rw [←hwb];simp
   refine wp_region_grown (by kernel_rfl) (by kernel_rfl) ?_
   intro St hN W hI hx
   have c0:∀σ,(W σ).cell? ⟨wr.heap.size,0,none⟩=some (.int .i64 (I k 0)):=fun σ=>(gce (hI σ) _ 0 hsz (by simp)).trans (hnew 0 (by omega))
   have c1:∀σ,(W σ).cell? ⟨wr.heap.size,1,none⟩=some (.int .i64 (I k 1)):=fun σ=>(gce (hI σ) _ 1 hsz (by simp)).trans (hnew 1 (by omega))
   have c2:∀σ,(W σ).cell? ⟨wr.heap.size,2,none⟩=some (.int .i64 (I k 2)):=fun σ=>(gce (hI σ) _ 2 hsz (by simp)).trans (hnew 2 (by omega))
   have c3:∀σ,(W σ).cell? ⟨wr.heap.size,3,none⟩=some (.int .i64 (I k 3)):=fun σ=>(gce (hI σ) _ 3 hsz (by simp)).trans (hnew 3 (by omega))
   have d0:∀σ,(W σ).cell? ⟨w.heap.size,0,none⟩=some (.int .i64 p):=fun σ=>(gce (gtr hga (hI σ)) _ 0 hlw (by simp)).trans p0
   have d1:∀σ,(W σ).cell? ⟨w.heap.size,1,none⟩=some (.int .i64 a):=fun σ=>(gce (gtr hga (hI σ)) _ 1 hlw (by simp)).trans p1
   have d2:∀σ,(W σ).cell? ⟨w.heap.size,2,none⟩=some (.int .i64 q):=fun σ=>(gce (gtr hga (hI σ)) _ 2 hlw (by simp)).trans p2
   have cp:∀σ,Calls Tryz.prog 192 #[.agg #[.int .i64 (I k 0),.int .i64 (I k 1),.int .i64 (I k 2),.int .i64 (I k 3)]] (W σ) fun e w''=>e=.returned (.agg #[.int .i64 (I k 1),.int .i64 (I k 2),.int .i64 (I k 3)])∧∃σ',w''=W σ':=fun σ=>calls_class hI hx (goodsPlace_any _ _ _ _ _)
   have hI2:=hide hI
   have hga':=hide hga
   clear hI hx p0 p1 p2 u0 u1 u2 u3 hnew hwb hsz hga
   by_cases hq:I k 1=p∧I k 2=a∧I k 3=q
   ·have hqt:=hide (Gd.inQ_yes hq.1 hq.2.1 hq.2.2)
    obtain ⟨h1,h2,h3⟩:=hq
    rw [h1,h2,h3] at cp
    rw [h1] at c1
    rw [h2] at c2
    rw [h3] at c3
    clear h1 h2 h3
    repeat (go_big_quiet_step ((go_at_call 192;exact cp _)))
    refine wpQuiet_nil ?_
    rintro _ ⟨σ,rfl⟩
    obtain ⟨wq,hwq⟩:∃wq,W σ=wq:=⟨_,rfl⟩
    have hgq:=hide (uh hI2 σ)
    rw [hwq] at hgq ⊢
    clear c0 c1 c2 c3 d0 d1 d2 cp hI2 hwq
    clear σ W hN St
    have he:=hide (En.first_hit (uh hno') (uh hqt) (uh HL))
    have hfin:=hide (gtr (uh hgr') (gtr (uh hga') (uh hgq)))
    go_wp2
    go_ret
    exact ⟨rti (uh he).symm,uh hfin⟩
   ·have hqf:=hide (Gd.inQ_no hq)
    have hcmp:∀wx:World,(binOp .eql 189 (.agg #[.int .i64 (I k 1),.int .i64 (I k 2),.int .i64 (I k 3)]) (.agg #[.int .i64 p,.int .i64 a,.int .i64 q])).run Tryz.prog wx=.ok (.bool false) wx:=fun wx=>by rw [run_eq_place];exact congrArg (fun z=>Result.ok (Value.bool z) wx) (uh hqf)
    clear hq
    repeat (go_big_quiet_step ((go_at_call 192;exact cp _)))
    refine wpQuiet_nil ?_
    rintro _ ⟨σ,rfl⟩
    obtain ⟨wq,hwq⟩:∃wq,W σ=wq:=⟨_,rfl⟩
    have hgq:=hide (uh hI2 σ)
    rw [hwq] at hgq ⊢
    clear c0 c1 c2 c3 d0 d1 d2 cp hI2 hwq
    clear σ W hN St
    have hfin:=hide (gtr (uh hgr') (gtr (uh hga') (uh hgq)))
    have hpq:=hide ((uh hp').grown (gtr (uh hga') (uh hgq)) (by simp))
    clear hcmp
    go_wp2
    go_roundw
    case rel=>exact ⟨k+1,by have:=uh HL;omega,by go_num,fun j hj=>by
     by_cases e:j=k
     ·rw [e];exact uh hqf
     ·exact uh hno' j (by omega),uh hpq,uh hfin⟩
    case measure=>simp [intOf];omega
  ·have hge:¬(k:Int)<(n:Int):=by omega
   have he:=hide (En.first_none (n:=n) (fun j hj=>uh hno' j (by omega)))
   go_wp2
   go_ret
   exact ⟨rti (uh he).symm,uh hgr'⟩


open Go.RowKit

def Gd.carQ (I:Nat→Nat→Int) (n:Nat) (seat:Int) (t:Int→Bool):Nat→Bool:=fun b=>decide (0≤Gd.find I n 2 seat (b:Int)) && t (I (Gd.find I n 2 seat (b:Int)).toNat 0)

def Gd.car (I:Nat→Nat→Int) (n:Nat) (seat:Int) (t:Int→Bool):Int:=if 0≤En.first (Gd.carQ I n seat t) 4 then Gd.find I n 2 seat (En.first (Gd.carQ I n seat t) 4) else -1

theorem Gd.has_car (I:Nat→Nat→Int) (n:Nat) (seat lo hi:Int):Gd.has I n seat lo hi=Gd.car I n seat (fun k=>decide (lo≤k) && decide (k≤hi)):=rfl

theorem Gd.car_hit {I:Nat→Nat→Int} {n:Nat} {seat:Int} {t:Int→Bool} {k:Nat} (hno:∀j,j<k→Gd.carQ I n seat t j=false) (hk:Gd.carQ I n seat t k=true) (h4:k<4):Gd.car I n seat t=Gd.find I n 2 seat (k:Int):=by
 unfold Gd.car
 rw [En.first_hit hno hk h4,if_pos (by omega)]

theorem Gd.car_none {I:Nat→Nat→Int} {n:Nat} {seat:Int} {t:Int→Bool} (hno:∀j,j<4→Gd.carQ I n seat t j=false):Gd.car I n seat t=-1:=by
 unfold Gd.car
 rw [En.first_none hno,if_neg (by omega)]

theorem Gd.car_congr {I:Nat→Nat→Int} {n:Nat} {seat:Int} {t u:Int→Bool} (h:∀k,k<n→I k 1=2→t (I k 0)=u (I k 0)):Gd.car I n seat t=Gd.car I n seat u:=by
 have e:∀b,b<4→Gd.carQ I n seat t b=Gd.carQ I n seat u b:=fun b _=>by
  unfold Gd.carQ
  by_cases hf:0≤Gd.find I n 2 seat (b:Int)
  ·obtain ⟨k,hk,ek,h1,_⟩:=Gd.find_pos hf
   rw [ek,Int.toNat_natCast,h k hk h1]
  ·rw [decide_eq_false hf,Bool.false_and,Bool.false_and]
 unfold Gd.car
 rw [En.first_congr e]

theorem Gd.find_lt {I:Nat→Nat→Int} {n:Nat} {p a q:Int} (h:0≤Gd.find I n p a q):(Gd.find I n p a q).toNat<n∧Gd.find I n p a q=((Gd.find I n p a q).toNat:Int):=by
 obtain ⟨k,hk,e,_⟩:=Gd.find_pos h
 rw [e]
 simp [hk]

set_option maxHeartbeats 800000 in
theorem freeSlot_any (b n c:Nat) (I:Nat→Nat→Int) (seat:Int) (w:World) (hI:Its w b 0 n I) :
  Calls Tryz.prog 181 #[.slice (some ⟨b,0,none⟩) n c,.int .i64 seat] w (Says w (.int .i64 (Gd.slot I n seat))):=by
 have hI':=hide hI
 clear hI
 go_enter Tryz.func181,Tryz.ntmps181
 go_wp2_with fail
 go_loopw [6] (fun i wr=>∃k:Nat,k≤4∧i=.int .i64 (k:Int)∧(∀j:Nat,j<k→decide (Gd.find I n 2 seat (j:Int)<0)=false)∧w.grownBy wr none) (fun i _=>200 - (intOf i).toNat)
 case atStart=>exact ⟨0,by omega,rfl,fun j hj=>by omega,World.grownBy.refl _ _⟩
 case round =>
  obtain ⟨k,hk,rfl,hno,hgr⟩:=hrel
  have hno':=hide hno
  have hgr':=hide hgr
  clear hno hgr
  by_cases hlt:k<4
  ·have hlt':(k:Int)<4:=by omega
   have HL:=hide hlt
   have cat:=hide (goodsAt_any b n c I 2 seat (k:Int) wr ((uh hI').on (uh hgr')))
   obtain ⟨f,hf⟩:∃f,Gd.find I n 2 seat (k:Int)=f:=⟨_,rfl⟩
   rw [hf] at cat
   have hf':=hide hf
   clear hlt hf
   go_wp2_with fail
   refine (uh cat).mono ?_
   rintro e w1 ⟨rfl,hg1⟩
   have hg2:=hide (gtr (uh hgr') hg1)
   clear hg1 cat
   by_cases hneg:f<0
   ·have he:=hide (En.first_hit (q:=fun b:Nat=>decide (Gd.find I n 2 seat (b:Int)<0)) (uh hno') (by show decide _=true;rw [uh hf'];exact decide_eq_true hneg) (uh HL))
    go_wp2
    go_ret
    exact ⟨rti (uh he).symm,uh hg2⟩
   ·have hq:=hide (show decide (Gd.find I n 2 seat (k:Int)<0)=false by rw [uh hf'];exact decide_eq_false hneg)
    go_wp2
    go_roundw
    case rel=>exact ⟨k+1,by have:=uh HL;omega,by go_num,fun j hj=>by
     by_cases e:j=k
     ·rw [e];exact uh hq
     ·exact uh hno' j (by omega),uh hg2⟩
    case measure=>simp [intOf];omega
  ·have hge:¬(k:Int)<4:=by omega
   have he:=hide (En.first_none (n:=4) (q:=fun b:Nat=>decide (Gd.find I n 2 seat (b:Int)<0)) (fun j hj=>uh hno' j (by omega)))
   go_wp2
   go_ret
   exact ⟨rti (uh he).symm,uh hgr'⟩

set_option maxHeartbeats 800000 in
theorem carried_any (b n c:Nat) (I:Nat→Nat→Int) (seat input:Int) (w:World) (hI:Its w b 0 n I) :
  Calls Tryz.prog 191 #[.slice (some ⟨b,0,none⟩) n c,.int .i64 seat,.int .i64 input] w (Says w (.int .i64 (Gd.car I n seat (fun k=>Gd.serves k input)))):=by
 have hI':=hide hI
 clear hI
 go_enter Tryz.func191,Tryz.ntmps191
 go_wp2_with fail
 go_loopw [9] (fun i wr=>∃k:Nat,k≤4∧i=.int .i64 (k:Int)∧(∀j:Nat,j<k→Gd.carQ I n seat (fun k=>Gd.serves k input) j=false)∧w.grownBy wr none) (fun i _=>200 - (intOf i).toNat)
 case atStart=>exact ⟨0,by omega,rfl,fun j hj=>by omega,World.grownBy.refl _ _⟩
 case round =>
  obtain ⟨k,hk,rfl,hno,hgr⟩:=hrel
  have hno':=hide hno
  have hgr':=hide hgr
  clear hno hgr
  by_cases hlt:k<4
  ·have hlt':(k:Int)<4:=by omega
   have HL:=hide hlt
   have cat:=hide (goodsAt_any b n c I 2 seat (k:Int) wr ((uh hI').on (uh hgr')))
   have hfl:=hide (Gd.find_lt (I:=I) (n:=n) (p:=2) (a:=seat) (q:=(k:Int)))
   have hqd:=hide (show Gd.carQ I n seat (fun k=>Gd.serves k input) k=(decide (0≤Gd.find I n 2 seat (k:Int)) && Gd.serves (I (Gd.find I n 2 seat (k:Int)).toNat 0) input) from rfl)
   obtain ⟨f,hf⟩:∃f,Gd.find I n 2 seat (k:Int)=f:=⟨_,rfl⟩
   have hf':=hide hf
   rw [hf] at cat hfl hqd
   clear hlt hf
   go_wp2_with fail
   refine (uh cat).mono ?_
   rintro e w1 ⟨rfl,hg1⟩
   have hg2:=hide (gtr (uh hgr') hg1)
   clear hg1 cat
   by_cases hpos:0≤f
   ·obtain ⟨m,hm,rfl⟩:∃m:Nat,m<n∧f=(m:Int):=⟨f.toNat,(uh hfl hpos).1,(uh hfl hpos).2⟩
    have u0:=(((uh hI').on (uh hg2)).row hm).1
    have hm':(m:Int)<(n:Int):=by omega
    have hb:=hide hm
    have hqd2:Hid (Gd.carQ I n seat (fun k=>Gd.serves k input) k=Gd.serves (I m 0) input):=by
     show _=_
     rw [uh hqd,decide_eq_true hpos,Bool.true_and,Int.toNat_natCast]
    clear hfl hqd hm
    have cs:Hid (∀wx,Calls Tryz.prog 194 #[.int .i64 (I m 0),.int .i64 input] wx fun e w'=>e=.returned (.bool (Gd.serves (I m 0) input))∧w'=wx):=fun wx=>serves_any _ _ wx
    obtain ⟨r,hr⟩:∃r:Bool,Gd.serves (I m 0) input=r:=⟨_,rfl⟩
    rw [hr] at cs hqd2
    clear hr
    go_wp2_with fail
    refine (uh cs _).mono ?_
    rintro e w2 ⟨rfl,hw⟩
    subst w2
    clear cs u0
    cases r
    ·go_wp2
     go_roundw
     case rel=>exact ⟨k+1,by have:=uh HL;omega,by go_num,fun j hj=>by
      by_cases e:j=k
      ·rw [e];exact uh hqd2
      ·exact uh hno' j (by omega),uh hg2⟩
     case measure=>simp [intOf];omega
    ·have he:=hide ((Gd.car_hit (uh hno') (uh hqd2) (uh HL)).trans (uh hf'))
     go_wp2
     go_ret
     exact ⟨rti (uh he).symm,uh hg2⟩
   ·have hqf:Hid (Gd.carQ I n seat (fun k=>Gd.serves k input) k=false):=by
     show _=_
     rw [uh hqd,decide_eq_false hpos,Bool.false_and]
    have hneg:f<0:=by omega
    clear hfl hqd
    go_wp2
    go_roundw
    case rel=>exact ⟨k+1,by have:=uh HL;omega,by go_num,fun j hj=>by
     by_cases e:j=k
     ·rw [e];exact uh hqf
     ·exact uh hno' j (by omega),uh hg2⟩
    case measure=>simp [intOf];omega
  ·have hge:¬(k:Int)<4:=by omega
   have he:=hide (Gd.car_none (fun j hj=>uh hno' j (by omega)))
   go_wp2
   go_ret
   exact ⟨rti (uh he).symm,uh hgr'⟩

end Go.Proofs.YtbanjoflgoiegaaGreat
