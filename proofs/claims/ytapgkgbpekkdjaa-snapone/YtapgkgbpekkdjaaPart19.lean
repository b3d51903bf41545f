import Derived.Test.YtapgkgbpekkdjaaPart18
import Derived.Laws.BitsAllLaws
import Derived.Test.YtapgkgbpekkdjaaPart17
namespace Go.Proofs.Ytapgkgbpekkdjaa

namespace Gd

def row (k w a b:Int):Nat→Int
 | 0=>k
 | 1=>w
 | 2=>a
 | 3=>b
 | _=>0

def inQ (I:Nat→Nat→Int) (w a b:Int):Nat→Bool:=fun i=>decide (I i 1=w) && (decide (I i 2=a) && decide (I i 3=b))

def find (I:Nat→Nat→Int) (n:Nat) (w a b:Int):Int:=En.first (inQ I w a b) n

theorem find_cases (I:Nat→Nat→Int) (n:Nat) (w a b:Int):(find I n w a b=-1∧∀j,j<n→¬(I j 1=w∧I j 2=a∧I j 3=b))∨∃k:Nat,k<n∧find I n w a b=(k:Int)∧I k 1=w∧I k 2=a∧I k 3=b∧∀j,j<k→¬(I j 1=w∧I j 2=a∧I j 3=b):=by
 have conv:∀j,inQ I w a b j=false→¬(I j 1=w∧I j 2=a∧I j 3=b):=fun j h ⟨h1,h2,h3⟩=>by simp [inQ,h1,h2,h3] at h
 rcases En.first_cases (inQ I w a b) n with ⟨h,hno⟩ | ⟨k,hk,h,hq,hno⟩
 ·exact .inl ⟨h,fun j hj=>conv j (hno j hj)⟩
 ·simp only [inQ,Bool.and_eq_true,decide_eq_true_eq] at hq
  exact .inr ⟨k,hk,h,hq.1,hq.2.1,hq.2.2,fun j hj=>conv j (hno j hj)⟩

def Zero (r:Nat→Int):Prop:=r 0=0∧r 1=0∧r 2=0∧r 3=0

def Placed (c:Nat→Int) (r:Nat→Int):Prop:=1≤r 0∧r 0≤4 ∧
  ((r 1 = 1 ∧ Gr.inB (r 2) (r 3) = true ∧ Gr.walkB (Gr.at 384 c (r 2) (r 3)) = true) ∨
   (r 1 = 2 ∧ 0 ≤ r 2 ∧ r 2 < 4 ∧ 0 ≤ r 3 ∧ r 3 < 4 ∧ r 0 ≠ 4) ∨
   (r 1 = 3 ∧ 0 ≤ r 2 ∧ r 2 < 4 ∧ (r 0 = 2 ∧ r 3 = 0 ∨ r 0 = 3 ∧ r 3 = 1)) ∨
   (r 1=4∧0≤r 2∧r 2<3∧r 3=0∧r 0≠4))

def Share (r s:Nat→Int):Prop:=r 1=s 1∧r 2=s 2∧r 3=s 3

structure Ok (c:Nat→Int) (n:Nat) (I:Nat→Nat→Int):Prop where
 each:∀i,i<n→Zero (I i)∨Placed c (I i)
 one:∀i k,i<n→k<n→i≠k→I i 1≠0→¬Share (I k) (I i)

theorem Placed.where_ne {c r:Nat→Int} (h:Placed c r):r 1≠0:=by
 obtain ⟨_,_,h | h | h | h⟩:=h <;> omega

theorem Ok.put {c:Nat→Int} {n:Nat} {I:Nat→Nat→Int} (h:Ok c n I) {i:Nat} {r:Nat→Int} (hr:Zero r∨(Placed c r∧∀k,k<n→k≠i→¬Share (I k) r)):Ok c n (En.put I i r):=by
 refine ⟨fun k hk=>?_,fun j k hj hk hjk hw hs=>?_⟩
 ·by_cases e:k=i
  ·rw [e,En.put_same]
   exact hr.imp id And.left
  ·rw [En.put_other e];exact h.each k hk
 ·by_cases ej:j=i
  ·rw [ej,En.put_same] at hw hs
   rw [En.put_other (by omega)] at hs
   rcases hr with hz | ⟨_,hno⟩
   ·exact hw hz.2.1
   ·exact hno k hk (by omega) hs
  ·rw [En.put_other ej] at hw hs
   by_cases ek:k=i
   ·rw [ek,En.put_same] at hs
    rcases hr with hz | ⟨_,hno⟩
    ·exact hw (by rw [←hs.1];exact hz.2.1)
    ·exact hno j hj ej ⟨hs.1.symm,hs.2.1.symm,hs.2.2.symm⟩
   ·rw [En.put_other ek] at hs
    exact h.one j k hj hk hjk hw hs

end Gd


open Go.RowKit

def Lie (x:World) (g:Nat) (T:TypeId) (m:Nat) (F:Nat→Value):Prop:=∃M G,Arr x g T M G∧m≤M∧∀c,c<m→G c=F c

theorem Arr.lie {x:World} {g:Nat} {T:TypeId} {m:Nat} {F:Nat→Value} (h:Arr x g T m F):Lie x g T m F:=⟨m,F,h,Nat.le_refl _,fun _ _=>rfl⟩

theorem Lie.cell {x:World} {g:Nat} {T:TypeId} {m:Nat} {F:Nat→Value} (h:Lie x g T m F) {c:Nat} (hc:c<m):x.cell? ⟨g,c,none⟩=some (F c):=by
 obtain ⟨M,G,hA,hm,he⟩:=h
 rw [hA.cell (i:=c) (by omega),he c hc]

theorem Lie.free {x:World} {g:Nat} {T:TypeId} {m:Nat} {F:Nat→Value} (h:Lie x g T m F) (i:Nat):x.frozen? ⟨g,i,none⟩=false:=by
 obtain ⟨M,G,hA,_,_⟩:=h
 exact hA.free i

theorem Lie.lt {x:World} {g:Nat} {T:TypeId} {m:Nat} {F:Nat→Value} (h:Lie x g T m F):g<x.heap.size:=by
 obtain ⟨M,G,hA,_,_⟩:=h
 exact hA.lt

theorem Lie.congr {x:World} {g:Nat} {T:TypeId} {m:Nat} {F G:Nat→Value} (h:Lie x g T m F) (he:∀c,c<m→F c=G c):Lie x g T m G:=by
 obtain ⟨M,K,hA,hm,hk⟩:=h
 exact ⟨M,K,hA,hm,fun c hc=>(hk c hc).trans (he c hc)⟩

theorem Lie.grown {x y:World} {g:Nat} {T:TypeId} {m:Nat} {F:Nat→Value} {r:Option Nat} (h:Lie x g T m F) (hg:x.grownBy y r) (hr:r≠some g):Lie y g T m F:=by
 obtain ⟨M,K,hA,hm,hk⟩:=h
 exact ⟨M,K,hA.grown hg hr,hm,hk⟩

theorem Lie.on {x y:World} {g:Nat} {T:TypeId} {m:Nat} {F:Nat→Value} (h:Lie x g T m F) (hg:x.grownBy y none):Lie y g T m F:=h.grown hg (by simp)

theorem Lie.below {x y:World} {B g:Nat} {T:TypeId} {m:Nat} {F:Nat→Value} (h:Lie x g T m F) (hb:Below B x y) (hg:g<B):Lie y g T m F:=by
 obtain ⟨M,K,hA,hm,hk⟩:=h
 exact ⟨M,K,hA.kept hb hg,hm,hk⟩

theorem Lie.other {x:World} {g:Nat} {T:TypeId} {m:Nat} {F:Nat→Value} (h:Lie x g T m F) {p:Nat} (hp:p≠g) (i:Nat) (u:Value):Lie (x.setCell ⟨p,i,none⟩ u) g T m F :=
 h.grown (gs0 x p i u) (by simpa using hp)

theorem Lie.others {x:World} {g:Nat} {T:TypeId} {m:Nat} {F:Nat→Value} (h:Lie x g T m F) {p:Nat} (hp:p≠g) (o:Nat) (vs:List Value):Lie (x.setCells p o vs) g T m F :=
 h.grown (gss vs o x (World.grownBy.refl _ _)) (by simpa using hp)

theorem Lie.store {x:World} {g:Nat} {T:TypeId} {m:Nat} {F:Nat→Value} (h:Lie x g T m F) (i:Nat) (u:Value):Lie (x.setCell ⟨g,i,none⟩ u) g T m (fun j=>if j=i then u else F j):=by
 obtain ⟨M,K,hA,hm,hk⟩:=h
 refine ⟨M,_,hA.store i u,hm,fun c hc=>?_⟩
 show (if c=i then u else K c)=_
 rw [hk c hc]

theorem Lie.stores {x:World} {g:Nat} {T:TypeId} {m:Nat} {F:Nat→Value} (h:Lie x g T m F) (o:Nat) (vs:List Value):Lie (x.setCells g o vs) g T m (fun j=>if o≤j∧j<o+vs.length then vs[j - o]?.getD undef else F j):=by
 obtain ⟨M,K,hA,hm,hk⟩:=h
 refine ⟨M,_,hA.stores vs o,hm,fun c hc=>?_⟩
 show (if o≤c∧c<o+vs.length then vs[c - o]?.getD undef else K c)=_
 rw [hk c hc]

def Gd.cells (r:Nat→Int):Array Value:=#[.int .i64 (r 0),.int .i64 (r 1),.int .i64 (r 2),.int .i64 (r 3)]

def Gd.flat (I:Nat→Nat→Int):Nat→Value:=fun c=>.int .i64 (I (c / 4) (c % 4))

theorem Gd.flat_at (I:Nat→Nat→Int) (i j:Nat) (hj:j<4):Gd.flat I (i*4+j)=.int .i64 (I i j):=by
 unfold Gd.flat
 rw [show (i*4+j) / 4=i by omega,show (i*4+j) % 4=j by omega]

def Its (w:World) (b o n:Nat) (I:Nat→Nat→Int):Prop:=n≤100∧b<w.heap.size∧∀i j,i<n→j<4→w.cell? ⟨b,o+i*4+j,none⟩=some (.int .i64 (I i j))

theorem Its.on {w w':World} {b o n:Nat} {I:Nat→Nat→Int} (h:Its w b o n I) (hg:w.grownBy w' none):Its w' b o n I :=
 ⟨h.1,Nat.lt_of_lt_of_le h.2.1 hg.size,fun i j hi hj=>(gce hg b _ h.2.1 (by simp)).trans (h.2.2 i j hi hj)⟩

theorem Its.row {w:World} {b n:Nat} {I:Nat→Nat→Int} (h:Its w b 0 n I) {k:Nat} (hk:k<n) :
  w.cell? ⟨b,k*4,none⟩=some (.int .i64 (I k 0))∧w.cell? ⟨b,k*4+1,none⟩=some (.int .i64 (I k 1))∧w.cell? ⟨b,k*4+2,none⟩=some (.int .i64 (I k 2))∧w.cell? ⟨b,k*4+3,none⟩=some (.int .i64 (I k 3)):=by
 have:=fun j hj=>h.2.2 k j hk hj
 simp only [Nat.zero_add] at this
 exact ⟨this 0 (by omega),this 1 (by omega),this 2 (by omega),this 3 (by omega)⟩

theorem Lie.its {x:World} {g n m:Nat} {T:TypeId} {I:Nat→Nat→Int} (h:Lie x g T m (Gd.flat I)) (hm:n*4=m) (hn:n≤100):Its x g 0 n I :=
 ⟨hn,h.lt,fun i j hi hj=>by rw [Nat.zero_add,h.cell (c:=i*4+j) (by omega),Gd.flat_at I i j hj]⟩

theorem Lie.own {x:World} {g n m:Nat} {E:Nat→Nat→Int} (h:Lie x g 45 m (En.flat E)) (hm:n*11=m) (hn:n≤32):Own x g n E:=by
 obtain ⟨M,K,hA,hl,hk⟩:=h
 exact ⟨hn,M,K,hA,by omega,fun c hc=>hk c (by omega)⟩

theorem Own.lie {x:World} {g n m:Nat} {E:Nat→Nat→Int} (h:Own x g n E) (hm:n*11=m):Lie x g 45 m (En.flat E):=by
 obtain ⟨_,M,K,hA,hl,hk⟩:=h
 exact ⟨M,K,hA,by omega,fun c hc=>hk c (by omega)⟩

theorem Gd.cells_at (r:Nat→Int) (j:Nat) (hj:j<4):(Gd.cells r).toList[j]?.getD undef=.int .i64 (r j):=by
 rcases (show j=0∨j=1∨j=2∨j=3 by omega) with rfl | rfl | rfl | rfl <;> rfl

theorem Lie.item {x:World} {g m:Nat} {T:TypeId} {I:Nat→Nat→Int} (h:Lie x g T m (Gd.flat I)) (k:Nat) (r:Nat→Int):Lie (x.setCells g (k*4) (Gd.cells r).toList) g T m (Gd.flat (En.put I k r)):=by
 refine (h.stores (k*4) (Gd.cells r).toList).congr fun c hc=>?_
 show (if k*4≤c∧c<k*4+4 then (Gd.cells r).toList[c - k*4]?.getD undef else Gd.flat I c)=Gd.flat (En.put I k r) c
 unfold Gd.flat
 by_cases hk:k*4≤c∧c<k*4+4
 ·rw [if_pos hk,Gd.cells_at r _ (by omega),show c / 4=k by omega,En.put_same,show c - k*4=c % 4 by omega]
 ·rw [if_neg hk,En.put_other (by omega)]

def Gd.box (s:Nat→Int) (gC gE gI:Nat) (cC cE cI:Nat) (g:Nat→Int):Nat→Value
 | 0=>.int .i64 (s 0)
 | 1=>.int .i64 (s 1)
 | 2=>.int .i64 (s 2)
 | 3=>.int .i64 (s 3)
 | 4=>.slice (some ⟨gC,0,none⟩) 384 cC
 | 5=>.slice (some ⟨gE,0,none⟩) 32 cE
 | 6=>.slice (some ⟨gI,0,none⟩) 40 cI
 | 7=>.int .i64 (g 0)
 | 8=>.int .i64 (g 1)
 | 9=>.int .i64 (g 2)
 | 10=>.int .i64 (g 3)
 | _=>undef

def Gd.world (s:Nat→Int) (gC gE gI:Nat) (cC cE cI:Nat) (g:Nat→Int):Array Value :=
 #[.int .i64 (s 0),.int .i64 (s 1),.int .i64 (s 2),.int .i64 (s 3),.slice (some ⟨gC,0,none⟩) 384 cC,.slice (some ⟨gE,0,none⟩) 32 cE,.slice (some ⟨gI,0,none⟩) 40 cI,.int .i64 (g 0),.int .i64 (g 1),.int .i64 (g 2),.int .i64 (g 3)]

theorem Gd.world_at (s:Nat→Int) (gC gE gI cC cE cI:Nat) (g:Nat→Int) (j:Nat) (hj:j<11):(Gd.world s gC gE gI cC cE cI g)[j]?=some (Gd.box s gC gE gI cC cE cI g j):=by
 rcases (show j=0∨j=1∨j=2∨j=3∨j=4∨j=5∨j=6∨j=7∨j=8∨j=9∨j=10 by omega) with rfl | rfl | rfl | rfl | rfl | rfl | rfl | rfl | rfl | rfl | rfl <;> rfl

theorem Arr.world {w:World} {B:Nat} {s:Nat→Int} {gC gE gI cC cE cI:Nat} {g:Nat→Int} (h:w.heap[B]?=some (.cells (Gd.world s gC gE gI cC cE cI g) 29 (0,0))):Arr w B 29 11 (Gd.box s gC gE gI cC cE cI g) :=
 ⟨_,h,rfl,fun i hi=>Gd.world_at s gC gE gI cC cE cI g i hi⟩

structure Gd.Lists (x:World) (gC gE gI:Nat) (c:Nat→Int) (E I:Nat→Nat→Int):Prop where
 cells:Lie x gC 5 384 (Byts c)
 ents:Lie x gE 45 352 (En.flat E)
 items:Lie x gI 47 160 (Gd.flat I)

theorem Gd.Lists.on {x y:World} {gC gE gI:Nat} {c:Nat→Int} {E I:Nat→Nat→Int} (h:Gd.Lists x gC gE gI c E I) (hg:x.grownBy y none):Gd.Lists y gC gE gI c E I :=
 ⟨h.cells.on hg,h.ents.on hg,h.items.on hg⟩

theorem Gd.Lists.below {x y:World} {B gC gE gI:Nat} {c:Nat→Int} {E I:Nat→Nat→Int} (h:Gd.Lists x gC gE gI c E I) (hb:Below B x y) (h1:gC<B) (h2:gE<B) (h3:gI<B):Gd.Lists y gC gE gI c E I :=
 ⟨h.cells.below hb h1,h.ents.below hb h2,h.items.below hb h3⟩

theorem Gd.Lists.its {x:World} {gC gE gI:Nat} {c:Nat→Int} {E I:Nat→Nat→Int} (h:Gd.Lists x gC gE gI c E I):Its x gI 0 40 I:=h.items.its (by omega) (by omega)

theorem Gd.Lists.own {x:World} {gC gE gI:Nat} {c:Nat→Int} {E I:Nat→Nat→Int} (h:Gd.Lists x gC gE gI c E I):Own x gE 32 E:=h.ents.own (by omega) (by omega)

theorem Gd.Lists.vec {x:World} {gC gE gI:Nat} {c:Nat→Int} {E I:Nat→Nat→Int} (h:Gd.Lists x gC gE gI c E I):Vec x.heap.size x (some ⟨gC,0,none⟩) 384 (Byts c) :=
 ⟨by unfold maxLen;omega,.inr ⟨gC,0,rfl,h.cells.lt,fun i hi=>by rw [Nat.zero_add];exact h.cells.cell hi⟩⟩

structure Gd.Hold (x:World) (B gC gE gI:Nat) (cC cE cI:Nat) (s:Nat→Int) (g:Nat→Int) (c:Nat→Int) (E I:Nat→Nat→Int):Prop where
 box:Lie x B 29 11 (Gd.box s gC gE gI cC cE cI g)
 lists:Gd.Lists x gC gE gI c E I
 bC:B≠gC
 bE:B≠gE
 bI:B≠gI
 cE:gC≠gE
 cI:gC≠gI
 eI:gE≠gI

theorem Gd.Hold.on {x y:World} {B gC gE gI cC cE cI:Nat} {s g c:Nat→Int} {E I:Nat→Nat→Int} (h:Gd.Hold x B gC gE gI cC cE cI s g c E I) (hg:x.grownBy y none):Gd.Hold y B gC gE gI cC cE cI s g c E I :=
 { h with box:=h.box.on hg,lists:=h.lists.on hg }

def Gd.list (m:Nat) (F:Nat→Value):List Value:=(List.range m).map F

theorem Gd.list_len (m:Nat) (F:Nat→Value):(Gd.list m F).length=m:=by simp [Gd.list]

theorem Gd.list_at {m:Nat} {F:Nat→Value} {c:Nat} (hc:c<m):(Gd.list m F)[c]?=some (F c):=by
 unfold Gd.list
 rw [List.getElem?_map,List.getElem?_range hc]
 rfl

theorem Gd.list_one {m:Nat} {F:Nat→Value} (h:∀c,(F c).oneCell'=true):∀v∈Gd.list m F,v.oneCell'=true:=by
 intro v hv
 unfold Gd.list at hv
 obtain ⟨c,_,rfl⟩:=List.mem_map.1 hv
 exact h c

theorem Gd.list_src {w:World} {b m:Nat} {F:Nat→Value} (h:∀c,c<m→w.cell? ⟨b,c,none⟩=some (F c)):∀j v,(Gd.list m F)[j]?=some v→w.cell? ((⟨b,0,none⟩:Addr).add j)=some v:=by
 intro j v hj
 have hlt:j<m:=by
  have:=(List.getElem?_eq_some_iff.1 hj).1
  rwa [Gd.list_len] at this
 rw [Gd.list_at hlt] at hj
 rw [show (⟨b,0,none⟩:Addr).add j=⟨b,j,none⟩ by rw [Go.WideShapes.add_plain,Nat.zero_add],h j hlt]
 exact hj

theorem Arr.of_list {w:World} {g m:Nat} {T:TypeId} {F:Nat→Value} (h:w.heap[g]?=some (.cells (Gd.list m F).toArray T (0,0))):Arr w g T m F:=by
 refine ⟨_,h,by simp [Gd.list_len],fun c hc=>?_⟩
 rw [List.getElem?_toArray,Gd.list_at hc]

def Copies (w:World) (T:TypeId) (n m:Nat) (F:Nat→Value) (e:Ending) (w':World):Prop :=
 ∃g,e=.returned (.slice (some ⟨g,0,none⟩) n n)∧w.heap.size≤g∧Arr w' g T m F∧w.grownBy w' none


open Go.RowKit

def Nv.Words (n:Nat) (E:Nat→Nat→Int):Prop:=∀i,i<n→(-9223372036854775808≤E i 3∧E i 3≤9223372036854775807)∧(-9223372036854775808≤E i 4∧E i 4≤9223372036854775807)

end Go.Proofs.Ytapgkgbpekkdjaa
