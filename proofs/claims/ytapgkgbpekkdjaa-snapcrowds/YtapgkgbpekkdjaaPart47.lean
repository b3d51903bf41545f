import Derived.Test.YtapgkgbpekkdjaaPart43
namespace Go.Proofs.Ytapgkgbpekkdjaa
open Go.RowKit

theorem Cr.ent_cells {p:Int × Nat} (h1:2≤p.1) (h4:p.1≤4):Gn.ent p.1 ((p.2:Int) % 24) ((p.2:Int) / 24)=En.cells (Cr.one p.1 0 p.2):=by
 obtain ⟨k,q⟩:=p
 rcases (show k=2∨k=3∨k=4 by have h1':2≤k:=h1;have h4':k≤4:=h4;omega) with rfl | rfl | rfl <;> rfl

def Cr.Mons (w:World) (a:Option Addr) (n:Nat) (es:List (Int × Nat)):Prop:=n=es.length∧n≤40∧∀i p,es[i]?=some p→(2≤p.1∧p.1≤4∧p.2<384)∧∃b,a=some ⟨b,0,none⟩∧b<w.heap.size∧∀j,j<11→w.cell? ⟨b,i*11+j,none⟩=some (.int .i64 (Cr.one p.1 0 p.2 j))

theorem Cr.Mons.on {w w':World} {a:Option Addr} {n:Nat} {es:List (Int × Nat)} (h:Cr.Mons w a n es) (hg:w.grownBy w' none):Cr.Mons w' a n es :=
 ⟨h.1,h.2.1,fun i p hp=>by
  obtain ⟨hk,b,ha,hb,hc⟩:=h.2.2 i p hp
  exact ⟨hk,b,ha,Nat.lt_of_lt_of_le hb hg.size,fun j hj=>(gce hg b _ hb (by simp)).trans (hc j hj)⟩⟩

theorem Cr.mons_of {w:World} {b nE cE:Nat} {aE:Option Addr} {es:List (Int × Nat)} (h:w.ownsRow b 45 11 (.slice aE nE cE) nE (Gn.flat es)) (hn:nE=es.length) (h40:nE≤40) (hk:∀p,p∈es→2≤p.1∧p.1≤4∧p.2<384):Cr.Mons w aE nE es :=
 ⟨hn,h40,fun i p hp=>by
  have hlt:i<nE:=by
   rw [hn]
   exact (List.getElem?_eq_some_iff.1 hp).1
  obtain ⟨g,ha,hg,hc⟩:=ents_cells h hp hlt
  have hk':=hk p (List.mem_of_getElem? hp)
  refine ⟨hk',g,ha,hg,fun j hj=>?_⟩
  rw [hc j hj]
  have e:Gn.entCells p=(En.cells (Cr.one p.1 0 p.2)).toList:=by
   rw [←Cr.ent_cells hk'.1 hk'.2.1]
   rfl
  rw [e]
  rcases (show j=0∨j=1∨j=2∨j=3∨j=4∨j=5∨j=6∨j=7∨j=8∨j=9∨j=10 by omega) with rfl | rfl | rfl | rfl | rfl | rfl | rfl | rfl | rfl | rfl | rfl <;> rfl⟩

theorem Cr.goods_of {w:World} {b nI cI:Nat} {aI:Option Addr} {is:List Gn.Itm} (h:w.ownsRow b 47 4 (.slice aI nI cI) nI (Gn.flatI is)) (hn:nI=is.length) (h100:nI≤100):Gd.Some w aI nI (Cr.itemOf is):=by
 refine ⟨h100,?_⟩
 by_cases h0:nI=0
 ·exact .inl h0
 ·have hat:∀i,i<nI→∃p,is[i]?=some p:=fun i hi=>⟨is[i]'(by omega),List.getElem?_eq_getElem _⟩
  obtain ⟨p0,hp0⟩:=hat 0 (by omega)
  obtain ⟨g,ha,hg,-⟩:=items_cells h hp0 (by omega)
  refine .inr ⟨g,0,ha,h100,hg,fun i j hi hj=>?_⟩
  obtain ⟨p,hp⟩:=hat i hi
  obtain ⟨g',ha',_,hc⟩:=items_cells h hp hi
  obtain rfl:g=g':=by
   rw [ha] at ha'
   simpa using ha'
  rw [Nat.zero_add,hc j hj]
  obtain ⟨e0,e1,e2,e3⟩:=Cr.item_at hp
  rcases (show j=0∨j=1∨j=2∨j=3 by omega) with rfl | rfl | rfl | rfl
  ·rw [e0];rfl
  ·rw [e1];rfl
  ·rw [e2];rfl
  ·rw [e3];rfl

def Cr.Same (lo:Nat) (x y:World):Prop:=x.heap.size≤y.heap.size∧∀k,lo≤k→k<x.heap.size→y.heap[k]?=x.heap[k]?

theorem Cr.Same.owns {lo:Nat} {x y:World} {e:TypeId} {z n:Nat} {v:Value} {xs:List Value} (h:Cr.Same lo x y) (ho:x.ownsRow lo e z v n xs):y.ownsRow lo e z v n xs:=by
 obtain ⟨h1,h2 | ⟨g,cap,cur,h3,h4,h5,h6⟩⟩:=ho
 ·exact ⟨h1,.inl h2⟩
 ·exact ⟨h1,.inr ⟨g,cap,cur,h3,h4,(h.2 g h4 (lt_of_block h5)).trans h5,h6⟩⟩

def Cr.Made (seed f:Int) (w:World) (e:Ending) (w':World):Prop :=
 ∃(c:Nat→Int) (es:List (Int × Nat)) (is:List Gn.Itm) (G nE nI kE kI:Nat) (aE aI:Option Addr),Cr.Lev seed f c es is∧e=.returned (.agg #[.slice (some ⟨G,0,none⟩) 384 384,.slice aE nE kE,.slice aI nI kI])∧w.heap.size≤G∧Lie w' G 5 384 (Byts c)∧Cr.Mons w' aE nE es∧Gd.Some w' aI nI (Cr.itemOf is)∧nI=is.length∧w.grownBy w' none∧∀z,Cr.Same w.heap.size w' z→Cr.Mons z aE nE es∧Gd.Some z aI nI (Cr.itemOf is)

end Go.Proofs.Ytapgkgbpekkdjaa
