import Derived.Test.YtbanjoflgoiegabGreatPf31
import Derived.Test.YtbanjoflgoiegabGreatPf25
namespace Go.Proofs.YtbanjoflgoiegabGreat
open Go.RowKit

theorem Md.snug_cap {s:Nat→Int} {gC gE gI cC cE cI:Nat} {g:Nat→Int} (h:Gd.Snug (.returned (.agg (Gd.world s gC gE gI cC cE cI g)))):384≤cC:=by
 obtain ⟨s',gC',gE',gI',g',he⟩:=h
 simp [Gd.world] at he
 omega


open Go.RowKit

namespace Gn

theorem nodup_inj {l:List Nat} (h:l.Nodup) {i j:Nat} (hi:i<l.length) (hj:j<l.length) (e:l[i]=l[j]):i=j:=by
 rcases Nat.lt_trichotomy i j with g | g | g
 ·exact absurd e (List.pairwise_iff_getElem.1 h i j hi hj g)
 ·exact g
 ·exact absurd e.symm (List.pairwise_iff_getElem.1 h j i hj hi g)

theorem erase_mem {l:List Nat} {n x:Nat} (hl:l.Nodup) (hn:n<l.length) (h:x∈l.eraseIdx n):x≠l[n]?.getD 0:=by
 intro e
 rw [List.getElem?_eq_getElem hn] at e
 obtain ⟨i,hi,hx⟩:=List.getElem_of_mem h
 have hle:(l.eraseIdx n).length=l.length - 1:=by rw [List.length_eraseIdx,if_pos hn]
 rw [List.getElem_eraseIdx] at hx
 rw [e] at hx
 simp only [Option.getD_some] at hx
 split at hx
 ·have:=nodup_inj hl _ _ hx
  omega
 ·have:=nodup_inj hl _ _ hx
  omega

theorem pick_lt {d:Dice} (hd:Fair d) (a:Int) {l:List Nat} (hl:l.length≠0):(d a 0 (l.length:Int)).toNat<l.length:=by
 have:=hd a 0 (l.length:Int) (by omega)
 omega

theorem pick_mem {l:List Nat} {n:Nat} (hn:n<l.length):l[n]?.getD 0∈l:=by
 rw [List.getElem?_eq_getElem hn]
 exact List.getElem_mem hn

theorem mons_all {d:Dice} (hd:Fair d) (f:Int) (h1:1≤f):∀(m k:Nat) (l:List Nat) (p:Int × Nat),p∈mons d f m k l→p.2∈l∧2≤p.1∧p.1≤4
 | 0,_,_,_,h=>by cases h
 | m+1,k,l,p,h=>by
  unfold mons at h
  split at h
  ·cases h
  ·rename_i hl
   have hn:=pick_lt hd (7+(k:Int)) hl
   rcases List.mem_cons.1 h with rfl | h
   ·refine ⟨pick_mem hn,?_⟩
    have hM:1≤(if 3<f+1 then (3:Int) else f+1)∧(if 3<f+1 then (3:Int) else f+1)≤3:=by split <;> omega
    have:=hd (16+(k:Int)) 1 (if 3<f+1 then 3 else f+1) hM.1
    show 2≤kind d f k∧kind d f k≤4
    unfold kind
    omega
   ·have ih:=mons_all hd f h1 m (k+1) _ p h
    exact ⟨List.mem_of_mem_eraseIdx ih.1,ih.2⟩

theorem mons_apart {d:Dice} (hd:Fair d) (f:Int) (h1:1≤f):∀(m k:Nat) (l:List Nat),l.Nodup→(mons d f m k l).Pairwise (fun p q=>p.2≠q.2)
 | 0,_,_,_=>List.Pairwise.nil
 | m+1,k,l,hl=>by
  unfold mons
  split
  ·exact List.Pairwise.nil
  ·rename_i h0
   have hn:=pick_lt hd (7+(k:Int)) h0
   refine List.Pairwise.cons (fun q hq=>?_) (mons_apart hd f h1 m (k+1) _ (hl.sublist (List.eraseIdx_sublist l _)))
   have:=(mons_all hd f h1 m (k+1) _ q hq).1
   exact (erase_mem hl hn this).symm

theorem those_nodupS (p:Nat→Bool) (n:Nat):(those p n).Nodup:=List.Nodup.sublist List.filter_sublist List.nodup_range

theorem those_mem {p:Nat→Bool} {n i:Nat} (h:i∈those p n):i<n∧p i=true:=by
 have:=List.mem_filter.1 h
 exact ⟨List.mem_range.1 this.1,this.2⟩

theorem ents_at {d:Dice} (hd:Fair d) {f:Int} (h1:1≤f) {c F:Nat→Int} {i:Nat} {p:Int × Nat} (h:(ents d f c F)[i]?=some p):2≤p.1∧p.1≤4∧p.2<384∧c p.2=1∧4≤F p.2:=by
 have hm:=List.mem_of_getElem? h
 obtain ⟨h2,h3,h4⟩:=mons_all hd f h1 _ _ _ p hm
 obtain ⟨h5,h6⟩:=List.mem_filter.1 h2
 obtain ⟨h7,h8⟩:=those_mem h5
 refine ⟨h3,h4,h7,by simpa using h8,?_⟩
 unfold afar at h6
 simp at h6
 exact h6

theorem pair_at {α:Type} {R:α→α→Prop} {l:List α} (h:l.Pairwise R) {i j:Nat} {p q:α} (hij:i<j) (hp:l[i]?=some p) (hq:l[j]?=some q):R p q:=by
 obtain ⟨h1,rfl⟩:=List.getElem?_eq_some_iff.1 hp
 obtain ⟨h2,rfl⟩:=List.getElem?_eq_some_iff.1 hq
 exact List.pairwise_iff_getElem.1 h i j h1 h2 hij

theorem lie_all {d:Dice} (hd:Fair d):∀(m k:Nat) (l:List Nat) (p:Itm),p∈lie d m k l→∃(K:Int) (cl:Nat),p=(K,1,(cl:Int) % 24,(cl:Int) / 24)∧cl∈l∧1≤K∧K≤4
 | 0,_,_,_,h=>by cases h
 | m+1,k,l,p,h=>by
  unfold lie at h
  split at h
  ·cases h
  ·rename_i hl
   have hn:=pick_lt hd (40+(k:Int)) hl
   rcases List.mem_cons.1 h with rfl | h
   ·have:=hd (40+(k:Int)) 1 4 (by omega)
    exact ⟨_,_,rfl,pick_mem hn,by omega,by omega⟩
   ·obtain ⟨K,cl,he,hc,hk⟩:=lie_all hd m (k+1) _ p h
    exact ⟨K,cl,he,List.mem_of_mem_eraseIdx hc,hk⟩

theorem lie_apart {d:Dice} (hd:Fair d):∀(m k:Nat) (l:List Nat),l.Nodup→(lie d m k l).Pairwise (fun p q=>¬(p.2.2.1=q.2.2.1∧p.2.2.2=q.2.2.2))
 | 0,_,_,_=>List.Pairwise.nil
 | m+1,k,l,hl=>by
  unfold lie
  split
  ·exact List.Pairwise.nil
  ·rename_i h0
   have hn:=pick_lt hd (40+(k:Int)) h0
   refine List.Pairwise.cons (fun q hq=>?_) (lie_apart hd m (k+1) _ (hl.sublist (List.eraseIdx_sublist l _)))
   obtain ⟨K,cl,rfl,hc,_⟩:=lie_all hd m (k+1) _ q hq
   have:=erase_mem hl hn hc
   rintro ⟨e1,e2⟩
   simp only at e1 e2
   omega

def lying (d:Dice) (c:Nat→Int):Nat:=(lie d 4 0 (those (fun i=>c i == 1) 384)).length

theorem items_lie {d:Dice} (hd:Fair d) {c:Nat→Int} {i:Nat} {p:Itm} (hi:i<lying d c) (h:(items d c)[i]?=some p):∃(K:Int) (cl:Nat),p=(K,1,(cl:Int) % 24,(cl:Int) / 24)∧cl<384∧c cl=1∧1≤K∧K≤4:=by
 unfold items at h
 rw [List.getElem?_append_left hi] at h
 obtain ⟨K,cl,he,hc,hk⟩:=lie_all hd _ _ _ p (List.mem_of_getElem? h)
 obtain ⟨h7,h8⟩:=those_mem hc
 exact ⟨K,cl,he,h7,by simpa using h8,hk⟩

theorem items_apart {d:Dice} (hd:Fair d) {c:Nat→Int} {i j:Nat} {p q:Itm} (hij:i<j) (hj:j<lying d c) (hp:(items d c)[i]?=some p) (hq:(items d c)[j]?=some q):¬(p.2.2.1=q.2.2.1∧p.2.2.2=q.2.2.2):=by
 unfold items at hp hq
 rw [List.getElem?_append_left (by unfold lying at hj;omega)] at hp
 rw [List.getElem?_append_left hj] at hq
 exact pair_at (lie_apart hd 4 0 _ (those_nodupS _ _)) hij hp hq

theorem items_len (d:Dice) (c:Nat→Int):(items d c).length=lying d c+(if Gr.find 384 c 5<0 then 0 else 3)∧lying d c≤4:=by
 unfold items lying
 rw [List.length_append]
 refine ⟨?_,lie_len d 4 0 _⟩
 split <;> rfl

theorem flat_at (es:List (Int × Nat)):∀(i j:Nat) (p:Int × Nat),es[i]?=some p→j<11→(flat es)[i*11+j]?=(entCells p)[j]?:=by
 induction es with
 | nil=>intro i j p h;simp at h
 | cons q es ih =>
  intro i j p h hj
  have hf:flat (q :: es)=entCells q ++ flat es:=rfl
  have hq:(entCells q).length=11:=rfl
  rw [hf]
  cases i with
  | zero =>
   simp only [List.getElem?_cons_zero,Option.some.injEq] at h
   rw [List.getElem?_append_left (by omega),h]
   congr 1
   omega
  | succ i =>
   rw [List.getElem?_cons_succ] at h
   rw [List.getElem?_append_right (by omega),hq,show (i+1)*11+j - 11=i*11+j by omega]
   exact ih i j p h hj

theorem flatI_at (es:List Itm):∀(i j:Nat) (p:Itm),es[i]?=some p→j<4→(flatI es)[i*4+j]?=(itemCells p)[j]?:=by
 induction es with
 | nil=>intro i j p h;simp at h
 | cons q es ih =>
  intro i j p h hj
  have hf:flatI (q :: es)=itemCells q ++ flatI es:=rfl
  have hq:(itemCells q).length=4:=rfl
  rw [hf]
  cases i with
  | zero =>
   simp only [List.getElem?_cons_zero,Option.some.injEq] at h
   rw [List.getElem?_append_left (by omega),h]
   congr 1
   omega
  | succ i =>
   rw [List.getElem?_cons_succ] at h
   rw [List.getElem?_append_right (by omega),hq,show (i+1)*4+j - 4=i*4+j by omega]
   exact ih i j p h hj

end Gn

theorem ents_cells {w:World} {b nE cE:Nat} {aE:Option Addr} {es:List (Int × Nat)} (h:w.ownsRow b 42 11 (.slice aE nE cE) nE (Gn.flat es)) {i:Nat} {p:Int × Nat} (hp:es[i]?=some p) (hi:i<nE) :
  ∃g,aE=some ⟨g,0,none⟩∧g<w.heap.size∧∀j,j<11→w.cell? ⟨g,i*11+j,none⟩=(Gn.entCells p)[j]?:=by
 rcases h.2 with ⟨h',h0⟩ | ⟨g,cap,cur,h',_,hg,_⟩
 ·omega
 ·simp only [Value.slice.injEq] at h'
  obtain ⟨rfl,_,rfl⟩:=h'
  refine ⟨g,rfl,lt_of_block hg,fun j hj=>?_⟩
  rw [h.cellAt (i*11+j) (by omega)]
  exact Gn.flat_at es i j p hp hj

theorem items_cells {w:World} {b nE cE:Nat} {aE:Option Addr} {es:List Gn.Itm} (h:w.ownsRow b 47 4 (.slice aE nE cE) nE (Gn.flatI es)) {i:Nat} {p:Gn.Itm} (hp:es[i]?=some p) (hi:i<nE) :
  ∃g,aE=some ⟨g,0,none⟩∧g<w.heap.size∧∀j,j<4→w.cell? ⟨g,i*4+j,none⟩=(Gn.itemCells p)[j]?:=by
 rcases h.2 with ⟨h',h0⟩ | ⟨g,cap,cur,h',_,hg,_⟩
 ·omega
 ·simp only [Value.slice.injEq] at h'
  obtain ⟨rfl,_,rfl⟩:=h'
  refine ⟨g,rfl,lt_of_block hg,fun j hj=>?_⟩
  rw [h.cellAt (i*4+j) (by omega)]
  exact Gn.flatI_at es i j p hp hj


open Go.RowKit

theorem Gd.ent_box (w:World) (e:Nat→Int):(w.alloc (.cells (En.cells e) 42)).cell? ⟨w.heap.size,3,none⟩=some (.int .i64 (e 3))∧(w.alloc (.cells (En.cells e) 42)).cell? ⟨w.heap.size,4,none⟩=some (.int .i64 (e 4))∧(w.alloc (.cells (En.cells e) 42)).cell? ⟨w.heap.size,5,none⟩=some (.int .i64 (e 5))∧(w.alloc (.cells (En.cells e) 42)).cell? ⟨w.heap.size,6,none⟩=some (.int .i64 (e 6)):=by
 have h:=Arr.lit (heap_alloc_new w (.cells (En.cells e) 42))
 exact ⟨h.cell (i:=3) (by show 3<11;omega),h.cell (i:=4) (by show 4<11;omega),h.cell (i:=5) (by show 5<11;omega),h.cell (i:=6) (by show 6<11;omega)⟩

theorem Gd.ent_far {w x:World} {B gC gE gI cC cE cI:Nat} {s g c:Nat→Int} {E I:Nat→Nat→Int} (h:Gd.Boxed w x B gC gE gI cC cE cI s g c E I):x.heap.size≠gE∧x.heap.size≠gI∧x.heap.size≠B:=by
 have h1:=h.hold.lists.ents.lt
 have h2:=h.hold.lists.items.lt
 have h3:=h.hold.box.lt
 exact ⟨by omega,by omega,by omega⟩

theorem Gd.Boxed.items {w x y:World} {B gC gE gI cC cE cI:Nat} {s g c:Nat→Int} {E I J:Nat→Nat→Int} (h:Gd.Boxed w x B gC gE gI cC cE cI s g c E I) (hg:x.grownBy y (some gI)) (hI:Lie y gI 47 160 (Gd.flat J)):Gd.Boxed w y B gC gE gI cC cE cI s g c E J:=by
 have h1:=h.at_
 have h2:=h.lI
 exact { h with hold:=h.hold.items hg hI,res:=h.res.grown hg (by simp;omega),grown:=gow h.grown hg (fun n e=>by cases e;omega) }

theorem Gd.BoxW.ents {w x y:World} {B gC gE gI cC cE cI:Nat} {s g c:Nat→Int} {E I F:Nat→Nat→Int} (h:Gd.BoxW w x B gC gE gI cC cE cI s g c E I) (hg:x.grownBy y (some gE)) (hE:Lie y gE 42 352 (En.flat F)):Gd.BoxW w y B gC gE gI cC cE cI s g c F I:=by
 have h1:=h.at_
 have h2:=h.lE
 exact { h with hold:=h.hold.ents hg hE,res:=h.res.grown hg (by simp;omega),grown:=gow h.grown hg (fun n e=>by cases e;omega) }

theorem Gd.BoxW.stat {w x:World} {B gC gE gI cC cE cI:Nat} {s g c:Nat→Int} {E I:Nat→Nat→Int} (h:Gd.BoxW w x B gC gE gI cC cE cI s g c E I) (k j:Nat) (hj:j<11) (v:Int):Gd.BoxW w (x.setCell ⟨gE,k*11+j,none⟩ (.int .i64 v)) B gC gE gI cC cE cI s g c (Gd.set E k j v) I :=
 h.ents (gs0 x gE (k*11+j) (.int .i64 v)) (h.hold.lists.ents.stat k j hj v)

end Go.Proofs.YtbanjoflgoiegabGreat
