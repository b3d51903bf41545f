import Derived.Test.YtapgkgbpekkdjabGreatPart01
import Derived.Laws.BitsAllLaws
namespace Go.Proofs.YtapgkgbpekkdjabGreat
open Go.RowKit

def Arr (w:World) (g:Nat) (T:TypeId) (n:Nat) (F:Nat→Value):Prop :=
 ∃cur:Array Value,w.heap[g]?=some (.cells cur T (0,0))∧cur.size=n∧∀i,i<n→cur[i]?=some (F i)

theorem Arr.cell {w:World} {g:Nat} {T:TypeId} {n:Nat} {F:Nat→Value} (h:Arr w g T n F) {i:Nat} (hi:i<n):w.cell? ⟨g,i,none⟩=some (F i):=by
 obtain ⟨cur,hg,_,hc⟩:=h
 rw [cell_of_row w g i cur T (0,0) hg]
 exact hc i hi

theorem Arr.free {w:World} {g:Nat} {T:TypeId} {n:Nat} {F:Nat→Value} (h:Arr w g T n F) (i:Nat):w.frozen? ⟨g,i,none⟩=false:=by
 obtain ⟨cur,hg,_,_⟩:=h
 exact frozen_of_row w g i cur T hg

theorem Arr.lt {w:World} {g:Nat} {T:TypeId} {n:Nat} {F:Nat→Value} (h:Arr w g T n F):g<w.heap.size:=by
 obtain ⟨cur,hg,_,_⟩:=h
 exact lt_of_block hg

theorem Arr.congr {w:World} {g:Nat} {T:TypeId} {n:Nat} {F G:Nat→Value} (h:Arr w g T n F) (he:∀i,i<n→F i=G i):Arr w g T n G:=by
 obtain ⟨cur,hg,hs,hc⟩:=h
 exact ⟨cur,hg,hs,fun i hi=>by rw [hc i hi,he i hi]⟩

theorem Arr.kept {w w':World} {B g:Nat} {T:TypeId} {n:Nat} {F:Nat→Value} (h:Arr w g T n F) (hb:Below B w w') (hlt:g<B):Arr w' g T n F:=by
 obtain ⟨cur,hg,hs,hc⟩:=h
 exact ⟨cur,(hb.block g hlt).trans hg,hs,hc⟩

theorem Arr.store {w:World} {g:Nat} {T:TypeId} {n:Nat} {F:Nat→Value} (h:Arr w g T n F) (i:Nat) (u:Value):Arr (w.setCell ⟨g,i,none⟩ u) g T n (fun j=>if j=i then u else F j):=by
 obtain ⟨cur,hg,hs,hc⟩:=h
 refine ⟨cur.setIfInBounds i u,heap_setCell_same w g i cur T u hg,by simpa using hs,fun j hj=>?_⟩
 show _=some (if j=i then u else F j)
 by_cases hji:j=i
 ·subst hji
  rw [if_pos rfl]
  simp [hs,hj]
 ·rw [if_neg hji,Array.getElem?_setIfInBounds_ne (by omega)]
  exact hc j hj

theorem Arr.vec {w:World} {g:Nat} {T:TypeId} {n:Nat} {F:Nat→Value} (h:Arr w g T n F) (B:Nat) (hB:g<B) (hm:n≤maxLen):Vec B w (some ⟨g,0,none⟩) n F :=
 ⟨hm,.inr ⟨g,0,rfl,hB,fun i hi=>by rw [Nat.zero_add];exact h.cell hi⟩⟩

theorem Arr.made {w:World} {base g:Nat} {T:TypeId} {n:Nat} {xs:List Value} (h:w.ownsRow base T 1 (.slice (some ⟨g,0,none⟩) n n) n xs) (u:Value):Arr w g T n (fun i=>xs[i]?.getD u):=by
 have hl:=h.1
 rcases h.2 with ⟨h',_⟩ | ⟨g',cap',cur,h',_,hg,_,_,hcs,htake⟩
 ·simp at h'
 ·simp only [Value.slice.injEq,Option.some.injEq,Addr.mk.injEq,and_true,true_and] at h'
  obtain ⟨rfl,rfl⟩:=h'
  refine ⟨cur,hg,by simpa using hcs,fun i hi=>?_⟩
  show _=some (xs[i]?.getD u)
  rw [←htake]
  rw [Nat.mul_one,List.getElem?_take,if_pos hi,Array.getElem?_toList,Array.getElem?_eq_getElem (by omega)]
  rfl

theorem Arr.zero {w:World} {base g:Nat} {T:TypeId} {n:Nat} {z:Value} (h:w.ownsRow base T 1 (.slice (some ⟨g,0,none⟩) n n) n (madeCells #[z] n).toList):Arr w g T n (fun _=>z):=by
 refine (Arr.made h z).congr fun i hi=>?_
 rw [toList_madeCells_one,List.getElem?_replicate,if_pos (by omega)]
 rfl

theorem fill_more {g:Nat→Int} {z:Int} {k:Nat} {v:Int} (hv:v=g k) (j:Nat):(if j=k then Value.int .i64 v else .int .i64 (if j<k then g j else z))=.int .i64 (if j<k+1 then g j else z):=by
 by_cases h:j=k
 ·rw [if_pos h,if_pos (by omega),hv,h]
 ·rw [if_neg h]
  by_cases h2:j<k
  ·rw [if_pos h2,if_pos (by omega)]
  ·rw [if_neg h2,if_neg (by omega)]

theorem own_vec {w:World} {base:Nat} {v:Value} {len:Nat} {xs:List Int} (h:w.ownsRow base 3 1 v len (xs.map (Value.int .i64))) (hm:len≤maxLen) :
  ∃a cap,v=.slice a len cap∧xs.length=len∧Vec w.heap.size w a len (Ints fun i=>xs[i]?.getD 0):=by
 have h1:xs.length=len:=by simpa using h.1
 rcases h.2 with ⟨rfl,rfl⟩ | ⟨g,cap,cur,rfl,_,hg,_,_,_,_⟩
 ·exact ⟨none,0,rfl,h1,hm,.inl rfl⟩
 ·refine ⟨_,cap,rfl,h1,hm,.inr ⟨g,0,rfl,lt_of_block hg,fun i hi=>?_⟩⟩
  rw [Nat.zero_add,h.cellAt i (by omega),List.getElem?_map]
  show _=some (Value.int .i64 (xs[i]?.getD 0))
  rw [List.getElem?_eq_getElem (by omega)]
  rfl

def Gives (w:World) (n:Nat) (F:Nat→Value) (e:Ending) (w':World):Prop :=
 ∃a cap,e=.returned (.slice a n cap)∧Vec w'.heap.size w' a n F∧n≤cap∧Below w.heap.size w w'

theorem info_int:(Tryz.prog.info? 3).map (fun i=>(i.zero,i.size,i.bytes))=some (some (.int .i64 0),1,8):=by kernel_rfl

end Go.Proofs.YtapgkgbpekkdjabGreat

namespace Go.Proofs.YtapgkgbpekkdjabGreat

namespace Gr

def dxOf:Nat→Int | 1=>1 | 3=>-1 | _=>0
def dyOf:Nat→Int | 0=>-1 | 2=>1 | _=>0

def nbIn (i d:Nat):Prop:=0≤(i % 24:Nat)+dxOf d∧(i % 24:Nat)+dxOf d<24∧0≤(i / 24:Nat)+dyOf d∧(i / 24:Nat)+dyOf d<16
def nbOf (i d:Nat):Nat:=(((i / 24:Nat)+dyOf d)*24+((i % 24:Nat)+dxOf d)).toNat

theorem nb_eq {i d:Nat} (h:nbIn i d):((nbOf i d:Nat):Int)=((i / 24:Nat)+dyOf d)*24+((i % 24:Nat)+dxOf d):=by
 unfold nbIn at h;unfold nbOf;omega

theorem nb_lt {i d:Nat} (h:nbIn i d):nbOf i d<384:=by
 have:=nb_eq h
 unfold nbIn at h;omega

def opp:Nat→Nat | 0=>2 | 1=>3 | 2=>0 | _=>1

theorem opp_lt {d:Nat} (h:d<4):opp d<4:=by
 match d,h with
 | 0,_ | 1,_ | 2,_ | 3,_=>decide

theorem nb_back {i d:Nat} (hi:i<384) (hd:d<4) (h:nbIn i d):nbIn (nbOf i d) (opp d)∧nbOf (nbOf i d) (opp d)=i:=by
 have e:=nb_eq h
 have key:nbIn (nbOf i d) (opp d)∧((nbOf i d / 24:Nat)+dyOf (opp d))*24+((nbOf i d % 24:Nat)+dxOf (opp d))=(i:Int):=by
  unfold nbIn at *
  generalize nbOf i d=n at *
  match d,hd with
  | 0,_=>simp only [dxOf,dyOf,opp] at *;omega
  | 1,_=>simp only [dxOf,dyOf,opp] at *;omega
  | 2,_=>simp only [dxOf,dyOf,opp] at *;omega
  | 3,_=>simp only [dxOf,dyOf,opp] at *;omega
 refine ⟨key.1,?_⟩
 have:=nb_eq key.1
 omega

structure IsField (op tg:Nat→Prop) (F:Nat→Int):Prop where
 lo:∀i,i<384→-1≤F i
 zero:∀i,i<384→(F i=0↔tg i)
 back:∀i,i<384→0<F i→op i∧∃j d,j<384∧d<4∧nbIn j d∧nbOf j d=i∧F j=F i - 1
 fwd:∀j,j<384→0≤F j→∀d,d<4→nbIn j d→op (nbOf j d)→0≤F (nbOf j d)∧F (nbOf j d)≤F j+1

def cnt (F:Nat→Int):Nat→Nat
 | 0=>0
 | n+1=>cnt F n+if 0≤F n then 1 else 0

theorem cnt_le (F:Nat→Int) (n:Nat):cnt F n≤n:=by
 induction n with
 | zero=>exact Nat.le_refl _
 | succ n ih=>unfold cnt;split <;> omega

theorem cnt_same (F H:Nat→Int) (n:Nat) (h:∀i,i<n→(0≤F i↔0≤H i)):cnt F n=cnt H n:=by
 induction n with
 | zero=>rfl
 | succ n ih =>
  unfold cnt
  rw [ih fun i hi=>h i (by omega)]
  have:=h n (by omega)
  by_cases hn:0≤F n
  ·rw [if_pos hn,if_pos (this.1 hn)]
  ·rw [if_neg hn,if_neg fun hh=>hn (this.2 hh)]

def upd (F:Nat→Int) (b:Nat) (v:Int) (i:Nat):Int:=if i=b then v else F i

theorem upd_at (F:Nat→Int) (b:Nat) (v:Int):upd F b v b=v:=if_pos rfl
theorem upd_ne (F:Nat→Int) {b i:Nat} (v:Int) (h:i≠b):upd F b v i=F i:=if_neg h

theorem cnt_upd (F:Nat→Int) (b:Nat) (v:Int) (n:Nat) (hb:b<n) (h0:F b<0) (hv:0≤v):cnt (upd F b v) n=cnt F n+1:=by
 induction n with
 | zero=>omega
 | succ n ih =>
  unfold cnt
  by_cases hbn:b=n
  ·subst hbn
   rw [upd_at,if_pos hv,if_neg (by omega),cnt_same (upd F b v) F b fun i hi=>by rw [upd_ne F v (by omega)]]
  ·rw [ih (by omega),upd_ne F v (by omega)]
   omega

structure Inv (op tg:Nat→Prop) (F:Nat→Int) (row:List Nat) (at_ d:Nat):Prop where
 lo:∀i,i<384→-1≤F i
 zero:∀i,i<384→(F i=0↔tg i)
 back:∀i,i<384→0<F i→op i∧∃j d,j<384∧d<4∧nbIn j d∧nbOf j d=i∧F j=F i - 1
 mem:∀i,i<384→(0≤F i↔i∈row)
 rng:∀i,i∈row→i<384
 cnt:row.length=cnt F 384
 sorted:∀a b,a≤b→b<row.length→F (row[a]?.getD 0)≤F (row[b]?.getD 0)
 top:at_<row.length→∀i,i<384→F i≤F (row[at_]?.getD 0)+1
 seen:∀a e,e<4→a<row.length→4*a+e<4*at_+d→nbIn (row[a]?.getD 0) e→op (nbOf (row[a]?.getD 0) e)→0≤F (nbOf (row[a]?.getD 0) e)∧F (nbOf (row[a]?.getD 0) e)≤F (row[a]?.getD 0)+1

theorem Inv.len {op tg:Nat→Prop} {F:Nat→Int} {row:List Nat} {k d:Nat} (h:Inv op tg F row k d):row.length≤384:=by
 rw [h.cnt];exact cnt_le _ _

theorem Inv.lt {op tg:Nat→Prop} {F:Nat→Int} {row:List Nat} {k d a:Nat} (h:Inv op tg F row k d) (ha:a<row.length):row[a]?.getD 0<384∧0≤F (row[a]?.getD 0):=by
 rw [List.getElem?_eq_getElem ha]
 have hm:row[a]∈row:=List.getElem_mem ha
 have hr:=h.rng _ hm
 exact ⟨hr,(h.mem _ hr).2 hm⟩

theorem Inv.high {op tg:Nat→Prop} {F:Nat→Int} {row:List Nat} {k d:Nat} (h:Inv op tg F row k d):∀(n:Nat) i,i<384→F i=n→n≤400:=by
 intro n i hi hn
 have key:∀m:Nat,m≤n→∃j,j<384∧F j=m:=by
  intro m hm
  induction hnm:n - m generalizing m with
  | zero=>exact ⟨i,hi,by omega⟩
  | succ q ih =>
   obtain ⟨j,hj,he⟩:=ih (m+1) (by omega) (by omega)
   obtain ⟨_,j',_,hj',_,_,_,he'⟩:=h.back j hj (by omega)
   exact ⟨j',hj',by omega⟩
 by_cases hc:n≤400
 ·exact hc
 ·exfalso
  have inj:∀m:Nat,m≤n+1→m≤(List.range 384).countP (fun i=>decide (0≤F i∧F i<m)):=by
   intro m
   induction m with
   | zero=>intro _;exact Nat.zero_le _
   | succ m ih =>
    intro hm
    have h1:=ih (by omega)
    obtain ⟨j,hj,he⟩:=key m (by omega)
    have h2:(List.range 384).countP (fun i=>decide (0≤F i∧F i<m))<(List.range 384).countP (fun i=>decide (0≤F i∧F i<((m+1:Nat):Int))):=by
     have hs:∀(l:List Nat),j∈l→l.countP (fun i=>decide (0≤F i∧F i<m))<l.countP (fun i=>decide (0≤F i∧F i<((m+1:Nat):Int))):=by
      intro l
      induction l with
      | nil=>intro hm;cases hm
      | cons x l ih =>
       intro hm
       have hle:l.countP (fun i=>decide (0≤F i∧F i<m))≤l.countP (fun i=>decide (0≤F i∧F i<((m+1:Nat):Int))) :=
        List.countP_mono_left fun y _ hy=>by simp only [decide_eq_true_eq] at *;omega
       rw [List.countP_cons,List.countP_cons]
       rcases List.mem_cons.1 hm with rfl | hm
       ·rw [if_neg (by simp;omega),if_pos (by simp;omega)]
        omega
       ·have:=ih hm
        by_cases hx:0≤F x∧F x<m
        ·rw [if_pos (by simpa using hx),if_pos (by simp;omega)]
         omega
        ·rw [if_neg (by simpa using hx)]
         omega
     exact hs _ (List.mem_range.2 hj)
    omega
  have:=inj 401 (by omega)
  have hle:(List.range 384).countP (fun i=>decide (0≤F i∧F i<((401:Nat):Int)))≤(List.range 384).length:=List.countP_le_length
  rw [List.length_range] at hle
  omega

theorem Inv.skip {op tg:Nat→Prop} {F:Nat→Int} {row:List Nat} {k d:Nat} (h:Inv op tg F row k d) (hk:k<row.length) (hd:d<4)
  (hs:nbIn (row[k]?.getD 0) d→op (nbOf (row[k]?.getD 0) d)→0≤F (nbOf (row[k]?.getD 0) d)):Inv op tg F row k (d+1):=by
 refine ⟨h.lo,h.zero,h.back,h.mem,h.rng,h.cnt,h.sorted,h.top,fun a e he ha hl hn ho=>?_⟩
 by_cases hc:4*a+e<4*k+d
 ·exact h.seen a e he ha hc hn ho
 ·obtain rfl:a=k:=by omega
  obtain rfl:e=d:=by omega
  exact ⟨hs hn ho,h.top hk _ (nb_lt hn)⟩

theorem Inv.mark {op tg:Nat→Prop} {F:Nat→Int} {row:List Nat} {k d:Nat} (h:Inv op tg F row k d) (htg:∀i,i<384→tg i→0≤F i) (hk:k<row.length) (hd:d<4)
  (hn:nbIn (row[k]?.getD 0) d) (ho:op (nbOf (row[k]?.getD 0) d)) (hneg:F (nbOf (row[k]?.getD 0) d)<0) :
  Inv op tg (upd F (nbOf (row[k]?.getD 0) d) (F (row[k]?.getD 0)+1)) (row ++ [nbOf (row[k]?.getD 0) d]) k (d+1):=by
 obtain ⟨hc,hc0⟩:=h.lt hk
 have hb:=nb_lt hn
 have htop:=h.top hk
 have hnc:=h.cnt
 obtain ⟨c,hcd⟩:∃c,c=row[k]?.getD 0:=⟨_,rfl⟩
 obtain ⟨b,hbd⟩:∃b,b=nbOf c d:=⟨_,rfl⟩
 rw [←hcd] at hn ho hneg hc hc0 hb htop ⊢
 rw [←hbd] at ho hneg hb ⊢
 have hbr:b ∉ row:=fun hm=>by have:=(h.mem b hb).2 hm;omega
 have ne:∀i,i<384→0≤F i→i≠b:=fun i _ h0 e=>by rw [e] at h0;omega
 have old:∀i,i<384→0≤F i→upd F b (F c+1) i=F i:=fun i hi h0=>upd_ne F _ (ne i hi h0)
 have get:∀a,a<row.length→(row ++ [b])[a]?.getD 0=row[a]?.getD 0:=fun a ha=>by rw [List.getElem?_append_left ha]
 have getl:(row ++ [b])[row.length]?.getD 0=b:=by simp
 refine ⟨fun i hi=>?_,fun i hi=>?_,fun i hi hp=>?_,fun i hi=>?_,fun i hm=>?_,?_,fun x y hxy hy=>?_,fun _ i hi=>?_,fun a e he ha hl hn' ho'=>?_⟩
 ·by_cases e:i=b
  ·rw [e,upd_at];omega
  ·rw [upd_ne F _ e];exact h.lo i hi
 ·by_cases e:i=b
  ·rw [e,upd_at]
   constructor
   ·intro hh;omega
   ·intro ht
    have:=htg b hb ht
    omega
  ·rw [upd_ne F _ e];exact h.zero i hi
 ·by_cases e:i=b
  ·subst e
   refine ⟨ho,c,d,hc,hd,hn,hbd.symm,?_⟩
   rw [upd_at,old c hc hc0];omega
  ·rw [upd_ne F _ e] at hp ⊢
   obtain ⟨o,j,d',hj,hd',hn',hnb,he'⟩:=h.back i hi hp
   exact ⟨o,j,d',hj,hd',hn',hnb,by rw [old j hj (by omega)];exact he'⟩
 ·by_cases e:i=b
  ·rw [e,upd_at];simp;omega
  ·rw [upd_ne F _ e,h.mem i hi];simp [e]
 ·rcases List.mem_append.1 hm with hm | hm
  ·exact h.rng i hm
  ·simp at hm;omega
 ·rw [cnt_upd F b _ 384 hb hneg (by omega),List.length_append,hnc];rfl
 ·rw [List.length_append] at hy
  have hy':y<row.length+1:=hy
  by_cases e:y=row.length
  ·rw [e,getl,upd_at]
   by_cases e2:x=row.length
   ·rw [e2,getl,upd_at];exact Int.le_refl _
   ·have hx:x<row.length:=by omega
    obtain ⟨h1,h2⟩:=h.lt hx
    rw [get x hx,old _ h1 h2]
    exact htop _ h1
  ·have hy2:y<row.length:=by omega
   obtain ⟨h1,h2⟩:=h.lt hy2
   obtain ⟨h3,h4⟩:=h.lt (show x<row.length by omega)
   rw [get y hy2,get x (by omega),old _ h1 h2,old _ h3 h4]
   exact h.sorted x y hxy hy2
 ·rw [get k hk,←hcd,old c hc hc0]
  by_cases e:i=b
  ·rw [e,upd_at];omega
  ·rw [upd_ne F _ e];exact htop i hi
 ·by_cases ea:a=row.length
  ·omega
  ·have ha2:a<row.length:=by rw [List.length_append] at ha;have:a<row.length+1:=ha;omega
   rw [get a ha2] at hn' ho' ⊢
   obtain ⟨h1,h2⟩:=h.lt ha2
   rw [old _ h1 h2]
   by_cases hc2:4*a+e<4*k+d
   ·obtain ⟨q1,q2⟩:=h.seen a e he ha2 hc2 hn' ho'
    rw [old _ (nb_lt hn') q1]
    exact ⟨q1,q2⟩
   ·obtain rfl:a=k:=by omega
    obtain rfl:e=d:=by omega
    rw [←hcd,←hbd,upd_at]
    omega

theorem Inv.next {op tg:Nat→Prop} {F:Nat→Int} {row:List Nat} {k:Nat} (h:Inv op tg F row k 4):Inv op tg F row (k+1) 0:=by
 refine ⟨h.lo,h.zero,h.back,h.mem,h.rng,h.cnt,h.sorted,fun hk i hi=>?_,fun a e he ha hl=>h.seen a e he ha (by omega)⟩
 have h1:=h.top (by omega) i hi
 have h2:=h.sorted k (k+1) (by omega) hk
 omega

theorem Inv.done {op tg:Nat→Prop} {F:Nat→Int} {row:List Nat} {k:Nat} (h:Inv op tg F row k 0) (hk:row.length≤k):IsField op tg F:=by
 refine ⟨h.lo,h.zero,h.back,fun j hj h0 d hd hn ho=>?_⟩
 obtain ⟨a,ha,he⟩:=List.getElem_of_mem ((h.mem j hj).1 h0)
 have e:row[a]?.getD 0=j:=by rw [List.getElem?_eq_getElem ha];exact he
 have:=h.seen a d hd ha (by omega)
 rw [e] at this
 exact this hn ho

theorem Inv.start {op tg:Nat→Prop} {F:Nat→Int} {row:List Nat} (h01:∀i,i<384→F i=0∨F i=-1) (hz:∀i,i<384→(F i=0↔tg i)) (hm:∀i,i<384→(0≤F i↔i∈row)) (hr:∀i,i∈row→i<384)
  (hc:row.length=Gr.cnt F 384):Inv op tg F row 0 0:=by
 have z:∀a,a<row.length→F (row[a]?.getD 0)=0:=fun a ha=>by
  rw [List.getElem?_eq_getElem ha]
  have hmm:row[a]∈row:=List.getElem_mem ha
  have hl:=hr _ hmm
  have h0:=(hm _ hl).2 hmm
  rcases h01 _ hl with h | h
  ·exact h
  ·simp only [Option.getD_some];omega
 refine ⟨fun i hi=>?_,hz,fun i hi hp=>?_,hm,hr,hc,fun a b hab hb=>?_,fun hk i hi=>?_,fun a e he ha hl=>by omega⟩
 ·rcases h01 i hi with h | h <;> omega
 ·rcases h01 i hi with h | h <;> omega
 ·rw [z a (by omega),z b hb];exact Int.le_refl _
 ·rw [z 0 hk]
  rcases h01 i hi with h | h <;> omega

end Gr

end Go.Proofs.YtapgkgbpekkdjabGreat

namespace Go.Proofs.YtapgkgbpekkdjabGreat.Fx

def isRoot (n r:Int):Prop:=0≤r∧r*r≤n∧n<(r+1)*(r+1)

def RI (n P B:Int):Prop:=∃k q:Nat,k≤32∧P=((q*2 ^ k:Nat):Int)∧B=((2 ^ k / 2:Nat):Int)∧P*P≤n∧n<(((q+1)*2 ^ k:Nat):Int)*(((q+1)*2 ^ k:Nat):Int)∧(q+1)*2 ^ k≤4294967296

theorem RI_start (n:Int) (h0:0≤n) (h1:n<18446744073709551616):RI n 0 2147483648 :=
 ⟨32,0,by omega,by simp,by decide,by omega,by simpa using h1,by decide⟩

theorem pow_half (k:Nat):2 ^ (k+1) / 2=2 ^ k:=by rw [Nat.pow_succ];omega

theorem RI_bounds {n P B:Int} (h:RI n P B):0≤P∧P<4294967296∧0≤B∧B≤2147483648∧P+B<4294967296:=by
 obtain ⟨k,q,hk,rfl,rfl,_,_,hb⟩:=h
 have hp:=Nat.two_pow_pos k
 rw [Nat.add_mul,Nat.one_mul] at hb
 have h32:2 ^ k≤2 ^ 32:=Nat.pow_le_pow_right (by omega) hk
 have e32:2 ^ 32=4294967296:=by decide
 generalize q*2 ^ k=u at *
 generalize 2 ^ k=v at *
 refine ⟨by omega,by omega,by omega,by omega,?_⟩
 omega

theorem RI_succ {n P B:Int} (h:RI n P B) (hB:0<B):∃j q:Nat,j+1≤32∧P=((q*2 ^ (j+1):Nat):Int)∧B=((2 ^ j:Nat):Int)∧P*P≤n∧n<(((q+1)*2 ^ (j+1):Nat):Int)*(((q+1)*2 ^ (j+1):Nat):Int)∧(q+1)*2 ^ (j+1)≤4294967296:=by
 obtain ⟨k,q,hk,hP,hb,r⟩:=h
 cases k with
 | zero=>exfalso;rw [hb] at hB;simp at hB
 | succ j=>exact ⟨j,q,hk,hP,by rw [hb,pow_half],r⟩

theorem half_pow (j:Nat):((2 ^ j:Nat):Int) / 2=((2 ^ j / 2:Nat):Int):=by omega

theorem RI_yes {n P B:Int} (h:RI n P B) (hB:0<B) (hy:(P+B)*(P+B)≤n):RI n (P+B) (B / 2):=by
 obtain ⟨j,q,hj,rfl,rfl,_,hu,hb⟩:=RI_succ h hB
 have e1:(2*q+1)*2 ^ j=q*2 ^ (j+1)+2 ^ j:=by rw [Nat.pow_succ,Nat.add_mul,Nat.one_mul];ac_rfl
 have e2:(2*q+1+1)*2 ^ j=(q+1)*2 ^ (j+1):=by rw [Nat.pow_succ,show 2*q+1+1=2*(q+1) from by omega];ac_rfl
 refine ⟨j,2*q+1,by omega,by rw [e1];omega,half_pow j,hy,?_,?_⟩
 ·rw [e2];exact hu
 ·rw [e2];exact hb

theorem RI_no {n P B:Int} (h:RI n P B) (hB:0<B) (hy:n<(P+B)*(P+B)):RI n P (B / 2):=by
 obtain ⟨j,q,hj,rfl,rfl,hp,hu,hb⟩:=RI_succ h hB
 have e1:(2*q)*2 ^ j=q*2 ^ (j+1):=by rw [Nat.pow_succ];ac_rfl
 have e2:(2*q+1)*2 ^ j=q*2 ^ (j+1)+2 ^ j:=by rw [Nat.pow_succ,Nat.add_mul,Nat.one_mul];ac_rfl
 have e3:(q+1)*2 ^ (j+1)=q*2 ^ (j+1)+2 ^ j+2 ^ j:=by rw [Nat.pow_succ,Nat.add_mul,Nat.one_mul];omega
 refine ⟨j,2*q,by omega,by rw [e1],half_pow j,hp,?_,?_⟩
 ·rw [e2,Int.natCast_add];exact hy
 ·rw [e2];rw [e3] at hb;omega

theorem RI_end {n P B:Int} (h:RI n P B) (hB:B≤0):isRoot n P:=by
 have hb:=RI_bounds h
 obtain ⟨k,q,hk,hP,hb',hp,hu,_⟩:=h
 cases k with
 | zero=>
  refine ⟨hb.1,hp,?_⟩
  simp only [Nat.pow_zero,Nat.mul_one] at hP hu
  rw [hP]
  exact hu
 | succ j=>
  have:=Nat.two_pow_pos j
  rw [pow_half] at hb'
  omega

theorem RI_cap {n P B:Int} (hn:n≤9223372036854775807) (hc:3037000499<P+B):n<(P+B)*(P+B):=by
 have:=Int.mul_self_le_mul_self (a:=3037000500) (b:=P+B) (by omega) (by omega)
 omega

theorem RI_small {n P B:Int} (h:RI n P B) (hc:P+B≤3037000499):0≤(P+B)*(P+B)∧(P+B)*(P+B)≤9223372036854775807:=by
 obtain ⟨h1,h2,h3,h4,h5⟩:=RI_bounds h
 have a:=Int.mul_nonneg (a:=P+B) (b:=P+B) (by omega) (by omega)
 have b:=Int.mul_self_le_mul_self (a:=P+B) (b:=3037000499) (by omega) (by omega)
 omega

theorem mul_bd (a b m:Int) (hm:0≤m) (a1:-m≤a) (a2:a≤m) (b1:-m≤b) (b2:b≤m):-(m*m)≤a*b∧a*b≤m*m:=by
 have h:(a*b).natAbs≤m.natAbs*m.natAbs:=by
  rw [Int.natAbs_mul]
  exact Nat.mul_le_mul (by omega) (by omega)
 have e:((m.natAbs*m.natAbs:Nat):Int)=m*m:=by
  rw [Int.natCast_mul,Int.natAbs_of_nonneg hm]
 generalize m*m=M at *
 generalize a*b=p at *
 generalize m.natAbs*m.natAbs=q at *
 omega

def way (n:Int):Int × Int:=if n=1 then (0,-1) else if n=2 then (1,0) else if n=3 then (0,1) else if n=4 then (-1,0) else (0,0)

theorem way_none (n:Int) (h:n<1∨4<n):way n=(0,0):=by
 unfold way
 rw [if_neg (by omega),if_neg (by omega),if_neg (by omega),if_neg (by omega)]

theorem way_bd (n:Int):-1≤(way n).1∧(way n).1≤1∧-1≤(way n).2∧(way n).2≤1:=by
 unfold way
 split
 ·decide
 ·split
  ·decide
  ·split
   ·decide
   ·split <;> decide

end Go.Proofs.YtapgkgbpekkdjabGreat.Fx

namespace Go.Proofs.YtapgkgbpekkdjabGreat
open Go.RowKit

set_option maxHeartbeats 400000 in
theorem refRoot_any (n:Int) (w:World) (h1:0≤n) (h2:n≤9223372036854775807) :
  Calls Tryz.prog 86 #[.int .i64 n] w fun e w'=>∃r,e=.returned (.int .i64 r)∧Fx.isRoot n r∧w'=w:=by
 go_enter Tryz.func86,Tryz.ntmps86
 go_wp2
 go_loop [3,4] (fun r b=>∃p q:Int,Fx.RI n p q∧r=.int .i64 p∧b=.int .i64 q) (fun _ b=>(intOf b).toNat)
 case atStart=>exact ⟨0,_,Fx.RI_start n h1 (by omega),rfl,rfl⟩
 case round =>
  obtain ⟨p,q,hri,rfl,rfl⟩:=hrel
  obtain ⟨hp0,hp1,hq0,hq1,hpq⟩:=Fx.RI_bounds hri
  by_cases hq:0<q
  ·by_cases hc:p+q≤3037000499
   ·obtain ⟨hs0,hs1⟩:=Fx.RI_small hri hc
    by_cases hy:(p+q)*(p+q)≤n
    ·go_wp2
     go_round
     case rel=>exact ⟨_,_,Fx.RI_yes hri hq hy,rfl,rfl⟩
     case measure=>simp [intOf];omega
    ·go_wp2
     go_round
     case rel=>exact ⟨_,_,Fx.RI_no hri hq (by omega),rfl,rfl⟩
     case measure=>simp [intOf];omega
   ·have hy:=Fx.RI_cap (n:=n) (P:=p) (B:=q) h2 (by omega)
    have HY:=hide hy
    clear hy
    go_wp2
    go_round
    case rel=>exact ⟨_,_,Fx.RI_no hri hq (uh HY),rfl,rfl⟩
    case measure=>simp [intOf];omega
  ·go_wp2
   go_ret
   exact ⟨p,rfl,Fx.RI_end hri (by omega),rfl⟩

theorem sq_bd (dx dy:Int) (h1:-1048576≤dx) (h2:dx≤1048576) (h3:-1048576≤dy) (h4:dy≤1048576):0≤dx*dx∧dx*dx≤1099511627776∧0≤dy*dy∧dy*dy≤1099511627776:=by
 have a:=Fx.mul_bd dx dx 1048576 (by omega) h1 h2 h1 h2
 have b:=Fx.mul_bd dy dy 1048576 (by omega) h3 h4 h3 h4
 have c:0≤dx*dx:=by rcases Int.le_total 0 dx with h | h;exact Int.mul_nonneg h h;exact Int.mul_nonneg_of_nonpos_of_nonpos h h
 have d:0≤dy*dy:=by rcases Int.le_total 0 dy with h | h;exact Int.mul_nonneg h h;exact Int.mul_nonneg_of_nonpos_of_nonpos h h
 omega

set_option maxHeartbeats 400000 in
theorem refDist_any (dx dy:Int) (w:World) (h1:-1048576≤dx) (h2:dx≤1048576) (h3:-1048576≤dy) (h4:dy≤1048576) :
  Calls Tryz.prog 69 #[.int .i64 dx,.int .i64 dy] w fun e w'=>∃r,e=.returned (.int .i64 r)∧Fx.isRoot ((dx*dx+dy*dy)*65536) r∧w'=w:=by
 obtain ⟨a,b,c,d⟩:=sq_bd dx dy h1 h2 h3 h4
 go_enter Tryz.func69,Tryz.ntmps69
 go_wp2_with (go_at_call 86;refine (refRoot_any _ _ (by omega) (by omega)).mono ?_;rintro e w' ⟨r,rfl,hr,rfl⟩)
 go_ret
 exact ⟨r,rfl,by rw [Int.mul_comm];exact hr,rfl⟩

set_option maxHeartbeats 400000 in
theorem refWay_any (n:Int) (w:World) :
  Calls Tryz.prog 61 #[.int .i64 n] w fun e w'=>e=.returned (.tuple #[.int .i64 (Fx.way n).1,.int .i64 (Fx.way n).2])∧w'=w:=by
 by_cases h:n=1∨n=2∨n=3∨n=4
 ·rcases h with rfl | rfl | rfl | rfl
  all_goals
   go_enter Tryz.func61,Tryz.ntmps61
   go_wp2
   go_ret2
   exact ⟨rfl,rfl⟩
 ·have e1:(n == 1)=false:=by simp;omega
  have e2:(n == 2)=false:=by simp;omega
  have e3:(n == 3)=false:=by simp;omega
  have e4:(n == 4)=false:=by simp;omega
  rw [Fx.way_none n (by omega)]
  clear h
  go_enter Tryz.func61,Tryz.ntmps61
  go_wp2
  go_ret2
  exact ⟨rfl,rfl⟩

end Go.Proofs.YtapgkgbpekkdjabGreat
