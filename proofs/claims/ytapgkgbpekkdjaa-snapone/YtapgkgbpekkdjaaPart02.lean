import Derived.Test.YtapgkgbpekkdjaaPart01
namespace Go.Proofs.Ytapgkgbpekkdjaa
open Go.RowKit

def Arr (w:World) (g:Nat) (T:TypeId) (n:Nat) (F:Nat→Value):Prop :=
 ∃cur:Array Value,w.heap[g]?=some (.cells cur T (0,0))∧cur.size=n∧∀i,i<n→cur[i]?=some (F i)

theorem Arr.cell {w:World} {g:Nat} {T:TypeId} {n:Nat} {F:Nat→Value} (h:Arr w g T n F) {i:Nat} (hi:i<n):w.cell? ⟨g,i,none⟩=some (F i):=by
 obtain ⟨cur,hg,_,hc⟩:=h
 rw [cell_of_row w g i cur T (0,0) hg]
 exact hc i hi

theorem Arr.free {w:World} {g:Nat} {T:TypeId} {n:Nat} {F:Nat→Value} (h:Arr w g T n F) (i:Nat):w.frozen? ⟨g,i,none⟩=false:=by
 obtain ⟨cur,hg,_,_⟩:=h
 exact frozen_of_row w g i cur T hg

theorem Arr.lt {w:World} {g:Nat} {T:TypeId} {n:Nat} {F:Nat→Value} (h:Arr w g T n F):g<w.heap.size:=by
 obtain ⟨cur,hg,_,_⟩:=h
 exact lt_of_block hg

theorem Arr.congr {w:World} {g:Nat} {T:TypeId} {n:Nat} {F G:Nat→Value} (h:Arr w g T n F) (he:∀i,i<n→F i=G i):Arr w g T n G:=by
 obtain ⟨cur,hg,hs,hc⟩:=h
 exact ⟨cur,hg,hs,fun i hi=>by rw [hc i hi,he i hi]⟩

theorem Arr.kept {w w':World} {B g:Nat} {T:TypeId} {n:Nat} {F:Nat→Value} (h:Arr w g T n F) (hb:Below B w w') (hlt:g<B):Arr w' g T n F:=by
 obtain ⟨cur,hg,hs,hc⟩:=h
 exact ⟨cur,(hb.block g hlt).trans hg,hs,hc⟩

theorem Arr.store {w:World} {g:Nat} {T:TypeId} {n:Nat} {F:Nat→Value} (h:Arr w g T n F) (i:Nat) (u:Value):Arr (w.setCell ⟨g,i,none⟩ u) g T n (fun j=>if j=i then u else F j):=by
 obtain ⟨cur,hg,hs,hc⟩:=h
 refine ⟨cur.setIfInBounds i u,heap_setCell_same w g i cur T u hg,by simpa using hs,fun j hj=>?_⟩
 show _=some (if j=i then u else F j)
 by_cases hji:j=i
 ·subst hji
  rw [if_pos rfl]
  simp [hs,hj]
 ·rw [if_neg hji,Array.getElem?_setIfInBounds_ne (by omega)]
  exact hc j hj

theorem Arr.vec {w:World} {g:Nat} {T:TypeId} {n:Nat} {F:Nat→Value} (h:Arr w g T n F) (B:Nat) (hB:g<B) (hm:n≤maxLen):Vec B w (some ⟨g,0,none⟩) n F :=
 ⟨hm,.inr ⟨g,0,rfl,hB,fun i hi=>by rw [Nat.zero_add];exact h.cell hi⟩⟩

theorem Arr.made {w:World} {base g:Nat} {T:TypeId} {n:Nat} {xs:List Value} (h:w.ownsRow base T 1 (.slice (some ⟨g,0,none⟩) n n) n xs) (u:Value):Arr w g T n (fun i=>xs[i]?.getD u):=by
 have hl:=h.1
 rcases h.2 with ⟨h',_⟩ | ⟨g',cap',cur,h',_,hg,_,_,hcs,htake⟩
 ·simp at h'
 ·simp only [Value.slice.injEq,Option.some.injEq,Addr.mk.injEq,and_true,true_and] at h'
  obtain ⟨rfl,rfl⟩:=h'
  refine ⟨cur,hg,by simpa using hcs,fun i hi=>?_⟩
  show _=some (xs[i]?.getD u)
  rw [←htake]
  rw [Nat.mul_one,List.getElem?_take,if_pos hi,Array.getElem?_toList,Array.getElem?_eq_getElem (by omega)]
  rfl

theorem Arr.zero {w:World} {base g:Nat} {T:TypeId} {n:Nat} {z:Value} (h:w.ownsRow base T 1 (.slice (some ⟨g,0,none⟩) n n) n (madeCells #[z] n).toList):Arr w g T n (fun _=>z):=by
 refine (Arr.made h z).congr fun i hi=>?_
 rw [toList_madeCells_one,List.getElem?_replicate,if_pos (by omega)]
 rfl

theorem fill_more {g:Nat→Int} {z:Int} {k:Nat} {v:Int} (hv:v=g k) (j:Nat):(if j=k then Value.int .i64 v else .int .i64 (if j<k then g j else z))=.int .i64 (if j<k+1 then g j else z):=by
 by_cases h:j=k
 ·rw [if_pos h,if_pos (by omega),hv,h]
 ·rw [if_neg h]
  by_cases h2:j<k
  ·rw [if_pos h2,if_pos (by omega)]
  ·rw [if_neg h2,if_neg (by omega)]

theorem info_int:(Try.prog.info? 3).map (fun i=>(i.zero,i.size,i.bytes))=some (some (.int .i64 0),1,8):=by kernel_rfl

end Go.Proofs.Ytapgkgbpekkdjaa

namespace Go.Proofs.Ytapgkgbpekkdjaa

namespace Gr

def dxOf:Nat→Int | 1=>1 | 3=>-1 | _=>0
def dyOf:Nat→Int | 0=>-1 | 2=>1 | _=>0

def nbIn (i d:Nat):Prop:=0≤(i % 24:Nat)+dxOf d∧(i % 24:Nat)+dxOf d<24∧0≤(i / 24:Nat)+dyOf d∧(i / 24:Nat)+dyOf d<16
def nbOf (i d:Nat):Nat:=(((i / 24:Nat)+dyOf d)*24+((i % 24:Nat)+dxOf d)).toNat

theorem nb_eq {i d:Nat} (h:nbIn i d):((nbOf i d:Nat):Int)=((i / 24:Nat)+dyOf d)*24+((i % 24:Nat)+dxOf d):=by
 unfold nbIn at h;unfold nbOf;omega

theorem nb_lt {i d:Nat} (h:nbIn i d):nbOf i d<384:=by
 have:=nb_eq h
 unfold nbIn at h;omega

def opp:Nat→Nat | 0=>2 | 1=>3 | 2=>0 | _=>1

theorem opp_lt {d:Nat} (h:d<4):opp d<4:=by
 match d,h with
 | 0,_ | 1,_ | 2,_ | 3,_=>decide

theorem nb_back {i d:Nat} (hi:i<384) (hd:d<4) (h:nbIn i d):nbIn (nbOf i d) (opp d)∧nbOf (nbOf i d) (opp d)=i:=by
 have e:=nb_eq h
 have key:nbIn (nbOf i d) (opp d)∧((nbOf i d / 24:Nat)+dyOf (opp d))*24+((nbOf i d % 24:Nat)+dxOf (opp d))=(i:Int):=by
  unfold nbIn at *
  generalize nbOf i d=n at *
  match d,hd with
  | 0,_=>simp only [dxOf,dyOf,opp] at *;omega
  | 1,_=>simp only [dxOf,dyOf,opp] at *;omega
  | 2,_=>simp only [dxOf,dyOf,opp] at *;omega
  | 3,_=>simp only [dxOf,dyOf,opp] at *;omega
 refine ⟨key.1,?_⟩
 have:=nb_eq key.1
 omega

structure IsField (op tg:Nat→Prop) (F:Nat→Int):Prop where
 lo:∀i,i<384→-1≤F i
 zero:∀i,i<384→(F i=0↔tg i)
 back:∀i,i<384→0<F i→op i∧∃j d,j<384∧d<4∧nbIn j d∧nbOf j d=i∧F j=F i - 1
 fwd:∀j,j<384→0≤F j→∀d,d<4→nbIn j d→op (nbOf j d)→0≤F (nbOf j d)∧F (nbOf j d)≤F j+1

def cnt (F:Nat→Int):Nat→Nat
 | 0=>0
 | n+1=>cnt F n+if 0≤F n then 1 else 0

theorem cnt_le (F:Nat→Int) (n:Nat):cnt F n≤n:=by
 induction n with
 | zero=>exact Nat.le_refl _
 | succ n ih=>unfold cnt;split <;> omega

theorem cnt_same (F H:Nat→Int) (n:Nat) (h:∀i,i<n→(0≤F i↔0≤H i)):cnt F n=cnt H n:=by
 induction n with
 | zero=>rfl
 | succ n ih =>
  unfold cnt
  rw [ih fun i hi=>h i (by omega)]
  have:=h n (by omega)
  by_cases hn:0≤F n
  ·rw [if_pos hn,if_pos (this.1 hn)]
  ·rw [if_neg hn,if_neg fun hh=>hn (this.2 hh)]

def upd (F:Nat→Int) (b:Nat) (v:Int) (i:Nat):Int:=if i=b then v else F i

theorem upd_at (F:Nat→Int) (b:Nat) (v:Int):upd F b v b=v:=if_pos rfl
theorem upd_ne (F:Nat→Int) {b i:Nat} (v:Int) (h:i≠b):upd F b v i=F i:=if_neg h

theorem cnt_upd (F:Nat→Int) (b:Nat) (v:Int) (n:Nat) (hb:b<n) (h0:F b<0) (hv:0≤v):cnt (upd F b v) n=cnt F n+1:=by
 induction n with
 | zero=>omega
 | succ n ih =>
  unfold cnt
  by_cases hbn:b=n
  ·subst hbn
   rw [upd_at,if_pos hv,if_neg (by omega),cnt_same (upd F b v) F b fun i hi=>by rw [upd_ne F v (by omega)]]
  ·rw [ih (by omega),upd_ne F v (by omega)]
   omega

structure Inv (op tg:Nat→Prop) (F:Nat→Int) (row:List Nat) (at_ d:Nat):Prop where
 lo:∀i,i<384→-1≤F i
 zero:∀i,i<384→(F i=0↔tg i)
 back:∀i,i<384→0<F i→op i∧∃j d,j<384∧d<4∧nbIn j d∧nbOf j d=i∧F j=F i - 1
 mem:∀i,i<384→(0≤F i↔i∈row)
 rng:∀i,i∈row→i<384
 cnt:row.length=cnt F 384
 sorted:∀a b,a≤b→b<row.length→F (row[a]?.getD 0)≤F (row[b]?.getD 0)
 top:at_<row.length→∀i,i<384→F i≤F (row[at_]?.getD 0)+1
 seen:∀a e,e<4→a<row.length→4*a+e<4*at_+d→nbIn (row[a]?.getD 0) e→op (nbOf (row[a]?.getD 0) e)→0≤F (nbOf (row[a]?.getD 0) e)∧F (nbOf (row[a]?.getD 0) e)≤F (row[a]?.getD 0)+1

theorem Inv.len {op tg:Nat→Prop} {F:Nat→Int} {row:List Nat} {k d:Nat} (h:Inv op tg F row k d):row.length≤384:=by
 rw [h.cnt];exact cnt_le _ _

theorem Inv.lt {op tg:Nat→Prop} {F:Nat→Int} {row:List Nat} {k d a:Nat} (h:Inv op tg F row k d) (ha:a<row.length):row[a]?.getD 0<384∧0≤F (row[a]?.getD 0):=by
 rw [List.getElem?_eq_getElem ha]
 have hm:row[a]∈row:=List.getElem_mem ha
 have hr:=h.rng _ hm
 exact ⟨hr,(h.mem _ hr).2 hm⟩

theorem Inv.high {op tg:Nat→Prop} {F:Nat→Int} {row:List Nat} {k d:Nat} (h:Inv op tg F row k d):∀(n:Nat) i,i<384→F i=n→n≤400:=by
 intro n i hi hn
 have key:∀m:Nat,m≤n→∃j,j<384∧F j=m:=by
  intro m hm
  induction hnm:n - m generalizing m with
  | zero=>exact ⟨i,hi,by omega⟩
  | succ q ih =>
   obtain ⟨j,hj,he⟩:=ih (m+1) (by omega) (by omega)
   obtain ⟨_,j',_,hj',_,_,_,he'⟩:=h.back j hj (by omega)
   exact ⟨j',hj',by omega⟩
 by_cases hc:n≤400
 ·exact hc
 ·exfalso
  have inj:∀m:Nat,m≤n+1→m≤(List.range 384).countP (fun i=>decide (0≤F i∧F i<m)):=by
   intro m
   induction m with
   | zero=>intro _;exact Nat.zero_le _
   | succ m ih =>
    intro hm
    have h1:=ih (by omega)
    obtain ⟨j,hj,he⟩:=key m (by omega)
    have h2:(List.range 384).countP (fun i=>decide (0≤F i∧F i<m))<(List.range 384).countP (fun i=>decide (0≤F i∧F i<((m+1:Nat):Int))):=by
     have hs:∀(l:List Nat),j∈l→l.countP (fun i=>decide (0≤F i∧F i<m))<l.countP (fun i=>decide (0≤F i∧F i<((m+1:Nat):Int))):=by
      intro l
      induction l with
      | nil=>intro hm;cases hm
      | cons x l ih =>
       intro hm
       have hle:l.countP (fun i=>decide (0≤F i∧F i<m))≤l.countP (fun i=>decide (0≤F i∧F i<((m+1:Nat):Int))) :=
        List.countP_mono_left fun y _ hy=>by simp only [decide_eq_true_eq] at *;omega
       rw [List.countP_cons,List.countP_cons]
       rcases List.mem_cons.1 hm with rfl | hm
       ·rw [if_neg (by simp;omega),if_pos (by simp;omega)]
        omega
       ·have:=ih hm
        by_cases hx:0≤F x∧F x<m
        ·rw [if_pos (by simpa using hx),if_pos (by simp;omega)]
         omega
        ·rw [if_neg (by simpa using hx)]
         omega
     exact hs _ (List.mem_range.2 hj)
    omega
  have:=inj 401 (by omega)
  have hle:(List.range 384).countP (fun i=>decide (0≤F i∧F i<((401:Nat):Int)))≤(List.range 384).length:=List.countP_le_length
  rw [List.length_range] at hle
  omega

theorem Inv.skip {op tg:Nat→Prop} {F:Nat→Int} {row:List Nat} {k d:Nat} (h:Inv op tg F row k d) (hk:k<row.length) (hd:d<4)
  (hs:nbIn (row[k]?.getD 0) d→op (nbOf (row[k]?.getD 0) d)→0≤F (nbOf (row[k]?.getD 0) d)):Inv op tg F row k (d+1):=by
 refine ⟨h.lo,h.zero,h.back,h.mem,h.rng,h.cnt,h.sorted,h.top,fun a e he ha hl hn ho=>?_⟩
 by_cases hc:4*a+e<4*k+d
 ·exact h.seen a e he ha hc hn ho
 ·obtain rfl:a=k:=by omega
  obtain rfl:e=d:=by omega
  exact ⟨hs hn ho,h.top hk _ (nb_lt hn)⟩

theorem Inv.mark {op tg:Nat→Prop} {F:Nat→Int} {row:List Nat} {k d:Nat} (h:Inv op tg F row k d) (htg:∀i,i<384→tg i→0≤F i) (hk:k<row.length) (hd:d<4)
  (hn:nbIn (row[k]?.getD 0) d) (ho:op (nbOf (row[k]?.getD 0) d)) (hneg:F (nbOf (row[k]?.getD 0) d)<0) :
  Inv op tg (upd F (nbOf (row[k]?.getD 0) d) (F (row[k]?.getD 0)+1)) (row ++ [nbOf (row[k]?.getD 0) d]) k (d+1):=by
 obtain ⟨hc,hc0⟩:=h.lt hk
 have hb:=nb_lt hn
 have htop:=h.top hk
 have hnc:=h.cnt
 obtain ⟨c,hcd⟩:∃c,c=row[k]?.getD 0:=⟨_,rfl⟩
 obtain ⟨b,hbd⟩:∃b,b=nbOf c d:=⟨_,rfl⟩
 rw [←hcd] at hn ho hneg hc hc0 hb htop ⊢
 rw [←hbd] at ho hneg hb ⊢
 have hbr:b ∉ row:=fun hm=>by have:=(h.mem b hb).2 hm;omega
 have ne:∀i,i<384→0≤F i→i≠b:=fun i _ h0 e=>by rw [e] at h0;omega
 have old:∀i,i<384→0≤F i→upd F b (F c+1) i=F i:=fun i hi h0=>upd_ne F _ (ne i hi h0)
 have get:∀a,a<row.length→(row ++ [b])[a]?.getD 0=row[a]?.getD 0:=fun a ha=>by rw [List.getElem?_append_left ha]
 have getl:(row ++ [b])[row.length]?.getD 0=b:=by simp
 refine ⟨fun i hi=>?_,fun i hi=>?_,fun i hi hp=>?_,fun i hi=>?_,fun i hm=>?_,?_,fun x y hxy hy=>?_,fun _ i hi=>?_,fun a e he ha hl hn' ho'=>?_⟩
 ·by_cases e:i=b
  ·rw [e,upd_at];omega
  ·rw [upd_ne F _ e];exact h.lo i hi
 ·by_cases e:i=b
  ·rw [e,upd_at]
   constructor
   ·intro hh;omega
   ·intro ht
    have:=htg b hb ht
    omega
  ·rw [upd_ne F _ e];exact h.zero i hi
 ·by_cases e:i=b
  ·subst e
   refine ⟨ho,c,d,hc,hd,hn,hbd.symm,?_⟩
   rw [upd_at,old c hc hc0];omega
  ·rw [upd_ne F _ e] at hp ⊢
   obtain ⟨o,j,d',hj,hd',hn',hnb,he'⟩:=h.back i hi hp
   exact ⟨o,j,d',hj,hd',hn',hnb,by rw [old j hj (by omega)];exact he'⟩
 ·by_cases e:i=b
  ·rw [e,upd_at];simp;omega
  ·rw [upd_ne F _ e,h.mem i hi];simp [e]
 ·rcases List.mem_append.1 hm with hm | hm
  ·exact h.rng i hm
  ·simp at hm;omega
 ·rw [cnt_upd F b _ 384 hb hneg (by omega),List.length_append,hnc];rfl
 ·rw [List.length_append] at hy
  have hy':y<row.length+1:=hy
  by_cases e:y=row.length
  ·rw [e,getl,upd_at]
   by_cases e2:x=row.length
   ·rw [e2,getl,upd_at];exact Int.le_refl _
   ·have hx:x<row.length:=by omega
    obtain ⟨h1,h2⟩:=h.lt hx
    rw [get x hx,old _ h1 h2]
    exact htop _ h1
  ·have hy2:y<row.length:=by omega
   obtain ⟨h1,h2⟩:=h.lt hy2
   obtain ⟨h3,h4⟩:=h.lt (show x<row.length by omega)
   rw [get y hy2,get x (by omega),old _ h1 h2,old _ h3 h4]
   exact h.sorted x y hxy hy2
 ·rw [get k hk,←hcd,old c hc hc0]
  by_cases e:i=b
  ·rw [e,upd_at];omega
  ·rw [upd_ne F _ e];exact htop i hi
 ·by_cases ea:a=row.length
  ·omega
  ·have ha2:a<row.length:=by rw [List.length_append] at ha;have:a<row.length+1:=ha;omega
   rw [get a ha2] at hn' ho' ⊢
   obtain ⟨h1,h2⟩:=h.lt ha2
   rw [old _ h1 h2]
   by_cases hc2:4*a+e<4*k+d
   ·obtain ⟨q1,q2⟩:=h.seen a e he ha2 hc2 hn' ho'
    rw [old _ (nb_lt hn') q1]
    exact ⟨q1,q2⟩
   ·obtain rfl:a=k:=by omega
    obtain rfl:e=d:=by omega
    rw [←hcd,←hbd,upd_at]
    omega

theorem Inv.next {op tg:Nat→Prop} {F:Nat→Int} {row:List Nat} {k:Nat} (h:Inv op tg F row k 4):Inv op tg F row (k+1) 0:=by
 refine ⟨h.lo,h.zero,h.back,h.mem,h.rng,h.cnt,h.sorted,fun hk i hi=>?_,fun a e he ha hl=>h.seen a e he ha (by omega)⟩
 have h1:=h.top (by omega) i hi
 have h2:=h.sorted k (k+1) (by omega) hk
 omega

theorem Inv.done {op tg:Nat→Prop} {F:Nat→Int} {row:List Nat} {k:Nat} (h:Inv op tg F row k 0) (hk:row.length≤k):IsField op tg F:=by
 refine ⟨h.lo,h.zero,h.back,fun j hj h0 d hd hn ho=>?_⟩
 obtain ⟨a,ha,he⟩:=List.getElem_of_mem ((h.mem j hj).1 h0)
 have e:row[a]?.getD 0=j:=by rw [List.getElem?_eq_getElem ha];exact he
 have:=h.seen a d hd ha (by omega)
 rw [e] at this
 exact this hn ho

theorem Inv.start {op tg:Nat→Prop} {F:Nat→Int} {row:List Nat} (h01:∀i,i<384→F i=0∨F i=-1) (hz:∀i,i<384→(F i=0↔tg i)) (hm:∀i,i<384→(0≤F i↔i∈row)) (hr:∀i,i∈row→i<384)
  (hc:row.length=Gr.cnt F 384):Inv op tg F row 0 0:=by
 have z:∀a,a<row.length→F (row[a]?.getD 0)=0:=fun a ha=>by
  rw [List.getElem?_eq_getElem ha]
  have hmm:row[a]∈row:=List.getElem_mem ha
  have hl:=hr _ hmm
  have h0:=(hm _ hl).2 hmm
  rcases h01 _ hl with h | h
  ·exact h
  ·simp only [Option.getD_some];omega
 refine ⟨fun i hi=>?_,hz,fun i hi hp=>?_,hm,hr,hc,fun a b hab hb=>?_,fun hk i hi=>?_,fun a e he ha hl=>by omega⟩
 ·rcases h01 i hi with h | h <;> omega
 ·rcases h01 i hi with h | h <;> omega
 ·rw [z a (by omega),z b hb];exact Int.le_refl _
 ·rw [z 0 hk]
  rcases h01 i hi with h | h <;> omega

end Gr


open Go.RowKit

def Dc.fold (x c:Int):Int:=bits BinOp.xor IntKind.u64 x (x / c)

def Dc.m (x:Int):Int :=
 Dc.fold (IntKind.u64.wrap (Dc.fold (IntKind.u64.wrap (Dc.fold x 1073741824*13787848793156543929)) 134217728*10723151780598845931)) 2147483648

theorem Dc.m_bd (x:Int):0≤Dc.m x∧Dc.m x<18446744073709551616:=by
 have h:=wf_bits BinOp.xor IntKind.u64 (IntKind.u64.wrap (Dc.fold (IntKind.u64.wrap (Dc.fold x 1073741824*13787848793156543929)) 134217728*10723151780598845931)) (IntKind.u64.wrap (Dc.fold (IntKind.u64.wrap (Dc.fold x 1073741824*13787848793156543929)) 134217728*10723151780598845931) / 2147483648)
 simp only [Lit.wf,Bool.and_eq_true,decide_eq_true_eq,show IntKind.u64.min=0 from by decide,show IntKind.u64.max=18446744073709551615 from by decide] at h
 obtain ⟨h1,h2⟩:=h
 exact ⟨h1,Int.lt_of_le_of_lt h2 (by decide)⟩

theorem m_any (x:Int) (w:World) :
  Calls Try.prog 88 #[.int .u64 x] w fun e w'=>e=.returned (.int .u64 (Dc.m x))∧w'=w:=by
 go_enter Try.func88,Try.ntmps88
 go_wp2
 go_ret
 exact ⟨rfl,rfl⟩

def Dc.step (x v:Int):Int:=Dc.m (IntKind.u64.wrap (bits BinOp.xor IntKind.u64 x (IntKind.u64.wrap v)+11400714819323198485))

def Dc.mix (seed:Int) (zs:List Int):Int:=zs.foldl Dc.step (Dc.m (IntKind.u64.wrap (IntKind.u64.wrap seed+11400714819323198485)))

theorem Dc.mix_bd (seed:Int) (zs:List Int):0≤Dc.mix seed zs∧Dc.mix seed zs<18446744073709551616:=by
 unfold Dc.mix
 generalize hx:Dc.m (IntKind.u64.wrap (IntKind.u64.wrap seed+11400714819323198485))=x
 have h:0≤x∧x<18446744073709551616:=by rw [←hx];exact Dc.m_bd _
 clear hx
 induction zs generalizing x with
 | nil=>exact h
 | cons z zs ih=>exact ih _ (Dc.m_bd _)

theorem Dc.mix_more (seed:Int) (zs:List Int) (k:Nat) (h:k<zs.length):Dc.m (IntKind.u64.wrap (bits BinOp.xor IntKind.u64 (Dc.mix seed (zs.take k)) (IntKind.u64.wrap (zs[k]?.getD 0))+11400714819323198485))=Dc.mix seed (zs.take (k+1)):=by
 show Dc.step (Dc.mix seed (zs.take k)) (zs[k]?.getD 0)=_
 have e:zs.take (k+1)=zs.take k ++ [zs[k]?.getD 0]:=by
  rw [List.take_add_one,List.getElem?_eq_getElem h];rfl
 rw [e]
 simp only [Dc.mix,List.foldl_append,List.foldl_cons,List.foldl_nil]

def Row (w:World) (a:Option Addr) (len:Nat) (zs:List Int):Prop :=
 zs.length=len∧len≤maxLen∧(len=0∨∃b off,a=some ⟨b,off,none⟩∧∀i,i<len→w.cell? ⟨b,off+i,none⟩=some (.int .i64 (zs[i]?.getD 0)))

theorem refMix_none (seed:Int) (a:Option Addr) (cap:Nat) (w:World) :
  Calls Try.prog 85 #[.int .i64 seed,.slice a 0 cap] w fun e w'=>e=.returned (.int .u64 (Dc.mix seed []))∧w'=w:=by
 go_enter Try.func85,Try.ntmps85
 go_wp2_with fail
 refine (m_any _ _).mono ?_
 rintro e w1 ⟨rfl,rfl⟩
 go_wp2_with fail
 refine wp_loop_rounds 1 ?_
 rw [rounds_succ]
 go_wp2
 go_ret
 exact ⟨rfl,rfl⟩

theorem refMix_some (seed:Int) (b off:Nat) (len cap:Nat) (zs:List Int) (w:World) (hz:zs.length=len) (hm:len≤9223372036854775807)
  (hc:∀i,i<len→w.cell? ⟨b,off+i,none⟩=some (.int .i64 (zs[i]?.getD 0))) :
  Calls Try.prog 85 #[.int .i64 seed,.slice (some ⟨b,off,none⟩) len cap] w fun e w'=>e=.returned (.int .u64 (Dc.mix seed zs))∧w'=w:=by
 go_enter Try.func85,Try.ntmps85
 go_wp2_with fail
 refine (m_any _ _).mono ?_
 rintro e w1 ⟨rfl,rfl⟩
 go_wp2_with fail
 go_loop [5,6] (fun x i=>∃k:Nat,k≤len∧i=.int .i64 k∧x=.int .u64 (Dc.mix seed (zs.take k))) (fun _ i=>len - (intOf i).toNat)
 case atStart=>exact ⟨0,Nat.zero_le _,rfl,rfl⟩
 case round =>
  obtain ⟨k,hk,rfl,rfl⟩:=hrel
  have hcell:k<len→w1.cell? ⟨b,off+k,none⟩=some (.int .i64 (zs[k]?.getD 0)):=fun h=>hc k h
  go_wp2_with fail
  ·refine (m_any _ _).mono ?_
   rintro e w2 ⟨rfl,rfl⟩
   have hlt:k<len:=by assumption
   have hstep:=hide (Dc.mix_more seed zs k (by omega))
   go_wp2
   go_round
   case rel =>
    refine ⟨k+1,by omega,by go_num,?_⟩
    rw [←uh hstep,List.getElem?_eq_getElem (by omega)]
    rfl
   case measure=>simp [intOf];omega
  ·obtain rfl:k=len:=by omega
   go_ret
   rw [List.take_of_length_le (by omega)]
   exact ⟨rfl,rfl⟩

theorem refMix_row (seed:Int) (a:Option Addr) (len cap:Nat) (zs:List Int) (w:World) (h:Row w a len zs) :
  Calls Try.prog 85 #[.int .i64 seed,.slice a len cap] w fun e w'=>e=.returned (.int .u64 (Dc.mix seed zs))∧w'=w:=by
 obtain ⟨hz,hm,rfl | ⟨b,off,rfl,hc⟩⟩:=h
 ·obtain rfl:=List.eq_nil_of_length_eq_zero hz
  exact refMix_none _ _ _ _
 ·exact refMix_some _ _ _ _ _ _ _ hz hm hc

def Dc.die (n seed:Int) (zs:List Int):Int:=if n<1 then 0 else Dc.mix seed zs % n

theorem Dc.die_bd (n seed:Int) (zs:List Int) (h:1≤n):0≤Dc.die n seed zs∧Dc.die n seed zs<n:=by
 unfold Dc.die
 rw [if_neg (by omega)]
 exact ⟨Int.emod_nonneg _ (by omega),Int.emod_lt_of_pos _ (by omega)⟩

theorem Dc.die_low (n seed:Int) (zs:List Int) (h:n<1):Dc.die n seed zs=0:=if_pos h

set_option maxHeartbeats 400000 in
theorem refDie_row (n seed:Int) (a:Option Addr) (len cap:Nat) (zs:List Int) (w:World) (h:Row w a len zs) (hn:n≤9223372036854775807) :
  Calls Try.prog 79 #[.int .i64 n,.int .i64 seed,.slice a len cap] w fun e w'=>e=.returned (.int .i64 (Dc.die n seed zs))∧w'=w:=by
 by_cases hl:n<1
 ·have hd:=hide (Dc.die_low n seed zs hl)
  clear h
  go_enter Try.func79,Try.ntmps79
  go_wp2
  go_ret
  rw [uh hd]
  exact ⟨rfl,rfl⟩
 ·have hd:=hide (show Dc.die n seed zs=Dc.mix seed zs % n from if_neg hl)
  have hb:=Dc.mix_bd seed zs
  have h1:=Int.emod_nonneg (Dc.mix seed zs) (show n≠0 by omega)
  have h2:=Int.emod_lt_of_pos (Dc.mix seed zs) (show 0<n by omega)
  have hr:=hide h
  clear h
  obtain ⟨hb1,hb2⟩:=hb
  go_enter Try.func79,Try.ntmps79
  go_wp2_with fail
  refine (refMix_row _ _ _ _ _ _ (uh hr)).mono ?_
  rintro e w1 ⟨rfl,rfl⟩
  go_wp2
  go_ret
  rw [uh hd]
  exact ⟨rfl,rfl⟩

theorem Row.taken {w:World} {a:Option Addr} {len:Nat} {zs:List Int} (h:Row w a len zs) (k:Nat) (hk:k≤len):Row w a k (zs.take k):=by
 obtain ⟨hz,hm,h0 | ⟨b,off,ha,hc⟩⟩:=h
 ·exact ⟨by simp;omega,Nat.le_trans hk hm,.inl (by omega)⟩
 ·exact ⟨by simp;omega,Nat.le_trans hk hm,.inr ⟨b,off,ha,fun i hi=>by rw [hc i (by omega),List.getElem?_take,if_pos hi]⟩⟩

end Go.Proofs.Ytapgkgbpekkdjaa
