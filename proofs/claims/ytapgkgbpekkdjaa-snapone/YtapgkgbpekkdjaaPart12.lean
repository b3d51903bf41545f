import Derived.Test.YtapgkgbpekkdjaaPart09
import Derived.Test.YtapgkgbpekkdjaaPart10
import Derived.Test.YtapgkgbpekkdjaaPart11
namespace Go.Proofs.Ytapgkgbpekkdjaa
open Go.RowKit

theorem fieldHigh {op tg:Nat→Prop} {F:Nat→Int} (h:Gr.IsField op tg F):∀(n:Nat) i,i<384→F i=n→n≤400:=by
 intro n i hi hn
 have key:∀m:Nat,m≤n→∃j,j<384∧F j=m:=by
  intro m hm
  induction hnm:n - m generalizing m with
  | zero=>exact ⟨i,hi,by omega⟩
  | succ q ih =>
   obtain ⟨j,hj,he⟩:=ih (m+1) (by omega) (by omega)
   obtain ⟨_,j',_,hj',_,_,_,he'⟩:=h.back j hj (by omega)
   exact ⟨j',hj',by omega⟩
 by_cases hc:n≤400
 ·exact hc
 ·exfalso
  have inj:∀m:Nat,m≤n+1→m≤(List.range 384).countP (fun i=>decide (0≤F i∧F i<m)):=by
   intro m
   induction m with
   | zero=>intro _;exact Nat.zero_le _
   | succ m ih =>
    intro hm
    have h1:=ih (by omega)
    obtain ⟨j,hj,he⟩:=key m (by omega)
    have h2:(List.range 384).countP (fun i=>decide (0≤F i∧F i<m))<(List.range 384).countP (fun i=>decide (0≤F i∧F i<((m+1:Nat):Int))):=by
     have hs:∀(l:List Nat),j∈l→l.countP (fun i=>decide (0≤F i∧F i<m))<l.countP (fun i=>decide (0≤F i∧F i<((m+1:Nat):Int))):=by
      intro l
      induction l with
      | nil=>intro hm;cases hm
      | cons x l ih =>
       intro hm
       have hle:l.countP (fun i=>decide (0≤F i∧F i<m))≤l.countP (fun i=>decide (0≤F i∧F i<((m+1:Nat):Int))) :=
        List.countP_mono_left fun y _ hy=>by simp only [decide_eq_true_eq] at *;omega
       rw [List.countP_cons,List.countP_cons]
       rcases List.mem_cons.1 hm with rfl | hm
       ·rw [if_neg (by simp;omega),if_pos (by simp;omega)]
        omega
       ·have:=ih hm
        by_cases hx:0≤F x∧F x<m
        ·rw [if_pos (by simpa using hx),if_pos (by simp;omega)]
         omega
        ·rw [if_neg (by simpa using hx)]
         omega
     exact hs _ (List.mem_range.2 hj)
    omega
  have:=inj 401 (by omega)
  have hle:(List.range 384).countP (fun i=>decide (0≤F i∧F i<((401:Nat):Int)))≤(List.range 384).length:=List.countP_le_length
  rw [List.length_range] at hle
  omega

namespace Gn

structure Fld (c:Nat→Int) (up:Nat) (F:Nat→Int):Prop where
 is:Gr.IsField (fun i=>Gr.walkB (c i)=true) (fun i=>i=up) F
 out:∀i,384≤i→F i=0

theorem isField_congr {op op' tg tg':Nat→Prop} {F H:Nat→Int} (h:Gr.IsField op tg F) (ho:∀i,i<384→(op i↔op' i)) (ht:∀i,i<384→(tg i↔tg' i)) (hF:∀i,i<384→F i=H i):Gr.IsField op' tg' H:=by
 refine ⟨fun i hi=>?_,fun i hi=>?_,fun i hi hp=>?_,fun j hj h0 d hd hn hop=>?_⟩
 ·rw [←hF i hi];exact h.lo i hi
 ·rw [←hF i hi,h.zero i hi];exact ht i hi
 ·rw [←hF i hi] at hp
  obtain ⟨o,j,d,hj,hd,hn,he,hv⟩:=h.back i hi hp
  exact ⟨(ho i hi).1 o,j,d,hj,hd,hn,he,by rw [←hF i hi,←hF j hj];exact hv⟩
 ·rw [←hF j hj] at h0
  have hb:=Gr.nb_lt hn
  have:=h.fwd j hj h0 d hd hn ((ho _ hb).2 hop)
  rw [←hF j hj,←hF _ hb]
  exact this

theorem Fld.make {op tg:Nat→Prop} {c F:Nat→Int} {up:Nat} (h:Gr.IsField op tg F) (ho:∀i,i<384→(op i↔Gr.walkB (c i)=true)) (ht:∀i,i<384→(tg i↔i=up)):Fld c up (fun i=>if i<384 then F i else 0):=by
 refine ⟨isField_congr h ho ht fun i hi=>by rw [if_pos hi],fun i hi=>by rw [if_neg (by omega)]⟩

structure IsFar (F:Nat→Int) (far:Nat):Prop where
 lt:far<384
 top:∀i,i<384→F i≤F far
 fst:∀i,i<far→F i<F far

def shop (c F:Nat→Int) (v:Int):Option Nat:=(List.range 384).find? (fun i=>F i == v && c i == 1)

def shopped (c:Nat→Int):Option Nat→Nat→Int
 | none=>c
 | some k=>Gr.upd c k 5

def stocked (d:Dice) (c F:Nat→Int) (far:Nat):Nat→Int :=
 if d 6 0 2=0 then shopped (Gr.upd c far 4) (shop (Gr.upd c far 4) F (F far / 2)) else Gr.upd c far 4

theorem shop_some {c F:Nat→Int} {v:Int} {k:Nat} (hk:k<384) (hp:(F k == v && c k == 1)=true) (hn:∀i,i<k→(F i == v && c i == 1)=false):shop c F v=some k:=by
 unfold shop
 rw [List.find?_range_eq_some]
 exact ⟨hp,List.mem_range.2 hk,fun j hj=>by rw [hn j hj];rfl⟩

theorem shop_none {c F:Nat→Int} {v:Int} (hn:∀i,i<384→(F i == v && c i == 1)=false):shop c F v=none:=by
 unfold shop
 rw [List.find?_range_eq_none]
 exact fun j hj=>by rw [hn j hj];rfl

end Gn

theorem below_grown {w w':World} (h:Below w.heap.size w w'):w.grownBy w' none:=⟨h.os,h.tape,h.output,h.size,fun k hk _=>h.block k hk⟩

theorem Vec.none0 (B:Nat) (w:World) (a:Option Addr) (F:Nat→Value):Vec B w a 0 F:=⟨Nat.zero_le _,.inl rfl⟩

theorem Vec.one (w:World) (B:Nat) (hB:B=w.heap.size) (v:Value) (T:TypeId) (F:Nat→Value) (hv:F 0=v):Vec (w.alloc (.cells #[v] T)).heap.size (w.alloc (.cells #[v] T)) (some ⟨B,0,none⟩) 1 F:=by
 subst hB
 refine ⟨by decide,.inr ⟨_,_,rfl,by simp,fun i hi=>?_⟩⟩
 obtain rfl:i=0:=by omega
 simp [hv]


open Go.RowKit

namespace Gn

def kind (d:Dice) (f:Int) (k:Nat):Int:=2+d (16+(k:Int)) 1 (if 3<f+1 then 3 else f+1)

def mons (d:Dice) (f:Int):Nat→Nat→List Nat→List (Int × Nat)
 | 0,_,_=>[]
 | m+1,k,l=>if l.length=0 then [] else (kind d f k,l[(d (7+(k:Int)) 0 (l.length:Int)).toNat]?.getD 0) :: mons d f m (k+1) (l.eraseIdx (d (7+(k:Int)) 0 (l.length:Int)).toNat)

def entCells (p:Int × Nat):List Value:=(Gn.ent p.1 ((p.2:Int) % 24) ((p.2:Int) / 24)).toList

def flat (acc:List (Int × Nat)):List Value:=acc.flatMap entCells

theorem flat_more (acc:List (Int × Nat)) (p:Int × Nat):flat (acc ++ [p])=flat acc ++ entCells p:=by
 unfold flat
 rw [List.flatMap_append]
 simp

end Gn

theorem info_ent:(Try.prog.info? 45).map (fun i=>(i.zero,i.size,i.bytes))=some (some (.agg #[.int .i64 0,.int .i64 0,.int .i64 0,.int .i64 0,.int .i64 0,.int .i64 0,.int .i64 0,.int .i64 0,.int .i64 0,.int .i64 0,.int .i64 0]),11,88):=by kernel_rfl

theorem Arr.lit {w:World} {g:Nat} {T:TypeId} {arr:Array Value} (h:w.heap[g]?=some (.cells arr T (0,0))):Arr w g T arr.size (fun j=>arr[j]?.getD undef) :=
 ⟨arr,h,rfl,fun i hi=>by
  show arr[i]?=some (arr[i]?.getD undef)
  rw [Array.getElem?_eq_getElem hi]
  rfl⟩

theorem ent_news (w:World) (B:Nat) (hB:B=w.heap.size) (a0 a1 a2 a3 a4 a5 a6 a7 a8 a9 a10:Value) (T:TypeId):∀j u,[a0,a1,a2,a3,a4,a5,a6,a7,a8,a9,a10][j]?=some u→(w.alloc (.cells #[a0,a1,a2,a3,a4,a5,a6,a7,a8,a9,a10] T)).cell? ((⟨B,0,none⟩:Addr).add j)=some u:=by
 subst hB
 intro j u hj
 have hlt:j<11:=by
  have:=(List.getElem?_eq_some_iff.1 hj).1
  exact this
 rcases (show j=0∨j=1∨j=2∨j=3∨j=4∨j=5∨j=6∨j=7∨j=8∨j=9∨j=10 by omega) with rfl | rfl | rfl | rfl | rfl | rfl | rfl | rfl | rfl | rfl | rfl
 all_goals
  simp at hj
  subst hj
  simp [Addr.add]

theorem owns_mono {w:World} {b b':Nat} {e:TypeId} {z n:Nat} {v:Value} {xs:List Value} (h:w.ownsRow b e z v n xs) (hb:b'≤b):w.ownsRow b' e z v n xs:=by
 refine ⟨h.1,?_⟩
 rcases h.2 with h | ⟨g,cap,cur,hv,hg,rest⟩
 ·exact .inl h
 ·exact .inr ⟨g,cap,cur,hv,by omega,rest⟩

theorem Gn.mons_len (d:Gn.Dice) (f:Int):∀(m k:Nat) (l:List Nat),(Gn.mons d f m k l).length≤m
 | 0,_,_=>Nat.le_refl _
 | m+1,k,l=>by
  unfold Gn.mons
  split
  ·exact Nat.zero_le _
  ·have:=Gn.mons_len d f m (k+1) (l.eraseIdx (d (7+(k:Int)) 0 (l.length:Int)).toNat)
   simp only [List.length_cons]
   omega

end Go.Proofs.Ytapgkgbpekkdjaa
