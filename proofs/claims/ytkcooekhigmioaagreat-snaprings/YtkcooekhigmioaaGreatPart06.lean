import Derived.Test.YtkcooekhigmioaaGreatPart03
import Derived.Test.YtkcooekhigmioaaGreatPart04
import Derived.Deep.AppendLies
import Derived.Test.YtkcooekhigmioaaGreatPart05
import Derived.Laws.CopyOwn
import Derived.Laws.BitsAllLaws
namespace Go.Proofs.YtkcooekhigmioaaGreat
open Go.RowKit

theorem fieldHigh {op tg:Nat→Prop} {F:Nat→Int} (h:Gr.IsField op tg F):∀(n:Nat) i,i<384→F i=n→n≤400:=by
 intro n i hi hn
 have key:∀m:Nat,m≤n→∃j,j<384∧F j=m:=by
  intro m hm
  induction hnm:n - m generalizing m with
  | zero=>exact ⟨i,hi,by omega⟩
  | succ q ih =>
   obtain ⟨j,hj,he⟩:=ih (m+1) (by omega) (by omega)
   obtain ⟨_,j',_,hj',_,_,_,he'⟩:=h.back j hj (by omega)
   exact ⟨j',hj',by omega⟩
 by_cases hc:n≤400
 ·exact hc
 ·exfalso
  have inj:∀m:Nat,m≤n+1→m≤(List.range 384).countP (fun i=>decide (0≤F i∧F i<m)):=by
   intro m
   induction m with
   | zero=>intro _;exact Nat.zero_le _
   | succ m ih =>
    intro hm
    have h1:=ih (by omega)
    obtain ⟨j,hj,he⟩:=key m (by omega)
    have h2:(List.range 384).countP (fun i=>decide (0≤F i∧F i<m))<(List.range 384).countP (fun i=>decide (0≤F i∧F i<((m+1:Nat):Int))):=by
     have hs:∀(l:List Nat),j∈l→l.countP (fun i=>decide (0≤F i∧F i<m))<l.countP (fun i=>decide (0≤F i∧F i<((m+1:Nat):Int))):=by
      intro l
      induction l with
      | nil=>intro hm;cases hm
      | cons x l ih =>
       intro hm
       have hle:l.countP (fun i=>decide (0≤F i∧F i<m))≤l.countP (fun i=>decide (0≤F i∧F i<((m+1:Nat):Int))) :=
        List.countP_mono_left fun y _ hy=>by simp only [decide_eq_true_eq] at *;omega
       rw [List.countP_cons,List.countP_cons]
       rcases List.mem_cons.1 hm with rfl | hm
       ·rw [if_neg (by simp;omega),if_pos (by simp;omega)]
        omega
       ·have:=ih hm
        by_cases hx:0≤F x∧F x<m
        ·rw [if_pos (by simpa using hx),if_pos (by simp;omega)]
         omega
        ·rw [if_neg (by simpa using hx)]
         omega
     exact hs _ (List.mem_range.2 hj)
    omega
  have:=inj 401 (by omega)
  have hle:(List.range 384).countP (fun i=>decide (0≤F i∧F i<((401:Nat):Int)))≤(List.range 384).length:=List.countP_le_length
  rw [List.length_range] at hle
  omega

namespace Gn

structure Fld (c:Nat→Int) (up:Nat) (F:Nat→Int):Prop where
 is:Gr.IsField (fun i=>Gr.walkB (c i)=true) (fun i=>i=up) F
 out:∀i,384≤i→F i=0

theorem isField_congr {op op' tg tg':Nat→Prop} {F H:Nat→Int} (h:Gr.IsField op tg F) (ho:∀i,i<384→(op i↔op' i)) (ht:∀i,i<384→(tg i↔tg' i)) (hF:∀i,i<384→F i=H i):Gr.IsField op' tg' H:=by
 refine ⟨fun i hi=>?_,fun i hi=>?_,fun i hi hp=>?_,fun j hj h0 d hd hn hop=>?_⟩
 ·rw [←hF i hi];exact h.lo i hi
 ·rw [←hF i hi,h.zero i hi];exact ht i hi
 ·rw [←hF i hi] at hp
  obtain ⟨o,j,d,hj,hd,hn,he,hv⟩:=h.back i hi hp
  exact ⟨(ho i hi).1 o,j,d,hj,hd,hn,he,by rw [←hF i hi,←hF j hj];exact hv⟩
 ·rw [←hF j hj] at h0
  have hb:=Gr.nb_lt hn
  have:=h.fwd j hj h0 d hd hn ((ho _ hb).2 hop)
  rw [←hF j hj,←hF _ hb]
  exact this

theorem Fld.make {op tg:Nat→Prop} {c F:Nat→Int} {up:Nat} (h:Gr.IsField op tg F) (ho:∀i,i<384→(op i↔Gr.walkB (c i)=true)) (ht:∀i,i<384→(tg i↔i=up)):Fld c up (fun i=>if i<384 then F i else 0):=by
 refine ⟨isField_congr h ho ht fun i hi=>by rw [if_pos hi],fun i hi=>by rw [if_neg (by omega)]⟩

structure IsFar (F:Nat→Int) (far:Nat):Prop where
 lt:far<384
 top:∀i,i<384→F i≤F far
 fst:∀i,i<far→F i<F far

def shop (c F:Nat→Int) (v:Int):Option Nat:=(List.range 384).find? (fun i=>F i == v && c i == 1)

def shopped (c:Nat→Int):Option Nat→Nat→Int
 | none=>c
 | some k=>Gr.upd c k 5

def stocked (d:Dice) (c F:Nat→Int) (far:Nat):Nat→Int :=
 if d 6 0 2=0 then shopped (Gr.upd c far 4) (shop (Gr.upd c far 4) F (F far / 2)) else Gr.upd c far 4

theorem shop_some {c F:Nat→Int} {v:Int} {k:Nat} (hk:k<384) (hp:(F k == v && c k == 1)=true) (hn:∀i,i<k→(F i == v && c i == 1)=false):shop c F v=some k:=by
 unfold shop
 rw [List.find?_range_eq_some]
 exact ⟨hp,List.mem_range.2 hk,fun j hj=>by rw [hn j hj];rfl⟩

theorem shop_none {c F:Nat→Int} {v:Int} (hn:∀i,i<384→(F i == v && c i == 1)=false):shop c F v=none:=by
 unfold shop
 rw [List.find?_range_eq_none]
 exact fun j hj=>by rw [hn j hj];rfl

end Gn

theorem below_grown {w w':World} (h:Below w.heap.size w w'):w.grownBy w' none:=⟨h.os,h.tape,h.output,h.size,fun k hk _=>h.block k hk⟩

theorem Vec.none0 (B:Nat) (w:World) (a:Option Addr) (F:Nat→Value):Vec B w a 0 F:=⟨Nat.zero_le _,.inl rfl⟩

theorem Vec.one (w:World) (B:Nat) (hB:B=w.heap.size) (v:Value) (T:TypeId) (F:Nat→Value) (hv:F 0=v):Vec (w.alloc (.cells #[v] T)).heap.size (w.alloc (.cells #[v] T)) (some ⟨B,0,none⟩) 1 F:=by
 subst hB
 refine ⟨by decide,.inr ⟨_,_,rfl,by simp,fun i hi=>?_⟩⟩
 obtain rfl:i=0:=by omega
 simp [hv]


open Go.RowKit

namespace Gn

def kind (d:Dice) (f:Int) (k:Nat):Int:=2+d (16+(k:Int)) 1 (if 3<f+1 then 3 else f+1)

def mons (d:Dice) (f:Int):Nat→Nat→List Nat→List (Int × Nat)
 | 0,_,_=>[]
 | m+1,k,l=>if l.length=0 then [] else (kind d f k,l[(d (7+(k:Int)) 0 (l.length:Int)).toNat]?.getD 0) :: mons d f m (k+1) (l.eraseIdx (d (7+(k:Int)) 0 (l.length:Int)).toNat)

def entCells (p:Int × Nat):List Value:=(Gn.ent p.1 ((p.2:Int) % 24) ((p.2:Int) / 24)).toList

def flat (acc:List (Int × Nat)):List Value:=acc.flatMap entCells

theorem flat_more (acc:List (Int × Nat)) (p:Int × Nat):flat (acc ++ [p])=flat acc ++ entCells p:=by
 unfold flat
 rw [List.flatMap_append]
 simp

end Gn

theorem info_ent:(Tryz.prog.info? 70).map (fun i=>(i.zero,i.size,i.bytes))=some (some (.agg #[.int .i64 0,.int .i64 0,.int .i64 0,.int .i64 0,.int .i64 0,.int .i64 0,.int .i64 0,.int .i64 0,.int .i64 0,.int .i64 0,.int .i64 0]),11,88):=by kernel_rfl

theorem Arr.lit {w:World} {g:Nat} {T:TypeId} {arr:Array Value} (h:w.heap[g]?=some (.cells arr T (0,0))):Arr w g T arr.size (fun j=>arr[j]?.getD undef) :=
 ⟨arr,h,rfl,fun i hi=>by
  show arr[i]?=some (arr[i]?.getD undef)
  rw [Array.getElem?_eq_getElem hi]
  rfl⟩

theorem ent_news (w:World) (B:Nat) (hB:B=w.heap.size) (a0 a1 a2 a3 a4 a5 a6 a7 a8 a9 a10:Value) (T:TypeId):∀j u,[a0,a1,a2,a3,a4,a5,a6,a7,a8,a9,a10][j]?=some u→(w.alloc (.cells #[a0,a1,a2,a3,a4,a5,a6,a7,a8,a9,a10] T)).cell? ((⟨B,0,none⟩:Addr).add j)=some u:=by
 subst hB
 intro j u hj
 have hlt:j<11:=by
  have:=(List.getElem?_eq_some_iff.1 hj).1
  exact this
 rcases (show j=0∨j=1∨j=2∨j=3∨j=4∨j=5∨j=6∨j=7∨j=8∨j=9∨j=10 by omega) with rfl | rfl | rfl | rfl | rfl | rfl | rfl | rfl | rfl | rfl | rfl
 all_goals
  simp at hj
  subst hj
  simp [Addr.add]

theorem owns_mono {w:World} {b b':Nat} {e:TypeId} {z n:Nat} {v:Value} {xs:List Value} (h:w.ownsRow b e z v n xs) (hb:b'≤b):w.ownsRow b' e z v n xs:=by
 refine ⟨h.1,?_⟩
 rcases h.2 with h | ⟨g,cap,cur,hv,hg,rest⟩
 ·exact .inl h
 ·exact .inr ⟨g,cap,cur,hv,by omega,rest⟩

theorem Gn.mons_len (d:Gn.Dice) (f:Int):∀(m k:Nat) (l:List Nat),(Gn.mons d f m k l).length≤m
 | 0,_,_=>Nat.le_refl _
 | m+1,k,l=>by
  unfold Gn.mons
  split
  ·exact Nat.zero_le _
  ·have:=Gn.mons_len d f m (k+1) (l.eraseIdx (d (7+(k:Int)) 0 (l.length:Int)).toNat)
   simp only [List.length_cons]
   omega


open Go.RowKit

namespace Gn

abbrev Itm:=Int × Int × Int × Int

def lie (d:Dice):Nat→Nat→List Nat→List Itm
 | 0,_,_=>[]
 | m+1,k,l=>if l.length=0 then [] else (1+d (40+(k:Int)) 1 4,1,((l[(d (40+(k:Int)) 0 (l.length:Int)).toNat]?.getD 0:Nat):Int) % 24,((l[(d (40+(k:Int)) 0 (l.length:Int)).toNat]?.getD 0:Nat):Int) / 24) :: lie d m (k+1) (l.eraseIdx (d (40+(k:Int)) 0 (l.length:Int)).toNat)

def wares (d:Dice) (k:Nat):List Itm:=(List.range k).map fun (j:Nat)=>(1+d (50+(j:Int)) 1 3,4,(j:Int),0)

def items (d:Dice) (c:Nat→Int):List Itm:=lie d 4 0 (those (fun i=>c i == 1) 384) ++ if Gr.find 384 c 5<0 then [] else wares d 3

def itemCells (p:Itm):List Value:=[.int .i64 p.1,.int .i64 p.2.1,.int .i64 p.2.2.1,.int .i64 p.2.2.2]

def flatI (acc:List Itm):List Value:=acc.flatMap itemCells

theorem flatI_more (acc:List Itm) (p:Itm):flatI (acc ++ [p])=flatI acc ++ itemCells p:=by
 unfold flatI
 rw [List.flatMap_append]
 simp

theorem wares_more (d:Dice) (k:Nat):wares d (k+1)=wares d k ++ [(1+d (50+(k:Int)) 1 3,4,(k:Int),0)]:=by
 unfold wares
 rw [List.range_succ,List.map_append]
 rfl

theorem lie_len (d:Dice):∀(m k:Nat) (l:List Nat),(lie d m k l).length≤m
 | 0,_,_=>Nat.le_refl _
 | m+1,k,l=>by
  unfold lie
  split
  ·exact Nat.zero_le _
  ·have:=lie_len d m (k+1) (l.eraseIdx (d (40+(k:Int)) 0 (l.length:Int)).toNat)
   simp only [List.length_cons]
   omega

end Gn

theorem info_item:(Tryz.prog.info? 72).map (fun i=>(i.zero,i.size,i.bytes))=some (some (.agg #[.int .i64 0,.int .i64 0,.int .i64 0,.int .i64 0]),4,32):=by kernel_rfl

theorem item_news (w:World) (B:Nat) (hB:B=w.heap.size) (a0 a1 a2 a3:Value) (T:TypeId):∀j u,[a0,a1,a2,a3][j]?=some u→(w.alloc (.cells #[a0,a1,a2,a3] T)).cell? ((⟨B,0,none⟩:Addr).add j)=some u:=by
 subst hB
 intro j u hj
 have hlt:j<4:=(List.getElem?_eq_some_iff.1 hj).1
 rcases (show j=0∨j=1∨j=2∨j=3 by omega) with rfl | rfl | rfl | rfl
 all_goals
  simp at hj
  subst hj
  simp [Addr.add]


open Go.RowKit

namespace Gn

def up (d:Dice):Nat:=(my d 0*24+mx d 0).toNat

def base (d:Dice):Nat→Int:=Gr.upd (dug d 5) (up d) 3

def IsLevel (d:Dice) (c F:Nat→Int):Prop:=∃far,Fld (base d) (up d) F∧IsFar F far∧c=stocked d (base d) F far

def ents (d:Dice) (f:Int) (c F:Nat→Int):List (Int × Nat):=mons d f (f+2).toNat 0 ((those (fun i=>c i == 1) 384).filter (afar F))

theorem up_eq {d:Dice} (hd:Fair d):my d 0*24+mx d 0=((up d:Nat):Int):=by
 have:=mid_bd hd 0
 unfold up
 omega

theorem base_5 (d:Dice) (i:Nat):0≤base d i∧base d i≤5:=upd_5 (dug_5 d 5) (by omega) i

theorem shopped_5 {c:Nat→Int} (h:∀i,0≤c i∧c i≤5) (o:Option Nat) (i:Nat):0≤shopped c o i∧shopped c o i≤5:=by
 cases o with
 | none=>exact h i
 | some k=>exact upd_5 h (by omega) i

theorem stocked_5 (d:Dice) {c:Nat→Int} (h:∀i,0≤c i∧c i≤5) (F:Nat→Int) (far i:Nat):0≤stocked d c F far i∧stocked d c F far i≤5:=by
 have h4:∀i,0≤Gr.upd c far 4 i∧Gr.upd c far 4 i≤5:=upd_5 h (by omega)
 unfold stocked
 split
 ·exact shopped_5 h4 _ i
 ·exact h4 i

theorem IsLevel.five {d:Dice} {c F:Nat→Int} (h:IsLevel d c F) (i:Nat):0≤c i∧c i≤5:=by
 obtain ⟨far,_,_,rfl⟩:=h
 exact stocked_5 d (base_5 d) F far i

end Gn

theorem owns_form {w:World} {b:Nat} {e:TypeId} {z n:Nat} {v:Value} {xs:List Value} (h:w.ownsRow b e z v n xs):∃a cap,v=.slice a n cap:=by
 rcases h.2 with ⟨rfl,rfl⟩ | ⟨g,cap,cur,rfl,_⟩
 ·exact ⟨_,_,rfl⟩
 ·exact ⟨_,_,rfl⟩


open Go.RowKit

theorem own_sets {a:World} {g:Nat} (hg:a.heap.size≤g):∀(vs:List Value) (o:Nat) (b:World),a.grownBy b none→a.grownBy (b.setCells g o vs) none
 | [],_,_,h=>h
 | v :: vs,o,b,h=>own_sets hg vs (o+1) (b.setCell ⟨g,o,none⟩ v) (gsr h ⟨g,o,none⟩ hg v)

theorem none_below {a b:World} (h:a.grownBy b none):Below a.heap.size a b :=
 ⟨h.os,h.tape,h.output,h.size,fun i hi=>h.block i hi (fun e=>by cases e)⟩

theorem cell_boxed (w:World) (v:Value) (T:TypeId) (B:Nat) (hB:B=w.heap.size):(w.alloc (.cells #[v] T)).cell? ⟨B,0,none⟩=some v:=by
 subst hB
 exact (Arr.lit (heap_alloc_new w (.cells #[v] T))).cell (i:=0) (by simp)

theorem cell_past {w:World} {B i:Nat} {v:Value} (o:Obj) (hB:B<w.heap.size) (h:w.cell? ⟨B,i,none⟩=some v):(w.alloc o).cell? ⟨B,i,none⟩=some v :=
 (gce (World.grownBy_alloc w o none) B i hB (by simp)).trans h

def En.cells (e:Nat→Int):Array Value:=#[.int .i64 (e 0),.int .i64 (e 1),.int .i64 (e 2),.int .i64 (e 3),.int .i64 (e 4),.int .i64 (e 5),.int .i64 (e 6),.int .i64 (e 7),.int .i64 (e 8),.int .i64 (e 9),.int .i64 (e 10)]

def En.flat (E:Nat→Nat→Int):Nat→Value:=fun c=>.int .i64 (E (c / 11) (c % 11))

theorem En.flat_at (E:Nat→Nat→Int) (i j:Nat) (hj:j<11):En.flat E (i*11+j)=.int .i64 (E i j):=by
 unfold En.flat
 rw [show (i*11+j) / 11=i by omega,show (i*11+j) % 11=j by omega]

def Ents (w:World) (b n:Nat) (E:Nat→Nat→Int):Prop :=
 n≤32∧b<w.heap.size∧∀i j,i<n→j<11→w.cell? ⟨b,i*11+j,none⟩=some (.int .i64 (E i j))

theorem Ents.on {w w':World} {b n:Nat} {E:Nat→Nat→Int} (h:Ents w b n E) (hg:w.grownBy w' none):Ents w' b n E :=
 ⟨h.1,Nat.lt_of_lt_of_le h.2.1 hg.size,fun i j hi hj=>(gce hg b _ h.2.1 (by simp)).trans (h.2.2 i j hi hj)⟩

def Own (w:World) (g n:Nat) (E:Nat→Nat→Int):Prop :=
 n≤32∧∃m F,Arr w g 70 m F∧n*11≤m∧∀c,c<n*11→F c=En.flat E c

theorem Own.ents {w:World} {g n:Nat} {E:Nat→Nat→Int} (h:Own w g n E):Ents w g n E:=by
 obtain ⟨hn,m,F,hA,hm,hF⟩:=h
 exact ⟨hn,hA.lt,fun i j hi hj=>by rw [hA.cell (i:=i*11+j) (by omega),hF _ (by omega),En.flat_at E i j hj]⟩

theorem Own.free {w:World} {g n:Nat} {E:Nat→Nat→Int} (h:Own w g n E) (i:Nat):w.frozen? ⟨g,i,none⟩=false:=by
 obtain ⟨hn,m,F,hA,hm,hF⟩:=h
 exact hA.free i

def En.put (E:Nat→Nat→Int) (k:Nat) (e:Nat→Int):Nat→Nat→Int:=fun i=>if i=k then e else E i

theorem En.put_same (E:Nat→Nat→Int) (k:Nat) (e:Nat→Int):En.put E k e k=e:=if_pos rfl
theorem En.put_other {E:Nat→Nat→Int} {k i:Nat} {e:Nat→Int} (h:i≠k):En.put E k e i=E i:=if_neg h

theorem En.cells_at (e:Nat→Int) (j:Nat) (hj:j<11):(En.cells e).toList[j]?.getD undef=.int .i64 (e j):=by
 rcases (show j=0∨j=1∨j=2∨j=3∨j=4∨j=5∨j=6∨j=7∨j=8∨j=9∨j=10 by omega) with rfl | rfl | rfl | rfl | rfl | rfl | rfl | rfl | rfl | rfl | rfl <;> rfl

theorem Own.store {w:World} {g n:Nat} {E:Nat→Nat→Int} (h:Own w g n E) (k:Nat) (e:Nat→Int):Own (w.setCells g (k*11) (En.cells e).toList) g n (En.put E k e):=by
 obtain ⟨hn,m,F,hA,hm,hF⟩:=h
 refine ⟨hn,m,_,hA.stores (En.cells e).toList (k*11),hm,fun c hc=>?_⟩
 show (if k*11≤c∧c<k*11+11 then (En.cells e).toList[c - k*11]?.getD undef else F c)=En.flat (En.put E k e) c
 unfold En.flat
 by_cases hk:k*11≤c∧c<k*11+11
 ·rw [if_pos hk,En.cells_at e _ (by omega),show c / 11=k by omega,En.put_same,show c - k*11=c % 11 by omega]
 ·rw [if_neg hk,hF c hc,En.put_other (by omega)]
  rfl

theorem Own.of_owns {w:World} {base g n cap:Nat} {xs:List Value} {E:Nat→Nat→Int} (h:w.ownsRow base 70 11 (.slice (some ⟨g,0,none⟩) n cap) n xs) (hn:n≤32) (hx:∀c,c<n*11→xs[c]?=some (En.flat E c)):Own w g n E:=by
 rcases h.2 with ⟨h',_⟩ | ⟨g',cap',cur,h',_,hg,hnc,_,hcs,htake⟩
 ·simp at h'
 ·simp only [Value.slice.injEq,Option.some.injEq,Addr.mk.injEq,and_true,true_and] at h'
  obtain ⟨rfl,rfl⟩:=h'
  refine ⟨hn,cur.size,fun j=>cur[j]?.getD undef,Arr.lit hg,by rw [hcs];omega,fun c hc=>?_⟩
  show cur[c]?.getD undef=_
  have e:=hx c hc
  rw [←htake,List.getElem?_take,if_pos hc,Array.getElem?_toList] at e
  rw [e]
  rfl

def Lists (w:World) (n:Nat) (E:Nat→Nat→Int) (e:Ending) (w':World):Prop :=
 ∃g cap,e=.returned (.slice (some ⟨g,0,none⟩) n cap)∧w.heap.size≤g∧n≤cap∧cap≤maxLen∧Own w' g n E∧w.grownBy w' none

theorem run_copy_many {P:Program} (w:World) (dT sT ty elem:TypeId) (z g o dLen dCap:Nat) (a:Addr) (sLen sCap:Nat) (cur:Array Value) (t:TypeId) (cs:List Value)
  (hu:P.underlying dT=some (.slice elem)) (hs:(P.info? elem).map (·.size)=some z)
  (hg:w.heap[g]?=some (.cells cur t (0,0))) (hn:cs.length=Nat.min sLen dLen*z)
  (hsrc:∀j v,cs[j]?=some v→w.cell? (a.add j)=some v) (hfit:o+cs.length≤cur.size) (h1:∀v∈cs,v.oneCell'=true) :
  (Builtin.copy_ #[dT,sT] ty #[.slice (some ⟨g,o,none⟩) dLen dCap,.slice (some a) sLen sCap]).run P w =
   .ok (goInt (Nat.min sLen dLen)) (w.setRow g (cur.toList.take o ++ cs ++ cur.toList.drop (o+cs.length)).toArray):=by
 have hl:=run_loadCells_list (P:=P) w a cs hsrc
 have hst:=run_storeCells_at P g o t cs 0 cur w hg (by simpa using hfit) h1
 cases hq:P.info? elem with
 | none=>simp [hq] at hs
 | some i =>
  have hi:i.size=z:=by simpa [hq] using hs
  simp [Builtin.copy_,run_underlying hu,Builtin.lenOf,Builtin.firstCells,sizeOf,typeInfo,hq,hi,←hn,hl,hst]

theorem run_copy_whole {P:Program} {w:World} (dT sT ty elem:TypeId) (hu:P.underlying dT=some (.slice elem)) (z:Nat) (hsz:(P.info? elem).map (·.size)=some z)
  (g n dCap:Nat) (ad:Addr) (sCap:Nat) (cur:Array Value) (t:TypeId) (hg:w.heap[g]?=some (.cells cur t (0,0))) (cs:List Value) (hn:cs.length=n*z)
  (hsrc:∀j v,cs[j]?=some v→w.cell? (ad.add j)=some v) (hfit:cs.length=cur.size) (h1:∀v∈cs,v.oneCell'=true) :
  ∃w',(Builtin.copy_ #[dT,sT] ty #[.slice (some ⟨g,0,none⟩) n dCap,.slice (some ad) n sCap]).run P w=.ok (goInt n) w'∧w'.heap[g]?=some (.cells cs.toArray t (0,0))∧w.grownBy w' (some g):=by
 have hrun:=run_copy_many (P:=P) w dT sT ty elem z g 0 n dCap ad n sCap cur t cs hu hsz hg (by rw [hn];simp) hsrc (by omega) h1
 have hmin:Nat.min n n=n:=by simp
 rw [hmin] at hrun
 refine ⟨_,hrun,?_,⟨rfl,rfl,rfl,by simp [World.setRow],fun k _ hr=>setRow_other w g k _ (fun e=>hr (by rw [e]))⟩⟩
 have e:cs ++ List.drop cs.length cur.toList=cs:=by
  rw [List.drop_eq_nil_of_le (by simp;omega),List.append_nil]
 have:=setRow_heap w g cur cs.toArray t _ hg
 simpa [e] using this

theorem madeCells_ent (n c:Nat) (hc:c<n*11):(madeCells (Value.agg #[.int .i64 0,.int .i64 0,.int .i64 0,.int .i64 0,.int .i64 0,.int .i64 0,.int .i64 0,.int .i64 0,.int .i64 0,.int .i64 0,.int .i64 0]).cells (n*11))[c]?=some (.int .i64 0):=by
 have hm:c % 11<11:=by omega
 obtain ⟨m,hmm⟩:∃m,m=c % 11:=⟨_,rfl⟩
 unfold madeCells
 simp [hc,Value.cells]
 rw [←hmm] at hm ⊢
 rcases (show m=0∨m=1∨m=2∨m=3∨m=4∨m=5∨m=6∨m=7∨m=8∨m=9∨m=10 by omega) with rfl | rfl | rfl | rfl | rfl | rfl | rfl | rfl | rfl | rfl | rfl <;> rfl

theorem make32:∃Z:Array Value,(∀w:World,(Instr.makeSlice 27 (.int .i64 32) (.int .i64 32)).run Tryz.prog w=.ok (.slice (some ⟨w.heap.size,0,none⟩) 32 32) (w.alloc (.cells Z 70))) ∧
  ∀w:World,Own (w.alloc (.cells Z 70)) w.heap.size 32 (fun _ _=>0):=by
 obtain ⟨i0,hi,hz0,hz1,hz2⟩:=info_parts info_ent
 refine ⟨madeCells (Value.agg #[.int .i64 0,.int .i64 0,.int .i64 0,.int .i64 0,.int .i64 0,.int .i64 0,.int .i64 0,.int .i64 0,.int .i64 0,.int .i64 0,.int .i64 0]).cells (32*11),fun w=>?_,fun w=>?_⟩
 ·have hr:=run_make (P:=Tryz.prog) w 27 70 i0 _ Tryz.underlying27 hi hz0 .i64 .i64 (32:Nat) (32:Nat) (by omega) (by omega) (by rw [hz2];decide) (by decide)
  rw [hz1] at hr
  exact hr
 ·refine ⟨by omega,_,_,Arr.lit (heap_alloc_new w _),by rw [size_madeCells];omega,fun c hc=>?_⟩
  show (madeCells _ _)[c]?.getD undef=_
  rw [madeCells_ent 32 c hc]
  rfl


open Go.RowKit

theorem isFree_any (e:Nat→Int) (w:World):Calls Tryz.prog 129 #[.agg (En.cells e)] w (Says w (.bool (decide (e 0=0)))):=by
 unfold En.cells
 go_enter Tryz.func129,Tryz.ntmps129
 go_wp2
 go_ret
 exact ⟨rfl,World.grownBy_alloc _ _ _⟩

theorem slice_ents (a:Option Addr) (len cap k:Nat) (w:World) (hk:k≤cap) :
  (Instr.slice 27 (.slice a len cap) none (some (.int .i64 (k:Int))) none).run Tryz.prog w=.ok (.slice a k cap) w:=by
 have hs:(sizeOf (Tryz.prog.elem 27)).run Tryz.prog w=.ok 11 w:=by kernel_rfl
 rw [run_slice_h w 27 a len cap (by kernel_rfl) .i64 (k:Int) (by omega) (by omega),hs]
 have e:a.map (fun x=>x.add (0*11))=a:=by
  cases a with
  | none=>rfl
  | some x=>simp [Addr.add]
 simp only [Result.andThen,sliced,e,Int.toNat_natCast,Nat.sub_zero,ite_self]

theorem rows_any (a:Option Addr) (n c:Nat) (w:World) (hn:n≤32) (hc:n≤c) :
  Calls Tryz.prog 128 #[.slice a n c] w fun e w'=>e=.returned (.slice a n c)∧w'=w:=by
 have hs:=fun wx=>slice_ents a n c n wx hc
 have hm:min (n:Int) 32=(n:Int):=by omega
 go_enter Tryz.func128,Tryz.ntmps128
 go_wp2
 go_ret
 exact ⟨rfl,rfl⟩

def En.Gens (n:Nat) (E:Nat→Nat→Int):Prop:=∀i,i<n→0≤E i 1∧E i 1≤255

end Go.Proofs.YtkcooekhigmioaaGreat

namespace Go.Proofs.YtkcooekhigmioaaGreat.Fx

def isRoot (n r:Int):Prop:=0≤r∧r*r≤n∧n<(r+1)*(r+1)

def RI (n P B:Int):Prop:=∃k q:Nat,k≤32∧P=((q*2 ^ k:Nat):Int)∧B=((2 ^ k / 2:Nat):Int)∧P*P≤n∧n<(((q+1)*2 ^ k:Nat):Int)*(((q+1)*2 ^ k:Nat):Int)∧(q+1)*2 ^ k≤4294967296

theorem RI_start (n:Int) (h0:0≤n) (h1:n<18446744073709551616):RI n 0 2147483648 :=
 ⟨32,0,by omega,by simp,by decide,by omega,by simpa using h1,by decide⟩

theorem pow_half (k:Nat):2 ^ (k+1) / 2=2 ^ k:=by rw [Nat.pow_succ];omega

theorem RI_bounds {n P B:Int} (h:RI n P B):0≤P∧P<4294967296∧0≤B∧B≤2147483648∧P+B<4294967296:=by
 obtain ⟨k,q,hk,rfl,rfl,_,_,hb⟩:=h
 have hp:=Nat.two_pow_pos k
 rw [Nat.add_mul,Nat.one_mul] at hb
 have h32:2 ^ k≤2 ^ 32:=Nat.pow_le_pow_right (by omega) hk
 have e32:2 ^ 32=4294967296:=by decide
 generalize q*2 ^ k=u at *
 generalize 2 ^ k=v at *
 refine ⟨by omega,by omega,by omega,by omega,?_⟩
 omega

theorem RI_succ {n P B:Int} (h:RI n P B) (hB:0<B):∃j q:Nat,j+1≤32∧P=((q*2 ^ (j+1):Nat):Int)∧B=((2 ^ j:Nat):Int)∧P*P≤n∧n<(((q+1)*2 ^ (j+1):Nat):Int)*(((q+1)*2 ^ (j+1):Nat):Int)∧(q+1)*2 ^ (j+1)≤4294967296:=by
 obtain ⟨k,q,hk,hP,hb,r⟩:=h
 cases k with
 | zero=>exfalso;rw [hb] at hB;simp at hB
 | succ j=>exact ⟨j,q,hk,hP,by rw [hb,pow_half],r⟩

theorem half_pow (j:Nat):((2 ^ j:Nat):Int) / 2=((2 ^ j / 2:Nat):Int):=by omega

theorem RI_yes {n P B:Int} (h:RI n P B) (hB:0<B) (hy:(P+B)*(P+B)≤n):RI n (P+B) (B / 2):=by
 obtain ⟨j,q,hj,rfl,rfl,_,hu,hb⟩:=RI_succ h hB
 have e1:(2*q+1)*2 ^ j=q*2 ^ (j+1)+2 ^ j:=by rw [Nat.pow_succ,Nat.add_mul,Nat.one_mul];ac_rfl
 have e2:(2*q+1+1)*2 ^ j=(q+1)*2 ^ (j+1):=by rw [Nat.pow_succ,show 2*q+1+1=2*(q+1) from by omega];ac_rfl
 refine ⟨j,2*q+1,by omega,by rw [e1];omega,half_pow j,hy,?_,?_⟩
 ·rw [e2];exact hu
 ·rw [e2];exact hb

theorem RI_no {n P B:Int} (h:RI n P B) (hB:0<B) (hy:n<(P+B)*(P+B)):RI n P (B / 2):=by
 obtain ⟨j,q,hj,rfl,rfl,hp,hu,hb⟩:=RI_succ h hB
 have e1:(2*q)*2 ^ j=q*2 ^ (j+1):=by rw [Nat.pow_succ];ac_rfl
 have e2:(2*q+1)*2 ^ j=q*2 ^ (j+1)+2 ^ j:=by rw [Nat.pow_succ,Nat.add_mul,Nat.one_mul];ac_rfl
 have e3:(q+1)*2 ^ (j+1)=q*2 ^ (j+1)+2 ^ j+2 ^ j:=by rw [Nat.pow_succ,Nat.add_mul,Nat.one_mul];omega
 refine ⟨j,2*q,by omega,by rw [e1],half_pow j,hp,?_,?_⟩
 ·rw [e2,Int.natCast_add];exact hy
 ·rw [e2];rw [e3] at hb;omega

theorem RI_end {n P B:Int} (h:RI n P B) (hB:B≤0):isRoot n P:=by
 have hb:=RI_bounds h
 obtain ⟨k,q,hk,hP,hb',hp,hu,_⟩:=h
 cases k with
 | zero=>
  refine ⟨hb.1,hp,?_⟩
  simp only [Nat.pow_zero,Nat.mul_one] at hP hu
  rw [hP]
  exact hu
 | succ j=>
  have:=Nat.two_pow_pos j
  rw [pow_half] at hb'
  omega

theorem RI_cap {n P B:Int} (hn:n≤9223372036854775807) (hc:3037000499<P+B):n<(P+B)*(P+B):=by
 have:=Int.mul_self_le_mul_self (a:=3037000500) (b:=P+B) (by omega) (by omega)
 omega

theorem RI_small {n P B:Int} (h:RI n P B) (hc:P+B≤3037000499):0≤(P+B)*(P+B)∧(P+B)*(P+B)≤9223372036854775807:=by
 obtain ⟨h1,h2,h3,h4,h5⟩:=RI_bounds h
 have a:=Int.mul_nonneg (a:=P+B) (b:=P+B) (by omega) (by omega)
 have b:=Int.mul_self_le_mul_self (a:=P+B) (b:=3037000499) (by omega) (by omega)
 omega

theorem mul_bd (a b m:Int) (hm:0≤m) (a1:-m≤a) (a2:a≤m) (b1:-m≤b) (b2:b≤m):-(m*m)≤a*b∧a*b≤m*m:=by
 have h:(a*b).natAbs≤m.natAbs*m.natAbs:=by
  rw [Int.natAbs_mul]
  exact Nat.mul_le_mul (by omega) (by omega)
 have e:((m.natAbs*m.natAbs:Nat):Int)=m*m:=by
  rw [Int.natCast_mul,Int.natAbs_of_nonneg hm]
 generalize m*m=M at *
 generalize a*b=p at *
 generalize m.natAbs*m.natAbs=q at *
 omega

def way (n:Int):Int × Int:=if n=1 then (0,-1) else if n=2 then (1,0) else if n=3 then (0,1) else if n=4 then (-1,0) else (0,0)

theorem way_none (n:Int) (h:n<1∨4<n):way n=(0,0):=by
 unfold way
 rw [if_neg (by omega),if_neg (by omega),if_neg (by omega),if_neg (by omega)]

theorem way_bd (n:Int):-1≤(way n).1∧(way n).1≤1∧-1≤(way n).2∧(way n).2≤1:=by
 unfold way
 split
 ·decide
 ·split
  ·decide
  ·split
   ·decide
   ·split <;> decide

end Go.Proofs.YtkcooekhigmioaaGreat.Fx
