import Derived.Test.YtldgbkjceildfaaGreatBy03
import Derived.Test.YtldgbkjceildfaaGreatBy04
import Derived.Deep.AppendLies
import Derived.Test.YtldgbkjceildfaaGreatBy05
namespace Go.Proofs.YtldgbkjceildfaaGreat
open Go.RowKit

theorem fieldHigh {op tg:Nat→Prop} {F:Nat→Int} (h:Gr.IsField op tg F):∀(n:Nat) i,i<384→F i=n→n≤400:=by
 intro n i hi hn;have key:∀m:Nat,m≤n→∃j,j<384∧F j=m:=by
  intro m hm;induction hnm:n - m generalizing m with
  | zero=>exact ⟨i,hi,by omega⟩
  | succ q ih =>
   obtain ⟨j,hj,he⟩:=ih (m+1) (by omega) (by omega);obtain ⟨_,j',_,hj',_,_,_,he'⟩:=h.back j hj (by omega);exact ⟨j',hj',by omega⟩
 by_cases hc:n≤400
 ·exact hc
 ·exfalso;have inj:∀m:Nat,m≤n+1→m≤(List.range 384).countP (fun i=>decide (0≤F i∧F i<m)):=by
   intro m;induction m with
   | zero=>intro _;exact Nat.zero_le _
   | succ m ih =>
    intro hm;have h1:=ih (by omega);obtain ⟨j,hj,he⟩:=key m (by omega);have h2:(List.range 384).countP (fun i=>decide (0≤F i∧F i<m))<(List.range 384).countP (fun i=>decide (0≤F i∧F i<((m+1:Nat):Int))):=by
     have hs:∀(l:List Nat),j∈l→l.countP (fun i=>decide (0≤F i∧F i<m))<l.countP (fun i=>decide (0≤F i∧F i<((m+1:Nat):Int))):=by
      intro l;induction l with
      | nil=>intro hm;cases hm
      | cons x l ih =>
       intro hm;have hle:l.countP (fun i=>decide (0≤F i∧F i<m))≤l.countP (fun i=>decide (0≤F i∧F i<((m+1:Nat):Int))) :=
        List.countP_mono_left fun y _ hy=>by simp only [decide_eq_true_eq] at *;omega
       rw [List.countP_cons,List.countP_cons];rcases List.mem_cons.1 hm with rfl|hm
       ·rw [if_neg (by simp;omega),if_pos (by simp;omega)];omega
       ·have:=ih hm;by_cases hx:0≤F x∧F x<m
        ·rw [if_pos (by simpa using hx),if_pos (by simp;omega)];omega
        ·rw [if_neg (by simpa using hx)];omega
     exact hs _ (List.mem_range.2 hj)
    omega
  have:=inj 401 (by omega);have hle:(List.range 384).countP (fun i=>decide (0≤F i∧F i<((401:Nat):Int)))≤(List.range 384).length:=List.countP_le_length;rw [List.length_range] at hle;omega

namespace Gn

structure Fld (c:Nat→Int) (up:Nat) (F:Nat→Int):Prop where
 is:Gr.IsField (fun i=>Gr.walkB (c i)=true) (fun i=>i=up) F
 out:∀i,384≤i→F i=0

theorem isField_congr {op op' tg tg':Nat→Prop} {F H:Nat→Int} (h:Gr.IsField op tg F) (ho:∀i,i<384→(op i↔op' i)) (ht:∀i,i<384→(tg i↔tg' i)) (hF:∀i,i<384→F i=H i):Gr.IsField op' tg' H:=by
 refine ⟨fun i hi=>?_,fun i hi=>?_,fun i hi hp=>?_,fun j hj h0 d hd hn hop=>?_⟩
 ·rw [←hF i hi];exact h.lo i hi
 ·rw [←hF i hi,h.zero i hi];exact ht i hi
 ·rw [←hF i hi] at hp;obtain ⟨o,j,d,hj,hd,hn,he,hv⟩:=h.back i hi hp;exact ⟨(ho i hi).1 o,j,d,hj,hd,hn,he,by rw [←hF i hi,←hF j hj];exact hv⟩
 ·rw [←hF j hj] at h0;have hb:=Gr.nb_lt hn;have:=h.fwd j hj h0 d hd hn ((ho _ hb).2 hop);rw [←hF j hj,←hF _ hb];exact this

theorem Fld.make {op tg:Nat→Prop} {c F:Nat→Int} {up:Nat} (h:Gr.IsField op tg F) (ho:∀i,i<384→(op i↔Gr.walkB (c i)=true)) (ht:∀i,i<384→(tg i↔i=up)):Fld c up (fun i=>if i<384 then F i else 0):=by
 refine ⟨isField_congr h ho ht fun i hi=>by rw [if_pos hi],fun i hi=>by rw [if_neg (by omega)]⟩

structure IsFar (F:Nat→Int) (far:Nat):Prop where
 lt:far<384
 top:∀i,i<384→F i≤F far
 fst:∀i,i<far→F i<F far

def shop (c F:Nat→Int) (v:Int):Option Nat:=(List.range 384).find? (fun i=>F i == v && c i == 1)

def shopped (c:Nat→Int):Option Nat→Nat→Int
 | none=>c
 | some k=>Gr.upd c k 5

def stocked (d:Dice) (c F:Nat→Int) (far:Nat):Nat→Int :=
 if d 6 0 2=0 then shopped (Gr.upd c far 4) (shop (Gr.upd c far 4) F (F far / 2)) else Gr.upd c far 4

theorem shop_some {c F:Nat→Int} {v:Int} {k:Nat} (hk:k<384) (hp:(F k == v && c k == 1)=true) (hn:∀i,i<k→(F i == v && c i == 1)=false):shop c F v=some k:=by
 unfold shop;rw [List.find?_range_eq_some];exact ⟨hp,List.mem_range.2 hk,fun j hj=>by rw [hn j hj];rfl⟩

theorem shop_none {c F:Nat→Int} {v:Int} (hn:∀i,i<384→(F i == v && c i == 1)=false):shop c F v=none:=by
 unfold shop;rw [List.find?_range_eq_none];exact fun j hj=>by rw [hn j hj];rfl

end Gn

theorem below_grown {w w':World} (h:Below w.heap.size w w'):w.grownBy w' none:=⟨h.os,h.tape,h.output,h.size,fun k hk _=>h.block k hk⟩

theorem Vec.none0 (B:Nat) (w:World) (a:Option Addr) (F:Nat→Value):Vec B w a 0 F:=⟨Nat.zero_le _,.inl rfl⟩

theorem Vec.one (w:World) (B:Nat) (hB:B=w.heap.size) (v:Value) (T:TypeId) (F:Nat→Value) (hv:F 0=v):Vec (w.alloc (.cells #[v] T)).heap.size (w.alloc (.cells #[v] T)) (some ⟨B,0,none⟩) 1 F:=by
 subst hB;refine ⟨by decide,.inr ⟨_,_,rfl,by simp,fun i hi=>?_⟩⟩;obtain rfl:i=0:=by omega
 simp [hv]


open Go.RowKit

namespace Gn

def kind (d:Dice) (f:Int) (k:Nat):Int:=2+d (16+(k:Int)) 1 (if 3<f+1 then 3 else f+1)

def mons (d:Dice) (f:Int):Nat→Nat→List Nat→List (Int × Nat)
 | 0,_,_=>[]
 | m+1,k,l=>if l.length=0 then [] else (kind d f k,l[(d (7+(k:Int)) 0 (l.length:Int)).toNat]?.getD 0) :: mons d f m (k+1) (l.eraseIdx (d (7+(k:Int)) 0 (l.length:Int)).toNat)

def entCells (p:Int × Nat):List Value:=(Gn.ent p.1 ((p.2:Int) % 24) ((p.2:Int) / 24)).toList

def flat (acc:List (Int × Nat)):List Value:=acc.flatMap entCells

theorem flat_more (acc:List (Int × Nat)) (p:Int × Nat):flat (acc ++ [p])=flat acc ++ entCells p:=by
 unfold flat;rw [List.flatMap_append];simp

end Gn

theorem info_ent:(Tryz.prog.info? 70).map (fun i=>(i.zero,i.size,i.bytes))=some (some (.agg #[.int .i64 0,.int .i64 0,.int .i64 0,.int .i64 0,.int .i64 0,.int .i64 0,.int .i64 0,.int .i64 0,.int .i64 0,.int .i64 0,.int .i64 0]),11,88):=by kernel_rfl

theorem Arr.lit {w:World} {g:Nat} {T:TypeId} {arr:Array Value} (h:w.heap[g]?=some (.cells arr T (0,0))):Arr w g T arr.size (fun j=>arr[j]?.getD undef) :=
 ⟨arr,h,rfl,fun i hi=>by
  show arr[i]?=some (arr[i]?.getD undef);rw [Array.getElem?_eq_getElem hi];rfl⟩

theorem ent_news (w:World) (B:Nat) (hB:B=w.heap.size) (a0 a1 a2 a3 a4 a5 a6 a7 a8 a9 a10:Value) (T:TypeId):∀j u,[a0,a1,a2,a3,a4,a5,a6,a7,a8,a9,a10][j]?=some u→(w.alloc (.cells #[a0,a1,a2,a3,a4,a5,a6,a7,a8,a9,a10] T)).cell? ((⟨B,0,none⟩:Addr).add j)=some u:=by
 subst hB;intro j u hj;have hlt:j<11:=by
  have:=(List.getElem?_eq_some_iff.1 hj).1;exact this
 rcases (show j=0∨j=1∨j=2∨j=3∨j=4∨j=5∨j=6∨j=7∨j=8∨j=9∨j=10 by omega) with rfl|rfl|rfl|rfl|rfl|rfl|rfl|rfl|rfl|rfl|rfl;all_goals
  simp at hj;subst hj;simp [Addr.add]

theorem owns_mono {w:World} {b b':Nat} {e:TypeId} {z n:Nat} {v:Value} {xs:List Value} (h:w.ownsRow b e z v n xs) (hb:b'≤b):w.ownsRow b' e z v n xs:=by
 refine ⟨h.1,?_⟩;rcases h.2 with h|⟨g,cap,cur,hv,hg,rest⟩
 ·exact .inl h
 ·exact .inr ⟨g,cap,cur,hv,by omega,rest⟩

theorem Gn.mons_len (d:Gn.Dice) (f:Int):∀(m k:Nat) (l:List Nat),(Gn.mons d f m k l).length≤m
 | 0,_,_=>Nat.le_refl _
 | m+1,k,l=>by
  unfold Gn.mons;split
  ·exact Nat.zero_le _
  ·have:=Gn.mons_len d f m (k+1) (l.eraseIdx (d (7+(k:Int)) 0 (l.length:Int)).toNat);simp only [List.length_cons];omega


open Go.RowKit

namespace Gn

abbrev Itm:=Int × Int × Int × Int

def lie (d:Dice):Nat→Nat→List Nat→List Itm
 | 0,_,_=>[]
 | m+1,k,l=>if l.length=0 then [] else (1+d (40+(k:Int)) 1 4,1,((l[(d (40+(k:Int)) 0 (l.length:Int)).toNat]?.getD 0:Nat):Int) % 24,((l[(d (40+(k:Int)) 0 (l.length:Int)).toNat]?.getD 0:Nat):Int) / 24) :: lie d m (k+1) (l.eraseIdx (d (40+(k:Int)) 0 (l.length:Int)).toNat)

def wares (d:Dice) (k:Nat):List Itm:=(List.range k).map fun (j:Nat)=>(1+d (50+(j:Int)) 1 3,4,(j:Int),0)

def items (d:Dice) (c:Nat→Int):List Itm:=lie d 4 0 (those (fun i=>c i == 1) 384) ++ if Gr.find 384 c 5<0 then [] else wares d 3

def itemCells (p:Itm):List Value:=[.int .i64 p.1,.int .i64 p.2.1,.int .i64 p.2.2.1,.int .i64 p.2.2.2]

def flatI (acc:List Itm):List Value:=acc.flatMap itemCells

theorem flatI_more (acc:List Itm) (p:Itm):flatI (acc ++ [p])=flatI acc ++ itemCells p:=by
 unfold flatI;rw [List.flatMap_append];simp

theorem wares_more (d:Dice) (k:Nat):wares d (k+1)=wares d k ++ [(1+d (50+(k:Int)) 1 3,4,(k:Int),0)]:=by
 unfold wares;rw [List.range_succ,List.map_append];rfl

theorem lie_len (d:Dice):∀(m k:Nat) (l:List Nat),(lie d m k l).length≤m
 | 0,_,_=>Nat.le_refl _
 | m+1,k,l=>by
  unfold lie;split
  ·exact Nat.zero_le _
  ·have:=lie_len d m (k+1) (l.eraseIdx (d (40+(k:Int)) 0 (l.length:Int)).toNat);simp only [List.length_cons];omega

end Gn

theorem info_item:(Tryz.prog.info? 72).map (fun i=>(i.zero,i.size,i.bytes))=some (some (.agg #[.int .i64 0,.int .i64 0,.int .i64 0,.int .i64 0]),4,32):=by kernel_rfl

theorem item_news (w:World) (B:Nat) (hB:B=w.heap.size) (a0 a1 a2 a3:Value) (T:TypeId):∀j u,[a0,a1,a2,a3][j]?=some u→(w.alloc (.cells #[a0,a1,a2,a3] T)).cell? ((⟨B,0,none⟩:Addr).add j)=some u:=by
 subst hB;intro j u hj;have hlt:j<4:=(List.getElem?_eq_some_iff.1 hj).1;rcases (show j=0∨j=1∨j=2∨j=3 by omega) with rfl|rfl|rfl|rfl;all_goals
  simp at hj;subst hj;simp [Addr.add]


open Go.RowKit

namespace Gn

def up (d:Dice):Nat:=(my d 0*24+mx d 0).toNat

def base (d:Dice):Nat→Int:=Gr.upd (dug d 5) (up d) 3

def IsLevel (d:Dice) (c F:Nat→Int):Prop:=∃far,Fld (base d) (up d) F∧IsFar F far∧c=stocked d (base d) F far

def ents (d:Dice) (f:Int) (c F:Nat→Int):List (Int × Nat):=mons d f (f+2).toNat 0 ((those (fun i=>c i == 1) 384).filter (afar F))

theorem up_eq {d:Dice} (hd:Fair d):my d 0*24+mx d 0=((up d:Nat):Int):=by
 have:=mid_bd hd 0;unfold up;omega

theorem base_5 (d:Dice) (i:Nat):0≤base d i∧base d i≤5:=upd_5 (dug_5 d 5) (by omega) i

theorem shopped_5 {c:Nat→Int} (h:∀i,0≤c i∧c i≤5) (o:Option Nat) (i:Nat):0≤shopped c o i∧shopped c o i≤5:=by
 cases o with
 | none=>exact h i
 | some k=>exact upd_5 h (by omega) i

theorem stocked_5 (d:Dice) {c:Nat→Int} (h:∀i,0≤c i∧c i≤5) (F:Nat→Int) (far i:Nat):0≤stocked d c F far i∧stocked d c F far i≤5:=by
 have h4:∀i,0≤Gr.upd c far 4 i∧Gr.upd c far 4 i≤5:=upd_5 h (by omega);unfold stocked;split
 ·exact shopped_5 h4 _ i
 ·exact h4 i

theorem IsLevel.five {d:Dice} {c F:Nat→Int} (h:IsLevel d c F) (i:Nat):0≤c i∧c i≤5:=by
 obtain ⟨far,_,_,rfl⟩:=h;exact stocked_5 d (base_5 d) F far i

end Gn

theorem owns_form {w:World} {b:Nat} {e:TypeId} {z n:Nat} {v:Value} {xs:List Value} (h:w.ownsRow b e z v n xs):∃a cap,v=.slice a n cap:=by
 rcases h.2 with ⟨rfl,rfl⟩|⟨g,cap,cur,rfl,_⟩
 ·exact ⟨_,_,rfl⟩
 ·exact ⟨_,_,rfl⟩

end Go.Proofs.YtldgbkjceildfaaGreat
