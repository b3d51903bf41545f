import Derived.Test.YtapgkgbpekkdjaaPart12
import Derived.Deep.AppendLies
import Derived.Test.YtapgkgbpekkdjaaPart13
namespace Go.Proofs.Ytapgkgbpekkdjaa
open Go.RowKit

namespace Gn

abbrev Itm:=Int × Int × Int × Int

def lie (d:Dice):Nat→Nat→List Nat→List Itm
 | 0,_,_=>[]
 | m+1,k,l=>if l.length=0 then [] else (1+d (40+(k:Int)) 1 4,1,((l[(d (40+(k:Int)) 0 (l.length:Int)).toNat]?.getD 0:Nat):Int) % 24,((l[(d (40+(k:Int)) 0 (l.length:Int)).toNat]?.getD 0:Nat):Int) / 24) :: lie d m (k+1) (l.eraseIdx (d (40+(k:Int)) 0 (l.length:Int)).toNat)

def wares (d:Dice) (k:Nat):List Itm:=(List.range k).map fun (j:Nat)=>(1+d (50+(j:Int)) 1 3,4,(j:Int),0)

def items (d:Dice) (c:Nat→Int):List Itm:=lie d 4 0 (those (fun i=>c i == 1) 384) ++ if Gr.find 384 c 5<0 then [] else wares d 3

def itemCells (p:Itm):List Value:=[.int .i64 p.1,.int .i64 p.2.1,.int .i64 p.2.2.1,.int .i64 p.2.2.2]

def flatI (acc:List Itm):List Value:=acc.flatMap itemCells

theorem flatI_more (acc:List Itm) (p:Itm):flatI (acc ++ [p])=flatI acc ++ itemCells p:=by
 unfold flatI
 rw [List.flatMap_append]
 simp

theorem wares_more (d:Dice) (k:Nat):wares d (k+1)=wares d k ++ [(1+d (50+(k:Int)) 1 3,4,(k:Int),0)]:=by
 unfold wares
 rw [List.range_succ,List.map_append]
 rfl

theorem lie_len (d:Dice):∀(m k:Nat) (l:List Nat),(lie d m k l).length≤m
 | 0,_,_=>Nat.le_refl _
 | m+1,k,l=>by
  unfold lie
  split
  ·exact Nat.zero_le _
  ·have:=lie_len d m (k+1) (l.eraseIdx (d (40+(k:Int)) 0 (l.length:Int)).toNat)
   simp only [List.length_cons]
   omega

end Gn

theorem info_item:(Try.prog.info? 47).map (fun i=>(i.zero,i.size,i.bytes))=some (some (.agg #[.int .i64 0,.int .i64 0,.int .i64 0,.int .i64 0]),4,32):=by kernel_rfl

theorem item_news (w:World) (B:Nat) (hB:B=w.heap.size) (a0 a1 a2 a3:Value) (T:TypeId):∀j u,[a0,a1,a2,a3][j]?=some u→(w.alloc (.cells #[a0,a1,a2,a3] T)).cell? ((⟨B,0,none⟩:Addr).add j)=some u:=by
 subst hB
 intro j u hj
 have hlt:j<4:=(List.getElem?_eq_some_iff.1 hj).1
 rcases (show j=0∨j=1∨j=2∨j=3 by omega) with rfl | rfl | rfl | rfl
 all_goals
  simp at hj
  subst hj
  simp [Addr.add]


open Go.RowKit

namespace Gn

def up (d:Dice):Nat:=(my d 0*24+mx d 0).toNat

def base (d:Dice):Nat→Int:=Gr.upd (dug d 5) (up d) 3

def IsLevel (d:Dice) (c F:Nat→Int):Prop:=∃far,Fld (base d) (up d) F∧IsFar F far∧c=stocked d (base d) F far

def ents (d:Dice) (f:Int) (c F:Nat→Int):List (Int × Nat):=mons d f (f+2).toNat 0 ((those (fun i=>c i == 1) 384).filter (afar F))

theorem up_eq {d:Dice} (hd:Fair d):my d 0*24+mx d 0=((up d:Nat):Int):=by
 have:=mid_bd hd 0
 unfold up
 omega

theorem base_5 (d:Dice) (i:Nat):0≤base d i∧base d i≤5:=upd_5 (dug_5 d 5) (by omega) i

theorem shopped_5 {c:Nat→Int} (h:∀i,0≤c i∧c i≤5) (o:Option Nat) (i:Nat):0≤shopped c o i∧shopped c o i≤5:=by
 cases o with
 | none=>exact h i
 | some k=>exact upd_5 h (by omega) i

theorem stocked_5 (d:Dice) {c:Nat→Int} (h:∀i,0≤c i∧c i≤5) (F:Nat→Int) (far i:Nat):0≤stocked d c F far i∧stocked d c F far i≤5:=by
 have h4:∀i,0≤Gr.upd c far 4 i∧Gr.upd c far 4 i≤5:=upd_5 h (by omega)
 unfold stocked
 split
 ·exact shopped_5 h4 _ i
 ·exact h4 i

theorem IsLevel.five {d:Dice} {c F:Nat→Int} (h:IsLevel d c F) (i:Nat):0≤c i∧c i≤5:=by
 obtain ⟨far,_,_,rfl⟩:=h
 exact stocked_5 d (base_5 d) F far i

end Gn

theorem owns_form {w:World} {b:Nat} {e:TypeId} {z n:Nat} {v:Value} {xs:List Value} (h:w.ownsRow b e z v n xs):∃a cap,v=.slice a n cap:=by
 rcases h.2 with ⟨rfl,rfl⟩ | ⟨g,cap,cur,rfl,_⟩
 ·exact ⟨_,_,rfl⟩
 ·exact ⟨_,_,rfl⟩

end Go.Proofs.Ytapgkgbpekkdjaa
