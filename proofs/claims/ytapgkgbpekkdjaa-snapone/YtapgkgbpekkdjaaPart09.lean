import Derived.Test.YtapgkgbpekkdjaaPart08
import Derived.Deep.LoopGhost
import Derived.Deep.RegionLaw
import Derived.Lib.SliceRun
namespace Go.Proofs.Ytapgkgbpekkdjaa
open Go.RowKit

def Gn.those (p:Nat→Bool) (n:Nat):List Nat:=(List.range n).filter p

theorem Gn.those_yes {p:Nat→Bool} {n:Nat} (h:p n=true):Gn.those p (n+1)=Gn.those p n ++ [n]:=by
 unfold Gn.those
 rw [List.range_succ,List.filter_append,List.filter_cons_of_pos h,List.filter_nil]

theorem Gn.those_no {p:Nat→Bool} {n:Nat} (h:p n=false):Gn.those p (n+1)=Gn.those p n:=by
 unfold Gn.those
 rw [List.range_succ,List.filter_append,List.filter_cons_of_neg (by simp [h]),List.filter_nil,List.append_nil]

theorem Gn.those_len (p:Nat→Bool) (n:Nat):(Gn.those p n).length≤n:=by
 have h:=List.length_filter_le p (List.range n)
 rw [List.length_range] at h
 exact h

def Lst (w:World) (base:Nat) (v:Value) (l:List Nat):Prop:=w.ownsRow base 3 1 v l.length ((natInts l).map (Value.int .i64))


open Go.RowKit

theorem Lst.form {w:World} {base:Nat} {v:Value} {l:List Nat} (h:Lst w base v l) :
  (v=.slice none 0 0∧l=[])∨∃g cap F,v=.slice (some ⟨g,0,none⟩) l.length cap∧base≤g∧Arr w g 3 cap F∧l.length≤cap∧cap≤maxLen∧∀i,i<l.length→F i=.int .i64 ((l[i]?.getD 0:Nat):Int):=by
 rcases h.2 with ⟨rfl,h0⟩ | ⟨g,cap,cur,rfl,hb,hg,hn,hm,hs,ht⟩
 ·exact .inl ⟨rfl,List.eq_nil_of_length_eq_zero h0⟩
 ·refine .inr ⟨g,cap,fun i=>cur[i]?.getD undef,rfl,hb,⟨cur,hg,by omega,fun i hi=>?_⟩,hn,hm,fun i hi=>?_⟩
  ·show cur[i]?=some (cur[i]?.getD undef)
   rw [Array.getElem?_eq_getElem (by omega)]
   rfl
  ·show cur[i]?.getD undef=_
   have e:(cur.toList.take (l.length*1))[i]?=((natInts l).map (Value.int .i64))[i]?:=by rw [ht]
   rw [List.getElem?_take,if_pos (by omega),Array.getElem?_toList,List.getElem?_map] at e
   rw [e,←natInts_at,List.getElem?_eq_getElem (by rw [natInts_len];exact hi)]
   rfl

theorem Arr.stores {g n:Nat} {T:TypeId}:∀(vs:List Value) (o:Nat) (w:World) (F:Nat→Value),Arr w g T n F→Arr (w.setCells g o vs) g T n (fun j=>if o≤j∧j<o+vs.length then vs[j - o]?.getD undef else F j)
  | [], o, w, F, h => h.congr fun j _ => by
      show F j=if o≤j∧j<o+0 then _ else F j
      rw [if_neg (by omega)]
  | v :: vs, o, w, F, h => by
      have h1:=Arr.stores vs (o+1) (w.setCell ⟨g,o,none⟩ v) _ (h.store o v)
      refine Arr.congr h1 fun j _=>?_
      show (if o+1≤j∧j<o+1+vs.length then vs[j - (o+1)]?.getD undef else if j=o then v else F j)=if o≤j∧j<o+(vs.length+1) then (v :: vs)[j - o]?.getD undef else F j
      by_cases e:j=o
      · rw [if_neg (by omega),if_pos e,if_pos (by omega),e,Nat.sub_self]
        rfl
      · by_cases e2:o+1≤j∧j<o+1+vs.length
        · rw [if_pos e2,if_pos (by omega),show j - o=(j - (o+1))+1 by omega]
          rfl
        · rw [if_neg e2,if_neg e,if_neg (by omega)]

theorem gss {a:World} {g:Nat}:∀(vs:List Value) (o:Nat) (b:World),a.grownBy b (some g)→a.grownBy (b.setCells g o vs) (some g)
 | [],_,_,h=>h
 | v :: vs,o,b,h=>gss vs (o+1) (b.setCell ⟨g,o,none⟩ v) (gst h o v)

def Gn.afar (F:Nat→Int) (c:Nat):Bool:=!(decide (F c<4))

end Go.Proofs.Ytapgkgbpekkdjaa
