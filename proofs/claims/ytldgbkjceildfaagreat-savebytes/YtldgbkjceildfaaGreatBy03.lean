import Derived.Test.YtldgbkjceildfaaGreatBy02
import Derived.Deep.LoopGhost
import Derived.Deep.RegionLaw
import Derived.Lib.SliceRun
import Derived.ScopeJumps
import Derived.WalkMore
namespace Go.Proofs.YtldgbkjceildfaaGreat
open Go.RowKit

def Gn.those (p:Nat→Bool) (n:Nat):List Nat:=(List.range n).filter p

theorem Gn.those_yes {p:Nat→Bool} {n:Nat} (h:p n=true):Gn.those p (n+1)=Gn.those p n ++ [n]:=by
 unfold Gn.those;rw [List.range_succ,List.filter_append,List.filter_cons_of_pos h,List.filter_nil]

theorem Gn.those_no {p:Nat→Bool} {n:Nat} (h:p n=false):Gn.those p (n+1)=Gn.those p n:=by
 unfold Gn.those;rw [List.range_succ,List.filter_append,List.filter_cons_of_neg (by simp [h]),List.filter_nil,List.append_nil]

theorem Gn.those_len (p:Nat→Bool) (n:Nat):(Gn.those p n).length≤n:=by
 have h:=List.length_filter_le p (List.range n);rw [List.length_range] at h;exact h

def Lst (w:World) (base:Nat) (v:Value) (l:List Nat):Prop:=w.ownsRow base 3 1 v l.length ((natInts l).map (Value.int .i64))


open Go.RowKit

theorem Lst.form {w:World} {base:Nat} {v:Value} {l:List Nat} (h:Lst w base v l) :
  (v=.slice none 0 0∧l=[])∨∃g cap F,v=.slice (some ⟨g,0,none⟩) l.length cap∧base≤g∧Arr w g 3 cap F∧l.length≤cap∧cap≤maxLen∧∀i,i<l.length→F i=.int .i64 ((l[i]?.getD 0:Nat):Int):=by
 rcases h.2 with ⟨rfl,h0⟩|⟨g,cap,cur,rfl,hb,hg,hn,hm,hs,ht⟩
 ·exact .inl ⟨rfl,List.eq_nil_of_length_eq_zero h0⟩
 ·refine .inr ⟨g,cap,fun i=>cur[i]?.getD undef,rfl,hb,⟨cur,hg,by omega,fun i hi=>?_⟩,hn,hm,fun i hi=>?_⟩
  ·show cur[i]?=some (cur[i]?.getD undef);rw [Array.getElem?_eq_getElem (by omega)];rfl
  ·show cur[i]?.getD undef=_;have e:(cur.toList.take (l.length*1))[i]?=((natInts l).map (Value.int .i64))[i]?:=by rw [ht]
   rw [List.getElem?_take,if_pos (by omega),Array.getElem?_toList,List.getElem?_map] at e;rw [e,←natInts_at,List.getElem?_eq_getElem (by rw [natInts_len];exact hi)];rfl

theorem Arr.stores {g n:Nat} {T:TypeId}:∀(vs:List Value) (o:Nat) (w:World) (F:Nat→Value),Arr w g T n F→Arr (w.setCells g o vs) g T n (fun j=>if o≤j∧j<o+vs.length then vs[j - o]?.getD undef else F j)
  | [], o, w, F, h => h.congr fun j _ => by
      show F j=if o≤j∧j<o+0 then _ else F j
      rw [if_neg (by omega)]
  | v :: vs, o, w, F, h => by
      have h1:=Arr.stores vs (o+1) (w.setCell ⟨g,o,none⟩ v) _ (h.store o v)
      refine Arr.congr h1 fun j _=>?_
      show (if o+1≤j∧j<o+1+vs.length then vs[j - (o+1)]?.getD undef else if j=o then v else F j)=if o≤j∧j<o+(vs.length+1) then (v :: vs)[j - o]?.getD undef else F j
      by_cases e:j=o
      · rw [if_neg (by omega),if_pos e,if_pos (by omega),e,Nat.sub_self]
        rfl
      · by_cases e2:o+1≤j∧j<o+1+vs.length
        · rw [if_pos e2,if_pos (by omega),show j - o=(j - (o+1))+1 by omega]
          rfl
        · rw [if_neg e2,if_neg e,if_neg (by omega)]

theorem gss {a:World} {g:Nat}:∀(vs:List Value) (o:Nat) (b:World),a.grownBy b (some g)→a.grownBy (b.setCells g o vs) (some g)
 | [],_,_,h=>h
 | v :: vs,o,b,h=>gss vs (o+1) (b.setCell ⟨g,o,none⟩ v) (gst h o v)

def Gn.afar (F:Nat→Int) (c:Nat):Bool:=!(decide (F c<4))


open Go.RowKit

theorem gpt (w:World) (g i:Nat) (u:Value):w.grownBy (w.setCell ⟨g,i,none⟩ u) (some g):=gst (World.grownBy.refl _ _) i u

theorem Gn.steps_0 {x y tx ty:Int} (hx:x=tx) (hy:y=ty):Gn.steps x y tx ty=0:=by
 unfold Gn.steps;omega

theorem Gn.run_on {tx ty x y:Int} {first:Bool} {st:(Nat→Int) × Bool} {c:Nat} (h:¬(x=tx∧y=ty)) (hc:y*24+x=(c:Int)) :
  Gn.digRun tx ty first (Gn.steps x y tx ty) st x y=Gn.digRun tx ty first (Gn.steps (Gn.stepX x y tx ty first) (Gn.stepY x y tx ty first) tx ty) (Gn.digAt st c) (Gn.stepX x y tx ty first) (Gn.stepY x y tx ty first):=by
 rw [←Gn.step_less x y tx ty first h,Gn.digRun,hc,Int.toNat_natCast]

theorem Gn.run_end {tx ty x y:Int} {first:Bool} {st:(Nat→Int) × Bool} {c:Nat} (hx:x=tx) (hy:y=ty) (hc:y*24+x=(c:Int)) :
  Gn.digRun tx ty first (Gn.steps x y tx ty) st x y=Gn.digAt st c:=by
 rw [Gn.steps_0 hx hy,Gn.digRun,hc,Int.toNat_natCast]

theorem Gn.at_wall {st:(Nat→Int) × Bool} {c:Nat} (h:st.1 c=0):Gn.digAt st c=(Gr.upd st.1 c (if st.2 then 1 else 2),true):=if_pos h

theorem Gn.at_free {st:(Nat→Int) × Bool} {c:Nat} (h:¬st.1 c=0):Gn.digAt st c=st:=if_neg h

theorem Arr.byte {w:World} {g n:Nat} {T:TypeId} {F:Nat→Int} (h:Arr w g T n (Byts F)) (i:Nat) (v:Int):Arr (w.setCell ⟨g,i,none⟩ (.int .u8 v)) g T n (Byts (Gr.upd F i v)):=by
 refine (h.store i _).congr fun j _=>?_;show (if j=i then Value.int .u8 v else .int .u8 (F j))=.int .u8 (if j=i then v else F j);split <;> rfl

end Go.Proofs.YtldgbkjceildfaaGreat
