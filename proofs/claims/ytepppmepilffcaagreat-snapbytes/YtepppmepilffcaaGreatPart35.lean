import Derived.Test.YtepppmepilffcaaGreatPart34
import Derived.Maps.OwnSet
import Derived.Maps.Views
import Derived.Deep.Grids
import Derived.SizedLaws
namespace Go.Proofs.YtepppmepilffcaaGreat
open Go.RowKit Go.Maps

theorem wpList_append_wide {w:World} {ops:Array Oper} {rest:List Oper} {o:Oper} {a:Act} {Q:Exit→Act→World→Prop} (hgd:o.guard=none) (s x:Operand) (ho:o.op=.call { callee:=.builtin .append,args:=#[s,x],argTypes:=#[26,26] })
  (base:Nat) (v:Value) (n:Nat) (xs:List Value) (hs:a.eval s=v) (hown:w.ownsRow base 5 1 v n xs) (u:Value) (l:List Int) (hx:a.eval x=u) (hsrc:Ck.Src w u l) (hn:n+l.length≤140737488355328) (hbase:base≤w.heap.size)
  (h:∀v' w',w'.ownsRow base 5 1 v' (n+l.length) (xs ++ Ck.bys l)→w.grownBy w' v.ownBlock→(v≠.slice none 0 0→v'≠.slice none 0 0)→wpList Tryz.prog ops Q rest (a.put o.dst v') w'):wpList Tryz.prog ops Q (o :: rest) a w:=by
 obtain ⟨i0,hi,hz0,hz1,hz2⟩:=info_parts info_by
 rcases hsrc with ⟨rfl,rfl⟩ | ⟨ad,c,rfl,h2⟩
 ·refine wpList_append_own_none hgd s x 26 ho base 5 i0 1 Tryz.underlying26 hi v n xs hs hown hx ?_
  exact h v w (by simpa [Ck.bys] using hown) (World.grownBy.refl _ _) (fun q=>q)
 ·refine wpList_append_own w hgd s x 26 ho base 5 i0 (.int .u8 0) 1 1 Tryz.underlying26 hi hz0 hz1 hz2 rfl (by decide) v n xs hs hown ad l.length c (Ck.bys l) hx (by unfold Ck.bys;simp) h2 (fun u hu=>?_) (by unfold maxLen;omega) (by omega) hbase ?_
  ·obtain ⟨q,-,rfl⟩:=List.mem_map.1 hu
   rfl
  ·intro v' w' h3 h4 h5
   exact h v' w' h3 h4 (fun q r=>q (h5.1 r).1)


open Go.RowKit

structure Sn.Buf (w x:World) (G n cap:Nat) (l:List Int):Prop where
 own:x.ownsRow w.heap.size 5 1 (.slice (some ⟨G,0,none⟩) n cap) n (Ck.bys l)
 byte:∀b∈l,0≤b∧b≤255
 grown:w.grownBy x none

section
variable {w x y z:World} {G n cap m:Nat} {l:List Int}

theorem Sn.Buf.on (h:Sn.Buf w x G n cap l) (hg:x.grownBy y none):Sn.Buf w y G n cap l:=⟨h.own.kept hg (.inr (by simp [Value.ownBlock])),h.byte,gtr h.grown hg⟩

theorem Sn.Buf.len (h:Sn.Buf w x G n cap l):l.length=n:=by
 have q:=h.own.1
 unfold Ck.bys at q
 rw [List.length_map,Nat.mul_one] at q
 exact q

theorem Sn.Buf.low (h:Sn.Buf w x G n cap l):w.heap.size≤G:=(h.own.lt G rfl).1

theorem Sn.Buf.caps (h:Sn.Buf w x G n cap l):n≤cap∧cap≤maxLen:=by
 rcases h.own.2 with ⟨e,_⟩ | ⟨g,c,cur,e,_,_,h1,h2,_⟩
 ·cases e
 ·simp only [Value.slice.injEq] at e
  rw [e.2.2]
  exact ⟨h1,h2⟩

theorem Sn.Buf.cell (h:Sn.Buf w x G n cap l) {k:Nat} (hk:k<n):x.cell? ⟨G,k,none⟩=some (.int .u8 (Sn.fn l k)):=by
 have hl:=h.len
 rw [h.own.cellAt k (by omega)]
 unfold Ck.bys
 rw [List.getElem?_map,Sn.fn_at (by omega)]
 rfl

theorem Sn.Buf.free (h:Sn.Buf w x G n cap l) (k:Nat):x.frozen? ⟨G,k,none⟩=false:=h.own.frozenAt k

theorem Sn.Buf.turn (h:Sn.Buf w x G n cap l) (k:Nat) (u:Int) (h0:0≤u) (h1:u≤255):Sn.Buf w (x.setCell ⟨G,k,none⟩ (.int .u8 u)) G n cap (l.set k u):=by
 refine ⟨?_,fun b hb=>?_,gsr h.grown ⟨G,k,none⟩ h.low _⟩
 ·have q:=(h.own.stored k (.int .u8 u)).1
  unfold Ck.bys at q ⊢
  rw [List.map_set]
  exact q
 ·rcases List.mem_or_eq_of_mem_set hb with q | rfl
  ·exact h.byte b q
  ·exact ⟨h0,h1⟩

theorem Sn.Buf.cut (h:Sn.Buf w x G n cap l) (hm:m≤n):Sn.Buf w x G m cap (l.take m):=by
 have hl:=h.len
 refine ⟨⟨by unfold Ck.bys;rw [List.length_map,List.length_take];omega,?_⟩,fun b hb=>h.byte b (List.mem_of_mem_take hb),h.grown⟩
 rcases h.own.2 with ⟨e,_⟩ | ⟨g,c,cur,e,h1,h2,h3,h4,h5,h6⟩
 ·cases e
 ·simp only [Value.slice.injEq] at e
  refine .inr ⟨g,c,cur,by rw [e.1,e.2.2],h1,h2,Nat.le_trans hm h3,h4,h5,?_⟩
  rw [Nat.mul_one] at h6 ⊢
  unfold Ck.bys at h6 ⊢
  rw [List.map_take,←h6,List.take_take,Nat.min_eq_left hm]

theorem Sn.Buf.src (h:Sn.Buf w x G n cap l):Ck.Src x (.slice (some ⟨G,0,none⟩) n cap) l :=
 .inr ⟨⟨G,0,none⟩,cap,by rw [h.len],fun j u hj=>h.own.cells (g:=G) rfl j u hj⟩

theorem Sn.Buf.more {v':Value} {lm:List Int} (h:Sn.Buf w x G n cap l) (hown:z.ownsRow w.heap.size 5 1 v' (n+lm.length) (Ck.bys l ++ Ck.bys lm)) (hg:x.grownBy z (some G)) (hb:∀b∈lm,0≤b∧b≤255) (hn:0<n):∃g c,v'=.slice (some ⟨g,0,none⟩) (n+lm.length) c∧Sn.Buf w z g (n+lm.length) c (l ++ lm):=by
 rcases hown.2 with ⟨_,e⟩ | ⟨g,c,cur,e,_⟩
 ·omega
 ·refine ⟨g,c,e,?_,fun b q=>?_,gow h.grown hg (fun k e=>by cases e;exact h.low)⟩
  ·unfold Ck.bys at hown ⊢
   rw [List.map_append,←e]
   exact hown
  ·rcases List.mem_append.1 q with q | q
   ·exact h.byte b q
   ·exact hb b q

theorem Sn.Buf.world (h:Sn.Buf w x G 918 cap l):Sn.Src x G (Sn.fn l):=by
 obtain ⟨G',cap',e,h1,h2,h3⟩:=Sn.Bytes.src (w:=x) (base:=w.heap.size) (v:=.slice (some ⟨G,0,none⟩) 918 cap) (l:=l) (by
  unfold Sn.Bytes
  rw [h.len]
  exact h.own) h.len h.byte
 simp only [Value.slice.injEq,Option.some.injEq,Addr.mk.injEq] at e
 obtain ⟨⟨rfl,_⟩,_⟩:=e
 exact h3

theorem Sn.Bytes.buf {base:Nat} {v:Value} (h:Sn.Bytes x base v l) (hb:∀b∈l,0≤b∧b≤255) (h0:0<l.length) (hbase:w.heap.size≤base) (hg:w.grownBy x none):∃g c,v=.slice (some ⟨g,0,none⟩) l.length c∧Sn.Buf w x g l.length c l:=by
 rcases h.2 with ⟨_,e⟩ | ⟨g,c,cur,e,k1,k2,k3,k4,k5,k6⟩
 ·omega
 ·refine ⟨g,c,e,⟨⟨by unfold Ck.bys;rw [List.length_map,Nat.mul_one],.inr ⟨g,c,cur,rfl,Nat.le_trans hbase k1,k2,k3,k4,k5,k6⟩⟩,hb,hg⟩⟩

end

end Go.Proofs.YtepppmepilffcaaGreat
