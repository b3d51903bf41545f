import Derived.Test.YtldgbkjceildfaaGreatBy28
import Derived.Deep.Grids
import Derived.SizedLaws
import Derived.Test.YtldgbkjceildfaaGreatBy23
namespace Go.Proofs.YtldgbkjceildfaaGreat
open Go.RowKit Go.Maps

theorem wpList_append_wide {w:World} {ops:Array Oper} {rest:List Oper} {o:Oper} {a:Act} {Q:Exit→Act→World→Prop} (hgd:o.guard=none) (s x:Operand) (ho:o.op=.call { callee:=.builtin .append,args:=#[s,x],argTypes:=#[24,24] })
  (base:Nat) (v:Value) (n:Nat) (xs:List Value) (hs:a.eval s=v) (hown:w.ownsRow base 5 1 v n xs) (u:Value) (l:List Int) (hx:a.eval x=u) (hsrc:Ck.Src w u l) (hn:n+l.length≤140737488355328) (hbase:base≤w.heap.size)
  (h:∀v' w',w'.ownsRow base 5 1 v' (n+l.length) (xs ++ Ck.bys l)→w.grownBy w' v.ownBlock→(v≠.slice none 0 0→v'≠.slice none 0 0)→wpList Tryz.prog ops Q rest (a.put o.dst v') w'):wpList Tryz.prog ops Q (o :: rest) a w:=by
 obtain ⟨i0,hi,hz0,hz1,hz2⟩:=info_parts info_by
 rcases hsrc with ⟨rfl,rfl⟩ | ⟨ad,c,rfl,h2⟩
 ·refine wpList_append_own_none hgd s x 24 ho base 5 i0 1 Tryz.underlying24 hi v n xs hs hown hx ?_
  exact h v w (by simpa [Ck.bys] using hown) (World.grownBy.refl _ _) (fun q=>q)
 ·refine wpList_append_own w hgd s x 24 ho base 5 i0 (.int .u8 0) 1 1 Tryz.underlying24 hi hz0 hz1 hz2 rfl (by decide) v n xs hs hown ad l.length c (Ck.bys l) hx (by unfold Ck.bys;simp) h2 (fun u hu=>?_) (by unfold maxLen;omega) (by omega) hbase ?_
  ·obtain ⟨q,-,rfl⟩:=List.mem_map.1 hu
   rfl
  ·intro v' w' h3 h4 h5
   exact h v' w' h3 h4 (fun q r=>q (h5.1 r).1)


open Go.RowKit

set_option maxRecDepth 8000 in
set_option maxHeartbeats 1600000 in
theorem refGet_any (G o cap k n:Nat) (F:Nat→Int) (w:World) (hS:Sn.Src w G o F) (h8:n≤8) (hn:k+n≤918) :
  Calls Tryz.prog 29 #[.slice (some ⟨G,o,none⟩) 918 cap,.int .i64 (k:Int),.int .i64 (n:Int)] w fun e w'=>e=.returned (.int .u64 (Sn.be (Sn.cut F k n)))∧w'=w:=by
 have hS':=hide hS
 have H8:=hide h8
 have HN:=hide hn
 clear hS h8 hn
 go_enter Tryz.func29,Tryz.ntmps29
 go_wp2_with fail
 go_loop [7,8] (fun v7 v8=>∃i:Nat,i≤n∧v7=.int .u64 (Sn.be (Sn.cut F k i))∧v8=.int .i64 (i:Int)) (fun _ v8=>20 - (intOf v8).toNat)
 case atStart=>exact ⟨0,by omega,rfl,rfl⟩
 case round =>
  obtain ⟨i,hi,rfl,rfl⟩:=hrel
  by_cases hlt:i<n
  ·have hlt':(i:Int)<(n:Int):=by omega
   have HL:=hide hlt
   have hi8:(i:Int)<8:=by have:=uh H8;omega
   have hk9:(k:Int)+(i:Int)<918:=by have:=uh HN;omega
   have hk0:¬(k:Int)+(i:Int)<0:=by omega
   have u0:w.cell? ⟨G,o+(k+i),none⟩=some (.int .u8 (F (k+i))):=(uh hS').cell (k+i) (by have:=uh HN;omega)
   obtain ⟨v0,v1⟩:=Sn.be_bound i F k (fun j _=>(uh hS').byte _)
   have v2:Sn.be (Sn.cut F k i)<72057594037927936:=by
    have h7:i≤7:=by have:=uh H8;omega
    have:(256:Int) ^ i≤256 ^ 7:=by
     rcases (show i=0∨i=1∨i=2∨i=3∨i=4∨i=5∨i=6∨i=7 by omega) with rfl | rfl | rfl | rfl | rfl | rfl | rfl | rfl <;> decide
    omega
   have hor:=Sn.or_byte (Sn.be (Sn.cut F k i)) (F (k+i)) v0 v2 ((uh hS').byte _).1 ((uh hS').byte _).2
   have hmo:=hide (Sn.be_more (Sn.cut F k i) (F (k+i)))
   rw [←Sn.cut_more] at hmo
   rw [←uh hmo] at hor
   have hw:IntKind.u64.wrap (F (k+i))=F (k+i):=by
    rw [Sn.wrap64]
    have:=(uh hS').byte (k+i)
    omega
   obtain ⟨X,hX⟩:∃X,Sn.be (Sn.cut F k i)=X:=⟨_,rfl⟩
   rw [hX] at hor ⊢
   clear hlt hi hX v0 v1 v2 hmo
   go_wp2
   go_round
   case rel=>exact ⟨i+1,by have:=uh HL;omega,rfl,by go_num⟩
   case measure=>simp [intOf];have:=uh HL;have:=uh H8;omega
  ·obtain rfl:i=n:=by omega
   have hge:¬(i:Int)<(i:Int):=by omega
   clear hlt hi
   go_wp2
   go_ret
   exact ⟨rfl,rfl⟩

end Go.Proofs.YtldgbkjceildfaaGreat
