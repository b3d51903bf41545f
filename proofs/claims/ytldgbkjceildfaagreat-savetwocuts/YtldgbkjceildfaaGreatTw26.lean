import Derived.Test.YtldgbkjceildfaaGreatTw25
import Derived.Deep.Grids
import Derived.SizedLaws
import Derived.Test.YtldgbkjceildfaaGreatTw23
namespace Go.Proofs.YtldgbkjceildfaaGreat
open Go.RowKit Go.Maps

theorem Dk.still {w x y:World} {p b:Nat} (h:Turn (fun _=>False) w x) (ht:Turn (fun k=>k=p∨k=b) x y) (hp:w.heap.size≤p) (hb:w.heap.size≤b):Turn (fun _=>False) w y :=
 h.trans ht (fun i hi e=>by rcases e with rfl | rfl <;> omega)

theorem Dk.mine_new (n:Nat) (w:World) (h1:1≤n) (h2:n≤1024) :
  Calls Tryz.prog 16 #[.int .i64 (n:Int)] w fun e w'=>∃p b,e=.returned (.tuple #[.pointer (some ⟨p,0,none⟩),.int .i64 0])∧Dk.Mine w' w.heap.size p b n Dk.fresh∧w.grownBy w' none:=by
 refine (dkNew_any n w h1 h2).mono ?_
 rintro e w' ⟨p,b,rfl,h3,h4⟩
 exact ⟨p,b,rfl,h3,h4⟩

end Go.Proofs.YtldgbkjceildfaaGreat

namespace Go.Proofs.YtldgbkjceildfaaGreat
open Go.RowKit Go.Maps

theorem wpList_append_wide {w:World} {ops:Array Oper} {rest:List Oper} {o:Oper} {a:Act} {Q:Exit→Act→World→Prop} (hgd:o.guard=none) (s x:Operand) (ho:o.op=.call { callee:=.builtin .append,args:=#[s,x],argTypes:=#[24,24] })
  (base:Nat) (v:Value) (n:Nat) (xs:List Value) (hs:a.eval s=v) (hown:w.ownsRow base 5 1 v n xs) (u:Value) (l:List Int) (hx:a.eval x=u) (hsrc:Ck.Src w u l) (hn:n+l.length≤140737488355328) (hbase:base≤w.heap.size)
  (h:∀v' w',w'.ownsRow base 5 1 v' (n+l.length) (xs ++ Ck.bys l)→w.grownBy w' v.ownBlock→(v≠.slice none 0 0→v'≠.slice none 0 0)→wpList Tryz.prog ops Q rest (a.put o.dst v') w'):wpList Tryz.prog ops Q (o :: rest) a w:=by
 obtain ⟨i0,hi,hz0,hz1,hz2⟩:=info_parts info_by
 rcases hsrc with ⟨rfl,rfl⟩ | ⟨ad,c,rfl,h2⟩
 ·refine wpList_append_own_none hgd s x 24 ho base 5 i0 1 Tryz.underlying24 hi v n xs hs hown hx ?_
  exact h v w (by simpa [Ck.bys] using hown) (World.grownBy.refl _ _) (fun q=>q)
 ·refine wpList_append_own w hgd s x 24 ho base 5 i0 (.int .u8 0) 1 1 Tryz.underlying24 hi hz0 hz1 hz2 rfl (by decide) v n xs hs hown ad l.length c (Ck.bys l) hx (by unfold Ck.bys;simp) h2 (fun u hu=>?_) (by unfold maxLen;omega) (by omega) hbase ?_
  ·obtain ⟨q,-,rfl⟩:=List.mem_map.1 hu
   rfl
  ·intro v' w' h3 h4 h5
   exact h v' w' h3 h4 (fun q r=>q (h5.1 r).1)


open Go.RowKit

def Sn.allB (q:Nat→Bool):Nat→Bool
 | 0=>true
 | n+1=>Sn.allB q n && q n

theorem Sn.allB_yes {q:Nat→Bool}:∀{n:Nat},(∀k,k<n→q k=true)→Sn.allB q n=true
 | 0,_=>rfl
 | n+1,h=>by
  show (Sn.allB q n && q n)=true
  rw [Sn.allB_yes (fun k hk=>h k (by omega)),h n (by omega)]
  rfl

theorem Sn.allB_no {q:Nat→Bool} {k:Nat} (hk:q k=false):∀{n:Nat},k<n→Sn.allB q n=false
 | 0,h=>absurd h (by omega)
 | n+1,h=>by
  show (Sn.allB q n && q n)=false
  by_cases e:k=n
  ·rw [←e,hk,Bool.and_false]
  ·rw [Sn.allB_no hk (by omega),Bool.false_and]


open Go.RowKit

def Sn.sameG (g h:Nat→Int):Bool:=decide (g 0=h 0) && (decide (g 1=h 1) && (decide (g 2=h 2) && decide (g 3=h 3)))
def Sn.sameH (s t g h:Nat→Int):Bool:=decide (s 0=t 0) && (decide (s 1=t 1) && (decide (s 2=t 2) && (decide (s 3=t 3) && Sn.sameG g h)))

theorem Sn.sameG_iff (g h:Nat→Int):Sn.sameG g h=true↔∀j,j<4→g j=h j:=by
 unfold Sn.sameG
 simp only [Bool.and_eq_true,decide_eq_true_eq]
 constructor
 ·rintro ⟨h0,h1,h2,h3⟩ j hj
  rcases (show j=0∨j=1∨j=2∨j=3 by omega) with rfl | rfl | rfl | rfl <;> assumption
 ·intro h
  exact ⟨h 0 (by omega),h 1 (by omega),h 2 (by omega),h 3 (by omega)⟩

theorem Sn.sameH_iff (s t g h:Nat→Int):Sn.sameH s t g h=true↔(∀j,j<4→s j=t j)∧∀j,j<4→g j=h j:=by
 unfold Sn.sameH
 simp only [Bool.and_eq_true,decide_eq_true_eq,Sn.sameG_iff]
 constructor
 ·rintro ⟨h0,h1,h2,h3,h4⟩
  refine ⟨fun j hj=>?_,h4⟩
  rcases (show j=0∨j=1∨j=2∨j=3 by omega) with rfl | rfl | rfl | rfl <;> assumption
 ·rintro ⟨h,k⟩
  exact ⟨h 0 (by omega),h 1 (by omega),h 2 (by omega),h 3 (by omega),k⟩

theorem run_equal_gold (d:Nat) (g h:Nat→Int) (w:World):(Op.equalIn (d+2) 28 (.agg #[.int .i64 (g 0),.int .i64 (g 1),.int .i64 (g 2),.int .i64 (g 3)]) (.agg #[.int .i64 (h 0),.int .i64 (h 1),.int .i64 (h 2),.int .i64 (h 3)])).run Tryz.prog w=.ok (Sn.sameG g h) w:=by
 obtain ⟨i0,hi,_,_,_⟩:=info_parts info_int
 have hc:Tryz.prog.cellsOf 3=1:=by kernel_rfl
 have hh:=run_equalIn_array (P:=Tryz.prog) (w:=w) (d+1) #[.int .i64 (g 0),.int .i64 (g 1),.int .i64 (g 2),.int .i64 (g 3)] #[.int .i64 (h 0),.int .i64 (h 1),.int .i64 (h 2),.int .i64 (h 3)] Tryz.underlying28 hi
 have hr:(Op.eqItems (d+1) 3 (Tryz.prog.cellsOf 3) #[Value.int .i64 (g 0),.int .i64 (g 1),.int .i64 (g 2),.int .i64 (g 3)] #[.int .i64 (h 0),.int .i64 (h 1),.int .i64 (h 2),.int .i64 (h 3)] (List.range 4)).run Tryz.prog w=.ok (Sn.sameG g h) w:=by
  rw [hc]
  unfold Sn.sameG
  by_cases h0:g 0=h 0
  ·by_cases h1:g 1=h 1
   ·by_cases h2:g 2=h 2
    ·by_cases h3:g 3=h 3 <;> simp [List.range,List.range.loop,Op.eqItems,go_sem,h0,h1,h2,h3]
    ·simp [List.range,List.range.loop,Op.eqItems,go_sem,h0,h1,h2]
   ·simp [List.range,List.range.loop,Op.eqItems,go_sem,h0,h1]
  ·simp [List.range,List.range.loop,Op.eqItems,go_sem,h0]
 rw [hr] at hh
 exact hh

end Go.Proofs.YtldgbkjceildfaaGreat
