import Derived.Test.YtldgbkjceildfaaGreatBy06
import Derived.Laws.CopyOwn
import Derived.Deep.Quiet
import Derived.Deep.QuietTactic
import Derived.Test.YtldgbkjceildfaaGreatProg
namespace Go.Proofs.YtldgbkjceildfaaGreat
open Go.RowKit

theorem own_sets {a:World} {g:Nat} (hg:a.heap.size≤g):∀(vs:List Value) (o:Nat) (b:World),a.grownBy b none→a.grownBy (b.setCells g o vs) none
 | [],_,_,h=>h
 | v :: vs,o,b,h=>own_sets hg vs (o+1) (b.setCell ⟨g,o,none⟩ v) (gsr h ⟨g,o,none⟩ hg v)

theorem none_below {a b:World} (h:a.grownBy b none):Below a.heap.size a b :=
 ⟨h.os,h.tape,h.output,h.size,fun i hi=>h.block i hi (fun e=>by cases e)⟩

theorem cell_boxed (w:World) (v:Value) (T:TypeId) (B:Nat) (hB:B=w.heap.size):(w.alloc (.cells #[v] T)).cell? ⟨B,0,none⟩=some v:=by
 subst hB;exact (Arr.lit (heap_alloc_new w (.cells #[v] T))).cell (i:=0) (by simp)

theorem cell_past {w:World} {B i:Nat} {v:Value} (o:Obj) (hB:B<w.heap.size) (h:w.cell? ⟨B,i,none⟩=some v):(w.alloc o).cell? ⟨B,i,none⟩=some v :=
 (gce (World.grownBy_alloc w o none) B i hB (by simp)).trans h

def En.cells (e:Nat→Int):Array Value:=#[.int .i64 (e 0),.int .i64 (e 1),.int .i64 (e 2),.int .i64 (e 3),.int .i64 (e 4),.int .i64 (e 5),.int .i64 (e 6),.int .i64 (e 7),.int .i64 (e 8),.int .i64 (e 9),.int .i64 (e 10)]

def En.flat (E:Nat→Nat→Int):Nat→Value:=fun c=>.int .i64 (E (c / 11) (c % 11))

theorem En.flat_at (E:Nat→Nat→Int) (i j:Nat) (hj:j<11):En.flat E (i*11+j)=.int .i64 (E i j):=by
 unfold En.flat;rw [show (i*11+j) / 11=i by omega,show (i*11+j) % 11=j by omega]

def Ents (w:World) (b n:Nat) (E:Nat→Nat→Int):Prop :=
 n≤32∧b<w.heap.size∧∀i j,i<n→j<11→w.cell? ⟨b,i*11+j,none⟩=some (.int .i64 (E i j))

theorem Ents.on {w w':World} {b n:Nat} {E:Nat→Nat→Int} (h:Ents w b n E) (hg:w.grownBy w' none):Ents w' b n E :=
 ⟨h.1,Nat.lt_of_lt_of_le h.2.1 hg.size,fun i j hi hj=>(gce hg b _ h.2.1 (by simp)).trans (h.2.2 i j hi hj)⟩

def Own (w:World) (g n:Nat) (E:Nat→Nat→Int):Prop :=
 n≤32∧∃m F,Arr w g 70 m F∧n*11≤m∧∀c,c<n*11→F c=En.flat E c

theorem Own.ents {w:World} {g n:Nat} {E:Nat→Nat→Int} (h:Own w g n E):Ents w g n E:=by
 obtain ⟨hn,m,F,hA,hm,hF⟩:=h;exact ⟨hn,hA.lt,fun i j hi hj=>by rw [hA.cell (i:=i*11+j) (by omega),hF _ (by omega),En.flat_at E i j hj]⟩

theorem Own.free {w:World} {g n:Nat} {E:Nat→Nat→Int} (h:Own w g n E) (i:Nat):w.frozen? ⟨g,i,none⟩=false:=by
 obtain ⟨hn,m,F,hA,hm,hF⟩:=h;exact hA.free i

def En.put (E:Nat→Nat→Int) (k:Nat) (e:Nat→Int):Nat→Nat→Int:=fun i=>if i=k then e else E i

theorem En.put_same (E:Nat→Nat→Int) (k:Nat) (e:Nat→Int):En.put E k e k=e:=if_pos rfl
theorem En.put_other {E:Nat→Nat→Int} {k i:Nat} {e:Nat→Int} (h:i≠k):En.put E k e i=E i:=if_neg h

theorem En.cells_at (e:Nat→Int) (j:Nat) (hj:j<11):(En.cells e).toList[j]?.getD undef=.int .i64 (e j):=by
 rcases (show j=0∨j=1∨j=2∨j=3∨j=4∨j=5∨j=6∨j=7∨j=8∨j=9∨j=10 by omega) with rfl|rfl|rfl|rfl|rfl|rfl|rfl|rfl|rfl|rfl|rfl <;> rfl

theorem Own.store {w:World} {g n:Nat} {E:Nat→Nat→Int} (h:Own w g n E) (k:Nat) (e:Nat→Int):Own (w.setCells g (k*11) (En.cells e).toList) g n (En.put E k e):=by
 obtain ⟨hn,m,F,hA,hm,hF⟩:=h;refine ⟨hn,m,_,hA.stores (En.cells e).toList (k*11),hm,fun c hc=>?_⟩;show (if k*11≤c∧c<k*11+11 then (En.cells e).toList[c - k*11]?.getD undef else F c)=En.flat (En.put E k e) c;unfold En.flat;by_cases hk:k*11≤c∧c<k*11+11
 ·rw [if_pos hk,En.cells_at e _ (by omega),show c / 11=k by omega,En.put_same,show c - k*11=c % 11 by omega]
 ·rw [if_neg hk,hF c hc,En.put_other (by omega)];rfl

theorem Own.of_owns {w:World} {base g n cap:Nat} {xs:List Value} {E:Nat→Nat→Int} (h:w.ownsRow base 70 11 (.slice (some ⟨g,0,none⟩) n cap) n xs) (hn:n≤32) (hx:∀c,c<n*11→xs[c]?=some (En.flat E c)):Own w g n E:=by
 rcases h.2 with ⟨h',_⟩|⟨g',cap',cur,h',_,hg,hnc,_,hcs,htake⟩
 ·simp at h'
 ·simp only [Value.slice.injEq,Option.some.injEq,Addr.mk.injEq,and_true,true_and] at h';obtain ⟨rfl,rfl⟩:=h';refine ⟨hn,cur.size,fun j=>cur[j]?.getD undef,Arr.lit hg,by rw [hcs];omega,fun c hc=>?_⟩;show cur[c]?.getD undef=_;have e:=hx c hc;rw [←htake,List.getElem?_take,if_pos hc,Array.getElem?_toList] at e;rw [e];rfl

def Lists (w:World) (n:Nat) (E:Nat→Nat→Int) (e:Ending) (w':World):Prop :=
 ∃g cap,e=.returned (.slice (some ⟨g,0,none⟩) n cap)∧w.heap.size≤g∧n≤cap∧cap≤maxLen∧Own w' g n E∧w.grownBy w' none

theorem run_copy_many {P:Program} (w:World) (dT sT ty elem:TypeId) (z g o dLen dCap:Nat) (a:Addr) (sLen sCap:Nat) (cur:Array Value) (t:TypeId) (cs:List Value)
  (hu:P.underlying dT=some (.slice elem)) (hs:(P.info? elem).map (·.size)=some z)
  (hg:w.heap[g]?=some (.cells cur t (0,0))) (hn:cs.length=Nat.min sLen dLen*z)
  (hsrc:∀j v,cs[j]?=some v→w.cell? (a.add j)=some v) (hfit:o+cs.length≤cur.size) (h1:∀v∈cs,v.oneCell'=true) :
  (Builtin.copy_ #[dT,sT] ty #[.slice (some ⟨g,o,none⟩) dLen dCap,.slice (some a) sLen sCap]).run P w =
   .ok (goInt (Nat.min sLen dLen)) (w.setRow g (cur.toList.take o ++ cs ++ cur.toList.drop (o+cs.length)).toArray):=by
 have hl:=run_loadCells_list (P:=P) w a cs hsrc;have hst:=run_storeCells_at P g o t cs 0 cur w hg (by simpa using hfit) h1;cases hq:P.info? elem with
 | none=>simp [hq] at hs
 | some i =>
  have hi:i.size=z:=by simpa [hq] using hs
  simp [Builtin.copy_,run_underlying hu,Builtin.lenOf,Builtin.firstCells,sizeOf,typeInfo,hq,hi,←hn,hl,hst]

theorem run_copy_whole {P:Program} {w:World} (dT sT ty elem:TypeId) (hu:P.underlying dT=some (.slice elem)) (z:Nat) (hsz:(P.info? elem).map (·.size)=some z)
  (g n dCap:Nat) (ad:Addr) (sCap:Nat) (cur:Array Value) (t:TypeId) (hg:w.heap[g]?=some (.cells cur t (0,0))) (cs:List Value) (hn:cs.length=n*z)
  (hsrc:∀j v,cs[j]?=some v→w.cell? (ad.add j)=some v) (hfit:cs.length=cur.size) (h1:∀v∈cs,v.oneCell'=true) :
  ∃w',(Builtin.copy_ #[dT,sT] ty #[.slice (some ⟨g,0,none⟩) n dCap,.slice (some ad) n sCap]).run P w=.ok (goInt n) w'∧w'.heap[g]?=some (.cells cs.toArray t (0,0))∧w.grownBy w' (some g):=by
 have hrun:=run_copy_many (P:=P) w dT sT ty elem z g 0 n dCap ad n sCap cur t cs hu hsz hg (by rw [hn];simp) hsrc (by omega) h1;have hmin:Nat.min n n=n:=by simp
 rw [hmin] at hrun;refine ⟨_,hrun,?_,⟨rfl,rfl,rfl,by simp [World.setRow],fun k _ hr=>setRow_other w g k _ (fun e=>hr (by rw [e]))⟩⟩;have e:cs ++ List.drop cs.length cur.toList=cs:=by
  rw [List.drop_eq_nil_of_le (by simp;omega),List.append_nil]
 have:=setRow_heap w g cur cs.toArray t _ hg;simpa [e] using this

theorem madeCells_ent (n c:Nat) (hc:c<n*11):(madeCells (Value.agg #[.int .i64 0,.int .i64 0,.int .i64 0,.int .i64 0,.int .i64 0,.int .i64 0,.int .i64 0,.int .i64 0,.int .i64 0,.int .i64 0,.int .i64 0]).cells (n*11))[c]?=some (.int .i64 0):=by
 have hm:c % 11<11:=by omega
 obtain ⟨m,hmm⟩:∃m,m=c % 11:=⟨_,rfl⟩;unfold madeCells;simp [hc,Value.cells];rw [←hmm] at hm ⊢;rcases (show m=0∨m=1∨m=2∨m=3∨m=4∨m=5∨m=6∨m=7∨m=8∨m=9∨m=10 by omega) with rfl|rfl|rfl|rfl|rfl|rfl|rfl|rfl|rfl|rfl|rfl <;> rfl

theorem make32:∃Z:Array Value,(∀w:World,(Instr.makeSlice 26 (.int .i64 32) (.int .i64 32)).run Tryz.prog w=.ok (.slice (some ⟨w.heap.size,0,none⟩) 32 32) (w.alloc (.cells Z 70))) ∧
  ∀w:World,Own (w.alloc (.cells Z 70)) w.heap.size 32 (fun _ _=>0):=by
 obtain ⟨i0,hi,hz0,hz1,hz2⟩:=info_parts info_ent;refine ⟨madeCells (Value.agg #[.int .i64 0,.int .i64 0,.int .i64 0,.int .i64 0,.int .i64 0,.int .i64 0,.int .i64 0,.int .i64 0,.int .i64 0,.int .i64 0,.int .i64 0]).cells (32*11),fun w=>?_,fun w=>?_⟩
 ·have hr:=run_make (P:=Tryz.prog) w 26 70 i0 _ Tryz.underlying26 hi hz0 .i64 .i64 (32:Nat) (32:Nat) (by omega) (by omega) (by rw [hz2];decide) (by decide);rw [hz1] at hr;exact hr
 ·refine ⟨by omega,_,_,Arr.lit (heap_alloc_new w _),by rw [size_madeCells];omega,fun c hc=>?_⟩;show (madeCells _ _)[c]?.getD undef=_;rw [madeCells_ent 32 c hc];rfl


open Go.RowKit

theorem isFree_any (e:Nat→Int) (w:World):Calls Tryz.prog 129 #[.agg (En.cells e)] w (Says w (.bool (decide (e 0=0)))):=by
 unfold En.cells;go_enter Tryz.func129,Tryz.ntmps129;go_wp2;go_ret;exact ⟨rfl,World.grownBy_alloc _ _ _⟩

theorem slice_ents (a:Option Addr) (len cap k:Nat) (w:World) (hk:k≤cap) :
  (Instr.slice 26 (.slice a len cap) none (some (.int .i64 (k:Int))) none).run Tryz.prog w=.ok (.slice a k cap) w:=by
 have hs:(sizeOf (Tryz.prog.elem 26)).run Tryz.prog w=.ok 11 w:=by kernel_rfl
 rw [run_slice_h w 26 a len cap (by kernel_rfl) .i64 (k:Int) (by omega) (by omega),hs];have e:a.map (fun x=>x.add (0*11))=a:=by
  cases a with
  | none=>rfl
  | some x=>simp [Addr.add]
 simp only [Result.andThen,sliced,e,Int.toNat_natCast,Nat.sub_zero,ite_self]

theorem rows_any (a:Option Addr) (n c:Nat) (w:World) (hn:n≤32) (hc:n≤c) :
  Calls Tryz.prog 128 #[.slice a n c] w fun e w'=>e=.returned (.slice a n c)∧w'=w:=by
 have hs:=fun wx=>slice_ents a n c n wx hc;have hm:min (n:Int) 32=(n:Int):=by omega
 go_enter Tryz.func128,Tryz.ntmps128;go_wp2;go_ret;exact ⟨rfl,rfl⟩

def En.Gens (n:Nat) (E:Nat→Nat→Int):Prop:=∀i,i<n→0≤E i 1∧E i 1≤255


open Go.RowKit

def En.firstFrom (q:Nat→Bool):Nat→Nat→Int
 | 0,_=>-1
 | m+1,k=>if q k=true then (k:Int) else En.firstFrom q m (k+1)

def En.first (q:Nat→Bool) (n:Nat):Int:=En.firstFrom q n 0

theorem En.from_hit {q:Nat→Bool}:∀(m k i:Nat),(∀j,i≤j→j<k→q j=false)→q k=true→i≤k→k<i+m→En.firstFrom q m i=(k:Int)
  | 0,k,i,_,_,h1,h2=>by omega
  | m + 1, k, i, hno, hk, h1, h2 => by
      unfold En.firstFrom
      by_cases e:i=k
      · rw [e,if_pos hk]
      · rw [if_neg (by rw [hno i (Nat.le_refl _) (by omega)];simp),En.from_hit m k (i+1) (fun j hj1 hj2=>hno j (by omega) hj2) hk (by omega) (by omega)]

theorem En.from_none {q:Nat→Bool}:∀(m i:Nat),(∀j,i≤j→j<i+m→q j=false)→En.firstFrom q m i=-1
  | 0,_,_=>rfl
  | m + 1, i, hno => by
      unfold En.firstFrom
      rw [if_neg (by rw [hno i (Nat.le_refl _) (by omega)];simp),En.from_none m (i+1) (fun j hj1 hj2=>hno j (by omega) (by omega))]

theorem En.first_hit {q:Nat→Bool} {n k:Nat} (hno:∀j,j<k→q j=false) (hk:q k=true) (hn:k<n):En.first q n=(k:Int) :=
 En.from_hit n k 0 (fun j _ h=>hno j h) hk (by omega) (by omega)

theorem En.first_none {q:Nat→Bool} {n:Nat} (hno:∀j,j<n→q j=false):En.first q n=-1 :=
 En.from_none n 0 (fun j _ h=>hno j (by omega))

theorem En.first_cases (q:Nat→Bool) (n:Nat):(En.first q n=-1∧∀j,j<n→q j=false)∨∃k,k<n∧En.first q n=(k:Int)∧q k=true∧∀j,j<k→q j=false:=by
 induction n with
 | zero=>exact .inl ⟨rfl,fun j h=>by omega⟩
 | succ n ih =>
  rcases ih with ⟨_,hno⟩|⟨k,hk,_,hq,hno⟩
  ·by_cases hq:q n=true
   ·exact .inr ⟨n,by omega,En.first_hit hno hq (by omega),hq,hno⟩
   ·have h:∀j,j<n+1→q j=false:=fun j hj=>by
     by_cases e:j=n
     ·rw [e];simpa using hq
     ·exact hno j (by omega)
    exact .inl ⟨En.first_none h,h⟩
  ·exact .inr ⟨k,by omega,En.first_hit hno hq (by omega),hq,hno⟩

def En.freeQ (E:Nat→Nat→Int):Nat→Bool:=fun i=>decide (E i 0=0)
def En.atQ (E:Nat→Nat→Int) (x y:Int):Nat→Bool:=fun i=>!(decide (E i 0=0)) && (decide (E i 3=x) && decide (E i 4=y))
def En.heroQ (E:Nat→Nat→Int) (s:Int):Nat→Bool:=fun i=>decide (E i 0=1) && decide (E i 2=s)
def En.ofQ (E:Nat→Nat→Int) (id:Int):Nat→Bool:=fun i=>!(decide (E i 0=0)) && decide ((i:Int)+32*E i 1=id)

theorem Ents.row {w:World} {b n:Nat} {E:Nat→Nat→Int} (h:Ents w b n E) {k:Nat} (hk:k<n) :
  w.cell? ⟨b,k*11,none⟩=some (.int .i64 (E k 0))∧w.cell? ⟨b,k*11+1,none⟩=some (.int .i64 (E k 1))∧w.cell? ⟨b,k*11+2,none⟩=some (.int .i64 (E k 2))∧w.cell? ⟨b,k*11+3,none⟩=some (.int .i64 (E k 3)) ∧
  w.cell? ⟨b,k*11+4,none⟩=some (.int .i64 (E k 4))∧w.cell? ⟨b,k*11+5,none⟩=some (.int .i64 (E k 5))∧w.cell? ⟨b,k*11+6,none⟩=some (.int .i64 (E k 6))∧w.cell? ⟨b,k*11+7,none⟩=some (.int .i64 (E k 7)) ∧
  w.cell? ⟨b,k*11+8,none⟩=some (.int .i64 (E k 8))∧w.cell? ⟨b,k*11+9,none⟩=some (.int .i64 (E k 9))∧w.cell? ⟨b,k*11+10,none⟩=some (.int .i64 (E k 10)) :=
 ⟨h.2.2 k 0 hk (by omega),h.2.2 k 1 hk (by omega),h.2.2 k 2 hk (by omega),h.2.2 k 3 hk (by omega),h.2.2 k 4 hk (by omega),h.2.2 k 5 hk (by omega),h.2.2 k 6 hk (by omega),h.2.2 k 7 hk (by omega),h.2.2 k 8 hk (by omega),h.2.2 k 9 hk (by omega),h.2.2 k 10 hk (by omega)⟩

theorem atC_any (b n c p0 p1 p2 k:Nat) (E:Nat→Nat→Int) (x y:Int) (w:World) (hE:Ents w b n E) (hk:k<n) (hp0:w.cell? ⟨p0,0,none⟩=some (.slice (some ⟨b,0,none⟩) n c)) (hp1:w.cell? ⟨p1,0,none⟩=some (.int .i64 x)) (hp2:w.cell? ⟨p2,0,none⟩=some (.int .i64 y)) :
  Calls Tryz.prog 126 #[.int .i64 (k:Int),.pointer (some ⟨p0,0,none⟩),.pointer (some ⟨p1,0,none⟩),.pointer (some ⟨p2,0,none⟩)] w (Says w (.bool (decide (E k 3=x) && decide (E k 4=y)))):=by
 obtain ⟨_,_,_,u3,u4,_⟩:=hE.row hk;have hk':(k:Int)<(n:Int):=by omega
 have hdr:Hid (∀m,w.grownBy (w.drewN m) none):=fun m=>gdw (World.grownBy.refl _ _) m;clear hE;by_cases h3:E k 3=x
 ·by_cases h4:E k 4=y
  ·have hd:=hide (show (decide (E k 3=x) && decide (E k 4=y))=true by simp [h3,h4]);rw [h3] at u3;rw [h4] at u4;clear h3 h4;go_enter Tryz.func126,Tryz.ntmps126;go_wp2_with fail;go_quiet (fail);go_wp2;go_ret;exact ⟨ret_bool (uh hd).symm,uh hdr _⟩
  ·have hd:=hide (show (decide (E k 3=x) && decide (E k 4=y))=false by simp [h4]);rw [h3] at u3;clear h3;go_enter Tryz.func126,Tryz.ntmps126;go_wp2_with fail;go_quiet (fail);go_wp2;go_ret;exact ⟨ret_bool (uh hd).symm,uh hdr _⟩
 ·have hd:=hide (show (decide (E k 3=x) && decide (E k 4=y))=false by simp [h3]);go_enter Tryz.func126,Tryz.ntmps126;go_wp2_with fail;go_quiet (fail);go_wp2;go_ret;exact ⟨ret_bool (uh hd).symm,uh hdr _⟩

theorem heroC_any (b n c p0 p1 k:Nat) (E:Nat→Nat→Int) (seat:Int) (w:World) (hE:Ents w b n E) (hk:k<n) (hp0:w.cell? ⟨p0,0,none⟩=some (.slice (some ⟨b,0,none⟩) n c)) (hp1:w.cell? ⟨p1,0,none⟩=some (.int .i64 seat)) :
  Calls Tryz.prog 127 #[.int .i64 (k:Int),.pointer (some ⟨p0,0,none⟩),.pointer (some ⟨p1,0,none⟩)] w (Says w (.bool (decide (E k 0=1) && decide (E k 2=seat)))):=by
 obtain ⟨u0,_,u2,_⟩:=hE.row hk;have hk':(k:Int)<(n:Int):=by omega
 have hdr:Hid (∀m,w.grownBy (w.drewN m) none):=fun m=>gdw (World.grownBy.refl _ _) m;clear hE;by_cases h1:E k 0=1
 ·have hd:=hide (decide_eq_true h1);have h1':(E k 0 == 1)=true:=by simp [h1]
  clear h1;go_enter Tryz.func127,Tryz.ntmps127;go_wp2_with fail;go_quiet (fail);go_wp2;go_ret;exact ⟨ret_bool (by rw [uh hd,Bool.true_and];rfl),uh hdr _⟩
 ·have hd:=hide (decide_eq_false h1);have h1':(E k 0 == 1)=false:=by simp [h1]
  clear h1;go_enter Tryz.func127,Tryz.ntmps127;go_wp2_with fail;go_quiet (fail);go_wp2;go_ret;exact ⟨ret_bool (by rw [uh hd];simp),uh hdr _⟩

end Go.Proofs.YtldgbkjceildfaaGreat

namespace Go.Proofs.YtldgbkjceildfaaGreat

def wpTill (P:Program) (md:Region.Mode) (ops:Array Oper) (Q:Exit→Act→World→Prop) (S:World→Prop) (h:Nat):Nat→Array Bool→Act→World→Prop
 | 0,up,a,w=>Region.ready md ops up=[]∧Q .normal a w
 | n+1,up,a,w=>(Region.ready md ops up=[]→Q .normal a w)∧∀i∈Region.ready md ops up,wpOp P ops Q i (fun b x=>((up.setIfInBounds i true).getD h true=false→S x)∧wpTill P md ops Q S h n (up.setIfInBounds i true) b x) a w

theorem wpAny_of_till {P:Program} {ops:Array Oper} {Q:Exit→Act→World→Prop} {md:Region.Mode} {S:World→Prop} {h:Nat}:∀(n:Nat) (up:Array Bool) (a:Act) (w:World),wpTill P md ops Q S h n up a w→wpAny P md ops Q n up a w
 | 0,_,_,_,g=>g
 | n+1,_,_,_,g=>⟨g.1,fun i hi=>wpOp_mono (fun b x k=>wpAny_of_till n _ b x k.2) (g.2 i hi)⟩

def Region.waits (md:Region.Mode) (ops:Array Oper) (up:Array Bool) (i h:Nat) (ch:List Nat):Bool :=
 ch.contains h && ch.all fun c=>!(up.getD c true) && match ops[c]? with
  | some o=>o.after.any fun e=>Region.binds md e && (e.on == i || ch.contains e.on)
  | none=>false

theorem Region.waits_spec {ops:Array Oper} {md:Region.Mode} {up:Array Bool} {i h:Nat} {ch:List Nat} (hw:Region.waits md ops up i h ch=true) :
  h∈ch∧(∀c∈ch,up.getD c true=false)∧∀c∈ch,∀o,ops[c]?=some o→∃e∈o.after,Region.binds md e=true∧(e.on=i∨e.on∈ch):=by
 unfold Region.waits at hw;simp only [Bool.and_eq_true,List.contains_iff_mem,List.all_eq_true,Bool.not_eq_true'] at hw;refine ⟨hw.1,fun c hc=>(hw.2 c hc).1,fun c hc o ho=>?_⟩;have h2:=(hw.2 c hc).2;rw [ho] at h2;obtain ⟨e,he,hb⟩:=Array.any_eq_true'.1 h2;simp only [Bool.and_eq_true,Bool.or_eq_true,beq_iff_eq,List.contains_iff_mem] at hb;exact ⟨e,he,hb.1,hb.2⟩

theorem wpTill_first {P:Program} {ops:Array Oper} {Q:Exit→Act→World→Prop} {md:Region.Mode} {S:World→Prop} {i h:Nat} {oi:Oper} {v:Value} {ch:List Nat} (hi:ops[i]?=some oi) (hsel:∀(j:Nat) (o:Oper) cs b,ops[j]?=some o→o.op≠.select cs b)
    (hQ:∀c a w,Q (.panic c) (a.put oi.dst v) w→Q (.panic c) a w) (hh:h∈ch)
    (hch:∀c∈ch,∀o,ops[c]?=some o→∃e∈o.after,Region.binds md e=true∧(e.on=i∨e.on∈ch)) :
    ∀(n:Nat) (up:Array Bool) (a:Act) (w:World),
      (∀j oj,ops[j]?=some oj→j≠i→up.getD j true=false→(∀e∈oj.after,Region.binds md e=true→e.on≠i)→oi.apart ops oj=true) →
      i∈Region.ready md ops up→(∀c∈ch,up.getD c true=false)→YieldsIf P ops S oi v a→S w →
      wpTill P md ops Q S h n (up.setIfInBounds i true) (a.put oi.dst v) w→wpTill P md ops Q S h (n+1) up a w:=by
  have key:∀(up:Array Bool) (j:Nat),i∈Region.ready md ops up→(∀c∈ch,up.getD c true=false)→j∈Region.ready md ops up→j ∉ ch:=by
    intro up j hr hc hj hm
    obtain ⟨_,oj,hoj,hall⟩:=mem_ready.1 hj
    obtain ⟨e,he,hb,hon⟩:=hch j hm oj hoj
    have h1:=hall e he hb
    have h0:up.getD e.on true=false:=by
      rcases hon with hon|hon
      · rw [hon];exact (mem_ready.1 hr).1
      · exact hc _ hon
    rcases Nat.lt_or_ge e.on up.size with h'|h'
    · simp [h'] at h0 h1;rw [h0] at h1;cases h1
    · simp [Array.getElem?_eq_none h'] at h1
  intro n
  induction n with
  | zero =>
    intro up a w _ hr hc hy hS H
    refine ⟨fun g=>(by rw [g] at hr;cases hr),fun j hj=>?_⟩
    by_cases hji:j=i
    · subst hji;exact hy.wpOp hi hS ⟨fun _=>hS,H⟩
    · have:=ready_mono hj hji
      rw [H.1] at this
      cases this
  | succ n ih =>
    intro up a w hfree hr hc hy hS H
    refine ⟨fun g=>(by rw [g] at hr;cases hr),fun j hj=>?_⟩
    by_cases hji:j=i
    · subst hji;exact hy.wpOp hi hS ⟨fun _=>hS,H⟩
    · have h1:=H.2 j (ready_mono hj hji)
      have hjc:=key up j hr hc hj
      have hic:=key up i hr hc hr
      obtain ⟨hjun,oj,hoj,hall⟩:=mem_ready.1 hj
      have hnot:∀e∈oj.after,Region.binds md e=true→e.on≠i:=fun e he hb heq=>by
        have h1:=hall e he hb
        have h0:=(mem_ready.1 hr).1
        rw [heq] at h1
        rcases Nat.lt_or_ge i up.size with h'|h'
        · simp [h'] at h0 h1;rw [h0] at h1;cases h1
        · simp [Array.getElem?_eq_none h'] at h1
      have h2:=wpOp_putIf hoj (hfree j oj hoj hji hjun hnot) (fun cs b=>hsel i oi cs b hi) (fun cs b=>hsel j oj cs b hoj) hQ hy h1
      have hc':∀c∈ch,(up.setIfInBounds j true).getD c true=false:=fun c hm=>by
        rw [getD_set_ne true (show j≠c from fun e=>hjc (e ▸ hm))]
        exact hc c hm
      have hfree' : ∀ k ok, ops[k]? = some ok → k ≠ i → (up.setIfInBounds j true).getD k true = false →
          (∀e∈ok.after,Region.binds md e=true→e.on≠i)→oi.apart ops ok=true:=fun k ok hk hki hun hno=>by
        refine hfree k ok hk hki ?_ hno
        by_cases hjk:j=k
        · subst hjk;exact hjun
        · rw [getD_set_ne true hjk] at hun;exact hun
      refine wpOp_mono (fun b x h3=>?_) h2
      have hS':S x:=h3.2.1 (by
        rw [getD_set_ne true (show j≠h from fun e=>hjc (e ▸ hh)),getD_set_ne true (show i≠h from fun e=>hic (e ▸ hh))]
        exact hc h hh)
      refine ⟨fun _=>hS',ih (up.setIfInBounds j true) b x hfree' (ready_mono hr (Ne.symm hji)) hc' h3.1 hS' ?_⟩
      rw [Array.setIfInBounds_comm _ _ hji]
      exact h3.2.2

theorem wtk {P:Program} {ops:Array Oper} {Q:Exit→Act→World→Prop} {md:Region.Mode} {S:World→Prop} {i h:Nat} {oi:Oper} {v:Value} {n:Nat} {up:Array Bool} {a:Act} {w:World} (ch:List Nat) (hi:ops[i]?=some oi)
  (hs:Region.noSelect ops=true) (hf:Region.free md ops up i=true) (hr:(Region.ready md ops up).contains i=true) (hw:Region.waits md ops up i h ch=true)
  (hQ:∀c a w,Q (.panic c) (a.put oi.dst v) w→Q (.panic c) a w) (hS:S w) (hy:YieldsIf P ops S oi v a)
  (H:wpTill P md ops Q S h n (up.setIfInBounds i true) (a.put oi.dst v) w):wpTill P md ops Q S h (n+1) up a w:=by
 obtain ⟨hh,hc,hch⟩:=Region.waits_spec hw;exact wpTill_first hi (Region.noSelect_spec hs) hQ hh hch n up a w (Region.free_spec hi hf) (by simpa using hr) hc hy hS H

theorem wtj {P:Program} {ops:Array Oper} {Q:Exit→Act→World→Prop} {md:Region.Mode} {S:World→Prop} {h:Nat} {oi:Oper} {v:Value} {n:Nat} {up:Array Bool} {a:Act} {w:World} (i:Nat) (ch:List Nat) (hi:ops[i]?=some oi)
  (hk:(Region.noSelect ops && (Region.free md ops up i && ((Region.ready md ops up).contains i && Region.waits md ops up i h ch)))=true)
  (hQ:∀c a w,Q (.panic c) (a.put oi.dst v) w→Q (.panic c) a w) (hS:S w) (hy:Region.wanted oi (yielded ops a.tmps)=true∧∀w,S w→(execOp a.eval oi).run P w=.ok (.value v) w)
  (H:wpTill P md ops Q S h n (up.setIfInBounds i true) (a.put oi.dst v) w):wpTill P md ops Q S h (n+1) up a w:=by
 simp only [Bool.and_eq_true] at hk;exact wtk ch hi hk.1 hk.2.1 hk.2.2.1 hk.2.2.2 hQ hS (Or.inl hy) H

theorem pa {α:Type} {l:List α} {i:Nat} (h:i<l.toArray.size):l.toArray[i]=l[i]'(by simpa using h):=List.getElem_toArray h

theorem pb {α:Type} {a:α} {l:List α} (h:0<(a :: l).length):(a :: l)[0]=a:=rfl

theorem pc {α:Type} {a:α} {l:List α} {i:Nat} (h:i+1<(a :: l).length):(a :: l)[i+1]=l[i]'(Nat.lt_of_succ_lt_succ h):=rfl

theorem pd {α:Type} {l:List α} {i:Nat} {v:α}:l.toArray.setIfInBounds i v=(l.set i v).toArray:=List.setIfInBounds_toArray l i v

theorem pe {α:Type} {a:α} {l:List α} {i:Nat} {v:α}:(a :: l).set (i+1) v=a :: l.set i v:=rfl

theorem pf {α:Type} {a:α} {l:List α} {v:α}:(a :: l).set 0 v=v :: l:=rfl

theorem wto {P:Program} {ops:Array Oper} {Q:Exit→Act→World→Prop} {md:Region.Mode} {S:World→Prop} {j h:Nat} {o:Oper} {n:Nat} {up:Array Bool} {a:Act} {w:World} (hr:Region.ready md ops up=[j]) (ho:ops[j]?=some o)
  (H:∀K:Act→World→Prop,Shut (∀b x,((up.setIfInBounds j true).getD h true=false→S x)→wpTill P md ops Q S h n (up.setIfInBounds j true) b x→K b x)→if Region.wanted o (yielded ops a.tmps)=true then Oper.wp P o a w K Q else K (a.put o.dst undef) w) :
  wpTill P md ops Q S h (n+1) up a w:=by
 refine ⟨fun g=>(by rw [hr] at g;cases g),fun i hi=>?_⟩;rw [hr] at hi;obtain rfl:i=j:=by simpa using hi
 exact wpOp_step ho (fun K hK=>H K (fun b x h1 h2=>hK b x ⟨h1,h2⟩))

theorem wpTill_done {P:Program} {ops:Array Oper} {Q:Exit→Act→World→Prop} {md:Region.Mode} {S:World→Prop} {h:Nat} {up:Array Bool} {a:Act} {w:World} (hr:Region.ready md ops up=[]) (H:Q .normal a w):∀n,wpTill P md ops Q S h n up a w
 | 0=>⟨hr,H⟩
 | _+1=>⟨fun _=>H,by rw [hr];simp⟩

theorem wp_region_till {P:Program} {ops:Array Oper} {Q:Exit→Act→World→Prop} {S:World→Prop} {h id:Nat} {a:Act} {w:World} (hm:P.follows .mixedOrders=true)
  (H:wpTill P .any ops Q S h ops.size (Array.replicate ops.size false) a w.drew):(Code.region id ops true).wp P Q a w :=
 wp_region_any hm (wpAny_of_till _ _ _ _ H)


open Go.RowKit

def Nv.num (x y:Int):Int:=if Gr.inB x y=true then y*24+x else -1

def Nv.besideFrom (dx dy:Int):Nat→Nat→Int
 | 0,_=>0
 | m+1,k=>if (Fx.way (k:Int)).1=dx∧(Fx.way (k:Int)).2=dy then (k:Int) else Nv.besideFrom dx dy m (k+1)

def Nv.beside (dx dy:Int):Int:=Nv.besideFrom dx dy 4 1

theorem wrap64_id (n:Int) (h:-9223372036854775808≤n∧n≤9223372036854775807):wrap64 n=n:=by unfold wrap64;omega

theorem Nv.from_hit {dx dy:Int}:∀(m k i:Nat),(∀j,i≤j→j<k→¬((Fx.way (j:Int)).1=dx∧(Fx.way (j:Int)).2=dy))→((Fx.way (k:Int)).1=dx∧(Fx.way (k:Int)).2=dy)→i≤k→k<i+m→Nv.besideFrom dx dy m i=(k:Int)
  | 0,k,i,_,_,h1,h2=>by omega
  | m + 1, k, i, hno, hk, h1, h2 => by
      unfold Nv.besideFrom
      by_cases e:i=k
      · rw [e,if_pos hk]
      · rw [if_neg (hno i (Nat.le_refl _) (by omega)),Nv.from_hit m k (i+1) (fun j hj1 hj2=>hno j (by omega) hj2) hk (by omega) (by omega)]

theorem Nv.from_none {dx dy:Int}:∀(m i:Nat),(∀j,i≤j→j<i+m→¬((Fx.way (j:Int)).1=dx∧(Fx.way (j:Int)).2=dy))→Nv.besideFrom dx dy m i=0
  | 0,_,_=>rfl
  | m + 1, i, hno => by
      unfold Nv.besideFrom
      rw [if_neg (hno i (Nat.le_refl _) (by omega)),Nv.from_none m (i+1) (fun j hj1 hj2=>hno j (by omega) (by omega))]

end Go.Proofs.YtldgbkjceildfaaGreat
