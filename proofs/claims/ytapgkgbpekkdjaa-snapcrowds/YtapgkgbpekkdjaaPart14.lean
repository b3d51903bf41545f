import Derived.Test.YtapgkgbpekkdjaaPart13
import Derived.Laws.CopyOwn
import Derived.Deep.Quiet
import Derived.Deep.QuietTactic
import Derived.Test.YtapgkgbpekkdjaaProg
namespace Go.Proofs.Ytapgkgbpekkdjaa
open Go.RowKit

theorem own_sets {a:World} {g:Nat} (hg:a.heap.size≤g):∀(vs:List Value) (o:Nat) (b:World),a.grownBy b none→a.grownBy (b.setCells g o vs) none
 | [],_,_,h=>h
 | v :: vs,o,b,h=>own_sets hg vs (o+1) (b.setCell ⟨g,o,none⟩ v) (gsr h ⟨g,o,none⟩ hg v)

theorem none_below {a b:World} (h:a.grownBy b none):Below a.heap.size a b :=
 ⟨h.os,h.tape,h.output,h.size,fun i hi=>h.block i hi (fun e=>by cases e)⟩

theorem cell_boxed (w:World) (v:Value) (T:TypeId) (B:Nat) (hB:B=w.heap.size):(w.alloc (.cells #[v] T)).cell? ⟨B,0,none⟩=some v:=by
 subst hB
 exact (Arr.lit (heap_alloc_new w (.cells #[v] T))).cell (i:=0) (by simp)

theorem cell_past {w:World} {B i:Nat} {v:Value} (o:Obj) (hB:B<w.heap.size) (h:w.cell? ⟨B,i,none⟩=some v):(w.alloc o).cell? ⟨B,i,none⟩=some v :=
 (gce (World.grownBy_alloc w o none) B i hB (by simp)).trans h

def En.cells (e:Nat→Int):Array Value:=#[.int .i64 (e 0),.int .i64 (e 1),.int .i64 (e 2),.int .i64 (e 3),.int .i64 (e 4),.int .i64 (e 5),.int .i64 (e 6),.int .i64 (e 7),.int .i64 (e 8),.int .i64 (e 9),.int .i64 (e 10)]

def En.flat (E:Nat→Nat→Int):Nat→Value:=fun c=>.int .i64 (E (c / 11) (c % 11))

theorem En.flat_at (E:Nat→Nat→Int) (i j:Nat) (hj:j<11):En.flat E (i*11+j)=.int .i64 (E i j):=by
 unfold En.flat
 rw [show (i*11+j) / 11=i by omega,show (i*11+j) % 11=j by omega]

def Ents (w:World) (b n:Nat) (E:Nat→Nat→Int):Prop :=
 n≤32∧b<w.heap.size∧∀i j,i<n→j<11→w.cell? ⟨b,i*11+j,none⟩=some (.int .i64 (E i j))

theorem Ents.on {w w':World} {b n:Nat} {E:Nat→Nat→Int} (h:Ents w b n E) (hg:w.grownBy w' none):Ents w' b n E :=
 ⟨h.1,Nat.lt_of_lt_of_le h.2.1 hg.size,fun i j hi hj=>(gce hg b _ h.2.1 (by simp)).trans (h.2.2 i j hi hj)⟩

def Own (w:World) (g n:Nat) (E:Nat→Nat→Int):Prop :=
 n≤32∧∃m F,Arr w g 45 m F∧n*11≤m∧∀c,c<n*11→F c=En.flat E c

theorem Own.ents {w:World} {g n:Nat} {E:Nat→Nat→Int} (h:Own w g n E):Ents w g n E:=by
 obtain ⟨hn,m,F,hA,hm,hF⟩:=h
 exact ⟨hn,hA.lt,fun i j hi hj=>by rw [hA.cell (i:=i*11+j) (by omega),hF _ (by omega),En.flat_at E i j hj]⟩

theorem Own.free {w:World} {g n:Nat} {E:Nat→Nat→Int} (h:Own w g n E) (i:Nat):w.frozen? ⟨g,i,none⟩=false:=by
 obtain ⟨hn,m,F,hA,hm,hF⟩:=h
 exact hA.free i

def En.put (E:Nat→Nat→Int) (k:Nat) (e:Nat→Int):Nat→Nat→Int:=fun i=>if i=k then e else E i

theorem En.put_same (E:Nat→Nat→Int) (k:Nat) (e:Nat→Int):En.put E k e k=e:=if_pos rfl
theorem En.put_other {E:Nat→Nat→Int} {k i:Nat} {e:Nat→Int} (h:i≠k):En.put E k e i=E i:=if_neg h

theorem En.cells_at (e:Nat→Int) (j:Nat) (hj:j<11):(En.cells e).toList[j]?.getD undef=.int .i64 (e j):=by
 rcases (show j=0∨j=1∨j=2∨j=3∨j=4∨j=5∨j=6∨j=7∨j=8∨j=9∨j=10 by omega) with rfl | rfl | rfl | rfl | rfl | rfl | rfl | rfl | rfl | rfl | rfl <;> rfl

theorem Own.store {w:World} {g n:Nat} {E:Nat→Nat→Int} (h:Own w g n E) (k:Nat) (e:Nat→Int):Own (w.setCells g (k*11) (En.cells e).toList) g n (En.put E k e):=by
 obtain ⟨hn,m,F,hA,hm,hF⟩:=h
 refine ⟨hn,m,_,hA.stores (En.cells e).toList (k*11),hm,fun c hc=>?_⟩
 show (if k*11≤c∧c<k*11+11 then (En.cells e).toList[c - k*11]?.getD undef else F c)=En.flat (En.put E k e) c
 unfold En.flat
 by_cases hk:k*11≤c∧c<k*11+11
 ·rw [if_pos hk,En.cells_at e _ (by omega),show c / 11=k by omega,En.put_same,show c - k*11=c % 11 by omega]
 ·rw [if_neg hk,hF c hc,En.put_other (by omega)]
  rfl

theorem Own.of_owns {w:World} {base g n cap:Nat} {xs:List Value} {E:Nat→Nat→Int} (h:w.ownsRow base 45 11 (.slice (some ⟨g,0,none⟩) n cap) n xs) (hn:n≤32) (hx:∀c,c<n*11→xs[c]?=some (En.flat E c)):Own w g n E:=by
 rcases h.2 with ⟨h',_⟩ | ⟨g',cap',cur,h',_,hg,hnc,_,hcs,htake⟩
 ·simp at h'
 ·simp only [Value.slice.injEq,Option.some.injEq,Addr.mk.injEq,and_true,true_and] at h'
  obtain ⟨rfl,rfl⟩:=h'
  refine ⟨hn,cur.size,fun j=>cur[j]?.getD undef,Arr.lit hg,by rw [hcs];omega,fun c hc=>?_⟩
  show cur[c]?.getD undef=_
  have e:=hx c hc
  rw [←htake,List.getElem?_take,if_pos hc,Array.getElem?_toList] at e
  rw [e]
  rfl

theorem run_copy_many {P:Program} (w:World) (dT sT ty elem:TypeId) (z g o dLen dCap:Nat) (a:Addr) (sLen sCap:Nat) (cur:Array Value) (t:TypeId) (cs:List Value)
  (hu:P.underlying dT=some (.slice elem)) (hs:(P.info? elem).map (·.size)=some z)
  (hg:w.heap[g]?=some (.cells cur t (0,0))) (hn:cs.length=Nat.min sLen dLen*z)
  (hsrc:∀j v,cs[j]?=some v→w.cell? (a.add j)=some v) (hfit:o+cs.length≤cur.size) (h1:∀v∈cs,v.oneCell'=true) :
  (Builtin.copy_ #[dT,sT] ty #[.slice (some ⟨g,o,none⟩) dLen dCap,.slice (some a) sLen sCap]).run P w =
   .ok (goInt (Nat.min sLen dLen)) (w.setRow g (cur.toList.take o ++ cs ++ cur.toList.drop (o+cs.length)).toArray):=by
 have hl:=run_loadCells_list (P:=P) w a cs hsrc
 have hst:=run_storeCells_at P g o t cs 0 cur w hg (by simpa using hfit) h1
 cases hq:P.info? elem with
 | none=>simp [hq] at hs
 | some i =>
  have hi:i.size=z:=by simpa [hq] using hs
  simp [Builtin.copy_,run_underlying hu,Builtin.lenOf,Builtin.firstCells,sizeOf,typeInfo,hq,hi,←hn,hl,hst]

theorem run_copy_whole {P:Program} {w:World} (dT sT ty elem:TypeId) (hu:P.underlying dT=some (.slice elem)) (z:Nat) (hsz:(P.info? elem).map (·.size)=some z)
  (g n dCap:Nat) (ad:Addr) (sCap:Nat) (cur:Array Value) (t:TypeId) (hg:w.heap[g]?=some (.cells cur t (0,0))) (cs:List Value) (hn:cs.length=n*z)
  (hsrc:∀j v,cs[j]?=some v→w.cell? (ad.add j)=some v) (hfit:cs.length=cur.size) (h1:∀v∈cs,v.oneCell'=true) :
  ∃w',(Builtin.copy_ #[dT,sT] ty #[.slice (some ⟨g,0,none⟩) n dCap,.slice (some ad) n sCap]).run P w=.ok (goInt n) w'∧w'.heap[g]?=some (.cells cs.toArray t (0,0))∧w.grownBy w' (some g):=by
 have hrun:=run_copy_many (P:=P) w dT sT ty elem z g 0 n dCap ad n sCap cur t cs hu hsz hg (by rw [hn];simp) hsrc (by omega) h1
 have hmin:Nat.min n n=n:=by simp
 rw [hmin] at hrun
 refine ⟨_,hrun,?_,⟨rfl,rfl,rfl,by simp [World.setRow],fun k _ hr=>setRow_other w g k _ (fun e=>hr (by rw [e]))⟩⟩
 have e:cs ++ List.drop cs.length cur.toList=cs:=by
  rw [List.drop_eq_nil_of_le (by simp;omega),List.append_nil]
 have:=setRow_heap w g cur cs.toArray t _ hg
 simpa [e] using this

theorem madeCells_ent (n c:Nat) (hc:c<n*11):(madeCells (Value.agg #[.int .i64 0,.int .i64 0,.int .i64 0,.int .i64 0,.int .i64 0,.int .i64 0,.int .i64 0,.int .i64 0,.int .i64 0,.int .i64 0,.int .i64 0]).cells (n*11))[c]?=some (.int .i64 0):=by
 have hm:c % 11<11:=by omega
 obtain ⟨m,hmm⟩:∃m,m=c % 11:=⟨_,rfl⟩
 unfold madeCells
 simp [hc,Value.cells]
 rw [←hmm] at hm ⊢
 rcases (show m=0∨m=1∨m=2∨m=3∨m=4∨m=5∨m=6∨m=7∨m=8∨m=9∨m=10 by omega) with rfl | rfl | rfl | rfl | rfl | rfl | rfl | rfl | rfl | rfl | rfl <;> rfl

theorem make32:∃Z:Array Value,(∀w:World,(Instr.makeSlice 26 (.int .i64 32) (.int .i64 32)).run Try.prog w=.ok (.slice (some ⟨w.heap.size,0,none⟩) 32 32) (w.alloc (.cells Z 45))) ∧
  ∀w:World,Own (w.alloc (.cells Z 45)) w.heap.size 32 (fun _ _=>0):=by
 obtain ⟨i0,hi,hz0,hz1,hz2⟩:=info_parts info_ent
 refine ⟨madeCells (Value.agg #[.int .i64 0,.int .i64 0,.int .i64 0,.int .i64 0,.int .i64 0,.int .i64 0,.int .i64 0,.int .i64 0,.int .i64 0,.int .i64 0,.int .i64 0]).cells (32*11),fun w=>?_,fun w=>?_⟩
 ·have hr:=run_make (P:=Try.prog) w 26 45 i0 _ Try.underlying26 hi hz0 .i64 .i64 (32:Nat) (32:Nat) (by omega) (by omega) (by rw [hz2];decide) (by decide)
  rw [hz1] at hr
  exact hr
 ·refine ⟨by omega,_,_,Arr.lit (heap_alloc_new w _),by rw [size_madeCells];omega,fun c hc=>?_⟩
  show (madeCells _ _)[c]?.getD undef=_
  rw [madeCells_ent 32 c hc]
  rfl

end Go.Proofs.Ytapgkgbpekkdjaa

namespace Go.Proofs.Ytapgkgbpekkdjaa

def Sn.bt (v:Int) (k:Nat):Int:=v / 256 ^ k % 256

def Sn.num (n:Nat) (v:Int):List Int:=(List.range n).map fun j=>Sn.bt v (n - 1 - j)

def Sn.be (l:List Int):Int:=l.foldl (fun a b=>a*256+b) 0

theorem Sn.be_more (l:List Int) (b:Int):Sn.be (l ++ [b])=Sn.be l*256+b:=by
 unfold Sn.be
 rw [List.foldl_append]
 rfl

theorem Sn.num_len (n:Nat) (v:Int):(Sn.num n v).length=n:=by simp [Sn.num]

theorem Sn.bt_down (v:Int) (k:Nat):Sn.bt v (k+1)=Sn.bt (v / 256) k:=by
 unfold Sn.bt
 rw [Int.pow_succ,Int.mul_comm,Int.ediv_ediv_of_nonneg (by omega)]

theorem Sn.num_more (n:Nat) (v:Int):Sn.num (n+1) v=Sn.num n (v / 256) ++ [v % 256]:=by
 unfold Sn.num
 rw [List.range_succ,List.map_append]
 congr 1
 ·refine List.map_congr_left fun j hj=>?_
  have hj':j<n:=List.mem_range.1 hj
  rw [show n+1 - 1 - j=(n - 1 - j)+1 by omega,Sn.bt_down]
 ·simp [Sn.bt]

theorem Sn.be_num:∀(n:Nat) (v:Int),0≤v→v<256 ^ n→Sn.be (Sn.num n v)=v
 | 0,v,h0,h1=>by
  have:v<1:=by simpa using h1
  have hv:v=0:=by omega
  subst hv
  rfl
 | n+1,v,h0,h1=>by
  have hlt:v / 256<256 ^ n:=by
   rw [Int.pow_succ] at h1
   exact Int.ediv_lt_of_lt_mul (by omega) h1
  rw [Sn.num_more,Sn.be_more,Sn.be_num n (v / 256) (by omega) hlt]
  omega

theorem Sn.num_byte (n:Nat) (v:Int):∀b∈Sn.num n v,0≤b∧b≤255:=by
 intro b hb
 unfold Sn.num at hb
 obtain ⟨j,_,rfl⟩:=List.mem_map.1 hb
 unfold Sn.bt
 omega

def Sn.rows (k m:Nat) (f:Nat→Nat→Int):List Int:=(List.range k).flatMap fun i=>(List.range m).map fun j=>f i j % 256

theorem Sn.rows_more (k m:Nat) (f:Nat→Nat→Int):Sn.rows (k+1) m f=Sn.rows k m f ++ (List.range m).map fun j=>f k j % 256:=by
 unfold Sn.rows
 rw [List.range_succ,List.flatMap_append]
 simp

theorem Sn.rows_len (m:Nat) (f:Nat→Nat→Int):∀k,(Sn.rows k m f).length=k*m
 | 0=>by simp [Sn.rows]
 | k+1=>by
  rw [Sn.rows_more,List.length_append,Sn.rows_len m f k]
  simp [Nat.succ_mul]

theorem Sn.rows_at {m:Nat} {f:Nat→Nat→Int}:∀{k i j:Nat},i<k→j<m→(Sn.rows k m f)[i*m+j]?=some (f i j % 256)
 | 0,_,_,h,_=>absurd h (by omega)
 | k+1,i,j,hi,hj=>by
  rw [Sn.rows_more]
  by_cases e:i<k
  ·have hlt:i*m+j<k*m:=by
    have:(i+1)*m≤k*m:=Nat.mul_le_mul_right m e
    rw [Nat.succ_mul] at this
    omega
   rw [List.getElem?_append_left (by rw [Sn.rows_len];exact hlt),Sn.rows_at e hj]
  ·obtain rfl:i=k:=by omega
   rw [List.getElem?_append_right (by rw [Sn.rows_len];omega),Sn.rows_len,show i*m+j - i*m=j by omega,List.getElem?_map,List.getElem?_range hj]
   rfl

theorem Sn.rows_byte (k m:Nat) (f:Nat→Nat→Int):∀b∈Sn.rows k m f,0≤b∧b≤255:=by
 intro b hb
 unfold Sn.rows at hb
 obtain ⟨i,_,hb⟩:=List.mem_flatMap.1 hb
 obtain ⟨j,_,rfl⟩:=List.mem_map.1 hb
 omega

def Sn.golds (k:Nat) (g:Nat→Int):List Int:=(List.range k).flatMap fun t=>Sn.num 2 (g t % 18446744073709551616)

theorem Sn.golds_more (k:Nat) (g:Nat→Int):Sn.golds (k+1) g=Sn.golds k g ++ Sn.num 2 (g k % 18446744073709551616):=by
 unfold Sn.golds
 rw [List.range_succ,List.flatMap_append]
 simp

theorem Sn.golds_len (g:Nat→Int):∀k,(Sn.golds k g).length=k*2
 | 0=>by simp [Sn.golds]
 | k+1=>by
  rw [Sn.golds_more,List.length_append,Sn.golds_len g k,Sn.num_len]
  omega

def Sn.head (s:Nat→Int):List Int:=Sn.num 8 (s 0 % 18446744073709551616) ++ Sn.num 4 (s 1 % 18446744073709551616) ++ [s 2 % 256,s 3 % 256]

theorem Sn.head_len (s:Nat→Int):(Sn.head s).length=14:=by
 unfold Sn.head
 simp [Sn.num_len]

def Sn.bytes (s g c:Nat→Int) (E I:Nat→Nat→Int):List Int:=Sn.head s ++ Sn.golds 4 g ++ (List.range 384).map c ++ Sn.rows 32 11 E ++ Sn.rows 40 4 I

theorem Sn.bytes_len (s g c:Nat→Int) (E I:Nat→Nat→Int):(Sn.bytes s g c E I).length=918:=by
 unfold Sn.bytes
 simp only [List.length_append,Sn.head_len,Sn.golds_len,Sn.rows_len,List.length_map,List.length_range]

theorem Sn.golds_byte (k:Nat) (g:Nat→Int):∀b∈Sn.golds k g,0≤b∧b≤255:=by
 intro b hb
 unfold Sn.golds at hb
 obtain ⟨i,_,hb⟩:=List.mem_flatMap.1 hb
 exact Sn.num_byte _ _ b hb

theorem Sn.head_byte (s:Nat→Int):∀b∈Sn.head s,0≤b∧b≤255:=by
 intro b hb
 unfold Sn.head at hb
 simp only [List.mem_append,List.mem_cons,List.not_mem_nil,or_false] at hb
 rcases hb with (hb | hb) | rfl | rfl
 ·exact Sn.num_byte _ _ b hb
 ·exact Sn.num_byte _ _ b hb
 ·omega
 ·omega

theorem Sn.bytes_byte (s g c:Nat→Int) (E I:Nat→Nat→Int) (hc:∀i,0≤c i∧c i≤255):∀b∈Sn.bytes s g c E I,0≤b∧b≤255:=by
 intro b hb
 unfold Sn.bytes at hb
 simp only [List.mem_append] at hb
 rcases hb with (((hb | hb) | hb) | hb) | hb
 ·exact Sn.head_byte _ b hb
 ·exact Sn.golds_byte _ _ b hb
 ·obtain ⟨i,_,rfl⟩:=List.mem_map.1 hb
  exact hc i
 ·exact Sn.rows_byte _ _ _ b hb
 ·exact Sn.rows_byte _ _ _ b hb

theorem Sn.len14 (s g:Nat→Int):(Sn.head s ++ Sn.golds 4 g).length=22:=by rw [List.length_append,Sn.head_len,Sn.golds_len]

theorem Sn.len22 (s g c:Nat→Int):(Sn.head s ++ Sn.golds 4 g ++ (List.range 384).map c).length=406:=by rw [List.length_append,Sn.len14,List.length_map,List.length_range]

theorem Sn.len406 (s g c:Nat→Int) (E:Nat→Nat→Int):(Sn.head s ++ Sn.golds 4 g ++ (List.range 384).map c ++ Sn.rows 32 11 E).length=758:=by rw [List.length_append,Sn.len22,Sn.rows_len]

theorem Sn.bytes_item (s g c:Nat→Int) (E I:Nat→Nat→Int) {i j:Nat} (hi:i<40) (hj:j<4):(Sn.bytes s g c E I)[758+(i*4+j)]?=some (I i j % 256):=by
 unfold Sn.bytes
 rw [List.getElem?_append_right (by rw [Sn.len406];omega),Sn.len406,show 758+(i*4+j) - 758=i*4+j by omega]
 exact Sn.rows_at hi hj

theorem Sn.bytes_ent (s g c:Nat→Int) (E I:Nat→Nat→Int) {i j:Nat} (hi:i<32) (hj:j<11):(Sn.bytes s g c E I)[406+(i*11+j)]?=some (E i j % 256):=by
 unfold Sn.bytes
 have hlt:i*11+j<352:=by omega
 rw [List.getElem?_append_left (by rw [Sn.len406];omega),List.getElem?_append_right (by rw [Sn.len22];omega),Sn.len22,show 406+(i*11+j) - 406=i*11+j by omega]
 exact Sn.rows_at hi hj

theorem Sn.bytes_low (s g c:Nat→Int) (E I:Nat→Nat→Int) {k:Nat} (hk:k<406):(Sn.bytes s g c E I)[k]?=(Sn.head s ++ Sn.golds 4 g ++ (List.range 384).map c)[k]?:=by
 unfold Sn.bytes
 rw [List.getElem?_append_left (by rw [Sn.len406];omega),List.getElem?_append_left (by rw [Sn.len22];omega)]

theorem Sn.bytes_cell (s g c:Nat→Int) (E I:Nat→Nat→Int) {i:Nat} (hi:i<384):(Sn.bytes s g c E I)[22+i]?=some (c i):=by
 rw [Sn.bytes_low s g c E I (by omega),List.getElem?_append_right (by rw [Sn.len14];omega),Sn.len14,show 22+i - 22=i by omega,List.getElem?_map,List.getElem?_range hi]
 rfl

theorem Sn.bytes_gold (s g c:Nat→Int) (E I:Nat→Nat→Int) {t j:Nat} (ht:t<4) (hj:j<2):(Sn.bytes s g c E I)[14+2*t+j]?=(Sn.num 2 (g t % 18446744073709551616))[j]?:=by
 rw [Sn.bytes_low s g c E I (by omega),List.getElem?_append_left (by rw [Sn.len14];omega),List.getElem?_append_right (by rw [Sn.head_len];omega),Sn.head_len,show 14+2*t+j - 14=2*t+j by omega]
 have hg:∀k,t<k→(Sn.golds k g)[2*t+j]?=(Sn.num 2 (g t % 18446744073709551616))[j]?:=by
  intro k
  induction k with
  | zero=>intro h;omega
  | succ k ih =>
   intro h
   rw [Sn.golds_more]
   by_cases e:t<k
   ·rw [List.getElem?_append_left (by rw [Sn.golds_len];omega),ih e]
   ·obtain rfl:t=k:=by omega
    rw [List.getElem?_append_right (by rw [Sn.golds_len];omega),Sn.golds_len,show 2*t+j - t*2=j by omega]
 exact hg 4 ht

theorem Sn.bytes_head (s g c:Nat→Int) (E I:Nat→Nat→Int) {k:Nat} (hk:k<14):(Sn.bytes s g c E I)[k]?=(Sn.head s)[k]?:=by
 rw [Sn.bytes_low s g c E I (by omega),List.getElem?_append_left (by rw [Sn.len14];omega),List.getElem?_append_left (by rw [Sn.head_len];omega)]

def Sn.cut (F:Nat→Int) (at_ n:Nat):List Int:=(List.range n).map fun j=>F (at_+j)

theorem Sn.cut_more (F:Nat→Int) (at_ n:Nat):Sn.cut F at_ (n+1)=Sn.cut F at_ n ++ [F (at_+n)]:=by
 unfold Sn.cut
 rw [List.range_succ,List.map_append]
 rfl

theorem Sn.cut_is {F:Nat→Int} {at_ n:Nat} {l:List Int} (hl:l.length=n) (h:∀j,j<n→some (F (at_+j))=l[j]?):Sn.cut F at_ n=l:=by
 refine List.ext_getElem? fun j=>?_
 unfold Sn.cut
 rw [List.getElem?_map]
 by_cases hj:j<n
 ·rw [List.getElem?_range hj]
  exact h j hj
 ·rw [List.getElem?_eq_none (by simp;omega),List.getElem?_eq_none (by omega)]
  rfl

theorem Sn.be_bound:∀(n:Nat) (F:Nat→Int) (at_:Nat),(∀j,j<n→0≤F (at_+j)∧F (at_+j)≤255)→0≤Sn.be (Sn.cut F at_ n)∧Sn.be (Sn.cut F at_ n)<256 ^ n
 | 0,F,a,_=>by simp [Sn.cut,Sn.be]
 | n+1,F,a,h=>by
  obtain ⟨h0,h1⟩:=Sn.be_bound n F a (fun j hj=>h j (by omega))
  have hb:=h n (by omega)
  rw [Sn.cut_more,Sn.be_more,Int.pow_succ]
  omega

def Sn.rs (F:Nat→Int):Nat→Int
 | 0=>if Sn.be (Sn.cut F 0 8)<9223372036854775808 then Sn.be (Sn.cut F 0 8) else Sn.be (Sn.cut F 0 8) - 18446744073709551616
 | 1=>Sn.be (Sn.cut F 8 4)
 | 2=>F 12
 | _=>F 13

def Sn.rg (F:Nat→Int) (t:Nat):Int:=Sn.be (Sn.cut F (14+2*t) 2)
def Sn.rc (F:Nat→Int) (i:Nat):Int:=F (22+i)
def Sn.rE (F:Nat→Int) (i j:Nat):Int:=F (406+(i*11+j))
def Sn.rI (F:Nat→Int) (i j:Nat):Int:=F (758+(i*4+j))

def Sn.fn (l:List Int) (k:Nat):Int:=l[k]?.getD 0

theorem Sn.fn_at {l:List Int} {k:Nat} (hk:k<l.length):l[k]?=some (Sn.fn l k):=by
 unfold Sn.fn
 rw [List.getElem?_eq_getElem hk]
 rfl

theorem Sn.back {s g c:Nat→Int} {E I:Nat→Nat→Int} (h0:-9223372036854775808≤s 0∧s 0<9223372036854775808) (h1:0≤s 1∧s 1<4294967296) (h2:0≤s 2∧s 2≤255) (h3:0≤s 3∧s 3≤255) (hg:∀t,t<4→0≤g t∧g t<65536) (hE:∀i j,i<32→j<11→0≤E i j∧E i j≤255) (hI:∀i j,i<40→j<4→0≤I i j∧I i j≤255) :
  (∀k,k<4→Sn.rs (Sn.fn (Sn.bytes s g c E I)) k=s k)∧(∀t,t<4→Sn.rg (Sn.fn (Sn.bytes s g c E I)) t=g t)∧(∀i,i<384→Sn.rc (Sn.fn (Sn.bytes s g c E I)) i=c i)∧(∀i j,i<32→j<11→Sn.rE (Sn.fn (Sn.bytes s g c E I)) i j=E i j)∧(∀i j,i<40→j<4→Sn.rI (Sn.fn (Sn.bytes s g c E I)) i j=I i j):=by
 have hl:=Sn.bytes_len s g c E I
 have hf:∀k,k<918→some (Sn.fn (Sn.bytes s g c E I) k)=(Sn.bytes s g c E I)[k]?:=fun k hk=>(Sn.fn_at (by rw [hl];exact hk)).symm
 have hh:∀k,k<14→some (Sn.fn (Sn.bytes s g c E I) k)=(Sn.head s)[k]?:=fun k hk=>by rw [hf k (by omega),Sn.bytes_head s g c E I hk]
 have l8:∀v,(Sn.num 8 v).length=8:=Sn.num_len 8
 have l4:∀v,(Sn.num 4 v).length=4:=Sn.num_len 4
 refine ⟨fun k hk=>?_,fun t ht=>?_,fun i hi=>?_,fun i j hi hj=>?_,fun i j hi hj=>?_⟩
 ·rcases (show k=0∨k=1∨k=2∨k=3 by omega) with rfl | rfl | rfl | rfl
  ·have e:Sn.cut (Sn.fn (Sn.bytes s g c E I)) 0 8=Sn.num 8 (s 0 % 18446744073709551616):=Sn.cut_is (Sn.num_len _ _) fun j hj=>by
    rw [Nat.zero_add,hh j (by omega)]
    unfold Sn.head
    rw [List.getElem?_append_left (by simp [l8,l4];omega),List.getElem?_append_left (by rw [l8];exact hj)]
   show (if Sn.be (Sn.cut _ 0 8)<9223372036854775808 then _ else _)=_
   rw [e,Sn.be_num 8 _ (by omega) (by omega)]
   split <;> omega
  ·have e:Sn.cut (Sn.fn (Sn.bytes s g c E I)) 8 4=Sn.num 4 (s 1 % 18446744073709551616):=Sn.cut_is (Sn.num_len _ _) fun j hj=>by
    rw [hh (8+j) (by omega)]
    unfold Sn.head
    rw [List.getElem?_append_left (by simp [l8,l4];omega),List.getElem?_append_right (by rw [l8];omega),l8,show 8+j - 8=j by omega]
   show Sn.be (Sn.cut _ 8 4)=_
   rw [e,Sn.be_num 4 _ (by omega) (by omega)]
   omega
  ·have e:=hh 12 (by omega)
   unfold Sn.head at e
   rw [List.getElem?_append_right (by simp [l8,l4])] at e
   simp [l8,l4] at e
   show Sn.fn _ 12=_
   rw [e]
   omega
  ·have e:=hh 13 (by omega)
   unfold Sn.head at e
   rw [List.getElem?_append_right (by simp [l8,l4])] at e
   simp [l8,l4] at e
   show Sn.fn _ 13=_
   rw [e]
   omega
 ·have e:Sn.cut (Sn.fn (Sn.bytes s g c E I)) (14+2*t) 2=Sn.num 2 (g t % 18446744073709551616):=Sn.cut_is (Sn.num_len _ _) fun j hj=>by
   rw [hf _ (by omega),Sn.bytes_gold s g c E I ht hj]
  have hgt:=hg t ht
  show Sn.be (Sn.cut _ (14+2*t) 2)=_
  rw [e,Sn.be_num 2 _ (by omega) (by omega)]
  omega
 ·have e:=hf (22+i) (by omega)
  rw [Sn.bytes_cell s g c E I hi] at e
  exact Option.some.inj e
 ·have e:=hf (406+(i*11+j)) (by omega)
  rw [Sn.bytes_ent s g c E I hi hj] at e
  have:=hE i j hi hj
  have e':=Option.some.inj e
  show Sn.fn _ _=_
  rw [e']
  omega
 ·have e:=hf (758+(i*4+j)) (by omega)
  rw [Sn.bytes_item s g c E I hi hj] at e
  have:=hI i j hi hj
  have e':=Option.some.inj e
  show Sn.fn _ _=_
  rw [e']
  omega


open Go.RowKit

theorem isFree_any (e:Nat→Int) (w:World):Calls Try.prog 87 #[.agg (En.cells e)] w (Says w (.bool (decide (e 0=0)))):=by
 unfold En.cells
 go_enter Try.func87,Try.ntmps87
 go_wp2
 go_ret
 exact ⟨rfl,World.grownBy_alloc _ _ _⟩

theorem slice_ents (a:Option Addr) (len cap k:Nat) (w:World) (hk:k≤cap) :
  (Instr.slice 26 (.slice a len cap) none (some (.int .i64 (k:Int))) none).run Try.prog w=.ok (.slice a k cap) w:=by
 have hs:(sizeOf (Try.prog.elem 26)).run Try.prog w=.ok 11 w:=by kernel_rfl
 rw [run_slice_h w 26 a len cap (by kernel_rfl) .i64 (k:Int) (by omega) (by omega),hs]
 have e:a.map (fun x=>x.add (0*11))=a:=by
  cases a with
  | none=>rfl
  | some x=>simp [Addr.add]
 simp only [Result.andThen,sliced,e,Int.toNat_natCast,Nat.sub_zero,ite_self]

theorem rows_any (a:Option Addr) (n c:Nat) (w:World) (hn:n≤32) (hc:n≤c) :
  Calls Try.prog 86 #[.slice a n c] w fun e w'=>e=.returned (.slice a n c)∧w'=w:=by
 have hs:=fun wx=>slice_ents a n c n wx hc
 have hm:min (n:Int) 32=(n:Int):=by omega
 go_enter Try.func86,Try.ntmps86
 go_wp2
 go_ret
 exact ⟨rfl,rfl⟩

def En.Gens (n:Nat) (E:Nat→Nat→Int):Prop:=∀i,i<n→0≤E i 1∧E i 1≤255


open Go.RowKit

def En.firstFrom (q:Nat→Bool):Nat→Nat→Int
 | 0,_=>-1
 | m+1,k=>if q k=true then (k:Int) else En.firstFrom q m (k+1)

def En.first (q:Nat→Bool) (n:Nat):Int:=En.firstFrom q n 0

theorem En.from_hit {q:Nat→Bool}:∀(m k i:Nat),(∀j,i≤j→j<k→q j=false)→q k=true→i≤k→k<i+m→En.firstFrom q m i=(k:Int)
  | 0,k,i,_,_,h1,h2=>by omega
  | m + 1, k, i, hno, hk, h1, h2 => by
      unfold En.firstFrom
      by_cases e:i=k
      · rw [e,if_pos hk]
      · rw [if_neg (by rw [hno i (Nat.le_refl _) (by omega)];simp),En.from_hit m k (i+1) (fun j hj1 hj2=>hno j (by omega) hj2) hk (by omega) (by omega)]

theorem En.from_none {q:Nat→Bool}:∀(m i:Nat),(∀j,i≤j→j<i+m→q j=false)→En.firstFrom q m i=-1
  | 0,_,_=>rfl
  | m + 1, i, hno => by
      unfold En.firstFrom
      rw [if_neg (by rw [hno i (Nat.le_refl _) (by omega)];simp),En.from_none m (i+1) (fun j hj1 hj2=>hno j (by omega) (by omega))]

theorem En.first_hit {q:Nat→Bool} {n k:Nat} (hno:∀j,j<k→q j=false) (hk:q k=true) (hn:k<n):En.first q n=(k:Int) :=
 En.from_hit n k 0 (fun j _ h=>hno j h) hk (by omega) (by omega)

theorem En.first_none {q:Nat→Bool} {n:Nat} (hno:∀j,j<n→q j=false):En.first q n=-1 :=
 En.from_none n 0 (fun j _ h=>hno j (by omega))

theorem En.first_cases (q:Nat→Bool) (n:Nat):(En.first q n=-1∧∀j,j<n→q j=false)∨∃k,k<n∧En.first q n=(k:Int)∧q k=true∧∀j,j<k→q j=false:=by
 induction n with
 | zero=>exact .inl ⟨rfl,fun j h=>by omega⟩
 | succ n ih =>
  rcases ih with ⟨_,hno⟩ | ⟨k,hk,_,hq,hno⟩
  ·by_cases hq:q n=true
   ·exact .inr ⟨n,by omega,En.first_hit hno hq (by omega),hq,hno⟩
   ·have h:∀j,j<n+1→q j=false:=fun j hj=>by
     by_cases e:j=n
     ·rw [e];simpa using hq
     ·exact hno j (by omega)
    exact .inl ⟨En.first_none h,h⟩
  ·exact .inr ⟨k,by omega,En.first_hit hno hq (by omega),hq,hno⟩

def En.freeQ (E:Nat→Nat→Int):Nat→Bool:=fun i=>decide (E i 0=0)
def En.atQ (E:Nat→Nat→Int) (x y:Int):Nat→Bool:=fun i=>!(decide (E i 0=0)) && (decide (E i 3=x) && decide (E i 4=y))
def En.heroQ (E:Nat→Nat→Int) (s:Int):Nat→Bool:=fun i=>decide (E i 0=1) && decide (E i 2=s)
def En.ofQ (E:Nat→Nat→Int) (id:Int):Nat→Bool:=fun i=>!(decide (E i 0=0)) && decide ((i:Int)+32*E i 1=id)

theorem Ents.row {w:World} {b n:Nat} {E:Nat→Nat→Int} (h:Ents w b n E) {k:Nat} (hk:k<n) :
  w.cell? ⟨b,k*11,none⟩=some (.int .i64 (E k 0))∧w.cell? ⟨b,k*11+1,none⟩=some (.int .i64 (E k 1))∧w.cell? ⟨b,k*11+2,none⟩=some (.int .i64 (E k 2))∧w.cell? ⟨b,k*11+3,none⟩=some (.int .i64 (E k 3)) ∧
  w.cell? ⟨b,k*11+4,none⟩=some (.int .i64 (E k 4))∧w.cell? ⟨b,k*11+5,none⟩=some (.int .i64 (E k 5))∧w.cell? ⟨b,k*11+6,none⟩=some (.int .i64 (E k 6))∧w.cell? ⟨b,k*11+7,none⟩=some (.int .i64 (E k 7)) ∧
  w.cell? ⟨b,k*11+8,none⟩=some (.int .i64 (E k 8))∧w.cell? ⟨b,k*11+9,none⟩=some (.int .i64 (E k 9))∧w.cell? ⟨b,k*11+10,none⟩=some (.int .i64 (E k 10)) :=
 ⟨h.2.2 k 0 hk (by omega),h.2.2 k 1 hk (by omega),h.2.2 k 2 hk (by omega),h.2.2 k 3 hk (by omega),h.2.2 k 4 hk (by omega),h.2.2 k 5 hk (by omega),h.2.2 k 6 hk (by omega),h.2.2 k 7 hk (by omega),h.2.2 k 8 hk (by omega),h.2.2 k 9 hk (by omega),h.2.2 k 10 hk (by omega)⟩

theorem atC_any (b n c p0 p1 p2 k:Nat) (E:Nat→Nat→Int) (x y:Int) (w:World) (hE:Ents w b n E) (hk:k<n) (hp0:w.cell? ⟨p0,0,none⟩=some (.slice (some ⟨b,0,none⟩) n c)) (hp1:w.cell? ⟨p1,0,none⟩=some (.int .i64 x)) (hp2:w.cell? ⟨p2,0,none⟩=some (.int .i64 y)) :
  Calls Try.prog 83 #[.int .i64 (k:Int),.pointer (some ⟨p0,0,none⟩),.pointer (some ⟨p1,0,none⟩),.pointer (some ⟨p2,0,none⟩)] w (Says w (.bool (decide (E k 3=x) && decide (E k 4=y)))):=by
 obtain ⟨_,_,_,u3,u4,_⟩:=hE.row hk
 have hk':(k:Int)<(n:Int):=by omega
 have hdr:Hid (∀m,w.grownBy (w.drewN m) none):=fun m=>gdw (World.grownBy.refl _ _) m
 clear hE
 by_cases h3:E k 3=x
 ·by_cases h4:E k 4=y
  ·have hd:=hide (show (decide (E k 3=x) && decide (E k 4=y))=true by simp [h3,h4])
   rw [h3] at u3
   rw [h4] at u4
   clear h3 h4
   go_enter Try.func83,Try.ntmps83
   go_wp2_with fail
   go_quiet (fail)
   go_wp2
   go_ret
   exact ⟨ret_bool (uh hd).symm,uh hdr _⟩
  ·have hd:=hide (show (decide (E k 3=x) && decide (E k 4=y))=false by simp [h4])
   rw [h3] at u3
   clear h3
   go_enter Try.func83,Try.ntmps83
   go_wp2_with fail
   go_quiet (fail)
   go_wp2
   go_ret
   exact ⟨ret_bool (uh hd).symm,uh hdr _⟩
 ·have hd:=hide (show (decide (E k 3=x) && decide (E k 4=y))=false by simp [h3])
  go_enter Try.func83,Try.ntmps83
  go_wp2_with fail
  go_quiet (fail)
  go_wp2
  go_ret
  exact ⟨ret_bool (uh hd).symm,uh hdr _⟩

theorem heroC_any (b n c p0 p1 k:Nat) (E:Nat→Nat→Int) (seat:Int) (w:World) (hE:Ents w b n E) (hk:k<n) (hp0:w.cell? ⟨p0,0,none⟩=some (.slice (some ⟨b,0,none⟩) n c)) (hp1:w.cell? ⟨p1,0,none⟩=some (.int .i64 seat)) :
  Calls Try.prog 84 #[.int .i64 (k:Int),.pointer (some ⟨p0,0,none⟩),.pointer (some ⟨p1,0,none⟩)] w (Says w (.bool (decide (E k 0=1) && decide (E k 2=seat)))):=by
 obtain ⟨u0,_,u2,_⟩:=hE.row hk
 have hk':(k:Int)<(n:Int):=by omega
 have hdr:Hid (∀m,w.grownBy (w.drewN m) none):=fun m=>gdw (World.grownBy.refl _ _) m
 clear hE
 by_cases h1:E k 0=1
 ·have hd:=hide (decide_eq_true h1)
  have h1':(E k 0 == 1)=true:=by simp [h1]
  clear h1
  go_enter Try.func84,Try.ntmps84
  go_wp2_with fail
  go_quiet (fail)
  go_wp2
  go_ret
  exact ⟨ret_bool (by rw [uh hd,Bool.true_and];rfl),uh hdr _⟩
 ·have hd:=hide (decide_eq_false h1)
  have h1':(E k 0 == 1)=false:=by simp [h1]
  clear h1
  go_enter Try.func84,Try.ntmps84
  go_wp2_with fail
  go_quiet (fail)
  go_wp2
  go_ret
  exact ⟨ret_bool (by rw [uh hd];simp),uh hdr _⟩

end Go.Proofs.Ytapgkgbpekkdjaa

namespace Go.Proofs.Ytapgkgbpekkdjaa

namespace Gd

def row (k w a b:Int):Nat→Int
 | 0=>k
 | 1=>w
 | 2=>a
 | 3=>b
 | _=>0

def inQ (I:Nat→Nat→Int) (w a b:Int):Nat→Bool:=fun i=>decide (I i 1=w) && (decide (I i 2=a) && decide (I i 3=b))

def find (I:Nat→Nat→Int) (n:Nat) (w a b:Int):Int:=En.first (inQ I w a b) n

theorem find_cases (I:Nat→Nat→Int) (n:Nat) (w a b:Int):(find I n w a b=-1∧∀j,j<n→¬(I j 1=w∧I j 2=a∧I j 3=b))∨∃k:Nat,k<n∧find I n w a b=(k:Int)∧I k 1=w∧I k 2=a∧I k 3=b∧∀j,j<k→¬(I j 1=w∧I j 2=a∧I j 3=b):=by
 have conv:∀j,inQ I w a b j=false→¬(I j 1=w∧I j 2=a∧I j 3=b):=fun j h ⟨h1,h2,h3⟩=>by simp [inQ,h1,h2,h3] at h
 rcases En.first_cases (inQ I w a b) n with ⟨h,hno⟩ | ⟨k,hk,h,hq,hno⟩
 ·exact .inl ⟨h,fun j hj=>conv j (hno j hj)⟩
 ·simp only [inQ,Bool.and_eq_true,decide_eq_true_eq] at hq
  exact .inr ⟨k,hk,h,hq.1,hq.2.1,hq.2.2,fun j hj=>conv j (hno j hj)⟩

theorem find_neg {I:Nat→Nat→Int} {n:Nat} {w a b:Int} (h:find I n w a b<0):find I n w a b=-1∧∀j,j<n→¬(I j 1=w∧I j 2=a∧I j 3=b):=by
 rcases find_cases I n w a b with h' | ⟨k,_,h',_⟩
 ·exact h'
 ·omega

def Zero (r:Nat→Int):Prop:=r 0=0∧r 1=0∧r 2=0∧r 3=0

def Placed (c:Nat→Int) (r:Nat→Int):Prop:=1≤r 0∧r 0≤4 ∧
  ((r 1 = 1 ∧ Gr.inB (r 2) (r 3) = true ∧ Gr.walkB (Gr.at 384 c (r 2) (r 3)) = true) ∨
   (r 1 = 2 ∧ 0 ≤ r 2 ∧ r 2 < 4 ∧ 0 ≤ r 3 ∧ r 3 < 4 ∧ r 0 ≠ 4) ∨
   (r 1 = 3 ∧ 0 ≤ r 2 ∧ r 2 < 4 ∧ (r 0 = 2 ∧ r 3 = 0 ∨ r 0 = 3 ∧ r 3 = 1)) ∨
   (r 1=4∧0≤r 2∧r 2<3∧r 3=0∧r 0≠4))

def Share (r s:Nat→Int):Prop:=r 1=s 1∧r 2=s 2∧r 3=s 3

structure Ok (c:Nat→Int) (n:Nat) (I:Nat→Nat→Int):Prop where
 each:∀i,i<n→Zero (I i)∨Placed c (I i)
 one:∀i k,i<n→k<n→i≠k→I i 1≠0→¬Share (I k) (I i)

theorem Placed.where_ne {c r:Nat→Int} (h:Placed c r):r 1≠0:=by
 obtain ⟨_,_,h | h | h | h⟩:=h <;> omega

theorem Ok.put {c:Nat→Int} {n:Nat} {I:Nat→Nat→Int} (h:Ok c n I) {i:Nat} {r:Nat→Int} (hr:Zero r∨(Placed c r∧∀k,k<n→k≠i→¬Share (I k) r)):Ok c n (En.put I i r):=by
 refine ⟨fun k hk=>?_,fun j k hj hk hjk hw hs=>?_⟩
 ·by_cases e:k=i
  ·rw [e,En.put_same]
   exact hr.imp id And.left
  ·rw [En.put_other e];exact h.each k hk
 ·by_cases ej:j=i
  ·rw [ej,En.put_same] at hw hs
   rw [En.put_other (by omega)] at hs
   rcases hr with hz | ⟨_,hno⟩
   ·exact hw hz.2.1
   ·exact hno k hk (by omega) hs
  ·rw [En.put_other ej] at hw hs
   by_cases ek:k=i
   ·rw [ek,En.put_same] at hs
    rcases hr with hz | ⟨_,hno⟩
    ·exact hw (by rw [←hs.1];exact hz.2.1)
    ·exact hno j hj ej ⟨hs.1.symm,hs.2.1.symm,hs.2.2.symm⟩
   ·rw [En.put_other ek] at hs
    exact h.one j k hj hk hjk hw hs

end Gd


open Go.RowKit

def En.stats (k:Int):Nat→Int
 | 0=>if 1≤k∧k≤4 then k else 0
 | 5=>if k=1 then 20 else if k=2 then 4 else if k=3 then 9 else if k=4 then 6 else 0
 | 6=>if k=1 then 20 else if k=2 then 4 else if k=3 then 9 else if k=4 then 6 else 0
 | 7=>if k=1 then 5 else if k=2 then 2 else if k=3 then 4 else if k=4 then 3 else 0
 | 8=>if k=1 then 1 else if k=3 then 1 else 0
 | _=>0

theorem En.stats_none {k:Int} (h:¬(1≤k∧k≤4)):En.cells (En.stats k)=En.cells (fun _=>0):=by
 have h1:k≠1:=by omega
 have h2:k≠2:=by omega
 have h3:k≠3:=by omega
 have h4:k≠4:=by omega
 simp [En.cells,En.stats,h,h1,h2,h3,h4]

set_option maxHeartbeats 4000000 in
theorem entStats_any (k:Int) (w:World):Calls Try.prog 70 #[.int .i64 k] w (Says w (.agg (En.cells (En.stats k)))):=by
 by_cases h:1≤k∧k≤4
 ·rcases (show k=1∨k=2∨k=3∨k=4 by omega) with rfl | rfl | rfl | rfl
  all_goals
   clear h
   go_enter Try.func70,Try.ntmps70
   go_wp2
   go_returns
   exact ⟨rfl,World.grownBy_alloc _ _ _⟩
 ·rw [En.stats_none h]
  have h1:k≠1:=by omega
  have h2:k≠2:=by omega
  have h3:k≠3:=by omega
  have h4:k≠4:=by omega
  clear h
  go_enter Try.func70,Try.ntmps70
  go_wp2
  go_returns
  exact ⟨rfl,World.grownBy_alloc _ _ _⟩

set_option maxHeartbeats 4000000 in
theorem entRefStats_any (k:Int) (w:World):Calls Try.prog 22 #[.int .i64 k] w (Says w (.agg (En.cells (En.stats k)))):=by
 by_cases h:1≤k∧k≤4
 ·rcases (show k=1∨k=2∨k=3∨k=4 by omega) with rfl | rfl | rfl | rfl
  all_goals
   clear h
   go_enter Try.func22,Try.ntmps22
   go_wp2
   go_returns
   exact ⟨rfl,World.grownBy_alloc _ _ _⟩
 ·rw [En.stats_none h]
  have h1:k≠1:=by omega
  have h2:k≠2:=by omega
  have h3:k≠3:=by omega
  have h4:k≠4:=by omega
  clear h
  go_enter Try.func22,Try.ntmps22
  go_wp2
  go_returns
  exact ⟨rfl,World.grownBy_alloc _ _ _⟩


open Go.RowKit

def Lie (x:World) (g:Nat) (T:TypeId) (m:Nat) (F:Nat→Value):Prop:=∃M G,Arr x g T M G∧m≤M∧∀c,c<m→G c=F c

theorem Arr.lie {x:World} {g:Nat} {T:TypeId} {m:Nat} {F:Nat→Value} (h:Arr x g T m F):Lie x g T m F:=⟨m,F,h,Nat.le_refl _,fun _ _=>rfl⟩

theorem Lie.cell {x:World} {g:Nat} {T:TypeId} {m:Nat} {F:Nat→Value} (h:Lie x g T m F) {c:Nat} (hc:c<m):x.cell? ⟨g,c,none⟩=some (F c):=by
 obtain ⟨M,G,hA,hm,he⟩:=h
 rw [hA.cell (i:=c) (by omega),he c hc]

theorem Lie.free {x:World} {g:Nat} {T:TypeId} {m:Nat} {F:Nat→Value} (h:Lie x g T m F) (i:Nat):x.frozen? ⟨g,i,none⟩=false:=by
 obtain ⟨M,G,hA,_,_⟩:=h
 exact hA.free i

theorem Lie.lt {x:World} {g:Nat} {T:TypeId} {m:Nat} {F:Nat→Value} (h:Lie x g T m F):g<x.heap.size:=by
 obtain ⟨M,G,hA,_,_⟩:=h
 exact hA.lt

theorem Lie.congr {x:World} {g:Nat} {T:TypeId} {m:Nat} {F G:Nat→Value} (h:Lie x g T m F) (he:∀c,c<m→F c=G c):Lie x g T m G:=by
 obtain ⟨M,K,hA,hm,hk⟩:=h
 exact ⟨M,K,hA,hm,fun c hc=>(hk c hc).trans (he c hc)⟩

theorem Lie.grown {x y:World} {g:Nat} {T:TypeId} {m:Nat} {F:Nat→Value} {r:Option Nat} (h:Lie x g T m F) (hg:x.grownBy y r) (hr:r≠some g):Lie y g T m F:=by
 obtain ⟨M,K,hA,hm,hk⟩:=h
 exact ⟨M,K,hA.grown hg hr,hm,hk⟩

theorem Lie.on {x y:World} {g:Nat} {T:TypeId} {m:Nat} {F:Nat→Value} (h:Lie x g T m F) (hg:x.grownBy y none):Lie y g T m F:=h.grown hg (by simp)

theorem Lie.below {x y:World} {B g:Nat} {T:TypeId} {m:Nat} {F:Nat→Value} (h:Lie x g T m F) (hb:Below B x y) (hg:g<B):Lie y g T m F:=by
 obtain ⟨M,K,hA,hm,hk⟩:=h
 exact ⟨M,K,hA.kept hb hg,hm,hk⟩

theorem Lie.other {x:World} {g:Nat} {T:TypeId} {m:Nat} {F:Nat→Value} (h:Lie x g T m F) {p:Nat} (hp:p≠g) (i:Nat) (u:Value):Lie (x.setCell ⟨p,i,none⟩ u) g T m F :=
 h.grown (gs0 x p i u) (by simpa using hp)

theorem Lie.others {x:World} {g:Nat} {T:TypeId} {m:Nat} {F:Nat→Value} (h:Lie x g T m F) {p:Nat} (hp:p≠g) (o:Nat) (vs:List Value):Lie (x.setCells p o vs) g T m F :=
 h.grown (gss vs o x (World.grownBy.refl _ _)) (by simpa using hp)

theorem Lie.store {x:World} {g:Nat} {T:TypeId} {m:Nat} {F:Nat→Value} (h:Lie x g T m F) (i:Nat) (u:Value):Lie (x.setCell ⟨g,i,none⟩ u) g T m (fun j=>if j=i then u else F j):=by
 obtain ⟨M,K,hA,hm,hk⟩:=h
 refine ⟨M,_,hA.store i u,hm,fun c hc=>?_⟩
 show (if c=i then u else K c)=_
 rw [hk c hc]

theorem Lie.stores {x:World} {g:Nat} {T:TypeId} {m:Nat} {F:Nat→Value} (h:Lie x g T m F) (o:Nat) (vs:List Value):Lie (x.setCells g o vs) g T m (fun j=>if o≤j∧j<o+vs.length then vs[j - o]?.getD undef else F j):=by
 obtain ⟨M,K,hA,hm,hk⟩:=h
 refine ⟨M,_,hA.stores vs o,hm,fun c hc=>?_⟩
 show (if o≤c∧c<o+vs.length then vs[c - o]?.getD undef else K c)=_
 rw [hk c hc]

def Gd.cells (r:Nat→Int):Array Value:=#[.int .i64 (r 0),.int .i64 (r 1),.int .i64 (r 2),.int .i64 (r 3)]

def Gd.flat (I:Nat→Nat→Int):Nat→Value:=fun c=>.int .i64 (I (c / 4) (c % 4))

theorem Gd.flat_at (I:Nat→Nat→Int) (i j:Nat) (hj:j<4):Gd.flat I (i*4+j)=.int .i64 (I i j):=by
 unfold Gd.flat
 rw [show (i*4+j) / 4=i by omega,show (i*4+j) % 4=j by omega]

def Its (w:World) (b o n:Nat) (I:Nat→Nat→Int):Prop:=n≤100∧b<w.heap.size∧∀i j,i<n→j<4→w.cell? ⟨b,o+i*4+j,none⟩=some (.int .i64 (I i j))

theorem Its.on {w w':World} {b o n:Nat} {I:Nat→Nat→Int} (h:Its w b o n I) (hg:w.grownBy w' none):Its w' b o n I :=
 ⟨h.1,Nat.lt_of_lt_of_le h.2.1 hg.size,fun i j hi hj=>(gce hg b _ h.2.1 (by simp)).trans (h.2.2 i j hi hj)⟩

theorem Its.row {w:World} {b n:Nat} {I:Nat→Nat→Int} (h:Its w b 0 n I) {k:Nat} (hk:k<n) :
  w.cell? ⟨b,k*4,none⟩=some (.int .i64 (I k 0))∧w.cell? ⟨b,k*4+1,none⟩=some (.int .i64 (I k 1))∧w.cell? ⟨b,k*4+2,none⟩=some (.int .i64 (I k 2))∧w.cell? ⟨b,k*4+3,none⟩=some (.int .i64 (I k 3)):=by
 have:=fun j hj=>h.2.2 k j hk hj
 simp only [Nat.zero_add] at this
 exact ⟨this 0 (by omega),this 1 (by omega),this 2 (by omega),this 3 (by omega)⟩

theorem Lie.its {x:World} {g n m:Nat} {T:TypeId} {I:Nat→Nat→Int} (h:Lie x g T m (Gd.flat I)) (hm:n*4=m) (hn:n≤100):Its x g 0 n I :=
 ⟨hn,h.lt,fun i j hi hj=>by rw [Nat.zero_add,h.cell (c:=i*4+j) (by omega),Gd.flat_at I i j hj]⟩

theorem Lie.own {x:World} {g n m:Nat} {E:Nat→Nat→Int} (h:Lie x g 45 m (En.flat E)) (hm:n*11=m) (hn:n≤32):Own x g n E:=by
 obtain ⟨M,K,hA,hl,hk⟩:=h
 exact ⟨hn,M,K,hA,by omega,fun c hc=>hk c (by omega)⟩

theorem Own.lie {x:World} {g n m:Nat} {E:Nat→Nat→Int} (h:Own x g n E) (hm:n*11=m):Lie x g 45 m (En.flat E):=by
 obtain ⟨_,M,K,hA,hl,hk⟩:=h
 exact ⟨M,K,hA,by omega,fun c hc=>hk c (by omega)⟩

theorem Gd.cells_at (r:Nat→Int) (j:Nat) (hj:j<4):(Gd.cells r).toList[j]?.getD undef=.int .i64 (r j):=by
 rcases (show j=0∨j=1∨j=2∨j=3 by omega) with rfl | rfl | rfl | rfl <;> rfl

theorem Lie.item {x:World} {g m:Nat} {T:TypeId} {I:Nat→Nat→Int} (h:Lie x g T m (Gd.flat I)) (k:Nat) (r:Nat→Int):Lie (x.setCells g (k*4) (Gd.cells r).toList) g T m (Gd.flat (En.put I k r)):=by
 refine (h.stores (k*4) (Gd.cells r).toList).congr fun c hc=>?_
 show (if k*4≤c∧c<k*4+4 then (Gd.cells r).toList[c - k*4]?.getD undef else Gd.flat I c)=Gd.flat (En.put I k r) c
 unfold Gd.flat
 by_cases hk:k*4≤c∧c<k*4+4
 ·rw [if_pos hk,Gd.cells_at r _ (by omega),show c / 4=k by omega,En.put_same,show c - k*4=c % 4 by omega]
 ·rw [if_neg hk,En.put_other (by omega)]

def Gd.box (s:Nat→Int) (gC gE gI:Nat) (cC cE cI:Nat) (g:Nat→Int):Nat→Value
 | 0=>.int .i64 (s 0)
 | 1=>.int .i64 (s 1)
 | 2=>.int .i64 (s 2)
 | 3=>.int .i64 (s 3)
 | 4=>.slice (some ⟨gC,0,none⟩) 384 cC
 | 5=>.slice (some ⟨gE,0,none⟩) 32 cE
 | 6=>.slice (some ⟨gI,0,none⟩) 40 cI
 | 7=>.int .i64 (g 0)
 | 8=>.int .i64 (g 1)
 | 9=>.int .i64 (g 2)
 | 10=>.int .i64 (g 3)
 | _=>undef

def Gd.world (s:Nat→Int) (gC gE gI:Nat) (cC cE cI:Nat) (g:Nat→Int):Array Value :=
 #[.int .i64 (s 0),.int .i64 (s 1),.int .i64 (s 2),.int .i64 (s 3),.slice (some ⟨gC,0,none⟩) 384 cC,.slice (some ⟨gE,0,none⟩) 32 cE,.slice (some ⟨gI,0,none⟩) 40 cI,.int .i64 (g 0),.int .i64 (g 1),.int .i64 (g 2),.int .i64 (g 3)]

theorem Gd.world_at (s:Nat→Int) (gC gE gI cC cE cI:Nat) (g:Nat→Int) (j:Nat) (hj:j<11):(Gd.world s gC gE gI cC cE cI g)[j]?=some (Gd.box s gC gE gI cC cE cI g j):=by
 rcases (show j=0∨j=1∨j=2∨j=3∨j=4∨j=5∨j=6∨j=7∨j=8∨j=9∨j=10 by omega) with rfl | rfl | rfl | rfl | rfl | rfl | rfl | rfl | rfl | rfl | rfl <;> rfl

theorem Arr.world {w:World} {B:Nat} {s:Nat→Int} {gC gE gI cC cE cI:Nat} {g:Nat→Int} (h:w.heap[B]?=some (.cells (Gd.world s gC gE gI cC cE cI g) 29 (0,0))):Arr w B 29 11 (Gd.box s gC gE gI cC cE cI g) :=
 ⟨_,h,rfl,fun i hi=>Gd.world_at s gC gE gI cC cE cI g i hi⟩

def Gd.give (g:Nat→Int) (k:Nat) (v:Int):Nat→Int:=fun i=>if i=k then v else g i

theorem Lie.gold {x:World} {B:Nat} {T:TypeId} {s:Nat→Int} {gC gE gI cC cE cI:Nat} {g:Nat→Int} (h:Lie x B T 11 (Gd.box s gC gE gI cC cE cI g)) (k:Nat) (hk:k<4) (v:Int):Lie (x.setCell ⟨B,7+k,none⟩ (.int .i64 v)) B T 11 (Gd.box s gC gE gI cC cE cI (Gd.give g k v)):=by
 refine (h.store (7+k) (.int .i64 v)).congr fun c hc=>?_
 rcases (show k=0∨k=1∨k=2∨k=3 by omega) with rfl | rfl | rfl | rfl <;>
 rcases (show c=0∨c=1∨c=2∨c=3∨c=4∨c=5∨c=6∨c=7∨c=8∨c=9∨c=10 by omega) with rfl | rfl | rfl | rfl | rfl | rfl | rfl | rfl | rfl | rfl | rfl <;> rfl

theorem Gd.box_gold (s:Nat→Int) (gC gE gI cC cE cI:Nat) (g:Nat→Int) (k:Nat) (hk:k<4):Gd.box s gC gE gI cC cE cI g (7+k)=.int .i64 (g k):=by
 rcases (show k=0∨k=1∨k=2∨k=3 by omega) with rfl | rfl | rfl | rfl <;> rfl

structure Gd.Lists (x:World) (gC gE gI:Nat) (c:Nat→Int) (E I:Nat→Nat→Int):Prop where
 cells:Lie x gC 5 384 (Byts c)
 ents:Lie x gE 45 352 (En.flat E)
 items:Lie x gI 47 160 (Gd.flat I)

theorem Gd.Lists.on {x y:World} {gC gE gI:Nat} {c:Nat→Int} {E I:Nat→Nat→Int} (h:Gd.Lists x gC gE gI c E I) (hg:x.grownBy y none):Gd.Lists y gC gE gI c E I :=
 ⟨h.cells.on hg,h.ents.on hg,h.items.on hg⟩

theorem Gd.Lists.below {x y:World} {B gC gE gI:Nat} {c:Nat→Int} {E I:Nat→Nat→Int} (h:Gd.Lists x gC gE gI c E I) (hb:Below B x y) (h1:gC<B) (h2:gE<B) (h3:gI<B):Gd.Lists y gC gE gI c E I :=
 ⟨h.cells.below hb h1,h.ents.below hb h2,h.items.below hb h3⟩

theorem Gd.Lists.its {x:World} {gC gE gI:Nat} {c:Nat→Int} {E I:Nat→Nat→Int} (h:Gd.Lists x gC gE gI c E I):Its x gI 0 40 I:=h.items.its (by omega) (by omega)

theorem Gd.Lists.own {x:World} {gC gE gI:Nat} {c:Nat→Int} {E I:Nat→Nat→Int} (h:Gd.Lists x gC gE gI c E I):Own x gE 32 E:=h.ents.own (by omega) (by omega)

theorem Gd.Lists.vec {x:World} {gC gE gI:Nat} {c:Nat→Int} {E I:Nat→Nat→Int} (h:Gd.Lists x gC gE gI c E I):Vec x.heap.size x (some ⟨gC,0,none⟩) 384 (Byts c) :=
 ⟨by unfold maxLen;omega,.inr ⟨gC,0,rfl,h.cells.lt,fun i hi=>by rw [Nat.zero_add];exact h.cells.cell hi⟩⟩

structure Gd.Hold (x:World) (B gC gE gI:Nat) (cC cE cI:Nat) (s:Nat→Int) (g:Nat→Int) (c:Nat→Int) (E I:Nat→Nat→Int):Prop where
 box:Lie x B 29 11 (Gd.box s gC gE gI cC cE cI g)
 lists:Gd.Lists x gC gE gI c E I
 bC:B≠gC
 bE:B≠gE
 bI:B≠gI
 cE:gC≠gE
 cI:gC≠gI
 eI:gE≠gI

theorem Gd.Hold.on {x y:World} {B gC gE gI cC cE cI:Nat} {s g c:Nat→Int} {E I:Nat→Nat→Int} (h:Gd.Hold x B gC gE gI cC cE cI s g c E I) (hg:x.grownBy y none):Gd.Hold y B gC gE gI cC cE cI s g c E I :=
 { h with box:=h.box.on hg,lists:=h.lists.on hg }

theorem Gd.Hold.items {x:World} {B gC gE gI cC cE cI:Nat} {s g c:Nat→Int} {E I J:Nat→Nat→Int} (h:Gd.Hold x B gC gE gI cC cE cI s g c E I) {y:World} (hg:x.grownBy y (some gI)) (hI:Lie y gI 47 160 (Gd.flat J)):Gd.Hold y B gC gE gI cC cE cI s g c E J :=
 { h with box:=h.box.grown hg (by simpa using h.bI.symm),lists:=⟨h.lists.cells.grown hg (by simpa using h.cI.symm),h.lists.ents.grown hg (by simpa using h.eI.symm),hI⟩ }

theorem Gd.Hold.ents {x:World} {B gC gE gI cC cE cI:Nat} {s g c:Nat→Int} {E I F:Nat→Nat→Int} (h:Gd.Hold x B gC gE gI cC cE cI s g c E I) {y:World} (hg:x.grownBy y (some gE)) (hE:Lie y gE 45 352 (En.flat F)):Gd.Hold y B gC gE gI cC cE cI s g c F I :=
 { h with box:=h.box.grown hg (by simpa using h.bE.symm),lists:=⟨h.lists.cells.grown hg (by simpa using h.cE.symm),hE,h.lists.items.grown hg (by simpa using h.eI)⟩ }

theorem Gd.Hold.gold {x:World} {B gC gE gI cC cE cI:Nat} {s g c:Nat→Int} {E I:Nat→Nat→Int} (h:Gd.Hold x B gC gE gI cC cE cI s g c E I) (k:Nat) (hk:k<4) (v:Int):Gd.Hold (x.setCell ⟨B,7+k,none⟩ (.int .i64 v)) B gC gE gI cC cE cI s (Gd.give g k v) c E I :=
 { h with box:=h.box.gold k hk v,lists:=⟨h.lists.cells.other h.bC _ _,h.lists.ents.other h.bE _ _,h.lists.items.other h.bI _ _⟩ }

def Gd.list (m:Nat) (F:Nat→Value):List Value:=(List.range m).map F

theorem Gd.list_len (m:Nat) (F:Nat→Value):(Gd.list m F).length=m:=by simp [Gd.list]

theorem Gd.list_at {m:Nat} {F:Nat→Value} {c:Nat} (hc:c<m):(Gd.list m F)[c]?=some (F c):=by
 unfold Gd.list
 rw [List.getElem?_map,List.getElem?_range hc]
 rfl

theorem Gd.list_one {m:Nat} {F:Nat→Value} (h:∀c,(F c).oneCell'=true):∀v∈Gd.list m F,v.oneCell'=true:=by
 intro v hv
 unfold Gd.list at hv
 obtain ⟨c,_,rfl⟩:=List.mem_map.1 hv
 exact h c

theorem Gd.list_src {w:World} {b m:Nat} {F:Nat→Value} (h:∀c,c<m→w.cell? ⟨b,c,none⟩=some (F c)):∀j v,(Gd.list m F)[j]?=some v→w.cell? ((⟨b,0,none⟩:Addr).add j)=some v:=by
 intro j v hj
 have hlt:j<m:=by
  have:=(List.getElem?_eq_some_iff.1 hj).1
  rwa [Gd.list_len] at this
 rw [Gd.list_at hlt] at hj
 rw [show (⟨b,0,none⟩:Addr).add j=⟨b,j,none⟩ by rw [Go.WideShapes.add_plain,Nat.zero_add],h j hlt]
 exact hj

theorem Arr.of_list {w:World} {g m:Nat} {T:TypeId} {F:Nat→Value} (h:w.heap[g]?=some (.cells (Gd.list m F).toArray T (0,0))):Arr w g T m F:=by
 refine ⟨_,h,by simp [Gd.list_len],fun c hc=>?_⟩
 rw [List.getElem?_toArray,Gd.list_at hc]

def Copies (w:World) (T:TypeId) (n m:Nat) (F:Nat→Value) (e:Ending) (w':World):Prop :=
 ∃g,e=.returned (.slice (some ⟨g,0,none⟩) n n)∧w.heap.size≤g∧Arr w' g T m F∧w.grownBy w' none

end Go.Proofs.Ytapgkgbpekkdjaa

namespace Go.Proofs.Ytapgkgbpekkdjaa

def wpTill (P:Program) (md:Region.Mode) (ops:Array Oper) (Q:Exit→Act→World→Prop) (S:World→Prop) (h:Nat):Nat→Array Bool→Act→World→Prop
 | 0,up,a,w=>Region.ready md ops up=[]∧Q .normal a w
 | n+1,up,a,w=>(Region.ready md ops up=[]→Q .normal a w)∧∀i∈Region.ready md ops up,wpOp P ops Q i (fun b x=>((up.setIfInBounds i true).getD h true=false→S x)∧wpTill P md ops Q S h n (up.setIfInBounds i true) b x) a w

theorem wpAny_of_till {P:Program} {ops:Array Oper} {Q:Exit→Act→World→Prop} {md:Region.Mode} {S:World→Prop} {h:Nat}:∀(n:Nat) (up:Array Bool) (a:Act) (w:World),wpTill P md ops Q S h n up a w→wpAny P md ops Q n up a w
 | 0,_,_,_,g=>g
 | n+1,_,_,_,g=>⟨g.1,fun i hi=>wpOp_mono (fun b x k=>wpAny_of_till n _ b x k.2) (g.2 i hi)⟩

def Region.waits (md:Region.Mode) (ops:Array Oper) (up:Array Bool) (i h:Nat) (ch:List Nat):Bool :=
 ch.contains h && ch.all fun c=>!(up.getD c true) && match ops[c]? with
  | some o=>o.after.any fun e=>Region.binds md e && (e.on == i || ch.contains e.on)
  | none=>false

theorem Region.waits_spec {ops:Array Oper} {md:Region.Mode} {up:Array Bool} {i h:Nat} {ch:List Nat} (hw:Region.waits md ops up i h ch=true) :
  h∈ch∧(∀c∈ch,up.getD c true=false)∧∀c∈ch,∀o,ops[c]?=some o→∃e∈o.after,Region.binds md e=true∧(e.on=i∨e.on∈ch):=by
 unfold Region.waits at hw
 simp only [Bool.and_eq_true,List.contains_iff_mem,List.all_eq_true,Bool.not_eq_true'] at hw
 refine ⟨hw.1,fun c hc=>(hw.2 c hc).1,fun c hc o ho=>?_⟩
 have h2:=(hw.2 c hc).2
 rw [ho] at h2
 obtain ⟨e,he,hb⟩:=Array.any_eq_true'.1 h2
 simp only [Bool.and_eq_true,Bool.or_eq_true,beq_iff_eq,List.contains_iff_mem] at hb
 exact ⟨e,he,hb.1,hb.2⟩

theorem wpTill_first {P:Program} {ops:Array Oper} {Q:Exit→Act→World→Prop} {md:Region.Mode} {S:World→Prop} {i h:Nat} {oi:Oper} {v:Value} {ch:List Nat} (hi:ops[i]?=some oi) (hsel:∀(j:Nat) (o:Oper) cs b,ops[j]?=some o→o.op≠.select cs b)
    (hQ:∀c a w,Q (.panic c) (a.put oi.dst v) w→Q (.panic c) a w) (hh:h∈ch)
    (hch:∀c∈ch,∀o,ops[c]?=some o→∃e∈o.after,Region.binds md e=true∧(e.on=i∨e.on∈ch)) :
    ∀(n:Nat) (up:Array Bool) (a:Act) (w:World),
      (∀j oj,ops[j]?=some oj→j≠i→up.getD j true=false→(∀e∈oj.after,Region.binds md e=true→e.on≠i)→oi.apart ops oj=true) →
      i∈Region.ready md ops up→(∀c∈ch,up.getD c true=false)→YieldsIf P ops S oi v a→S w →
      wpTill P md ops Q S h n (up.setIfInBounds i true) (a.put oi.dst v) w→wpTill P md ops Q S h (n+1) up a w:=by
  have key:∀(up:Array Bool) (j:Nat),i∈Region.ready md ops up→(∀c∈ch,up.getD c true=false)→j∈Region.ready md ops up→j ∉ ch:=by
    intro up j hr hc hj hm
    obtain ⟨_,oj,hoj,hall⟩:=mem_ready.1 hj
    obtain ⟨e,he,hb,hon⟩:=hch j hm oj hoj
    have h1:=hall e he hb
    have h0:up.getD e.on true=false:=by
      rcases hon with hon | hon
      · rw [hon];exact (mem_ready.1 hr).1
      · exact hc _ hon
    rcases Nat.lt_or_ge e.on up.size with h' | h'
    · simp [h'] at h0 h1;rw [h0] at h1;cases h1
    · simp [Array.getElem?_eq_none h'] at h1
  intro n
  induction n with
  | zero =>
    intro up a w _ hr hc hy hS H
    refine ⟨fun g=>(by rw [g] at hr;cases hr),fun j hj=>?_⟩
    by_cases hji:j=i
    · subst hji;exact hy.wpOp hi hS ⟨fun _=>hS,H⟩
    · have:=ready_mono hj hji
      rw [H.1] at this
      cases this
  | succ n ih =>
    intro up a w hfree hr hc hy hS H
    refine ⟨fun g=>(by rw [g] at hr;cases hr),fun j hj=>?_⟩
    by_cases hji:j=i
    · subst hji;exact hy.wpOp hi hS ⟨fun _=>hS,H⟩
    · have h1:=H.2 j (ready_mono hj hji)
      have hjc:=key up j hr hc hj
      have hic:=key up i hr hc hr
      obtain ⟨hjun,oj,hoj,hall⟩:=mem_ready.1 hj
      have hnot:∀e∈oj.after,Region.binds md e=true→e.on≠i:=fun e he hb heq=>by
        have h1:=hall e he hb
        have h0:=(mem_ready.1 hr).1
        rw [heq] at h1
        rcases Nat.lt_or_ge i up.size with h' | h'
        · simp [h'] at h0 h1;rw [h0] at h1;cases h1
        · simp [Array.getElem?_eq_none h'] at h1
      have h2:=wpOp_putIf hoj (hfree j oj hoj hji hjun hnot) (fun cs b=>hsel i oi cs b hi) (fun cs b=>hsel j oj cs b hoj) hQ hy h1
      have hc':∀c∈ch,(up.setIfInBounds j true).getD c true=false:=fun c hm=>by
        rw [getD_set_ne true (show j≠c from fun e=>hjc (e ▸ hm))]
        exact hc c hm
      have hfree' : ∀ k ok, ops[k]? = some ok → k ≠ i → (up.setIfInBounds j true).getD k true = false →
          (∀e∈ok.after,Region.binds md e=true→e.on≠i)→oi.apart ops ok=true:=fun k ok hk hki hun hno=>by
        refine hfree k ok hk hki ?_ hno
        by_cases hjk:j=k
        · subst hjk;exact hjun
        · rw [getD_set_ne true hjk] at hun;exact hun
      refine wpOp_mono (fun b x h3=>?_) h2
      have hS':S x:=h3.2.1 (by
        rw [getD_set_ne true (show j≠h from fun e=>hjc (e ▸ hh)),getD_set_ne true (show i≠h from fun e=>hic (e ▸ hh))]
        exact hc h hh)
      refine ⟨fun _=>hS',ih (up.setIfInBounds j true) b x hfree' (ready_mono hr (Ne.symm hji)) hc' h3.1 hS' ?_⟩
      rw [Array.setIfInBounds_comm _ _ hji]
      exact h3.2.2

theorem wtk {P:Program} {ops:Array Oper} {Q:Exit→Act→World→Prop} {md:Region.Mode} {S:World→Prop} {i h:Nat} {oi:Oper} {v:Value} {n:Nat} {up:Array Bool} {a:Act} {w:World} (ch:List Nat) (hi:ops[i]?=some oi)
  (hs:Region.noSelect ops=true) (hf:Region.free md ops up i=true) (hr:(Region.ready md ops up).contains i=true) (hw:Region.waits md ops up i h ch=true)
  (hQ:∀c a w,Q (.panic c) (a.put oi.dst v) w→Q (.panic c) a w) (hS:S w) (hy:YieldsIf P ops S oi v a)
  (H:wpTill P md ops Q S h n (up.setIfInBounds i true) (a.put oi.dst v) w):wpTill P md ops Q S h (n+1) up a w:=by
 obtain ⟨hh,hc,hch⟩:=Region.waits_spec hw
 exact wpTill_first hi (Region.noSelect_spec hs) hQ hh hch n up a w (Region.free_spec hi hf) (by simpa using hr) hc hy hS H

theorem wto {P:Program} {ops:Array Oper} {Q:Exit→Act→World→Prop} {md:Region.Mode} {S:World→Prop} {j h:Nat} {o:Oper} {n:Nat} {up:Array Bool} {a:Act} {w:World} (hr:Region.ready md ops up=[j]) (ho:ops[j]?=some o)
  (H:∀K:Act→World→Prop,Shut (∀b x,((up.setIfInBounds j true).getD h true=false→S x)→wpTill P md ops Q S h n (up.setIfInBounds j true) b x→K b x)→if Region.wanted o (yielded ops a.tmps)=true then Oper.wp P o a w K Q else K (a.put o.dst undef) w) :
  wpTill P md ops Q S h (n+1) up a w:=by
 refine ⟨fun g=>(by rw [hr] at g;cases g),fun i hi=>?_⟩
 rw [hr] at hi
 obtain rfl:i=j:=by simpa using hi
 exact wpOp_step ho (fun K hK=>H K (fun b x h1 h2=>hK b x ⟨h1,h2⟩))

theorem wpTill_done {P:Program} {ops:Array Oper} {Q:Exit→Act→World→Prop} {md:Region.Mode} {S:World→Prop} {h:Nat} {up:Array Bool} {a:Act} {w:World} (hr:Region.ready md ops up=[]) (H:Q .normal a w):∀n,wpTill P md ops Q S h n up a w
 | 0=>⟨hr,H⟩
 | _+1=>⟨fun _=>H,by rw [hr];simp⟩

theorem wp_region_till {P:Program} {ops:Array Oper} {Q:Exit→Act→World→Prop} {S:World→Prop} {h id:Nat} {a:Act} {w:World} (hm:P.follows .mixedOrders=true)
  (H:wpTill P .any ops Q S h ops.size (Array.replicate ops.size false) a w.drew):(Code.region id ops true).wp P Q a w :=
 wp_region_any hm (wpAny_of_till _ _ _ _ H)

end Go.Proofs.Ytapgkgbpekkdjaa
