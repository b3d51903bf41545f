import Derived.Test.YtldgbkjceildfaaGreatBy11
import Derived.Deep.Cut
import Derived.RowKit
import Derived.Deep.CutRange
import Derived.Deep.CutBlock
import Derived.Laws.OwnMore
import Derived.Laws.BytesArg
import Derived.Laws.BytesString
import Derived.Maps.OwnSet
import Derived.Maps.Views
namespace Go.Proofs.YtldgbkjceildfaaGreat
open Go.RowKit

def En.gen (e:Nat→Int) (g:Int):Nat→Int:=fun j=>if j=1 then g else e j

def Spawns (w:World) (n:Nat) (E:Nat→Nat→Int) (k:Nat) (e:Ending) (w':World):Prop :=
 ∃g cap,e=.returned (.tuple #[.slice (some ⟨g,0,none⟩) n cap,.int .i64 (k:Int),.int .i64 0])∧w.heap.size≤g∧n≤cap∧cap≤maxLen∧Own w' g n E∧w.grownBy w' none


open Go.RowKit

structure Turn (B:Nat→Prop) (w w':World):Prop where
 os:w'.os=w.os
 tape:w'.tape=w.tape
 output:w'.output=w.output
 size:w.heap.size≤w'.heap.size
 block:∀k,k<w.heap.size→¬B k→w'.heap[k]?=w.heap[k]?

theorem Turn.refl (B:Nat→Prop) (w:World):Turn B w w:=⟨rfl,rfl,rfl,Nat.le_refl _,fun _ _ _=>rfl⟩

theorem Turn.trans {B C:Nat→Prop} {a b c:World} (h:Turn B a b) (k:Turn C b c) (hC:∀i,i<a.heap.size→C i→B i):Turn B a c :=
 ⟨k.os.trans h.os,k.tape.trans h.tape,k.output.trans h.output,Nat.le_trans h.size k.size,fun i hi hb=>(k.block i (Nat.lt_of_lt_of_le hi h.size) (fun q=>hb (hC i hi q))).trans (h.block i hi hb)⟩

theorem Turn.mono {B C:Nat→Prop} {a b:World} (h:Turn B a b) (hC:∀i,B i→C i):Turn C a b :=
 ⟨h.os,h.tape,h.output,h.size,fun i hi hc=>h.block i hi (fun q=>hc (hC i q))⟩

theorem Turn.grown {B:Nat→Prop} {a b:World} {r:Option Nat} (h:a.grownBy b r) (hr:∀k,r=some k→B k):Turn B a b :=
 ⟨h.os,h.tape,h.output,h.size,fun i hi hb=>h.block i hi (fun e=>hb (hr i e.symm))⟩

theorem Turn.new {B:Nat→Prop} {a b:World} (h:a.grownBy b none):Turn B a b:=Turn.grown h (fun _ e=>by cases e)

theorem Turn.then {B:Nat→Prop} {a b c:World} (h:Turn B a b) (k:b.grownBy c none):Turn B a c:=h.trans (C:=fun _=>False) (Turn.new k) (fun _ _ q=>q.elim)

theorem Turn.grownBy {a b:World} (h:Turn (fun _=>False) a b):a.grownBy b none:=⟨h.os,h.tape,h.output,h.size,fun k hk _=>h.block k hk (fun q=>q)⟩

theorem Turn.cell {B:Nat→Prop} {a b:World} (h:Turn B a b) {k:Nat} (hk:k<a.heap.size) (hb:¬B k) (i:Nat):b.cell? ⟨k,i,none⟩=a.cell? ⟨k,i,none⟩ :=
 World.cell?_of_block (a:=⟨k,i,none⟩) (h.block k hk hb)

theorem Arr.turn {B:Nat→Prop} {a b:World} {g:Nat} {T:TypeId} {n:Nat} {F:Nat→Value} (h:Arr a g T n F) (ht:Turn B a b) (hb:¬B g):Arr b g T n F:=by
 have hlt:=h.lt;obtain ⟨cur,hg,hs,hc⟩:=h;exact ⟨cur,(ht.block g hlt hb).trans hg,hs,hc⟩

theorem Turn.store {B:Nat→Prop} {a b:World} (h:Turn B a b) (g i:Nat) (v:Value) (hg:B g):Turn B a (b.setCell ⟨g,i,none⟩ v):=by
 have hb:b.grownBy (b.setCell ⟨g,i,none⟩ v) (some g):=⟨rfl,rfl,rfl,by simp,fun k _ hk=>heap_setCell_other b ⟨g,i,none⟩ k v (fun e=>hk (by rw [e]))⟩;exact h.trans (Turn.grown (B:=fun k=>k=g) hb (fun k e=>by cases e;rfl)) (fun k _ e=>by cases e;exact hg)

theorem Turn.drew {B:Nat→Prop} {a b:World} (h:Turn B a b) (n:Nat):Turn B a (b.drewN n):=h.then (gdw (World.grownBy.refl _ none) n)


open Go.RowKit

theorem owns_turned {B:Nat→Prop} {x y:World} {base:Nat} {T:TypeId} {z:Nat} {v:Value} {n:Nat} {xs:List Value} (h:x.ownsRow base T z v n xs) (ht:Turn B x y) (hb:∀k,v.ownBlock=some k→¬B k):y.ownsRow base T z v n xs:=by
 obtain ⟨h1,h2⟩:=h;refine ⟨h1,?_⟩;rcases h2 with h2|⟨g,cap,cur,rfl,hg,hc,hr⟩
 ·exact .inl h2
 ·refine .inr ⟨g,cap,cur,rfl,hg,?_,hr⟩;exact (ht.block g (Array.getElem?_eq_some_iff.1 hc).1 (hb g rfl)).trans hc

def Ck.bys (l:List Int):List Value:=l.map (Value.int .u8)

theorem info_by:(Tryz.prog.info? 5).map (fun i=>(i.zero,i.size,i.bytes))=some (some (.int .u8 0),1,1):=by kernel_rfl


open Go.RowKit

def Ck.Src (x:World) (v:Value) (l:List Int):Prop :=
 (v=.slice none 0 0∧l=[])∨∃ad cap,v=.slice (some ad) l.length cap∧∀j u,(Ck.bys l)[j]?=some u→x.cell? (ad.add j)=some u

theorem Ck.Src.on {x y:World} {v:Value} {l:List Int} (h:Ck.Src x v l) (hc:∀a u,x.cell? a=some u→y.cell? a=some u):Ck.Src y v l:=by
 rcases h with h|⟨ad,cap,h1,h2⟩
 ·exact .inl h
 ·exact .inr ⟨ad,cap,h1,fun j u q=>hc _ _ (h2 j u q)⟩


open Go.RowKit

def Ck.pc (l:List Int) (j:Nat):List Int:=(l.drop (64*j)).take 64
def Ck.pcs (l:List Int) (k:Nat):List (List Int):=(List.range k).map (Ck.pc l)


open Go.RowKit

theorem Ck.Src.text {w:World} {v:Value} {l:List Int} (hs:Ck.Src w v l):(convert 24 9 v).run Tryz.prog w=.ok (.string (strOfNums l)) w:=by
 rcases hs with ⟨rfl,rfl⟩|⟨ad,cap,rfl,h2⟩
 ·rw [run_convert_bytes_nil w 24 5 Tryz.underlying24 Tryz.underlying5 0 0 9 Tryz.underlying9];rfl
 ·by_cases h0:l=[]
  ·subst h0;rw [run_convert_bytes_string w 24 9 5 (some ad) _ cap Tryz.underlying24 Tryz.underlying5 Tryz.underlying9];simp [Conv.bytesToString,loadCells,loadCellsFrom];rfl
  ·have hp:0<l.length:=List.length_pos_iff.2 h0;have hat:∀j,j<l.length→w.cell? (ad.add j)=some (.int .u8 (l.getD j 0)):=fun j hj=>h2 j _ (by
    unfold Ck.bys;rw [List.getElem?_map,List.getElem?_eq_getElem hj,List.getD,List.getElem?_eq_getElem hj];rfl)
   obtain ⟨b,off,spot⟩:=ad;have hspot:spot=none:=by simpa [Addr.add] using World.cell?_spot (hat 0 hp)
   subst hspot;exact run_convert_bytes_arg w 24 5 Tryz.underlying24 Tryz.underlying5 b off l.length cap l rfl (fun j hj=>by have:=hat j hj;rwa [Go.WideShapes.add_plain] at this) 9 Tryz.underlying9

theorem Ck.Src.grown {x y:World} {v:Value} {l:List Int} (h:Ck.Src x v l) (hg:x.grownBy y none):Ck.Src y v l :=
 h.on fun ad u q=>(World.cell?_of_block (hg.block _ (Go.block_lt_of_cell q) (by simp))).trans q

end Go.Proofs.YtldgbkjceildfaaGreat

namespace Go.Proofs.YtldgbkjceildfaaGreat
open Go.RowKit Go.Maps

def Dk.R (v:Value):Option (DataW Value × List MemPlace):=some (.held v,[])

def Dk.arr (l:List Int):Value:=.agg (Ck.bys l).toArray

def Dk.noughts:List Int:=List.replicate 64 0

theorem Dk.keyed:Keyed Tryz.prog 3:=int_keyed Tryz.underlying3

theorem Dk.zeroE (w:World):(zeroValue 107).run Tryz.prog w=.ok (Dk.arr Dk.noughts) w:=by kernel_rfl

theorem Dk.sizeE:(Tryz.prog.info? 107).map (·.size)=some 64:=by kernel_rfl

structure Dk.Own (x:World) (base p b cnt:Nat) (f:Int→List Int) (done:Nat) (left:Int) (dead:Bool):Prop where
 box:Arr x p 78 5 (fun j=>if j=0 then .int .i64 cnt else if j=1 then .map (some b) else if j=2 then .int .i64 done else if j=3 then .int .i64 left else .bool dead)
 map:∃D:DataW Value,x.ownsMap Tryz.prog 3 Dk.R b done D∧∀n:Int,D.atKey (.int .i64 n) (.held (Dk.arr Dk.noughts))=.held (Dk.arr (f n))
 sect:∀n,(f n).length=64
 some_:1≤cnt
 most:cnt≤1024
 low:base≤p
 lowb:base≤b

theorem Dk.Own.cells {x:World} {base p b cnt:Nat} {f:Int→List Int} {done:Nat} {left:Int} {dead:Bool} (H:Dk.Own x base p b cnt f done left dead):x.cell? ⟨p,0,none⟩=some (.int .i64 cnt)∧x.cell? ⟨p,1,none⟩=some (.map (some b))∧x.cell? ⟨p,2,none⟩=some (.int .i64 done)∧x.cell? ⟨p,3,none⟩=some (.int .i64 left)∧x.cell? ⟨p,4,none⟩=some (.bool dead)∧∀i,x.frozen? ⟨p,i,none⟩=false :=
 ⟨H.box.cell (i:=0) (by omega),H.box.cell (i:=1) (by omega),H.box.cell (i:=2) (by omega),H.box.cell (i:=3) (by omega),H.box.cell (i:=4) (by omega),fun i=>H.box.free i⟩

theorem Dk.Own.apart {x:World} {base p b cnt:Nat} {f:Int→List Int} {done:Nat} {left:Int} {dead:Bool} (H:Dk.Own x base p b cnt f done left dead):b≠p:=by
 intro e;subst e;obtain ⟨D,⟨es,cl,hb,_⟩,_⟩:=H.map;obtain ⟨cur,hc,_⟩:=H.box;rw [hb] at hc;cases hc

theorem Dk.Own.ltb {x:World} {base p b cnt:Nat} {f:Int→List Int} {done:Nat} {left:Int} {dead:Bool} (H:Dk.Own x base p b cnt f done left dead):b<x.heap.size:=by
 obtain ⟨D,h,_⟩:=H.map;exact h.lt

theorem Dk.Own.set {x:World} {base p b cnt:Nat} {f:Int→List Int} {done:Nat} {left:Int} {dead:Bool} (H:Dk.Own x base p b cnt f done left dead) (i:Nat) (u:Value) {left':Int} {dead':Bool} (hu:∀j,j<5→(if j=i then u else if j=0 then .int .i64 cnt else if j=1 then .map (some b) else if j=2 then .int .i64 done else if j=3 then .int .i64 left else .bool dead)=if j=0 then .int .i64 cnt else if j=1 then .map (some b) else if j=2 then .int .i64 done else if j=3 then .int .i64 left' else .bool dead'):Dk.Own (x.setCell ⟨p,i,none⟩ u) base p b cnt f done left' dead':=by
 obtain ⟨D,hD,hf⟩:=H.map;exact { H with box:=(H.box.store i u).congr hu,map:=⟨D,hD.setCell H.apart u,hf⟩ }

theorem Dk.Own.turn {x y:World} {B:Nat→Prop} {base p b cnt:Nat} {f:Int→List Int} {done:Nat} {left:Int} {dead:Bool} (H:Dk.Own x base p b cnt f done left dead) (ht:Turn B x y) (hp:¬B p) (hb:¬B b):Dk.Own y base p b cnt f done left dead:=by
 obtain ⟨D,⟨es,cl,h1,h2⟩,hf⟩:=H.map;exact { H with box:=H.box.turn ht hp,map:=⟨D,⟨es,cl,(ht.block b H.ltb hb).trans h1,h2⟩,hf⟩ }

theorem Dk.Own.on {x y:World} {base p b cnt:Nat} {f:Int→List Int} {done:Nat} {left:Int} {dead:Bool} (H:Dk.Own x base p b cnt f done left dead) (hg:x.grownBy y none):Dk.Own y base p b cnt f done left dead :=
 H.turn (B:=fun _=>False) (Turn.new hg) (fun q=>q) (fun q=>q)

theorem dkSectors_any (base p b cnt:Nat) (f:Int→List Int) (done:Nat) (left:Int) (dead:Bool) (w:World) (H:Dk.Own w base p b cnt f done left dead) :
  Calls Tryz.prog 30 #[.pointer (some ⟨p,0,none⟩)] w fun e w'=>e=.returned (.int .i64 cnt)∧w'=w:=by
 obtain ⟨c0,c1,c2,c3,c4,f0⟩:=H.cells;clear H;go_enter Tryz.func30,Tryz.ntmps30;go_wp2;go_ret;exact ⟨rfl,rfl⟩

def Dk.has (cnt:Nat) (n:Int):Bool:=decide (0≤n∧n<(cnt:Int))

theorem dkHas_any (p cnt:Nat) (n:Int) (w:World) (c0:w.cell? ⟨p,0,none⟩=some (.int .i64 cnt)) :
  Calls Tryz.prog 58 #[.pointer (some ⟨p,0,none⟩),.int .i64 n] w fun e w'=>e=.returned (.bool (Dk.has cnt n))∧w'=w:=by
 by_cases h1:n<0
 ·have hd:Hid (Dk.has cnt n=false):=by unfold Hid Dk.has;simp;omega
  go_enter Tryz.func58,Tryz.ntmps58;go_wp2;go_ret;exact ⟨by rw [uh hd];rfl,rfl⟩
 ·by_cases h2:n<(cnt:Int)
  ·have hd:Hid (Dk.has cnt n=true):=by unfold Hid Dk.has;simp;omega
   go_enter Tryz.func58,Tryz.ntmps58;go_wp2;go_ret;exact ⟨by rw [uh hd];rfl,rfl⟩
  ·have hd:Hid (Dk.has cnt n=false):=by unfold Hid Dk.has;simp;omega
   go_enter Tryz.func58,Tryz.ntmps58;go_wp2;go_ret;exact ⟨by rw [uh hd];rfl,rfl⟩

def Dk.NewsOwn (w:World) (n:Nat) (e:Ending) (w':World):Prop :=
 ∃p b,e=.returned (.tuple #[.pointer (some ⟨p,0,none⟩),.int .i64 0])∧Dk.Own w' w.heap.size p b n (fun _=>Dk.noughts) 0 (-1) false∧w.grownBy w' none

theorem dkNew_any (n:Nat) (w:World) (h1:1≤n) (h2:n≤1024) :
  Calls Tryz.prog 16 #[.int .i64 (n:Int)] w (Dk.NewsOwn w n):=by
 have hfin:Hid (Dk.NewsOwn w n (.returned (.tuple #[.pointer (some ⟨w.heap.size+1,0,none⟩),.int .i64 0])) ((w.alloc (.map #[] 0)).alloc (.cells #[.int .i64 (n:Int),.map (some w.heap.size),.int .i64 0,.int .i64 (-1),.bool false] 78))):=by
  have hs:(w.alloc (.map #[] 0)).heap.size=w.heap.size+1:=by simp
  refine ⟨w.heap.size+1,w.heap.size,rfl,⟨?_,⟨.map [],(World.ownsMap_made w Tryz.prog 3 Dk.R).alloc _,fun k=>rfl⟩,fun k=>by unfold Dk.noughts;simp,h1,h2,by omega,Nat.le_refl _⟩,gtr (World.grownBy_alloc _ _ _) (World.grownBy_alloc _ _ _)⟩;rw [←hs];refine (Arr.lit (heap_alloc_new (w.alloc (.map #[] 0)) _)).congr fun j hj=>?_;have hj5:j<5:=hj;rcases (show j=0∨j=1∨j=2∨j=3∨j=4 by omega) with rfl|rfl|rfl|rfl|rfl <;> rfl
 obtain ⟨D,hD⟩:∃D,Dk.NewsOwn w n=D:=⟨_,rfl⟩;rw [hD] at hfin ⊢;have n1:¬(n:Int)<1:=by omega
 have n2:¬(1024:Int)<(n:Int):=by omega
 have hmm:=@run_makeMap Tryz.prog;clear hD h1 h2;go_enter Tryz.func16,Tryz.ntmps16;go_wp2;first | exact uh hfin | (go_ret2;exact uh hfin)

theorem dkRead_dead (base p b cnt:Nat) (f:Int→List Int) (done:Nat) (left:Int) (n:Int) (w:World) (H:Dk.Own w base p b cnt f done left true) :
  Calls Tryz.prog 31 #[.pointer (some ⟨p,0,none⟩),.int .i64 n] w fun e w'=>e=.returned (.tuple #[.slice none 0 0,.int .i64 11])∧w'=w:=by
 obtain ⟨c0,c1,c2,c3,c4,f0⟩:=H.cells;clear H;go_enter Tryz.func31,Tryz.ntmps31;go_wp2;go_ret2;exact ⟨rfl,rfl⟩

def Dk.Tells (w:World) (l:List Int) (e:Ending) (w':World):Prop :=
 ∃q,e=.returned (.tuple #[.slice (some ⟨q,0,none⟩) 64 64,.int .i64 0])∧Ck.Src w' (.slice (some ⟨q,0,none⟩) 64 64) l∧w.heap.size≤q∧w.grownBy w' none

theorem Dk.src_row {x:World} {q c:Nat} {T:TypeId} {l:List Int} (h:x.heap[q]?=some (.cells (Ck.bys l).toArray T (0,0))) (h64:l.length=64):Ck.Src x (.slice (some ⟨q,0,none⟩) 64 c) l:=by
 refine .inr ⟨_,c,by rw [h64],fun j u hj=>?_⟩;rw [Go.WideShapes.add_plain,Nat.zero_add,cell_of_row x q j _ T (0,0) h];simpa using hj

theorem Dk.all_one (l:List Int):(Ck.bys l).toArray.all (·.oneCell')=true:=by
 rw [Array.all_eq_true_iff_forall_mem];intro v hv;simp only [List.mem_toArray] at hv;obtain ⟨q,-,rfl⟩:=List.mem_map.1 hv;rfl

theorem Dk.bys_len (l:List Int):(Ck.bys l).length=l.length:=by unfold Ck.bys;simp

theorem Dk.wf {cnt:Nat} {n:Int} (h:Dk.has cnt n=true) (hm:cnt≤1024):(Lit.int .i64 n).wf=true:=by
 unfold Dk.has at h;simp only [decide_eq_true_eq] at h;exact WalkArith.wf_i64 (by omega)

set_option maxRecDepth 8000 in
set_option maxHeartbeats 1600000 in
theorem dkRead_ok (base p b cnt:Nat) (f:Int→List Int) (done:Nat) (left:Int) (n:Int) (w:World) (H:Dk.Own w base p b cnt f done left false) (h:Dk.has cnt n=true) :
  Calls Tryz.prog 31 #[.pointer (some ⟨p,0,none⟩),.int .i64 n] w (Dk.Tells w (f n)):=by
 obtain ⟨c0,c1,c2,c3,c4,f0⟩:=H.cells;have hc:=dkHas_any p cnt n w c0;rw [h] at hc;obtain ⟨D,hD,hf⟩:=H.map;obtain ⟨v,ps,hlk,hv⟩:=hD.lookup Dk.keyed Tryz.underlying76 (Dk.zeroE w) (R:=Dk.R) (zd:=.held (Dk.arr Dk.noughts)) (zp:=[]) rfl (keyOf_int_mk Tryz.underlying3 (Dk.wf h H.most));rw [hf n] at hv;obtain rfl:v=Dk.arr (f n):=by
  unfold Dk.R at hv;simp only [Option.some.injEq,Prod.mk.injEq,DataW.held.injEq] at hv;exact hv.1
 have h64:=H.sect n;obtain ⟨l,hl⟩:∃l,f n=l:=⟨_,rfl⟩;rw [hl] at hlk h64 ⊢;obtain ⟨Z,hZ,hz64⟩:∃Z:Array Value,(∀w,(zeroValue 107).run Tryz.prog w=.ok (.agg Z) w)∧Z.size=64:=⟨_,fun w=>Dk.zeroE w,by unfold Dk.noughts Ck.bys;simp⟩;obtain ⟨Y,hY⟩:∃Y,(Ck.bys l).toArray=Y:=⟨_,rfl⟩;have hlk2:(Instr.lookup 76 (.map (some b)) (.int .i64 n) false).run Tryz.prog w=.ok (.agg Y) w:=by rw [←hY];exact hlk
 have hYs:Y.size=64:=by rw [←hY];simp [Dk.bys_len,h64]
 have hst:=run_storeCells_from (P:=Tryz.prog) w.heap.size 107 Y.toList 0 Z (w.alloc (.cells Z 107)) (heap_alloc_new w _) (by simp [hz64,hYs]) (fun v hv=>Array.all_eq_true_iff_forall_mem.1 (show Y.all (·.oneCell')=true by rw [←hY];exact Dk.all_one l) v (by simpa using hv));have e0:(Z.toList.take 0 ++ Y.toList).toArray=Y:=by simp
 rw [e0] at hst;clear e0;obtain ⟨W,hW⟩:∃W,(w.alloc (.cells Z 107)).setRow w.heap.size Y=W:=⟨_,rfl⟩;have hfin:Hid (Dk.Tells w l (.returned (.tuple #[.slice (some ⟨w.heap.size,0,none⟩) 64 64,.int .i64 0])) W):=by
  refine ⟨w.heap.size,rfl,?_,Nat.le_refl _,?_⟩
  ·rw [←hW];refine Dk.src_row (T:=107) ?_ h64;rw [hY];exact setRow_heap _ _ Z Y _ _ (heap_alloc_new w _)
  ·rw [←hW];have g1:=World.grownBy_alloc w (.cells Z 107) none;exact ⟨g1.os,g1.tape,g1.output,by simp [World.setRow],fun k hk _=>(setRow_other _ _ k _ (by omega)).trans (g1.block k hk (by simp))⟩
 rw [hW] at hst;obtain ⟨P,hP⟩:∃P,Dk.Tells w l=P:=⟨_,rfl⟩;rw [hP] at hfin ⊢;clear H h hlk hD hf hv hl h64 hz64 hY hW hP;go_enter Tryz.func31,Tryz.ntmps31;go_wp2_with fail;refine hc.mono ?_;rintro e wq ⟨rfl,hq⟩;obtain rfl:w=wq:=hq.symm;go_wp2;exact uh hfin

theorem dkWrite_dead (base p b cnt:Nat) (f:Int→List Int) (done:Nat) (left:Int) (n:Int) (v:Value) (w:World) (H:Dk.Own w base p b cnt f done left true) :
  Calls Tryz.prog 60 #[.pointer (some ⟨p,0,none⟩),.int .i64 n,v] w fun e w'=>e=.returned (.int .i64 11)∧w'=w:=by
 obtain ⟨c0,c1,c2,c3,c4,f0⟩:=H.cells;clear H;go_enter Tryz.func60,Tryz.ntmps60;go_wp2;go_ret;exact ⟨rfl,rfl⟩

theorem dkWrite_arg (base p b cnt:Nat) (f:Int→List Int) (done:Nat) (left:Int) (n:Int) (a:Option Addr) (len cap:Nat) (w:World) (H:Dk.Own w base p b cnt f done left false) (h:Dk.has cnt n=false∨len≠64) :
  Calls Tryz.prog 60 #[.pointer (some ⟨p,0,none⟩),.int .i64 n,.slice a len cap] w fun e w'=>e=.returned (.int .i64 1)∧w'=w:=by
 obtain ⟨c0,c1,c2,c3,c4,f0⟩:=H.cells;have hc:=dkHas_any p cnt n w c0;clear H;cases hb:Dk.has cnt n with
 | false =>
  rw [hb] at hc;clear h hb;go_enter Tryz.func60,Tryz.ntmps60;go_wp2_with fail;refine hc.mono ?_;rintro e wq ⟨rfl,hq⟩;obtain rfl:w=wq:=hq.symm;go_wp2;go_ret;exact ⟨rfl,rfl⟩
 | true =>
  rw [hb] at hc;have h4:((len:Int) != 64)=true:=by
   rcases h with h|h
   ·rw [hb] at h;cases h
   ·simp;omega
  clear h hb;go_enter Tryz.func60,Tryz.ntmps60;go_wp2_with fail;refine hc.mono ?_;rintro e wq ⟨rfl,hq⟩;obtain rfl:w=wq:=hq.symm;go_wp2;go_ret;exact ⟨rfl,rfl⟩

theorem dkWrite_cut (base p b cnt:Nat) (f:Int→List Int) (done:Nat) (n:Int) (a:Option Addr) (cap:Nat) (w:World) (H:Dk.Own w base p b cnt f done 0 false) (h:Dk.has cnt n=true) :
  Calls Tryz.prog 60 #[.pointer (some ⟨p,0,none⟩),.int .i64 n,.slice a 64 cap] w fun e w'=>e=.returned (.int .i64 11)∧Dk.Own w' base p b cnt f done 0 true∧Turn (fun k=>k=p) w w':=by
 have hfin:=hide (And.intro (H.set 4 (.bool true) (left':=0) (dead':=true) (fun j hj=>by rcases (show j=0∨j=1∨j=2∨j=3∨j=4 by omega) with rfl | rfl | rfl | rfl | rfl <;> rfl)) ((Turn.refl (fun k=>k=p) w).store p 4 (.bool true) rfl));obtain ⟨c0,c1,c2,c3,c4,f0⟩:=H.cells;have hc:=dkHas_any p cnt n w c0;rw [h] at hc;clear H h;go_enter Tryz.func60,Tryz.ntmps60;go_wp2_with fail;refine hc.mono ?_;rintro e wq ⟨rfl,hq⟩;obtain rfl:w=wq:=hq.symm;go_wp2;go_ret;exact ⟨rfl,uh hfin⟩

end Go.Proofs.YtldgbkjceildfaaGreat
