import Derived.Test.YtldgbkjceildfaaGreatBy38
namespace Go.Proofs.YtldgbkjceildfaaGreat
open Go.RowKit Go.Shelf

attribute [local go_sem] Oper.semAt_some

def Sv.Kp (p bm A n:Nat) (W W':World):Prop:=Turn (fun k=>((k=p∨k=bm)∨k=A)∨n≤k) W W'∧n≤W.heap.size

theorem Sv.kp_t {p bm z n:Nat} {A B C:World} (h:Sv.Kp p bm z n A B) (k:Sv.Kp p bm z n B C):Sv.Kp p bm z n A C:=⟨Turn.trans h.1 k.1 (fun _ _ q=>q),h.2⟩

theorem Sv.kp_b {p bm z:Nat} {w:World} (W:World) (l:Nat) (o o':Obj) (hl:w.heap.size≤l) (h:W.heap[l]?=some o) (_:o.isCells=false) (_:o.isWalk=false):Sv.Kp p bm z w.heap.size W (W.putObj l o') :=
 ⟨Turn.grown (grownBy_putObj' W l o') (fun k e=>by cases e;exact .inr hl),by have:=(Array.getElem?_eq_some_iff.1 h).1;omega⟩

theorem Sv.kp_keeps {p bm z n Bs Bn:Nat} (h1:Bs<n) (h2:Bn<n) (n1:Bs≠p) (n2:Bs≠bm) (n3:Bn≠p) (n4:Bn≠bm) (n5:Bs≠z) (n6:Bn≠z):Sv.Keeps Bs Bn (Sv.Kp p bm z n):=fun W W' ⟨h,hs⟩ =>
 ⟨Turn.cell h (by omega) (by rintro (((q | q) | q) | q) <;> omega) 0,Turn.cell h (by omega) (by rintro (((q | q) | q) | q) <;> omega) 0⟩

structure Sv.Way (w W:World) (A n base p bm cnt:Nat) (s:Dk.St) (a:Nat) (r:Int) (b off:Nat) (l:List Int):Prop where
 mine:Dk.Mine W base p bm cnt s
 d:Arr W A 50 1 (fun _=>.pointer (some ⟨p,0,none⟩))
 at_:Arr W (A+1) 3 1 (fun _=>.int .i64 (a:Int))
 res:Arr W (A+2) 37 1 (fun _=>.int .i64 r)
 src:∀j,j<l.length→W.cell? ⟨b,off+j,none⟩=some (.int .u8 (l.getD j 0))
 turn:Turn (fun k=>k=p∨k=bm) w W
 size:A=w.heap.size
 big:n≤W.heap.size
 room:A+3≤n
 lp:p<A
 lm:bm<A
 lb:b<A
 bp:b≠p
 bbm:b≠bm

section
variable {w W W':World} {A n base p bm cnt a b off:Nat} {s:Dk.St} {r:Int} {l:List Int}

theorem Sv.Way.past (h:Sv.Way w W A n base p bm cnt s a r b off l) (ht:Turn (fun k=>n≤k) W W'):Sv.Way w W' A n base p bm cnt s a r b off l:=by
 have h1:=h.room;have h2:=h.lp;have h3:=h.lm;have h4:=h.lb;have h5:=h.size;exact { h with mine:=h.mine.turn ht (by omega) (by omega),d:=h.d.turn ht (by omega),at_:=h.at_.turn ht (by omega),res:=h.res.turn ht (by omega),src:=fun j hj=>(ht.cell (by have:=h.big;omega) (by omega) _).trans (h.src j hj),turn:=h.turn.trans (C:=fun k=>n≤k) ht (fun i hi q=>absurd q (by omega)),big:=Nat.le_trans h.big ht.size }

theorem Sv.Way.on (h:Sv.Way w W A n base p bm cnt s a r b off l) (hg:W.grownBy W' none):Sv.Way w W' A n base p bm cnt s a r b off l:=h.past (Turn.new hg)

theorem Sv.Way.own (h:Sv.Way w W A n base p bm cnt s a r b off l) {row:Option Nat} (hg:W.grownBy W' row) (hr:∀k,row=some k→n≤k∧∃o:Obj,W.heap[k]?=some o∧o.isCells=false):Sv.Way w W' A n base p bm cnt s a r b off l :=
 h.past (Turn.grown hg (fun k e=>(hr k e).1))

theorem Sv.Way.wrote {s':Dk.St} (h:Sv.Way w W A n base p bm cnt s a r b off l) (hm:Dk.Mine W' base p bm cnt s') (ht:Turn (fun k=>k=p∨k=bm) W W'):Sv.Way w W' A n base p bm cnt s' a r b off l:=by
 have h1:=h.room;have h2:=h.lp;have h3:=h.lm;have h4:=h.lb;have h5:=h.bp;have h6:=h.bbm;exact { h with mine:=hm,d:=h.d.turn ht (by omega),at_:=h.at_.turn ht (by omega),res:=h.res.turn ht (by omega),src:=fun j hj=>(ht.cell (by have:=h.big;omega) (by omega) _).trans (h.src j hj),turn:=h.turn.trans ht (fun i hi q=>q),big:=Nat.le_trans h.big ht.size }

theorem Sv.Way.next (h:Sv.Way w W A n base p bm cnt s a r b off l):Sv.Way w (W.setCell ⟨A+1,0,none⟩ (.int .i64 ((a+1:Nat):Int))) A n base p bm cnt s (a+1) r b off l:=by
 have h1:=h.room;have h2:=h.lp;have h3:=h.lm;have h4:=h.lb;have h5:=h.size;have ht:Turn (fun k=>k=A+1) W (W.setCell ⟨A+1,0,none⟩ (.int .i64 ((a+1:Nat):Int))):=(Turn.refl _ W).store _ 0 _ rfl;exact { h with mine:=h.mine.turn ht (by omega) (by omega),d:=h.d.turn ht (by omega),at_:=(h.at_.store 0 _).congr (fun j hj=>by rw [if_pos (by omega)]),res:=h.res.turn ht (by omega),src:=fun j hj=>(ht.cell (by have:=h.big;omega) (by omega) _).trans (h.src j hj),turn:=h.turn.trans ht (fun i hi q=>by omega),big:=Nat.le_trans h.big ht.size }

theorem Sv.Way.fail (h:Sv.Way w W A n base p bm cnt s a r b off l) (r':Int):Sv.Way w (W.setCell ⟨A+2,0,none⟩ (.int .i64 r')) A n base p bm cnt s a r' b off l:=by
 have h1:=h.room;have h2:=h.lp;have h3:=h.lm;have h4:=h.lb;have h5:=h.size;have ht:Turn (fun k=>k=A+2) W (W.setCell ⟨A+2,0,none⟩ (.int .i64 r')):=(Turn.refl _ W).store _ 0 _ rfl;exact { h with mine:=h.mine.turn ht (by omega) (by omega),d:=h.d.turn ht (by omega),at_:=h.at_.turn ht (by omega),res:=(h.res.store 0 _).congr (fun j hj=>by rw [if_pos (by omega)]),src:=fun j hj=>(ht.cell (by have:=h.big;omega) (by omega) _).trans (h.src j hj),turn:=h.turn.trans ht (fun i hi q=>by omega),big:=Nat.le_trans h.big ht.size }

end

theorem Sv.keeps {n:Nat} {B:Nat→Prop} {W W':World} (h:Turn B W W') (hB:∀k,B k→k<n):KeepsFrom n W W' :=
 ⟨h.size,fun k o hk ho _=>(h.block k (Array.getElem?_eq_some_iff.1 ho).1 (fun q=>by have:=hB k q;omega)).trans ho⟩

end Go.Proofs.YtldgbkjceildfaaGreat

namespace Go.Proofs.YtldgbkjceildfaaGreat
open Go.RowKit Go.Shelf

attribute [local go_sem] Oper.semAt_some

theorem Sv.padded {x x':World} {Z:Array Value} {g m:Nat} {l:List Int} (hg:x.heap[g]?=some (.cells Z 106 (0,0))) (hZ:Z=(Ck.bys Dk.noughts).toArray) (hl:l.length=m) (hm:m≤64) (hx:x'=x.setRow g (Z.toList.take 0 ++ Ck.bys l ++ Z.toList.drop (0+(Ck.bys l).length)).toArray) :
  Ck.Src x' (.slice (some ⟨g,0,none⟩) 64 64) (Sv.pad l):=by
 have h64:(Sv.pad l).length=64:=Sv.pad_len (by omega);refine Dk.src_row (T:=106) ?_ h64;rw [hx];have e:(Z.toList.take 0 ++ Ck.bys l ++ Z.toList.drop (0+(Ck.bys l).length)).toArray=(Ck.bys (Sv.pad l)).toArray:=by
  have e0:Ck.bys Dk.noughts=List.replicate 64 (Value.int .u8 0):=by
   unfold Ck.bys Dk.noughts;exact List.map_replicate
  have e1:Ck.bys (Sv.pad l)=Ck.bys l ++ List.replicate (64 - l.length) (Value.int .u8 0):=by
   unfold Ck.bys Sv.pad;rw [List.map_append,List.map_replicate]
  rw [hZ,Dk.bys_len,e0,e1,List.take_zero,List.nil_append,Nat.zero_add,List.drop_replicate]
 rw [e];exact setRow_heap _ _ Z _ _ _ hg

theorem Sv.put_done (cnt:Nat):∀(ps:List (List Int)) (s:Dk.St) (a:Int),s.done≤(Sv.put cnt s a ps).2.done∧(Sv.put cnt s a ps).2.done≤s.done+ps.length
 | [],s,a=>⟨Nat.le_refl _,Nat.le_refl _⟩
 | p :: ps,s,a=>by
  unfold Sv.put;have h:=Dk.wr_done cnt s a p;have hl:(p :: ps).length=ps.length+1:=rfl;split
  ·have k:=Sv.put_done cnt ps (Dk.wr cnt s a p).2 (a+1);omega
  ·omega

theorem Sv.put_left (cnt:Nat):∀(ps:List (List Int)) (s:Dk.St) (a:Int),s.left≤9223372036854775807→(Sv.put cnt s a ps).2.left≤9223372036854775807
 | [],s,a,h=>h
 | p :: ps,s,a,h=>by
  unfold Sv.put;have k:=Dk.wr_left cnt s a p h;split
  ·exact Sv.put_left cnt ps _ _ k
  ·exact k

theorem Sv.zero64 (w:World):(zeroValue 106).run Tryz.prog w=.ok (Dk.arr Dk.noughts) w:=by kernel_rfl

theorem Sv.copied (W:World) {b off m:Nat} {l:List Int} {Z:Array Value} (hZ:Z=(Ck.bys Dk.noughts).toArray) (hl:l.length=m) (hm:m≤64) (hsrc:∀j,j<m→W.cell? ⟨b,off+j,none⟩=some (.int .u8 (l.getD j 0))) (hb:b<W.heap.size) :
  ∃W2,(Builtin.copy_ #[24,24] 3 #[.slice (some ⟨W.heap.size,0,none⟩) 64 64,.slice (some ⟨b,off,none⟩) m m]).run Tryz.prog (W.alloc (.cells Z 106))=.ok (goInt m) W2∧W.grownBy W2 none∧Ck.Src W2 (.slice (some ⟨W.heap.size,0,none⟩) 64 64) (Sv.pad l):=by
 have hg:=heap_alloc_new W (.cells Z 106);have hZs:Z.size=64:=by rw [hZ];unfold Dk.noughts Ck.bys;simp
 have hr:=run_copy_row (P:=Tryz.prog) (W.alloc (.cells Z 106)) 24 24 3 5 W.heap.size 0 64 64 ⟨b,off,none⟩ m m Z 106 (Ck.bys l) Tryz.underlying24 (by kernel_rfl) hg (by rw [Dk.bys_len,hl];show m=min m 64;omega) (fun j v hj=>by
  have hjm:j<m:=by
   have h:=(List.getElem?_eq_some_iff.1 hj).1;rw [Dk.bys_len] at h;omega
  have e:v=.int .u8 (l.getD j 0):=by
   unfold Ck.bys at hj;rw [List.getElem?_map,List.getElem?_eq_getElem (by omega)] at hj;simp at hj;rw [←hj,List.getD,List.getElem?_eq_getElem (by omega)];rfl
  rw [e,Go.WideShapes.add_plain];exact (gce (World.grownBy_alloc W _ none) b _ hb (by simp)).trans (hsrc j hjm)) (by rw [Dk.bys_len,hZs];omega) (fun v hv=>by obtain ⟨q,-,rfl⟩:=List.mem_map.1 hv;rfl)
 rw [Dk.bys_len,hl] at hr;refine ⟨_,hr,?_,?_⟩
 ·have g1:=World.grownBy_alloc W (.cells Z 106) none;exact ⟨g1.os,g1.tape,g1.output,by simp [World.setRow],fun k hk _=>(setRow_other _ _ k _ (by omega)).trans (g1.block k hk (by simp))⟩
 ·exact Sv.padded hg hZ hl hm (by rw [Dk.bys_len,hl])

set_option maxRecDepth 100000 in
set_option maxHeartbeats 8000000 in
theorem svPut_any (base p bm cnt a b off cap c:Nat) (s:Dk.St) (l:List Int) (w:World) (H:Dk.Mine w base p bm cnt s) (h0:0<l.length) (hl:l.length≤1048576) (hcap:l.length≤cap) (hcm:cap≤9223372036854775807) (hc1:64*c<l.length+64) (hc2:l.length≤64*c) (hsrc:∀j,j<l.length→w.cell? ⟨b,off+j,none⟩=some (.int .u8 (l.getD j 0))) (hbp:b≠p) (hbm:b≠bm) (ha:a≤1048576) (hleft:s.left≤9223372036854775807) (hdone:s.done≤549755813888) :
  Calls Tryz.prog 33 #[.pointer (some ⟨p,0,none⟩),.int .i64 (a:Int),.slice (some ⟨b,off,none⟩) l.length cap] w fun e w'=>e=.returned (.int .i64 (Sv.put cnt s a (Sv.pcs l c)).1)∧Dk.Mine w' base p bm cnt (Sv.put cnt s a (Sv.pcs l c)).2∧Turn (fun k=>k=p∨k=bm) w w':=by
 obtain ⟨f,hfk,hfc⟩:∃f:Nat→Nat,(∀k,k<c→f k=k)∧∀k,f k<c:=⟨fun k=>min k (c - 1),fun k hk=>by show min k (c - 1)=k;omega,fun k=>by show min k (c - 1)<c;omega⟩;have hlp:=H.box.lt;have hlm:=H.ltb;have hlb:b<w.heap.size:=Go.block_lt_of_cell (hsrc 0 h0);have hle:(l.length:Int)≤9223372036854775807:=by omega
 refine (callsIn_wide (n:=8)).1 ?_;refine callsIn_of_wp_marks Tryz.func33 rfl trivial ?_ rfl;simp only [Tryz.ntmps33,List.size_toArray,List.length_cons,List.length_nil,Nat.reduceAdd,Nat.reduceSub,Array.replicate_succ,Array.replicate_zero,List.push_toArray,List.append_toArray,List.nil_append,List.cons_append]
 gi_wp2_with (refine ⟨trivial,?_⟩;gi_at_call 59;refine (chunk_in Fence.wide _ trivial rfl _ _ _ _).mono ?_;rintro e w' ⟨rfl,rfl⟩)
 have c0:(w.alloc (.cells #[.pointer (some ⟨p,0,none⟩)] 50)).heap.size=w.heap.size+1:=by simp
 obtain ⟨x1,hx1⟩:∃x,w.alloc (.cells #[.pointer (some ⟨p,0,none⟩)] 50)=x:=⟨_,rfl⟩;obtain ⟨x2,hx2⟩:∃x,x1.alloc (.cells #[.int .i64 (a:Int)] 3)=x:=⟨_,rfl⟩;obtain ⟨x3,hx3⟩:∃x,x2.alloc (.cells #[.int .i64 0] 37)=x:=⟨_,rfl⟩;obtain ⟨x4,hx4⟩:∃x,x3.alloc (.cells #[.slice (some ⟨b,off,none⟩) l.length cap] 24)=x:=⟨_,rfl⟩;obtain ⟨x5,hx5⟩:∃x,x4.alloc (.cells #[.int .i64 64] 3)=x:=⟨_,rfl⟩;have s1:x1.heap.size=w.heap.size+1:=by rw [←hx1];simp
 have s2:x2.heap.size=w.heap.size+1+1:=by rw [←hx2,←s1];simp
 have s3:x3.heap.size=w.heap.size+1+1+1:=by rw [←hx3,←s2];simp
 have s4:x4.heap.size=w.heap.size+1+1+1+1:=by rw [←hx4,←s3];simp
 have s5:x5.heap.size=w.heap.size+1+1+1+1+1:=by rw [←hx5,←s4];simp
 have g1:w.grownBy x1 none:=by rw [←hx1];exact World.grownBy_alloc _ _ _
 have g2:x1.grownBy x2 none:=by rw [←hx2];exact World.grownBy_alloc _ _ _
 have g3:x2.grownBy x3 none:=by rw [←hx3];exact World.grownBy_alloc _ _ _
 have g4:x3.grownBy x4 none:=by rw [←hx4];exact World.grownBy_alloc _ _ _
 have g5:x4.grownBy x5 none:=by rw [←hx5];exact World.grownBy_alloc _ _ _
 have g0:w.grownBy x5 none:=gtr g1 (gtr g2 (gtr g3 (gtr g4 g5)));have on:=fun {X Y:World} {k:Nat} {T:TypeId} {F:Nat→Value} (h:Arr X k T 1 F) (hg:X.grownBy Y none)=>h.turn (B:=fun _=>False) (Turn.new hg) (fun q=>q);have one:∀(v:Value) (j:Nat),j<1→#[v][j]?.getD undef=v:=fun v j hj=>by
  obtain rfl:j=0:=by omega
  rfl
 have a1:Arr x1 w.heap.size 50 1 (fun _=>.pointer (some ⟨p,0,none⟩)):=by
  rw [←hx1];exact (Arr.lit (heap_alloc_new w _)).congr (fun j hj=>one _ j hj)
 have a2:Arr x2 (w.heap.size+1) 3 1 (fun _=>.int .i64 (a:Int)):=by
  rw [←hx2,←s1];exact (Arr.lit (heap_alloc_new x1 _)).congr (fun j hj=>one _ j hj)
 have a3:Arr x3 (w.heap.size+2) 37 1 (fun _=>.int .i64 0):=by
  rw [←hx3,show w.heap.size+2=x2.heap.size by omega];exact (Arr.lit (heap_alloc_new x2 _)).congr (fun j hj=>one _ j hj)
 have a4:Arr x4 (w.heap.size+3) 24 1 (fun _=>.slice (some ⟨b,off,none⟩) l.length cap):=by
  rw [←hx4,show w.heap.size+3=x3.heap.size by omega];exact (Arr.lit (heap_alloc_new x3 _)).congr (fun j hj=>one _ j hj)
 have a5:Arr x5 (w.heap.size+4) 3 1 (fun _=>.int .i64 64):=by
  rw [←hx5,show w.heap.size+4=x4.heap.size by omega];exact (Arr.lit (heap_alloc_new x4 _)).congr (fun j hj=>one _ j hj)
 have hway:Sv.Way w x5 w.heap.size x5.heap.size base p bm cnt s (a+0) 0 b off l :=
  ⟨H.on g0,on a1 (gtr g2 (gtr g3 (gtr g4 g5))),on a2 (gtr g3 (gtr g4 g5)),on a3 (gtr g4 g5),fun j hj=>(gce g0 b _ hlb (by simp)).trans (hsrc j hj),Turn.new g0,rfl,Nat.le_refl _,by omega,hlp,hlm,hlb,hbp,hbm⟩
 have b4:x5.cell? ⟨w.heap.size+1+1+1,0,none⟩=some (.slice (some ⟨b,off,none⟩) l.length cap):=(on a4 g5).cell (i:=0) (by omega);have b5:x5.cell? ⟨w.heap.size+1+1+1+1,0,none⟩=some (.int .i64 64):=a5.cell (i:=0) (by omega);rw [hx1,hx2,hx3,hx4,hx5];obtain ⟨P,hP⟩:∃P:Nat→List Int,P=fun k=>Sv.pad (Sv.pc l (f k)):=⟨_,rfl⟩;have hW:=hide hway;clear hx1 hx2 hx3 hx4 hx5 s1 s2 s3 s4 g1 g2 g3 g4 g5 a1 a2 a3 a4 a5 c0 on one hway;clear x1 x2 x3 x4;refine wpIn_rangeFunc_ownG rfl (by omega) (gf:=97) (lb:=#[.pointer (some ⟨w.heap.size+1+1+1,0,none⟩),.pointer (some ⟨w.heap.size+1+1+1+1,0,none⟩)]) rfl trivial (enters_of Tryz.func97 (by kernel_rfl) rfl)
  (chunk_stops Fence.wide _ trivial rfl (by omega) (w.heap.size+1+1+1) (w.heap.size+1+1+1+1) b off l.length cap c f hl hc1 hc2 hcap hcm hfk (Sv.Kp p bm (w.heap.size+1) x5.heap.size) (Sv.kp_keeps (by omega) (by omega) (by omega) (by omega) (by omega) (by omega) (by omega) (by omega)) x5 b4 b5)
  (fun h k=>Sv.kp_t h k) Sv.kp_b (Below.refl _ _) (fun _=>rfl)
  (fun pre W=>∃s',Sv.put cnt s a (pre.map P)=(0,s')∧Sv.Way w W w.heap.size x5.heap.size base p bm cnt s' (a+pre.length) 0 b off l)
  (fun cd pre W=>cd=.ret∧∃s' r a',r≠0∧Sv.put cnt s a (pre.map P)=(r,s')∧Sv.Way w W w.heap.size x5.heap.size base p bm cnt s' a' r b off l)
  (fun pre W W' row ⟨s',h1,h2⟩ hg hr=>⟨s',h1,h2.own hg hr⟩)
  (fun cd pre W W' row ⟨h0,s',r,a',h1,h2,h3⟩ hg hr=>⟨h0,s',r,a',h1,h2,h3.own hg hr⟩)
  ⟨s,rfl,uh hW⟩
  (fun x=>{ tmps:=#[.pointer (some ⟨p,0,none⟩),.int .i64 (a:Int),.slice (some ⟨b,off,none⟩) l.length cap,.pointer (some ⟨w.heap.size,0,none⟩),.pointer (some ⟨w.heap.size+1,0,none⟩),undef,.pointer (some ⟨w.heap.size+1+1,0,none⟩),Sv.pv b off l.length (f x),undef,undef,.slice (some ⟨b,off,none⟩) l.length cap,.func (.func 97) #[] #[.pointer (some ⟨w.heap.size+1+1+1,0,none⟩),.pointer (some ⟨w.heap.size+1+1+1+1,0,none⟩)],Sv.pv b off l.length (f x),undef,undef,undef,undef,undef,undef,undef,undef,undef,undef,undef,undef],defers:=[] }) ?assign ?body ?done ?stop
 case assign =>
  intro l0 x W K hK
  gi_wp2
  exact hK
 case body =>
  rintro l0 pre x W ⟨s',hp,hw⟩ hlt;obtain ⟨k,hk⟩:∃k,f x=k:=⟨_,rfl⟩;have hkc:k<c:=hk ▸ hfc x;obtain ⟨m,hm⟩:∃m,min 64 (l.length - 64*k)=m:=⟨_,rfl⟩;have hPx:P x=Sv.pad (Sv.pc l k):=by rw [hP,←hk]
  have hpl:(Sv.pc l k).length=m:=by rw [Sv.pc_len,hm]
  have hpv:Sv.pv b off l.length (f x)=.slice (some ⟨b,off+64*k,none⟩) m m:=by
   unfold Sv.pv;rw [hk,hm]
  have h64:(P x).length=64:=by rw [hPx];exact Sv.pad_len (by omega)
  have hWs:=hw.big;obtain ⟨Z,hZ,hZe⟩:∃Z:Array Value,(∀w,(zeroValue 106).run Tryz.prog w=.ok (.agg Z) w)∧Z=(Ck.bys Dk.noughts).toArray:=⟨_,fun w=>Sv.zero64 w,rfl⟩;obtain ⟨W2,hcp,hg2,hs2⟩:=Sv.copied W (b:=b) (off:=off+64*k) (m:=m) (l:=Sv.pc l k) hZe hpl (by omega) (fun j hj=>by
   rw [Nat.add_assoc,hw.src (64*k+j) (by omega)];unfold Sv.pc;rw [List.getD,List.getD,List.getElem?_take,if_pos (by omega),List.getElem?_drop]) (by omega)
  rw [←hPx] at hs2;obtain ⟨q,hq⟩:∃q,a+pre.length=q:=⟨_,rfl⟩;rw [hq] at hw;have hq1:q≤1048576+16400:=by omega
  have hw2:=hw.on hg2;have cW:∀y,W2.grownBy y none→Calls Tryz.prog 60 #[.pointer (some ⟨p,0,none⟩),.int .i64 (q:Int),.slice (some ⟨W.heap.size,0,none⟩) 64 64] y fun e y'=>e=.returned (.int .i64 (Dk.wr cnt s' q (P x)).1)∧Dk.Mine y' base p bm cnt (Dk.wr cnt s' q (P x)).2∧Turn (fun k=>k=p∨k=bm) y y':=fun y hy=>by
   have h:=Dk.mine_write base p bm cnt s' q (some ⟨W.heap.size,0,none⟩) 64 (P x) y ((hw2.on hy).mine) (by rw [h64];exact hs2.grown hy) (fun ad _ e=>by cases e;have:=hw.lp;simp only;omega) (by have:=Sv.put_left cnt (pre.map P) s a hleft;rw [hp] at this;exact this) (by have:=(Sv.put_done cnt (pre.map P) s a).2;rw [hp,List.length_map] at this;simp only at this;omega);rw [h64] at h;exact h
  obtain ⟨g,hg⟩:∃g,W.heap.size=g:=⟨_,rfl⟩;obtain ⟨r,hr⟩:∃r,Dk.wr cnt s' q (P x)=r:=⟨_,rfl⟩;rw [hr] at cW;rw [hg] at hcp cW;have d0:W2.cell? ⟨w.heap.size,0,none⟩=some (.pointer (some ⟨p,0,none⟩)):=hw2.d.cell (i:=0) (by omega);have d1:W2.cell? ⟨w.heap.size+1,0,none⟩=some (.int .i64 (q:Int)):=hw2.at_.cell (i:=0) (by omega);have hm1:(m:Int)≤64:=by omega
  have HW:=hide hw2;have HG:=hide hg2;have HR:=hide hr;have HP:=hide hp;have HQ:=hide hq;have CW:=hide cW;rw [hpv];clear hk hkc hm hPx hpl hpv h64 hZe hs2 hq hw hw2 cW hr hp hg2;have hmx:Tryz.prog.follows .mixedOrders=true:=by kernel_rfl
  by_cases h0:r.1=0
  ·gi_wp2
   gi_region_with_o (refine ⟨trivial,?_⟩;gi_at_call 60;refine (CallsIn.inRound l0 (callsIn_wide.2 (uh CW _ (gdw (World.grownBy.refl _ none) 1)))).mono ?_;rintro e y ⟨rfl,hm3,ht3⟩)
   all_goals (
    have hw3:=((uh HW).on (gdw (World.grownBy.refl _ none) 1)).wrote hm3 ht3;have hT:Turn (fun k=>k=p∨k=bm) W y:=(Turn.new (gtr (uh HG) (gdw (World.grownBy.refl _ none) 1))).trans ht3 (fun _ _ q=>q);have d2:y.cell? ⟨w.heap.size+1,0,none⟩=some (.int .i64 (q:Int)):=hw3.at_.cell (i:=0) (by omega);have f2:=hw3.at_.free;have e1:((q+1:Nat):Int)=(q:Int)+1:=by omega
    have HF:Hid (KeepsFrom x5.heap.size W (y.setCell ⟨w.heap.size+1,0,none⟩ (.int .i64 ((q:Int)+1)))∧Sv.Kp p bm (w.heap.size+1) x5.heap.size W (y.setCell ⟨w.heap.size+1,0,none⟩ (.int .i64 ((q:Int)+1)))∧∃s',Sv.put cnt s a ((pre ++ [x]).map P)=(0,s')∧Sv.Way w (y.setCell ⟨w.heap.size+1,0,none⟩ (.int .i64 ((q:Int)+1))) w.heap.size x5.heap.size base p bm cnt s' (a+(pre ++ [x]).length) 0 b off l):=by
     have hT2:Turn (fun k=>(k=p∨k=bm)∨k=w.heap.size+1) W (y.setCell ⟨w.heap.size+1,0,none⟩ (.int .i64 ((q:Int)+1))):=(hT.mono (fun k q=>.inl q)).store _ 0 _ (.inr rfl);refine ⟨Sv.keeps hT2 (fun k q=>by have:=hw3.lp;have:=hw3.lm;omega),⟨?_,hWs⟩,r.2,?_,?_⟩
     ·exact hT2.mono (fun k q=>.inl q)
     ·rw [List.map_append,List.map_singleton,Sv.put_more cnt _ _ _ _ (by rw [uh HP]),uh HP,List.length_map];simp only;rw [show (a:Int)+(pre.length:Int)=(q:Int) by have:=uh HQ;omega,uh HR,←h0]
     ·rw [List.length_append,List.length_singleton,←Nat.add_assoc,uh HQ];have h:=hw3.next;rw [e1] at h;exact h
    clear CW HW HG HR HP HQ hm3 ht3 hw3 hT d0 d1 hcp hZ
    gi_wp2
    exact uh HF)
  ·have h0':(r.1 != 0)=true:=by simp [h0]
   gi_wp2
   gi_region_with_o (refine ⟨trivial,?_⟩;gi_at_call 60;refine (CallsIn.inRound l0 (callsIn_wide.2 (uh CW _ (gdw (World.grownBy.refl _ none) 1)))).mono ?_;rintro e y ⟨rfl,hm3,ht3⟩)
   all_goals (
    have hw3:=((uh HW).on (gdw (World.grownBy.refl _ none) 1)).wrote hm3 ht3;have hT:Turn (fun k=>k=p∨k=bm) W y:=(Turn.new (gtr (uh HG) (gdw (World.grownBy.refl _ none) 1))).trans ht3 (fun _ _ q=>q);have d2:y.cell? ⟨w.heap.size+1+1,0,none⟩=some (.int .i64 0):=hw3.res.cell (i:=0) (by omega);have f2:∀i,y.frozen? ⟨w.heap.size+1+1,i,none⟩=false:=hw3.res.free;have HF:Hid (KeepsFrom x5.heap.size W (y.setCell ⟨w.heap.size+1+1,0,none⟩ (.int .i64 r.1))∧∃s' r' a',r'≠0∧Sv.put cnt s a ((pre ++ [x]).map P)=(r',s')∧Sv.Way w (y.setCell ⟨w.heap.size+1+1,0,none⟩ (.int .i64 r.1)) w.heap.size x5.heap.size base p bm cnt s' a' r' b off l):=by
     have hT2:Turn (fun k=>(k=p∨k=bm)∨k=w.heap.size+1+1) W (y.setCell ⟨w.heap.size+1+1,0,none⟩ (.int .i64 r.1)):=(hT.mono (fun k q=>.inl q)).store _ 0 _ (.inr rfl);refine ⟨Sv.keeps hT2 (fun k q=>by have:=hw3.lp;have:=hw3.lm;omega),r.2,r.1,q,h0,?_,hw3.fail r.1⟩;rw [List.map_append,List.map_singleton,Sv.put_more cnt _ _ _ _ (by rw [uh HP]),uh HP,List.length_map];simp only;rw [show (a:Int)+(pre.length:Int)=(q:Int) by have:=uh HQ;omega,uh HR]
    clear CW HW HG HR HP HQ hm3 ht3 hw3 hT d0 d1 hcp hZ
    gi_wp2
    exact ⟨(uh HF).1,rfl,(uh HF).2⟩)
 case done =>
  rintro D ys W hD rfl ⟨s',hp,hw⟩ hK;have d2:W.cell? ⟨w.heap.size+1+1,0,none⟩=some (.int .i64 0):=hw.res.cell (i:=0) (by omega);have f2:∀i,W.frozen? ⟨w.heap.size+1+1,i,none⟩=false:=hw.res.free;have hpe:Sv.put cnt s a (Sv.pcs l c)=(0,s'):=by
   have e:(List.range c).map P=Sv.pcs l c:=by
    unfold Sv.pcs;rw [hP];exact List.map_congr_left fun k hk=>by rw [hfk k (List.mem_range.1 hk)]
   rw [←e];exact hp
  have hK':=(KeepsOthers.setCell W ⟨w.heap.size+1+1,0,none⟩ (.int .i64 0)).same D _ hK rfl;have hwD:=(hw.fail 0).past (W':=(W.setCell ⟨w.heap.size+1+1,0,none⟩ (.int .i64 0)).putObj D (.deferred none)) (Turn.grown (grownBy_putObj' _ D _) (fun k e=>by cases e;exact hD));have hc5:((W.setCell ⟨w.heap.size+1+1,0,none⟩ (.int .i64 0)).putObj D (.deferred none)).cell? ⟨w.heap.size+1+1,0,none⟩=some (.int .i64 0):=hwD.res.cell (i:=0) (by omega);have HD:=hide hwD;have HPE:=hide hpe;clear hw hwD hp hpe
  gi_wp2
  refine ⟨by simp,.inl ⟨_,_,rfl,run_takeDeferred hK',?_⟩⟩;refine ⟨.int .i64 0,?_,by rw [uh HPE],by rw [uh HPE];exact (uh HD).mine,(uh HD).turn⟩;simp [results,Tryz.results33,go_sem,hc5]
 case stop =>
  rintro D cd pre W hD ⟨k,hk,rfl⟩ ⟨rfl,s',r,a',hr,hp,hw⟩ hK;have hpe:Sv.put cnt s a (Sv.pcs l c)=(r,s'):=by
   have e:(Sv.pcs l c).take k=(List.range k).map P:=by
    unfold Sv.pcs;rw [←List.map_take,List.take_range,Nat.min_eq_left hk,hP];exact List.map_congr_left fun j hj=>by rw [hfk j (by have:=List.mem_range.1 hj;omega)]
   rw [←List.take_append_drop k (Sv.pcs l c),e,Sv.put_stop _ _ _ _ _ (by rw [hp];exact hr)];exact hp
  have hwD:=hw.past (W':=W.putObj D (.deferred none)) (Turn.grown (grownBy_putObj' _ D _) (fun k e=>by cases e;exact hD));have hc5:(W.putObj D (.deferred none)).cell? ⟨w.heap.size+1+1,0,none⟩=some (.int .i64 r):=hwD.res.cell (i:=0) (by omega);have HD:=hide hwD;have HPE:=hide hpe;clear hw hwD hp hpe
  gi_wp2
  refine ⟨by simp,.inl ⟨_,_,rfl,run_takeDeferred hK,?_⟩⟩;refine ⟨.int .i64 r,?_,by rw [uh HPE],by rw [uh HPE];exact (uh HD).mine,(uh HD).turn⟩;simp [results,Tryz.results33,go_sem,hc5]

end Go.Proofs.YtldgbkjceildfaaGreat
