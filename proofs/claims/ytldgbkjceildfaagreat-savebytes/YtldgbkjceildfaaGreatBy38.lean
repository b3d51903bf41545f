import Derived.Test.YtldgbkjceildfaaGreatBy36
namespace Go.Proofs.YtldgbkjceildfaaGreat
open Go.RowKit

theorem Sn.goldsB_each {g:Nat→Int}:∀{n:Nat},Sn.goldsB g n=true→∀t,t<n→Sn.goldB g t=true
 | 0,_,_,h=>absurd h (by omega)
 | n+1,h,t,ht=>by
  have h':(Sn.goldsB g n && Sn.goldB g n)=true:=h
  rw [Bool.and_eq_true] at h'
  by_cases e:t=n
  ·rw [e];exact h'.2
  ·exact Sn.goldsB_each h'.1 t (by omega)

theorem Sn.rowC_each {c:Nat→Int} {E:Nat→Nat→Int}:∀{n:Nat},Sn.rowC c E n=0→∀k,k<n→Sn.entC c E k=0
 | 0,_,_,h=>absurd h (by omega)
 | n+1,h,k,hk=>by
  have h0:Sn.rowC c E n=0:=by
   cases Decidable.em (Sn.rowC c E n=0) with
   | inl e=>exact e
   | inr e =>
    have:=Sn.rowC_stays (n:=n) rfl e (n+1) (by omega)
    omega
  have h1:(if Sn.rowC c E n=0 then Sn.entC c E n else Sn.rowC c E n)=0:=h
  rw [if_pos h0] at h1
  by_cases e:k=n
  ·rw [e];exact h1
  ·exact Sn.rowC_each h0 k (by omega)

theorem Sn.stats_small (k:Int) (j:Nat):0≤En.stats k j∧En.stats k j≤255:=by
 have h:∀(a b:Int),(0≤a∧a≤255)→(0≤b∧b≤255)→∀(p:Prop) [Decidable p],0≤(if p then a else b)∧(if p then a else b)≤255:=fun a b h1 h2 p _=>by split <;> assumption
 unfold En.stats
 split
 ·split <;> omega
 ·exact h _ _ (by decide) (h _ _ (by decide) (h _ _ (by decide) (h _ _ (by decide) (by decide) _) _) _) _
 ·exact h _ _ (by decide) (h _ _ (by decide) (h _ _ (by decide) (h _ _ (by decide) (by decide) _) _) _) _
 ·exact h _ _ (by decide) (h _ _ (by decide) (h _ _ (by decide) (h _ _ (by decide) (by decide) _) _) _) _
 ·exact h _ _ (by decide) (h _ _ (by decide) (by decide) _) _
 ·decide

theorem Sn.chk_small {s g c:Nat→Int} {E I:Nat→Nat→Int} (h:Sn.Chk s g c E I 0):(0≤s 1∧s 1<1073741824)∧(1≤s 2∧s 2≤3)∧(0≤s 3∧s 3≤2)∧(∀t,t<4→0≤g t∧g t≤999)∧(∀i j,i<32→j<11→0≤E i j∧E i j≤255)∧(∀i j,i<40→j<4→0≤I i j∧I i j≤255):=by
 unfold Sn.Chk at h
 split at h
 case isFalse=>omega
 rename_i h1
 split at h
 case isFalse=>omega
 split at h
 case isFalse=>omega
 split at h
 case isFalse =>
  rename_i h4
  exact absurd h.symm h4
 rename_i h4
 have hok:Gd.Ok c 40 I:=by
  rcases h with ⟨_,q⟩ | ⟨q,_⟩
  ·exact q
  ·omega
 unfold Sn.headB at h1
 rw [Bool.and_eq_true] at h1
 obtain ⟨hg,hn⟩:=h1
 unfold Sn.numB at hn
 have hn:=of_decide_eq_true hn
 refine ⟨by omega,by omega,by omega,fun t ht=>?_,fun i j hi hj=>?_,fun i j hi hj=>?_⟩
 ·have q:=Sn.goldsB_each hg t ht
  unfold Sn.goldB at q
  have:=of_decide_eq_true q
  omega
 ·have he:=Sn.rowC_each h4 i hi
  unfold Sn.entC at he
  split at he
  case isFalse=>omega
  rename_i k0
  split at he
  case isFalse=>omega
  rename_i k1
  split at he
  ·split at he
   case isFalse=>omega
   rename_i hz hf
   unfold Sn.freeB at hf
   have hf:=of_decide_eq_true hf
   rcases (show j=0∨j=1∨j=2∨j=3∨j=4∨j=5∨j=6∨j=7∨j=8∨j=9∨j=10 by omega) with rfl | rfl | rfl | rfl | rfl | rfl | rfl | rfl | rfl | rfl | rfl <;> omega
  ·split at he
   case isFalse=>omega
   rename_i hz hs
   obtain ⟨s1,s2,s3⟩:=hs
   unfold Sn.soundB at s1
   have s1:=of_decide_eq_true s1
   have w6:=Sn.stats_small (E i 0) 6
   have w7:=Sn.stats_small (E i 0) 7
   have w8:=Sn.stats_small (E i 0) 8
   have hxy:0≤E i 3∧E i 3<24∧0≤E i 4∧E i 4<16:=by
    unfold Sn.aloneB at s2
    rw [Bool.and_eq_true] at s2
    cases q:Gr.inB (E i 3) (E i 4) with
    | true=>exact (Gr.inB_iff _ _).1 q
    | false =>
     have hw:=(Gr.walkB_iff _).1 s2.1
     rw [Gr.at_out q] at hw
     omega
   have hseat:0≤E i 2∧E i 2≤3:=by
    unfold Sn.seatedB at s3
    split at s3
    ·have:=of_decide_eq_true s3
     omega
    ·have:=of_decide_eq_true s3
     omega
   rcases (show j=0∨j=1∨j=2∨j=3∨j=4∨j=5∨j=6∨j=7∨j=8∨j=9∨j=10 by omega) with rfl | rfl | rfl | rfl | rfl | rfl | rfl | rfl | rfl | rfl | rfl <;> omega
 ·rcases hok.each i hi with hz | hp
  ·obtain ⟨z0,z1,z2,z3⟩:=hz
   rcases (show j=0∨j=1∨j=2∨j=3 by omega) with rfl | rfl | rfl | rfl <;> omega
  ·obtain ⟨q1,q2,q3,q4⟩:=Sn.placed_small hp
   rcases (show j=0∨j=1∨j=2∨j=3 by omega) with rfl | rfl | rfl | rfl <;> omega

end Go.Proofs.YtldgbkjceildfaaGreat

namespace Go.Proofs.YtldgbkjceildfaaGreat
open Go.RowKit Go.Shelf

attribute [local go_sem] Oper.semAt_some

def Sv.Kp (p bm A n:Nat) (W W':World):Prop:=Turn (fun k=>((k=p∨k=bm)∨k=A)∨n≤k) W W'∧n≤W.heap.size

theorem Sv.kp_t {p bm z n:Nat} {A B C:World} (h:Sv.Kp p bm z n A B) (k:Sv.Kp p bm z n B C):Sv.Kp p bm z n A C:=⟨Turn.trans h.1 k.1 (fun _ _ q=>q),h.2⟩

theorem Sv.kp_b {p bm z:Nat} {w:World} (W:World) (l:Nat) (o o':Obj) (hl:w.heap.size≤l) (h:W.heap[l]?=some o) (_:o.isCells=false) (_:o.isWalk=false):Sv.Kp p bm z w.heap.size W (W.putObj l o') :=
 ⟨Turn.grown (grownBy_putObj' W l o') (fun k e=>by cases e;exact .inr hl),by have:=(Array.getElem?_eq_some_iff.1 h).1;omega⟩

theorem Sv.kp_keeps {p bm z n Bs Bn:Nat} (h1:Bs<n) (h2:Bn<n) (n1:Bs≠p) (n2:Bs≠bm) (n3:Bn≠p) (n4:Bn≠bm) (n5:Bs≠z) (n6:Bn≠z):Sv.Keeps Bs Bn (Sv.Kp p bm z n):=fun W W' ⟨h,hs⟩ =>
 ⟨Turn.cell h (by omega) (by rintro (((q | q) | q) | q) <;> omega) 0,Turn.cell h (by omega) (by rintro (((q | q) | q) | q) <;> omega) 0⟩

structure Sv.Way (w W:World) (A n base p bm cnt:Nat) (s:Dk.St) (a:Nat) (r:Int) (b off:Nat) (l:List Int):Prop where
 mine:Dk.Mine W base p bm cnt s
 d:Arr W A 50 1 (fun _=>.pointer (some ⟨p,0,none⟩))
 at_:Arr W (A+1) 3 1 (fun _=>.int .i64 (a:Int))
 res:Arr W (A+2) 37 1 (fun _=>.int .i64 r)
 src:∀j,j<l.length→W.cell? ⟨b,off+j,none⟩=some (.int .u8 (l.getD j 0))
 turn:Turn (fun k=>k=p∨k=bm) w W
 size:A=w.heap.size
 big:n≤W.heap.size
 room:A+3≤n
 lp:p<A
 lm:bm<A
 lb:b<A
 bp:b≠p
 bbm:b≠bm

section
variable {w W W':World} {A n base p bm cnt a b off:Nat} {s:Dk.St} {r:Int} {l:List Int}

theorem Sv.Way.past (h:Sv.Way w W A n base p bm cnt s a r b off l) (ht:Turn (fun k=>n≤k) W W'):Sv.Way w W' A n base p bm cnt s a r b off l:=by
 have h1:=h.room
 have h2:=h.lp
 have h3:=h.lm
 have h4:=h.lb
 have h5:=h.size
 exact { h with mine:=h.mine.turn ht (by omega) (by omega),d:=h.d.turn ht (by omega),at_:=h.at_.turn ht (by omega),res:=h.res.turn ht (by omega),src:=fun j hj=>(ht.cell (by have:=h.big;omega) (by omega) _).trans (h.src j hj),turn:=h.turn.trans (C:=fun k=>n≤k) ht (fun i hi q=>absurd q (by omega)),big:=Nat.le_trans h.big ht.size }

theorem Sv.Way.on (h:Sv.Way w W A n base p bm cnt s a r b off l) (hg:W.grownBy W' none):Sv.Way w W' A n base p bm cnt s a r b off l:=h.past (Turn.new hg)

theorem Sv.Way.own (h:Sv.Way w W A n base p bm cnt s a r b off l) {row:Option Nat} (hg:W.grownBy W' row) (hr:∀k,row=some k→n≤k∧∃o:Obj,W.heap[k]?=some o∧o.isCells=false):Sv.Way w W' A n base p bm cnt s a r b off l :=
 h.past (Turn.grown hg (fun k e=>(hr k e).1))

theorem Sv.Way.wrote {s':Dk.St} (h:Sv.Way w W A n base p bm cnt s a r b off l) (hm:Dk.Mine W' base p bm cnt s') (ht:Turn (fun k=>k=p∨k=bm) W W'):Sv.Way w W' A n base p bm cnt s' a r b off l:=by
 have h1:=h.room
 have h2:=h.lp
 have h3:=h.lm
 have h4:=h.lb
 have h5:=h.bp
 have h6:=h.bbm
 exact { h with mine:=hm,d:=h.d.turn ht (by omega),at_:=h.at_.turn ht (by omega),res:=h.res.turn ht (by omega),src:=fun j hj=>(ht.cell (by have:=h.big;omega) (by omega) _).trans (h.src j hj),turn:=h.turn.trans ht (fun i hi q=>q),big:=Nat.le_trans h.big ht.size }

theorem Sv.Way.next (h:Sv.Way w W A n base p bm cnt s a r b off l):Sv.Way w (W.setCell ⟨A+1,0,none⟩ (.int .i64 ((a+1:Nat):Int))) A n base p bm cnt s (a+1) r b off l:=by
 have h1:=h.room
 have h2:=h.lp
 have h3:=h.lm
 have h4:=h.lb
 have h5:=h.size
 have ht:Turn (fun k=>k=A+1) W (W.setCell ⟨A+1,0,none⟩ (.int .i64 ((a+1:Nat):Int))):=(Turn.refl _ W).store _ 0 _ rfl
 exact { h with mine:=h.mine.turn ht (by omega) (by omega),d:=h.d.turn ht (by omega),at_:=(h.at_.store 0 _).congr (fun j hj=>by rw [if_pos (by omega)]),res:=h.res.turn ht (by omega),src:=fun j hj=>(ht.cell (by have:=h.big;omega) (by omega) _).trans (h.src j hj),turn:=h.turn.trans ht (fun i hi q=>by omega),big:=Nat.le_trans h.big ht.size }

theorem Sv.Way.fail (h:Sv.Way w W A n base p bm cnt s a r b off l) (r':Int):Sv.Way w (W.setCell ⟨A+2,0,none⟩ (.int .i64 r')) A n base p bm cnt s a r' b off l:=by
 have h1:=h.room
 have h2:=h.lp
 have h3:=h.lm
 have h4:=h.lb
 have h5:=h.size
 have ht:Turn (fun k=>k=A+2) W (W.setCell ⟨A+2,0,none⟩ (.int .i64 r')):=(Turn.refl _ W).store _ 0 _ rfl
 exact { h with mine:=h.mine.turn ht (by omega) (by omega),d:=h.d.turn ht (by omega),at_:=h.at_.turn ht (by omega),res:=(h.res.store 0 _).congr (fun j hj=>by rw [if_pos (by omega)]),src:=fun j hj=>(ht.cell (by have:=h.big;omega) (by omega) _).trans (h.src j hj),turn:=h.turn.trans ht (fun i hi q=>by omega),big:=Nat.le_trans h.big ht.size }

end

theorem Sv.keeps {n:Nat} {B:Nat→Prop} {W W':World} (h:Turn B W W') (hB:∀k,B k→k<n):KeepsFrom n W W' :=
 ⟨h.size,fun k o hk ho _=>(h.block k (Array.getElem?_eq_some_iff.1 ho).1 (fun q=>by have:=hB k q;omega)).trans ho⟩

end Go.Proofs.YtldgbkjceildfaaGreat
