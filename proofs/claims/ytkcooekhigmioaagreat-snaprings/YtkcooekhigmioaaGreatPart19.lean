import Derived.Test.YtkcooekhigmioaaGreatPart17
import Derived.Test.YtkcooekhigmioaaGreatPart18
import Derived.Deep.CutRange
import Derived.Deep.CutBlock
namespace Go.Proofs.YtkcooekhigmioaaGreat
open Go.RowKit

structure Nv.Floor (c:Nat→Int):Prop where
 five:∀i,0≤c i∧c i≤5
 some:∃i,i<384∧c i≠0
 hang:∀P,Gn.Closed c P→∀k,k<384→c k≠0→P k→∀i,i<384→c i≠0→P i
 stairs:∃u v,u<384∧v<384∧(∀i,c i=3↔i=u)∧(∀i,c i=4↔i=v)

theorem Nv.to_up {d:Gn.Dice} (hd:Gn.Fair d) {c F:Nat→Int} {far:Nat} (h:Gn.Facts d c F far) {P:Nat→Prop} (hC:Gn.Closed c P):∀(n k:Nat),k<384→c k≠0→P k→F k=(n:Int)→P (Gn.up d):=by
 intro n
 induction n with
 | zero =>
  intro k hk _ hP e
  rw [←(h.fld.zero k hk).1 e]
  exact hP
 | succ n ih =>
  intro k hk hck hP e
  obtain ⟨_,j,dd,hj,hdd,hn,rfl,he⟩:=h.fld.back k hk (by omega)
  obtain ⟨b1,b2⟩:=Gr.nb_back hj hdd hn
  have hcj:c j≠0:=(h.reach hd j hj).1 (by omega)
  refine ih j hj hcj ?_ (by omega)
  have:=hC (Gr.nbOf j dd) (Gr.opp dd) hk (Gr.opp_lt hdd) hP b1 (by rw [b2];exact hcj)
  rwa [b2] at this

theorem Nv.floor_of {d:Gn.Dice} (hd:Gn.Fair d) {c F:Nat→Int} (h:Gn.IsLevel d c F):Nv.Floor c:=by
 obtain ⟨far,hf⟩:=h.facts hd
 refine ⟨hf.five,⟨far,hf.farl,by have:=(hf.is4 far).2 rfl;omega⟩,fun P hC k hk hck hP i hi hci=>?_,⟨Gn.up d,far,hf.upl,hf.farl,hf.is3,hf.is4⟩⟩
 have h0:=(hf.reach hd k hk).2 hck
 have hup:=Nv.to_up hd hf hC (F k).toNat k hk hck hP (by omega)
 exact Gn.hangs hd (fun j _=>hf.nz j) hC hup i hi hci


open Go.RowKit

theorem madeCells_item (n c:Nat) (hc:c<n*4):(madeCells (Value.agg #[.int .i64 0,.int .i64 0,.int .i64 0,.int .i64 0]).cells (n*4))[c]?=some (.int .i64 0):=by
 have hm:c % 4<4:=by omega
 obtain ⟨m,hmm⟩:∃m,m=c % 4:=⟨_,rfl⟩
 unfold madeCells
 simp [hc,Value.cells]
 rw [←hmm] at hm ⊢
 rcases (show m=0∨m=1∨m=2∨m=3 by omega) with rfl | rfl | rfl | rfl <;> rfl

theorem make40:∃Z:Array Value,(∀w:World,(Instr.makeSlice 28 (.int .i64 40) (.int .i64 40)).run Tryz.prog w=.ok (.slice (some ⟨w.heap.size,0,none⟩) 40 40) (w.alloc (.cells Z 72))) ∧
  ∀w:World,Lie (w.alloc (.cells Z 72)) w.heap.size 72 160 (Gd.flat (fun _ _=>0)):=by
 obtain ⟨i0,hi,hz0,hz1,hz2⟩:=info_parts info_item
 refine ⟨madeCells (Value.agg #[.int .i64 0,.int .i64 0,.int .i64 0,.int .i64 0]).cells (40*4),fun w=>?_,fun w=>?_⟩
 ·have hr:=run_make (P:=Tryz.prog) w 28 72 i0 _ Tryz.underlying28 hi hz0 .i64 .i64 (40:Nat) (40:Nat) (by omega) (by omega) (by rw [hz2];decide) (by decide)
  rw [hz1] at hr
  exact hr
 ·refine ⟨_,_,Arr.lit (heap_alloc_new w _),by rw [size_madeCells];omega,fun c hc=>?_⟩
  show (madeCells _ _)[c]?.getD undef=_
  rw [madeCells_item 40 c hc]
  rfl

theorem Lie.type_ne {x:World} {B G:Nat} {T U:TypeId} {m n:Nat} {F K:Nat→Value} (h1:Lie x B T m F) (h2:Lie x G U n K) (h:T≠U):B≠G:=by
 rintro rfl
 obtain ⟨_,_,⟨c1,e1,_⟩,_⟩:=h1
 obtain ⟨_,_,⟨c2,e2,_⟩,_⟩:=h2
 rw [e1] at e2
 simp only [Option.some.injEq,Obj.cells.injEq] at e2
 exact h e2.2.1


open Go.RowKit

def cin:Code→Code
 | .block _ b=>b
 | .loop b=>b
 | c=>c

end Go.Proofs.YtkcooekhigmioaaGreat
