import Derived.Test.YtapgkgbpekkdjaaPart27
import Derived.Test.YtapgkgbpekkdjaaPart26
import Derived.Deep.CutRange
import Derived.Deep.CutBlock
namespace Go.Proofs.Ytapgkgbpekkdjaa
open Go.RowKit

structure Nv.Floor (c:Nat→Int):Prop where
 five:∀i,0≤c i∧c i≤5
 some:∃i,i<384∧c i≠0
 hang:∀P,Gn.Closed c P→∀k,k<384→c k≠0→P k→∀i,i<384→c i≠0→P i
 stairs:∃u v,u<384∧v<384∧(∀i,c i=3↔i=u)∧(∀i,c i=4↔i=v)

theorem Nv.to_up {d:Gn.Dice} (hd:Gn.Fair d) {c F:Nat→Int} {far:Nat} (h:Gn.Facts d c F far) {P:Nat→Prop} (hC:Gn.Closed c P):∀(n k:Nat),k<384→c k≠0→P k→F k=(n:Int)→P (Gn.up d):=by
 intro n
 induction n with
 | zero =>
  intro k hk _ hP e
  rw [←(h.fld.zero k hk).1 e]
  exact hP
 | succ n ih =>
  intro k hk hck hP e
  obtain ⟨_,j,dd,hj,hdd,hn,rfl,he⟩:=h.fld.back k hk (by omega)
  obtain ⟨b1,b2⟩:=Gr.nb_back hj hdd hn
  have hcj:c j≠0:=(h.reach hd j hj).1 (by omega)
  refine ih j hj hcj ?_ (by omega)
  have:=hC (Gr.nbOf j dd) (Gr.opp dd) hk (Gr.opp_lt hdd) hP b1 (by rw [b2];exact hcj)
  rwa [b2] at this

theorem Nv.floor_of {d:Gn.Dice} (hd:Gn.Fair d) {c F:Nat→Int} (h:Gn.IsLevel d c F):Nv.Floor c:=by
 obtain ⟨far,hf⟩:=h.facts hd
 refine ⟨hf.five,⟨far,hf.farl,by have:=(hf.is4 far).2 rfl;omega⟩,fun P hC k hk hck hP i hi hci=>?_,⟨Gn.up d,far,hf.upl,hf.farl,hf.is3,hf.is4⟩⟩
 have h0:=(hf.reach hd k hk).2 hck
 have hup:=Nv.to_up hd hf hC (F k).toNat k hk hck hP (by omega)
 exact Gn.hangs hd (fun j _=>hf.nz j) hC hup i hi hci

theorem navMake_any (s f:Int) (h1:1≤f) (h3:f≤3) (w:World) :
  Calls Try.prog 35 #[.int .i64 s,.int .i64 f] w fun e w'=>∃(c:Nat→Int) (G nE nI cE cI:Nat) (aE aI:Option Addr),e=.returned (.agg #[.slice (some ⟨G,0,none⟩) 384 384,.slice aE nE cE,.slice aI nI cI])∧Nv.Floor c∧w.heap.size≤G∧Arr w' G 5 384 (Byts c)∧w.grownBy w' none:=by
 obtain ⟨d,hd,hF⟩:=dice_of s f
 refine (refMake_any s f d hd hF h1 h3 w).mono ?_
 rintro e w' ⟨c,F,G,nE,nI,cE,cI,aE,aI,hlev,rfl,hG,hA,_,_,_,_,hg⟩
 exact ⟨c,G,_,_,_,_,_,_,rfl,Nv.floor_of hF hlev,hG,hA,hg⟩

theorem field_cells (v1 v2 v3:Option Addr) (n1 n2 n3 c1 c2 c3:Nat) (w:World):(Instr.field 70 (.agg #[.slice v1 n1 c1,.slice v2 n2 c2,.slice v3 n3 c3]) 0).run Try.prog w=.ok (.slice v1 n1 c1) w:=by kernel_rfl


open Go.RowKit

set_option maxHeartbeats 400000 in
theorem within7_any (a n:Int) (w:World) (hn:0<n) (hn2:n≤4611686018427387904) :
  Calls Try.prog 44 #[.int .i64 a,.int .i64 n] w fun e w'=>e=.returned (.int .i64 (a % n))∧w'=w:=by
 have t1:=Int.tmod_lt_of_pos a (b:=n) hn
 have t2:=Int.lt_tmod_of_pos a (b:=n) hn
 have hn0:(n == 0)=false:=by simp;omega
 by_cases h:a.tmod n<0
 ·have ha:¬0≤a:=by
   intro h0
   have:=Int.tmod_nonneg n h0
   omega
  have hd:=hide (Gr.within_neg a n hn h)
  go_enter Try.func44,Try.ntmps44
  go_wp2
  go_ret
  exact ⟨rti (uh hd),rfl⟩
 ·have hd:=hide (Gr.within_pos a n hn h)
  by_cases ha:0≤a
  ·have e:a.tmod n=a % n:=Int.tmod_eq_emod_of_nonneg ha
   have h':¬a % n<0:=by rw [←e];exact h
   clear h t1 t2 e
   go_enter Try.func44,Try.ntmps44
   go_wp2
   go_ret
   exact ⟨rfl,rfl⟩
  ·go_enter Try.func44,Try.ntmps44
   go_wp2
   go_ret
   exact ⟨rti (uh hd),rfl⟩

theorem madeCells_item (n c:Nat) (hc:c<n*4):(madeCells (Value.agg #[.int .i64 0,.int .i64 0,.int .i64 0,.int .i64 0]).cells (n*4))[c]?=some (.int .i64 0):=by
 have hm:c % 4<4:=by omega
 obtain ⟨m,hmm⟩:∃m,m=c % 4:=⟨_,rfl⟩
 unfold madeCells
 simp [hc,Value.cells]
 rw [←hmm] at hm ⊢
 rcases (show m=0∨m=1∨m=2∨m=3 by omega) with rfl | rfl | rfl | rfl <;> rfl

theorem make40:∃Z:Array Value,(∀w:World,(Instr.makeSlice 23 (.int .i64 40) (.int .i64 40)).run Try.prog w=.ok (.slice (some ⟨w.heap.size,0,none⟩) 40 40) (w.alloc (.cells Z 47))) ∧
  ∀w:World,Lie (w.alloc (.cells Z 47)) w.heap.size 47 160 (Gd.flat (fun _ _=>0)):=by
 obtain ⟨i0,hi,hz0,hz1,hz2⟩:=info_parts info_item
 refine ⟨madeCells (Value.agg #[.int .i64 0,.int .i64 0,.int .i64 0,.int .i64 0]).cells (40*4),fun w=>?_,fun w=>?_⟩
 ·have hr:=run_make (P:=Try.prog) w 23 47 i0 _ Try.underlying23 hi hz0 .i64 .i64 (40:Nat) (40:Nat) (by omega) (by omega) (by rw [hz2];decide) (by decide)
  rw [hz1] at hr
  exact hr
 ·refine ⟨_,_,Arr.lit (heap_alloc_new w _),by rw [size_madeCells];omega,fun c hc=>?_⟩
  show (madeCells _ _)[c]?.getD undef=_
  rw [madeCells_item 40 c hc]
  rfl

theorem field_cells7 (v1 v2 v3:Option Addr) (n1 n2 n3 c1 c2 c3:Nat) (w:World):(Instr.field 70 (.agg #[.slice v1 n1 c1,.slice v2 n2 c2,.slice v3 n3 c3]) 0).run Try.prog w=.ok (.slice v1 n1 c1) w:=field_cells v1 v2 v3 n1 n2 n3 c1 c2 c3 w

theorem blk_drew {w:World} {b:Nat} {x:Obj} (h:w.heap[b]?=some x):w.drew.heap[b]?=some x :=
 ((gd1 (World.grownBy.refl w none)).block b (lt_of_block h) (fun e=>by cases e)).trans h

def Gd.head (seed floor:Int):Nat→Int:=fun j=>if j=0 then seed else if j=2 then floor else 0

theorem Lie.type_ne {x:World} {B G:Nat} {T U:TypeId} {m n:Nat} {F K:Nat→Value} (h1:Lie x B T m F) (h2:Lie x G U n K) (h:T≠U):B≠G:=by
 rintro rfl
 obtain ⟨_,_,⟨c1,e1,_⟩,_⟩:=h1
 obtain ⟨_,_,⟨c2,e2,_⟩,_⟩:=h2
 rw [e1] at e2
 simp only [Option.some.injEq,Obj.cells.injEq] at e2
 exact h e2.2.1

theorem Lie.set11 {x:World} {B G:Nat} {T:TypeId} {m:Nat} {F:Nat→Value} {v0 v1 v2 v3 v4 v5 v6 v7 v8 v9 v10:Value} (h:Lie x G T m F) (hne:B≠G):Lie (((((((((((x.setCell ⟨B,0,none⟩ v0).setCell ⟨B,1,none⟩ v1).setCell ⟨B,2,none⟩ v2).setCell ⟨B,3,none⟩ v3).setCell ⟨B,4,none⟩ v4).setCell ⟨B,5,none⟩ v5).setCell ⟨B,6,none⟩ v6).setCell ⟨B,7,none⟩ v7).setCell ⟨B,8,none⟩ v8).setCell ⟨B,9,none⟩ v9).setCell ⟨B,10,none⟩ v10) G T m F :=
 h.others hne 0 [v0,v1,v2,v3,v4,v5,v6,v7,v8,v9,v10]

theorem grown_set11 {w x:World} {B:Nat} {v0 v1 v2 v3 v4 v5 v6 v7 v8 v9 v10:Value} (h:w.grownBy x none) (hB:w.heap.size≤B):w.grownBy (((((((((((x.setCell ⟨B,0,none⟩ v0).setCell ⟨B,1,none⟩ v1).setCell ⟨B,2,none⟩ v2).setCell ⟨B,3,none⟩ v3).setCell ⟨B,4,none⟩ v4).setCell ⟨B,5,none⟩ v5).setCell ⟨B,6,none⟩ v6).setCell ⟨B,7,none⟩ v7).setCell ⟨B,8,none⟩ v8).setCell ⟨B,9,none⟩ v9).setCell ⟨B,10,none⟩ v10) none :=
 own_sets hB [v0,v1,v2,v3,v4,v5,v6,v7,v8,v9,v10] 0 x h

theorem Gd.box_set {x:World} {B G gE gI:Nat} {seed fl:Int} {F:Nat→Value} (h:Lie x B 29 11 F):Lie (((((((((((x.setCell ⟨B,0,none⟩ (.int .i64 seed)).setCell ⟨B,1,none⟩ (.int .i64 0)).setCell ⟨B,2,none⟩ (.int .i64 fl)).setCell ⟨B,3,none⟩ (.int .i64 0)).setCell ⟨B,4,none⟩ (.slice (some ⟨G,0,none⟩) 384 384)).setCell ⟨B,5,none⟩ (.slice (some ⟨gE,0,none⟩) 32 32)).setCell ⟨B,6,none⟩ (.slice (some ⟨gI,0,none⟩) 40 40)).setCell ⟨B,7,none⟩ (.int .i64 0)).setCell ⟨B,8,none⟩ (.int .i64 0)).setCell ⟨B,9,none⟩ (.int .i64 0)).setCell ⟨B,10,none⟩ (.int .i64 0)) B 29 11 (Gd.box (Gd.head seed fl) G gE gI 384 32 40 (fun _=>0)) :=
 h.whole (Gd.head seed fl) (fun _=>0) G gE gI 384 32 40

structure Gd.Begun (w0 x:World) (B gC gE gI:Nat) (seed fl:Int) (c:Nat→Int):Prop where
 hold:Gd.Hold x B gC gE gI 384 32 40 (Gd.head seed fl) (fun _=>0) c (fun _ _=>0) (fun _ _=>0)
 lB:w0.heap.size≤B
 lC:w0.heap.size≤gC
 lE:w0.heap.size≤gE
 lI:w0.heap.size≤gI
 grown:w0.grownBy x none


open Go.RowKit

structure Gd.Laid (w x:World) (R B gC gE gI:Nat) (s g c:Nat→Int) (E I:Nat→Nat→Int):Prop where
 hold:Gd.Hold x B gC gE gI 384 32 40 s g c E I
 at_:w.heap.size=R
 lB:R<B
 lC:R<gC
 lE:R<gE
 lI:R<gI
 res:Lie x R 29 11 (fun j=>#[.int .i64 0,.int .i64 0,.int .i64 0,.int .i64 0,.slice none 0 0,.slice none 0 0,.slice none 0 0,.int .i64 0,.int .i64 0,.int .i64 0,Value.int .i64 0][j]?.getD undef)
 grown:w.grownBy x none

theorem Gd.Laid.on {w x y:World} {R B gC gE gI:Nat} {s g c:Nat→Int} {E I:Nat→Nat→Int} (h:Gd.Laid w x R B gC gE gI s g c E I) (hg:x.grownBy y none):Gd.Laid w y R B gC gE gI s g c E I :=
 { h with hold:=h.hold.on hg,res:=h.res.on hg,grown:=gtr h.grown hg }

theorem Gd.Laid.put {w x:World} {R B gC gE gI:Nat} {s g c:Nat→Int} {E I:Nat→Nat→Int} (h:Gd.Laid w x R B gC gE gI s g c E I) (m:Nat) (a b d e:Int):Gd.Laid w ((((x.setCell ⟨gI,m*4,none⟩ (.int .i64 a)).setCell ⟨gI,m*4+1,none⟩ (.int .i64 b)).setCell ⟨gI,m*4+2,none⟩ (.int .i64 d)).setCell ⟨gI,m*4+3,none⟩ (.int .i64 e)) R B gC gE gI s g c E (En.put I m (Gd.row a b d e)):=by
 have h1:=h.lI
 have h2:=h.at_
 have r:=grown_put4 (World.grownBy.refl x (some gI)) m (.int .i64 a) (.int .i64 b) (.int .i64 d) (.int .i64 e)
 exact { h with hold:=h.hold.put m a b d e,res:=h.res.grown r (by simp;omega),grown:=gow h.grown r (fun n e=>by cases e;omega) }

theorem Gd.Laid.worlds {w x:World} {R B gC gE gI:Nat} {s g c:Nat→Int} {E I:Nat→Nat→Int} (h:Gd.Laid w x R B gC gE gI s g c E I) (vs:List Value):Gd.Worlds w s g c E I (.returned (.agg (Gd.world s gC gE gI 384 32 40 g))) (x.setCells R 0 vs):=by
 have hB:=h.at_
 have lC:=h.lC
 have lE:=h.lE
 have lI:=h.lI
 have r:=gss (g:=R) vs 0 x (World.grownBy.refl _ _)
 exact ⟨gC,gE,gI,384,32,40,rfl,by omega,by omega,by omega,by omega,h.hold.cE,h.hold.cI,h.hold.eI,⟨h.hold.lists.cells.grown r (by simp;omega),h.hold.lists.ents.grown r (by simp;omega),h.hold.lists.items.grown r (by simp;omega)⟩,own_sets (by omega) vs 0 x h.grown⟩

structure Gd.Open (x:World) (ob oo L:Nat) (O:Nat→Nat) (B gE gI:Nat):Prop where
 cell:∀i,i<L→x.cell? ⟨ob,oo+i,none⟩=some (.int .i64 (O i:Int))
 lt:ob<x.heap.size
 nB:ob≠B
 nE:ob≠gE
 nI:ob≠gI

theorem Gd.Open.grown {x y:World} {ob oo L:Nat} {O:Nat→Nat} {B gE gI:Nat} {r:Option Nat} (h:Gd.Open x ob oo L O B gE gI) (hg:x.grownBy y r) (hr:r≠some ob):Gd.Open y ob oo L O B gE gI :=
 { h with cell:=fun i hi=>(gce hg ob _ h.lt hr).trans (h.cell i hi),lt:=Nat.lt_of_lt_of_le h.lt hg.size }

theorem Gd.Open.on {x y:World} {ob oo L:Nat} {O:Nat→Nat} {B gE gI:Nat} (h:Gd.Open x ob oo L O B gE gI) (hg:x.grownBy y none):Gd.Open y ob oo L O B gE gI:=h.grown hg (by simp)

theorem Gd.Open.put {x:World} {ob oo L:Nat} {O:Nat→Nat} {B gE gI:Nat} (h:Gd.Open x ob oo L O B gE gI) (m:Nat) (a b d e:Value):Gd.Open ((((x.setCell ⟨gI,m*4,none⟩ a).setCell ⟨gI,m*4+1,none⟩ b).setCell ⟨gI,m*4+2,none⟩ d).setCell ⟨gI,m*4+3,none⟩ e) ob oo L O B gE gI :=
 h.grown (grown_put4 (World.grownBy.refl x (some gI)) m a b d e) (by simpa using h.nI.symm)

theorem item_cells {x:World} {X:Nat} {T:TypeId} {a b d e:Int} (h:Lie x X T 4 (Ints (Gd.row a b d e))):x.cell? ⟨X,0,none⟩=some (.int .i64 a)∧x.cell? ⟨X,1,none⟩=some (.int .i64 b)∧x.cell? ⟨X,2,none⟩=some (.int .i64 d)∧x.cell? ⟨X,3,none⟩=some (.int .i64 e) :=
 ⟨h.cell (by omega),h.cell (by omega),h.cell (by omega),h.cell (by omega)⟩

theorem item_new {x:World} {X:Nat} {T:TypeId} {a b d e:Int} (h:x.heap[X]?=some (.cells #[.int .i64 a,.int .i64 b,.int .i64 d,.int .i64 e] T (0,0))):Lie x X T 4 (Ints (Gd.row a b d e)) :=
 Lie.congr (m:=4) (Arr.lit h).lie fun j hj=>by
  rcases (show j=0∨j=1∨j=2∨j=3 by omega) with rfl | rfl | rfl | rfl <;> rfl

theorem item_k {x:World} {X:Nat} {T:TypeId} {a b d e a':Int} (h:Lie x X T 4 (Ints (Gd.row a b d e))):Lie (x.setCell ⟨X,0,none⟩ (.int .i64 a')) X T 4 (Ints (Gd.row a' b d e)) :=
 (h.store 0 _).congr fun j hj=>by
  rcases (show j=0∨j=1∨j=2∨j=3 by omega) with rfl | rfl | rfl | rfl <;> rfl

theorem item_a {x:World} {X:Nat} {T:TypeId} {a b d e a':Int} (h:Lie x X T 4 (Ints (Gd.row a b d e))):Lie (x.setCell ⟨X,2,none⟩ (.int .i64 a')) X T 4 (Ints (Gd.row a b a' e)) :=
 (h.store 2 _).congr fun j hj=>by
  rcases (show j=0∨j=1∨j=2∨j=3 by omega) with rfl | rfl | rfl | rfl <;> rfl

theorem item_b {x:World} {X:Nat} {T:TypeId} {a b d e a':Int} (h:Lie x X T 4 (Ints (Gd.row a b d e))):Lie (x.setCell ⟨X,3,none⟩ (.int .i64 a')) X T 4 (Ints (Gd.row a b d a')) :=
 (h.store 3 _).congr fun j hj=>by
  rcases (show j=0∨j=1∨j=2∨j=3 by omega) with rfl | rfl | rfl | rfl <;> rfl

def Gd.Fit (c:Nat→Int) (kd wh a b:Int):Prop:=1≤kd∧kd≤4 ∧
 ((wh=1∧Gr.inB a b=true∧Gr.walkB (Gr.at 384 c a b)=true)∨(wh=2∧0≤a∧a<4∧0≤b∧b<4)∨(wh=3∧0≤a∧a<4∧(kd=2∧b=0∨kd=3∧b=1))∨(wh=4∧0≤a∧a<3∧b=0))

theorem Gd.Fit.placed {c:Nat→Int} {kd wh a b:Int} (h:Gd.Fit c kd wh a b) (hk:kd=4→wh=1):Gd.Placed c (Gd.row kd wh a b):=by
 obtain ⟨h1,h2,h3⟩:=h
 refine ⟨h1,h2,?_⟩
 show (wh=1∧_)∨(wh=2∧_)∨(wh=3∧_)∨(wh=4∧_)
 rcases h3 with h3 | h3 | h3 | h3
 ·exact .inl h3
 ·refine .inr (.inl ⟨h3.1,h3.2.1,h3.2.2.1,h3.2.2.2.1,h3.2.2.2.2,fun e=>?_⟩)
  have:=hk e
  omega
 ·exact .inr (.inr (.inl h3))
 ·refine .inr (.inr (.inr ⟨h3.1,h3.2.1,h3.2.2.1,h3.2.2.2,fun e=>?_⟩))
  have:=hk e
  omega

theorem Gd.Fit.mend {c:Nat→Int} {wh a b:Int} (h:Gd.Fit c 4 wh a b) (hw:wh≠1):Gd.Placed c (Gd.row 1 wh a b):=by
 obtain ⟨h1,h2,h3⟩:=h
 refine Gd.Fit.placed ⟨by omega,by omega,?_⟩ (by omega)
 rcases h3 with h3 | h3 | h3 | h3
 ·omega
 ·exact .inr (.inl h3)
 ·omega
 ·exact .inr (.inr (.inr h3))

theorem Gd.fit_cell {c:Nat→Int} {kd:Int} {q:Nat} (h1:1≤kd) (h2:kd≤4) (hq:q<384) (hw:Gr.walkB (c q)=true):Gd.Fit c kd 1 ((q:Int) % 24) ((q:Int) / 24) :=
 ⟨h1,h2,.inl ⟨rfl,by unfold Gr.inB;exact decide_eq_true ⟨by omega,by omega,by omega,by omega⟩,by rw [Gr.at_cell c q hq];exact hw⟩⟩

def Gd.Known (k:Nat) (kc:Nat) (M:Nat→Nat→Int) (I:Nat→Nat→Int):Prop :=
 (k=0→I=fun _ _=>0)∧(k=1→M 0 0=0→M 0 1=0→M 0 3=0→I=En.put (fun _ _=>0) 0 (Gd.row 1 1 ((kc:Int) % 24) ((kc:Int) / 24)))

theorem Gd.known_no {kc:Nat} {M I:Nat→Nat→Int} {k:Nat} {wh a b:Int} (hK:Gd.Known k kc M I) (hf:¬Gd.find I 40 wh a b<0) (hw:wh≠0):Gd.Known (k+1) kc M I:=by
 refine ⟨by omega,fun h1 _ _ _=>absurd ?_ hf⟩
 have h0:=hK.1 (by omega)
 subst h0
 rcases Gd.find_cases (fun _ _=>(0:Int)) 40 wh a b with ⟨h,_⟩ | ⟨j,_,_,h,_⟩
 ·omega
 ·exact absurd h.symm hw

theorem Gd.known_yes {kc:Nat} {M I:Nat→Nat→Int} {k m:Nat} {kd wh a b:Int} (hK:Gd.Known k kc M I) (hm:m=2*k) (he:M k 0=0→M k 1=0→M k 3=0→kd=1∧wh=1∧a=(kc:Int) % 24∧b=(kc:Int) / 24):Gd.Known (k+1) kc M (En.put I m (Gd.row kd wh a b)):=by
 refine ⟨by omega,fun h1 e0 e1 e3=>?_⟩
 obtain rfl:k=0:=by omega
 obtain rfl:m=0:=by omega
 obtain ⟨rfl,rfl,rfl,rfl⟩:=he e0 e1 e3
 rw [hK.1 rfl]

theorem Gd.ok_tell {c:Nat→Int} {I:Nat→Nat→Int} {m:Nat} {kd wh a b:Int} (h:Gd.Ok c 40 I) (hp:Gd.Placed c (Gd.row kd wh a b)) (hf:Gd.find I 40 wh a b<0):Gd.Ok c 40 (En.put I m (Gd.row kd wh a b)) :=
 h.put (.inr ⟨hp,fun j hj _ hs=>(Gd.find_neg hf).2 j hj ⟨hs.1,hs.2.1,hs.2.2⟩⟩)

theorem Gd.ok_none (c:Nat→Int):Gd.Ok c 40 (fun _ _=>0):=⟨fun _ _=>.inl ⟨rfl,rfl,rfl,rfl⟩,fun _ _ _ _ _ h=>absurd rfl h⟩

def Gd.Snug (e:Ending):Prop:=∃(s:Nat→Int) (gC gE gI:Nat) (g:Nat→Int),e=.returned (.agg (Gd.world s gC gE gI 384 32 40 g))

def Gd.Tells (w:World) (s g c:Nat→Int) (E:Nat→Nat→Int) (kc nL:Nat) (M:Nat→Nat→Int) (e:Ending) (w':World):Prop :=
 ∃I,Gd.Worlds w s g c E I e w'∧Gd.Ok c 40 I∧Gd.Known (min nL 20) kc M I∧Gd.Snug e


open Go.RowKit

def cfst:Code→Code
 | .seq a _=>a
 | c=>c

def csnd:Code→Code
 | .seq _ b=>b
 | c=>c

def cin:Code→Code
 | .block _ b=>b
 | .loop b=>b
 | c=>c

set_option maxRecDepth 100000 in
set_option maxHeartbeats 12800000 in
theorem told_new (a0 a1:Int) (b o k nL cL:Nat) (wr:World) (_hb:b<wr.heap.size) (hlt1:(k:Int)<(nL:Int)) (p0:wr.cell? ⟨b,o+k*4,none⟩=some (.int .i64 a0)) (p1:wr.cell? ⟨b,o+k*4+1,none⟩=some (.int .i64 a1)) (Q:Exit→Act→World→Prop) {t0 t1 t2 t3 t5 t6 t7 t8 t9 Aa Ab Ac Ad Ae Af Ag Ah Ai Aj Ak Al Am Ao Ap Aq Ar As Au Av Aw Ax Ay Az AA AB AC AD AE AF AG AH AI AJ AK AL AM AN AO AP AQ AR AS AT AU AV AW AX AY AZ A0 A1 A2 A3 A4 A5 A6 A7 A8 A9 Ba Bb Bc Bd Be Bf Bg Bh Bi Bj Bk Bl Bm Bn Bo Bp Bq Br Bs Bt Bu Bv Bw Bx Bz BA BB BC BD BE BF BG BH BI BJ BK BL BM BN BO BP BQ BR BS BT BU BV BW BX BY BZ B0 B1 B2 B3 B4 B5 B6 B7 B8 B9 Ca Cb Cc Cd Ce Cf Cg Ch Ci Cj Ck Cl Cm Cn Co Cp Cq Cs Ct Cu Cv Cw Cx Cy Cz CA CB CC CD CE CF CG CH CI CJ CK CL CM CN CO CP CQ CR CS CT CU CV CW CX CY CZ C0 C1 C2 C3 C4 C5 C6 C7 C8 C9 Da Db Dc Dd De Df Dg Dh Di Dj Dk Dl Dm Dn Dp Dq Dr Ds Dt Du Dv Dw Dx Dy Dz DA DB DC DD DE DF DG DH:Value}
  (hQ:∀(X:Nat) (wc:World) (u105 u106 u107 u108 u109 u110 u111 u112 u113 u114 u115 u116 u117 u118 u119:Value),Hid (Lie wc X 47 4 (Ints (Gd.row (1+a0 % 4) (1+a1 % 4) 0 0)))→Hid (wr.grownBy wc none)→Hid (wr.heap.size≤X)→Q .normal ⟨#[t0,t1,t2,t3,.slice (some ⟨b,o,none⟩) nL cL,t5,t6,t7,t8,t9,Aa,Ab,Ac,Ad,Ae,Af,Ag,Ah,.int .i64 (k:Int),.pointer (some ⟨X,0,none⟩),Aj,Ak,Al,Am,Ao,Ap,Aq,Ar,As,Au,Av,Aw,Ax,Ay,Az,AA,AB,AC,AD,AE,AF,AG,AH,AI,AJ,AK,AL,AM,AN,AO,AP,AQ,AR,AS,AT,AU,AV,AW,AX,AY,AZ,A0,A1,A2,A3,A4,A5,A6,A7,A8,A9,Ba,Bb,Bc,Bd,Be,Bf,Bg,Bh,Bi,Bj,Bk,Bl,Bm,Bn,Bo,Bp,Bq,Br,Bs,Bt,Bu,Bv,Bw,Bx,Bz,BA,BB,BC,BD,BE,BF,BG,BH,BI,u105,u106,u107,u108,u109,u110,u111,u112,u113,u114,u115,u116,u117,u118,u119,BY,BZ,B0,B1,B2,B3,B4,B5,B6,B7,B8,B9,Ca,Cb,Cc,Cd,Ce,Cf,Cg,Ch,Ci,Cj,Ck,Cl,Cm,Cn,Co,Cp,Cq,Cs,Ct,Cu,Cv,Cw,Cx,Cy,Cz,CA,CB,CC,CD,CE,CF,CG,CH,CI,CJ,CK,CL,CM,CN,CO,CP,CQ,CR,CS,CT,CU,CV,CW,CX,CY,CZ,C0,C1,C2,C3,C4,C5,C6,C7,C8,C9,Da,Db,Dc,Dd,De,Df,Dg,Dh,Di,Dj,Dk,Dl,Dm,Dn,Dp,Dq,Dr,Ds,Dt,Du,Dv,Dw,Dx,Dy,Dz,DA,DB,DC,DD,DE,DF,DG,DH],[]⟩ wc) :
  Code.wp Try.prog (cfst (cin (cfst (csnd (cin (cin (csnd (cfst ((Try.f18.body.map (cdrop 12)).getD .skip))))))))) Q ⟨#[t0,t1,t2,t3,.slice (some ⟨b,o,none⟩) nL cL,t5,t6,t7,t8,t9,Aa,Ab,Ac,Ad,Ae,Af,Ag,Ah,.int .i64 (k:Int),Ai,Aj,Ak,Al,Am,Ao,Ap,Aq,Ar,As,Au,Av,Aw,Ax,Ay,Az,AA,AB,AC,AD,AE,AF,AG,AH,AI,AJ,AK,AL,AM,AN,AO,AP,AQ,AR,AS,AT,AU,AV,AW,AX,AY,AZ,A0,A1,A2,A3,A4,A5,A6,A7,A8,A9,Ba,Bb,Bc,Bd,Be,Bf,Bg,Bh,Bi,Bj,Bk,Bl,Bm,Bn,Bo,Bp,Bq,Br,Bs,Bt,Bu,Bv,Bw,Bx,Bz,BA,BB,BC,BD,BE,BF,BG,BH,BI,BJ,BK,BL,BM,BN,BO,BP,BQ,BR,BS,BT,BU,BV,BW,BX,BY,BZ,B0,B1,B2,B3,B4,B5,B6,B7,B8,B9,Ca,Cb,Cc,Cd,Ce,Cf,Cg,Ch,Ci,Cj,Ck,Cl,Cm,Cn,Co,Cp,Cq,Cs,Ct,Cu,Cv,Cw,Cx,Cy,Cz,CA,CB,CC,CD,CE,CF,CG,CH,CI,CJ,CK,CL,CM,CN,CO,CP,CQ,CR,CS,CT,CU,CV,CW,CX,CY,CZ,C0,C1,C2,C3,C4,C5,C6,C7,C8,C9,Da,Db,Dc,Dd,De,Df,Dg,Dh,Di,Dj,Dk,Dl,Dm,Dn,Dp,Dq,Dr,Ds,Dt,Du,Dv,Dw,Dx,Dy,Dz,DA,DB,DC,DD,DE,DF,DG,DH],[]⟩ wr:=by
 conv=>arg 2;whnf
 obtain ⟨f4,hf4⟩:∃f:Int→Int,Hid (∀a,f a=a % 4):=⟨fun a=>a % 4,fun _=>rfl⟩
 have c4:Hid (∀a wq,Calls Try.prog 44 #[.int .i64 a,.int .i64 4] wq fun e w'=>e=.returned (.int .i64 (f4 a))∧w'=wq):=fun a wq=>by
  rw [uh hf4]
  exact within7_any a 4 wq (by omega) (by omega)
 have m00:0≤f4 a0:=by rw [uh hf4];omega
 have m04:f4 a0<4:=by rw [uh hf4];omega
 have m10:0≤f4 a1:=by rw [uh hf4];omega
 have m14:f4 a1<4:=by rw [uh hf4];omega
 have hv0:IntKind.i64.wrap (1+f4 a0)=1+f4 a0:=by rw [IntKind.wrap_i64];omega
 have hv1:IntKind.i64.wrap (1+f4 a1)=1+f4 a1:=by rw [IntKind.wrap_i64];omega
 rw [←uh hf4 a0,←uh hf4 a1] at hQ
 have hQ':=hide hQ
 clear hQ
 go_region_held3 (fun x=>x.cell? ⟨b,o+k*4,none⟩=some (.int .i64 a0)∧x.cell? ⟨b,o+k*4+1,none⟩=some (.int .i64 a1)) (go_keep) (first | (go_at_call 44;refine (uh c4 _ _).mono ?_;rintro e wy ⟨rfl,hy⟩;subst wy))
 all_goals
  first
   | exact uh hQ' _ _ _ _ _ _ _ _ _ _ _ _ _ _ _ _ _ (item_new (heap_alloc_new _ _)) (gal (gd1 (World.grownBy.refl _ _)) _) (Nat.le_refl _)
   | (rw [hv0,hv1];exact uh hQ' _ _ _ _ _ _ _ _ _ _ _ _ _ _ _ _ _ (item_new (blk_drew (heap_alloc_new _ _))) (gd1 (World.grownBy_alloc _ _ none)) (Nat.le_refl _))

end Go.Proofs.Ytapgkgbpekkdjaa
