import Derived.Test.YtbanjoflgoiegabGreatPf47
import Derived.Test.YtbanjoflgoiegabGreatPf44
import Derived.Test.YtbanjoflgoiegabGreatPf50
import Derived.Deep.MidRow
namespace Go.Proofs.YtbanjoflgoiegabGreat
open Go.RowKit

theorem wpTill_two {P:Program} {ops:Array Oper} {Q:Exit→Act→World→Prop} {md:Region.Mode} {S:World→Prop} {i j h:Nat} {oi oj:Oper} {n:Nat} {up:Array Bool} {a:Act} {w:World} (hr:Region.ready md ops up=[i,j]) (hoi:ops[i]?=some oi) (hoj:ops[j]?=some oj)
  (H1:∀K:Act→World→Prop,Shut (∀b x,((up.setIfInBounds i true).getD h true=false→S x)→wpTill P md ops Q S h n (up.setIfInBounds i true) b x→K b x)→if Region.wanted oi (yielded ops a.tmps)=true then Oper.wp P oi a w K Q else K (a.put oi.dst undef) w)
  (H2:∀K:Act→World→Prop,Shut (∀b x,((up.setIfInBounds j true).getD h true=false→S x)→wpTill P md ops Q S h n (up.setIfInBounds j true) b x→K b x)→if Region.wanted oj (yielded ops a.tmps)=true then Oper.wp P oj a w K Q else K (a.put oj.dst undef) w) :
  wpTill P md ops Q S h (n+1) up a w:=by
 refine ⟨fun g=>(by rw [hr] at g;cases g),fun k hk=>?_⟩
 rw [hr] at hk
 rcases (show k=i∨k=j by simpa using hk) with rfl | rfl
 ·exact wpOp_step hoi (fun K hK=>H1 K (fun b x h1 h2=>hK b x ⟨h1,h2⟩))
 ·exact wpOp_step hoj (fun K hK=>H2 K (fun b x h1 h2=>hK b x ⟨h1,h2⟩))

def Cr.Steps (w:World) (how inp:Nat→Int) (sp:Nat→Bool) (S:Cr.W) (e:Ending) (w':World):Prop:=∃T,Cr.IsStep how inp sp S T∧Gd.WorldsW w T.s T.g T.c T.E T.I e w'

theorem Cr.frm_new {w0 x y:World} {P g1 g2 g3 c1 c2 c3:Nat} {how inp:Nat→Int} {sp:Nat→Bool} {s g c:Nat→Int} {E I:Nat→Nat→Int} {H:Nat→Value} (hH:Lie y P 59 25 H) (he:∀j,j<25→H j=Cr.frm s g1 g2 g3 c1 c2 c3 g how inp sp false false j) (hcap:32≤c2∧384≤c1) (l1:w0.heap.size≤g1) (l2:w0.heap.size≤g2) (l3:w0.heap.size≤g3) (n1:g1≠g2) (n2:g1≠g3) (n3:g2≠g3) (hL:Gd.Lists x g1 g2 g3 c E I) (hx:∀g,g<x.heap.size→g≠P→y.heap[g]?=x.heap[g]?) (lP:w0.heap.size≤P) (hg:w0.grownBy y none) (nP:P≠g1∧P≠g2∧P≠g3) :
  Cr.Frm w0 y P g1 g2 g3 c1 c2 c3 how inp sp false false s g c E I:=by
 have mv:∀{G:Nat} {T:TypeId} {m:Nat} {F:Nat→Value},Lie x G T m F→P≠G→Lie y G T m F:=fun {G T m F} h hn=>by
  obtain ⟨M,K,⟨cur,hc,h1,h2⟩,h3,h4⟩:=h
  exact ⟨M,K,⟨cur,(hx G (lt_of_block hc) hn.symm).trans hc,h1,h2⟩,h3,h4⟩
 exact ⟨hH.congr he,⟨mv hL.cells nP.1,mv hL.ents nP.2.1,mv hL.items nP.2.2⟩,hcap,lP,l1,l2,l3,n1,n2,n3,hg⟩

theorem Cr.frm_store {w0 x:World} {P g1 g2 g3 c1 c2 c3:Nat} {how inp:Nat→Int} {sp:Nat→Bool} {s g c:Nat→Int} {E I:Nat→Nat→Int} {H:Nat→Value} (vs:List Value) (hv:vs.length=25) (he:∀j,j<25→vs[j]?.getD undef=Cr.frm s g1 g2 g3 c1 c2 c3 g how inp sp false false j) (hZ:Lie x P 59 25 H) (lP:w0.heap.size≤P) (h:(32≤c2∧384≤c1)∧w0.heap.size≤g1∧w0.heap.size≤g2∧w0.heap.size≤g3∧g1≠g2∧g1≠g3∧g2≠g3∧Gd.Lists x g1 g2 g3 c E I) (hg:w0.grownBy x none) :
  Cr.Frm w0 (x.setCells P 0 vs) P g1 g2 g3 c1 c2 c3 how inp sp false false s g c E I:=by
 obtain ⟨hcap,l1,l2,l3,n1,n2,n3,hL⟩:=h
 have r:=gss (g:=P) vs 0 x (World.grownBy.refl _ _)
 refine Cr.frm_new (x:=x) (hZ.stores 0 vs) (fun j hj=>?_) hcap l1 l2 l3 n1 n2 n3 hL (fun k hk hn=>r.block k hk (by simp;omega)) lP (own_sets lP vs 0 x hg) ⟨hZ.type_ne hL.cells (by decide),hZ.type_ne hL.ents (by decide),hZ.type_ne hL.items (by decide)⟩
 rw [if_pos (by omega),Nat.sub_zero]
 exact he j hj

theorem Cr.frm_lit (s g how inp:Nat→Int) (sp:Nat→Bool) (g1 g2 g3 c1 c2 c3:Nat):∀j,j<25→#[.int .i64 (s 0),.int .i64 (s 1),.int .i64 (s 2),.int .i64 (s 3),.slice (some ⟨g1,0,none⟩) 384 c1,.slice (some ⟨g2,0,none⟩) 32 c2,.slice (some ⟨g3,0,none⟩) 40 c3,.int .i64 (g 0),.int .i64 (g 1),.int .i64 (g 2),.int .i64 (g 3),.int .i64 (how 0),.int .i64 (inp 0),.bool (sp 0),.int .i64 (how 1),.int .i64 (inp 1),.bool (sp 1),.int .i64 (how 2),.int .i64 (inp 2),.bool (sp 2),.int .i64 (how 3),.int .i64 (inp 3),.bool (sp 3),Value.bool false,Value.bool false][j]?.getD undef=Cr.frm s g1 g2 g3 c1 c2 c3 g how inp sp false false j:=fun j hj=>by
 rcases (show j=0∨j=1∨j=2∨j=3∨j=4∨j=5∨j=6∨j=7∨j=8∨j=9∨j=10∨j=11∨j=12∨j=13∨j=14∨j=15∨j=16∨j=17∨j=18∨j=19∨j=20∨j=21∨j=22∨j=23∨j=24 by omega) with rfl | rfl | rfl | rfl | rfl | rfl | rfl | rfl | rfl | rfl | rfl | rfl | rfl | rfl | rfl | rfl | rfl | rfl | rfl | rfl | rfl | rfl | rfl | rfl | rfl <;> rfl

def Cr.inside:Code→Code
 | .scope c=>c
 | c=>c

def Cr.fst:Code→Code
 | .seq a _=>a
 | c=>c

def Cr.snd:Code→Code
 | .seq _ b=>b
 | c=>c

set_option maxRecDepth 16000 in
set_option maxHeartbeats 25600000 in
theorem cStep_make (s g c:Nat→Int) (E I:Nat→Nat→Int) (gC gE gI cC cE cI B:Nat) (how inp:Nat→Int) (sp:Nat→Bool) (w0:World) (hbox':Lie w0 B 28 11 (Gd.box s gC gE gI cC cE cI g)) (hac':Lie w0 (B+1) 35 12 (Cr.actF how inp sp)) (hL0':Gd.Lists w0 gC gE gI c E I) (a0 a1:Value) (Q:Exit→Act→World→Prop)
  (hP:∀c (a:Act) d v w,Q (.panic c) (a.put d v) w→Q (.panic c) a w) (hQ:∀(P:Nat) (wx:World) (u7 u8 u9 u10:Value),Hid (∃g1 g2 g3 c1 c2 c3,Cr.Frm w0 wx P g1 g2 g3 c1 c2 c3 how inp sp false false s g c E I)→Q .normal ⟨#[a0,a1,.pointer (some ⟨B,0,none⟩),.pointer (some ⟨B+1,0,none⟩),.pointer (some ⟨B+1+1,0,none⟩),.pointer (some ⟨P,0,none⟩),undef,u7,u8,u9,u10,undef,undef,undef,undef,undef,undef,undef,undef,undef,undef,undef,undef,undef,undef,undef,undef,undef,undef,undef,undef,undef,undef,undef,undef,undef,undef,undef,undef,undef,undef,undef,undef,undef,undef,undef,undef],[]⟩ wx) :
  Code.wp Tryz.prog (Cr.fst (Cr.inside (Cr.snd ((Tryz.f11.body).getD .skip)))) Q ⟨#[a0,a1,.pointer (some ⟨B,0,none⟩),.pointer (some ⟨B+1,0,none⟩),.pointer (some ⟨B+1+1,0,none⟩),undef,undef,undef,undef,undef,undef,undef,undef,undef,undef,undef,undef,undef,undef,undef,undef,undef,undef,undef,undef,undef,undef,undef,undef,undef,undef,undef,undef,undef,undef,undef,undef,undef,undef,undef,undef,undef,undef,undef,undef,undef,undef],[]⟩ w0:=by
 conv=>arg 2;whnf
 have hbox:=hide hbox'
 have hac:=hide hac'
 have hL0:=hide hL0'
 clear hbox' hac' hL0'
 have hkeep:Hid (∀z,w0.grownBy z none→(z.cell? ⟨B,0,none⟩=some (.int .i64 (s 0))∧z.cell? ⟨B,1,none⟩=some (.int .i64 (s 1))∧z.cell? ⟨B,2,none⟩=some (.int .i64 (s 2))∧z.cell? ⟨B,3,none⟩=some (.int .i64 (s 3))∧z.cell? ⟨B,4,none⟩=some (.slice (some ⟨gC,0,none⟩) 384 cC)∧z.cell? ⟨B,5,none⟩=some (.slice (some ⟨gE,0,none⟩) 32 cE)∧z.cell? ⟨B,6,none⟩=some (.slice (some ⟨gI,0,none⟩) 40 cI)∧z.cell? ⟨B,7,none⟩=some (.int .i64 (g 0))∧z.cell? ⟨B,8,none⟩=some (.int .i64 (g 1))∧z.cell? ⟨B,9,none⟩=some (.int .i64 (g 2))∧z.cell? ⟨B,10,none⟩=some (.int .i64 (g 3)))∧(z.cell? ⟨B+1,0,none⟩=some (.int .i64 (how 0))∧z.cell? ⟨B+1,1,none⟩=some (.int .i64 (inp 0))∧z.cell? ⟨B+1,2,none⟩=some (.bool (sp 0))∧z.cell? ⟨B+1,3,none⟩=some (.int .i64 (how 1))∧z.cell? ⟨B+1,4,none⟩=some (.int .i64 (inp 1))∧z.cell? ⟨B+1,5,none⟩=some (.bool (sp 1))∧z.cell? ⟨B+1,6,none⟩=some (.int .i64 (how 2))∧z.cell? ⟨B+1,7,none⟩=some (.int .i64 (inp 2))∧z.cell? ⟨B+1,8,none⟩=some (.bool (sp 2))∧z.cell? ⟨B+1,9,none⟩=some (.int .i64 (how 3))∧z.cell? ⟨B+1,10,none⟩=some (.int .i64 (inp 3))∧z.cell? ⟨B+1,11,none⟩=some (.bool (sp 3)))):=fun z hz=>⟨((uh hbox).on hz).eleven,(fun (h:Lie z (B+1) 35 12 (Cr.actF how inp sp))=>⟨h.cell (c:=0) (by omega),h.cell (c:=1) (by omega),h.cell (c:=2) (by omega),h.cell (c:=3) (by omega),h.cell (c:=4) (by omega),h.cell (c:=5) (by omega),h.cell (c:=6) (by omega),h.cell (c:=7) (by omega),h.cell (c:=8) (by omega),h.cell (c:=9) (by omega),h.cell (c:=10) (by omega),h.cell (c:=11) (by omega)⟩) ((uh hac).on hz)⟩
 have hch:Hid (∀z,w0.grownBy z none→Calls Tryz.prog 23 #[.agg #[.int .i64 (s 0),.int .i64 (s 1),.int .i64 (s 2),.int .i64 (s 3),.slice (some ⟨gC,0,none⟩) 384 cC,.slice (some ⟨gE,0,none⟩) 32 cE,.slice (some ⟨gI,0,none⟩) 40 cI,.int .i64 (g 0),.int .i64 (g 1),.int .i64 (g 2),.int .i64 (g 3)]] z fun e y=>∃g1 g2 g3 c1 c2 c3,e=.returned (.agg #[.int .i64 (s 0),.int .i64 (s 1),.int .i64 (s 2),.int .i64 (s 3),.slice (some ⟨g1,0,none⟩) 384 c1,.slice (some ⟨g2,0,none⟩) 32 c2,.slice (some ⟨g3,0,none⟩) 40 c3,.int .i64 (g 0),.int .i64 (g 1),.int .i64 (g 2),.int .i64 (g 3)])∧Hid ((32≤c2∧384≤c1)∧z.heap.size≤g1∧z.heap.size≤g2∧z.heap.size≤g3∧g1≠g2∧g1≠g3∧g2≠g3∧Gd.Lists y g1 g2 g3 c E I∧z.grownBy y none)∧Hid (w0.grownBy y none)):=fun z hz=>(crawlApart_wide s g c E I gC gE gI cC cE cI z ((uh hL0).on hz)).mono fun e y ⟨g1,g2,g3,c1,c2,c3,h1,h2,h3,h4,h5,h6,h7,h8,h9,h10⟩=>⟨g1,g2,g3,c1,c2,c3,h1,⟨h2,h3,h4,h5,h6,h7,h8,h9,h10⟩,gtr hz h10⟩
 have hd0:=hide (gd1 (World.grownBy.refl w0 none))
 have hQ':=hide hQ
 clear hQ
 refine wp_region_till (h:=5) (S:=fun x=>(x.cell? ⟨B,0,none⟩=some (.int .i64 (s 0))∧x.cell? ⟨B,1,none⟩=some (.int .i64 (s 1))∧x.cell? ⟨B,2,none⟩=some (.int .i64 (s 2))∧x.cell? ⟨B,3,none⟩=some (.int .i64 (s 3))∧x.cell? ⟨B,4,none⟩=some (.slice (some ⟨gC,0,none⟩) 384 cC)∧x.cell? ⟨B,5,none⟩=some (.slice (some ⟨gE,0,none⟩) 32 cE)∧x.cell? ⟨B,6,none⟩=some (.slice (some ⟨gI,0,none⟩) 40 cI)∧x.cell? ⟨B,7,none⟩=some (.int .i64 (g 0))∧x.cell? ⟨B,8,none⟩=some (.int .i64 (g 1))∧x.cell? ⟨B,9,none⟩=some (.int .i64 (g 2))∧x.cell? ⟨B,10,none⟩=some (.int .i64 (g 3)))∧(x.cell? ⟨B+1,0,none⟩=some (.int .i64 (how 0))∧x.cell? ⟨B+1,1,none⟩=some (.int .i64 (inp 0))∧x.cell? ⟨B+1,2,none⟩=some (.bool (sp 0))∧x.cell? ⟨B+1,3,none⟩=some (.int .i64 (how 1))∧x.cell? ⟨B+1,4,none⟩=some (.int .i64 (inp 1))∧x.cell? ⟨B+1,5,none⟩=some (.bool (sp 1))∧x.cell? ⟨B+1,6,none⟩=some (.int .i64 (how 2))∧x.cell? ⟨B+1,7,none⟩=some (.int .i64 (inp 2))∧x.cell? ⟨B+1,8,none⟩=some (.bool (sp 2))∧x.cell? ⟨B+1,9,none⟩=some (.int .i64 (how 3))∧x.cell? ⟨B+1,10,none⟩=some (.int .i64 (inp 3))∧x.cell? ⟨B+1,11,none⟩=some (.bool (sp 3)))) (by kernel_rfl) ?_
 have hS0:=uh hkeep _ (uh hd0)
 refine wtk (i:=0) (v:=?_) [5] rfl (by kernel_rfl) (by kernel_rfl) (by kernel_rfl) (by kernel_rfl) (fun _ _ _ h=>hP _ _ _ _ _ h) hS0 (Or.inl ⟨by rfl,?_⟩) ?_
 rotate_left
 ·intro x hSx
  try dsimp only at hSx
  go_simp
  try with_reducible rfl
 simp only [Act.put]
 refine wtk (i:=2) (v:=?_) [5] rfl (by kernel_rfl) (by kernel_rfl) (by kernel_rfl) (by kernel_rfl) (fun _ _ _ h=>hP _ _ _ _ _ h) hS0 (Or.inl ⟨by rfl,?_⟩) ?_
 rotate_left
 ·intro x hSx
  try dsimp only at hSx
  go_simp
  try with_reducible rfl
 simp only [Act.put]
 refine wpTill_two (i:=1) (j:=4) (by kernel_rfl) rfl rfl (fun K hK=>?_) (fun K hK=>?_)
 ·go_simp
  refine (uh hch _ (uh hd0)).mono ?_
  rintro e w1 ⟨g1,g2,g3,c1,c2,c3,rfl,hx1,hg1⟩
  have hS1:=uh hkeep _ (uh hg1)
  try go_simp
  refine hK.out _ _ (fun _=>uh hkeep _ (uh hg1)) ?_
  clear hK K hS0
  refine wtk (i:=3) (v:=?_) [5] rfl (by kernel_rfl) (by kernel_rfl) (by kernel_rfl) (by kernel_rfl) (fun _ _ _ h=>hP _ _ _ _ _ h) hS1 (Or.inl ⟨by rfl,?_⟩) ?_
  rotate_left
  ·intro x hSx
   try dsimp only at hSx
   go_simp
   try with_reducible rfl
  simp only [Act.put]
  refine wto (j:=4) (by kernel_rfl) rfl (fun K hK=>?_)
  go_simp
  have hZ:Hid (Lie (w1.alloc (.cells #[.int .i64 0,.int .i64 0,.int .i64 0,.int .i64 0,.slice none 0 0,.slice none 0 0,.slice none 0 0,.int .i64 0,.int .i64 0,.int .i64 0,.int .i64 0,.int .i64 0,.int .i64 0,.bool false,.int .i64 0,.int .i64 0,.bool false,.int .i64 0,.int .i64 0,.bool false,.int .i64 0,.int .i64 0,.bool false,.bool false,.bool false] 59)) w1.heap.size 59 25 (fun j=>#[Value.int .i64 0,.int .i64 0,.int .i64 0,.int .i64 0,.slice none 0 0,.slice none 0 0,.slice none 0 0,.int .i64 0,.int .i64 0,.int .i64 0,.int .i64 0,.int .i64 0,.int .i64 0,.bool false,.int .i64 0,.int .i64 0,.bool false,.int .i64 0,.int .i64 0,.bool false,.int .i64 0,.int .i64 0,.bool false,.bool false,.bool false][j]?.getD undef)):=(Arr.lit (heap_alloc_new w1 _)).lie
  have hg2:=hide (gal (uh hg1) (.cells #[.int .i64 0,.int .i64 0,.int .i64 0,.int .i64 0,.slice none 0 0,.slice none 0 0,.slice none 0 0,.int .i64 0,.int .i64 0,.int .i64 0,.int .i64 0,.int .i64 0,.int .i64 0,.bool false,.int .i64 0,.int .i64 0,.bool false,.int .i64 0,.int .i64 0,.bool false,.int .i64 0,.int .i64 0,.bool false,.bool false,.bool false] 59))
  have hx2:Hid ((32≤c2∧384≤c1)∧w0.heap.size≤g1∧w0.heap.size≤g2∧w0.heap.size≤g3∧g1≠g2∧g1≠g3∧g2≠g3∧Gd.Lists (w1.alloc (.cells #[.int .i64 0,.int .i64 0,.int .i64 0,.int .i64 0,.slice none 0 0,.slice none 0 0,.slice none 0 0,.int .i64 0,.int .i64 0,.int .i64 0,.int .i64 0,.int .i64 0,.int .i64 0,.bool false,.int .i64 0,.int .i64 0,.bool false,.int .i64 0,.int .i64 0,.bool false,.int .i64 0,.int .i64 0,.bool false,.bool false,.bool false] 59)) g1 g2 g3 c E I):=by
   obtain ⟨h1,h2,h3,h4,h5,h6,h7,h8,_⟩:=uh hx1
   have:=(uh hd0).size
   exact ⟨h1,by omega,by omega,by omega,h5,h6,h7,h8.on (World.grownBy_alloc _ _ _)⟩
  have lP:=hide (uh hg1).size
  refine hK.out _ _ (fun _=>uh hkeep _ (uh hg2)) ?_
  clear hK K hS1 hx1
  generalize w1.alloc (.cells #[.int .i64 0,.int .i64 0,.int .i64 0,.int .i64 0,.slice none 0 0,.slice none 0 0,.slice none 0 0,.int .i64 0,.int .i64 0,.int .i64 0,.int .i64 0,.int .i64 0,.int .i64 0,.bool false,.int .i64 0,.int .i64 0,.bool false,.int .i64 0,.int .i64 0,.bool false,.int .i64 0,.int .i64 0,.bool false,.bool false,.bool false] 59)=w2 at hZ hg2 hx2 ⊢
  generalize w1.heap.size=P at hZ lP ⊢
  have hst:=hide (fun vs hv he=>Cr.frm_store (c3:=c3) (how:=how) (inp:=inp) (sp:=sp) (s:=s) (g:=g) vs hv he (uh hZ) (uh lP) (uh hx2) (uh hg2))
  refine wto (j:=5) (by kernel_rfl) rfl (fun K hK=>?_)
  rw [if_pos (by kernel_rfl)]
  refine wp_store_mid 59 (.tmp 5) (.tmp 10) rfl P 0 #[.int .i64 (s 0),.int .i64 (s 1),.int .i64 (s 2),.int .i64 (s 3),.slice (some ⟨g1,0,none⟩) 384 c1,.slice (some ⟨g2,0,none⟩) 32 c2,.slice (some ⟨g3,0,none⟩) 40 c3,.int .i64 (g 0),.int .i64 (g 1),.int .i64 (g 2),.int .i64 (g 3),.int .i64 (how 0),.int .i64 (inp 0),.bool (sp 0),.int .i64 (how 1),.int .i64 (inp 1),.bool (sp 1),.int .i64 (how 2),.int .i64 (inp 2),.bool (sp 2),.int .i64 (how 3),.int .i64 (inp 3),.bool (sp 3),.bool false,.bool false] rfl rfl (fun j hj=>⟨by rw [Nat.zero_add,(uh hZ).cell hj];rfl,(uh hZ).free _⟩) (by kernel_rfl) (by kernel_rfl) ?_
  refine hK.out _ _ (fun hx=>absurd (hx.symm.trans (by kernel_rfl)) Bool.false_ne_true) ?_
  clear hK K
  refine wpTill_done (by kernel_rfl) ?_ _
  clear hZ
  exact uh hQ' P _ _ _ _ _ ⟨g1,g2,g3,c1,c2,c3,uh hst _ rfl (fun j hj=>by rw [←List.getElem?_toArray];exact Cr.frm_lit s g how inp sp g1 g2 g3 c1 c2 c3 j hj)⟩
 ·go_simp
  have hZ0:Hid (Lie (w0.drew.alloc (.cells #[.int .i64 0,.int .i64 0,.int .i64 0,.int .i64 0,.slice none 0 0,.slice none 0 0,.slice none 0 0,.int .i64 0,.int .i64 0,.int .i64 0,.int .i64 0,.int .i64 0,.int .i64 0,.bool false,.int .i64 0,.int .i64 0,.bool false,.int .i64 0,.int .i64 0,.bool false,.int .i64 0,.int .i64 0,.bool false,.bool false,.bool false] 59)) w0.heap.size 59 25 (fun j=>#[Value.int .i64 0,.int .i64 0,.int .i64 0,.int .i64 0,.slice none 0 0,.slice none 0 0,.slice none 0 0,.int .i64 0,.int .i64 0,.int .i64 0,.int .i64 0,.int .i64 0,.int .i64 0,.bool false,.int .i64 0,.int .i64 0,.bool false,.int .i64 0,.int .i64 0,.bool false,.int .i64 0,.int .i64 0,.bool false,.bool false,.bool false][j]?.getD undef)):=(Arr.lit (heap_alloc_new w0.drew _)).lie
  have hd1:=hide (gal (uh hd0) (.cells #[.int .i64 0,.int .i64 0,.int .i64 0,.int .i64 0,.slice none 0 0,.slice none 0 0,.slice none 0 0,.int .i64 0,.int .i64 0,.int .i64 0,.int .i64 0,.int .i64 0,.int .i64 0,.bool false,.int .i64 0,.int .i64 0,.bool false,.int .i64 0,.int .i64 0,.bool false,.int .i64 0,.int .i64 0,.bool false,.bool false,.bool false] 59))
  have hS1:=uh hkeep _ (uh hd1)
  refine hK.out _ _ (fun _=>uh hkeep _ (uh hd1)) ?_
  clear hK K hS0
  refine wto (j:=1) (by kernel_rfl) rfl (fun K hK=>?_)
  go_simp
  refine (uh hch _ (uh hd1)).mono ?_
  rintro e w2 ⟨g1,g2,g3,c1,c2,c3,rfl,hx1,hg2⟩
  have hZ:=hide ((uh hZ0).on (uh hx1).2.2.2.2.2.2.2.2)
  have hx2:Hid ((32≤c2∧384≤c1)∧w0.heap.size≤g1∧w0.heap.size≤g2∧w0.heap.size≤g3∧g1≠g2∧g1≠g3∧g2≠g3∧Gd.Lists w2 g1 g2 g3 c E I):=by
   obtain ⟨h1,h2,h3,h4,h5,h6,h7,h8,_⟩:=uh hx1
   have:=(uh hd1).size
   exact ⟨h1,by omega,by omega,by omega,h5,h6,h7,h8⟩
  have hS2:=uh hkeep _ (uh hg2)
  try go_simp
  refine hK.out _ _ (fun _=>uh hkeep _ (uh hg2)) ?_
  clear hK K hS1 hx1 hZ0 hd1
  refine wtk (i:=3) (v:=?_) [5] rfl (by kernel_rfl) (by kernel_rfl) (by kernel_rfl) (by kernel_rfl) (fun _ _ _ h=>hP _ _ _ _ _ h) hS2 (Or.inl ⟨by rfl,?_⟩) ?_
  rotate_left
  ·intro x hSx
   try dsimp only at hSx
   go_simp
   try with_reducible rfl
  simp only [Act.put]
  obtain ⟨P,hPe⟩:∃P,w0.heap.size=P:=⟨_,rfl⟩
  have lP:Hid (w0.heap.size≤P):=Nat.le_of_eq hPe
  rw [hPe] at hZ ⊢
  clear hPe
  have hst:=hide (fun vs hv he=>Cr.frm_store (c3:=c3) (how:=how) (inp:=inp) (sp:=sp) (s:=s) (g:=g) vs hv he (uh hZ) (uh lP) (uh hx2) (uh hg2))
  refine wto (j:=5) (by kernel_rfl) rfl (fun K hK=>?_)
  rw [if_pos (by kernel_rfl)]
  refine wp_store_mid 59 (.tmp 5) (.tmp 10) rfl P 0 #[.int .i64 (s 0),.int .i64 (s 1),.int .i64 (s 2),.int .i64 (s 3),.slice (some ⟨g1,0,none⟩) 384 c1,.slice (some ⟨g2,0,none⟩) 32 c2,.slice (some ⟨g3,0,none⟩) 40 c3,.int .i64 (g 0),.int .i64 (g 1),.int .i64 (g 2),.int .i64 (g 3),.int .i64 (how 0),.int .i64 (inp 0),.bool (sp 0),.int .i64 (how 1),.int .i64 (inp 1),.bool (sp 1),.int .i64 (how 2),.int .i64 (inp 2),.bool (sp 2),.int .i64 (how 3),.int .i64 (inp 3),.bool (sp 3),.bool false,.bool false] rfl rfl (fun j hj=>⟨by rw [Nat.zero_add,(uh hZ).cell hj];rfl,(uh hZ).free _⟩) (by kernel_rfl) (by kernel_rfl) ?_
  refine hK.out _ _ (fun hx=>absurd (hx.symm.trans (by kernel_rfl)) Bool.false_ne_true) ?_
  clear hK K
  refine wpTill_done (by kernel_rfl) ?_ _
  clear hZ
  exact uh hQ' P _ _ _ _ _ ⟨g1,g2,g3,c1,c2,c3,uh hst _ rfl (fun j hj=>by rw [←List.getElem?_toArray];exact Cr.frm_lit s g how inp sp g1 g2 g3 c1 c2 c3 j hj)⟩

set_option maxRecDepth 16000 in
set_option maxHeartbeats 25600000 in
theorem cStep_any (s g c:Nat→Int) (E I:Nat→Nat→Int) (gC gE gI cC cE cI:Nat) (how inp:Nat→Int) (sp:Nat→Bool) (w:World) (hL:Gd.Lists w gC gE gI c E I) (hG:Cr.Good ⟨s,g,c,E,I⟩) (hs1:-9223372036854775808≤s 1) (hs2:s 1<9223372036854775807) :
  Calls Tryz.prog 11 #[.agg (Gd.world s gC gE gI cC cE cI g),.agg (Cr.acts how inp sp)] w (Cr.Steps w how inp sp ⟨s,g,c,E,I⟩):=by
 obtain ⟨wz,hwz⟩:∃wz,wz=w.alloc (.cells (Gd.world s gC gE gI cC cE cI g) 28):=⟨_,rfl⟩
 obtain ⟨wy,hwy⟩:∃wy,wy=wz.alloc (.cells (Cr.acts how inp sp) 35):=⟨_,rfl⟩
 obtain ⟨w0,hw0⟩:∃w0,w0=wy.alloc (.cells #[.int .i64 0,.int .i64 0,.int .i64 0,.int .i64 0,.slice none 0 0,.slice none 0 0,.slice none 0 0,.int .i64 0,.int .i64 0,.int .i64 0,.int .i64 0] 28):=⟨_,rfl⟩
 have hgz:w.grownBy wz none:=by rw [hwz];exact World.grownBy_alloc _ _ _
 have hgy:wz.grownBy wy none:=by rw [hwy];exact World.grownBy_alloc _ _ _
 have hg0:wy.grownBy w0 none:=by rw [hw0];exact World.grownBy_alloc _ _ _
 have hGw:=hide (gtr hgz (gtr hgy hg0))
 have sz:wz.heap.size=w.heap.size+1:=by rw [hwz];simp
 have sy:wy.heap.size=w.heap.size+1+1:=by rw [hwy,hwz];simp
 have sw:w0.heap.size=w.heap.size+1+1+1:=by rw [hw0,hwy,hwz];simp
 have hbox:Hid (Lie w0 w.heap.size 28 11 (Gd.box s gC gE gI cC cE cI g)):=by
  refine Lie.on ?_ (gtr hgy hg0)
  rw [hwz]
  exact (Arr.world (heap_alloc_new w _)).lie
 have hac:Hid (Lie w0 (w.heap.size+1) 35 12 (Cr.actF how inp sp)):=by
  refine Lie.on ?_ hg0
  rw [hwy,←sz]
  exact Cr.acts_lie (heap_alloc_new wz _)
 have hres:Hid (Lie w0 (w.heap.size+1+1) 28 11 (fun j=>#[.int .i64 0,.int .i64 0,.int .i64 0,.int .i64 0,.slice none 0 0,.slice none 0 0,.slice none 0 0,.int .i64 0,.int .i64 0,.int .i64 0,Value.int .i64 0][j]?.getD undef)):=by
  show Lie w0 (w.heap.size+1+1) 28 11 (fun j=>#[.int .i64 0,.int .i64 0,.int .i64 0,.int .i64 0,.slice none 0 0,.slice none 0 0,.slice none 0 0,.int .i64 0,.int .i64 0,.int .i64 0,Value.int .i64 0][j]?.getD undef)
  rw [hw0,←sy]
  exact (Arr.lit (heap_alloc_new wy _)).lie
 have hL0:=hide (hL.on (uh hGw))
 have hG':=hide hG
 have hsw:=hide sw
 have hwr:IntKind.i64.wrap (s 1+1)=s 1+1:=by rw [IntKind.wrap_i64];omega
 clear hL hgz hgy hg0 sz sy sw hs1 hs2
 unfold Gd.world at hwz ⊢
 unfold Cr.acts at hwy ⊢
 rw [hwz] at hwy
 rw [hwy] at hw0
 clear hwz hwy
 go_enter Tryz.func11,Tryz.ntmps11
 obtain ⟨B,hB⟩:∃B,w.heap.size=B:=⟨_,rfl⟩
 have hB':=hide hB
 rw [hB] at hbox hac hres hsw
 go_wp2_with fail
 refine wp_scope_ghost 0 (fun m a' w'=>∃(n P g1 g2 g3 c1 c2 c3:Nat) (met left:Bool) (T:Cr.W) (u7 u8 u9 u10 u11 u12 u13 u14 u15 u16 u17 u18 u19 u20 u21 u22 u23 u24 u25 u26 u27 u28 u29 u30 u31 u32 u33 u34 u35 u36 u37 u38 u39 u40 u41 u42 u43 u44 u45 u46:Value),a'={ tmps:=#[.agg #[.int .i64 (s 0),.int .i64 (s 1),.int .i64 (s 2),.int .i64 (s 3),.slice (some ⟨gC,0,none⟩) 384 cC,.slice (some ⟨gE,0,none⟩) 32 cE,.slice (some ⟨gI,0,none⟩) 40 cI,.int .i64 (g 0),.int .i64 (g 1),.int .i64 (g 2),.int .i64 (g 3)],.agg #[.int .i64 (how 0),.int .i64 (inp 0),.bool (sp 0),.int .i64 (how 1),.int .i64 (inp 1),.bool (sp 1),.int .i64 (how 2),.int .i64 (inp 2),.bool (sp 2),.int .i64 (how 3),.int .i64 (inp 3),.bool (sp 3)],.pointer (some ⟨B,0,none⟩),.pointer (some ⟨B+1,0,none⟩),.pointer (some ⟨B+1+1,0,none⟩),.pointer (some ⟨P,0,none⟩),.int .i64 (n:Int),u7,u8,u9,u10,u11,u12,u13,u14,u15,u16,u17,u18,u19,u20,u21,u22,u23,u24,u25,u26,u27,u28,u29,u30,u31,u32,u33,u34,u35,u36,u37,u38,u39,u40,u41,u42,u43,u44,u45,u46],defers:=[] }∧n+m=5∧1≤n∧Hid (s 3=0)∧Hid (Cr.Stage how inp sp ⟨s,g,c,E,I⟩ n met left T)∧Hid (Cr.Frm w0 w' P g1 g2 g3 c1 c2 c3 how inp sp met left T.s T.g T.c T.E T.I)) rfl ?_ ?_
 ·go_upto_region 1 with fail
  rw [←hw0]
  clear hw0 hB
  rename_i K hK
  refine cStep_make s g c E I gC gE gI cC cE cI B how inp sp w0 (uh hbox) (uh hac) (uh hL0) _ _ _ (fun _ _ d _ _ h=>by cases d <;> exact h) (fun P wc u7 u8 u9 u10 hX=>?_)
  refine hK _ _ ?_
  clear hK K
  ·clear hL0
   obtain ⟨g1,g2,g3,c1,c2,c3,hF0⟩:=uh hX
   have hF1:=hide hF0
   have p1:=hF0.eleven.2.1
   have fP:=hF0.box.free
   have hst:=hide (hF0.num 1 (by omega) (s 1+1))
   clear hX hF0
   go_upto_region 3 with fail
   generalize wc.setCell ⟨P,1,none⟩ (.int .i64 (s 1+1))=w2 at hst ⊢
   clear p1 fP hF1
   have b3:w2.cell? ⟨B,3,none⟩=some (.int .i64 (s 3)):=((uh hbox).on (uh hst).grown).cell (c:=3) (by omega)
   have hs3:=hide (And.intro hG.s0 hG.s2)
   obtain ⟨z,hz⟩:∃z,s 3=z:=⟨_,rfl⟩
   have hz':=hide hz
   have hzb:Hid (0≤z∧z≤2):=(show 0≤z∧z≤2 by rw [←hz];exact uh hs3)
   rw [hz] at b3
   clear hz hs3 hac hG
   by_cases hz0:z=0
   ·subst hz0
    have hc:=hide (cCome_any w0 w2 P g1 g2 g3 c1 c2 c3 how inp sp false false _ g c E I (uh hst) (uh hG').sane (uh hG').floor)
    have hst0:Hid (Cr.Stage how inp sp ⟨s,g,c,E,I⟩ 0 false false ⟨Cr.num s 1 (s 1+1),g,c,E,I⟩):=⟨rfl,rfl⟩
    clear hst
    go_wp2_with fail
    go_step3
    go_wp2_with fail
    refine (uh hc).mono ?_
    rintro e w3 ⟨A,hA,rfl,j1,j2,j3,d1,d2,d3,hF3⟩
    have hst2:=hide ((uh hst0).come hA)
    have hF2:=hide hF3
    clear hA hF3 hc hst0
    go_wp2_with fail
    go_step3
    exact ⟨rfl,4,1,P,j1,j2,j3,d1,d2,d3,Cr.manned A,false,⟨Cr.num s 1 (s 1+1),g,c,A,I⟩,_,_,_,_,_,_,_,_,_,_,_,_,_,_,_,_,_,_,_,_,_,_,_,_,_,_,_,_,_,_,_,_,_,_,_,_,_,_,_,_,rfl,by omega,by omega,hz',hst2,hF2⟩
   ·have hstep:Hid (Cr.IsStep how inp sp ⟨s,g,c,E,I⟩ ⟨Cr.num s 1 (s 1+1),g,c,E,I⟩):=(show Cr.IsStep how inp sp ⟨s,g,c,E,I⟩ _ by unfold Cr.IsStep;rw [if_pos (show s 3≠0 by rw [uh hz'];exact hz0)])
    obtain ⟨T,hT⟩:∃T:Cr.W,T=⟨Cr.num s 1 (s 1+1),g,c,E,I⟩:=⟨_,rfl⟩
    have hF:Hid (Cr.Frm w0 w2 P g1 g2 g3 c1 c2 c3 how inp sp false false T.s T.g T.c T.E T.I):=by rw [hT];exact uh hst
    rw [←hT] at hstep
    clear hst hT hz'
    rcases (show z=1∨z=2 by have:=uh hzb;omega) with rfl | rfl
    ·clear hz0 hzb
     go_wp2_with fail
     go_step3
     go_upto_region 18 with fail
     obtain ⟨b0,b1,b2,b3,b4,b5,b6,b7,b8,b9,b10⟩:=(uh hF).eleven
     have hr:=hide ((uh hres).on (uh hF).grown)
     have fz:=(uh hr).free
     obtain ⟨z0,z1,z2,z3,z4,z5,z6,z7,z8,z9,z10⟩:=Gd.res_cells (uh hr)
     have hfo:Hid (∀vs,Cr.Steps w how inp sp ⟨s,g,c,E,I⟩ (.returned (.agg (Gd.world T.s g1 g2 g3 c1 c2 c3 T.g))) (w2.setCells (B+1+1) 0 vs)):=fun vs=>by
      have q1:=(uh hr).type_ne (uh hF).lists.cells (by decide)
      have q2:=(uh hr).type_ne (uh hF).lists.ents (by decide)
      have q3:=(uh hr).type_ne (uh hF).lists.items (by decide)
      have k1:=(uh hF).lC
      have k2:=(uh hF).lE
      have k3:=(uh hF).lI
      have k4:=(uh hGw).size
      have k5:=uh hB'
      exact ⟨T,uh hstep,g1,g2,g3,c1,c2,c3,rfl,(uh hF).cap,by omega,by omega,by omega,(uh hF).cE,(uh hF).cI,(uh hF).eI,⟨(uh hF).lists.cells.others q1 _ _,(uh hF).lists.ents.others q2 _ _,(uh hF).lists.items.others q3 _ _⟩,own_sets (by omega) _ 0 w2 (gtr (uh hGw) (uh hF).grown)⟩
     clear hr hF
     go_wp2
     refine bodyPost_ret (v:=.agg (Gd.world T.s g1 g2 g3 c1 c2 c3 T.g)) (by simp [results,Tryz.results11,go_sem,Gd.world,z0,z1,z2,z3,z4,z5,z6,z7,z8,z9,z10]) rfl ?_
     exact uh hfo [_,_,_,_,_,_,_,_,_,_,_]
    ·clear hz0 hzb
     go_wp2_with fail
     go_step3
     go_upto_region 18 with fail
     obtain ⟨b0,b1,b2,b3,b4,b5,b6,b7,b8,b9,b10⟩:=(uh hF).eleven
     have hr:=hide ((uh hres).on (uh hF).grown)
     have fz:=(uh hr).free
     obtain ⟨z0,z1,z2,z3,z4,z5,z6,z7,z8,z9,z10⟩:=Gd.res_cells (uh hr)
     have hfo:Hid (∀vs,Cr.Steps w how inp sp ⟨s,g,c,E,I⟩ (.returned (.agg (Gd.world T.s g1 g2 g3 c1 c2 c3 T.g))) (w2.setCells (B+1+1) 0 vs)):=fun vs=>by
      have q1:=(uh hr).type_ne (uh hF).lists.cells (by decide)
      have q2:=(uh hr).type_ne (uh hF).lists.ents (by decide)
      have q3:=(uh hr).type_ne (uh hF).lists.items (by decide)
      have k1:=(uh hF).lC
      have k2:=(uh hF).lE
      have k3:=(uh hF).lI
      have k4:=(uh hGw).size
      have k5:=uh hB'
      exact ⟨T,uh hstep,g1,g2,g3,c1,c2,c3,rfl,(uh hF).cap,by omega,by omega,by omega,(uh hF).cE,(uh hF).cI,(uh hF).eI,⟨(uh hF).lists.cells.others q1 _ _,(uh hF).lists.ents.others q2 _ _,(uh hF).lists.items.others q3 _ _⟩,own_sets (by omega) _ 0 w2 (gtr (uh hGw) (uh hF).grown)⟩
     clear hr hF
     go_wp2
     refine bodyPost_ret (v:=.agg (Gd.world T.s g1 g2 g3 c1 c2 c3 T.g)) (by simp [results,Tryz.results11,go_sem,Gd.world,z0,z1,z2,z3,z4,z5,z6,z7,z8,z9,z10]) rfl ?_
     exact uh hfo [_,_,_,_,_,_,_,_,_,_,_]
 ·rintro m a' w2 ⟨n,P,g1,g2,g3,c1,c2,c3,met,left,T,u7,u8,u9,u10,u11,u12,u13,u14,u15,u16,u17,u18,u19,u20,u21,u22,u23,u24,u25,u26,u27,u28,u29,u30,u31,u32,u33,u34,u35,u36,u37,u38,u39,u40,u41,u42,u43,u44,u45,u46,rfl,hm,hn,h0,hst,hF⟩
  clear hL0 hbox hac hB hw0
  rcases (show n=1∨n=2∨n=3∨n=4∨n=5 by omega) with rfl | rfl | rfl | rfl | rfl
  ·have hfit:=hide ((uh hst).fit (uh hG') (by omega))
   have hc:=hide (cAct_any w0 w2 P g1 g2 g3 c1 c2 c3 how inp sp met left T.s T.g T.c T.E T.I (uh hF) (uh hfit).1 (uh hfit).2.1)
   go_wp2_with fail
   refine (uh hc).mono ?_
   rintro e w3 ⟨m,hm,rfl,j1,j2,j3,d1,d2,d3,hF3⟩
   have hst2:=hide ((uh hst).act hm)
   have hF2:=hide hF3
   clear hm hF3 hc hfit hF hst
   go_wp2_with fail
   go_step3
   exact ⟨rfl,3,by omega,2,P,j1,j2,j3,d1,d2,d3,met,m.left,⟨T.s,m.g,T.c,m.E,m.I⟩,_,_,_,_,_,_,_,_,_,_,_,_,_,_,_,_,_,_,_,_,_,_,_,_,_,_,_,_,_,_,_,_,_,_,_,_,_,_,_,_,rfl,by omega,by omega,h0,hst2,hF2⟩
  ·have hfit:=hide ((uh hst).fit (uh hG') (by omega))
   have hc:=hide (cHunt_any w0 w2 P g1 g2 g3 c1 c2 c3 how inp sp met left T.s T.g T.c T.E T.I (uh hF) (uh hfit).1)
   go_wp2_with fail
   refine (uh hc).mono ?_
   rintro e w3 ⟨F,J,hp,rfl,j1,j2,j3,d1,d2,d3,hF3⟩
   have hst2:=hide ((uh hst).hunt hp)
   have hF2:=hide hF3
   clear hp hF3 hc hfit hF hst
   go_wp2_with fail
   go_step3
   exact ⟨rfl,2,by omega,3,P,j1,j2,j3,d1,d2,d3,met,left,⟨T.s,T.g,T.c,F,J⟩,_,_,_,_,_,_,_,_,_,_,_,_,_,_,_,_,_,_,_,_,_,_,_,_,_,_,_,_,_,_,_,_,_,_,_,_,_,_,_,_,rfl,by omega,by omega,h0,hst2,hF2⟩
  ·have hfit:=hide ((uh hst).fit (uh hG') (by omega))
   have hc:=hide (cAil_any w0 w2 P g1 g2 g3 c1 c2 c3 how inp sp met left T.s T.g T.c T.E T.I (uh hF) (uh hfit).1 (uh hfit).2.2.1)
   go_wp2_with fail
   refine (uh hc).mono ?_
   rintro e w3 ⟨rfl,j1,j2,j3,d1,d2,d3,hF3⟩
   have hst2:=hide ((uh hst).ail)
   have hF2:=hide hF3
   clear hF3 hc hfit hF hst
   go_wp2_with fail
   go_step3
   exact ⟨rfl,1,by omega,4,P,j1,j2,j3,d1,d2,d3,met,left,⟨T.s,T.g,T.c,Cr.rats T.s T.c (Ft.ailE T.E T.I 32).1,(Ft.ailE T.E T.I 32).2⟩,_,_,_,_,_,_,_,_,_,_,_,_,_,_,_,_,_,_,_,_,_,_,_,_,_,_,_,_,_,_,_,_,_,_,_,_,_,_,_,_,rfl,by omega,by omega,h0,hst2,hF2⟩
  ·have hfit:=hide ((uh hst).fit (uh hG') (by omega))
   have hc:=hide (cEnd_any w0 w2 P g1 g2 g3 c1 c2 c3 how inp sp met left T.s T.g T.c T.E T.I (uh hF) (uh hfit).1 (uh hfit).2.2.2.1 (uh hfit).2.2.2.2)
   go_wp2_with fail
   refine (uh hc).mono ?_
   rintro e w3 ⟨U,hU,rfl,j1,j2,j3,d1,d2,d3,hF3⟩
   have hst2:=hide ((uh hst).ends (uh h0) hU)
   have hF2:=hide hF3
   clear hU hF3 hc hfit hF hst
   go_wp2_with fail
   go_step3
   exact ⟨rfl,0,by omega,5,P,j1,j2,j3,d1,d2,d3,met,left,U,_,_,_,_,_,_,_,_,_,_,_,_,_,_,_,_,_,_,_,_,_,_,_,_,_,_,_,_,_,_,_,_,_,_,_,_,_,_,_,_,rfl,by omega,by omega,h0,hst2,hF2⟩
  ·have hstep:Hid (Cr.IsStep how inp sp ⟨s,g,c,E,I⟩ T):=uh hst
   clear hst h0
   go_upto_region 18 with fail
   obtain ⟨b0,b1,b2,b3,b4,b5,b6,b7,b8,b9,b10⟩:=(uh hF).eleven
   have hr:=hide ((uh hres).on (uh hF).grown)
   have fz:=(uh hr).free
   obtain ⟨z0,z1,z2,z3,z4,z5,z6,z7,z8,z9,z10⟩:=Gd.res_cells (uh hr)
   have hfo:Hid (∀vs,Cr.Steps w how inp sp ⟨s,g,c,E,I⟩ (.returned (.agg (Gd.world T.s g1 g2 g3 c1 c2 c3 T.g))) (w2.setCells (B+1+1) 0 vs)):=fun vs=>by
    have q1:=(uh hr).type_ne (uh hF).lists.cells (by decide)
    have q2:=(uh hr).type_ne (uh hF).lists.ents (by decide)
    have q3:=(uh hr).type_ne (uh hF).lists.items (by decide)
    have k1:=(uh hF).lC
    have k2:=(uh hF).lE
    have k3:=(uh hF).lI
    have k4:=(uh hGw).size
    have k5:=uh hB'
    exact ⟨T,uh hstep,g1,g2,g3,c1,c2,c3,rfl,(uh hF).cap,by omega,by omega,by omega,(uh hF).cE,(uh hF).cI,(uh hF).eI,⟨(uh hF).lists.cells.others q1 _ _,(uh hF).lists.ents.others q2 _ _,(uh hF).lists.items.others q3 _ _⟩,own_sets (by omega) _ 0 w2 (gtr (uh hGw) (uh hF).grown)⟩
   clear hr hF
   go_wp2
   refine bodyPost_ret (v:=.agg (Gd.world T.s g1 g2 g3 c1 c2 c3 T.g)) (by simp [results,Tryz.results11,go_sem,Gd.world,z0,z1,z2,z3,z4,z5,z6,z7,z8,z9,z10]) rfl ?_
   exact uh hfo [_,_,_,_,_,_,_,_,_,_,_]

end Go.Proofs.YtbanjoflgoiegabGreat
