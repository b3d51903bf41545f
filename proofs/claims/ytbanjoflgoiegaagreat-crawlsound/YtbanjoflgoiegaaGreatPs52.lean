import Derived.Test.YtbanjoflgoiegaaGreatPs47
import Derived.Test.YtbanjoflgoiegaaGreatPs48
import Derived.Test.YtbanjoflgoiegaaGreatPs51
import Derived.Deep.MidRow
namespace Go.Proofs.YtbanjoflgoiegaaGreat
open Go.RowKit

theorem wpTill_two {P:Program} {ops:Array Oper} {Q:Exit→Act→World→Prop} {md:Region.Mode} {S:World→Prop} {i j h:Nat} {oi oj:Oper} {n:Nat} {up:Array Bool} {a:Act} {w:World} (hr:Region.ready md ops up=[i,j]) (hoi:ops[i]?=some oi) (hoj:ops[j]?=some oj)
  (H1:∀K:Act→World→Prop,Shut (∀b x,((up.setIfInBounds i true).getD h true=false→S x)→wpTill P md ops Q S h n (up.setIfInBounds i true) b x→K b x)→if Region.wanted oi (yielded ops a.tmps)=true then Oper.wp P oi a w K Q else K (a.put oi.dst undef) w)
  (H2:∀K:Act→World→Prop,Shut (∀b x,((up.setIfInBounds j true).getD h true=false→S x)→wpTill P md ops Q S h n (up.setIfInBounds j true) b x→K b x)→if Region.wanted oj (yielded ops a.tmps)=true then Oper.wp P oj a w K Q else K (a.put oj.dst undef) w) :
  wpTill P md ops Q S h (n+1) up a w:=by
 refine ⟨fun g=>(by rw [hr] at g;cases g),fun k hk=>?_⟩
 rw [hr] at hk
 rcases (show k=i∨k=j by simpa using hk) with rfl | rfl
 ·exact wpOp_step hoi (fun K hK=>H1 K (fun b x h1 h2=>hK b x ⟨h1,h2⟩))
 ·exact wpOp_step hoj (fun K hK=>H2 K (fun b x h1 h2=>hK b x ⟨h1,h2⟩))

def Cr.Steps (w:World) (how inp:Nat→Int) (sp:Nat→Bool) (S:Cr.W) (e:Ending) (w':World):Prop:=∃T,Cr.IsStep how inp sp S T∧Gd.WorldsW w T.s T.g T.c T.E T.I e w'

theorem Cr.frm_new {w0 x y:World} {P g1 g2 g3 c1 c2 c3:Nat} {how inp:Nat→Int} {sp:Nat→Bool} {s g c:Nat→Int} {E I:Nat→Nat→Int} {H:Nat→Value} (hH:Lie y P 64 25 H) (he:∀j,j<25→H j=Cr.frm s g1 g2 g3 c1 c2 c3 g how inp sp false false j) (hcap:32≤c2∧384≤c1) (l1:w0.heap.size≤g1) (l2:w0.heap.size≤g2) (l3:w0.heap.size≤g3) (n1:g1≠g2) (n2:g1≠g3) (n3:g2≠g3) (hL:Gd.Lists x g1 g2 g3 c E I) (hx:∀g,g<x.heap.size→g≠P→y.heap[g]?=x.heap[g]?) (lP:w0.heap.size≤P) (hg:w0.grownBy y none) (nP:P≠g1∧P≠g2∧P≠g3) :
  Cr.Frm w0 y P g1 g2 g3 c1 c2 c3 how inp sp false false s g c E I:=by
 have mv:∀{G:Nat} {T:TypeId} {m:Nat} {F:Nat→Value},Lie x G T m F→P≠G→Lie y G T m F:=fun {G T m F} h hn=>by
  obtain ⟨M,K,⟨cur,hc,h1,h2⟩,h3,h4⟩:=h
  exact ⟨M,K,⟨cur,(hx G (lt_of_block hc) hn.symm).trans hc,h1,h2⟩,h3,h4⟩
 exact ⟨hH.congr he,⟨mv hL.cells nP.1,mv hL.ents nP.2.1,mv hL.items nP.2.2⟩,hcap,lP,l1,l2,l3,n1,n2,n3,hg⟩

theorem Cr.frm_store {w0 x:World} {P g1 g2 g3 c1 c2 c3:Nat} {how inp:Nat→Int} {sp:Nat→Bool} {s g c:Nat→Int} {E I:Nat→Nat→Int} {H:Nat→Value} (vs:List Value) (hv:vs.length=25) (he:∀j,j<25→vs[j]?.getD undef=Cr.frm s g1 g2 g3 c1 c2 c3 g how inp sp false false j) (hZ:Lie x P 64 25 H) (lP:w0.heap.size≤P) (h:(32≤c2∧384≤c1)∧w0.heap.size≤g1∧w0.heap.size≤g2∧w0.heap.size≤g3∧g1≠g2∧g1≠g3∧g2≠g3∧Gd.Lists x g1 g2 g3 c E I) (hg:w0.grownBy x none) :
  Cr.Frm w0 (x.setCells P 0 vs) P g1 g2 g3 c1 c2 c3 how inp sp false false s g c E I:=by
 obtain ⟨hcap,l1,l2,l3,n1,n2,n3,hL⟩:=h
 have r:=gss (g:=P) vs 0 x (World.grownBy.refl _ _)
 refine Cr.frm_new (x:=x) (hZ.stores 0 vs) (fun j hj=>?_) hcap l1 l2 l3 n1 n2 n3 hL (fun k hk hn=>r.block k hk (by simp;omega)) lP (own_sets lP vs 0 x hg) ⟨hZ.type_ne hL.cells (by decide),hZ.type_ne hL.ents (by decide),hZ.type_ne hL.items (by decide)⟩
 rw [if_pos (by omega),Nat.sub_zero]
 exact he j hj

theorem Cr.frm_lit (s g how inp:Nat→Int) (sp:Nat→Bool) (g1 g2 g3 c1 c2 c3:Nat):∀j,j<25→#[.int .i64 (s 0),.int .i64 (s 1),.int .i64 (s 2),.int .i64 (s 3),.slice (some ⟨g1,0,none⟩) 384 c1,.slice (some ⟨g2,0,none⟩) 32 c2,.slice (some ⟨g3,0,none⟩) 40 c3,.int .i64 (g 0),.int .i64 (g 1),.int .i64 (g 2),.int .i64 (g 3),.int .i64 (how 0),.int .i64 (inp 0),.bool (sp 0),.int .i64 (how 1),.int .i64 (inp 1),.bool (sp 1),.int .i64 (how 2),.int .i64 (inp 2),.bool (sp 2),.int .i64 (how 3),.int .i64 (inp 3),.bool (sp 3),Value.bool false,Value.bool false][j]?.getD undef=Cr.frm s g1 g2 g3 c1 c2 c3 g how inp sp false false j:=fun j hj=>by
 rcases (show j=0∨j=1∨j=2∨j=3∨j=4∨j=5∨j=6∨j=7∨j=8∨j=9∨j=10∨j=11∨j=12∨j=13∨j=14∨j=15∨j=16∨j=17∨j=18∨j=19∨j=20∨j=21∨j=22∨j=23∨j=24 by omega) with rfl | rfl | rfl | rfl | rfl | rfl | rfl | rfl | rfl | rfl | rfl | rfl | rfl | rfl | rfl | rfl | rfl | rfl | rfl | rfl | rfl | rfl | rfl | rfl | rfl <;> rfl

def Cr.inside:Code→Code
 | .scope c=>c
 | c=>c

def Cr.fst:Code→Code
 | .seq a _=>a
 | c=>c

def Cr.snd:Code→Code
 | .seq _ b=>b
 | c=>c

set_option maxRecDepth 16000 in
set_option maxHeartbeats 25600000 in
theorem cStep_make (s g c:Nat→Int) (E I:Nat→Nat→Int) (gC gE gI cC cE cI B:Nat) (how inp:Nat→Int) (sp:Nat→Bool) (w0:World) (hbox':Lie w0 B 30 11 (Gd.box s gC gE gI cC cE cI g)) (hac':Lie w0 (B+1) 36 12 (Cr.actF how inp sp)) (hL0':Gd.Lists w0 gC gE gI c E I) (a0 a1:Value) (Q:Exit→Act→World→Prop)
  (hP:∀c (a:Act) d v w,Q (.panic c) (a.put d v) w→Q (.panic c) a w) (hQ:∀(P:Nat) (wx:World) (u7 u8 u9 u10:Value),Hid (∃g1 g2 g3 c1 c2 c3,Cr.Frm w0 wx P g1 g2 g3 c1 c2 c3 how inp sp false false s g c E I)→Q .normal ⟨#[a0,a1,.pointer (some ⟨B,0,none⟩),.pointer (some ⟨B+1,0,none⟩),.pointer (some ⟨B+1+1,0,none⟩),.pointer (some ⟨P,0,none⟩),undef,u7,u8,u9,u10,undef,undef,undef,undef,undef,undef,undef,undef,undef,undef,undef,undef,undef,undef,undef,undef,undef,undef,undef,undef,undef,undef,undef,undef,undef,undef,undef,undef,undef,undef,undef,undef,undef,undef,undef,undef],[]⟩ wx) :
  Code.wp Tryz.prog (Cr.fst (Cr.inside (Cr.snd ((Tryz.f15.body).getD .skip)))) Q ⟨#[a0,a1,.pointer (some ⟨B,0,none⟩),.pointer (some ⟨B+1,0,none⟩),.pointer (some ⟨B+1+1,0,none⟩),undef,undef,undef,undef,undef,undef,undef,undef,undef,undef,undef,undef,undef,undef,undef,undef,undef,undef,undef,undef,undef,undef,undef,undef,undef,undef,undef,undef,undef,undef,undef,undef,undef,undef,undef,undef,undef,undef,undef,undef,undef,undef],[]⟩ w0:=by
 conv=>arg 2;whnf
 have hbox:=hide hbox'
 have hac:=hide hac'
 have hL0:=hide hL0'
 clear hbox' hac' hL0'
 have hkeep:Hid (∀z,w0.grownBy z none→(z.cell? ⟨B,0,none⟩=some (.int .i64 (s 0))∧z.cell? ⟨B,1,none⟩=some (.int .i64 (s 1))∧z.cell? ⟨B,2,none⟩=some (.int .i64 (s 2))∧z.cell? ⟨B,3,none⟩=some (.int .i64 (s 3))∧z.cell? ⟨B,4,none⟩=some (.slice (some ⟨gC,0,none⟩) 384 cC)∧z.cell? ⟨B,5,none⟩=some (.slice (some ⟨gE,0,none⟩) 32 cE)∧z.cell? ⟨B,6,none⟩=some (.slice (some ⟨gI,0,none⟩) 40 cI)∧z.cell? ⟨B,7,none⟩=some (.int .i64 (g 0))∧z.cell? ⟨B,8,none⟩=some (.int .i64 (g 1))∧z.cell? ⟨B,9,none⟩=some (.int .i64 (g 2))∧z.cell? ⟨B,10,none⟩=some (.int .i64 (g 3)))∧(z.cell? ⟨B+1,0,none⟩=some (.int .i64 (how 0))∧z.cell? ⟨B+1,1,none⟩=some (.int .i64 (inp 0))∧z.cell? ⟨B+1,2,none⟩=some (.bool (sp 0))∧z.cell? ⟨B+1,3,none⟩=some (.int .i64 (how 1))∧z.cell? ⟨B+1,4,none⟩=some (.int .i64 (inp 1))∧z.cell? ⟨B+1,5,none⟩=some (.bool (sp 1))∧z.cell? ⟨B+1,6,none⟩=some (.int .i64 (how 2))∧z.cell? ⟨B+1,7,none⟩=some (.int .i64 (inp 2))∧z.cell? ⟨B+1,8,none⟩=some (.bool (sp 2))∧z.cell? ⟨B+1,9,none⟩=some (.int .i64 (how 3))∧z.cell? ⟨B+1,10,none⟩=some (.int .i64 (inp 3))∧z.cell? ⟨B+1,11,none⟩=some (.bool (sp 3)))):=fun z hz=>⟨((uh hbox).on hz).eleven,(fun (h:Lie z (B+1) 36 12 (Cr.actF how inp sp))=>⟨h.cell (c:=0) (by omega),h.cell (c:=1) (by omega),h.cell (c:=2) (by omega),h.cell (c:=3) (by omega),h.cell (c:=4) (by omega),h.cell (c:=5) (by omega),h.cell (c:=6) (by omega),h.cell (c:=7) (by omega),h.cell (c:=8) (by omega),h.cell (c:=9) (by omega),h.cell (c:=10) (by omega),h.cell (c:=11) (by omega)⟩) ((uh hac).on hz)⟩
 have hch:Hid (∀z,w0.grownBy z none→Calls Tryz.prog 28 #[.agg #[.int .i64 (s 0),.int .i64 (s 1),.int .i64 (s 2),.int .i64 (s 3),.slice (some ⟨gC,0,none⟩) 384 cC,.slice (some ⟨gE,0,none⟩) 32 cE,.slice (some ⟨gI,0,none⟩) 40 cI,.int .i64 (g 0),.int .i64 (g 1),.int .i64 (g 2),.int .i64 (g 3)]] z fun e y=>∃g1 g2 g3 c1 c2 c3,e=.returned (.agg #[.int .i64 (s 0),.int .i64 (s 1),.int .i64 (s 2),.int .i64 (s 3),.slice (some ⟨g1,0,none⟩) 384 c1,.slice (some ⟨g2,0,none⟩) 32 c2,.slice (some ⟨g3,0,none⟩) 40 c3,.int .i64 (g 0),.int .i64 (g 1),.int .i64 (g 2),.int .i64 (g 3)])∧Hid ((32≤c2∧384≤c1)∧z.heap.size≤g1∧z.heap.size≤g2∧z.heap.size≤g3∧g1≠g2∧g1≠g3∧g2≠g3∧Gd.Lists y g1 g2 g3 c E I∧z.grownBy y none)∧Hid (w0.grownBy y none)):=fun z hz=>(crawlApart_wide s g c E I gC gE gI cC cE cI z ((uh hL0).on hz)).mono fun e y ⟨g1,g2,g3,c1,c2,c3,h1,h2,h3,h4,h5,h6,h7,h8,h9,h10⟩=>⟨g1,g2,g3,c1,c2,c3,h1,⟨h2,h3,h4,h5,h6,h7,h8,h9,h10⟩,gtr hz h10⟩
 have hd0:=hide (gd1 (World.grownBy.refl w0 none))
 have hQ':=hide hQ
 clear hQ
 refine wp_region_till (h:=5) (S:=fun x=>(x.cell? ⟨B,0,none⟩=some (.int .i64 (s 0))∧x.cell? ⟨B,1,none⟩=some (.int .i64 (s 1))∧x.cell? ⟨B,2,none⟩=some (.int .i64 (s 2))∧x.cell? ⟨B,3,none⟩=some (.int .i64 (s 3))∧x.cell? ⟨B,4,none⟩=some (.slice (some ⟨gC,0,none⟩) 384 cC)∧x.cell? ⟨B,5,none⟩=some (.slice (some ⟨gE,0,none⟩) 32 cE)∧x.cell? ⟨B,6,none⟩=some (.slice (some ⟨gI,0,none⟩) 40 cI)∧x.cell? ⟨B,7,none⟩=some (.int .i64 (g 0))∧x.cell? ⟨B,8,none⟩=some (.int .i64 (g 1))∧x.cell? ⟨B,9,none⟩=some (.int .i64 (g 2))∧x.cell? ⟨B,10,none⟩=some (.int .i64 (g 3)))∧(x.cell? ⟨B+1,0,none⟩=some (.int .i64 (how 0))∧x.cell? ⟨B+1,1,none⟩=some (.int .i64 (inp 0))∧x.cell? ⟨B+1,2,none⟩=some (.bool (sp 0))∧x.cell? ⟨B+1,3,none⟩=some (.int .i64 (how 1))∧x.cell? ⟨B+1,4,none⟩=some (.int .i64 (inp 1))∧x.cell? ⟨B+1,5,none⟩=some (.bool (sp 1))∧x.cell? ⟨B+1,6,none⟩=some (.int .i64 (how 2))∧x.cell? ⟨B+1,7,none⟩=some (.int .i64 (inp 2))∧x.cell? ⟨B+1,8,none⟩=some (.bool (sp 2))∧x.cell? ⟨B+1,9,none⟩=some (.int .i64 (how 3))∧x.cell? ⟨B+1,10,none⟩=some (.int .i64 (inp 3))∧x.cell? ⟨B+1,11,none⟩=some (.bool (sp 3)))) (by kernel_rfl) ?_
 have hS0:=uh hkeep _ (uh hd0)
 refine wtk (i:=0) (v:=?_) [5] rfl (by kernel_rfl) (by kernel_rfl) (by kernel_rfl) (by kernel_rfl) (fun _ _ _ h=>hP _ _ _ _ _ h) hS0 (Or.inl ⟨by rfl,?_⟩) ?_
 rotate_left
 ·intro x hSx
  try dsimp only at hSx
  go_simp
  try with_reducible rfl
 simp only [Act.put]
 refine wtk (i:=2) (v:=?_) [5] rfl (by kernel_rfl) (by kernel_rfl) (by kernel_rfl) (by kernel_rfl) (fun _ _ _ h=>hP _ _ _ _ _ h) hS0 (Or.inl ⟨by rfl,?_⟩) ?_
 rotate_left
 ·intro x hSx
  try dsimp only at hSx
  go_simp
  try with_reducible rfl
 simp only [Act.put]
 refine wpTill_two (i:=1) (j:=4) (by kernel_rfl) rfl rfl (fun K hK=>?_) (fun K hK=>?_)
 ·go_simp
  refine (uh hch _ (uh hd0)).mono ?_
  rintro e w1 ⟨g1,g2,g3,c1,c2,c3,rfl,hx1,hg1⟩
  have hS1:=uh hkeep _ (uh hg1)
  try go_simp
  refine hK.out _ _ (fun _=>uh hkeep _ (uh hg1)) ?_
  clear hK K hS0
  refine wtk (i:=3) (v:=?_) [5] rfl (by kernel_rfl) (by kernel_rfl) (by kernel_rfl) (by kernel_rfl) (fun _ _ _ h=>hP _ _ _ _ _ h) hS1 (Or.inl ⟨by rfl,?_⟩) ?_
  rotate_left
  ·intro x hSx
   try dsimp only at hSx
   go_simp
   try with_reducible rfl
  simp only [Act.put]
  refine wto (j:=4) (by kernel_rfl) rfl (fun K hK=>?_)
  go_simp
  have hZ:Hid (Lie (w1.alloc (.cells #[.int .i64 0,.int .i64 0,.int .i64 0,.int .i64 0,.slice none 0 0,.slice none 0 0,.slice none 0 0,.int .i64 0,.int .i64 0,.int .i64 0,.int .i64 0,.int .i64 0,.int .i64 0,.bool false,.int .i64 0,.int .i64 0,.bool false,.int .i64 0,.int .i64 0,.bool false,.int .i64 0,.int .i64 0,.bool false,.bool false,.bool false] 64)) w1.heap.size 64 25 (fun j=>#[Value.int .i64 0,.int .i64 0,.int .i64 0,.int .i64 0,.slice none 0 0,.slice none 0 0,.slice none 0 0,.int .i64 0,.int .i64 0,.int .i64 0,.int .i64 0,.int .i64 0,.int .i64 0,.bool false,.int .i64 0,.int .i64 0,.bool false,.int .i64 0,.int .i64 0,.bool false,.int .i64 0,.int .i64 0,.bool false,.bool false,.bool false][j]?.getD undef)):=(Arr.lit (heap_alloc_new w1 _)).lie
  have hg2:=hide (gal (uh hg1) (.cells #[.int .i64 0,.int .i64 0,.int .i64 0,.int .i64 0,.slice none 0 0,.slice none 0 0,.slice none 0 0,.int .i64 0,.int .i64 0,.int .i64 0,.int .i64 0,.int .i64 0,.int .i64 0,.bool false,.int .i64 0,.int .i64 0,.bool false,.int .i64 0,.int .i64 0,.bool false,.int .i64 0,.int .i64 0,.bool false,.bool false,.bool false] 64))
  have hx2:Hid ((32≤c2∧384≤c1)∧w0.heap.size≤g1∧w0.heap.size≤g2∧w0.heap.size≤g3∧g1≠g2∧g1≠g3∧g2≠g3∧Gd.Lists (w1.alloc (.cells #[.int .i64 0,.int .i64 0,.int .i64 0,.int .i64 0,.slice none 0 0,.slice none 0 0,.slice none 0 0,.int .i64 0,.int .i64 0,.int .i64 0,.int .i64 0,.int .i64 0,.int .i64 0,.bool false,.int .i64 0,.int .i64 0,.bool false,.int .i64 0,.int .i64 0,.bool false,.int .i64 0,.int .i64 0,.bool false,.bool false,.bool false] 64)) g1 g2 g3 c E I):=by
   obtain ⟨h1,h2,h3,h4,h5,h6,h7,h8,_⟩:=uh hx1
   have:=(uh hd0).size
   exact ⟨h1,by omega,by omega,by omega,h5,h6,h7,h8.on (World.grownBy_alloc _ _ _)⟩
  have lP:=hide (uh hg1).size
  refine hK.out _ _ (fun _=>uh hkeep _ (uh hg2)) ?_
  clear hK K hS1 hx1
  generalize w1.alloc (.cells #[.int .i64 0,.int .i64 0,.int .i64 0,.int .i64 0,.slice none 0 0,.slice none 0 0,.slice none 0 0,.int .i64 0,.int .i64 0,.int .i64 0,.int .i64 0,.int .i64 0,.int .i64 0,.bool false,.int .i64 0,.int .i64 0,.bool false,.int .i64 0,.int .i64 0,.bool false,.int .i64 0,.int .i64 0,.bool false,.bool false,.bool false] 64)=w2 at hZ hg2 hx2 ⊢
  generalize w1.heap.size=P at hZ lP ⊢
  have hst:=hide (fun vs hv he=>Cr.frm_store (c3:=c3) (how:=how) (inp:=inp) (sp:=sp) (s:=s) (g:=g) vs hv he (uh hZ) (uh lP) (uh hx2) (uh hg2))
  refine wto (j:=5) (by kernel_rfl) rfl (fun K hK=>?_)
  rw [if_pos (by kernel_rfl)]
  refine wp_store_mid 64 (.tmp 5) (.tmp 10) rfl P 0 #[.int .i64 (s 0),.int .i64 (s 1),.int .i64 (s 2),.int .i64 (s 3),.slice (some ⟨g1,0,none⟩) 384 c1,.slice (some ⟨g2,0,none⟩) 32 c2,.slice (some ⟨g3,0,none⟩) 40 c3,.int .i64 (g 0),.int .i64 (g 1),.int .i64 (g 2),.int .i64 (g 3),.int .i64 (how 0),.int .i64 (inp 0),.bool (sp 0),.int .i64 (how 1),.int .i64 (inp 1),.bool (sp 1),.int .i64 (how 2),.int .i64 (inp 2),.bool (sp 2),.int .i64 (how 3),.int .i64 (inp 3),.bool (sp 3),.bool false,.bool false] rfl rfl (fun j hj=>⟨by rw [Nat.zero_add,(uh hZ).cell hj];rfl,(uh hZ).free _⟩) (by kernel_rfl) (by kernel_rfl) ?_
  refine hK.out _ _ (fun hx=>absurd (hx.symm.trans (by kernel_rfl)) Bool.false_ne_true) ?_
  clear hK K
  refine wpTill_done (by kernel_rfl) ?_ _
  clear hZ
  exact uh hQ' P _ _ _ _ _ ⟨g1,g2,g3,c1,c2,c3,uh hst _ rfl (fun j hj=>by rw [←List.getElem?_toArray];exact Cr.frm_lit s g how inp sp g1 g2 g3 c1 c2 c3 j hj)⟩
 ·go_simp
  have hZ0:Hid (Lie (w0.drew.alloc (.cells #[.int .i64 0,.int .i64 0,.int .i64 0,.int .i64 0,.slice none 0 0,.slice none 0 0,.slice none 0 0,.int .i64 0,.int .i64 0,.int .i64 0,.int .i64 0,.int .i64 0,.int .i64 0,.bool false,.int .i64 0,.int .i64 0,.bool false,.int .i64 0,.int .i64 0,.bool false,.int .i64 0,.int .i64 0,.bool false,.bool false,.bool false] 64)) w0.heap.size 64 25 (fun j=>#[Value.int .i64 0,.int .i64 0,.int .i64 0,.int .i64 0,.slice none 0 0,.slice none 0 0,.slice none 0 0,.int .i64 0,.int .i64 0,.int .i64 0,.int .i64 0,.int .i64 0,.int .i64 0,.bool false,.int .i64 0,.int .i64 0,.bool false,.int .i64 0,.int .i64 0,.bool false,.int .i64 0,.int .i64 0,.bool false,.bool false,.bool false][j]?.getD undef)):=(Arr.lit (heap_alloc_new w0.drew _)).lie
  have hd1:=hide (gal (uh hd0) (.cells #[.int .i64 0,.int .i64 0,.int .i64 0,.int .i64 0,.slice none 0 0,.slice none 0 0,.slice none 0 0,.int .i64 0,.int .i64 0,.int .i64 0,.int .i64 0,.int .i64 0,.int .i64 0,.bool false,.int .i64 0,.int .i64 0,.bool false,.int .i64 0,.int .i64 0,.bool false,.int .i64 0,.int .i64 0,.bool false,.bool false,.bool false] 64))
  have hS1:=uh hkeep _ (uh hd1)
  refine hK.out _ _ (fun _=>uh hkeep _ (uh hd1)) ?_
  clear hK K hS0
  refine wto (j:=1) (by kernel_rfl) rfl (fun K hK=>?_)
  go_simp
  refine (uh hch _ (uh hd1)).mono ?_
  rintro e w2 ⟨g1,g2,g3,c1,c2,c3,rfl,hx1,hg2⟩
  have hZ:=hide ((uh hZ0).on (uh hx1).2.2.2.2.2.2.2.2)
  have hx2:Hid ((32≤c2∧384≤c1)∧w0.heap.size≤g1∧w0.heap.size≤g2∧w0.heap.size≤g3∧g1≠g2∧g1≠g3∧g2≠g3∧Gd.Lists w2 g1 g2 g3 c E I):=by
   obtain ⟨h1,h2,h3,h4,h5,h6,h7,h8,_⟩:=uh hx1
   have:=(uh hd1).size
   exact ⟨h1,by omega,by omega,by omega,h5,h6,h7,h8⟩
  have hS2:=uh hkeep _ (uh hg2)
  try go_simp
  refine hK.out _ _ (fun _=>uh hkeep _ (uh hg2)) ?_
  clear hK K hS1 hx1 hZ0 hd1
  refine wtk (i:=3) (v:=?_) [5] rfl (by kernel_rfl) (by kernel_rfl) (by kernel_rfl) (by kernel_rfl) (fun _ _ _ h=>hP _ _ _ _ _ h) hS2 (Or.inl ⟨by rfl,?_⟩) ?_
  rotate_left
  ·intro x hSx
   try dsimp only at hSx
   go_simp
   try with_reducible rfl
  simp only [Act.put]
  obtain ⟨P,hPe⟩:∃P,w0.heap.size=P:=⟨_,rfl⟩
  have lP:Hid (w0.heap.size≤P):=Nat.le_of_eq hPe
  rw [hPe] at hZ ⊢
  clear hPe
  have hst:=hide (fun vs hv he=>Cr.frm_store (c3:=c3) (how:=how) (inp:=inp) (sp:=sp) (s:=s) (g:=g) vs hv he (uh hZ) (uh lP) (uh hx2) (uh hg2))
  refine wto (j:=5) (by kernel_rfl) rfl (fun K hK=>?_)
  rw [if_pos (by kernel_rfl)]
  refine wp_store_mid 64 (.tmp 5) (.tmp 10) rfl P 0 #[.int .i64 (s 0),.int .i64 (s 1),.int .i64 (s 2),.int .i64 (s 3),.slice (some ⟨g1,0,none⟩) 384 c1,.slice (some ⟨g2,0,none⟩) 32 c2,.slice (some ⟨g3,0,none⟩) 40 c3,.int .i64 (g 0),.int .i64 (g 1),.int .i64 (g 2),.int .i64 (g 3),.int .i64 (how 0),.int .i64 (inp 0),.bool (sp 0),.int .i64 (how 1),.int .i64 (inp 1),.bool (sp 1),.int .i64 (how 2),.int .i64 (inp 2),.bool (sp 2),.int .i64 (how 3),.int .i64 (inp 3),.bool (sp 3),.bool false,.bool false] rfl rfl (fun j hj=>⟨by rw [Nat.zero_add,(uh hZ).cell hj];rfl,(uh hZ).free _⟩) (by kernel_rfl) (by kernel_rfl) ?_
  refine hK.out _ _ (fun hx=>absurd (hx.symm.trans (by kernel_rfl)) Bool.false_ne_true) ?_
  clear hK K
  refine wpTill_done (by kernel_rfl) ?_ _
  clear hZ
  exact uh hQ' P _ _ _ _ _ ⟨g1,g2,g3,c1,c2,c3,uh hst _ rfl (fun j hj=>by rw [←List.getElem?_toArray];exact Cr.frm_lit s g how inp sp g1 g2 g3 c1 c2 c3 j hj)⟩

set_option maxRecDepth 16000 in
set_option maxHeartbeats 25600000 in
theorem cStep_any (s g c:Nat→Int) (E I:Nat→Nat→Int) (gC gE gI cC cE cI:Nat) (how inp:Nat→Int) (sp:Nat→Bool) (w:World) (hL:Gd.Lists w gC gE gI c E I) (hG:Cr.Good ⟨s,g,c,E,I⟩) (hs1:-9223372036854775808≤s 1) (hs2:s 1<9223372036854775807) :
  Calls Tryz.prog 15 #[.agg (Gd.world s gC gE gI cC cE cI g),.agg (Cr.acts how inp sp)] w (Cr.Steps w how inp sp ⟨s,g,c,E,I⟩):=by
 obtain ⟨wz,hwz⟩:∃wz,wz=w.alloc (.cells (Gd.world s gC gE gI cC cE cI g) 30):=⟨_,rfl⟩
 obtain ⟨wy,hwy⟩:∃wy,wy=wz.alloc (.cells (Cr.acts how inp sp) 36):=⟨_,rfl⟩
 obtain ⟨w0,hw0⟩:∃w0,w0=wy.alloc (.cells #[.int .i64 0,.int .i64 0,.int .i64 0,.int .i64 0,.slice none 0 0,.slice none 0 0,.slice none 0 0,.int .i64 0,.int .i64 0,.int .i64 0,.int .i64 0] 30):=⟨_,rfl⟩
 have hgz:w.grownBy wz none:=by rw [hwz];exact World.grownBy_alloc _ _ _
 have hgy:wz.grownBy wy none:=by rw [hwy];exact World.grownBy_alloc _ _ _
 have hg0:wy.grownBy w0 none:=by rw [hw0];exact World.grownBy_alloc _ _ _
 have hGw:=hide (gtr hgz (gtr hgy hg0))
 have sz:wz.heap.size=w.heap.size+1:=by rw [hwz];simp
 have sy:wy.heap.size=w.heap.size+1+1:=by rw [hwy,hwz];simp
 have sw:w0.heap.size=w.heap.size+1+1+1:=by rw [hw0,hwy,hwz];simp
 have hbox:Hid (Lie w0 w.heap.size 30 11 (Gd.box s gC gE gI cC cE cI g)):=by
  refine Lie.on ?_ (gtr hgy hg0)
  rw [hwz]
  exact (Arr.world (heap_alloc_new w _)).lie
 have hac:Hid (Lie w0 (w.heap.size+1) 36 12 (Cr.actF how inp sp)):=by
  refine Lie.on ?_ hg0
  rw [hwy,←sz]
  exact Cr.acts_lie (heap_alloc_new wz _)
 have hres:Hid (Lie w0 (w.heap.size+1+1) 30 11 (fun j=>#[.int .i64 0,.int .i64 0,.int .i64 0,.int .i64 0,.slice none 0 0,.slice none 0 0,.slice none 0 0,.int .i64 0,.int .i64 0,.int .i64 0,Value.int .i64 0][j]?.getD undef)):=by
  show Lie w0 (w.heap.size+1+1) 30 11 (fun j=>#[.int .i64 0,.int .i64 0,.int .i64 0,.int .i64 0,.slice none 0 0,.slice none 0 0,.slice none 0 0,.int .i64 0,.int .i64 0,.int .i64 0,Value.int .i64 0][j]?.getD undef)
  rw [hw0,←sy]
  exact (Arr.lit (heap_alloc_new wy _)).lie
 have hL0:=hide (hL.on (uh hGw))
 have hG':=hide hG
 have hsw:=hide sw
 have hwr:IntKind.i64.wrap (s 1+1)=s 1+1:=by rw [IntKind.wrap_i64];omega
 clear hL hgz hgy hg0 sz sy sw hs1 hs2
 unfold Gd.world at hwz ⊢
 unfold Cr.acts at hwy ⊢
 rw [hwz] at hwy
 rw [hwy] at hw0
 clear hwz hwy
 go_enter Tryz.func15,Tryz.ntmps15
 obtain ⟨B,hB⟩:∃B,w.heap.size=B:=⟨_,rfl⟩
 have hB':=hide hB
 rw [hB] at hbox hac hres hsw
 go_wp2_with fail
 refine wp_scope_ghost 0 (fun m a' w'=>∃(n P g1 g2 g3 c1 c2 c3:Nat) (met left:Bool) (T:Cr.W) (u7 u8 u9 u10 u11 u12 u13 u14 u15 u16 u17 u18 u19 u20 u21 u22 u23 u24 u25 u26 u27 u28 u29 u30 u31 u32 u33 u34 u35 u36 u37 u38 u39 u40 u41 u42 u43 u44 u45 u46:Value),a'={ tmps:=#[.agg #[.int .i64 (s 0),.int .i64 (s 1),.int .i64 (s 2),.int .i64 (s 3),.slice (some ⟨gC,0,none⟩) 384 cC,.slice (some ⟨gE,0,none⟩) 32 cE,.slice (some ⟨gI,0,none⟩) 40 cI,.int .i64 (g 0),.int .i64 (g 1),.int .i64 (g 2),.int .i64 (g 3)],.agg #[.int .i64 (how 0),.int .i64 (inp 0),.bool (sp 0),.int .i64 (how 1),.int .i64 (inp 1),.bool (sp 1),.int .i64 (how 2),.int .i64 (inp 2),.bool (sp 2),.int .i64 (how 3),.int .i64 (inp 3),.bool (sp 3)],.pointer (some ⟨B,0,none⟩),.pointer (some ⟨B+1,0,none⟩),.pointer (some ⟨B+1+1,0,none⟩),.pointer (some ⟨P,0,none⟩),.int .i64 (n:Int),u7,u8,u9,u10,u11,u12,u13,u14,u15,u16,u17,u18,u19,u20,u21,u22,u23,u24,u25,u26,u27,u28,u29,u30,u31,u32,u33,u34,u35,u36,u37,u38,u39,u40,u41,u42,u43,u44,u45,u46],defers:=[] }∧n+m=5∧1≤n∧Hid (s 3=0)∧Hid (Cr.Stage how inp sp ⟨s,g,c,E,I⟩ n met left T)∧Hid (Cr.Frm w0 w' P g1 g2 g3 c1 c2 c3 how inp sp met left T.s T.g T.c T.E T.I)) rfl ?_ ?_
 ·go_upto_region 1 with fail
  rw [←hw0]
  clear hw0 hB
  rename_i K hK
  refine cStep_make s g c E I gC gE gI cC cE cI B how inp sp w0 (uh hbox) (uh hac) (uh hL0) _ _ _ (fun _ _ d _ _ h=>by cases d <;> exact h) (fun P wc u7 u8 u9 u10 hX=>?_)
  refine hK _ _ ?_
  clear hK K
  ·clear hL0
   obtain ⟨g1,g2,g3,c1,c2,c3,hF0⟩:=uh hX
   have hF1:=hide hF0
   have p1:=hF0.eleven.2.1
   have fP:=hF0.box.free
   have hst:=hide (hF0.num 1 (by omega) (s 1+1))
   clear hX hF0
   go_upto_region 3 with fail
   generalize wc.setCell ⟨P,1,none⟩ (.int .i64 (s 1+1))=w2 at hst ⊢
   clear p1 fP hF1
   have b3:w2.cell? ⟨B,3,none⟩=some (.int .i64 (s 3)):=((uh hbox).on (uh hst).grown).cell (c:=3) (by omega)
   have hs3:=hide (And.intro hG.s0 hG.s2)
   obtain ⟨z,hz⟩:∃z,s 3=z:=⟨_,rfl⟩
   have hz':=hide hz
   have hzb:Hid (0≤z∧z≤2):=(show 0≤z∧z≤2 by rw [←hz];exact uh hs3)
   rw [hz] at b3
   clear hz hs3 hac hG
   by_cases hz0:z=0
   ·subst hz0
    have hc:=hide (cCome_any w0 w2 P g1 g2 g3 c1 c2 c3 how inp sp false false _ g c E I (uh hst) (uh hG').sane (uh hG').floor)
    have hst0:Hid (Cr.Stage how inp sp ⟨s,g,c,E,I⟩ 0 false false ⟨Cr.num s 1 (s 1+1),g,c,E,I⟩):=⟨rfl,rfl⟩
    clear hst
    go_wp2_with fail
    go_step3
    go_wp2_with fail
    refine (uh hc).mono ?_
    rintro e w3 ⟨A,hA,rfl,j1,j2,j3,d1,d2,d3,hF3⟩
    have hst2:=hide ((uh hst0).come hA)
    have hF2:=hide hF3
    clear hA hF3 hc hst0
    go_wp2_with fail
    go_step3
    exact ⟨rfl,4,1,P,j1,j2,j3,d1,d2,d3,Cr.manned A,false,⟨Cr.num s 1 (s 1+1),g,c,A,I⟩,_,_,_,_,_,_,_,_,_,_,_,_,_,_,_,_,_,_,_,_,_,_,_,_,_,_,_,_,_,_,_,_,_,_,_,_,_,_,_,_,rfl,by omega,by omega,hz',hst2,hF2⟩
   ·have hstep:Hid (Cr.IsStep how inp sp ⟨s,g,c,E,I⟩ ⟨Cr.num s 1 (s 1+1),g,c,E,I⟩):=(show Cr.IsStep how inp sp ⟨s,g,c,E,I⟩ _ by unfold Cr.IsStep;rw [if_pos (show s 3≠0 by rw [uh hz'];exact hz0)])
    obtain ⟨T,hT⟩:∃T:Cr.W,T=⟨Cr.num s 1 (s 1+1),g,c,E,I⟩:=⟨_,rfl⟩
    have hF:Hid (Cr.Frm w0 w2 P g1 g2 g3 c1 c2 c3 how inp sp false false T.s T.g T.c T.E T.I):=by rw [hT];exact uh hst
    rw [←hT] at hstep
    clear hst hT hz'
    rcases (show z=1∨z=2 by have:=uh hzb;omega) with rfl | rfl
    ·clear hz0 hzb
     go_wp2_with fail
     go_step3
     go_upto_region 18 with fail
     obtain ⟨b0,b1,b2,b3,b4,b5,b6,b7,b8,b9,b10⟩:=(uh hF).eleven
     have hr:=hide ((uh hres).on (uh hF).grown)
     have fz:=(uh hr).free
     obtain ⟨z0,z1,z2,z3,z4,z5,z6,z7,z8,z9,z10⟩:=Gd.res_cells (uh hr)
     have hfo:Hid (∀vs,Cr.Steps w how inp sp ⟨s,g,c,E,I⟩ (.returned (.agg (Gd.world T.s g1 g2 g3 c1 c2 c3 T.g))) (w2.setCells (B+1+1) 0 vs)):=fun vs=>by
      have q1:=(uh hr).type_ne (uh hF).lists.cells (by decide)
      have q2:=(uh hr).type_ne (uh hF).lists.ents (by decide)
      have q3:=(uh hr).type_ne (uh hF).lists.items (by decide)
      have k1:=(uh hF).lC
      have k2:=(uh hF).lE
      have k3:=(uh hF).lI
      have k4:=(uh hGw).size
      have k5:=uh hB'
      exact ⟨T,uh hstep,g1,g2,g3,c1,c2,c3,rfl,(uh hF).cap,by omega,by omega,by omega,(uh hF).cE,(uh hF).cI,(uh hF).eI,⟨(uh hF).lists.cells.others q1 _ _,(uh hF).lists.ents.others q2 _ _,(uh hF).lists.items.others q3 _ _⟩,own_sets (by omega) _ 0 w2 (gtr (uh hGw) (uh hF).grown)⟩
     clear hr hF
     go_wp2
     refine bodyPost_ret (v:=.agg (Gd.world T.s g1 g2 g3 c1 c2 c3 T.g)) (by simp [results,Tryz.results15,go_sem,Gd.world,z0,z1,z2,z3,z4,z5,z6,z7,z8,z9,z10]) rfl ?_
     exact uh hfo [_,_,_,_,_,_,_,_,_,_,_]
    ·clear hz0 hzb
     go_wp2_with fail
     go_step3
     go_upto_region 18 with fail
     obtain ⟨b0,b1,b2,b3,b4,b5,b6,b7,b8,b9,b10⟩:=(uh hF).eleven
     have hr:=hide ((uh hres).on (uh hF).grown)
     have fz:=(uh hr).free
     obtain ⟨z0,z1,z2,z3,z4,z5,z6,z7,z8,z9,z10⟩:=Gd.res_cells (uh hr)
     have hfo:Hid (∀vs,Cr.Steps w how inp sp ⟨s,g,c,E,I⟩ (.returned (.agg (Gd.world T.s g1 g2 g3 c1 c2 c3 T.g))) (w2.setCells (B+1+1) 0 vs)):=fun vs=>by
      have q1:=(uh hr).type_ne (uh hF).lists.cells (by decide)
      have q2:=(uh hr).type_ne (uh hF).lists.ents (by decide)
      have q3:=(uh hr).type_ne (uh hF).lists.items (by decide)
      have k1:=(uh hF).lC
      have k2:=(uh hF).lE
      have k3:=(uh hF).lI
      have k4:=(uh hGw).size
      have k5:=uh hB'
      exact ⟨T,uh hstep,g1,g2,g3,c1,c2,c3,rfl,(uh hF).cap,by omega,by omega,by omega,(uh hF).cE,(uh hF).cI,(uh hF).eI,⟨(uh hF).lists.cells.others q1 _ _,(uh hF).lists.ents.others q2 _ _,(uh hF).lists.items.others q3 _ _⟩,own_sets (by omega) _ 0 w2 (gtr (uh hGw) (uh hF).grown)⟩
     clear hr hF
     go_wp2
     refine bodyPost_ret (v:=.agg (Gd.world T.s g1 g2 g3 c1 c2 c3 T.g)) (by simp [results,Tryz.results15,go_sem,Gd.world,z0,z1,z2,z3,z4,z5,z6,z7,z8,z9,z10]) rfl ?_
     exact uh hfo [_,_,_,_,_,_,_,_,_,_,_]
 ·rintro m a' w2 ⟨n,P,g1,g2,g3,c1,c2,c3,met,left,T,u7,u8,u9,u10,u11,u12,u13,u14,u15,u16,u17,u18,u19,u20,u21,u22,u23,u24,u25,u26,u27,u28,u29,u30,u31,u32,u33,u34,u35,u36,u37,u38,u39,u40,u41,u42,u43,u44,u45,u46,rfl,hm,hn,h0,hst,hF⟩
  clear hL0 hbox hac hB hw0
  rcases (show n=1∨n=2∨n=3∨n=4∨n=5 by omega) with rfl | rfl | rfl | rfl | rfl
  ·have hfit:=hide ((uh hst).fit (uh hG') (by omega))
   have hc:=hide (cAct_any w0 w2 P g1 g2 g3 c1 c2 c3 how inp sp met left T.s T.g T.c T.E T.I (uh hF) (uh hfit).1 (uh hfit).2.1)
   go_wp2_with fail
   refine (uh hc).mono ?_
   rintro e w3 ⟨m,hm,rfl,j1,j2,j3,d1,d2,d3,hF3⟩
   have hst2:=hide ((uh hst).act hm)
   have hF2:=hide hF3
   clear hm hF3 hc hfit hF hst
   go_wp2_with fail
   go_step3
   exact ⟨rfl,3,by omega,2,P,j1,j2,j3,d1,d2,d3,met,m.left,⟨T.s,m.g,T.c,m.E,m.I⟩,_,_,_,_,_,_,_,_,_,_,_,_,_,_,_,_,_,_,_,_,_,_,_,_,_,_,_,_,_,_,_,_,_,_,_,_,_,_,_,_,rfl,by omega,by omega,h0,hst2,hF2⟩
  ·have hfit:=hide ((uh hst).fit (uh hG') (by omega))
   have hc:=hide (cHunt_any w0 w2 P g1 g2 g3 c1 c2 c3 how inp sp met left T.s T.g T.c T.E T.I (uh hF) (uh hfit).1)
   go_wp2_with fail
   refine (uh hc).mono ?_
   rintro e w3 ⟨F,J,hp,rfl,j1,j2,j3,d1,d2,d3,hF3⟩
   have hst2:=hide ((uh hst).hunt hp)
   have hF2:=hide hF3
   clear hp hF3 hc hfit hF hst
   go_wp2_with fail
   go_step3
   exact ⟨rfl,2,by omega,3,P,j1,j2,j3,d1,d2,d3,met,left,⟨T.s,T.g,T.c,F,J⟩,_,_,_,_,_,_,_,_,_,_,_,_,_,_,_,_,_,_,_,_,_,_,_,_,_,_,_,_,_,_,_,_,_,_,_,_,_,_,_,_,rfl,by omega,by omega,h0,hst2,hF2⟩
  ·have hfit:=hide ((uh hst).fit (uh hG') (by omega))
   have hc:=hide (cAil_any w0 w2 P g1 g2 g3 c1 c2 c3 how inp sp met left T.s T.g T.c T.E T.I (uh hF) (uh hfit).1 (uh hfit).2.2.1)
   go_wp2_with fail
   refine (uh hc).mono ?_
   rintro e w3 ⟨rfl,j1,j2,j3,d1,d2,d3,hF3⟩
   have hst2:=hide ((uh hst).ail)
   have hF2:=hide hF3
   clear hF3 hc hfit hF hst
   go_wp2_with fail
   go_step3
   exact ⟨rfl,1,by omega,4,P,j1,j2,j3,d1,d2,d3,met,left,⟨T.s,T.g,T.c,Cr.rats T.s T.c (Ft.ailE T.E T.I 32).1,(Ft.ailE T.E T.I 32).2⟩,_,_,_,_,_,_,_,_,_,_,_,_,_,_,_,_,_,_,_,_,_,_,_,_,_,_,_,_,_,_,_,_,_,_,_,_,_,_,_,_,rfl,by omega,by omega,h0,hst2,hF2⟩
  ·have hfit:=hide ((uh hst).fit (uh hG') (by omega))
   have hc:=hide (cEnd_any w0 w2 P g1 g2 g3 c1 c2 c3 how inp sp met left T.s T.g T.c T.E T.I (uh hF) (uh hfit).1 (uh hfit).2.2.2.1 (uh hfit).2.2.2.2)
   go_wp2_with fail
   refine (uh hc).mono ?_
   rintro e w3 ⟨U,hU,rfl,j1,j2,j3,d1,d2,d3,hF3⟩
   have hst2:=hide ((uh hst).ends (uh h0) hU)
   have hF2:=hide hF3
   clear hU hF3 hc hfit hF hst
   go_wp2_with fail
   go_step3
   exact ⟨rfl,0,by omega,5,P,j1,j2,j3,d1,d2,d3,met,left,U,_,_,_,_,_,_,_,_,_,_,_,_,_,_,_,_,_,_,_,_,_,_,_,_,_,_,_,_,_,_,_,_,_,_,_,_,_,_,_,_,rfl,by omega,by omega,h0,hst2,hF2⟩
  ·have hstep:Hid (Cr.IsStep how inp sp ⟨s,g,c,E,I⟩ T):=uh hst
   clear hst h0
   go_upto_region 18 with fail
   obtain ⟨b0,b1,b2,b3,b4,b5,b6,b7,b8,b9,b10⟩:=(uh hF).eleven
   have hr:=hide ((uh hres).on (uh hF).grown)
   have fz:=(uh hr).free
   obtain ⟨z0,z1,z2,z3,z4,z5,z6,z7,z8,z9,z10⟩:=Gd.res_cells (uh hr)
   have hfo:Hid (∀vs,Cr.Steps w how inp sp ⟨s,g,c,E,I⟩ (.returned (.agg (Gd.world T.s g1 g2 g3 c1 c2 c3 T.g))) (w2.setCells (B+1+1) 0 vs)):=fun vs=>by
    have q1:=(uh hr).type_ne (uh hF).lists.cells (by decide)
    have q2:=(uh hr).type_ne (uh hF).lists.ents (by decide)
    have q3:=(uh hr).type_ne (uh hF).lists.items (by decide)
    have k1:=(uh hF).lC
    have k2:=(uh hF).lE
    have k3:=(uh hF).lI
    have k4:=(uh hGw).size
    have k5:=uh hB'
    exact ⟨T,uh hstep,g1,g2,g3,c1,c2,c3,rfl,(uh hF).cap,by omega,by omega,by omega,(uh hF).cE,(uh hF).cI,(uh hF).eI,⟨(uh hF).lists.cells.others q1 _ _,(uh hF).lists.ents.others q2 _ _,(uh hF).lists.items.others q3 _ _⟩,own_sets (by omega) _ 0 w2 (gtr (uh hGw) (uh hF).grown)⟩
   clear hr hF
   go_wp2
   refine bodyPost_ret (v:=.agg (Gd.world T.s g1 g2 g3 c1 c2 c3 T.g)) (by simp [results,Tryz.results15,go_sem,Gd.world,z0,z1,z2,z3,z4,z5,z6,z7,z8,z9,z10]) rfl ?_
   exact uh hfo [_,_,_,_,_,_,_,_,_,_,_]


open Go.RowKit

def Cr.zero (seed:Int):Nat→Int
 | 0=>seed
 | _=>0

theorem Cr.sane_zero:Cr.Sane (fun _=>0) (fun _ _=>0) (fun _ _=>0):=by
 refine ⟨⟨fun _=>⟨by show (0:Int)≤0;omega,by show (0:Int)≤255;omega⟩,Md.ok_none _,fun k _=>⟨by show (0:Int)≤0;omega,by show (0:Int)≤255;omega,.inl fun _ _ _=>rfl⟩⟩,⟨fun k _ k0=>absurd rfl k0,⟨fun k _ k0=>absurd rfl k0,fun j k _ _ j0=>absurd rfl j0⟩⟩,⟨fun k _ k1=>?_,fun j k _ _ j1=>?_,fun k _ k0=>absurd rfl k0⟩⟩
 ·exact absurd k1 (by show ¬(0:Int)=1;omega)
 ·exact absurd j1 (by show ¬(0:Int)=1;omega)

theorem Cr.land_none {c:Nat→Int}:∀{t:Nat} {E F:Nat→Nat→Int},Cr.LandTo c (fun _ _=>0) t E F→F=E
 | 0,_,_,h=>h
 | t+1,_,_,⟨G,hG,hF⟩=>by
  have hn:Gd.hero (fun _ _=>0) (t:Int)<0:=by
   unfold Gd.hero
   rw [En.first_none (fun j _=>by simp [En.heroQ])]
   omega
  unfold Cr.Lands at hF
  rw [if_pos hn] at hF
  rw [hF]
  exact Cr.land_none hG

theorem Cr.below_new {seed:Int} {T:Cr.W} (h:Cr.Below (Cr.zero seed) (fun _=>0) (fun _ _=>0) (fun _ _=>0) T):Cr.IsNew seed T:=by
 obtain ⟨c,es,is,F,hl,hF,rfl⟩:=h
 have e1:=Cr.land_none hF
 have e2:Cr.bare (fun _ _=>0)=fun _ _=>0:=by
  funext k j
  unfold Cr.bare En.hole
  split <;> rfl
 have e3:Cr.kept (fun _ _=>0)=fun _ _=>0:=by
  funext k
  unfold Cr.kept
  rw [if_neg (by show ¬((0:Int)=1∨(0:Int)=4);omega)]
 have e4:Cr.num (Cr.zero seed) 2 (Cr.zero seed 2+1)=Cr.first seed:=by
  funext j
  unfold Cr.num
  by_cases e:j=2
  ·rw [if_pos e,e];rfl
  ·rw [if_neg e]
   match j with
   | 0=>rfl
   | 1=>rfl
   | 2=>exact absurd rfl e
   | _+3=>rfl
 rw [e1,e2,e3,e4]
 exact ⟨c,es,is,hl,rfl⟩

def Cr.News (w:World) (seed:Int) (e:Ending) (w':World):Prop:=∃T,Cr.IsNew seed T∧Gd.WorldsW w T.s T.g T.c T.E T.I e w'

theorem Cr.new_done {w w0 w2 w3:World} {seed:Int} {T:Cr.W} {B jC jE jI dC dE dI:Nat} {H:Nat→Value} (hGw:w.grownBy w0 none) (hG2:w0.grownBy w2 none) (hT:Cr.Below (Cr.zero seed) (fun _=>0) (fun _ _=>0) (fun _ _=>0) T) (hcap:32≤dE∧384≤dC) (l1:w2.heap.size≤jC) (l2:w2.heap.size≤jE) (l3:w2.heap.size≤jI) (n1:jC≠jE) (n2:jC≠jI) (n3:jE≠jI) (hL:Gd.Lists w3 jC jE jI T.c T.E T.I) (hg:w2.grownBy w3 none) (hr:Lie w3 B 30 11 H) (hB:w.heap.size=B) (vs:List Value) :
  Cr.News w seed (.returned (.agg (Gd.world T.s jC jE jI dC dE dI T.g))) (w3.setCells B 0 vs):=by
 have q1:=hr.type_ne hL.cells (by decide)
 have q2:=hr.type_ne hL.ents (by decide)
 have q3:=hr.type_ne hL.items (by decide)
 have k1:=hGw.size
 have k2:=hG2.size
 exact ⟨T,Cr.below_new hT,jC,jE,jI,dC,dE,dI,rfl,hcap,by omega,by omega,by omega,n1,n2,n3,⟨hL.cells.others q1 _ _,hL.ents.others q2 _ _,hL.items.others q3 _ _⟩,own_sets (by omega) _ 0 w3 (gtr hGw (gtr hG2 hg))⟩

set_option maxRecDepth 16000 in
set_option maxHeartbeats 12800000 in
theorem cNew_any (seed:Int) (w:World):Calls Tryz.prog 10 #[.int .i64 seed] w (Cr.News w seed):=by
 obtain ⟨w0,hw0⟩:∃w0,w0=w.alloc (.cells #[.int .i64 0,.int .i64 0,.int .i64 0,.int .i64 0,.slice none 0 0,.slice none 0 0,.slice none 0 0,.int .i64 0,.int .i64 0,.int .i64 0,.int .i64 0] 30):=⟨_,rfl⟩
 have hGw:Hid (w.grownBy w0 none):=by rw [hw0];exact World.grownBy_alloc _ _ _
 obtain ⟨B,hB⟩:∃B,w.heap.size=B:=⟨_,rfl⟩
 have hres:Hid (Lie w0 B 30 11 (fun j=>#[.int .i64 0,.int .i64 0,.int .i64 0,.int .i64 0,.slice none 0 0,.slice none 0 0,.slice none 0 0,.int .i64 0,.int .i64 0,.int .i64 0,Value.int .i64 0][j]?.getD undef)):=by
  show Lie w0 B 30 11 (fun j=>#[.int .i64 0,.int .i64 0,.int .i64 0,.int .i64 0,.slice none 0 0,.slice none 0 0,.slice none 0 0,.int .i64 0,.int .i64 0,.int .i64 0,Value.int .i64 0][j]?.getD undef)
  rw [hw0,←hB]
  exact (Arr.lit (heap_alloc_new w _)).lie
 have hB':=hide hB
 go_enter Tryz.func10,Tryz.ntmps10
 go_upto_region 1 with fail
 rw [←hw0]
 clear hw0 hB
 obtain ⟨ZE,hmE,hZE⟩:=make32
 obtain ⟨ZI,hmI,hZI⟩:=make40
 have hE3:=hide (fun w=>(hZE w).lie (m:=352) (by omega))
 have hI3:=hide hZI
 clear hZE hZI
 refine wp_region_till (h:=5) (S:=fun _=>True) (by kernel_rfl) ?_
 refine wtk (i:=0) (v:=?_) [5] rfl (by kernel_rfl) (by kernel_rfl) (by kernel_rfl) (by kernel_rfl) (fun _ _ _ h=>h) trivial (Or.inl ⟨by rfl,?_⟩) ?_
 rotate_left
 ·intro x hSx
  try dsimp only at hSx
  go_simp
  try with_reducible rfl
 simp only [Act.put]
 refine wpTill_two (i:=1) (j:=2) (by kernel_rfl) rfl rfl (fun K hK=>?_) (fun K hK=>?_)
 ·go_simp
  refine hK.out _ _ (fun _=>trivial) ?_
  clear hK K
  refine wto (j:=2) (by kernel_rfl) rfl (fun K hK=>?_)
  go_simp
  refine hK.out _ _ (fun _=>trivial) ?_
  clear hK K
  refine wtk (i:=3) (v:=?_) [5] rfl (by kernel_rfl) (by kernel_rfl) (by kernel_rfl) (by kernel_rfl) (fun _ _ _ h=>h) trivial (Or.inl ⟨by rfl,?_⟩) ?_
  rotate_left
  ·intro x hSx
   try dsimp only at hSx
   go_simp
   try with_reducible rfl
  simp only [Act.put]
  refine wto (j:=4) (by kernel_rfl) rfl (fun K hK=>?_)
  go_simp
  have hG2:Hid (w0.grownBy ((w0.alloc (.cells ZE 54)).alloc (.cells ZI 62)).drew none):=gd1 (gal (gal (World.grownBy.refl _ none) _) _)
  have hx1:Hid (Lie ((w0.alloc (.cells ZE 54)).alloc (.cells ZI 62)).drew w0.heap.size 54 352 (En.flat (fun _ _=>0))):=(uh hE3 w0).on (gd1 (World.grownBy_alloc _ _ _))
  have hx2:Hid (Lie ((w0.alloc (.cells ZE 54)).alloc (.cells ZI 62)).drew (w0.heap.size+1) 62 160 (Gd.flat (fun _ _=>0))):=by
   have h:=(uh hI3 (w0.alloc (.cells ZE 54))).on (gd1 (World.grownBy.refl _ none))
   rwa [show (w0.alloc (.cells ZE 54)).heap.size=w0.heap.size+1 by simp] at h
  clear hE3 hI3 hmE hmI
  generalize ((w0.alloc (.cells ZE 54)).alloc (.cells ZI 62)).drew=w2 at hG2 hx1 hx2 ⊢
  obtain ⟨Q1,hq1⟩:∃Q1,w0.heap.size=Q1:=⟨_,rfl⟩
  obtain ⟨Q2,hq2⟩:∃Q2,Q1+1=Q2:=⟨_,rfl⟩
  have hn:Hid (Q1≠Q2):=(show Q1≠Q2 by omega)
  rw [hq1] at hx1 hx2 ⊢
  rw [hq2] at hx2 ⊢
  clear hq1 hq2
  have ce:=hide (cEntered_any (Cr.zero seed) (fun _=>0) (fun _=>0) (fun _ _=>0) (fun _ _=>0) none 0 0 Q1 Q2 32 40 w2 (uh hx1) (uh hx2) (Nat.le_refl _) (uh hn) Cr.sane_zero (by show (0:Int)≤0;omega) (by show (0:Int)≤2;omega))
  refine (uh ce).mono ?_
  rintro e w3 ⟨T,hT,jC,jE,jI,dC,dE,dI,rfl,hcap,l1,l2,l3,n1,n2,n3,hL,hg⟩
  unfold Gd.world
  have hG3:=hide (gtr (uh hG2) hg)
  have hr:=hide ((uh hres).on (uh hG3))
  have hfo:=hide (fun vs=>Cr.new_done (dI:=dI) (uh hGw) (uh hG2) hT hcap l1 l2 l3 n1 n2 n3 hL hg (uh hr) (uh hB') vs)
  try go_simp
  refine hK.out _ _ (fun _=>trivial) ?_
  clear hK K ce hcap l1 l2 l3 n1 n2 n3 hL hg hT hx1 hx2
  refine wto (j:=5) (by kernel_rfl) rfl (fun K hK=>?_)
  have fz:=(uh hr).free
  obtain ⟨z0,z1,z2,z3,z4,z5,z6,z7,z8,z9,z10⟩:=Gd.res_cells (uh hr)
  go_simp
  refine hK.out _ _ (fun hx=>absurd (hx.symm.trans (by kernel_rfl)) Bool.false_ne_true) ?_
  clear hK K
  refine wpTill_done (by kernel_rfl) ?_ _
  rename_i K hK
  refine hK _ _ (wp_ret ?_)
  refine bodyPost_ret (v:=.agg (Gd.world T.s jC jE jI dC dE dI T.g)) (by simp [results,Tryz.results10,go_sem,Gd.world,z0,z1,z2,z3,z4,z5,z6,z7,z8,z9,z10]) rfl ?_
  exact uh hfo [_,_,_,_,_,_,_,_,_,_,_]
 ·go_simp
  refine hK.out _ _ (fun _=>trivial) ?_
  clear hK K
  refine wto (j:=1) (by kernel_rfl) rfl (fun K hK=>?_)
  go_simp
  refine hK.out _ _ (fun _=>trivial) ?_
  clear hK K
  refine wtk (i:=3) (v:=?_) [5] rfl (by kernel_rfl) (by kernel_rfl) (by kernel_rfl) (by kernel_rfl) (fun _ _ _ h=>h) trivial (Or.inl ⟨by rfl,?_⟩) ?_
  rotate_left
  ·intro x hSx
   try dsimp only at hSx
   go_simp
   try with_reducible rfl
  simp only [Act.put]
  refine wto (j:=4) (by kernel_rfl) rfl (fun K hK=>?_)
  go_simp
  have hG2:Hid (w0.grownBy ((w0.alloc (.cells ZI 62)).alloc (.cells ZE 54)).drew none):=gd1 (gal (gal (World.grownBy.refl _ none) _) _)
  have hx1:Hid (Lie ((w0.alloc (.cells ZI 62)).alloc (.cells ZE 54)).drew w0.heap.size 62 160 (Gd.flat (fun _ _=>0))):=(uh hI3 w0).on (gd1 (World.grownBy_alloc _ _ _))
  have hx2:Hid (Lie ((w0.alloc (.cells ZI 62)).alloc (.cells ZE 54)).drew (w0.heap.size+1) 54 352 (En.flat (fun _ _=>0))):=by
   have h:=(uh hE3 (w0.alloc (.cells ZI 62))).on (gd1 (World.grownBy.refl _ none))
   rwa [show (w0.alloc (.cells ZI 62)).heap.size=w0.heap.size+1 by simp] at h
  clear hE3 hI3 hmE hmI
  generalize ((w0.alloc (.cells ZI 62)).alloc (.cells ZE 54)).drew=w2 at hG2 hx1 hx2 ⊢
  obtain ⟨Q1,hq1⟩:∃Q1,w0.heap.size=Q1:=⟨_,rfl⟩
  obtain ⟨Q2,hq2⟩:∃Q2,Q1+1=Q2:=⟨_,rfl⟩
  have hn:Hid (Q1≠Q2):=(show Q1≠Q2 by omega)
  rw [hq1] at hx1 hx2 ⊢
  rw [hq2] at hx2 ⊢
  clear hq1 hq2
  have ce:=hide (cEntered_any (Cr.zero seed) (fun _=>0) (fun _=>0) (fun _ _=>0) (fun _ _=>0) none 0 0 Q2 Q1 32 40 w2 (uh hx2) (uh hx1) (Nat.le_refl _) (uh hn).symm Cr.sane_zero (by show (0:Int)≤0;omega) (by show (0:Int)≤2;omega))
  refine (uh ce).mono ?_
  rintro e w3 ⟨T,hT,jC,jE,jI,dC,dE,dI,rfl,hcap,l1,l2,l3,n1,n2,n3,hL,hg⟩
  unfold Gd.world
  have hG3:=hide (gtr (uh hG2) hg)
  have hr:=hide ((uh hres).on (uh hG3))
  have hfo:=hide (fun vs=>Cr.new_done (dI:=dI) (uh hGw) (uh hG2) hT hcap l1 l2 l3 n1 n2 n3 hL hg (uh hr) (uh hB') vs)
  try go_simp
  refine hK.out _ _ (fun _=>trivial) ?_
  clear hK K ce hcap l1 l2 l3 n1 n2 n3 hL hg hT hx1 hx2
  refine wto (j:=5) (by kernel_rfl) rfl (fun K hK=>?_)
  have fz:=(uh hr).free
  obtain ⟨z0,z1,z2,z3,z4,z5,z6,z7,z8,z9,z10⟩:=Gd.res_cells (uh hr)
  go_simp
  refine hK.out _ _ (fun hx=>absurd (hx.symm.trans (by kernel_rfl)) Bool.false_ne_true) ?_
  clear hK K
  refine wpTill_done (by kernel_rfl) ?_ _
  rename_i K hK
  refine hK _ _ (wp_ret ?_)
  refine bodyPost_ret (v:=.agg (Gd.world T.s jC jE jI dC dE dI T.g)) (by simp [results,Tryz.results10,go_sem,Gd.world,z0,z1,z2,z3,z4,z5,z6,z7,z8,z9,z10]) rfl ?_
  exact uh hfo [_,_,_,_,_,_,_,_,_,_,_]


open Go.RowKit

def Cr.sp0:Nat→Bool
 | 0=>true
 | _=>false

theorem cStep_first {w:World} {T:Cr.W} {gC gE gI cC cE cI:Nat} (hL:Gd.Lists w gC gE gI T.c T.E T.I) (hG:Cr.Good T) (h1:-9223372036854775808≤T.s 1) (h2:T.s 1<9223372036854775807) :
  Calls Tryz.prog 15 #[.agg #[.int .i64 (T.s 0),.int .i64 (T.s 1),.int .i64 (T.s 2),.int .i64 (T.s 3),.slice (some ⟨gC,0,none⟩) 384 cC,.slice (some ⟨gE,0,none⟩) 32 cE,.slice (some ⟨gI,0,none⟩) 40 cI,.int .i64 (T.g 0),.int .i64 (T.g 1),.int .i64 (T.g 2),.int .i64 (T.g 3)],.agg #[.int .i64 0,.int .i64 0,.bool true,.int .i64 0,.int .i64 0,.bool false,.int .i64 0,.int .i64 0,.bool false,.int .i64 0,.int .i64 0,.bool false]] w (Cr.Steps w (fun _=>0) (fun _=>0) Cr.sp0 T) :=
 cStep_any T.s T.g T.c T.E T.I gC gE gI cC cE cI (fun _=>0) (fun _=>0) Cr.sp0 w hL hG h1 h2

theorem Cr.at_one {c:Nat→Int} {E I:Nat→Nat→Int} (h:Cr.Sane c E I) {k:Nat} (hk:k<32) (k0:E k 0≠0):En.first (En.atQ E (E k 3) (E k 4)) 32=(k:Int):=by
 rcases En.first_cases (En.atQ E (E k 3) (E k 4)) 32 with ⟨_,hno⟩ | ⟨j,hj,he,hq,_⟩
 ·have:=hno k hk
  simp [En.atQ,k0] at this
 ·have hq':E j 0≠0∧E j 3=E k 3∧E j 4=E k 4:=by simpa [En.atQ] using hq
  rw [he,h.set.stands.apart j k hj hk hq'.1 k0 hq'.2.1 hq'.2.2]

theorem Cr.IsNew.frame {seed:Int} {T:Cr.W} (h:Cr.IsNew seed T):T.s 0=seed∧T.s 1=0∧T.s 2=1∧T.s 3=0:=by
 obtain ⟨c,es,is,_,rfl⟩:=h
 exact ⟨rfl,rfl,rfl,rfl⟩

set_option maxRecDepth 16000 in
set_option maxHeartbeats 12800000 in
theorem known10_any (w:World):Calls Tryz.prog 9 #[] w (Says w (.bool true)):=by
 have cn:=hide (cNew_any 1 w)
 go_enter Tryz.func9,Tryz.ntmps9
 go_wp2_with fail
 refine (uh cn).mono ?_
 rintro e w1 ⟨T,hN,gC,gE,gI,cC,cE,cI,rfl,hcap,l1,l2,l3,n1,n2,n3,hL,hg1⟩
 obtain ⟨w2,hw2⟩:∃w2,w2=w1.alloc (.cells (Gd.world T.s gC gE gI cC cE cI T.g) 30):=⟨_,rfl⟩
 have hg2:w1.grownBy w2 none:=by rw [hw2];exact World.grownBy_alloc _ _ _
 have hB:Hid (Lie w2 w1.heap.size 30 11 (Gd.box T.s gC gE gI cC cE cI T.g)):=by rw [hw2];exact (Arr.world (heap_alloc_new w1 _)).lie
 have hG:=hide (gtr hg1 hg2)
 have hL2:=hide (hL.on hg2)
 have hN':=hide hN
 clear hcap l1 l2 l3 n1 n2 n3 hL hg1 hg2 cn hN
 unfold Gd.world at hw2 ⊢
 go_upto_region 2 with fail
 rw [←hw2]
 clear hw2
 obtain ⟨B,hBe⟩:∃B,w1.heap.size=B:=⟨_,rfl⟩
 rw [hBe] at hB ⊢
 clear hBe
 clear w1
 obtain ⟨w3,hw3⟩:∃w3,w3=w2.alloc (.cells #[.int .i64 0,.int .i64 0,.bool false,.int .i64 0,.int .i64 0,.bool false,.int .i64 0,.int .i64 0,.bool false,.int .i64 0,.int .i64 0,.bool false] 36):=⟨_,rfl⟩
 have hg3:w2.grownBy w3 none:=by rw [hw3];exact World.grownBy_alloc _ _ _
 have hA:Hid (Lie w3 w2.heap.size 36 12 (Cr.actF (fun _=>0) (fun _=>0) (fun _=>false))):=by rw [hw3];exact Cr.acts_lie (h:=fun _=>0) (i:=fun _=>0) (b:=fun _=>false) (heap_alloc_new w2 _)
 have hB3:=hide ((uh hB).on hg3)
 have hG3:=hide (gtr (uh hG) hg3)
 have hL3:=hide ((uh hL2).on hg3)
 have lA:Hid (w.heap.size≤w2.heap.size):=(uh hG).size
 clear hg3 hG hL2 hB
 go_upto_region 3 with fail
 rw [←hw3]
 clear hw3
 obtain ⟨A,hAe⟩:∃A,w2.heap.size=A:=⟨_,rfl⟩
 rw [hAe] at hA lA ⊢
 clear hAe
 clear w2
 have q2:w3.cell? ⟨A,2,none⟩=some (.bool false):=(uh hA).cell (c:=2) (by omega)
 have fA:=(uh hA).free
 have hA4:Hid (Lie (w3.setCell ⟨A,2,none⟩ (.bool true)) A 36 12 (Cr.actF (fun _=>0) (fun _=>0) Cr.sp0)):=((uh hA).store 2 (.bool true)).congr fun j hj=>by
  rcases (show j=0∨j=1∨j=2∨j=3∨j=4∨j=5∨j=6∨j=7∨j=8∨j=9∨j=10∨j=11 by omega) with rfl | rfl | rfl | rfl | rfl | rfl | rfl | rfl | rfl | rfl | rfl | rfl <;> rfl
 have hAB:=(uh hA).type_ne (uh hB3) (by decide)
 have hB4:=hide ((uh hB3).other hAB 2 (.bool true))
 have hL4:Hid (Gd.Lists (w3.setCell ⟨A,2,none⟩ (.bool true)) gC gE gI T.c T.E T.I):=⟨(uh hL3).cells.other ((uh hA).type_ne (uh hL3).cells (by decide)) _ _,(uh hL3).ents.other ((uh hA).type_ne (uh hL3).ents (by decide)) _ _,(uh hL3).items.other ((uh hA).type_ne (uh hL3).items (by decide)) _ _⟩
 have hG4:Hid (w.grownBy (w3.setCell ⟨A,2,none⟩ (.bool true)) none):=gsr (uh hG3) ⟨A,2,none⟩ (uh lA) _
 clear hA hB3 hL3 hG3 lA hAB
 go_upto_region 4 with fail
 generalize w3.setCell ⟨A,2,none⟩ (.bool true)=w4 at hA4 hB4 hL4 hG4 ⊢
 clear q2 fA
 obtain ⟨b0,b1,b2,b3,b4,b5,b6,b7,b8,b9,b10⟩:=(uh hB4).eleven
 have a0:w4.cell? ⟨A,0,none⟩=some (.int .i64 0):=(uh hA4).cell (c:=0) (by omega)
 have a1:w4.cell? ⟨A,1,none⟩=some (.int .i64 0):=(uh hA4).cell (c:=1) (by omega)
 have a2:w4.cell? ⟨A,2,none⟩=some (.bool true):=(uh hA4).cell (c:=2) (by omega)
 have a3:w4.cell? ⟨A,3,none⟩=some (.int .i64 0):=(uh hA4).cell (c:=3) (by omega)
 have a4:w4.cell? ⟨A,4,none⟩=some (.int .i64 0):=(uh hA4).cell (c:=4) (by omega)
 have a5:w4.cell? ⟨A,5,none⟩=some (.bool false):=(uh hA4).cell (c:=5) (by omega)
 have a6:w4.cell? ⟨A,6,none⟩=some (.int .i64 0):=(uh hA4).cell (c:=6) (by omega)
 have a7:w4.cell? ⟨A,7,none⟩=some (.int .i64 0):=(uh hA4).cell (c:=7) (by omega)
 have a8:w4.cell? ⟨A,8,none⟩=some (.bool false):=(uh hA4).cell (c:=8) (by omega)
 have a9:w4.cell? ⟨A,9,none⟩=some (.int .i64 0):=(uh hA4).cell (c:=9) (by omega)
 have a10:w4.cell? ⟨A,10,none⟩=some (.int .i64 0):=(uh hA4).cell (c:=10) (by omega)
 have a11:w4.cell? ⟨A,11,none⟩=some (.bool false):=(uh hA4).cell (c:=11) (by omega)
 have hfr:=(uh hN').frame
 have cs:=hide (cStep_first (cC:=cC) (cE:=cE) (cI:=cI) (uh hL4) (uh hN').good (by omega) (by omega))
 clear hfr
 go_wp2_with fail
 refine (uh cs).mono ?_
 rintro e w5 ⟨U,hU,jC,jE,jI,dC,dE,dI,rfl,hcap,l1,l2,l3,n1,n2,n3,hL,hg5⟩
 have hgood:=hide (hU.good (uh hN').good).1
 obtain ⟨hUc,-,hU1,-,-,f,u,γ,hf,hu,hfu,hUf⟩:=Cr.first_frame (uh hN') hU (fun _ _=>⟨by show ¬(0:Int)=1;omega,by show ¬(0:Int)=2;omega⟩) rfl rfl rfl rfl
 rw [←hUc] at hfu
 have o:=Cr.one_at 1 0 u
 have g:∀j,j≠1→En.gen (Cr.one 1 0 u) γ j=Cr.one 1 0 u j:=fun j hj=>if_neg hj
 have k0:U.E f 0=1:=by rw [hUf,g 0 (by omega)];exact o.1 (by omega) (by omega)
 have k3:U.E f 3=(u:Int) % 24:=by rw [hUf,g 3 (by omega)];exact o.2.2.1
 have k4:U.E f 4=(u:Int) / 24:=by rw [hUf,g 4 (by omega)];exact o.2.2.2.1
 have hat:=Cr.at_one (uh hgood).sane hf (by omega)
 rw [k3,k4] at hat
 obtain ⟨w6,hw6⟩:∃w6,w6=w5.alloc (.cells (Gd.world U.s jC jE jI dC dE dI U.g) 30):=⟨_,rfl⟩
 have hg6:w5.grownBy w6 none:=by rw [hw6];exact World.grownBy_alloc _ _ _
 have hV:Hid (Lie w6 w5.heap.size 30 11 (Gd.box U.s jC jE jI dC dE dI U.g)):=by rw [hw6];exact (Arr.world (heap_alloc_new w5 _)).lie
 have hG6:=hide (gtr (uh hG4) (gtr hg5 hg6))
 have hL6:=hide (hL.on hg6)
 have hc8:∀i,0≤U.c i∧U.c i≤255:=(uh hgood).sane.fit.cells
 have cf:=hide (fun z (hz:Gd.Lists z jC jE jI U.c U.E U.I)=>refFind_any z.heap.size (some ⟨jC,0,none⟩) 384 dC U.c 3 z hz.vec hc8)
 have ca:=hide (fun z (hz:Gd.Lists z jC jE jI U.c U.E U.I)=>entRefAt_same jE 32 dE U.E ((u:Int) % 24) ((u:Int) / 24) z hz.own.ents)
 rw [hfu] at cf
 rw [hat] at ca
 have hf':(f:Int)<32:=by omega
 have HF:=hide hf
 have K0:=hide k0
 have U1:=hide hU1
 have hu':=hide hu
 clear hcap l1 l2 l3 n1 n2 n3 hL hg5 hg6 hU hUc hU1 hf hu hfu hUf o g k0 k3 k4 hat hc8 cs b0 b1 b2 b3 b4 b5 b6 b7 b8 b9 b10 a0 a1 a2 a3 a4 a5 a6 a7 a8 a9 a10 a11 hA4 hB4 hL4 hG4 hN' hgood
 unfold Gd.world at hw6 ⊢
 go_upto_region 5 with fail
 rw [←hw6]
 clear hw6
 obtain ⟨V,hVe⟩:∃V,w5.heap.size=V:=⟨_,rfl⟩
 rw [hVe] at hV ⊢
 clear hVe
 clear w5
 have b4:=(uh hV).eleven.2.2.2.2.1
 have cf':=hide (uh cf _ (uh hL6))
 go_wp2_with fail
 refine (uh cf').mono ?_
 rintro e wy ⟨rfl,hy⟩
 subst wy
 clear cf cf' b4
 have t1:IntKind.i64.wrap ((u:Int) / 24)=(u:Int) / 24:=by rw [IntKind.wrap_i64];have:=uh hu';omega
 have b1:=(uh hV).eleven.2.1
 rw [uh U1] at b1
 have b5:=(uh hV).eleven.2.2.2.2.2.1
 have r0:=((uh hL6).own.ents.row (uh HF)).1
 rw [uh K0] at r0
 have hge:decide ((u:Int)≥0)=true:=by simp
 have hgf:decide ((f:Int)≥0)=true:=by simp
 go_upto_region 6 with fail
 go_quiet (first | (go_at_call 24;refine Calls.quiet_of_same (uh ca _ ?_);exact (uh hL6).on (gdw (World.grownBy.refl _ none) _)) | fail)
 have hfin:=hide (gdw (uh hG6) 33)
 clear b1 b5 r0 ca
 go_wp2
 go_ret
 exact ⟨rfl,gdw (uh hG6) _⟩


open Go.RowKit

structure Cr.Scene (w x:World) (T A gC gE gI cC cE cI:Nat) (how inp:Nat→Int) (sp:Nat→Bool) (S:Cr.W):Prop where
 law:Gd.Law w x T gC gE gI cC cE cI S.s S.g S.c S.E S.I
 acts:Lie x A 36 12 (Cr.actF how inp sp)
 lA:w.heap.size≤A

theorem Cr.Scene.on {w x y:World} {T A gC gE gI cC cE cI:Nat} {how inp:Nat→Int} {sp:Nat→Bool} {S:Cr.W} (h:Cr.Scene w x T A gC gE gI cC cE cI how inp sp S) (hg:x.grownBy y none):Cr.Scene w y T A gC gE gI cC cE cI how inp sp S :=
 ⟨h.law.on hg,h.acts.on hg,h.lA⟩

theorem Cr.Scene.apart {w x:World} {T A gC gE gI cC cE cI:Nat} {how inp:Nat→Int} {sp:Nat→Bool} {S:Cr.W} (h:Cr.Scene w x T A gC gE gI cC cE cI how inp sp S):A≠T∧A≠gC∧A≠gE∧A≠gI :=
 ⟨h.acts.type_ne h.law.hold.box (by decide),h.acts.type_ne h.law.hold.lists.cells (by decide),h.acts.type_ne h.law.hold.lists.ents (by decide),h.acts.type_ne h.law.hold.lists.items (by decide)⟩

theorem Cr.Scene.over {w x x':World} {T A gC gE gI cC cE cI jC jE jI dC dE dI:Nat} {how inp:Nat→Int} {sp:Nat→Bool} {S U:Cr.W} (h:Cr.Scene w x T A gC gE gI cC cE cI how inp sp S) (hcap:32≤dE∧384≤dC) (l1:x.heap.size≤jC) (l2:x.heap.size≤jE) (l3:x.heap.size≤jI) (n1:jC≠jE) (n2:jC≠jI) (n3:jE≠jI) (hL:Gd.Lists x' jC jE jI U.c U.E U.I) (hg:x.grownBy x' none) :
  Cr.Scene w (x'.setCells T 0 (Gd.world U.s jC jE jI dC dE dI U.g).toList) T A jC jE jI dC dE dI how inp sp U :=
 ⟨h.law.over hcap.1 l1 l2 l3 n1 n2 n3 hL hg,(h.acts.on hg).others h.apart.1.symm _ _,h.lA⟩

theorem Cr.Scene.twelve {w x:World} {T A gC gE gI cC cE cI:Nat} {how inp:Nat→Int} {sp:Nat→Bool} {S:Cr.W} (h:Cr.Scene w x T A gC gE gI cC cE cI how inp sp S) :
  x.cell? ⟨A,0,none⟩=some (.int .i64 (how 0))∧x.cell? ⟨A,1,none⟩=some (.int .i64 (inp 0))∧x.cell? ⟨A,2,none⟩=some (.bool (sp 0))∧x.cell? ⟨A,3,none⟩=some (.int .i64 (how 1))∧x.cell? ⟨A,4,none⟩=some (.int .i64 (inp 1))∧x.cell? ⟨A,5,none⟩=some (.bool (sp 1))∧x.cell? ⟨A,6,none⟩=some (.int .i64 (how 2))∧x.cell? ⟨A,7,none⟩=some (.int .i64 (inp 2))∧x.cell? ⟨A,8,none⟩=some (.bool (sp 2))∧x.cell? ⟨A,9,none⟩=some (.int .i64 (how 3))∧x.cell? ⟨A,10,none⟩=some (.int .i64 (inp 3))∧x.cell? ⟨A,11,none⟩=some (.bool (sp 3)) :=
 ⟨h.acts.cell (c:=0) (by omega),h.acts.cell (c:=1) (by omega),h.acts.cell (c:=2) (by omega),h.acts.cell (c:=3) (by omega),h.acts.cell (c:=4) (by omega),h.acts.cell (c:=5) (by omega),h.acts.cell (c:=6) (by omega),h.acts.cell (c:=7) (by omega),h.acts.cell (c:=8) (by omega),h.acts.cell (c:=9) (by omega),h.acts.cell (c:=10) (by omega),h.acts.cell (c:=11) (by omega)⟩

theorem Cr.Scene.step {w x:World} {T A gC gE gI cC cE cI:Nat} {how inp:Nat→Int} {sp:Nat→Bool} {S:Cr.W} (h:Cr.Scene w x T A gC gE gI cC cE cI how inp sp S) (hG:Cr.Good S) (h1:-9223372036854775808≤S.s 1) (h2:S.s 1<9223372036854775807) :
  Calls Tryz.prog 15 #[.agg #[.int .i64 (S.s 0),.int .i64 (S.s 1),.int .i64 (S.s 2),.int .i64 (S.s 3),.slice (some ⟨gC,0,none⟩) 384 cC,.slice (some ⟨gE,0,none⟩) 32 cE,.slice (some ⟨gI,0,none⟩) 40 cI,.int .i64 (S.g 0),.int .i64 (S.g 1),.int .i64 (S.g 2),.int .i64 (S.g 3)],.agg #[.int .i64 (how 0),.int .i64 (inp 0),.bool (sp 0),.int .i64 (how 1),.int .i64 (inp 1),.bool (sp 1),.int .i64 (how 2),.int .i64 (inp 2),.bool (sp 2),.int .i64 (how 3),.int .i64 (inp 3),.bool (sp 3)]] x (Cr.Steps x how inp sp S) :=
 cStep_any S.s S.g S.c S.E S.I gC gE gI cC cE cI how inp sp x h.law.hold.lists hG h1 h2


open Go.RowKit

set_option maxHeartbeats 800000 in
theorem refHero_same (b n c:Nat) (E:Nat→Nat→Int) (seat:Int) (w:World) (hE:Ents w b n E) :
  Calls Tryz.prog 22 #[.slice (some ⟨b,0,none⟩) n c,.int .i64 seat] w fun e w'=>e=.returned (.int .i64 (En.first (En.heroQ E seat) n))∧w'=w:=by
 have hn:=hE.1
 have hE':=hide hE
 skip
 clear hE
 go_enter Tryz.func22,Tryz.ntmps22
 go_wp2_with fail
 go_loop [5] (fun i=>∃k:Nat,k≤n∧i=.int .i64 (k:Int)∧∀j,j<k→En.heroQ E seat j=false) (fun i=>40 - (intOf i).toNat)
 case atStart=>exact ⟨0,by omega,rfl,fun j hj=>by omega⟩
 case round =>
  obtain ⟨k,hk,rfl,hno⟩:=hrel
  have hno':=hide hno
  clear hno
  by_cases hlt:k<n
  ·obtain ⟨u0,_,u2,_⟩:=(uh hE').row hlt
   have hlt':(k:Int)<(n:Int):=by omega
   have HL:=hide hlt
   skip
   clear hlt
   by_cases hf:E k 0=1
   ·by_cases h3:E k 2=seat
    ·have hq:Hid (En.heroQ E seat k=true):=by show En.heroQ E seat k=true;simp [En.heroQ,hf,h3]
     have he:=hide (En.first_hit (uh hno') (uh hq) (uh HL))
     go_wp2
     go_ret
     exact ⟨rti (uh he).symm,rfl⟩
    ·have hq:Hid (En.heroQ E seat k=false):=by show En.heroQ E seat k=false;simp [En.heroQ,h3]
     have h3':(E k 2 == seat)=false:=by simp [h3]
     go_wp2
     go_round
     case rel=>exact ⟨k+1,by have:=uh HL;omega,by go_num,fun j hj=>by
      by_cases e:j=k
      ·rw [e];exact uh hq
      ·exact uh hno' j (by omega)⟩
     case measure=>simp [intOf];omega
   ·have hq:Hid (En.heroQ E seat k=false):=by show En.heroQ E seat k=false;simp [En.heroQ,hf]
    have hf':(E k 0 == 1)=false:=by simp [hf]
    go_wp2
    go_round
    case rel=>exact ⟨k+1,by have:=uh HL;omega,by go_num,fun j hj=>by
     by_cases e:j=k
     ·rw [e];exact uh hq
     ·exact uh hno' j (by omega)⟩
    case measure=>simp [intOf];omega
  ·have hge:¬(k:Int)<(n:Int):=by omega
   have he:=hide (En.first_none (n:=n) (fun j hj=>uh hno' j (by omega)))
   go_wp2
   go_ret
   exact ⟨rti (uh he).symm,rfl⟩

end Go.Proofs.YtbanjoflgoiegaaGreat
