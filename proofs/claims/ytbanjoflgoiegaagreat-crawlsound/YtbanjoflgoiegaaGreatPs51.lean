import Derived.Test.YtbanjoflgoiegaaGreatPs50
import Derived.Test.YtbanjoflgoiegaaGreatPs33
import Derived.Test.YtbanjoflgoiegaaGreatPs41
import Derived.Test.YtbanjoflgoiegaaGreatPs38
namespace Go.Proofs.YtbanjoflgoiegaaGreat
open Go.RowKit

def Cr.MadeOwn (seed f:Int) (w:World) (e:Ending) (w':World):Prop :=
 ∃(c:Nat→Int) (es:List (Int × Nat)) (is:List Gn.Itm) (G nE nI kE kI:Nat) (aE aI:Option Addr),Cr.Lev seed f c es is∧e=.returned (.tuple #[.agg #[.slice (some ⟨G,0,none⟩) 384 384,.slice aE nE kE,.slice aI nI kI],.int .i64 0])∧w.heap.size≤G∧Lie w' G 5 384 (Byts c)∧Cr.Mons w' aE nE es∧Gd.Some w' aI nI (Cr.itemOf is)∧nI=is.length∧w.grownBy w' none∧∀z,Cr.Same w.heap.size w' z→Cr.Mons z aE nE es∧Gd.Some z aI nI (Cr.itemOf is)

theorem gMake10_any (seed f:Int) (h1:1≤f) (h3:f≤3) (w:World):Calls Tryz.prog 53 #[.int .i64 seed,.int .i64 f] w (Cr.MadeOwn seed f w):=by
 obtain ⟨d,hd,hF⟩:=dice_of seed f
 refine (make_any seed f d hd hF h1 h3 w).mono ?_
 rintro e w' ⟨c,F,G,nE,nI,cE,cI,aE,aI,hlev,rfl,hG,hA,hnE,hnI,hE,hI,hg⟩
 have hl:Cr.Lev seed f c (Gn.ents d f c F) (Gn.items d c):=⟨d,F,hd,hF,hlev,rfl,rfl⟩
 have hE40:nE≤40:=by
  rw [hnE]
  have:=Gn.mons_len d f (f+2).toNat 0 ((Gn.those (fun i=>c i == 1) 384).filter (Gn.afar F))
  unfold Gn.ents
  omega
 have hI100:nI≤100:=by
  have:=Gn.items_len d c
  rw [hnI,this.1]
  split <;> omega
 exact ⟨c,_,_,G,nE,nI,cE,cI,aE,aI,hl,rfl,hG,hA.lie,Cr.mons_of hE hnE hE40 (fun p hp=>⟨(hl.mons h1 p hp).1,(hl.mons h1 p hp).2.1,(hl.mons h1 p hp).2.2.1⟩),Cr.goods_of hI hnI hI100,hnI,hg,fun z hz=>⟨Cr.mons_of (hz.owns hE) hnE hE40 (fun p hp=>⟨(hl.mons h1 p hp).1,(hl.mons h1 p hp).2.1,(hl.mons h1 p hp).2.2.1⟩),Cr.goods_of (hz.owns hI) hnI hI100⟩⟩

theorem Cr.Mons.more {w:World} {a:Option Addr} {n:Nat} {es:List (Int × Nat)} (h:Cr.Mons w a n es):Cr.More w a n (es.map fun p=>Cr.one p.1 0 p.2) :=
 ⟨by rw [List.length_map];exact h.1,h.2.1,fun i e he=>by
  rw [List.getElem?_map] at he
  obtain ⟨p,hp,rfl⟩:=Option.map_eq_some_iff.1 he
  obtain ⟨hk,b,ha,hb,hc⟩:=h.2.2 i p hp
  refine ⟨?_,b,ha,hb,hc⟩
  rw [(Cr.one_at p.1 0 p.2).1 (by omega) (by omega)]
  omega⟩

theorem Cr.join_stock (E:Nat→Nat→Int) (es:List (Int × Nat)):Cr.joinAll E (es.map fun p=>Cr.one p.1 0 p.2)=Cr.stockE E es:=by
 unfold Cr.joinAll Cr.stockE
 rw [List.foldl_map]
 congr 1

structure Cr.Entry (w x:World) (B L lo gC gE gI cC cE cI:Nat) (u:World) (lev:Nat→Value) (s g c:Nat→Int) (E I:Nat→Nat→Int):Prop where
 hand:Cr.Hand w x B gC gE gI cC cE cI s g c E I
 lev:Lie x L 80 3 lev
 res:Lie x (B+1) 30 11 (fun j=>#[.int .i64 0,.int .i64 0,.int .i64 0,.int .i64 0,.slice none 0 0,.slice none 0 0,.slice none 0 0,.int .i64 0,.int .i64 0,.int .i64 0,Value.int .i64 0][j]?.getD undef)
 same:Cr.Same lo u x
 bLo:B<lo

theorem Cr.Entry.on {w x y:World} {B L lo gC gE gI cC cE cI:Nat} {u:World} {lev:Nat→Value} {s g c:Nat→Int} {E I:Nat→Nat→Int} (h:Cr.Entry w x B L lo gC gE gI cC cE cI u lev s g c E I) (hg:x.grownBy y none):Cr.Entry w y B L lo gC gE gI cC cE cI u lev s g c E I :=
 ⟨h.hand.on hg,h.lev.on hg,h.res.on hg,h.same.on hg,h.bLo⟩

theorem Cr.Entry.folk {w x x':World} {B L lo gC gE gI cC cE cI jE dE:Nat} {u:World} {lev:Nat→Value} {s g c:Nat→Int} {E I F:Nat→Nat→Int} (h:Cr.Entry w x B L lo gC gE gI cC cE cI u lev s g c E I) (hcap:32≤dE) (hj:jE=gE∨x.heap.size≤jE) (hO:Own x' jE 32 F) (hg:x.grownBy x' none):Cr.Entry w (x'.setCell ⟨B,5,none⟩ (.slice (some ⟨jE,0,none⟩) 32 dE)) B L lo gC jE gI cC dE cI u lev s g c F I :=
 ⟨h.hand.folk hcap hj hO hg,(h.lev.on hg).other (h.hand.hold.box.type_ne h.lev (by decide)) 5 _,(h.res.on hg).other (by omega) 5 _,(h.same.on hg).set (.inl h.bLo) 5 _,h.bLo⟩

theorem Cr.Entry.goods {w x x':World} {B L lo gC gE gI cC cE cI jI dI:Nat} {u:World} {lev:Nat→Value} {s g c:Nat→Int} {E I J:Nat→Nat→Int} (h:Cr.Entry w x B L lo gC gE gI cC cE cI u lev s g c E I) (hj:x.heap.size≤jI) (hJ:Lie x' jI 62 160 (Gd.flat J)) (hg:x.grownBy x' none):Cr.Entry w (x'.setCell ⟨B,6,none⟩ (.slice (some ⟨jI,0,none⟩) 40 dI)) B L lo gC gE jI cC cE dI u lev s g c E J :=
 ⟨h.hand.goods hj hJ hg,(h.lev.on hg).other (h.hand.hold.box.type_ne h.lev (by decide)) 6 _,(h.res.on hg).other (by omega) 6 _,(h.same.on hg).set (.inl h.bLo) 6 _,h.bLo⟩

def Cr.Enters (w:World) (s g:Nat→Int) (E I:Nat→Nat→Int) (e:Ending) (w':World):Prop:=∃T,Cr.Below s g E I T∧Gd.WorldsW w T.s T.g T.c T.E T.I e w'

set_option maxRecDepth 8000 in
set_option maxHeartbeats 12800000 in
theorem cEntered_any (s g c0:Nat→Int) (E I:Nat→Nat→Int) (a:Option Addr) (n m gE gI cE cI:Nat) (w:World) (hE:Lie w gE 54 352 (En.flat E)) (hI:Lie w gI 62 160 (Gd.flat I)) (hcE:32≤cE) (n3:gE≠gI) (hS:Cr.Sane c0 E I) (f1:0≤s 2) (f2:s 2≤2) :
  Calls Tryz.prog 25 #[.agg #[.int .i64 (s 0),.int .i64 (s 1),.int .i64 (s 2),.int .i64 (s 3),.slice a n m,.slice (some ⟨gE,0,none⟩) 32 cE,.slice (some ⟨gI,0,none⟩) 40 cI,.int .i64 (g 0),.int .i64 (g 1),.int .i64 (g 2),.int .i64 (g 3)]] w (Cr.Enters w s g E I):=by
 obtain ⟨wz,hwz⟩:∃wz,wz=w.alloc (.cells #[.int .i64 (s 0),.int .i64 (s 1),.int .i64 (s 2),.int .i64 (s 3),.slice a n m,.slice (some ⟨gE,0,none⟩) 32 cE,.slice (some ⟨gI,0,none⟩) 40 cI,.int .i64 (g 0),.int .i64 (g 1),.int .i64 (g 2),.int .i64 (g 3)] 30):=⟨_,rfl⟩
 obtain ⟨w0,hw0⟩:∃w0,w0=wz.alloc (.cells #[.int .i64 0,.int .i64 0,.int .i64 0,.int .i64 0,.slice none 0 0,.slice none 0 0,.slice none 0 0,.int .i64 0,.int .i64 0,.int .i64 0,.int .i64 0] 30):=⟨_,rfl⟩
 have hgz:w.grownBy wz none:=by rw [hwz];exact World.grownBy_alloc _ _ _
 have hg0:wz.grownBy w0 none:=by rw [hw0];exact World.grownBy_alloc _ _ _
 have hGw:=hide (gtr hgz hg0)
 have sz:wz.heap.size=w.heap.size+1:=by rw [hwz];simp
 have sw:w0.heap.size=w.heap.size+2:=by rw [hw0,hwz];simp
 have hbox:Hid (Lie w0 w.heap.size 30 11 (fun j=>#[.int .i64 (s 0),.int .i64 (s 1),.int .i64 (s 2),.int .i64 (s 3),.slice a n m,.slice (some ⟨gE,0,none⟩) 32 cE,.slice (some ⟨gI,0,none⟩) 40 cI,.int .i64 (g 0),.int .i64 (g 1),.int .i64 (g 2),Value.int .i64 (g 3)][j]?.getD undef)):=by
  refine Lie.on ?_ hg0
  rw [hwz]
  exact (Arr.lit (heap_alloc_new w _)).lie
 have hres:Hid (Lie w0 (w.heap.size+1) 30 11 (fun j=>#[.int .i64 0,.int .i64 0,.int .i64 0,.int .i64 0,.slice none 0 0,.slice none 0 0,.slice none 0 0,.int .i64 0,.int .i64 0,.int .i64 0,Value.int .i64 0][j]?.getD undef)):=by
  show Lie w0 (w.heap.size+1) 30 11 (fun j=>#[.int .i64 0,.int .i64 0,.int .i64 0,.int .i64 0,.slice none 0 0,.slice none 0 0,.slice none 0 0,.int .i64 0,.int .i64 0,.int .i64 0,Value.int .i64 0][j]?.getD undef)
  rw [hw0,←sz]
  exact (Arr.lit (heap_alloc_new wz _)).lie
 have hE0:=hide (hE.on (uh hGw))
 have hI0:=hide (hI.on (uh hGw))
 have hlE:=hide (And.intro hE.lt hI.lt)
 have hn3:=hide n3
 have hcE':=hide hcE
 have hSa:=hide hS
 have hf:=hide (And.intro f1 f2)
 have cm:=hide (gMake10_any (s 0) (s 2+1) (by omega) (by omega) w0)
 have hwr:IntKind.i64.wrap (s 2+1)=s 2+1:=by rw [IntKind.wrap_i64];omega
 have hsw:=hide sw
 clear hE hI hcE n3 hS f1 f2 hgz hg0 sz sw
 rw [hwz] at hw0
 clear hwz
 go_enter Tryz.func25,Tryz.ntmps25
 go_upto_region 1 with fail
 rw [←hw0]
 clear hw0
 obtain ⟨B,hB⟩:∃B,w.heap.size=B:=⟨_,rfl⟩
 rw [hB] at hbox hres hlE hsw ⊢
 have hB':=hide hB
 clear hB
 have b0:w0.cell? ⟨B,0,none⟩=some (.int .i64 (s 0)):=(uh hbox).cell (c:=0) (by omega)
 have b2:w0.cell? ⟨B,2,none⟩=some (.int .i64 (s 2)):=(uh hbox).cell (c:=2) (by omega)
 go_wp2_with fail
 refine (uh cm).mono ?_
 rintro e0 w1 ⟨c,es,is,G,nE,nI,kE,kI,aE,aI,hlev,rfl,hG,hC,hM,hIt,hnI,hg1,hMI⟩
 obtain ⟨w2,hw2⟩:∃w2,w2=w1.alloc (.cells #[.slice (some ⟨G,0,none⟩) 384 384,.slice aE nE kE,.slice aI nI kI] 80):=⟨_,rfl⟩
 have hg2:w1.grownBy w2 none:=by rw [hw2];exact World.grownBy_alloc _ _ _
 have hg02:=gtr hg1 hg2
 have hlv:Hid (Lie w2 w1.heap.size 80 3 (fun j=>#[.slice (some ⟨G,0,none⟩) 384 384,.slice aE nE kE,.slice aI nI kI][j]?.getD undef)):=by
  rw [hw2]
  exact (Arr.lit (heap_alloc_new w1 _)).lie
 have hbox2:=hide ((uh hbox).on hg02)
 have hres2:=hide ((uh hres).on hg02)
 have hE2:=hide ((uh hE0).on hg02)
 have hI2:=hide ((uh hI0).on hg02)
 have hC2:=hide (hC.on hg2)
 have hGw2:=hide (gtr (uh hGw) hg02)
 have hlev':=hide hlev
 have hMI':Hid (∀z,Cr.Same w0.heap.size w2 z→Cr.Mons z aE nE es∧Gd.Some z aI nI (Cr.itemOf is)):=fun z hz=>hMI z ⟨Nat.le_trans hg2.size hz.1,fun k h1 h2=>(hz.2 k h1 (Nat.lt_of_lt_of_le h2 hg2.size)).trans (hg2.block k h2 (by simp))⟩
 have hnI':=hide hnI
 have hGl:Hid (B+2≤G∧G<w1.heap.size):=(show B+2≤G∧G<w1.heap.size by have:=uh hsw;have:=hC.lt;omega)
 clear hlev hG hC hM hIt hnI hg1 hMI hg2 hg02 cm b0 b2 hbox hres hE0 hI0 hGw
 go_upto_region 2 with fail
 rw [←hw2]
 clear hw2
 obtain ⟨L,hL⟩:∃L,w1.heap.size=L:=⟨_,rfl⟩
 rw [hL] at hlv hGl ⊢
 clear hL
 clear w1
 have nBL:=(uh hbox2).type_ne (uh hlv) (by decide)
 have nLB:L≠B:=nBL.symm
 obtain ⟨S,hSn⟩:∃S,S=Cr.num s 2 (s 2+1):=⟨_,rfl⟩
 obtain ⟨x0,hx0⟩:∃x0,x0=(w2.setCell ⟨B,2,none⟩ (.int .i64 (s 2+1))).setCell ⟨B,4,none⟩ (.slice (some ⟨G,0,none⟩) 384 384):=⟨_,rfl⟩
 have hE0:Hid (Cr.Entry w x0 B L w0.heap.size G gE gI 384 cE cI w2 (fun j=>#[.slice (some ⟨G,0,none⟩) 384 384,.slice aE nE kE,.slice aI nI kI][j]?.getD undef) S g c E I):=by
  have q1:=uh hlE
  have q2:=uh hGl
  have q3:=uh hsw
  have q4:=uh hB'
  have nC:B≠G:=by omega
  have nE:B≠gE:=by omega
  have nI:B≠gI:=by omega
  show Cr.Entry w x0 B L w0.heap.size G gE gI 384 cE cI w2 _ S g c E I
  rw [hx0,hSn]
  refine ⟨⟨⟨(((uh hbox2).store 2 _).store 4 _).congr fun j hj=>?_,⟨((uh hC2).other nC _ _).other nC _ _,((uh hE2).other nE _ _).other nE _ _,((uh hI2).other nI _ _).other nI _ _⟩,nC,nE,nI,by omega,by omega,uh hn3⟩,by omega,uh hcE',gsr (gsr (uh hGw2) ⟨B,2,none⟩ (by rw [q4];exact Nat.le_refl _) _) ⟨B,4,none⟩ (by rw [q4];exact Nat.le_refl _) _⟩,((uh hlv).other nBL _ _).other nBL _ _,((uh hres2).other (by omega) _ _).other (by omega) _ _,(Cr.Same.set (.inl (by omega)) (Cr.Same.set (.inl (by omega)) ⟨Nat.le_refl _,fun _ _ _=>rfl⟩ _ _) _ _),by omega⟩
  rcases (show j=0∨j=1∨j=2∨j=3∨j=4∨j=5∨j=6∨j=7∨j=8∨j=9∨j=10 by omega) with rfl | rfl | rfl | rfl | rfl | rfl | rfl | rfl | rfl | rfl | rfl <;> rfl
 have hSn':=hide hSn
 clear hSn
 have fB:=(uh hbox2).free
 have c2:w2.cell? ⟨B,2,none⟩=some (.int .i64 (s 2)):=(uh hbox2).cell (c:=2) (by omega)
 have c4:w2.cell? ⟨B,4,none⟩=some (.slice a n m):=(uh hbox2).cell (c:=4) (by omega)
 have l0:w2.cell? ⟨L,0,none⟩=some (.slice (some ⟨G,0,none⟩) 384 384):=(uh hlv).cell (c:=0) (by omega)
 clear hbox2 hres2 hE2 hI2 hC2 hGw2 hlv
 go_upto_region 6 with fail
 rw [←hx0]
 clear hx0 fB c2 c4 l0
 have hGw:=hide (uh hlE)
 have hland:Hid (∀F,Cr.LandTo c E 4 (Cr.bare E) F→Cr.Sane c F (Cr.stockI (Cr.kept I) is)):=fun F hF=>by
  have hl:=uh hlev'
  have hc8:∀i,0≤c i∧c i≤255:=fun i=>⟨(hl.floor.five i).1,by have:=(hl.floor.five i).2;omega⟩
  obtain ⟨hk,hk1⟩:=Cr.kept_ok (c':=c) (uh hSa).fit.ok
  exact (Cr.landing (uh hSa) hl.floor hl.four (by omega) (Cr.bare_sane hc8 (hl.lay hk hk1) (uh hSa).good.gens) (fun k _ k0=>absurd rfl k0) hF).1
 have hkeep:Hid (∀x,x0.grownBy x none→x.cell? ⟨B,4,none⟩=some (.slice (some ⟨G,0,none⟩) 384 384)∧x.cell? ⟨B,5,none⟩=some (.slice (some ⟨gE,0,none⟩) 32 cE)∧x.cell? ⟨L,1,none⟩=some (.slice aE nE kE)):=fun x hx=>⟨((uh hE0).on hx).hand.hold.box.eleven.2.2.2.2.1,((uh hE0).on hx).hand.hold.box.eleven.2.2.2.2.2.1,((uh hE0).on hx).lev.cell (c:=1) (by omega)⟩
 have ch:Hid (∀z,x0.grownBy z none→Calls Tryz.prog 56 #[.slice (some ⟨gE,0,none⟩) 32 cE] z (Cr.OneOf z gE (Cr.kingsTo E 32))):=fun z hz=>cOnlyHeroes_any gE cE E z ((uh hE0).on hz).hand.hold.lists.own (uh hcE')
 have cg:Hid (∀z (j d:Nat),x0.grownBy z none→Own z j 32 (Cr.kingsTo E 32)→Calls Tryz.prog 55 #[.slice (some ⟨G,0,none⟩) 384 384,.slice (some ⟨j,0,none⟩) 32 d] z (Cr.Gathers z c E)):=fun z j d hz hO=>cGathered_any G 384 j d c c0 E I z ((uh hE0).on hz).hand.hold.lists.cells (Nat.le_refl _) hO (uh hSa) (uh hlev').floor (uh hlev').four
 have cj:Hid (∀z (j:Nat) F,x0.grownBy z none→Own z j 32 F→Cr.LandTo c E 4 (Cr.bare E) F→Calls Tryz.prog 54 #[.slice (some ⟨j,0,none⟩) 32 32,.slice aE nE kE] z (Cr.OneOf z j (Cr.stockE F es))):=fun z j F hz hO hL=>(show Calls Tryz.prog 54 #[.slice (some ⟨j,0,none⟩) 32 32,.slice aE nE kE] z (Cr.OneOf z j (Cr.stockE F es)) by rw [←Cr.join_stock];exact cJoined_any j 32 nE kE aE F _ z hO (Nat.le_refl _) (uh hland F hL).good.gens (uh hMI' z ((uh hE0).on hz).same).1.more)
 have hd6:=hide (gd1 (World.grownBy.refl x0 none))
 refine wp_region_till (h:=10) (S:=fun x=>x.cell? ⟨B,4,none⟩=some (.slice (some ⟨G,0,none⟩) 384 384)∧x.cell? ⟨B,5,none⟩=some (.slice (some ⟨gE,0,none⟩) 32 cE)∧x.cell? ⟨L,1,none⟩=some (.slice aE nE kE)) (by kernel_rfl) ?_
 have hS0:=uh hkeep _ (uh hd6)
 refine wtk (i:=0) (v:=?_) [10] rfl (by kernel_rfl) (by kernel_rfl) (by kernel_rfl) (by kernel_rfl) (fun _ _ _ h=>h) hS0 (Or.inl ⟨by rfl,?_⟩) ?_
 rotate_left
 ·intro x hSx
  try dsimp only at hSx
  go_simp
  try with_reducible rfl
 simp only [Act.put]
 refine wtk (i:=1) (v:=?_) [10] rfl (by kernel_rfl) (by kernel_rfl) (by kernel_rfl) (by kernel_rfl) (fun _ _ _ h=>h) hS0 (Or.inl ⟨by rfl,?_⟩) ?_
 rotate_left
 ·intro x hSx
  try dsimp only at hSx
  go_simp
  try with_reducible rfl
 simp only [Act.put]
 refine wtk (i:=2) (v:=?_) [10] rfl (by kernel_rfl) (by kernel_rfl) (by kernel_rfl) (by kernel_rfl) (fun _ _ _ h=>h) hS0 (Or.inl ⟨by rfl,?_⟩) ?_
 rotate_left
 ·intro x hSx
  try dsimp only at hSx
  go_simp
  try with_reducible rfl
 simp only [Act.put]
 refine wtk (i:=3) (v:=?_) [10] rfl (by kernel_rfl) (by kernel_rfl) (by kernel_rfl) (by kernel_rfl) (fun _ _ _ h=>h) hS0 (Or.inl ⟨by rfl,?_⟩) ?_
 rotate_left
 ·intro x hSx
  try dsimp only at hSx
  go_simp
  try with_reducible rfl
 simp only [Act.put]
 refine wtk (i:=6) (v:=?_) [10] rfl (by kernel_rfl) (by kernel_rfl) (by kernel_rfl) (by kernel_rfl) (fun _ _ _ h=>h) hS0 (Or.inl ⟨by rfl,?_⟩) ?_
 rotate_left
 ·intro x hSx
  try dsimp only at hSx
  go_simp
  try with_reducible rfl
 simp only [Act.put]
 refine wtk (i:=7) (v:=?_) [10] rfl (by kernel_rfl) (by kernel_rfl) (by kernel_rfl) (by kernel_rfl) (fun _ _ _ h=>h) hS0 (Or.inl ⟨by rfl,?_⟩) ?_
 rotate_left
 ·intro x hSx
  try dsimp only at hSx
  go_simp
  try with_reducible rfl
 simp only [Act.put]
 refine wto (j:=4) (by kernel_rfl) rfl (fun K hK=>?_)
 go_simp
 refine (uh ch _ (uh hd6)).mono ?_
 rintro e0 x1 ⟨j1,d1,rfl,hc1,hj1,hown1,hg1⟩
 have hG1:=hide (gtr (uh hd6) hg1)
 have hO1:=hide hown1
 have hS1:=uh hkeep _ (uh hG1)
 clear hg1 hc1 hj1 hown1
 try go_simp
 refine hK.out _ _ (fun _=>uh hkeep _ (uh hG1)) ?_
 clear hK K
 refine wto (j:=5) (by kernel_rfl) rfl (fun K hK=>?_)
 go_simp
 refine (uh cg _ j1 d1 (uh hG1) (uh hO1)).mono ?_
 rintro e0 x2 ⟨j2,F,rfl,hl2,hown2,hland,hg2⟩
 have hG2:=hide (gtr (uh hG1) hg2)
 have hO2:=hide hown2
 have hla:=hide hland
 have hj2:Hid (x0.heap.size≤j2):=Nat.le_trans (uh hG1).size hl2
 have hS2:=uh hkeep _ (uh hG2)
 clear hg2 hl2 hown2 hland hS1 hO1
 try go_simp
 refine hK.out _ _ (fun _=>uh hkeep _ (uh hG2)) ?_
 clear hK K
 refine wto (j:=8) (by kernel_rfl) rfl (fun K hK=>?_)
 go_simp
 refine (uh cj _ j2 F (uh hG2) (uh hO2) (uh hla)).mono ?_
 rintro e0 x3 ⟨j3,d3,rfl,hc3,hj3,hown3,hg3⟩
 have hG3:=hide (gtr (uh hG2) hg3)
 have hE1:=hide ((uh hE0).folk hc3 (.inr (by rcases hj3 with h | h;rw [h];exact uh hj2;exact Nat.le_trans (uh hG2).size h)) hown3 (uh hG3))
 have hj3:Hid (x0.heap.size≤j3):=(show x0.heap.size≤j3 by rcases hj3 with h | h;rw [h];exact uh hj2;exact Nat.le_trans (uh hG2).size h)
 have hS3:=uh hkeep _ (uh hG3)
 have fB:=((uh hE0).on (uh hG3)).hand.hold.box.free
 clear hg3 hc3 hown3 hS2 hO2 hj2
 try go_simp
 refine hK.out _ _ (fun _=>uh hkeep _ (uh hG3)) ?_
 clear hK K
 refine wtk (i:=9) (v:=?_) [10] rfl (by kernel_rfl) (by kernel_rfl) (by kernel_rfl) (by kernel_rfl) (fun _ _ _ h=>h) hS3 (Or.inl ⟨by rfl,?_⟩) ?_
 rotate_left
 ·intro x hSx
  try dsimp only at hSx
  go_simp
  try with_reducible rfl
 simp only [Act.put]
 refine wto (j:=10) (by kernel_rfl) rfl (fun K hK=>?_)
 go_simp
 refine hK.out _ _ (fun hx=>absurd (hx.symm.trans (by kernel_rfl)) Bool.false_ne_true) ?_
 clear hK K
 refine wpTill_done (by kernel_rfl) ?_ _
 clear hkeep ch cg cj hd6 hG1 hG2 hG3 hS3
 go_upto_region 7 with fail
 generalize x3.setCell ⟨B,5,none⟩ (.slice (some ⟨j3,0,none⟩) 32 d3)=y0 at hE1 ⊢
 clear fB
 have hkeep:Hid (∀x,y0.grownBy x none→x.cell? ⟨B,6,none⟩=some (.slice (some ⟨gI,0,none⟩) 40 cI)∧x.cell? ⟨L,2,none⟩=some (.slice aI nI kI)):=fun x hx=>⟨((uh hE1).on hx).hand.hold.box.eleven.2.2.2.2.2.2.1,((uh hE1).on hx).lev.cell (c:=2) (by omega)⟩
 have cc:Hid (∀z,y0.grownBy z none→Calls Tryz.prog 58 #[.slice (some ⟨gI,0,none⟩) 40 cI] z (Gd.Gives40 z (Cr.kept I))):=fun z hz=>cOnlyCarried_any gI cI I z ((uh hE1).on hz).hand.hold.lists.items
 have hsi:Hid (Gd.lay (Cr.kept I) (Cr.itemOf is) nI=Cr.stockI (Cr.kept I) is):=(show Gd.lay (Cr.kept I) (Cr.itemOf is) nI=Cr.stockI (Cr.kept I) is by rw [uh hnI'];rfl)
 have cl:Hid (∀z (j d:Nat),y0.grownBy z none→Lie z j 62 160 (Gd.flat (Cr.kept I))→Calls Tryz.prog 57 #[.slice (some ⟨j,0,none⟩) 40 d,.slice aI nI kI] z (Gd.Gives40 z (Cr.stockI (Cr.kept I) is))):=fun z j d hz hJ=>(show Calls Tryz.prog 57 #[.slice (some ⟨j,0,none⟩) 40 d,.slice aI nI kI] z (Gd.Gives40 z (Cr.stockI (Cr.kept I) is)) by rw [←uh hsi];exact lay_any j d nI kI aI (Cr.kept I) (Cr.itemOf is) z hJ (uh hMI' z ((uh hE1).on hz).same).2)
 have hd7:=hide (gd1 (World.grownBy.refl y0 none))
 refine wp_region_till (h:=7) (S:=fun x=>x.cell? ⟨B,6,none⟩=some (.slice (some ⟨gI,0,none⟩) 40 cI)∧x.cell? ⟨L,2,none⟩=some (.slice aI nI kI)) (by kernel_rfl) ?_
 have hS0:=uh hkeep _ (uh hd7)
 refine wtk (i:=0) (v:=?_) [7] rfl (by kernel_rfl) (by kernel_rfl) (by kernel_rfl) (by kernel_rfl) (fun _ _ _ h=>h) hS0 (Or.inl ⟨by rfl,?_⟩) ?_
 rotate_left
 ·intro x hSx
  try dsimp only at hSx
  go_simp
  try with_reducible rfl
 simp only [Act.put]
 refine wtk (i:=1) (v:=?_) [7] rfl (by kernel_rfl) (by kernel_rfl) (by kernel_rfl) (by kernel_rfl) (fun _ _ _ h=>h) hS0 (Or.inl ⟨by rfl,?_⟩) ?_
 rotate_left
 ·intro x hSx
  try dsimp only at hSx
  go_simp
  try with_reducible rfl
 simp only [Act.put]
 refine wtk (i:=3) (v:=?_) [7] rfl (by kernel_rfl) (by kernel_rfl) (by kernel_rfl) (by kernel_rfl) (fun _ _ _ h=>h) hS0 (Or.inl ⟨by rfl,?_⟩) ?_
 rotate_left
 ·intro x hSx
  try dsimp only at hSx
  go_simp
  try with_reducible rfl
 simp only [Act.put]
 refine wtk (i:=4) (v:=?_) [7] rfl (by kernel_rfl) (by kernel_rfl) (by kernel_rfl) (by kernel_rfl) (fun _ _ _ h=>h) hS0 (Or.inl ⟨by rfl,?_⟩) ?_
 rotate_left
 ·intro x hSx
  try dsimp only at hSx
  go_simp
  try with_reducible rfl
 simp only [Act.put]
 refine wto (j:=2) (by kernel_rfl) rfl (fun K hK=>?_)
 go_simp
 refine (uh cc _ (uh hd7)).mono ?_
 rintro e0 y1 ⟨j4,d4,rfl,hl4,hJ4,hg4⟩
 have hG4:=hide (gtr (uh hd7) hg4)
 have hJ:=hide hJ4
 have hS4:=uh hkeep _ (uh hG4)
 clear hg4 hl4 hJ4
 try go_simp
 refine hK.out _ _ (fun _=>uh hkeep _ (uh hG4)) ?_
 clear hK K
 refine wto (j:=5) (by kernel_rfl) rfl (fun K hK=>?_)
 go_simp
 refine (uh cl _ j4 d4 (uh hG4) (uh hJ)).mono ?_
 rintro e0 y2 ⟨j5,d5,rfl,hl5,hJ5,hg5⟩
 have hG5:=hide (gtr (uh hG4) hg5)
 have hl5:Hid (y0.heap.size≤j5):=Nat.le_trans (uh hG4).size hl5
 have hE2:=hide ((uh hE1).goods (dI:=d5) (uh hl5) hJ5 (uh hG5))
 have hS5:=uh hkeep _ (uh hG5)
 have fB:=((uh hE1).on (uh hG5)).hand.hold.box.free
 clear hg5 hJ5 hS4 hJ
 try go_simp
 refine hK.out _ _ (fun _=>uh hkeep _ (uh hG5)) ?_
 clear hK K
 refine wtk (i:=6) (v:=?_) [7] rfl (by kernel_rfl) (by kernel_rfl) (by kernel_rfl) (by kernel_rfl) (fun _ _ _ h=>h) hS5 (Or.inl ⟨by rfl,?_⟩) ?_
 rotate_left
 ·intro x hSx
  try dsimp only at hSx
  go_simp
  try with_reducible rfl
 simp only [Act.put]
 refine wto (j:=7) (by kernel_rfl) rfl (fun K hK=>?_)
 go_simp
 refine hK.out _ _ (fun hx=>absurd (hx.symm.trans (by kernel_rfl)) Bool.false_ne_true) ?_
 clear hK K
 refine wpTill_done (by kernel_rfl) ?_ _
 clear hkeep cc cl hd7 hG4 hG5 hS5
 go_upto_region 8 with fail
 generalize y2.setCell ⟨B,6,none⟩ (.slice (some ⟨j5,0,none⟩) 40 d5)=y3 at hE2 ⊢
 clear fB
 obtain ⟨b0,b1,b2,b3,b4,b5,b6,b7,b8,b9,b10⟩:=(uh hE2).hand.hold.box.eleven
 have fz:=(uh hE2).res.free
 obtain ⟨z0,z1,z2,z3,z4,z5,z6,z7,z8,z9,z10⟩:=Gd.res_cells (uh hE2).res
 have hfo:Hid (∀vs,Cr.Enters w s g E I (.returned (.agg (Gd.world S G j3 j5 384 d3 d5 g))) (y3.setCells (B+1) 0 vs)):=fun vs=>by
  have hh:=(uh hE2).hand.hold
  have q1:=(uh hE2).res.type_ne hh.lists.cells (by decide)
  have q2:=(uh hE2).res.type_ne hh.lists.ents (by decide)
  have q3:=(uh hE2).res.type_ne hh.lists.items (by decide)
  have k1:=(uh hE0).hand.grown.size
  have k2:=(uh hE1).hand.grown.size
  have k3:=uh hj3
  have k4:=uh hl5
  have k5:=uh hGl
  have k6:=uh hB'
  refine ⟨⟨S,g,c,Cr.stockE F es,Cr.stockI (Cr.kept I) is⟩,⟨c,es,is,F,uh hlev',uh hla,by rw [uh hSn']⟩,G,j3,j5,384,d3,d5,rfl,⟨(uh hE2).hand.cap,Nat.le_refl _⟩,by omega,by omega,by omega,hh.cE,hh.cI,hh.eI,⟨hh.lists.cells.others q1 _ _,hh.lists.ents.others q2 _ _,hh.lists.items.others q3 _ _⟩,own_sets (by omega) _ 0 y3 (uh hE2).hand.grown⟩
 clear hE2
 go_wp2
 refine bodyPost_ret (v:=.agg (Gd.world S G j3 j5 384 d3 d5 g)) (by simp [results,Tryz.results25,go_sem,Gd.world,z0,z1,z2,z3,z4,z5,z6,z7,z8,z9,z10]) rfl ?_
 exact uh hfo [_,_,_,_,_,_,_,_,_,_,_]


open Go.RowKit

theorem Cr.rem16 (a:Int):(a.tmod 16=0)↔(a % 16=0):=⟨fun h=>Int.emod_eq_zero_of_dvd (Int.dvd_of_tmod_eq_zero h),fun h=>Int.tmod_eq_zero_of_dvd (Int.dvd_of_emod_eq_zero h)⟩

set_option maxRecDepth 8000 in
set_option maxHeartbeats 12800000 in
theorem cAil_any (v x:World) (P gC gE gI cC cE cI:Nat) (how inp:Nat→Int) (sp:Nat→Bool) (met left:Bool) (s g c:Nat→Int) (E I:Nat→Nat→Int) (h:Cr.Frm v x P gC gE gI cC cE cI how inp sp met left s g c E I) (hS:Cr.Sane c E I) (hF:Nv.Floor c) :
  Calls Tryz.prog 32 #[.pointer (some ⟨P,0,none⟩)] x (Cr.Goes v P how inp sp met left s g c (Cr.rats s c (Ft.ailE E I 32).1) (Ft.ailE E I 32).2):=by
 have ct:=hide (fightAil_wide s g c E I gC gE gI cC cE cI x h.lists hS.fit)
 have hgens:=hide (hS.ail).good.gens
 obtain ⟨F,hFe⟩:∃F,(Ft.ailE E I 32).1=F:=⟨_,rfl⟩
 obtain ⟨J,hJe⟩:∃J,(Ft.ailE E I 32).2=J:=⟨_,rfl⟩
 rw [hFe,hJe] at ct
 rw [hFe] at hgens
 rw [hFe,hJe]
 have hc8:∀i,0≤c i∧c i≤255:=hS.fit.cells
 obtain ⟨u,hu,hfu,-,-⟩:=Cr.up_stair hF
 have cf:Hid (∀z a k,Vec z.heap.size z a 384 (Byts c)→384≤k→Calls Tryz.prog 78 #[.slice a 384 k,.int .i64 3] z fun e w'=>e=.returned (.int .i64 (u:Int))∧w'=z):=fun z a k hv hk=>by
  have:=find_any z.heap.size a 384 k c 3 z hv hc8 hk
  rwa [hfu] at this
 have hno:Hid (s 1 % 16≠0→Cr.rats s c F=F):=fun h=>(show Cr.rats s c F=F by unfold Cr.rats;rw [if_neg (fun hh=>h hh.1)])
 have hyes:Hid (s 1 % 16=0→Cr.rats s c F=Cr.joinAll F [Cr.one 2 0 u]):=fun h=>(show Cr.rats s c F=Cr.joinAll F [Cr.one 2 0 u] by
  unfold Cr.rats
  show _=if En.first (En.atQ F (Cr.one 2 0 u 3) (Cr.one 2 0 u 4)) 32<0 then Cr.join F (Cr.one 2 0 u) else F
  rw [(Cr.one_at 2 0 u).2.2.1,(Cr.one_at 2 0 u).2.2.2.1,hfu,Int.toNat_natCast]
  by_cases hh:En.first (En.atQ F ((u:Int) % 24) ((u:Int) / 24)) 32<0
  ·rw [if_pos ⟨h,hh⟩,if_pos hh]
  ·rw [if_neg (fun a=>hh a.2),if_neg hh])
 have hone:Hid (Cr.one 2 0 u=En.upd (En.upd (En.stats 2) 3 ((u:Int) % 24)) 4 ((u:Int) / 24)):=(show Cr.one 2 0 u=_ by
  unfold Cr.one
  rw [show En.upd (En.stats 2) 2 0=En.stats 2 from funext fun j=>by unfold En.upd;by_cases e:j=2;rw [if_pos e,e];rfl;rw [if_neg e]])
 have ho1:Hid (1≤Cr.one 2 0 u 0∧Cr.one 2 0 u 0≤4):=(show 1≤Cr.one 2 0 u 0∧Cr.one 2 0 u 0≤4 by rw [(Cr.one_at 2 0 u).1 (by omega) (by omega)];omega)
 obtain ⟨o,ho⟩:∃o,Cr.one 2 0 u=o:=⟨_,rfl⟩
 rw [ho] at hyes hone ho1
 obtain ⟨R,hR⟩:∃R,Cr.rats s c F=R:=⟨_,rfl⟩
 rw [hR] at hno hyes ⊢
 have hu':=hide hu
 have huge:(u:Int)≥0:=by omega
 have hr16:=hide (Cr.rem16 (s 1))
 have hF1:=hide h
 obtain ⟨b0,b1,b2,b3,b4,b5,b6,b7,b8,b9,b10⟩:=h.eleven
 clear h hS hF hFe hJe hc8 hfu hu ho hR
 unfold Gd.world at ct
 go_enter Tryz.func32,Tryz.ntmps32
 go_wp2_with fail
 refine (uh ct).mono ?_
 rintro e w4 ⟨jC,jE,jI,dC,dE,dI,rfl,hcap,l1,l2,l3,n1,n2,n3,hL,hg⟩
 have hX:Hid (Cr.Frm v (((((((((((w4.setCell ⟨P,0,none⟩ (.int .i64 (s 0))).setCell ⟨P,1,none⟩ (.int .i64 (s 1))).setCell ⟨P,2,none⟩ (.int .i64 (s 2))).setCell ⟨P,3,none⟩ (.int .i64 (s 3))).setCell ⟨P,4,none⟩ (.slice (some ⟨jC,0,none⟩) 384 dC)).setCell ⟨P,5,none⟩ (.slice (some ⟨jE,0,none⟩) 32 dE)).setCell ⟨P,6,none⟩ (.slice (some ⟨jI,0,none⟩) 40 dI)).setCell ⟨P,7,none⟩ (.int .i64 (g 0))).setCell ⟨P,8,none⟩ (.int .i64 (g 1))).setCell ⟨P,9,none⟩ (.int .i64 (g 2))).setCell ⟨P,10,none⟩ (.int .i64 (g 3))) P jC jE jI dC dE dI how inp sp met left s g c F J):=(uh hF1).over (s':=s) (g':=g) (dI:=dI) hcap l1 l2 l3 n1 n2 n3 hL hg
 obtain ⟨y0,y1,y2,y3,y4,y5,y6,y7,y8,y9,y10⟩:=((uh hF1).on hg).eleven
 have fB:=((uh hF1).on hg).box.free
 clear hcap l1 l2 l3 n1 n2 n3 hL hg ct b0 b1 b2 b3 b4 b5 b6 b7 b8 b9 b10 hF1
 unfold Gd.world
 go_upto_region 1 with fail
 generalize (((((((((((w4.setCell ⟨P,0,none⟩ (.int .i64 (s 0))).setCell ⟨P,1,none⟩ (.int .i64 (s 1))).setCell ⟨P,2,none⟩ (.int .i64 (s 2))).setCell ⟨P,3,none⟩ (.int .i64 (s 3))).setCell ⟨P,4,none⟩ (.slice (some ⟨jC,0,none⟩) 384 dC)).setCell ⟨P,5,none⟩ (.slice (some ⟨jE,0,none⟩) 32 dE)).setCell ⟨P,6,none⟩ (.slice (some ⟨jI,0,none⟩) 40 dI)).setCell ⟨P,7,none⟩ (.int .i64 (g 0))).setCell ⟨P,8,none⟩ (.int .i64 (g 1))).setCell ⟨P,9,none⟩ (.int .i64 (g 2))).setCell ⟨P,10,none⟩ (.int .i64 (g 3)))=w3 at hX ⊢
 clear y0 y1 y2 y3 y4 y5 y6 y7 y8 y9 y10 fB
 have b4:=(uh hX).eleven.2.2.2.2.1
 have b1:=(uh hX).eleven.2.1
 have cf':=hide (uh cf w3 (some ⟨jC,0,none⟩) dC (uh hX).lists.vec (uh hX).cap.2)
 go_wp2_with fail
 refine (uh cf').mono ?_
 rintro e wy ⟨rfl,hy⟩
 subst wy
 clear cf cf' b4
 by_cases h16:s 1 % 16=0
 ·obtain rfl:=uh hyes h16
  have e1:(s 1).tmod 16=0:=(uh hr16).2 h16
  clear hno hr16
  have cst:=hide (fun z=>entStats_any 2 z)
  obtain ⟨st,hst⟩:∃st,En.stats 2=st:=⟨_,rfl⟩
  rw [hst] at cst hone
  have hkeep:Hid (∀x,w3.grownBy x none→x.cell? ⟨P,5,none⟩=some (.slice (some ⟨jE,0,none⟩) 32 dE)):=fun x hx=>((uh hX).on hx).eleven.2.2.2.2.2.1
  have cp:Hid (∀z,Calls Tryz.prog 79 #[.agg #[.int .i64 (st 0),.int .i64 (st 1),.int .i64 (st 2),.int .i64 (st 3),.int .i64 (st 4),.int .i64 (st 5),.int .i64 (st 6),.int .i64 (st 7),.int .i64 (st 8),.int .i64 (st 9),.int .i64 (st 10)],.int .i64 (u:Int)] z (Says z (.agg #[.int .i64 (o 0),.int .i64 (o 1),.int .i64 (o 2),.int .i64 (o 3),.int .i64 (o 4),.int .i64 (o 5),.int .i64 (o 6),.int .i64 (o 7),.int .i64 (o 8),.int .i64 (o 9),.int .i64 (o 10)]))):=fun z=>(show Calls Tryz.prog 79 #[.agg (En.cells st),.int .i64 (u:Int)] z (Says z (.agg (En.cells o))) by rw [uh hone];exact cPlaced_any st u (uh hu') z)
  have cj:Hid (∀z,w3.grownBy z none→∀a:Option Addr,Cr.More z a 1 [o]→Calls Tryz.prog 54 #[.slice (some ⟨jE,0,none⟩) 32 dE,.slice a 1 1] z (Cr.OneOf z jE (Cr.joinAll F [o]))):=fun z hz a hM=>cJoined_any jE dE 1 1 a F [o] z ((uh hX).on hz).lists.own (uh hX).cap.1 (uh hgens) hM
  have hd3:=hide (gd1 (World.grownBy.refl w3 none))
  unfold En.cells at cst
  clear hyes hone hgens hu' hst
  go_upto_region 3 with fail
  clear b1 e1 h16 huge
  refine wp_region_till (h:=14) (S:=fun x=>x.cell? ⟨P,5,none⟩=some (.slice (some ⟨jE,0,none⟩) 32 dE)) (by kernel_rfl) ?_
  have hS0:=uh hkeep _ (uh hd3)
  refine wtk (i:=0) (v:=?_) [14] rfl (by kernel_rfl) (by kernel_rfl) (by kernel_rfl) (by kernel_rfl) (fun _ _ _ h=>h) hS0 (Or.inl ⟨by rfl,?_⟩) ?_
  rotate_left
  ·intro x hSx
   try dsimp only at hSx
   go_simp
   try with_reducible rfl
  simp only [Act.put]
  refine wtk (i:=1) (v:=?_) [14] rfl (by kernel_rfl) (by kernel_rfl) (by kernel_rfl) (by kernel_rfl) (fun _ _ _ h=>h) hS0 (Or.inl ⟨by rfl,?_⟩) ?_
  rotate_left
  ·intro x hSx
   try dsimp only at hSx
   go_simp
   try with_reducible rfl
  simp only [Act.put]
  refine wtk (i:=2) (v:=?_) [14] rfl (by kernel_rfl) (by kernel_rfl) (by kernel_rfl) (by kernel_rfl) (fun _ _ _ h=>h) hS0 (Or.inl ⟨by rfl,?_⟩) ?_
  rotate_left
  ·intro x hSx
   try dsimp only at hSx
   go_simp
   try with_reducible rfl
  simp only [Act.put]
  refine wtk (i:=3) (v:=?_) [14] rfl (by kernel_rfl) (by kernel_rfl) (by kernel_rfl) (by kernel_rfl) (fun _ _ _ h=>h) hS0 (Or.inl ⟨by rfl,?_⟩) ?_
  rotate_left
  ·intro x hSx
   try dsimp only at hSx
   go_simp
   try with_reducible rfl
  simp only [Act.put]
  refine wtk (i:=4) (v:=?_) [14] rfl (by kernel_rfl) (by kernel_rfl) (by kernel_rfl) (by kernel_rfl) (fun _ _ _ h=>h) hS0 (Or.inl ⟨by rfl,?_⟩) ?_
  rotate_left
  ·intro x hSx
   try dsimp only at hSx
   go_simp
   try with_reducible rfl
  simp only [Act.put]
  refine wtk (i:=5) (v:=?_) [14] rfl (by kernel_rfl) (by kernel_rfl) (by kernel_rfl) (by kernel_rfl) (fun _ _ _ h=>h) hS0 (Or.inl ⟨by rfl,?_⟩) ?_
  rotate_left
  ·intro x hSx
   try dsimp only at hSx
   go_simp
   try with_reducible rfl
  simp only [Act.put]
  refine wtk (i:=7) (v:=?_) [14] rfl (by kernel_rfl) (by kernel_rfl) (by kernel_rfl) (by kernel_rfl) (fun _ _ _ h=>h) hS0 (Or.inl ⟨by rfl,?_⟩) ?_
  rotate_left
  ·intro x hSx
   try dsimp only at hSx
   go_simp
   try with_reducible rfl
  simp only [Act.put]
  refine wto (j:=6) (by kernel_rfl) rfl (fun K hK=>?_)
  go_simp
  refine (uh cst _).mono ?_
  rintro e0 w4 ⟨rfl,hg4⟩
  have hG4:=hide (gtr (uh hd3) hg4)
  have hS4:=uh hkeep _ (uh hG4)
  clear hg4 hS0
  try go_simp
  refine hK.out _ _ (fun _=>uh hkeep _ (uh hG4)) ?_
  clear hK K
  refine wto (j:=8) (by kernel_rfl) rfl (fun K hK=>?_)
  go_simp
  refine (uh cp _).mono ?_
  rintro e0 w5 ⟨rfl,hg5⟩
  have hG5:=hide (gtr (uh hG4) hg5)
  have hS5:=uh hkeep _ (uh hG5)
  clear hg5 hS4
  try go_simp
  refine hK.out _ _ (fun _=>uh hkeep _ (uh hG5)) ?_
  clear hK K
  refine wto (j:=9) (by kernel_rfl) rfl (fun K hK=>?_)
  go_simp
  have hG6:Hid (w3.grownBy (w5.alloc (.cells #[.int .i64 (o 0),.int .i64 (o 1),.int .i64 (o 2),.int .i64 (o 3),.int .i64 (o 4),.int .i64 (o 5),.int .i64 (o 6),.int .i64 (o 7),.int .i64 (o 8),.int .i64 (o 9),.int .i64 (o 10)] 54)) none):=gal (uh hG5) _
  have hS6:=uh hkeep _ (uh hG6)
  have hM:=hide (Cr.more_one w5 o (uh ho1))
  clear hS5
  try go_simp
  refine hK.out _ _ (fun _=>uh hkeep _ (uh hG6)) ?_
  clear hK K
  refine wto (j:=10) (by kernel_rfl) rfl (fun K hK=>?_)
  go_simp
  refine (uh cj _ (uh hG6) _ (uh hM)).mono ?_
  rintro e0 w6 ⟨j6,d6,rfl,hc6,hj6,hown6,hg6⟩
  have hG7:=hide (gtr (uh hG6) hg6)
  have hS7:=uh hkeep _ (uh hG7)
  have hst:=hide ((uh hX).folk hc6 (hj6.imp id (fun h=>Nat.le_trans (uh hG6).size h)) hown6 (uh hG7))
  have f5:=((uh hX).on (uh hG7)).box.free
  clear hc6 hj6 hown6 hg6 hS6
  try go_simp
  refine hK.out _ _ (fun _=>uh hkeep _ (uh hG7)) ?_
  clear hK K
  refine wtk (i:=11) (v:=?_) [12,13,14] rfl (by kernel_rfl) (by kernel_rfl) (by kernel_rfl) (by kernel_rfl) (fun _ _ _ h=>h) hS7 (Or.inl ⟨by rfl,?_⟩) ?_
  rotate_left
  ·intro x hSx
   try dsimp only at hSx
   go_simp
   try with_reducible rfl
  simp only [Act.put]
  refine wtk (i:=12) (v:=?_) [13,14] rfl (by kernel_rfl) (by kernel_rfl) (by kernel_rfl) (by kernel_rfl) (fun _ _ _ h=>h) hS7 (Or.inl ⟨by rfl,?_⟩) ?_
  rotate_left
  ·intro x hSx
   try dsimp only at hSx
   go_simp
   try with_reducible rfl
  simp only [Act.put]
  refine wtk (i:=13) (v:=?_) [14] rfl (by kernel_rfl) (by kernel_rfl) (by kernel_rfl) (by kernel_rfl) (fun _ _ _ h=>h) hS7 (Or.inl ⟨by rfl,?_⟩) ?_
  rotate_left
  ·intro x hSx
   try dsimp only at hSx
   go_simp
   try with_reducible rfl
  simp only [Act.put]
  refine wto (j:=14) (by kernel_rfl) rfl (fun K hK=>?_)
  go_simp
  refine hK.out _ _ (fun hx=>absurd (hx.symm.trans (by kernel_rfl)) Bool.false_ne_true) ?_
  clear hK K
  refine wpTill_done (by kernel_rfl) ?_ _
  clear hkeep cp cj cst hS7 hG4 hG5 hG6 hG7 hM
  go_wp2
  go_end0
  exact ⟨rfl,jC,j6,jI,dC,d6,dI,uh hst⟩
 ·obtain rfl:=uh hno h16
  have e1:((s 1).tmod 16 == 0)=false:=by simp [uh hr16,h16]
  have e2:(s 1 % 16 == 0)=false:=by simpa using h16
  clear hyes hr16 hone ho1
  go_wp2
  go_end0
  exact ⟨rfl,jC,jE,jI,dC,dE,dI,uh hX⟩

def Cr.EndTo (v:World) (P:Nat) (how inp:Nat→Int) (sp:Nat→Bool) (met left:Bool) (s g c:Nat→Int) (E I:Nat→Nat→Int) (e:Ending) (x:World):Prop :=
 ∃T,Cr.Ends s g c E I met left T∧Cr.Goes v P how inp sp met left T.s T.g T.c T.E T.I e x

set_option maxRecDepth 8000 in
set_option maxHeartbeats 12800000 in
theorem cEnd_any (v x:World) (P gC gE gI cC cE cI:Nat) (how inp:Nat→Int) (sp:Nat→Bool) (met left:Bool) (s g c:Nat→Int) (E I:Nat→Nat→Int) (h:Cr.Frm v x P gC gE gI cC cE cI how inp sp met left s g c E I) (hS:Cr.Sane c E I) (f1:1≤s 2) (f3:s 2≤3) :
  Calls Tryz.prog 33 #[.pointer (some ⟨P,0,none⟩)] x (Cr.EndTo v P how inp sp met left s g c E I):=by
 have cc:=hide (cContains_any gE cE E x h.lists.own hS.seats)
 have hF1:=hide h
 have hSa:=hide hS
 have b5:=h.eleven.2.2.2.2.2.1
 have hlost:Hid (Cr.manned E=false→met=true→Cr.Ends s g c E I met left ⟨Cr.num s 3 2,g,c,E,I⟩):=fun h1 h2=>(show _ by unfold Cr.Ends;rw [if_pos h1,if_pos h2])
 have hstay:Hid (Cr.manned E=false→met=false→Cr.Ends s g c E I met left ⟨s,g,c,E,I⟩):=fun h1 h2=>(show _ by unfold Cr.Ends;rw [if_pos h1,if_neg (by rw [h2];exact Bool.false_ne_true)])
 have hwon:Hid (Cr.manned E=true→left=true→s 2=3→Cr.Ends s g c E I met left ⟨Cr.num s 3 1,g,c,E,I⟩):=fun h1 h2 h3=>(show _ by unfold Cr.Ends;rw [if_neg (by rw [h1];exact Bool.false_ne_true.symm),if_pos h2,if_pos h3])
 have hbel:Hid (∀T,Cr.manned E=true→left=true→s 2≠3→Cr.Below s g E I T→Cr.Ends s g c E I met left T):=fun T h1 h2 h3 h4=>(show _ by unfold Cr.Ends;rw [if_neg (by rw [h1];exact Bool.false_ne_true.symm),if_pos h2,if_neg h3];exact h4)
 have hgoes:Hid (Cr.manned E=true→left=false→Cr.Ends s g c E I met left ⟨s,g,c,E,I⟩):=fun h1 h2=>(show _ by unfold Cr.Ends;rw [if_neg (by rw [h1];exact Bool.false_ne_true.symm),if_neg (by rw [h2];exact Bool.false_ne_true)])
 obtain ⟨mm,hmm⟩:∃m,Cr.manned E=m:=⟨_,rfl⟩
 rw [hmm] at cc hlost hstay hwon hbel hgoes
 have hw:=h.words
 clear h hS hmm
 cases mm
 ·clear hwon hbel hgoes
  cases met
  ·have hfin:=hide (uh hstay rfl rfl)
   clear hlost hstay
   go_enter Tryz.func33,Tryz.ntmps33
   go_wp2_with fail
   refine (uh cc).mono ?_
   rintro e w1 ⟨rfl,hg1⟩
   have hF2:=hide ((uh hF1).on hg1)
   have q:=(uh hF2).words.1
   clear hg1 cc b5 hw hF1
   go_wp2
   go_end0
   exact ⟨_,uh hfin,rfl,gC,gE,gI,cC,cE,cI,uh hF2⟩
  ·have hfin:=hide (uh hlost rfl rfl)
   clear hlost hstay
   go_enter Tryz.func33,Tryz.ntmps33
   go_wp2_with fail
   refine (uh cc).mono ?_
   rintro e w1 ⟨rfl,hg1⟩
   have hF2:=hide ((uh hF1).on hg1)
   have q:=(uh hF2).words.1
   have b3:=(uh hF2).eleven.2.2.2.1
   have fP:=(uh hF2).box.free
   have hst:=hide ((uh hF2).num 3 (by omega) 2)
   clear hg1 cc b5 hw hF1 hF2
   go_wp2
   go_end0
   exact ⟨_,uh hfin,rfl,gC,gE,gI,cC,cE,cI,uh hst⟩
 ·clear hlost hstay
  cases left
  ·have hfin:=hide (uh hgoes rfl rfl)
   clear hwon hbel hgoes
   go_enter Tryz.func33,Tryz.ntmps33
   go_wp2_with fail
   refine (uh cc).mono ?_
   rintro e w1 ⟨rfl,hg1⟩
   have hF2:=hide ((uh hF1).on hg1)
   have q:=(uh hF2).words.2
   clear hg1 cc b5 hw hF1
   go_wp2
   go_end0
   exact ⟨_,uh hfin,rfl,gC,gE,gI,cC,cE,cI,uh hF2⟩
  ·clear hgoes
   by_cases h3:s 2=3
   ·have hfin:=hide (uh hwon rfl rfl h3)
    have e3:(s 2 == 3)=true:=by simpa using h3
    clear hwon hbel h3
    go_enter Tryz.func33,Tryz.ntmps33
    go_wp2_with fail
    refine (uh cc).mono ?_
    rintro e w1 ⟨rfl,hg1⟩
    have hF2:=hide ((uh hF1).on hg1)
    have q:=(uh hF2).words.2
    have b2:=(uh hF2).eleven.2.2.1
    have b3:=(uh hF2).eleven.2.2.2.1
    have fP:=(uh hF2).box.free
    have hst:=hide ((uh hF2).num 3 (by omega) 1)
    clear hg1 cc b5 hw hF1 hF2
    go_wp2
    go_end0
    exact ⟨_,uh hfin,rfl,gC,gE,gI,cC,cE,cI,uh hst⟩
   ·have hfin:=hide (fun T=>uh hbel T rfl rfl h3)
    have e3:(s 2 == 3)=false:=by simpa using h3
    have hf:=hide (show 0≤s 2∧s 2≤2 by omega)
    clear hwon hbel h3 f1 f3
    go_enter Tryz.func33,Tryz.ntmps33
    go_wp2_with fail
    refine (uh cc).mono ?_
    rintro e w1 ⟨rfl,hg1⟩
    have hF2:=hide ((uh hF1).on hg1)
    have q:=(uh hF2).words.2
    obtain ⟨b0,b1,b2,b3,b4,b5',b6,b7,b8,b9,b10⟩:=(uh hF2).eleven
    have ce:=hide (cEntered_any s g c E I (some ⟨gC,0,none⟩) 384 cC gE gI cE cI w1 (uh hF2).lists.ents (uh hF2).lists.items (uh hF2).cap.1 (uh hF2).eI (uh hSa) (uh hf).1 (uh hf).2)
    clear hg1 cc b5 hw hF1
    go_wp2_with fail
    refine (uh ce).mono ?_
    rintro e w4 ⟨T,hT,jC,jE,jI,dC,dE,dI,rfl,hcap,l1,l2,l3,n1,n2,n3,hL,hg⟩
    have hX:Hid (Cr.Frm v (((((((((((w4.setCell ⟨P,0,none⟩ (.int .i64 (T.s 0))).setCell ⟨P,1,none⟩ (.int .i64 (T.s 1))).setCell ⟨P,2,none⟩ (.int .i64 (T.s 2))).setCell ⟨P,3,none⟩ (.int .i64 (T.s 3))).setCell ⟨P,4,none⟩ (.slice (some ⟨jC,0,none⟩) 384 dC)).setCell ⟨P,5,none⟩ (.slice (some ⟨jE,0,none⟩) 32 dE)).setCell ⟨P,6,none⟩ (.slice (some ⟨jI,0,none⟩) 40 dI)).setCell ⟨P,7,none⟩ (.int .i64 (T.g 0))).setCell ⟨P,8,none⟩ (.int .i64 (T.g 1))).setCell ⟨P,9,none⟩ (.int .i64 (T.g 2))).setCell ⟨P,10,none⟩ (.int .i64 (T.g 3))) P jC jE jI dC dE dI how inp sp met true T.s T.g T.c T.E T.I):=(uh hF2).over (s':=T.s) (g':=T.g) (dI:=dI) hcap l1 l2 l3 n1 n2 n3 hL hg
    obtain ⟨y0,y1,y2,y3,y4,y5,y6,y7,y8,y9,y10⟩:=((uh hF2).on hg).eleven
    have fB:=((uh hF2).on hg).box.free
    have hfin2:=hide (uh hfin T hT)
    clear hT hcap l1 l2 l3 n1 n2 n3 hL hg ce b0 b1 b2 b3 b4 b5' b6 b7 b8 b9 b10 hF2 hfin q
    unfold Gd.world
    go_wp2
    go_end0
    exact ⟨T,uh hfin2,rfl,jC,jE,jI,dC,dE,dI,uh hX⟩

end Go.Proofs.YtbanjoflgoiegaaGreat
