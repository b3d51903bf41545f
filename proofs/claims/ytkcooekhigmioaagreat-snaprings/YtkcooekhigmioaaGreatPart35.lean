import Derived.Test.YtkcooekhigmioaaGreatPart33
import Derived.Test.YtkcooekhigmioaaGreatPart27
namespace Go.Proofs.YtkcooekhigmioaaGreat
open Go.RowKit

theorem Cr.stock_more (E:Nat→Nat→Int) {es:List (Int × Nat)} {i:Nat} {p:Int × Nat} (h:es[i]?=some p):Cr.stockE E (es.take (i+1))=if En.first (En.atQ (Cr.stockE E (es.take i)) ((p.2:Int) % 24) ((p.2:Int) / 24)) 32<0 then Cr.join (Cr.stockE E (es.take i)) (Cr.one p.1 0 p.2) else Cr.stockE E (es.take i):=by
 unfold Cr.stockE
 rw [List.take_add_one,h,List.foldl_append]
 rfl

structure Cr.Stock (w x:World) (B gC gE gI cC cE cI:Nat) (lev:Nat→Value) (s g c:Nat→Int) (E I:Nat→Nat→Int):Prop where
 hand:Cr.Hand w x B gC gE gI cC cE cI s g c E I
 lev:Lie x (B+1) 103 3 lev
 res:Lie x (B+1+1) 31 11 (fun j=>#[.int .i64 0,.int .i64 0,.int .i64 0,.int .i64 0,.slice none 0 0,.slice none 0 0,.slice none 0 0,.int .i64 0,.int .i64 0,.int .i64 0,Value.int .i64 0][j]?.getD undef)

theorem Cr.Stock.on {w x y:World} {B gC gE gI cC cE cI:Nat} {lev:Nat→Value} {s g c:Nat→Int} {E I:Nat→Nat→Int} (h:Cr.Stock w x B gC gE gI cC cE cI lev s g c E I) (hg:x.grownBy y none):Cr.Stock w y B gC gE gI cC cE cI lev s g c E I :=
 ⟨h.hand.on hg,h.lev.on hg,h.res.on hg⟩

theorem Cr.Stock.folk {w x x':World} {B gC gE gI cC cE cI jE dE:Nat} {lev:Nat→Value} {s g c:Nat→Int} {E I F:Nat→Nat→Int} (h:Cr.Stock w x B gC gE gI cC cE cI lev s g c E I) (hcap:32≤dE) (hj:jE=gE∨x.heap.size≤jE) (hO:Own x' jE 32 F) (hg:x.grownBy x' none) :
  Cr.Stock w (x'.setCell ⟨B,5,none⟩ (.slice (some ⟨jE,0,none⟩) 32 dE)) B gC jE gI cC dE cI lev s g c F I :=
 ⟨h.hand.folk hcap hj hO hg,(h.lev.on hg).other (by omega) 5 _,(h.res.on hg).other (by omega) 5 _⟩

theorem Cr.Stock.goods {w x x':World} {B gC gE gI cC cE cI jI dI:Nat} {lev:Nat→Value} {s g c:Nat→Int} {E I J:Nat→Nat→Int} (h:Cr.Stock w x B gC gE gI cC cE cI lev s g c E I) (hj:x.heap.size≤jI) (hJ:Lie x' jI 72 160 (Gd.flat J)) (hg:x.grownBy x' none) :
  Cr.Stock w (x'.setCell ⟨B,6,none⟩ (.slice (some ⟨jI,0,none⟩) 40 dI)) B gC gE jI cC cE dI lev s g c E J :=
 ⟨h.hand.goods hj hJ hg,(h.lev.on hg).other (by omega) 6 _,(h.res.on hg).other (by omega) 6 _⟩

set_option maxRecDepth 8000 in
set_option maxHeartbeats 12800000 in
theorem refStock_any (s g c:Nat→Int) (E I I0:Nat→Nat→Int) (gC gE gI cC cE cI G nE nI kE kI:Nat) (aE aI:Option Addr) (es:List (Int × Nat)) (is:List Gn.Itm) (w:World) (hL:Gd.Lists w gC gE gI c E I) (hcE:32≤cE) (n1:gC≠gE) (n2:gC≠gI) (n3:gE≠gI) (hS:Cr.Sane c E I0) (hm:Cr.Mons w aE nE es) (hw:∀p,p∈es→2≤p.1∧p.1≤4∧p.2<384∧Gr.walkB (c p.2)=true) (hI:Gd.Some w aI nI (Cr.itemOf is)) (hnI:nI=is.length) :
  Calls Tryz.prog 53 #[.agg (Gd.world s gC gE gI cC cE cI g),.agg #[.slice (some ⟨G,0,none⟩) 384 384,.slice aE nE kE,.slice aI nI kI]] w (Cr.Back w gC gE gI s g c (Cr.stockE E es) (Cr.stockI I is)):=by
 obtain ⟨wz,hwz⟩:∃wz,wz=w.alloc (.cells (Gd.world s gC gE gI cC cE cI g) 31):=⟨_,rfl⟩
 obtain ⟨wy,hwy⟩:∃wy,wy=wz.alloc (.cells #[.slice (some ⟨G,0,none⟩) 384 384,.slice aE nE kE,.slice aI nI kI] 103):=⟨_,rfl⟩
 obtain ⟨w0,hw0⟩:∃w0,w0=wy.alloc (.cells #[.int .i64 0,.int .i64 0,.int .i64 0,.int .i64 0,.slice none 0 0,.slice none 0 0,.slice none 0 0,.int .i64 0,.int .i64 0,.int .i64 0,.int .i64 0] 31):=⟨_,rfl⟩
 have hgz:w.grownBy wz none:=by rw [hwz];exact World.grownBy_alloc _ _ _
 have hgy:wz.grownBy wy none:=by rw [hwy];exact World.grownBy_alloc _ _ _
 have hg0:wy.grownBy w0 none:=by rw [hw0];exact World.grownBy_alloc _ _ _
 have hg1:=gtr hgz (gtr hgy hg0)
 have sz:wz.heap.size=w.heap.size+1:=by rw [hwz];simp
 have sy:wy.heap.size=w.heap.size+1+1:=by rw [hwy,hwz];simp
 obtain ⟨B,hB⟩:∃B,w.heap.size=B:=⟨_,rfl⟩
 rw [hB] at sz sy
 have lC:gC<B:=by rw [←hB];exact hL.cells.lt
 have lE:gE<B:=by rw [←hB];exact hL.ents.lt
 have lI:gI<B:=by rw [←hB];exact hL.items.lt
 have hbox:Lie w0 B 31 11 (Gd.box s gC gE gI cC cE cI g):=by
  refine Lie.on ?_ (gtr hgy hg0)
  rw [hwz,←hB]
  exact (Arr.world (heap_alloc_new w _)).lie
 have hlev:Lie w0 (B+1) 103 3 (fun j=>#[.slice (some ⟨G,0,none⟩) 384 384,.slice aE nE kE,.slice aI nI kI][j]?.getD undef):=by
  refine Lie.on ?_ hg0
  rw [hwy,←sz]
  exact (Arr.lit (heap_alloc_new wz _)).lie
 have hres:Lie w0 (B+1+1) 31 11 (fun j=>#[.int .i64 0,.int .i64 0,.int .i64 0,.int .i64 0,.slice none 0 0,.slice none 0 0,.slice none 0 0,.int .i64 0,.int .i64 0,.int .i64 0,Value.int .i64 0][j]?.getD undef):=by
  rw [hw0,←sy]
  exact (Arr.lit (heap_alloc_new wy _)).lie
 have hH:Hid (Cr.Stock w w0 B gC gE gI cC cE cI (fun j=>#[.slice (some ⟨G,0,none⟩) 384 384,.slice aE nE kE,.slice aI nI kI][j]?.getD undef) s g c (Cr.stockE E (es.take 0)) I):=⟨⟨⟨hbox,hL.on hg1,by omega,by omega,by omega,n1,n2,n3⟩,by omega,hcE,hg1⟩,hlev,hres⟩
 have hsn:Hid (∀i,Cr.Sane c (Cr.stockE E (es.take i)) I0):=fun i=>hS.stockE _ (fun p hp=>hw p (List.mem_of_mem_take hp))
 have hm':=hide hm
 have hI':=hide hI
 have hn':=hide hm.1
 have hn40:=hm.2.1
 have hnI':=hide hnI
 have hB':=hide hB
 have hlt3:=hide (And.intro lC (And.intro lE lI))
 clear hL hcE n1 n2 n3 hS hm hw hI hnI hgz hgy hg0 hg1 sz sy lC lE lI hbox hlev hres
 unfold Gd.world at hwz ⊢
 rw [hwz] at hwy
 rw [hwy] at hw0
 clear hwz hwy
 go_enter Tryz.func53,Tryz.ntmps53
 go_upto_region 1 with fail
 rw [←hw0]
 clear hw0 hB
 go_wp2_with fail
 go_loopw [5] (fun v5 wr=>∃(i jE dE:Nat),i≤nE∧v5=.int .i64 (i:Int)∧Hid (jE=gE∨w.heap.size≤jE)∧Hid (Cr.Stock w wr B gC jE gI cC dE cI (fun j=>#[.slice (some ⟨G,0,none⟩) 384 384,.slice aE nE kE,.slice aI nI kI][j]?.getD undef) s g c (Cr.stockE E (es.take i)) I)) (fun v5 _=>50 - (intOf v5).toNat)
 case atStart=>exact ⟨0,gE,cE,by omega,rfl,.inl rfl,hH⟩
 case round =>
  clear hH
  obtain ⟨i,jE,dE,hi,rfl,hjE,hH⟩:=hrel
  have l1:wr.cell? ⟨B+1,1,none⟩=some (.slice aE nE kE):=(uh hH).lev.cell (c:=1) (by omega)
  by_cases hlt:i<nE
  ·have hlt':(i:Int)<(nE:Int):=by omega
   have HL:=hide hlt
   obtain ⟨p,hp⟩:∃p,es[i]?=some p:=⟨es[i]'(by have:=uh hn';omega),List.getElem?_eq_getElem _⟩
   obtain ⟨hk,b,rfl,hb,hcl⟩:=(uh hm').2.2 i p hp
   have hmore:=hide (Cr.stock_more E hp)
   have hsi:=hide (uh hsn i)
   have HK:=hide hk
   have hrow:Hid (∀z,wr.grownBy z none→∀j,j<11→z.cell? ⟨b,i*11+j,none⟩=some (.int .i64 (Cr.one p.1 0 p.2 j))):=fun z hz j hj=>(gce (gtr (uh hH).hand.grown hz) b _ hb (by simp)).trans (hcl j hj)
   have hone:=hide (Cr.one_at p.1 0 p.2)
   have hbw:Hid (b<wr.heap.size):=Nat.lt_of_lt_of_le hb (uh hH).hand.grown.size
   obtain ⟨Ei,hEi⟩:∃Ei,Cr.stockE E (es.take i)=Ei:=⟨_,rfl⟩
   rw [hEi] at hH hmore hsi
   clear hlt hi hk hb hcl hp hEi
   have hkeep:Hid (∀z,wr.grownBy z none→(z.cell? ⟨B,5,none⟩=some (.slice (some ⟨jE,0,none⟩) 32 dE)∧z.cell? ⟨B+1,1,none⟩=some (.slice (some ⟨b,0,none⟩) nE kE)∧z.cell? ⟨b,i*11+3,none⟩=some (.int .i64 ((p.2:Int) % 24))∧z.cell? ⟨b,i*11+4,none⟩=some (.int .i64 ((p.2:Int) / 24)))):=fun z hz=>by
    have hH2:=(uh hH).on hz
    have h3:=uh hrow z hz 3 (by omega)
    have h4:=uh hrow z hz 4 (by omega)
    rw [(uh hone).2.2.1] at h3
    rw [(uh hone).2.2.2.1] at h4
    exact ⟨hH2.hand.hold.box.eleven.2.2.2.2.2.1,hH2.lev.cell (c:=1) (by omega),h3,h4⟩
   have hS0:=uh hkeep wr (World.grownBy.refl _ none)
   have hdr:=hide (gd1 (World.grownBy.refl wr none))
   have ca:=hide (fun z (hz:wr.grownBy z none)=>entRefAt_same jE 32 dE Ei ((p.2:Int) % 24) ((p.2:Int) / 24) z ((uh hH).hand.hold.lists.on hz).own.ents)
   obtain ⟨z0,hz0⟩:∃z,En.first (En.atQ Ei ((p.2:Int) % 24) ((p.2:Int) / 24)) 32=z:=⟨_,rfl⟩
   rw [hz0] at ca hmore
   clear hz0 l1
   go_upto_region 4 with fail
   go_region_held3 (fun z=>z.cell? ⟨B,5,none⟩=some (.slice (some ⟨jE,0,none⟩) 32 dE)∧z.cell? ⟨B+1,1,none⟩=some (.slice (some ⟨b,0,none⟩) nE kE)∧z.cell? ⟨b,i*11+3,none⟩=some (.int .i64 ((p.2:Int) % 24))∧z.cell? ⟨b,i*11+4,none⟩=some (.int .i64 ((p.2:Int) / 24))) (go_keep) (first
    | (go_at_call 66;refine (uh ca _ (uh hdr)).mono ?_;rintro e wq ⟨rfl,hy⟩;subst wq))
   have hH1:=hide ((uh hH).on (uh hdr))
   clear hS0 hkeep ca hH
   by_cases hneg:z0<0
   ·have hnx:Hid (Cr.stockE E (es.take (i+1))=Cr.join Ei (Cr.one p.1 0 p.2)):=(uh hmore).trans (if_pos hneg)
    have hrow2:Hid (∀j,j<11→wr.drew.cell? ⟨b,i*11+j,none⟩=some (.int .i64 (Cr.one p.1 0 p.2 j))):=fun j hj=>uh hrow _ (uh hdr) j hj
    have hk1:Hid (1≤Cr.one p.1 0 p.2 0∧Cr.one p.1 0 p.2 0≤4):=(show 1≤Cr.one p.1 0 p.2 0∧Cr.one p.1 0 p.2 0≤4 by have h:=uh HK;rw [(uh hone).1 (by omega) (by omega)];omega)
    obtain ⟨e1,he1⟩:∃e1,Cr.one p.1 0 p.2=e1:=⟨_,rfl⟩
    rw [he1] at hnx hrow2 hk1
    have hbl:Hid (b<wr.drew.heap.size):=Nat.lt_of_lt_of_le (uh hbw) (uh hdr).size
    generalize wr.drew=wd at hH1 hrow2 hbl ⊢
    have csp:Hid (∀z,wd.grownBy z none→Calls Tryz.prog 58 #[.slice (some ⟨jE,0,none⟩) 32 dE,.agg #[.int .i64 (e1 0),.int .i64 (e1 1),.int .i64 (e1 2),.int .i64 (e1 3),.int .i64 (e1 4),.int .i64 (e1 5),.int .i64 (e1 6),.int .i64 (e1 7),.int .i64 (e1 8),.int .i64 (e1 9),.int .i64 (e1 10)]] z (Cr.ListOf z jE (Cr.join Ei e1))):=fun z hz=>refSpawned_any jE dE Ei e1 z (((uh hH1).hand.hold.lists.on hz).own) (uh hH1).hand.cap (uh hsi).good.gens (uh hk1)
    clear hmore hrow hone he1 hdr hk1
    go_upto_region 5 with fail
    have hrw:Hid (∀x,wd.grownBy x none→∀j,j<11→x.cell? ⟨b,i*11+j,none⟩=some (.int .i64 (e1 j))):=fun x hx j hj=>(gce hx b _ (uh hbl) (by simp)).trans (uh hrow2 j hj)
    have hkeep:Hid (∀x,wd.grownBy x none→(x.cell? ⟨B,5,none⟩=some (.slice (some ⟨jE,0,none⟩) 32 dE)∧x.cell? ⟨B+1,1,none⟩=some (.slice (some ⟨b,0,none⟩) nE kE)∧x.cell? ⟨b,i*11,none⟩=some (.int .i64 (e1 0))∧x.cell? ⟨b,i*11+1,none⟩=some (.int .i64 (e1 1))∧x.cell? ⟨b,i*11+2,none⟩=some (.int .i64 (e1 2))∧x.cell? ⟨b,i*11+3,none⟩=some (.int .i64 (e1 3))∧x.cell? ⟨b,i*11+4,none⟩=some (.int .i64 (e1 4))∧x.cell? ⟨b,i*11+5,none⟩=some (.int .i64 (e1 5))∧x.cell? ⟨b,i*11+6,none⟩=some (.int .i64 (e1 6))∧x.cell? ⟨b,i*11+7,none⟩=some (.int .i64 (e1 7))∧x.cell? ⟨b,i*11+8,none⟩=some (.int .i64 (e1 8))∧x.cell? ⟨b,i*11+9,none⟩=some (.int .i64 (e1 9))∧x.cell? ⟨b,i*11+10,none⟩=some (.int .i64 (e1 10)))):=fun x hx=>⟨((uh hH1).on hx).hand.hold.box.eleven.2.2.2.2.2.1,((uh hH1).on hx).lev.cell (c:=1) (by omega),uh hrw x hx 0 (by omega),uh hrw x hx 1 (by omega),uh hrw x hx 2 (by omega),uh hrw x hx 3 (by omega),uh hrw x hx 4 (by omega),uh hrw x hx 5 (by omega),uh hrw x hx 6 (by omega),uh hrw x hx 7 (by omega),uh hrw x hx 8 (by omega),uh hrw x hx 9 (by omega),uh hrw x hx 10 (by omega)⟩
    have hdr:=hide (gd1 (World.grownBy.refl wd none))
    refine wp_region_till (h:=9) (S:=fun x=>x.cell? ⟨B,5,none⟩=some (.slice (some ⟨jE,0,none⟩) 32 dE)∧x.cell? ⟨B+1,1,none⟩=some (.slice (some ⟨b,0,none⟩) nE kE)∧x.cell? ⟨b,i*11,none⟩=some (.int .i64 (e1 0))∧x.cell? ⟨b,i*11+1,none⟩=some (.int .i64 (e1 1))∧x.cell? ⟨b,i*11+2,none⟩=some (.int .i64 (e1 2))∧x.cell? ⟨b,i*11+3,none⟩=some (.int .i64 (e1 3))∧x.cell? ⟨b,i*11+4,none⟩=some (.int .i64 (e1 4))∧x.cell? ⟨b,i*11+5,none⟩=some (.int .i64 (e1 5))∧x.cell? ⟨b,i*11+6,none⟩=some (.int .i64 (e1 6))∧x.cell? ⟨b,i*11+7,none⟩=some (.int .i64 (e1 7))∧x.cell? ⟨b,i*11+8,none⟩=some (.int .i64 (e1 8))∧x.cell? ⟨b,i*11+9,none⟩=some (.int .i64 (e1 9))∧x.cell? ⟨b,i*11+10,none⟩=some (.int .i64 (e1 10))) (by kernel_rfl) ?_
    have hS0:=uh hkeep _ (uh hdr)
    refine wtk (i:=0) (v:=?_) [1,7,9] rfl (by kernel_rfl) (by kernel_rfl) (by kernel_rfl) (by kernel_rfl) (fun _ _ _ h=>h) hS0 (Or.inl ⟨by rfl,?_⟩) ?_
    rotate_left
    ·intro x hSx
     try dsimp only at hSx
     go_simp
     try with_reducible rfl
    simp only [Act.put]
    refine wtk (i:=1) (v:=?_) [7,9] rfl (by kernel_rfl) (by kernel_rfl) (by kernel_rfl) (by kernel_rfl) (fun _ _ _ h=>h) hS0 (Or.inl ⟨by rfl,?_⟩) ?_
    rotate_left
    ·intro x hSx
     try dsimp only at hSx
     go_simp
     try with_reducible rfl
    simp only [Act.put]
    refine wtk (i:=2) (v:=?_) [3,5,6,7,9] rfl (by kernel_rfl) (by kernel_rfl) (by kernel_rfl) (by kernel_rfl) (fun _ _ _ h=>h) hS0 (Or.inl ⟨by rfl,?_⟩) ?_
    rotate_left
    ·intro x hSx
     try dsimp only at hSx
     go_simp
     try with_reducible rfl
    simp only [Act.put]
    refine wtk (i:=3) (v:=?_) [5,6,7,9] rfl (by kernel_rfl) (by kernel_rfl) (by kernel_rfl) (by kernel_rfl) (fun _ _ _ h=>h) hS0 (Or.inl ⟨by rfl,?_⟩) ?_
    rotate_left
    ·intro x hSx
     try dsimp only at hSx
     go_simp
     try with_reducible rfl
    simp only [Act.put]
    refine wtk (i:=4) (v:=?_) [5,6,7,9] rfl (by kernel_rfl) (by kernel_rfl) (by kernel_rfl) (by kernel_rfl) (fun _ _ _ h=>h) hS0 (Or.inl ⟨by rfl,?_⟩) ?_
    rotate_left
    ·intro x hSx
     try dsimp only at hSx
     go_simp
     try with_reducible rfl
    simp only [Act.put]
    refine wtk (i:=5) (v:=?_) [6,7,9] rfl (by kernel_rfl) (by kernel_rfl) (by kernel_rfl) (by kernel_rfl) (fun _ _ _ h=>h) hS0 (Or.inl ⟨by rfl,?_⟩) ?_
    rotate_left
    ·intro x hSx
     try dsimp only at hSx
     go_simp
     try with_reducible rfl
    simp only [Act.put]
    refine wtk (i:=6) (v:=?_) [7,9] rfl (by kernel_rfl) (by kernel_rfl) (by kernel_rfl) (by kernel_rfl) (fun _ _ _ h=>h) hS0 (Or.inl ⟨by rfl,?_⟩) ?_
    rotate_left
    ·intro x hSx
     try dsimp only at hSx
     go_simp
     try with_reducible rfl
    simp only [Act.put]
    refine wto (j:=7) (by kernel_rfl) rfl (fun K hK=>?_)
    go_simp
    refine (uh csp _ (uh hdr)).mono ?_
    rintro e w2 ⟨j2,d2,rfl,hc2,hj2,hown2,hg2⟩
    have hg3:=hide (gtr (uh hdr) hg2)
    have hst:=hide ((uh hH1).folk hc2 (hj2.imp id (fun h=>Nat.le_trans (uh hdr).size h)) hown2 (uh hg3))
    have hj3:Hid (j2=gE∨w.heap.size≤j2):=hj2.elim (fun h=>by rw [h];exact uh hjE) (fun h=>.inr (Nat.le_trans (Nat.le_trans (uh hH1).hand.grown.size (uh hdr).size) h))
    have x5:=((uh hH1).on (uh hg3)).hand.hold.box.eleven.2.2.2.2.2.1
    have f5:=((uh hH1).on (uh hg3)).hand.hold.box.free
    have hS1:=uh hkeep _ (uh hg3)
    clear hg2 hown2 hj2 hc2 hS0
    try go_simp
    refine hK.out _ _ (fun _=>uh hkeep _ (uh hg3)) ?_
    clear hK K
    refine wtk (i:=8) (v:=?_) [9] rfl (by kernel_rfl) (by kernel_rfl) (by kernel_rfl) (by kernel_rfl) (fun _ _ _ h=>h) hS1 (Or.inl ⟨by rfl,?_⟩) ?_
    rotate_left
    ·intro x hSx
     try dsimp only at hSx
     go_simp
     try with_reducible rfl
    simp only [Act.put]
    refine wto (j:=9) (by kernel_rfl) rfl (fun K hK=>?_)
    go_simp
    refine hK.out _ _ (fun hx=>absurd (hx.symm.trans (by kernel_rfl)) Bool.false_ne_true) ?_
    clear hK K
    refine wpTill_done (by kernel_rfl) ?_ _
    rw [←uh hnx] at hst
    clear csp hrow2 hg3 hS1 hkeep hrw x5 f5
    go_wp2
    go_roundw
    case rel=>exact ⟨i+1,j2,d2,by have:=uh HL;omega,by go_num,hj3,hst⟩
    case measure=>simp [intOf];have:=uh HL;omega
   ·have hnx:Hid (Cr.stockE E (es.take (i+1))=Ei):=(uh hmore).trans (if_neg hneg)
    rw [←uh hnx] at hH1
    clear hnx hmore hrow hone
    go_wp2
    go_roundw
    case rel=>exact ⟨i+1,jE,dE,by have:=uh HL;omega,by go_num,hjE,hH1⟩
    case measure=>simp [intOf];have:=uh HL;omega
  ·obtain rfl:i=nE:=by omega
   have hge:¬(i:Int)<(i:Int):=by omega
   have hall:es.take i=es:=by rw [uh hn'];exact List.take_length
   rw [hall] at hH
   have b6:=(uh hH).hand.hold.box.eleven.2.2.2.2.2.2.1
   have l2:wr.cell? ⟨B+1,2,none⟩=some (.slice aI nI kI):=(uh hH).lev.cell (c:=2) (by omega)
   have cl:=hide (refLay_any gI cI nI kI aI I (Cr.itemOf is) wr (uh hH).hand.hold.lists.items ((uh hI').on (uh hH).hand.grown))
   have hsi:Hid (Gd.lay I (Cr.itemOf is) nI=Cr.stockI I is):=(show Gd.lay I (Cr.itemOf is) nI=Cr.stockI I is by rw [uh hnI'];rfl)
   rw [uh hsi] at cl
   clear hlt hi hall hsi
   go_wp2_with fail
   refine (uh cl).mono ?_
   rintro e w2 ⟨jI,dI,rfl,hj,hlie,hg⟩
   have hX:=hide ((uh hH).goods (dI:=dI) hj hlie hg)
   have hjI:Hid (jI=gI∨w.heap.size≤jI):=.inr (Nat.le_trans (uh hH).hand.grown.size hj)
   have x6:=((uh hH).on hg).hand.hold.box.eleven.2.2.2.2.2.2.1
   have f6:=((uh hH).on hg).hand.hold.box.free
   clear hj hlie hg b6 l1 l2 cl hH
   go_upto_region 7 with fail
   generalize w2.setCell ⟨B,6,none⟩ (.slice (some ⟨jI,0,none⟩) 40 dI)=w3 at hX ⊢
   clear x6 f6
   obtain ⟨b0,b1,b2,b3,b4,b5,b6,b7,b8,b9,b10⟩:=(uh hX).hand.hold.box.eleven
   have fz:=(uh hX).res.free
   obtain ⟨z0,z1,z2,z3,z4,z5,z6,z7,z8,z9,z10⟩:=Gd.res_cells (uh hX).res
   have hR:Hid (w.heap.size≤B+1+1∧B+1+1≠gC∧B+1+1≠jE∧B+1+1≠jI):=by
    have h1:=(uh hX).res.type_ne (uh hX).hand.hold.lists.cells (by decide)
    have h2:=(uh hX).res.type_ne (uh hX).hand.hold.lists.ents (by decide)
    have h3:=(uh hX).res.type_ne (uh hX).hand.hold.lists.items (by decide)
    exact ⟨by rw [uh hB'];omega,h1,h2,h3⟩
   have hfo:=hide (fun vs=>(uh hX).hand.back (oC:=gC) (oE:=gE) (oI:=gI) (uh hR).1 (uh hR).2.1 (uh hR).2.2.1 (uh hR).2.2.2 (.inl rfl) (uh hjE) (uh hjI) vs)
   go_wp2
   refine bodyPost_ret (v:=.agg (Gd.world s gC jE jI cC dE dI g)) (by simp [results,Tryz.results53,go_sem,Gd.world,z0,z1,z2,z3,z4,z5,z6,z7,z8,z9,z10]) rfl ?_
   exact uh hfo [_,_,_,_,_,_,_,_,_,_,_]

end Go.Proofs.YtkcooekhigmioaaGreat
