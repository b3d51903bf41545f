import Derived.Test.YtbanjoflgoiegaaGreatPs34
import Derived.Test.YtbanjoflgoiegaaGreatPs40
namespace Go.Proofs.YtbanjoflgoiegaaGreat
open Go.RowKit

theorem Cr.more_one (w:World) (o:Nat→Int) (ho:1≤o 0∧o 0≤4):Cr.More (w.alloc (.cells (En.cells o) 54)) (some ⟨w.heap.size,0,none⟩) 1 [o]:=by
 refine ⟨rfl,by omega,fun i e he=>?_⟩
 have hi:i=0:=by
  have:=(List.getElem?_eq_some_iff.1 he).1
  simp at this
  omega
 subst hi
 obtain rfl:o=e:=by simpa using he
 have hl:=Lie.copied w o 54
 exact ⟨ho,w.heap.size,rfl,hl.lt,fun j hj=>by rw [Nat.zero_mul,Nat.zero_add];exact hl.cell hj⟩

theorem Cr.join_one {E:Nat→Nat→Int} {o:Nat→Int} (h:En.first (En.atQ E (o 3) (o 4)) 32<0):Cr.joinAll E [o]=Cr.join E o:=if_pos h

def Cr.Brings (v:World) (P:Nat) (how inp:Nat→Int) (sp:Nat→Bool) (met left:Bool) (s g c:Nat→Int) (E I:Nat→Nat→Int) (t:Nat) (e:Ending) (x:World):Prop :=
 ∃F,Cr.Comes c (t:Int) true E F∧Cr.Goes v P how inp sp met left s g c F I e x

set_option maxRecDepth 8000 in
set_option maxHeartbeats 6400000 in
theorem cBring_any (v x:World) (P gC gE gI cC cE cI:Nat) (how inp:Nat→Int) (sp:Nat→Bool) (met left:Bool) (s g c:Nat→Int) (E I:Nat→Nat→Int) (t:Nat) (h:Cr.Frm v x P gC gE gI cC cE cI how inp sp met left s g c E I) (hS:Cr.Sane c E I) (hF:Nv.Floor c) (hno:Gd.hero E (t:Int)<0) :
  Calls Tryz.prog 69 #[.pointer (some ⟨P,0,none⟩),.int .i64 (t:Int)] x (Cr.Brings v P how inp sp met left s g c E I t):=by
 have hh:=hide h
 have hgens:=hide hS.good.gens
 have hkeep:Hid (∀z,x.grownBy z none→z.cell? ⟨P,4,none⟩=some (.slice (some ⟨gC,0,none⟩) 384 cC)∧z.cell? ⟨P,5,none⟩=some (.slice (some ⟨gE,0,none⟩) 32 cE)):=fun z hz=>⟨((uh hh).on hz).eleven.2.2.2.2.1,((uh hh).on hz).eleven.2.2.2.2.2.1⟩
 have hch:Hid (∀z,x.grownBy z none→Calls Tryz.prog 104 #[.slice (some ⟨gC,0,none⟩) 384 cC,.slice (some ⟨gE,0,none⟩) 32 cE] z fun e y=>∃q,e=.returned (.int .i64 q)∧Hid (Nv.IsSpot c E 32 (Gr.find 384 c 3 % 24) (Gr.find 384 c 3 / 24) q)∧Hid (x.grownBy y none)):=fun z hz=>(cArrival_any (some ⟨gC,0,none⟩) (some ⟨gE,0,none⟩) cC 32 cE c E z ((uh hh).on hz).lists.vec hF h.cap.2 ⟨by omega,h.cap.1,.inr ⟨gE,rfl,((uh hh).on hz).lists.own.ents⟩⟩ hS.good.words).mono fun e y ⟨q,h1,h2,h3⟩=>⟨q,h2,h1,gtr hz h3⟩
 have hdef:Hid (∀q F e w',Nv.IsSpot c E 32 (Gr.find 384 c 3 % 24) (Gr.find 384 c 3 / 24) q→((q<0∧F=E)∨∃p:Nat,q=(p:Int)∧F=Cr.join E (Cr.one 1 (t:Int) p))→Cr.Goes v P how inp sp met left s g c F I e w'→Cr.Brings v P how inp sp met left s g c E I t e w'):=fun q F e w' h1 h2 h3=>⟨F,(show Cr.Comes c (t:Int) true E F by unfold Cr.Comes;rw [if_pos ⟨rfl,hno⟩];exact ⟨q,h1,h2⟩),h3⟩
 clear h hS hF hno
 go_enter Tryz.func69,Tryz.ntmps69
 go_upto_region 0 with fail
 go_cut [4] from 6 (fun v4 wx=>∃q,v4=.int .i64 q∧Hid (Nv.IsSpot c E 32 (Gr.find 384 c 3 % 24) (Gr.find 384 c 3 / 24) q)∧Hid (x.grownBy wx none))
 case first =>
  have hd0:=hide (gd1 (World.grownBy.refl x none))
  have hS0:=uh hkeep _ (uh hd0)
  go_region_held3 (fun z=>z.cell? ⟨P,4,none⟩=some (.slice (some ⟨gC,0,none⟩) 384 cC)∧z.cell? ⟨P,5,none⟩=some (.slice (some ⟨gE,0,none⟩) 32 cE)) (with_reducible (first | exact uh hkeep _ (uh hd0) | exact uh hkeep _ (uh hg1))) (first
   | (go_at_call 104;with_reducible refine (uh hch _ (uh hd0)).mono ?_;rintro e0 w1 ⟨q,rfl,hq,hg1⟩))
  all_goals (go_wp2_with fail;go_meet)
  exact ⟨q,rfl,hq,hg1⟩
 case rest =>
  clear hkeep hch
  obtain ⟨q,rfl,hq,hg⟩:=hcut
  have hF1:=hide ((uh hh).on (uh hg))
  clear hh hg
  by_cases hneg:q<0
  ·have hfin:Hid (Cr.Brings v P how inp sp met left s g c E I t (.returned (.tuple #[])) wc):=uh hdef q E _ _ (uh hq) (.inl ⟨hneg,rfl⟩) ⟨rfl,gC,gE,gI,cC,cE,cI,uh hF1⟩
   clear hdef
   go_wp2
   go_end0
   exact uh hfin
  ·obtain ⟨p,rfl⟩:∃p:Nat,q=(p:Int):=⟨q.toNat,by omega⟩
   have hroom:=hide (Cr.spot_room (uh hq))
   have hp:=hide (uh hroom).1
   have hdef2:Hid (∀e w',Cr.Goes v P how inp sp met left s g c (Cr.join E (Cr.one 1 (t:Int) p)) I e w'→Cr.Brings v P how inp sp met left s g c E I t e w'):=fun e w' h=>uh hdef (p:Int) _ e w' (uh hq) (.inr ⟨p,rfl,rfl⟩) h
   have hone:Hid (Cr.one 1 (t:Int) p=En.upd (En.upd (En.upd (En.stats 1) 2 (t:Int)) 3 ((p:Int) % 24)) 4 ((p:Int) / 24)):=rfl
   have ho1:Hid (1≤Cr.one 1 (t:Int) p 0∧Cr.one 1 (t:Int) p 0≤4):=(show 1≤Cr.one 1 (t:Int) p 0∧Cr.one 1 (t:Int) p 0≤4 by rw [(Cr.one_at 1 (t:Int) p).1 (by omega) (by omega)];omega)
   have hjo:Hid (Cr.joinAll E [Cr.one 1 (t:Int) p]=Cr.join E (Cr.one 1 (t:Int) p)):=Cr.join_one (by rw [(Cr.one_at 1 (t:Int) p).2.2.1,(Cr.one_at 1 (t:Int) p).2.2.2.1];exact (uh hroom).2.2)
   obtain ⟨o,ho⟩:∃o,Cr.one 1 (t:Int) p=o:=⟨_,rfl⟩
   rw [ho] at hdef2 hone ho1 hjo
   have cst:=hide (entStats_any 1 wc)
   obtain ⟨st,hst⟩:∃st,En.stats 1=st:=⟨_,rfl⟩
   rw [hst] at cst hone
   have hnn:¬(p:Int)<0:=by omega
   clear hdef hq hroom hneg ho hst
   unfold En.cells at cst
   go_wp2_with fail
   refine (uh cst).mono ?_
   rintro e0 w1 ⟨rfl,hg1⟩
   have hF2:=hide ((uh hF1).on hg1)
   obtain ⟨w2,hw2⟩:∃w2,w2=w1.alloc (.cells (En.cells st) 54):=⟨_,rfl⟩
   have hg2:w1.grownBy w2 none:=by rw [hw2];exact World.grownBy_alloc _ _ _
   have hQ:Hid (Lie w2 w1.heap.size 54 11 (Ints st)):=by rw [hw2];exact Lie.copied _ _ _
   have hF3:=hide ((uh hF2).on hg2)
   have lQ:Hid (v.heap.size≤w1.heap.size):=(uh hF2).grown.size
   have nQE:Hid (w1.heap.size≠gC∧w1.heap.size≠gE∧w1.heap.size≠gI):=⟨by have:=(uh hF2).lists.cells.lt;omega,by have:=(uh hF2).lists.ents.lt;omega,by have:=(uh hF2).lists.items.lt;omega⟩
   clear hg1 hg2 cst hF1 hF2
   unfold En.cells at hw2
   go_upto_region 3 with fail
   rw [←hw2]
   clear hw2
   obtain ⟨Q,hQe⟩:∃Q,w1.heap.size=Q:=⟨_,rfl⟩
   rw [hQe] at hQ lQ nQE ⊢
   clear hQe
   have fQ:=(uh hQ).free
   have q2:=(uh hQ).ent.2.2.1
   have hQ3:Hid (Lie (w2.setCell ⟨Q,2,none⟩ (.int .i64 (t:Int))) Q 54 11 (Ints (En.upd st 2 (t:Int)))):=((uh hQ).store 2 (.int .i64 (t:Int))).congr fun j _=>by
    show (if j=2 then Value.int .i64 (t:Int) else .int .i64 (st j))=.int .i64 (if j=2 then (t:Int) else st j)
    split <;> rfl
   have hF4:Hid (Cr.Frm v (w2.setCell ⟨Q,2,none⟩ (.int .i64 (t:Int))) P gC gE gI cC cE cI how inp sp met left s g c E I):=(uh hF3).aside (uh lQ) (uh hQ) (by decide) (uh nQE) 2 _
   clear hF3 hQ
   go_upto_region 4 with fail
   generalize w2.setCell ⟨Q,2,none⟩ (.int .i64 (t:Int))=w3 at hQ3 hF4 ⊢
   clear fQ q2
   have hF3:=hF4
   clear hF4
   obtain ⟨e,he⟩:∃e,En.upd st 2 (t:Int)=e:=⟨_,rfl⟩
   rw [he] at hQ3 hone
   clear he
   have hkeep:Hid (∀x,w3.grownBy x none→x.cell? ⟨P,5,none⟩=some (.slice (some ⟨gE,0,none⟩) 32 cE)∧x.cell? ⟨Q,0,none⟩=some (.int .i64 (e 0))∧x.cell? ⟨Q,1,none⟩=some (.int .i64 (e 1))∧x.cell? ⟨Q,2,none⟩=some (.int .i64 (e 2))∧x.cell? ⟨Q,3,none⟩=some (.int .i64 (e 3))∧x.cell? ⟨Q,4,none⟩=some (.int .i64 (e 4))∧x.cell? ⟨Q,5,none⟩=some (.int .i64 (e 5))∧x.cell? ⟨Q,6,none⟩=some (.int .i64 (e 6))∧x.cell? ⟨Q,7,none⟩=some (.int .i64 (e 7))∧x.cell? ⟨Q,8,none⟩=some (.int .i64 (e 8))∧x.cell? ⟨Q,9,none⟩=some (.int .i64 (e 9))∧x.cell? ⟨Q,10,none⟩=some (.int .i64 (e 10))):=fun x hx=>⟨((uh hF3).on hx).eleven.2.2.2.2.2.1,((uh hQ3).on hx).ent⟩
   have cp:Hid (∀z,w3.grownBy z none→Calls Tryz.prog 79 #[.agg #[.int .i64 (e 0),.int .i64 (e 1),.int .i64 (e 2),.int .i64 (e 3),.int .i64 (e 4),.int .i64 (e 5),.int .i64 (e 6),.int .i64 (e 7),.int .i64 (e 8),.int .i64 (e 9),.int .i64 (e 10)],.int .i64 (p:Int)] z (Says z (.agg #[.int .i64 (o 0),.int .i64 (o 1),.int .i64 (o 2),.int .i64 (o 3),.int .i64 (o 4),.int .i64 (o 5),.int .i64 (o 6),.int .i64 (o 7),.int .i64 (o 8),.int .i64 (o 9),.int .i64 (o 10)]))):=fun z _=>(show Calls Tryz.prog 79 #[.agg (En.cells e),.int .i64 (p:Int)] z (Says z (.agg (En.cells o))) by rw [uh hone];exact cPlaced_any e p (uh hp) z)
   have cj:Hid (∀z,w3.grownBy z none→∀a:Option Addr,Cr.More z a 1 [o]→Calls Tryz.prog 54 #[.slice (some ⟨gE,0,none⟩) 32 cE,.slice a 1 1] z (Cr.OneOf z gE (Cr.join E o))):=fun z hz a hM=>(show Calls Tryz.prog 54 #[.slice (some ⟨gE,0,none⟩) 32 cE,.slice a 1 1] z (Cr.OneOf z gE (Cr.join E o)) by rw [←uh hjo];exact cJoined_any gE cE 1 1 a E [o] z ((uh hF3).on hz).lists.own (uh hF3).cap.1 (uh hgens) hM)
   have hd3:=hide (gd1 (World.grownBy.refl w3 none))
   clear hone hjo hgens hp
   refine wp_region_till (h:=14) (S:=fun x=>x.cell? ⟨P,5,none⟩=some (.slice (some ⟨gE,0,none⟩) 32 cE)∧x.cell? ⟨Q,0,none⟩=some (.int .i64 (e 0))∧x.cell? ⟨Q,1,none⟩=some (.int .i64 (e 1))∧x.cell? ⟨Q,2,none⟩=some (.int .i64 (e 2))∧x.cell? ⟨Q,3,none⟩=some (.int .i64 (e 3))∧x.cell? ⟨Q,4,none⟩=some (.int .i64 (e 4))∧x.cell? ⟨Q,5,none⟩=some (.int .i64 (e 5))∧x.cell? ⟨Q,6,none⟩=some (.int .i64 (e 6))∧x.cell? ⟨Q,7,none⟩=some (.int .i64 (e 7))∧x.cell? ⟨Q,8,none⟩=some (.int .i64 (e 8))∧x.cell? ⟨Q,9,none⟩=some (.int .i64 (e 9))∧x.cell? ⟨Q,10,none⟩=some (.int .i64 (e 10))) (by kernel_rfl) ?_
   have hS0:=uh hkeep _ (uh hd3)
   refine wtk (i:=0) (v:=?_) [14] rfl (by kernel_rfl) (by kernel_rfl) (by kernel_rfl) (by kernel_rfl) (fun _ _ _ h=>h) hS0 (Or.inl ⟨by rfl,?_⟩) ?_
   rotate_left
   ·intro x hSx
    try dsimp only at hSx
    go_simp
    try with_reducible rfl
   simp only [Act.put]
   refine wtk (i:=1) (v:=?_) [14] rfl (by kernel_rfl) (by kernel_rfl) (by kernel_rfl) (by kernel_rfl) (fun _ _ _ h=>h) hS0 (Or.inl ⟨by rfl,?_⟩) ?_
   rotate_left
   ·intro x hSx
    try dsimp only at hSx
    go_simp
    try with_reducible rfl
   simp only [Act.put]
   refine wtk (i:=2) (v:=?_) [14] rfl (by kernel_rfl) (by kernel_rfl) (by kernel_rfl) (by kernel_rfl) (fun _ _ _ h=>h) hS0 (Or.inl ⟨by rfl,?_⟩) ?_
   rotate_left
   ·intro x hSx
    try dsimp only at hSx
    go_simp
    try with_reducible rfl
   simp only [Act.put]
   refine wtk (i:=3) (v:=?_) [14] rfl (by kernel_rfl) (by kernel_rfl) (by kernel_rfl) (by kernel_rfl) (fun _ _ _ h=>h) hS0 (Or.inl ⟨by rfl,?_⟩) ?_
   rotate_left
   ·intro x hSx
    try dsimp only at hSx
    go_simp
    try with_reducible rfl
   simp only [Act.put]
   refine wtk (i:=4) (v:=?_) [14] rfl (by kernel_rfl) (by kernel_rfl) (by kernel_rfl) (by kernel_rfl) (fun _ _ _ h=>h) hS0 (Or.inl ⟨by rfl,?_⟩) ?_
   rotate_left
   ·intro x hSx
    try dsimp only at hSx
    go_simp
    try with_reducible rfl
   simp only [Act.put]
   refine wtk (i:=5) (v:=?_) [14] rfl (by kernel_rfl) (by kernel_rfl) (by kernel_rfl) (by kernel_rfl) (fun _ _ _ h=>h) hS0 (Or.inl ⟨by rfl,?_⟩) ?_
   rotate_left
   ·intro x hSx
    try dsimp only at hSx
    go_simp
    try with_reducible rfl
   simp only [Act.put]
   refine wtk (i:=6) (v:=?_) [14] rfl (by kernel_rfl) (by kernel_rfl) (by kernel_rfl) (by kernel_rfl) (fun _ _ _ h=>h) hS0 (Or.inl ⟨by rfl,?_⟩) ?_
   rotate_left
   ·intro x hSx
    try dsimp only at hSx
    go_simp
    try with_reducible rfl
   simp only [Act.put]
   refine wtk (i:=7) (v:=?_) [14] rfl (by kernel_rfl) (by kernel_rfl) (by kernel_rfl) (by kernel_rfl) (fun _ _ _ h=>h) hS0 (Or.inl ⟨by rfl,?_⟩) ?_
   rotate_left
   ·intro x hSx
    try dsimp only at hSx
    go_simp
    try with_reducible rfl
   simp only [Act.put]
   refine wto (j:=8) (by kernel_rfl) rfl (fun K hK=>?_)
   go_simp
   refine (uh cp _ (uh hd3)).mono ?_
   rintro e0 w4 ⟨rfl,hg4⟩
   have hG4:=hide (gtr (uh hd3) hg4)
   have hS4:=uh hkeep _ (uh hG4)
   clear hg4
   try go_simp
   refine hK.out _ _ (fun _=>uh hkeep _ (uh hG4)) ?_
   clear hK K
   refine wto (j:=9) (by kernel_rfl) rfl (fun K hK=>?_)
   go_simp
   have hG5:Hid (w3.grownBy (w4.alloc (.cells #[.int .i64 (o 0),.int .i64 (o 1),.int .i64 (o 2),.int .i64 (o 3),.int .i64 (o 4),.int .i64 (o 5),.int .i64 (o 6),.int .i64 (o 7),.int .i64 (o 8),.int .i64 (o 9),.int .i64 (o 10)] 54)) none):=gal (uh hG4) _
   have hS5:=uh hkeep _ (uh hG5)
   have hM:=hide (Cr.more_one w4 o (uh ho1))
   clear hS4
   try go_simp
   refine hK.out _ _ (fun _=>uh hkeep _ (uh hG5)) ?_
   clear hK K
   refine wto (j:=10) (by kernel_rfl) rfl (fun K hK=>?_)
   go_simp
   refine (uh cj _ (uh hG5) _ (uh hM)).mono ?_
   rintro e0 w6 ⟨j6,d6,rfl,hc6,hj6,hown6,hg6⟩
   have hG6:=hide (gtr (uh hG5) hg6)
   have hS6:=uh hkeep _ (uh hG6)
   have hst:=hide ((uh hF3).folk hc6 (hj6.imp id (fun h=>Nat.le_trans (uh hG5).size h)) hown6 (uh hG6))
   have f5:=((uh hF3).on (uh hG6)).box.free
   clear hc6 hj6 hown6 hg6 hS5
   try go_simp
   refine hK.out _ _ (fun _=>uh hkeep _ (uh hG6)) ?_
   clear hK K
   refine wtk (i:=11) (v:=?_) [12,13,14] rfl (by kernel_rfl) (by kernel_rfl) (by kernel_rfl) (by kernel_rfl) (fun _ _ _ h=>h) hS6 (Or.inl ⟨by rfl,?_⟩) ?_
   rotate_left
   ·intro x hSx
    try dsimp only at hSx
    go_simp
    try with_reducible rfl
   simp only [Act.put]
   refine wtk (i:=12) (v:=?_) [13,14] rfl (by kernel_rfl) (by kernel_rfl) (by kernel_rfl) (by kernel_rfl) (fun _ _ _ h=>h) hS6 (Or.inl ⟨by rfl,?_⟩) ?_
   rotate_left
   ·intro x hSx
    try dsimp only at hSx
    go_simp
    try with_reducible rfl
   simp only [Act.put]
   refine wtk (i:=13) (v:=?_) [14] rfl (by kernel_rfl) (by kernel_rfl) (by kernel_rfl) (by kernel_rfl) (fun _ _ _ h=>h) hS6 (Or.inl ⟨by rfl,?_⟩) ?_
   rotate_left
   ·intro x hSx
    try dsimp only at hSx
    go_simp
    try with_reducible rfl
   simp only [Act.put]
   refine wto (j:=14) (by kernel_rfl) rfl (fun K hK=>?_)
   go_simp
   refine hK.out _ _ (fun hx=>absurd (hx.symm.trans (by kernel_rfl)) Bool.false_ne_true) ?_
   clear hK K
   refine wpTill_done (by kernel_rfl) ?_ _
   clear hkeep cp cj hS6 hG4 hG5 hG6 hM
   go_wp2
   go_end0
   exact uh hdef2 _ _ ⟨rfl,gC,j6,gI,cC,d6,cI,uh hst⟩

end Go.Proofs.YtbanjoflgoiegaaGreat
