import Derived.Test.YtbanjoflgoiegaaGreatPs15
import Derived.Test.YtbanjoflgoiegaaGreatPs18
namespace Go.Proofs.YtbanjoflgoiegaaGreat
open Go.RowKit

structure Frame (base:Nat→Prop) (x y:World):Prop where
 os:y.os=x.os
 tape:y.tape=x.tape
 output:y.output=x.output
 size:x.heap.size≤y.heap.size
 block:∀i,i<x.heap.size→base i→y.heap[i]?=x.heap[i]?

theorem Frame.refl (base:Nat→Prop) (x:World):Frame base x x:=⟨rfl,rfl,rfl,Nat.le_refl _,fun _ _ _=>rfl⟩

def Gd.Acted (base:Nat→Prop) (x:World) (B gC gE gI cC cE cI:Nat) (s g c:Nat→Int) (E I:Nat→Nat→Int) (e:Ending) (x':World):Prop :=
 e=.returned (.tuple #[])∧Gd.Hold x' B gC gE gI cC cE cI s g c E I∧Frame base x x'

theorem below_set {b:Nat→Prop} {x y:World} (h:Frame b x y) (p i:Nat) (hp:¬b p) (u:Value):Frame b x (y.setCell ⟨p,i,none⟩ u) :=
 ⟨h.os,h.tape,h.output,by simpa using h.size,fun k hk hb=>(heap_setCell_other y ⟨p,i,none⟩ k u (by show k≠p;rintro rfl;exact hp hb)).trans (h.block k hk hb)⟩

theorem below_more {b:Nat→Prop} {x y z:World} (h:Frame b x y) (hg:y.grownBy z none):Frame b x z :=
 ⟨hg.os.trans h.os,hg.tape.trans h.tape,hg.output.trans h.output,Nat.le_trans h.size hg.size,fun k hk hb=>(hg.block k (Nat.lt_of_lt_of_le hk h.size) (fun e=>by cases e)).trans (h.block k hk hb)⟩

theorem below_root {b:Nat→Prop} {x y z:World} {r:Nat} (h:Frame b x y) (hg:y.grownBy z (some r)) (hr:¬b r):Frame b x z :=
 ⟨hg.os.trans h.os,hg.tape.trans h.tape,hg.output.trans h.output,Nat.le_trans h.size hg.size,fun k hk hb=>(hg.block k (Nat.lt_of_lt_of_le hk h.size) (fun e=>by cases e;exact hr hb)).trans (h.block k hk hb)⟩

theorem Lie.frame {b:Nat→Prop} {x y:World} {g:Nat} {T:TypeId} {m:Nat} {F:Nat→Value} (h:Lie x g T m F) (hf:Frame b x y) (hg:b g):Lie y g T m F:=by
 obtain ⟨M,K,⟨cur,h1,h2,h3⟩,hm,hk⟩:=h
 exact ⟨M,K,⟨cur,(hf.block g (lt_of_block h1) hg).trans h1,h2,h3⟩,hm,hk⟩

theorem Frame.grown {b:Nat→Prop} {w x y:World} (hf:Frame b x y) (hg:w.grownBy x none) (hb:∀i,i<w.heap.size→b i):w.grownBy y none :=
 ⟨hf.os.trans hg.os,hf.tape.trans hg.tape,hf.output.trans hg.output,Nat.le_trans hg.size hf.size,fun i hi hr=>(hf.block i (Nat.lt_of_lt_of_le hi hg.size) (hb i hi)).trans (hg.block i hi hr)⟩

def Gd.heal (E:Nat→Nat→Int) (k:Nat):Nat→Nat→Int:=Gd.set (Gd.set E k 5 (min (E k 5+6) (E k 6))) k 9 0

theorem Gd.row_gone:Gd.row 0 0 0 0=Gd.gone:=by
 funext j
 unfold Gd.row Gd.gone
 split <;> rfl

theorem Gd.Hold.put {x:World} {B gC gE gI cC cE cI:Nat} {s g c:Nat→Int} {E I:Nat→Nat→Int} (h:Gd.Hold x B gC gE gI cC cE cI s g c E I) (m:Nat) (a b d e:Int):Gd.Hold ((((x.setCell ⟨gI,m*4,none⟩ (.int .i64 a)).setCell ⟨gI,m*4+1,none⟩ (.int .i64 b)).setCell ⟨gI,m*4+2,none⟩ (.int .i64 d)).setCell ⟨gI,m*4+3,none⟩ (.int .i64 e)) B gC gE gI cC cE cI s g c E (En.put I m (Gd.row a b d e)) :=
 h.items (grown_put4 (World.grownBy.refl _ _) m _ _ _ _) (h.lists.items.put m a b d e)

theorem below_put4 {b:Nat→Prop} {x y:World} (h:Frame b x y) {p:Nat} (hp:¬b p) (m:Nat) (v0 v1 v2 v3:Value):Frame b x ((((y.setCell ⟨p,m*4,none⟩ v0).setCell ⟨p,m*4+1,none⟩ v1).setCell ⟨p,m*4+2,none⟩ v2).setCell ⟨p,m*4+3,none⟩ v3) :=
 below_set (below_set (below_set (below_set h p _ hp _) p _ hp _) p _ hp _) p _ hp _

theorem Gd.Hold.heals {x:World} {B gC gE gI cC cE cI:Nat} {s g c:Nat→Int} {E I:Nat→Nat→Int} (h:Gd.Hold x B gC gE gI cC cE cI s g c E I) (k m:Nat) (v:Int) (hv:v=min (E k 5+6) (E k 6)):Gd.Hold ((((((x.setCell ⟨gE,k*11+5,none⟩ (.int .i64 v)).setCell ⟨gE,k*11+9,none⟩ (.int .i64 0)).setCell ⟨gI,m*4,none⟩ (.int .i64 0)).setCell ⟨gI,m*4+1,none⟩ (.int .i64 0)).setCell ⟨gI,m*4+2,none⟩ (.int .i64 0)).setCell ⟨gI,m*4+3,none⟩ (.int .i64 0)) B gC gE gI cC cE cI s g c (Gd.heal E k) (En.put I m Gd.gone):=by
 rw [←Gd.row_gone]
 have h1:=h.ents (gs0 x gE (k*11+5) (.int .i64 v)) (h.lists.ents.stat k 5 (by omega) v)
 have h2:=h1.ents (gs0 _ gE (k*11+9) (.int .i64 0)) (h1.lists.ents.stat k 9 (by omega) 0)
 have h3:=h2.put m 0 0 0 0
 unfold Gd.heal
 rw [←hv]
 exact h3

set_option maxHeartbeats 3200000 in
theorem act_none (base:Nat→Prop) (B gC gE gI cC cE cI k t:Nat) (s g c:Nat→Int) (E I:Nat→Nat→Int) (input:Int) (x:World) (H:Gd.Hold x B gC gE gI cC cE cI s g c E I) (hk:k<32) (ht:t<4) (he:E k 2=(t:Int)) (hc:∀i,0≤c i∧c i≤255) (hw:Gd.want I (t:Int) (E k 3) (E k 4) (decide (Gr.at 384 c (E k 3) (E k 4)=5)) (g t) input<0) :
  Calls Tryz.prog 170 #[.pointer (some ⟨B,0,none⟩),.pointer (some ⟨gE,k*11,none⟩),.int .i64 input] x (Gd.Acted base x B gC gE gI cC cE cI s g c E I):=by
 have cw:=hide (wanted_any B gC gE gI cC cI k t (E k 3) (E k 4) (g t) input c I x (H.near hk ht he) H.lists.vec hc H.lists.its)
 have H':=hide H
 obtain ⟨r,hr⟩:∃r,Gd.want I (t:Int) (E k 3) (E k 4) (decide (Gr.at 384 c (E k 3) (E k 4)=5)) (g t) input=r:=⟨_,rfl⟩
 rw [hr] at cw hw
 clear H hc hr he
 go_enter Tryz.func170,Tryz.ntmps170
 go_wp2_with fail
 refine (uh cw).mono ?_
 rintro e w1 ⟨rfl,hg1⟩
 have hfin:=hide (show Gd.Hold w1 B gC gE gI cC cE cI s g c E I∧Frame base x w1 from ⟨(uh H').on hg1,below_more (Frame.refl _ _) hg1⟩)
 clear hg1 cw
 go_wp2
 go_end0
 exact ⟨rfl,(uh hfin).1,(uh hfin).2⟩

set_option maxHeartbeats 3200000 in
theorem act_use (base:Nat→Prop) (B gC gE gI cC cE cI k t m:Nat) (s g c:Nat→Int) (E I:Nat→Nat→Int) (x:World) (H:Gd.Hold x B gC gE gI cC cE cI s g c E I) (hk:k<32) (ht:t<4) (he:E k 2=(t:Int)) (hc:∀i,0≤c i∧c i≤255) (hbE:¬base gE) (hbI:¬base gI) (h0:0≤E k 5) (h1:E k 5≤1000) (hm:m<40) (hw:Gd.want I (t:Int) (E k 3) (E k 4) (decide (Gr.at 384 c (E k 3) (E k 4)=5)) (g t) 6=(m:Int)) :
  Calls Tryz.prog 170 #[.pointer (some ⟨B,0,none⟩),.pointer (some ⟨gE,k*11,none⟩),.int .i64 6] x (Gd.Acted base x B gC gE gI cC cE cI s g c (Gd.heal E k) (En.put I m Gd.gone)):=by
 have cw:=wanted_any B gC gE gI cC cI k t (E k 3) (E k 4) (g t) 6 c I x (H.near hk ht he) H.lists.vec hc H.lists.its
 rw [hw] at cw
 have cw':=hide cw
 have H':=hide H
 have HN:=hide (fun (y:World) (hy:x.grownBy y none)=>(H.on hy).near hk ht he)
 have HE:=hide (fun (y:World) (hy:x.grownBy y none)=>(H.on hy).lists.own.ents.row hk)
 have hm':(m:Int)<40:=by omega
 have ht':(t:Int)<4:=by omega
 clear H hc hw he cw
 go_enter Tryz.func170,Tryz.ntmps170
 go_wp2_with fail
 refine (uh cw').mono ?_
 rintro e w1 ⟨rfl,hg1⟩
 obtain ⟨lB,lE,k32,s4,b4,b6,b7,e2,e3,e4⟩:=uh HN w1 hg1
 have hg1':=hide hg1
 clear hg1 cw' b4
 go_wp2_with fail
 go_quiet (fail)
 obtain ⟨w2,hw2⟩:∃w2,w1.drewN nq=w2:=⟨_,rfl⟩
 have hg2:=hide (show x.grownBy w2 none by rw [←hw2];exact gdw (uh hg1') _)
 rw [hw2]
 clear hw2 b6 b7 e2 e3 e4 hg1'
 obtain ⟨_,_,_,_,_,r5,r6,_,_,r9,_⟩:=uh HE w2 (uh hg2)
 have fE:=((uh H').on (uh hg2)).lists.ents.free
 have fI:=((uh H').on (uh hg2)).lists.items.free
 obtain ⟨i0,i1,i2,i3⟩:=((uh H').on (uh hg2)).lists.its.row hm
 have neEI:=(uh H').eI
 have neIE:=neEI.symm
 have hH:=hide (fun v hv=>(((uh H').on (uh hg2)).heals k m v hv).on (gd1 (World.grownBy.refl _ none)))
 have hB:=hide (fun (v:Value)=>below_more (below_put4 (below_set (below_set (below_more (Frame.refl base x) (uh hg2)) gE (k*11+5) hbE v) gE (k*11+9) hbE (.int .i64 0)) hbI m (.int .i64 0) (.int .i64 0) (.int .i64 0) (.int .i64 0)) (gd1 (World.grownBy.refl _ none)))
 clear hbE hbI
 go_wp2_with fail
 go_region
 go_wp2
 all_goals
  go_end0
  exact ⟨rfl,uh hH _ (by omega),uh hB _⟩


open Go.RowKit

set_option maxHeartbeats 6400000 in
theorem act_wear (base:Nat→Prop) (B gC gE gI cC cE cI k t m:Nat) (s g c:Nat→Int) (E I:Nat→Nat→Int) (x:World) (H:Gd.Hold x B gC gE gI cC cE cI s g c E I) (hk:k<32) (ht:t<4) (he:E k 2=(t:Int)) (hc:∀i,0≤c i∧c i≤255) (hbI:¬base gI) (hm:m<40) (k0:0≤I m 0) (k1:I m 0≤100) (h2:I m 1=2) (hw:Gd.want I (t:Int) (E k 3) (E k 4) (decide (Gr.at 384 c (E k 3) (E k 4)=5)) (g t) 7=(m:Int)) :
  Calls Tryz.prog 170 #[.pointer (some ⟨B,0,none⟩),.pointer (some ⟨gE,k*11,none⟩),.int .i64 7] x (Gd.Acted base x B gC gE gI cC cE cI s g c E (Gd.wearAt I 40 (I m 2) m)):=by
 have cw:=wanted_any B gC gE gI cC cI k t (E k 3) (E k 4) (g t) 7 c I x (H.near hk ht he) H.lists.vec hc H.lists.its
 rw [hw] at cw
 have cw':=hide cw
 have H':=hide H
 have HN:=hide (fun (y:World) (hy:x.grownBy y none)=>(H.on hy).near hk ht he)
 have hm':(m:Int)<40:=by omega
 have ht':(t:Int)<4:=by omega
 clear H hc hw he cw
 go_enter Tryz.func170,Tryz.ntmps170
 go_wp2_with fail
 refine (uh cw').mono ?_
 rintro e w1 ⟨rfl,hg1⟩
 obtain ⟨lB,lE,k32,s4,b4,b6,b7,e2,e3,e4⟩:=uh HN w1 hg1
 have hg1':=hide hg1
 clear hg1 cw' b4
 go_wp2_with fail
 go_quiet (fail)
 obtain ⟨w2,hw2⟩:∃w2,w1.drewN nq=w2:=⟨_,rfl⟩
 have hg2:=hide (show x.grownBy w2 none by rw [←hw2];exact gdw (uh hg1') _)
 rw [hw2]
 clear hw2 b6 b7 e2 e3 e4 hg1' lB lE s4
 have H2:=hide ((uh H').on (uh hg2))
 have b6:=(uh HN w2 (uh hg2)).b6
 have cr:=hide (wear_any gI cI m I w2 (uh H2).lists.items hm k0 k1 h2)
 obtain ⟨J,hJ⟩:∃J,Gd.wearAt I 40 (I m 2) m=J:=⟨_,rfl⟩
 rw [hJ] at cr
 have hJ':=hide hJ
 have hB:=hide (fun (y:World) (hy:w2.grownBy y (some gI))=>below_root (below_more (Frame.refl base x) (uh hg2)) hy hbI)
 clear hJ hbI k0 k1 h2 hm
 go_wp2_with fail
 refine (uh cr).mono ?_
 rintro e w3 ⟨rfl,hL3,hg3⟩
 have hfin:=hide (show Gd.Hold w3 B gC gE gI cC cE cI s g c E J∧Frame base x w3 from ⟨(uh H2).items hg3 hL3,uh hB w3 hg3⟩)
 clear hL3 hg3 cr b6
 go_wp2
 go_end0
 exact ⟨rfl,by rw [uh hJ'];exact (uh hfin).1,(uh hfin).2⟩

set_option maxHeartbeats 6400000 in
theorem act_gold (base:Nat→Prop) (B gC gE gI cC cE cI k t m:Nat) (s g c:Nat→Int) (E I:Nat→Nat→Int) (x:World) (H:Gd.Hold x B gC gE gI cC cE cI s g c E I) (hk:k<32) (ht:t<4) (he:E k 2=(t:Int)) (hc:∀i,0≤c i∧c i≤255) (hbI:¬base gI) (hm:m<40) (hbB:¬base B) (h4:I m 0=4) (g0:0≤g t) (g1:g t≤999) (hw:Gd.want I (t:Int) (E k 3) (E k 4) (decide (Gr.at 384 c (E k 3) (E k 4)=5)) (g t) 5=(m:Int)) :
  Calls Tryz.prog 170 #[.pointer (some ⟨B,0,none⟩),.pointer (some ⟨gE,k*11,none⟩),.int .i64 5] x (Gd.Acted base x B gC gE gI cC cE cI s (Gd.give g t (min (g t+5) 999)) c E (En.put I m Gd.gone)):=by
 have cw:=wanted_any B gC gE gI cC cI k t (E k 3) (E k 4) (g t) 5 c I x (H.near hk ht he) H.lists.vec hc H.lists.its
 rw [hw] at cw
 have cw':=hide cw
 have H':=hide H
 have HN:=hide (fun (y:World) (hy:x.grownBy y none)=>(H.on hy).near hk ht he)
 have hm':(m:Int)<40:=by omega
 have ht':(t:Int)<4:=by omega
 clear H hc hw he cw
 go_enter Tryz.func170,Tryz.ntmps170
 go_wp2_with fail
 refine (uh cw').mono ?_
 rintro e w1 ⟨rfl,hg1⟩
 obtain ⟨lB,lE,k32,s4,b4,b6,b7,e2,e3,e4⟩:=uh HN w1 hg1
 have hg1':=hide hg1
 clear hg1 cw' b4
 go_wp2_with fail
 go_quiet (fail)
 obtain ⟨w2,hw2⟩:∃w2,w1.drewN nq=w2:=⟨_,rfl⟩
 have hg2:=hide (show x.grownBy w2 none by rw [←hw2];exact gdw (uh hg1') _)
 rw [hw2]
 clear hw2 b6 b7 e2 e3 e4 hg1' lB lE s4
 have H2:=(uh H').on (uh hg2)
 obtain ⟨i0,i1,i2,i3⟩:=H2.lists.its.row hm
 rw [h4] at i0
 have b7:=(uh HN w2 (uh hg2)).b7
 have fB:=H2.box.free
 have fI:=H2.lists.items.free
 have neBI:=H2.bI
 have neIB:=neBI.symm
 have hH:=hide (fun v (hv:v=min (g t+5) 999)=>show Gd.Hold _ B gC gE gI cC cE cI s (Gd.give g t (min (g t+5) 999)) c E (En.put I m Gd.gone) by rw [←hv,←Gd.row_gone];exact (H2.gold t ht v).put m 0 0 0 0)
 have hB:=hide (fun (v:Value)=>below_put4 (below_set (below_more (Frame.refl base x) (uh hg2)) B (7+t) hbB v) hbI m (.int .i64 0) (.int .i64 0) (.int .i64 0) (.int .i64 0))
 clear hbB hbI H2 h4
 go_wp2
 all_goals
  go_end0
  exact ⟨rfl,uh hH _ (by omega),uh hB _⟩

set_option maxHeartbeats 6400000 in
theorem act_drop (base:Nat→Prop) (B gC gE gI cC cE cI k t m:Nat) (s g c:Nat→Int) (E I:Nat→Nat→Int) (x:World) (H:Gd.Hold x B gC gE gI cC cE cI s g c E I) (hk:k<32) (ht:t<4) (he:E k 2=(t:Int)) (hc:∀i,0≤c i∧c i≤255) (hbI:¬base gI) (hm:m<40)  (hw:Gd.want I (t:Int) (E k 3) (E k 4) (decide (Gr.at 384 c (E k 3) (E k 4)=5)) (g t) 8=(m:Int)) :
  Calls Tryz.prog 170 #[.pointer (some ⟨B,0,none⟩),.pointer (some ⟨gE,k*11,none⟩),.int .i64 8] x (Gd.Acted base x B gC gE gI cC cE cI s g c E (En.put I m (Gd.row (I m 0) 1 (E k 3) (E k 4)))):=by
 have cw:=wanted_any B gC gE gI cC cI k t (E k 3) (E k 4) (g t) 8 c I x (H.near hk ht he) H.lists.vec hc H.lists.its
 rw [hw] at cw
 have cw':=hide cw
 have H':=hide H
 have HN:=hide (fun (y:World) (hy:x.grownBy y none)=>(H.on hy).near hk ht he)
 have hm':(m:Int)<40:=by omega
 have ht':(t:Int)<4:=by omega
 clear H hc hw he cw
 go_enter Tryz.func170,Tryz.ntmps170
 go_wp2_with fail
 refine (uh cw').mono ?_
 rintro e w1 ⟨rfl,hg1⟩
 obtain ⟨lB,lE,k32,s4,b4,b6,b7,e2,e3,e4⟩:=uh HN w1 hg1
 have hg1':=hide hg1
 clear hg1 cw' b4
 go_wp2_with fail
 go_quiet (fail)
 obtain ⟨w2,hw2⟩:∃w2,w1.drewN nq=w2:=⟨_,rfl⟩
 have hg2:=hide (show x.grownBy w2 none by rw [←hw2];exact gdw (uh hg1') _)
 rw [hw2]
 clear hw2 b6 b7 e2 e3 e4 hg1' lB lE s4
 have H2:=hide ((uh H').on (uh hg2))
 have keep:Hid (∀y,Hid (w2.grownBy y none)→(y.cell? ⟨gI,m*4,none⟩=some (.int .i64 (I m 0))∧y.cell? ⟨gI,m*4+1,none⟩=some (.int .i64 (I m 1))∧y.cell? ⟨gI,m*4+2,none⟩=some (.int .i64 (I m 2))∧y.cell? ⟨gI,m*4+3,none⟩=some (.int .i64 (I m 3)))∧y.frozen? ⟨gI,m*4,none⟩=false∧y.frozen? ⟨gI,m*4+1,none⟩=false∧y.frozen? ⟨gI,m*4+2,none⟩=false∧y.frozen? ⟨gI,m*4+3,none⟩=false):=fun y hy =>
  have h3:=fun j=>((uh H2).on (uh hy)).lists.items.free j
  ⟨((uh H2).on (uh hy)).lists.its.row hm,h3 _,h3 _,h3 _,h3 _⟩
 have cu:Hid (∀y,Hid (w2.grownBy y none)→Calls Tryz.prog 185 #[.pointer (some ⟨gE,k*11,none⟩)] y fun e w'=>e=.returned (.agg #[.int .i64 1,.int .i64 (E k 3),.int .i64 (E k 4)])∧Hid (w2.grownBy w' none)):=fun y hy =>
  have n:=uh HN y (gtr (uh hg2) (uh hy))
  (under_any gE (k*11) (E k 3) (E k 4) y n.e3 n.e4 n.lE).mono fun e w' ⟨h1,h2⟩=>⟨h1,gtr (uh hy) h2⟩
 have cm:Hid (∀y,Hid (w2.grownBy y none)→Calls Tryz.prog 183 #[.agg #[.int .i64 (I m 0),.int .i64 (I m 1),.int .i64 (I m 2),.int .i64 (I m 3)],.agg #[.int .i64 1,.int .i64 (E k 3),.int .i64 (E k 4)]] y fun e w'=>e=.returned (.agg #[.int .i64 (I m 0),.int .i64 1,.int .i64 (E k 3),.int .i64 (E k 4)])∧Hid (w2.grownBy w' none)):=fun y hy=>(moved_any _ _ _ _ _ _ _ y).mono fun e w' ⟨h1,h2⟩=>⟨h1,gtr (uh hy) h2⟩
 have hd:Hid (w2.grownBy w2.drew none):=gd1 (World.grownBy.refl _ _)
 obtain ⟨⟨x0,x1,x2,x3⟩,y0,y1,y2,y3⟩:=uh keep w2 (World.grownBy.refl _ _)
 have hB:=hide (fun (y:World) (hy:w2.grownBy y none) (v0 v1 v2 v3:Value)=>below_put4 (below_more (below_more (Frame.refl base x) (uh hg2)) hy) hbI m v0 v1 v2 v3)
 clear hbI hm
 go_wp2_with fail
 go_region_with (first | (go_at_call 185;refine (uh cu _ hd).mono ?_;rintro e w3 ⟨rfl,hg3⟩;obtain ⟨⟨z0,z1,z2,z3⟩,f0,f1,f2,f3⟩:=uh keep w3 hg3) | (go_at_call 183;refine (uh cm _ hg3).mono ?_;rintro e w4 ⟨rfl,hg4⟩;obtain ⟨⟨z0,z1,z2,z3⟩,f0,f1,f2,f3⟩:=uh keep w4 hg4))
 all_goals
  have hH:=hide (((uh H2).on (uh hg4)).put m (I m 0) 1 (E k 3) (E k 4))
  have hBB:=hide (uh hB w4 (uh hg4) (.int .i64 (I m 0)) (.int .i64 1) (.int .i64 (E k 3)) (.int .i64 (E k 4)))
  go_wp2
  go_end0
  exact ⟨rfl,uh hH,uh hBB⟩


open Go.RowKit

set_option maxHeartbeats 6400000 in
theorem act_take (base:Nat→Prop) (B gC gE gI cC cE cI k t m:Nat) (s g c:Nat→Int) (E I:Nat→Nat→Int) (x:World) (H:Gd.Hold x B gC gE gI cC cE cI s g c E I) (hk:k<32) (ht:t<4) (he:E k 2=(t:Int)) (hc:∀i,0≤c i∧c i≤255) (hbI:¬base gI) (hm:m<40) (hbB:¬base B) (g0:0≤g t) (g1:g t≤999) (h4:¬I m 0=4) (hwh:I m 1=1) (f:Nat) (hf:Gd.slot I 40 (t:Int)=(f:Int)) (hw:Gd.want I (t:Int) (E k 3) (E k 4) (decide (Gr.at 384 c (E k 3) (E k 4)=5)) (g t) 5=(m:Int)) :
  Calls Tryz.prog 170 #[.pointer (some ⟨B,0,none⟩),.pointer (some ⟨gE,k*11,none⟩),.int .i64 5] x (Gd.Acted base x B gC gE gI cC cE cI s (Gd.give g t (g t)) c E (En.put I m (Gd.row (I m 0) 2 (t:Int) (f:Int)))):=by
 have cw:=wanted_any B gC gE gI cC cI k t (E k 3) (E k 4) (g t) 5 c I x (H.near hk ht he) H.lists.vec hc H.lists.its
 rw [hw] at cw
 have cw':=hide cw
 have H':=hide H
 have HN:=hide (fun (y:World) (hy:x.grownBy y none)=>(H.on hy).near hk ht he)
 have hm':(m:Int)<40:=by omega
 have ht':(t:Int)<4:=by omega
 have he':=hide he
 have h4':(I m 0 == 4)=false:=by simp [h4]
 clear H hc hw he cw
 go_enter Tryz.func170,Tryz.ntmps170
 go_wp2_with fail
 refine (uh cw').mono ?_
 rintro e w1 ⟨rfl,hg1⟩
 obtain ⟨lB,lE,k32,s4,b4,b6,b7,e2,e3,e4⟩:=uh HN w1 hg1
 have hg1':=hide hg1
 clear hg1 cw' b4
 go_wp2_with fail
 go_quiet (fail)
 obtain ⟨w2,hw2⟩:∃w2,w1.drewN nq=w2:=⟨_,rfl⟩
 have hg2:=hide (show x.grownBy w2 none by rw [←hw2];exact gdw (uh hg1') _)
 rw [hw2]
 clear hw2 b6 b7 e2 e3 e4 hg1' lB lE s4
 have H2:=hide ((uh H').on (uh hg2))
 obtain ⟨i0,i1,i2,i3⟩:=(uh H2).lists.its.row hm
 have n2:=uh HN w2 (uh hg2)
 have lB:=n2.lB
 have lE:=n2.lE
 have b6:=n2.b6
 have e2:=n2.e2
 clear n2
 go_wp2_with fail
 refine wp_region_grown (by kernel_rfl) (by kernel_rfl) ?_
 intro St hS W hJ hx
 have c6:∀σ,(W σ).cell? ⟨B,6,none⟩=some (.slice (some ⟨gI,0,none⟩) 40 cI):=fun σ=>(gce (hJ σ) B 6 lB (by simp)).trans b6
 have c2:∀σ,(W σ).cell? ⟨gE,k*11+2,none⟩=some (.int .i64 (t:Int)):=fun σ=>(gce (hJ σ) gE _ lE (by simp)).trans e2
 have ca:∀σ,Calls Tryz.prog 181 #[.slice (some ⟨gI,0,none⟩) 40 cI,.int .i64 (t:Int)] (W σ) fun e w''=>e=.returned (.int .i64 (f:Int))∧∃σ',w''=W σ':=fun σ=>by
  have h:=freeSlot_any gI 40 cI I (t:Int) (W σ) ((uh H2).on (hJ σ)).lists.its
  rw [hf] at h
  exact calls_class hJ hx h
 have hJ':=hide hJ
 clear hJ hx b6 e2 hf i0 i1 i2 i3
 repeat (go_big_quiet_step ((go_at_call 181;exact ca _)))
 refine wpQuiet_nil ?_
 rintro _ ⟨σ,rfl⟩
 obtain ⟨w3,hw3⟩:∃w3,W σ=w3:=⟨_,rfl⟩
 have hg3:=hide (show x.grownBy w3 none by rw [←hw3];exact gtr (uh hg2) (uh hJ' σ))
 rw [hw3]
 clear c6 c2 ca hJ' hw3 H2 hg2
 clear σ W hS St
 have hf':¬(f:Int)<0:=by omega
 have H3:=hide ((uh H').on (uh hg3))
 have hwr:IntKind.i64.wrap (g t)=g t:=by rw [IntKind.wrap_i64];omega
 have keep:Hid (∀y,Hid (w3.grownBy y none)→((y.cell? ⟨gI,m*4,none⟩=some (.int .i64 (I m 0))∧y.cell? ⟨gI,m*4+1,none⟩=some (.int .i64 1)∧y.cell? ⟨gI,m*4+2,none⟩=some (.int .i64 (I m 2))∧y.cell? ⟨gI,m*4+3,none⟩=some (.int .i64 (I m 3)))∧y.cell? ⟨B,7+t,none⟩=some (.int .i64 (g t)))∧y.frozen? ⟨B,7+t,none⟩=false):=fun y hy=>by
  have r:=((uh H3).on (uh hy)).lists.its.row hm
  rw [hwh] at r
  exact ⟨⟨r,(uh HN y (gtr (uh hg3) (uh hy))).b7⟩,((uh H3).on (uh hy)).box.free _⟩
 have cp:Hid (∀y,Hid (w3.grownBy y none)→Calls Tryz.prog 182 #[.agg #[.int .i64 (I m 0),.int .i64 1,.int .i64 (I m 2),.int .i64 (I m 3)]] y fun e w'=>e=.returned (.int .i64 0)∧Hid (w3.grownBy w' none)):=fun y hy=>(price_any (I m 0) 1 (I m 2) (I m 3) y).mono fun e w' ⟨h1,h2⟩=>⟨h1,gtr (uh hy) h2⟩
 have hd:Hid (w3.grownBy w3.drew none):=gd1 (World.grownBy.refl _ _)
 obtain ⟨⟨⟨x0,x1,x2,x3⟩,x4⟩,x5⟩:=uh keep w3 (World.grownBy.refl _ _)
 have hB:=hide (fun (y:World) (hy:w3.grownBy y none) (v:Value)=>below_set (below_more (below_more (Frame.refl base x) (uh hg3)) hy) B (7+t) hbB v)
 go_upto_region 14 with fail
 go_cut [] from 67 (fun wx=>Hid (Gd.Hold wx B gC gE gI cC cE cI s (Gd.give g t (g t)) c E I)∧Hid (Frame base x wx))
 case first =>
  go_region_with (first | (go_at_call 182;refine (uh cp _ hd).mono ?_;rintro e w4 ⟨rfl,hg4⟩;obtain ⟨⟨⟨z0,z1,z2,z3⟩,z4⟩,z5⟩:=uh keep w4 hg4))
  all_goals
   go_wp2_with fail
   go_meet
   exact ⟨((uh H3).on (uh hg4)).gold t ht (g t),uh hB w4 (uh hg4) _⟩
 case rest =>
  obtain ⟨H5,hB5⟩:=hcut
  clear keep cp hd x0 x1 x2 x3 x4 x5 hB hwh hwr
  have keep2:Hid (∀y,Hid (wc.grownBy y none)→((y.cell? ⟨gI,m*4,none⟩=some (.int .i64 (I m 0))∧y.cell? ⟨gI,m*4+1,none⟩=some (.int .i64 (I m 1))∧y.cell? ⟨gI,m*4+2,none⟩=some (.int .i64 (I m 2))∧y.cell? ⟨gI,m*4+3,none⟩=some (.int .i64 (I m 3)))∧y.cell? ⟨gE,k*11+2,none⟩=some (.int .i64 (t:Int)))∧y.frozen? ⟨gI,m*4,none⟩=false∧y.frozen? ⟨gI,m*4+1,none⟩=false∧y.frozen? ⟨gI,m*4+2,none⟩=false∧y.frozen? ⟨gI,m*4+3,none⟩=false):=fun y hy =>
   have h3:=fun j=>((uh H5).on (uh hy)).lists.items.free j
   ⟨⟨((uh H5).on (uh hy)).lists.its.row hm,(((uh H5).on (uh hy)).near k32 ht (uh he')).e2⟩,h3 _,h3 _,h3 _,h3 _⟩
  have cm:Hid (∀y,Hid (wc.grownBy y none)→Calls Tryz.prog 183 #[.agg #[.int .i64 (I m 0),.int .i64 (I m 1),.int .i64 (I m 2),.int .i64 (I m 3)],.agg #[.int .i64 2,.int .i64 (t:Int),.int .i64 (f:Int)]] y fun e w'=>e=.returned (.agg #[.int .i64 (I m 0),.int .i64 2,.int .i64 (t:Int),.int .i64 (f:Int)])∧Hid (wc.grownBy w' none)):=fun y hy=>(moved_any _ _ _ _ _ _ _ y).mono fun e w' ⟨h1,h2⟩=>⟨h1,gtr (uh hy) h2⟩
  have hd:Hid (wc.grownBy wc.drew none):=gd1 (World.grownBy.refl _ _)
  obtain ⟨⟨⟨x0,x1,x2,x3⟩,x4⟩,y0,y1,y2,y3⟩:=uh keep2 wc (World.grownBy.refl _ _)
  have hB2:=hide (fun (y:World) (hy:wc.grownBy y none) (v0 v1 v2 v3:Value)=>below_put4 (below_more (uh hB5) hy) hbI m v0 v1 v2 v3)
  clear hbB hbI hm
  go_wp2_with fail
  go_region_with (first | (go_at_call 183;refine (uh cm _ hd).mono ?_;rintro e w4 ⟨rfl,hg4⟩;obtain ⟨⟨⟨z0,z1,z2,z3⟩,z4⟩,f0,f1,f2,f3⟩:=uh keep2 w4 hg4))
  all_goals
   have hH:=hide (((uh H5).on (uh hg4)).put m (I m 0) 2 (t:Int) (f:Int))
   have hBB:=hide (uh hB2 w4 (uh hg4) (.int .i64 (I m 0)) (.int .i64 2) (.int .i64 (t:Int)) (.int .i64 (f:Int)))
   go_wp2
   go_end0
   exact ⟨rfl,uh hH,uh hBB⟩

set_option maxHeartbeats 6400000 in
theorem act_buy (base:Nat→Prop) (B gC gE gI cC cE cI k t m:Nat) (s g c:Nat→Int) (E I:Nat→Nat→Int) (x:World) (H:Gd.Hold x B gC gE gI cC cE cI s g c E I) (hk:k<32) (ht:t<4) (he:E k 2=(t:Int)) (hc:∀i,0≤c i∧c i≤255) (hbI:¬base gI) (hm:m<40) (hbB:¬base B) (g0:0≤g t) (g1:g t≤999) (hwh:I m 1=4) (f:Nat) (hf:Gd.slot I 40 (t:Int)=(f:Int)) (hw:Gd.want I (t:Int) (E k 3) (E k 4) (decide (Gr.at 384 c (E k 3) (E k 4)=5)) (g t) 10=(m:Int)) :
  Calls Tryz.prog 170 #[.pointer (some ⟨B,0,none⟩),.pointer (some ⟨gE,k*11,none⟩),.int .i64 10] x (Gd.Acted base x B gC gE gI cC cE cI s (Gd.give g t (g t - 5)) c E (En.put I m (Gd.row (I m 0) 2 (t:Int) (f:Int)))):=by
 have cw:=wanted_any B gC gE gI cC cI k t (E k 3) (E k 4) (g t) 10 c I x (H.near hk ht he) H.lists.vec hc H.lists.its
 rw [hw] at cw
 have cw':=hide cw
 have H':=hide H
 have HN:=hide (fun (y:World) (hy:x.grownBy y none)=>(H.on hy).near hk ht he)
 have hm':(m:Int)<40:=by omega
 have ht':(t:Int)<4:=by omega
 have he':=hide he
 clear H hc hw he cw
 go_enter Tryz.func170,Tryz.ntmps170
 go_wp2_with fail
 refine (uh cw').mono ?_
 rintro e w1 ⟨rfl,hg1⟩
 obtain ⟨lB,lE,k32,s4,b4,b6,b7,e2,e3,e4⟩:=uh HN w1 hg1
 have hg1':=hide hg1
 clear hg1 cw' b4
 go_wp2_with fail
 go_quiet (fail)
 obtain ⟨w2,hw2⟩:∃w2,w1.drewN nq=w2:=⟨_,rfl⟩
 have hg2:=hide (show x.grownBy w2 none by rw [←hw2];exact gdw (uh hg1') _)
 rw [hw2]
 clear hw2 b6 b7 e2 e3 e4 hg1' lB lE s4
 have H2:=hide ((uh H').on (uh hg2))
 obtain ⟨i0,i1,i2,i3⟩:=(uh H2).lists.its.row hm
 have n2:=uh HN w2 (uh hg2)
 have lB:=n2.lB
 have lE:=n2.lE
 have b6:=n2.b6
 have e2:=n2.e2
 clear n2
 go_wp2_with fail
 refine wp_region_grown (by kernel_rfl) (by kernel_rfl) ?_
 intro St hS W hJ hx
 have c6:∀σ,(W σ).cell? ⟨B,6,none⟩=some (.slice (some ⟨gI,0,none⟩) 40 cI):=fun σ=>(gce (hJ σ) B 6 lB (by simp)).trans b6
 have c2:∀σ,(W σ).cell? ⟨gE,k*11+2,none⟩=some (.int .i64 (t:Int)):=fun σ=>(gce (hJ σ) gE _ lE (by simp)).trans e2
 have ca:∀σ,Calls Tryz.prog 181 #[.slice (some ⟨gI,0,none⟩) 40 cI,.int .i64 (t:Int)] (W σ) fun e w''=>e=.returned (.int .i64 (f:Int))∧∃σ',w''=W σ':=fun σ=>by
  have h:=freeSlot_any gI 40 cI I (t:Int) (W σ) ((uh H2).on (hJ σ)).lists.its
  rw [hf] at h
  exact calls_class hJ hx h
 have hJ':=hide hJ
 clear hJ hx b6 e2 hf i0 i1 i2 i3
 repeat (go_big_quiet_step ((go_at_call 181;exact ca _)))
 refine wpQuiet_nil ?_
 rintro _ ⟨σ,rfl⟩
 obtain ⟨w3,hw3⟩:∃w3,W σ=w3:=⟨_,rfl⟩
 have hg3:=hide (show x.grownBy w3 none by rw [←hw3];exact gtr (uh hg2) (uh hJ' σ))
 rw [hw3]
 clear c6 c2 ca hJ' hw3 H2 hg2
 clear σ W hS St
 have hf':¬(f:Int)<0:=by omega
 have H3:=hide ((uh H').on (uh hg3))
 have hwr:IntKind.i64.wrap (g t - 5)=g t - 5:=by rw [IntKind.wrap_i64];omega
 have keep:Hid (∀y,Hid (w3.grownBy y none)→((y.cell? ⟨gI,m*4,none⟩=some (.int .i64 (I m 0))∧y.cell? ⟨gI,m*4+1,none⟩=some (.int .i64 4)∧y.cell? ⟨gI,m*4+2,none⟩=some (.int .i64 (I m 2))∧y.cell? ⟨gI,m*4+3,none⟩=some (.int .i64 (I m 3)))∧y.cell? ⟨B,7+t,none⟩=some (.int .i64 (g t)))∧y.frozen? ⟨B,7+t,none⟩=false):=fun y hy=>by
  have r:=((uh H3).on (uh hy)).lists.its.row hm
  rw [hwh] at r
  exact ⟨⟨r,(uh HN y (gtr (uh hg3) (uh hy))).b7⟩,((uh H3).on (uh hy)).box.free _⟩
 have cp:Hid (∀y,Hid (w3.grownBy y none)→Calls Tryz.prog 182 #[.agg #[.int .i64 (I m 0),.int .i64 4,.int .i64 (I m 2),.int .i64 (I m 3)]] y fun e w'=>e=.returned (.int .i64 5)∧Hid (w3.grownBy w' none)):=fun y hy=>(price_any (I m 0) 4 (I m 2) (I m 3) y).mono fun e w' ⟨h1,h2⟩=>⟨h1,gtr (uh hy) h2⟩
 have hd:Hid (w3.grownBy w3.drew none):=gd1 (World.grownBy.refl _ _)
 obtain ⟨⟨⟨x0,x1,x2,x3⟩,x4⟩,x5⟩:=uh keep w3 (World.grownBy.refl _ _)
 have hB:=hide (fun (y:World) (hy:w3.grownBy y none) (v:Value)=>below_set (below_more (below_more (Frame.refl base x) (uh hg3)) hy) B (7+t) hbB v)
 go_upto_region 14 with fail
 go_cut [] from 67 (fun wx=>Hid (Gd.Hold wx B gC gE gI cC cE cI s (Gd.give g t (g t - 5)) c E I)∧Hid (Frame base x wx))
 case first =>
  go_region_with (first | (go_at_call 182;refine (uh cp _ hd).mono ?_;rintro e w4 ⟨rfl,hg4⟩;obtain ⟨⟨⟨z0,z1,z2,z3⟩,z4⟩,z5⟩:=uh keep w4 hg4))
  all_goals
   go_wp2_with fail
   go_meet
   exact ⟨((uh H3).on (uh hg4)).gold t ht (g t - 5),uh hB w4 (uh hg4) _⟩
 case rest =>
  obtain ⟨H5,hB5⟩:=hcut
  clear keep cp hd x0 x1 x2 x3 x4 x5 hB hwh hwr
  have keep2:Hid (∀y,Hid (wc.grownBy y none)→((y.cell? ⟨gI,m*4,none⟩=some (.int .i64 (I m 0))∧y.cell? ⟨gI,m*4+1,none⟩=some (.int .i64 (I m 1))∧y.cell? ⟨gI,m*4+2,none⟩=some (.int .i64 (I m 2))∧y.cell? ⟨gI,m*4+3,none⟩=some (.int .i64 (I m 3)))∧y.cell? ⟨gE,k*11+2,none⟩=some (.int .i64 (t:Int)))∧y.frozen? ⟨gI,m*4,none⟩=false∧y.frozen? ⟨gI,m*4+1,none⟩=false∧y.frozen? ⟨gI,m*4+2,none⟩=false∧y.frozen? ⟨gI,m*4+3,none⟩=false):=fun y hy =>
   have h3:=fun j=>((uh H5).on (uh hy)).lists.items.free j
   ⟨⟨((uh H5).on (uh hy)).lists.its.row hm,(((uh H5).on (uh hy)).near k32 ht (uh he')).e2⟩,h3 _,h3 _,h3 _,h3 _⟩
  have cm:Hid (∀y,Hid (wc.grownBy y none)→Calls Tryz.prog 183 #[.agg #[.int .i64 (I m 0),.int .i64 (I m 1),.int .i64 (I m 2),.int .i64 (I m 3)],.agg #[.int .i64 2,.int .i64 (t:Int),.int .i64 (f:Int)]] y fun e w'=>e=.returned (.agg #[.int .i64 (I m 0),.int .i64 2,.int .i64 (t:Int),.int .i64 (f:Int)])∧Hid (wc.grownBy w' none)):=fun y hy=>(moved_any _ _ _ _ _ _ _ y).mono fun e w' ⟨h1,h2⟩=>⟨h1,gtr (uh hy) h2⟩
  have hd:Hid (wc.grownBy wc.drew none):=gd1 (World.grownBy.refl _ _)
  obtain ⟨⟨⟨x0,x1,x2,x3⟩,x4⟩,y0,y1,y2,y3⟩:=uh keep2 wc (World.grownBy.refl _ _)
  have hB2:=hide (fun (y:World) (hy:wc.grownBy y none) (v0 v1 v2 v3:Value)=>below_put4 (below_more (uh hB5) hy) hbI m v0 v1 v2 v3)
  clear hbB hbI hm
  go_wp2_with fail
  go_region_with (first | (go_at_call 183;refine (uh cm _ hd).mono ?_;rintro e w4 ⟨rfl,hg4⟩;obtain ⟨⟨⟨z0,z1,z2,z3⟩,z4⟩,f0,f1,f2,f3⟩:=uh keep2 w4 hg4))
  all_goals
   have hH:=hide (((uh H5).on (uh hg4)).put m (I m 0) 2 (t:Int) (f:Int))
   have hBB:=hide (uh hB2 w4 (uh hg4) (.int .i64 (I m 0)) (.int .i64 2) (.int .i64 (t:Int)) (.int .i64 (f:Int)))
   go_wp2
   go_end0
   exact ⟨rfl,uh hH,uh hBB⟩

set_option maxHeartbeats 6400000 in
theorem act_take_full (base:Nat→Prop) (B gC gE gI cC cE cI k t m:Nat) (s g c:Nat→Int) (E I:Nat→Nat→Int) (x:World) (H:Gd.Hold x B gC gE gI cC cE cI s g c E I) (hk:k<32) (ht:t<4) (he:E k 2=(t:Int)) (hc:∀i,0≤c i∧c i≤255) (hm:m<40) (h4:¬I m 0=4) (hf:Gd.slot I 40 (t:Int)<0) (hw:Gd.want I (t:Int) (E k 3) (E k 4) (decide (Gr.at 384 c (E k 3) (E k 4)=5)) (g t) 5=(m:Int)) :
  Calls Tryz.prog 170 #[.pointer (some ⟨B,0,none⟩),.pointer (some ⟨gE,k*11,none⟩),.int .i64 5] x (Gd.Acted base x B gC gE gI cC cE cI s g c E I):=by
 have cw:=wanted_any B gC gE gI cC cI k t (E k 3) (E k 4) (g t) 5 c I x (H.near hk ht he) H.lists.vec hc H.lists.its
 rw [hw] at cw
 have cw':=hide cw
 have H':=hide H
 have HN:=hide (fun (y:World) (hy:x.grownBy y none)=>(H.on hy).near hk ht he)
 have hm':(m:Int)<40:=by omega
 have ht':(t:Int)<4:=by omega
 obtain ⟨ff,hff⟩:∃ff,Gd.slot I 40 (t:Int)=ff:=⟨_,rfl⟩
 rw [hff] at hf
 clear H hc hw he cw
 go_enter Tryz.func170,Tryz.ntmps170
 go_wp2_with fail
 refine (uh cw').mono ?_
 rintro e w1 ⟨rfl,hg1⟩
 obtain ⟨lB,lE,k32,s4,b4,b6,b7,e2,e3,e4⟩:=uh HN w1 hg1
 have hg1':=hide hg1
 clear hg1 cw' b4
 go_wp2_with fail
 go_quiet (fail)
 obtain ⟨w2,hw2⟩:∃w2,w1.drewN nq=w2:=⟨_,rfl⟩
 have hg2:=hide (show x.grownBy w2 none by rw [←hw2];exact gdw (uh hg1') _)
 rw [hw2]
 clear hw2 b6 b7 e2 e3 e4 hg1' lB lE s4
 have H2:=hide ((uh H').on (uh hg2))
 obtain ⟨i0,i1,i2,i3⟩:=(uh H2).lists.its.row hm
 have n2:=uh HN w2 (uh hg2)
 have lB:=n2.lB
 have lE:=n2.lE
 have b6:=n2.b6
 have e2:=n2.e2
 clear n2
 go_wp2_with fail
 refine wp_region_grown (by kernel_rfl) (by kernel_rfl) ?_
 intro St hS W hJ hx
 have c6:∀σ,(W σ).cell? ⟨B,6,none⟩=some (.slice (some ⟨gI,0,none⟩) 40 cI):=fun σ=>(gce (hJ σ) B 6 lB (by simp)).trans b6
 have c2:∀σ,(W σ).cell? ⟨gE,k*11+2,none⟩=some (.int .i64 (t:Int)):=fun σ=>(gce (hJ σ) gE _ lE (by simp)).trans e2
 have ca:∀σ,Calls Tryz.prog 181 #[.slice (some ⟨gI,0,none⟩) 40 cI,.int .i64 (t:Int)] (W σ) fun e w''=>e=.returned (.int .i64 ff)∧∃σ',w''=W σ':=fun σ=>by
  have h:=freeSlot_any gI 40 cI I (t:Int) (W σ) ((uh H2).on (hJ σ)).lists.its
  rw [hff] at h
  exact calls_class hJ hx h
 have hJ':=hide hJ
 clear hJ hx b6 e2 hff i0 i1 i2 i3
 repeat (go_big_quiet_step ((go_at_call 181;exact ca _)))
 refine wpQuiet_nil ?_
 rintro _ ⟨σ,rfl⟩
 obtain ⟨w3,hw3⟩:∃w3,W σ=w3:=⟨_,rfl⟩
 have hg3:=hide (show x.grownBy w3 none by rw [←hw3];exact gtr (uh hg2) (uh hJ' σ))
 rw [hw3]
 clear c6 c2 ca hJ' hw3 H2 hg2
 clear σ W hS St
 have hfin:=hide (show Gd.Hold w3 B gC gE gI cC cE cI s g c E I∧Frame base x w3 from ⟨(uh H').on (uh hg3),below_more (Frame.refl _ _) (uh hg3)⟩)
 go_wp2
 go_end0
 exact ⟨rfl,(uh hfin).1,(uh hfin).2⟩

set_option maxHeartbeats 6400000 in
theorem act_buy_full (base:Nat→Prop) (B gC gE gI cC cE cI k t m:Nat) (s g c:Nat→Int) (E I:Nat→Nat→Int) (x:World) (H:Gd.Hold x B gC gE gI cC cE cI s g c E I) (hk:k<32) (ht:t<4) (he:E k 2=(t:Int)) (hc:∀i,0≤c i∧c i≤255) (hm:m<40)  (hf:Gd.slot I 40 (t:Int)<0) (hw:Gd.want I (t:Int) (E k 3) (E k 4) (decide (Gr.at 384 c (E k 3) (E k 4)=5)) (g t) 10=(m:Int)) :
  Calls Tryz.prog 170 #[.pointer (some ⟨B,0,none⟩),.pointer (some ⟨gE,k*11,none⟩),.int .i64 10] x (Gd.Acted base x B gC gE gI cC cE cI s g c E I):=by
 have cw:=wanted_any B gC gE gI cC cI k t (E k 3) (E k 4) (g t) 10 c I x (H.near hk ht he) H.lists.vec hc H.lists.its
 rw [hw] at cw
 have cw':=hide cw
 have H':=hide H
 have HN:=hide (fun (y:World) (hy:x.grownBy y none)=>(H.on hy).near hk ht he)
 have hm':(m:Int)<40:=by omega
 have ht':(t:Int)<4:=by omega
 obtain ⟨ff,hff⟩:∃ff,Gd.slot I 40 (t:Int)=ff:=⟨_,rfl⟩
 rw [hff] at hf
 clear H hc hw he cw
 go_enter Tryz.func170,Tryz.ntmps170
 go_wp2_with fail
 refine (uh cw').mono ?_
 rintro e w1 ⟨rfl,hg1⟩
 obtain ⟨lB,lE,k32,s4,b4,b6,b7,e2,e3,e4⟩:=uh HN w1 hg1
 have hg1':=hide hg1
 clear hg1 cw' b4
 go_wp2_with fail
 go_quiet (fail)
 obtain ⟨w2,hw2⟩:∃w2,w1.drewN nq=w2:=⟨_,rfl⟩
 have hg2:=hide (show x.grownBy w2 none by rw [←hw2];exact gdw (uh hg1') _)
 rw [hw2]
 clear hw2 b6 b7 e2 e3 e4 hg1' lB lE s4
 have H2:=hide ((uh H').on (uh hg2))
 obtain ⟨i0,i1,i2,i3⟩:=(uh H2).lists.its.row hm
 have n2:=uh HN w2 (uh hg2)
 have lB:=n2.lB
 have lE:=n2.lE
 have b6:=n2.b6
 have e2:=n2.e2
 clear n2
 go_wp2_with fail
 refine wp_region_grown (by kernel_rfl) (by kernel_rfl) ?_
 intro St hS W hJ hx
 have c6:∀σ,(W σ).cell? ⟨B,6,none⟩=some (.slice (some ⟨gI,0,none⟩) 40 cI):=fun σ=>(gce (hJ σ) B 6 lB (by simp)).trans b6
 have c2:∀σ,(W σ).cell? ⟨gE,k*11+2,none⟩=some (.int .i64 (t:Int)):=fun σ=>(gce (hJ σ) gE _ lE (by simp)).trans e2
 have ca:∀σ,Calls Tryz.prog 181 #[.slice (some ⟨gI,0,none⟩) 40 cI,.int .i64 (t:Int)] (W σ) fun e w''=>e=.returned (.int .i64 ff)∧∃σ',w''=W σ':=fun σ=>by
  have h:=freeSlot_any gI 40 cI I (t:Int) (W σ) ((uh H2).on (hJ σ)).lists.its
  rw [hff] at h
  exact calls_class hJ hx h
 have hJ':=hide hJ
 clear hJ hx b6 e2 hff i0 i1 i2 i3
 repeat (go_big_quiet_step ((go_at_call 181;exact ca _)))
 refine wpQuiet_nil ?_
 rintro _ ⟨σ,rfl⟩
 obtain ⟨w3,hw3⟩:∃w3,W σ=w3:=⟨_,rfl⟩
 have hg3:=hide (show x.grownBy w3 none by rw [←hw3];exact gtr (uh hg2) (uh hJ' σ))
 rw [hw3]
 clear c6 c2 ca hJ' hw3 H2 hg2
 clear σ W hS St
 have hfin:=hide (show Gd.Hold w3 B gC gE gI cC cE cI s g c E I∧Frame base x w3 from ⟨(uh H').on (uh hg3),below_more (Frame.refl _ _) (uh hg3)⟩)
 go_wp2
 go_end0
 exact ⟨rfl,(uh hfin).1,(uh hfin).2⟩

end Go.Proofs.YtbanjoflgoiegaaGreat
