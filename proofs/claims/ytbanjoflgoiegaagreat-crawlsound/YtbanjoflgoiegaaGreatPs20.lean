import Derived.Test.YtbanjoflgoiegaaGreatPs19
import Derived.Test.YtbanjoflgoiegaaGreatPs16
namespace Go.Proofs.YtbanjoflgoiegaaGreat
open Go.RowKit

structure Gd.Fine (c g:Nat→Int) (E I:Nat→Nat→Int):Prop where
 cells:∀i,0≤c i∧c i≤255
 gold:∀t,t<4→0≤g t∧g t≤999
 hp:∀k,k<32→0≤E k 5∧E k 5≤1000
 ok:Gd.Ok c 40 I

def Gd.goldOf (I:Nat→Nat→Int) (s X Y:Int) (shop:Bool) (G input:Int):Int :=
 if input=5 then (if 0≤Gd.find I 40 1 X Y∧I (Gd.find I 40 1 X Y).toNat 0=4 then min (G+5) 999 else G)
 else if input=10 then (if Gd.buys I 40 s shop G=true then G - 5 else G) else G

def Gd.entsOf (E I:Nat→Nat→Int) (k:Nat) (s input:Int):Nat→Nat→Int:=if input=6∧0≤Gd.has I 40 s 1 1 then Gd.heal E k else E

theorem Gd.give_same (g:Nat→Int) (t:Nat):Gd.give g t (g t)=g:=by
 funext i
 unfold Gd.give
 split
 ·rename_i h;rw [h]
 ·rfl

theorem Gd.serves6 (I:Nat→Nat→Int) (s:Int):Gd.car I 40 s (fun k=>Gd.serves k 6)=Gd.has I 40 s 1 1:=by
 rw [Gd.has_car]
 refine Gd.car_congr fun k _ _=>?_
 show (if (6:Int)=6 then decide (I k 0=1) else _)=_
 rw [if_pos rfl]
 by_cases h:I k 0=1
 ·simp [h]
 ·rw [decide_eq_false h]
  by_cases h1:1≤I k 0
  ·rw [decide_eq_false (show ¬I k 0≤1 by omega),Bool.and_false]
  ·rw [decide_eq_false h1,Bool.false_and]

theorem Gd.serves7 (I:Nat→Nat→Int) (s:Int):Gd.car I 40 s (fun k=>Gd.serves k 7)=Gd.has I 40 s 2 3:=by
 rw [Gd.has_car]
 refine Gd.car_congr fun k _ _=>?_
 show (if (7:Int)=6 then _ else if (7:Int)=7 then decide (I k 0=2) || decide (I k 0=3) else true)=_
 rw [if_neg (by decide),if_pos rfl]
 by_cases h:I k 0=2∨I k 0=3
 ·rcases h with h | h <;> simp [h]
 ·rw [decide_eq_false (show ¬I k 0=2 by omega),decide_eq_false (show ¬I k 0=3 by omega)]
  by_cases h1:2≤I k 0
  ·rw [decide_eq_false (show ¬I k 0≤3 by omega),Bool.and_false];rfl
  ·rw [decide_eq_false h1,Bool.false_and];rfl

theorem Gd.serves8 {c:Nat→Int} {I:Nat→Nat→Int} (h:Gd.Ok c 40 I) (s:Int):Gd.car I 40 s (fun k=>Gd.serves k 8)=Gd.has I 40 s 1 3:=by
 rw [Gd.has_car]
 refine Gd.car_congr fun k hk hw=>?_
 show (if (8:Int)=6 then _ else if (8:Int)=7 then _ else true)=_
 rw [if_neg (by decide),if_neg (by decide)]
 obtain ⟨h1,h2,h3⟩:=h.of hk (by omega)
 have:I k 0≤3:=by rcases h3 with h3 | h3 | h3 | h3 <;> omega
 rw [decide_eq_true h1,decide_eq_true this]
 rfl

theorem act_all (base:Nat→Prop) (B gC gE gI cC cE cI k t:Nat) (s g c:Nat→Int) (E I:Nat→Nat→Int) (input:Int) (x:World) (H:Gd.Hold x B gC gE gI cC cE cI s g c E I) (hk:k<32) (ht:t<4) (he:E k 2=(t:Int)) (F:Gd.Fine c g E I) (hbB:¬base B) (hbE:¬base gE) (hbI:¬base gI) :
  Calls Tryz.prog 170 #[.pointer (some ⟨B,0,none⟩),.pointer (some ⟨gE,k*11,none⟩),.int .i64 input] x (Gd.Acted base x B gC gE gI cC cE cI s (Gd.give g t (Gd.goldOf I (t:Int) (E k 3) (E k 4) (decide (Gr.at 384 c (E k 3) (E k 4)=5)) (g t) input)) c (Gd.entsOf E I k (t:Int) input) (Gd.act I 40 (t:Int) (E k 3) (E k 4) (decide (Gr.at 384 c (E k 3) (E k 4)=5)) (g t) input)):=by
 obtain ⟨X,hX⟩:∃X,E k 3=X:=⟨_,rfl⟩
 obtain ⟨Y,hY⟩:∃Y,E k 4=Y:=⟨_,rfl⟩
 obtain ⟨sh,hsh⟩:∃sh,decide (Gr.at 384 c (E k 3) (E k 4)=5)=sh:=⟨_,rfl⟩
 have none:=act_none base B gC gE gI cC cE cI k t s g c E I input x H hk ht he F.cells
 have g01:=F.gold t ht
 have gs:=Gd.give_same g t
 by_cases h5:input=5
 ·subst h5
  have e6:Gd.entsOf E I k (t:Int) 5=E:=if_neg (by rintro ⟨h,_⟩;omega)
  have ew:∀sh,Gd.want I (t:Int) (E k 3) (E k 4) sh (g t) 5=Gd.find I 40 1 (E k 3) (E k 4):=fun _=>if_pos rfl
  have ea:∀sh,Gd.act I 40 (t:Int) (E k 3) (E k 4) sh (g t) 5=Gd.pick I 40 (t:Int) (E k 3) (E k 4):=fun _=>if_pos rfl
  have eg:∀sh,Gd.goldOf I (t:Int) (E k 3) (E k 4) sh (g t) 5=(if 0≤Gd.find I 40 1 (E k 3) (E k 4)∧I (Gd.find I 40 1 (E k 3) (E k 4)).toNat 0=4 then min (g t+5) 999 else g t):=fun _=>if_pos rfl
  rw [ea,eg,e6]
  unfold Gd.pick
  by_cases hf:0≤Gd.find I 40 1 (E k 3) (E k 4)
  ·obtain ⟨m,hm,em,m1,_⟩:=Gd.find_pos hf
   rw [em,Int.toNat_natCast]
   by_cases h4:I m 0=4
   ·rw [if_pos ⟨by omega,h4⟩,if_pos ⟨by omega,h4⟩]
    exact act_gold base B gC gE gI cC cE cI k t m s g c E I x H hk ht he F.cells hbI hm hbB h4 g01.1 g01.2 (by rw [ew,em])
   ·rw [if_neg (fun h=>h4 h.2),if_neg (fun h=>h4 h.2),gs]
    by_cases hs:0≤Gd.slot I 40 (t:Int)
    ·obtain ⟨f,hf'⟩:∃f:Nat,Gd.slot I 40 (t:Int)=(f:Int):=⟨(Gd.slot I 40 (t:Int)).toNat,by omega⟩
     rw [if_pos ⟨by omega,hs⟩,hf']
     have r:=act_take base B gC gE gI cC cE cI k t m s g c E I x H hk ht he F.cells hbI hm hbB g01.1 g01.2 h4 m1 f hf' (by rw [ew,em])
     rwa [gs] at r
    ·rw [if_neg (fun h=>hs h.2)]
     exact act_take_full base B gC gE gI cC cE cI k t m s g c E I x H hk ht he F.cells hm h4 (by omega) (by rw [ew,em])
  ·rw [if_neg (fun h=>hf h.1),if_neg (fun h=>hf h.1),if_neg (fun h=>hf h.1),gs]
   exact none (by rw [ew];omega)
 ·by_cases h10:input=10
  ·subst h10
   have e6:Gd.entsOf E I k (t:Int) 10=E:=if_neg (by rintro ⟨h,_⟩;omega)
   have ew:∀sh:Bool,Gd.want I (t:Int) (E k 3) (E k 4) sh (g t) 10=(if sh=true∧5≤g t then Gd.ware I 40 else -1):=fun _=>by
    unfold Gd.want
    rw [if_neg (by decide),if_pos rfl]
   have ea:∀sh,Gd.act I 40 (t:Int) (E k 3) (E k 4) sh (g t) 10=Gd.buy I 40 (t:Int) sh (g t):=fun _=>by
    unfold Gd.act
    rw [if_neg (by decide),if_neg (by decide),if_neg (by decide),if_neg (by decide),if_pos rfl]
   have eg:∀sh,Gd.goldOf I (t:Int) (E k 3) (E k 4) sh (g t) 10=(if Gd.buys I 40 (t:Int) sh (g t)=true then g t - 5 else g t):=fun _=>by
    unfold Gd.goldOf
    rw [if_neg (by decide),if_pos rfl]
   rw [ea,eg,e6,hsh]
   rw [hsh] at none
   unfold Gd.buy Gd.buys
   by_cases hsg:sh=true∧5≤g t
   ·by_cases hwr:0≤Gd.ware I 40
    ·obtain ⟨m,hm,em,m1⟩:=Gd.ware_pos hwr
     have ew':Gd.want I (t:Int) (E k 3) (E k 4) (decide (Gr.at 384 c (E k 3) (E k 4)=5)) (g t) 10=(m:Int):=by rw [hsh,ew,if_pos hsg,em]
     by_cases hs:0≤Gd.slot I 40 (t:Int)
     ·obtain ⟨f,hf'⟩:∃f:Nat,Gd.slot I 40 (t:Int)=(f:Int):=⟨(Gd.slot I 40 (t:Int)).toNat,by omega⟩
      have hbuy:(sh && (decide (5≤g t) && (decide (0≤Gd.slot I 40 (t:Int)) && decide (0≤Gd.ware I 40))))=true:=by simp [hsg.1,hsg.2,hs,hwr]
      rw [if_pos hbuy,if_pos hbuy,em,Int.toNat_natCast,hf']
      exact act_buy base B gC gE gI cC cE cI k t m s g c E I x H hk ht he F.cells hbI hm hbB g01.1 g01.2 m1 f hf' ew'
     ·have hbuy:¬(sh && (decide (5≤g t) && (decide (0≤Gd.slot I 40 (t:Int)) && decide (0≤Gd.ware I 40))))=true:=by simp [hs]
      rw [if_neg hbuy,if_neg hbuy,gs]
      exact act_buy_full base B gC gE gI cC cE cI k t m s g c E I x H hk ht he F.cells hm (by omega) ew'
    ·have hbuy:¬(sh && (decide (5≤g t) && (decide (0≤Gd.slot I 40 (t:Int)) && decide (0≤Gd.ware I 40))))=true:=by simp [hwr]
     rw [if_neg hbuy,if_neg hbuy,gs]
     exact none (by rw [ew,if_pos hsg];omega)
   ·have hbuy:¬(sh && (decide (5≤g t) && (decide (0≤Gd.slot I 40 (t:Int)) && decide (0≤Gd.ware I 40))))=true:=by
     intro h
     simp only [Bool.and_eq_true,decide_eq_true_eq] at h
     exact hsg ⟨h.1,h.2.1⟩
    rw [if_neg hbuy,if_neg hbuy,gs]
    exact none (by rw [ew,if_neg hsg];omega)
  ·have eg:∀sh,Gd.goldOf I (t:Int) (E k 3) (E k 4) sh (g t) input=g t:=fun _=>by
    unfold Gd.goldOf
    rw [if_neg h5,if_neg h10]
   rw [eg,gs]
   by_cases h8:input=8
   ·subst h8
    have e6:Gd.entsOf E I k (t:Int) 8=E:=if_neg (by rintro ⟨h,_⟩;omega)
    have ew:∀sh:Bool,Gd.want I (t:Int) (E k 3) (E k 4) sh (g t) 8=(if 0≤Gd.find I 40 1 (E k 3) (E k 4) then -1 else Gd.has I 40 (t:Int) 1 3):=fun _=>by
     unfold Gd.want
     rw [if_neg (by decide),if_neg (by decide),if_pos rfl,Gd.serves8 F.ok]
    have ea:∀sh,Gd.act I 40 (t:Int) (E k 3) (E k 4) sh (g t) 8=Gd.drop I 40 (t:Int) (E k 3) (E k 4):=fun _=>by
     unfold Gd.act
     rw [if_neg (by decide),if_neg (by decide),if_neg (by decide),if_pos rfl]
    rw [ea,e6]
    unfold Gd.drop
    by_cases hf:0≤Gd.find I 40 1 (E k 3) (E k 4)
    ·rw [if_neg (fun h=>by omega)]
     exact none (by rw [ew,if_pos hf];omega)
    ·by_cases hh:0≤Gd.has I 40 (t:Int) 1 3
     ·obtain ⟨m,hm,em,_⟩:=Gd.has_pos hh
      rw [if_pos ⟨hh,by omega⟩,em,Int.toNat_natCast]
      exact act_drop base B gC gE gI cC cE cI k t m s g c E I x H hk ht he F.cells hbI hm (by rw [ew,if_neg hf,em])
     ·rw [if_neg (fun h=>hh h.1)]
      exact none (by rw [ew,if_neg hf];omega)
   ·by_cases h6:input=6
    ·subst h6
     have ew:∀sh:Bool,Gd.want I (t:Int) (E k 3) (E k 4) sh (g t) 6=Gd.has I 40 (t:Int) 1 1:=fun _=>by
      unfold Gd.want
      rw [if_neg (by decide),if_neg (by decide),if_neg (by decide),if_pos rfl,Gd.serves6]
     have ea:∀sh,Gd.act I 40 (t:Int) (E k 3) (E k 4) sh (g t) 6=Gd.use I 40 (t:Int):=fun _=>by
      unfold Gd.act
      rw [if_neg (by decide),if_pos rfl]
     rw [ea]
     unfold Gd.use Gd.entsOf
     by_cases hh:0≤Gd.has I 40 (t:Int) 1 1
     ·obtain ⟨m,hm,em,_⟩:=Gd.has_pos hh
      rw [if_pos hh,if_pos ⟨rfl,hh⟩,em,Int.toNat_natCast]
      exact act_use base B gC gE gI cC cE cI k t m s g c E I x H hk ht he F.cells hbE hbI (F.hp k hk).1 (F.hp k hk).2 hm (by rw [ew,em])
     ·rw [if_neg hh,if_neg (fun h=>hh h.2)]
      exact none (by rw [ew];omega)
    ·have e6:Gd.entsOf E I k (t:Int) input=E:=if_neg (fun h=>h6 h.1)
     rw [e6]
     by_cases h7:input=7
     ·subst h7
      have ew:∀sh:Bool,Gd.want I (t:Int) (E k 3) (E k 4) sh (g t) 7=Gd.has I 40 (t:Int) 2 3:=fun _=>by
       unfold Gd.want
       rw [if_neg (by decide),if_neg (by decide),if_neg (by decide),if_neg (by decide),if_pos rfl,Gd.serves7]
      have ea:∀sh,Gd.act I 40 (t:Int) (E k 3) (E k 4) sh (g t) 7=Gd.wear I 40 (t:Int):=fun _=>by
       unfold Gd.act
       rw [if_neg (by decide),if_neg (by decide),if_pos rfl]
      rw [ea]
      unfold Gd.wear
      by_cases hh:0≤Gd.has I 40 (t:Int) 2 3
      ·obtain ⟨m,hm,em,m1,m2,_,_,l0,l1⟩:=Gd.has_pos hh
       rw [if_pos hh,em,Int.toNat_natCast]
       have r:=act_wear base B gC gE gI cC cE cI k t m s g c E I x H hk ht he F.cells hbI hm (by omega) (by omega) m1 (by rw [ew,em])
       rwa [m2] at r
      ·rw [if_neg hh]
       exact none (by rw [ew];omega)
     ·have ew:∀sh:Bool,Gd.want I (t:Int) (E k 3) (E k 4) sh (g t) input=-1:=fun _=>by
       unfold Gd.want
       rw [if_neg h5,if_neg h10,if_neg h8,if_neg h6,if_neg h7]
      have ea:∀sh,Gd.act I 40 (t:Int) (E k 3) (E k 4) sh (g t) input=I:=fun _=>by
       unfold Gd.act
       rw [if_neg h5,if_neg h6,if_neg h7,if_neg h8,if_neg h10]
      rw [ea]
      exact none (by rw [ew];omega)


open Go.RowKit

structure Gd.Boxed (w x:World) (B gC gE gI cC cE cI:Nat) (s g c:Nat→Int) (E I:Nat→Nat→Int):Prop where
 hold:Gd.Hold x B gC gE gI cC cE cI s g c E I
 at_:w.heap.size=B
 lC:B+2≤gC
 lE:B+2≤gE
 lI:B+2≤gI
 cap:32≤cE
 res:Lie x (B+1) 30 11 (fun j=>#[.int .i64 0,.int .i64 0,.int .i64 0,.int .i64 0,.slice none 0 0,.slice none 0 0,.slice none 0 0,.int .i64 0,.int .i64 0,.int .i64 0,Value.int .i64 0][j]?.getD undef)
 grown:w.grownBy x none

structure Gd.BoxW (w x:World) (B gC gE gI cC cE cI:Nat) (s g c:Nat→Int) (E I:Nat→Nat→Int):Prop where
 hold:Gd.Hold x B gC gE gI cC cE cI s g c E I
 at_:w.heap.size=B
 lC:B+2≤gC
 lE:B+2≤gE
 lI:B+2≤gI
 cap:32≤cE∧384≤cC
 res:Lie x (B+1) 30 11 (fun j=>#[.int .i64 0,.int .i64 0,.int .i64 0,.int .i64 0,.slice none 0 0,.slice none 0 0,.slice none 0 0,.int .i64 0,.int .i64 0,.int .i64 0,Value.int .i64 0][j]?.getD undef)
 grown:w.grownBy x none

theorem Gd.BoxW.on {w x y:World} {B gC gE gI cC cE cI:Nat} {s g c:Nat→Int} {E I:Nat→Nat→Int} (h:Gd.BoxW w x B gC gE gI cC cE cI s g c E I) (hg:x.grownBy y none):Gd.BoxW w y B gC gE gI cC cE cI s g c E I :=
 { h with hold:=h.hold.on hg,res:=h.res.on hg,grown:=gtr h.grown hg }

theorem Gd.BoxW.worlds {w x:World} {B gC gE gI cC cE cI:Nat} {s g c:Nat→Int} {E I:Nat→Nat→Int} (h:Gd.BoxW w x B gC gE gI cC cE cI s g c E I) (vs:List Value):Gd.WorldsW w s g c E I (.returned (.agg (Gd.world s gC gE gI cC cE cI g))) (x.setCells (B+1) 0 vs):=by
 have hB:=h.at_
 have lC:=h.lC
 have lE:=h.lE
 have lI:=h.lI
 have r:=gss (g:=B+1) vs 0 x (World.grownBy.refl _ _)
 exact ⟨gC,gE,gI,cC,cE,cI,rfl,h.cap,by omega,by omega,by omega,h.hold.cE,h.hold.cI,h.hold.eI,⟨h.hold.lists.cells.grown r (by simp;omega),h.hold.lists.ents.grown r (by simp;omega),h.hold.lists.items.grown r (by simp;omega)⟩,own_sets (by omega) vs 0 x h.grown⟩

theorem Gd.BoxW.weak {w x:World} {B gC gE gI cC cE cI:Nat} {s g c:Nat→Int} {E I:Nat→Nat→Int} (h:Gd.BoxW w x B gC gE gI cC cE cI s g c E I):Gd.Boxed w x B gC gE gI cC cE cI s g c E I :=
 ⟨h.hold,h.at_,h.lC,h.lE,h.lI,h.cap.1,h.res,h.grown⟩

theorem Gd.boxes (w:World) (gC gE gI cC cE cI:Nat) (s g:Nat→Int):∃x,x=(w.alloc (.cells (Gd.world s gC gE gI cC cE cI g) 30)).alloc (.cells #[.int .i64 0,.int .i64 0,.int .i64 0,.int .i64 0,.slice none 0 0,.slice none 0 0,.slice none 0 0,.int .i64 0,.int .i64 0,.int .i64 0,.int .i64 0] 30)∧Lie x w.heap.size 30 11 (Gd.box s gC gE gI cC cE cI g)∧Lie x (w.heap.size+1) 30 11 (fun j=>#[.int .i64 0,.int .i64 0,.int .i64 0,.int .i64 0,.slice none 0 0,.slice none 0 0,.slice none 0 0,.int .i64 0,.int .i64 0,.int .i64 0,Value.int .i64 0][j]?.getD undef)∧w.grownBy x none∧x.heap.size=w.heap.size+2:=by
 refine ⟨_,rfl,((Arr.world (heap_alloc_new w (.cells (Gd.world s gC gE gI cC cE cI g) 30))).alloc _).lie,?_,gal (World.grownBy_alloc _ _ _) _,by simp⟩
 have h:=Arr.lit (heap_alloc_new (w.alloc (.cells (Gd.world s gC gE gI cC cE cI g) 30)) (.cells #[.int .i64 0,.int .i64 0,.int .i64 0,.int .i64 0,.slice none 0 0,.slice none 0 0,.slice none 0 0,.int .i64 0,.int .i64 0,.int .i64 0,.int .i64 0] 30))
 rw [show (w.alloc (.cells (Gd.world s gC gE gI cC cE cI g) 30)).heap.size=w.heap.size+1 by simp] at h
 exact h.lie

theorem Lie.whole {x:World} {B:Nat} {T:TypeId} {F:Nat→Value} (h:Lie x B T 11 F) (s g:Nat→Int) (gC gE gI cC cE cI:Nat):Lie (x.setCells B 0 (Gd.world s gC gE gI cC cE cI g).toList) B T 11 (Gd.box s gC gE gI cC cE cI g):=by
 refine (h.stores 0 _).congr fun j hj=>?_
 show (if 0≤j∧j<0+11 then (Gd.world s gC gE gI cC cE cI g).toList[j - 0]?.getD undef else F j)=_
 rw [if_pos (by omega),Nat.sub_zero,Array.getElem?_toList,Gd.world_at s gC gE gI cC cE cI g j hj]
 rfl

theorem Gd.res_cells {x:World} {R:Nat} (h:Lie x R 30 11 (fun j=>#[.int .i64 0,.int .i64 0,.int .i64 0,.int .i64 0,.slice none 0 0,.slice none 0 0,.slice none 0 0,.int .i64 0,.int .i64 0,.int .i64 0,Value.int .i64 0][j]?.getD undef)) :
  x.cell? ⟨R,0,none⟩=some (.int .i64 0)∧x.cell? ⟨R,1,none⟩=some (.int .i64 0)∧x.cell? ⟨R,2,none⟩=some (.int .i64 0)∧x.cell? ⟨R,3,none⟩=some (.int .i64 0)∧x.cell? ⟨R,4,none⟩=some (.slice none 0 0)∧x.cell? ⟨R,5,none⟩=some (.slice none 0 0)∧x.cell? ⟨R,6,none⟩=some (.slice none 0 0)∧x.cell? ⟨R,7,none⟩=some (.int .i64 0)∧x.cell? ⟨R,8,none⟩=some (.int .i64 0)∧x.cell? ⟨R,9,none⟩=some (.int .i64 0)∧x.cell? ⟨R,10,none⟩=some (.int .i64 0) :=
 ⟨h.cell (by omega),h.cell (by omega),h.cell (by omega),h.cell (by omega),h.cell (by omega),h.cell (by omega),h.cell (by omega),h.cell (by omega),h.cell (by omega),h.cell (by omega),h.cell (by omega)⟩

def Gd.hero (E:Nat→Nat→Int) (seat:Int):Int:=En.first (En.heroQ E seat) 32

def Gd.nextI (c g:Nat→Int) (E I:Nat→Nat→Int) (seat input:Int):Nat→Nat→Int :=
 if 0≤seat∧seat<4∧0≤Gd.hero E seat then Gd.act I 40 seat (E (Gd.hero E seat).toNat 3) (E (Gd.hero E seat).toNat 4) (decide (Gr.at 384 c (E (Gd.hero E seat).toNat 3) (E (Gd.hero E seat).toNat 4)=5)) (g seat.toNat) input else I

def Gd.nextE (E I:Nat→Nat→Int) (seat input:Int):Nat→Nat→Int :=
 if 0≤seat∧seat<4∧0≤Gd.hero E seat then Gd.entsOf E I (Gd.hero E seat).toNat seat input else E

def Gd.nextG (c g:Nat→Int) (E I:Nat→Nat→Int) (seat input:Int):Nat→Int :=
 if 0≤seat∧seat<4∧0≤Gd.hero E seat then Gd.give g seat.toNat (Gd.goldOf I seat (E (Gd.hero E seat).toNat 3) (E (Gd.hero E seat).toNat 4) (decide (Gr.at 384 c (E (Gd.hero E seat).toNat 3) (E (Gd.hero E seat).toNat 4)=5)) (g seat.toNat) input) else g

theorem Gd.hero_pos {E:Nat→Nat→Int} {seat:Int} (h:0≤Gd.hero E seat):∃k:Nat,k<32∧Gd.hero E seat=(k:Int)∧E k 2=seat∧E k 0=1:=by
 unfold Gd.hero at *
 rcases En.first_cases (En.heroQ E seat) 32 with ⟨h',_⟩ | ⟨k,hk,h',hq,_⟩
 ·omega
 ·simp only [En.heroQ,Bool.and_eq_true,decide_eq_true_eq] at hq
  exact ⟨k,hk,h',hq.2,hq.1⟩

set_option maxHeartbeats 6400000 in
theorem do_walk (s g c:Nat→Int) (E I:Nat→Nat→Int) (gC gE gI cC cE cI:Nat) (seat input:Int) (w:World) (hL:Gd.Lists w gC gE gI c E I) (g':Nat→Int) (E' I':Nat→Nat→Int)
  (hno:¬(0≤seat∧seat<4∧0≤Gd.hero E seat)→g'=g∧E'=E∧I'=I)
  (hyes:0≤seat→seat<4→∀k:Nat,k<32→Gd.hero E seat=(k:Int)→∀(B g1 g2 g3 c1 c2 c3:Nat) (x:World),Gd.BoxW w x B g1 g2 g3 c1 c2 c3 s g c E I→Calls Tryz.prog 170 #[.pointer (some ⟨B,0,none⟩),.pointer (some ⟨g2,k*11,none⟩),.int .i64 input] x fun e x'=>e=.returned (.tuple #[])∧Gd.BoxW w x' B g1 g2 g3 c1 c2 c3 s g' c E' I') :
  Calls Tryz.prog 147 #[.agg (Gd.world s gC gE gI cC cE cI g),.int .i64 seat,.int .i64 input] w (Gd.WorldsW w s g' c E' I'):=by
 obtain ⟨w0,hw0,hbox,hres,hg0,hsz⟩:=Gd.boxes w gC gE gI cC cE cI s g
 have ca:=apart_wide s g c E I gC gE gI cC cE cI w0 (hL.on hg0)
 have hno':=hide hno
 have hyes':=hide hyes
 obtain ⟨b0,b1,b2,b3,b4,b5,b6,b7,b8,b9,b10⟩:=hbox.eleven
 have hbx:=hide hbox
 have hrs:=hide hres
 have hg0':=hide hg0
 have hsz':=hide hsz
 have ca':=hide ca
 have hfB:=hbox.free
 clear hL hno hyes ca hbox hres hg0 hsz
 unfold Gd.world at hw0 ca' ⊢
 go_enter Tryz.func147,Tryz.ntmps147
 go_upto_region 1 with fail
 rw [←hw0]
 clear hw0
 obtain ⟨B,hB⟩:∃B,w.heap.size=B:=⟨_,rfl⟩
 rw [hB] at hbx hrs hsz' b0 b1 b2 b3 b4 b5 b6 b7 b8 b9 b10 ⊢
 have hB':=hide hB
 rw [hB] at hfB
 clear hB
 go_cut [] from 8 (fun wx=>∃g1 g2 g3 c1 c2 c3,Hid (Gd.BoxW w wx B g1 g2 g3 c1 c2 c3 s g c E I))
 case first =>
  go_wp2_with fail
  refine (uh ca').mono ?_
  rintro e w1 ⟨g1,g2,g3,c1,c2,c3,rfl,hcap,l1,l2,l3,n1,n2,n3,hL1,hg1⟩
  obtain ⟨y0,y1,y2,y3,y4,y5,y6,y7,y8,y9,y10⟩:=((uh hbx).on hg1).eleven
  have fB:=((uh hbx).on hg1).free
  have fin:Hid (Gd.BoxW w (w1.setCells B 0 (Gd.world s g1 g2 g3 c1 c2 c3 g).toList) B g1 g2 g3 c1 c2 c3 s g c E I):=by
   have r:=gss (g:=B) (Gd.world s g1 g2 g3 c1 c2 c3 g).toList 0 w1 (World.grownBy.refl _ _)
   have hB:=uh hB'
   have hs:=uh hsz'
   exact ⟨⟨((uh hbx).on hg1).whole s g g1 g2 g3 c1 c2 c3,⟨hL1.cells.grown r (by simp;omega),hL1.ents.grown r (by simp;omega),hL1.items.grown r (by simp;omega)⟩,by omega,by omega,by omega,n1,n2,n3⟩,hB,by omega,by omega,by omega,hcap,((uh hrs).on hg1).grown r (by simp),own_sets (by omega) _ 0 w1 (gtr (uh hg0') hg1)⟩
  unfold Gd.world at fin ⊢
  clear hcap l1 l2 l3 n1 n2 n3 hL1 hg1 b0 b1 b2 b3 b4 b5 b6 b7 b8 b9 b10 hfB ca'
  go_wp2_with fail
  go_meet
  exact ⟨g1,g2,g3,c1,c2,c3,fin⟩
 case rest =>
  obtain ⟨g1,g2,g3,c1,c2,c3,hX⟩:=hcut
  clear b0 b1 b2 b3 b4 b5 b6 b7 b8 b9 b10 hfB ca' hbx hrs hg0' hsz' hB'
  clear w0
  have cs0:=fun wx=>isSeat_any seat wx
  by_cases hseat:0≤seat∧seat<4
  ·rw [show Gd.isSeat seat=true from decide_eq_true hseat] at cs0
   have cs:=hide cs0
   clear cs0
   obtain ⟨hs0,hs4⟩:=hseat
   go_wp2_with fail
   refine (uh cs _).mono ?_
   rintro e wy ⟨rfl,hw⟩
   subst wy
   have b5:=(uh hX).hold.box.eleven.2.2.2.2.2.1
   have ch0:=hero_any g2 32 c2 E seat wc (uh hX).hold.lists.own.ents (uh hX).cap.1
   have hp:=@Gd.hero_pos E seat
   change Calls _ _ _ _ (Says wc (.int .i64 (Gd.hero E seat))) at ch0
   obtain ⟨h,hh⟩:∃h,Gd.hero E seat=h:=⟨_,rfl⟩
   rw [hh] at ch0 hp
   have ch:=hide ch0
   have hp':=hide hp
   have hh':=hide hh
   clear ch0 hp hh cs
   go_wp2_with fail
   refine (uh ch).mono ?_
   rintro e w2 ⟨rfl,hg2⟩
   have hX2:=hide ((uh hX).on hg2)
   clear hg2 ch b5 hX
   by_cases hpos:0≤h
   ·obtain ⟨k,hk,rfl,_⟩:=uh hp' hpos
    have b5:=(uh hX2).hold.box.eleven.2.2.2.2.2.1
    have ca:=hide (uh hyes' hs0 hs4 k hk (uh hh') B g1 g2 g3 c1 c2 c3 w2 (uh hX2))
    have hk':(k:Int)<32:=by omega
    clear hp' hh'
    go_wp2_with fail
    refine (uh ca).mono ?_
    rintro e w3 ⟨rfl,hX3⟩
    clear ca b5 hX2
    have hbx:=hide hX3
    obtain ⟨b0,b1,b2,b3,b4,b5,b6,b7,b8,b9,b10⟩:=(uh hbx).hold.box.eleven
    have fz:=(uh hbx).res.free
    obtain ⟨z0,z1,z2,z3,z4,z5,z6,z7,z8,z9,z10⟩:=Gd.res_cells (uh hbx).res
    have hfin:=hide (fun vs=>(uh hbx).worlds vs)
    go_wp2
    refine bodyPost_ret (v:=.agg (Gd.world s g1 g2 g3 c1 c2 c3 g')) (by simp [results,Tryz.results147,go_sem,Gd.world,z0,z1,z2,z3,z4,z5,z6,z7,z8,z9,z10]) rfl ?_
    exact uh hfin [_,_,_,_,_,_,_,_,_,_,_]
   ·obtain ⟨rfl,rfl,rfl⟩:=uh hno' (fun hc=>hpos (by rw [←uh hh'];exact hc.2.2))
    have hneg:h<0:=by omega
    clear hp' hh' hyes' hno'
    have hbx:=hide (uh hX2)
    obtain ⟨b0,b1,b2,b3,b4,b5,b6,b7,b8,b9,b10⟩:=(uh hbx).hold.box.eleven
    have fz:=(uh hbx).res.free
    obtain ⟨z0,z1,z2,z3,z4,z5,z6,z7,z8,z9,z10⟩:=Gd.res_cells (uh hbx).res
    have hfin:=hide (fun vs=>(uh hbx).worlds vs)
    go_wp2
    refine bodyPost_ret (v:=.agg (Gd.world s g1 g2 g3 c1 c2 c3 g')) (by simp [results,Tryz.results147,go_sem,Gd.world,z0,z1,z2,z3,z4,z5,z6,z7,z8,z9,z10]) rfl ?_
    exact uh hfin [_,_,_,_,_,_,_,_,_,_,_]
  ·rw [show Gd.isSeat seat=false from decide_eq_false hseat] at cs0
   have cs:=hide cs0
   obtain ⟨rfl,rfl,rfl⟩:=uh hno' (fun hc=>hseat ⟨hc.1,hc.2.1⟩)
   clear cs0 hno' hyes'
   go_wp2_with fail
   refine (uh cs _).mono ?_
   rintro e wy ⟨rfl,hw⟩
   subst wy
   have hbx:=hide (uh hX)
   obtain ⟨b0,b1,b2,b3,b4,b5,b6,b7,b8,b9,b10⟩:=(uh hbx).hold.box.eleven
   have fz:=(uh hbx).res.free
   obtain ⟨z0,z1,z2,z3,z4,z5,z6,z7,z8,z9,z10⟩:=Gd.res_cells (uh hbx).res
   have hfin:=hide (fun vs=>(uh hbx).worlds vs)
   go_wp2
   refine bodyPost_ret (v:=.agg (Gd.world s g1 g2 g3 c1 c2 c3 g')) (by simp [results,Tryz.results147,go_sem,Gd.world,z0,z1,z2,z3,z4,z5,z6,z7,z8,z9,z10]) rfl ?_
   exact uh hfin [_,_,_,_,_,_,_,_,_,_,_]

theorem do_wide (s g c:Nat→Int) (E I:Nat→Nat→Int) (gC gE gI cC cE cI:Nat) (seat input:Int) (w:World) (hL:Gd.Lists w gC gE gI c E I) (F:Gd.Fine c g E I) :
  Calls Tryz.prog 147 #[.agg (Gd.world s gC gE gI cC cE cI g),.int .i64 seat,.int .i64 input] w (Gd.WorldsW w s (Gd.nextG c g E I seat input) c (Gd.nextE E I seat input) (Gd.nextI c g E I seat input)):=by
 refine do_walk s g c E I gC gE gI cC cE cI seat input w hL _ _ _ (fun h=>⟨if_neg h,if_neg h,if_neg h⟩) ?_
 intro s0 s4 k hk hh B g1 g2 g3 c1 c2 c3 x hX
 obtain ⟨t,rfl⟩:∃t:Nat,seat=(t:Int):=⟨seat.toNat,by omega⟩
 obtain ⟨k',_,hk',he,_⟩:=Gd.hero_pos (E:=E) (seat:=(t:Int)) (by omega)
 have ek:k'=k:=by omega
 rw [ek] at he
 have c:0≤(t:Int)∧(t:Int)<4∧0≤Gd.hero E (t:Int):=⟨s0,s4,by omega⟩
 unfold Gd.nextG Gd.nextE Gd.nextI
 rw [if_pos c,if_pos c,if_pos c,hh,Int.toNat_natCast,Int.toNat_natCast]
 have b1:=hX.at_
 have b2:=hX.lE
 have b3:=hX.lI
 have b4:=hX.lC
 refine (act_all (fun i=>i≠B∧i≠g2∧i≠g3) B g1 g2 g3 c1 c2 c3 k t s g _ E I input x hX.hold hk (by omega) he F (fun h=>h.1 rfl) (fun h=>h.2.1 rfl) (fun h=>h.2.2 rfl)).mono ?_
 rintro e x' ⟨h1,h2,h3⟩
 exact ⟨h1,h2,hX.at_,hX.lC,hX.lE,hX.lI,hX.cap,hX.res.frame h3 ⟨by omega,by omega,by omega⟩,h3.grown hX.grown (fun i hi=>⟨by omega,by omega,by omega⟩)⟩

end Go.Proofs.YtbanjoflgoiegaaGreat
