import Derived.Test.YtldgbkjceildfaaGreatBy53
import Derived.Test.YtldgbkjceildfaaGreatBy41
namespace Go.Proofs.YtldgbkjceildfaaGreat
open Go.RowKit

set_option maxHeartbeats 400000 in
theorem within11_any (a n:Int) (w:World) (hn:0<n) (hn2:n≤4611686018427387904) :
  Calls Tryz.prog 23 #[.int .i64 a,.int .i64 n] w fun e w'=>e=.returned (.int .i64 (a % n))∧w'=w:=by
 have t1:=Int.tmod_lt_of_pos a (b:=n) hn
 have t2:=Int.lt_tmod_of_pos a (b:=n) hn
 have hn0:(n == 0)=false:=by simp;omega
 by_cases h:a.tmod n<0
 ·have ha:¬0≤a:=by
   intro h0
   have:=Int.tmod_nonneg n h0
   omega
  have hd:=hide (Gr.within_neg a n hn h)
  go_enter Tryz.func23,Tryz.ntmps23
  go_wp2
  go_ret
  exact ⟨rti (uh hd),rfl⟩
 ·have hd:=hide (Gr.within_pos a n hn h)
  by_cases ha:0≤a
  ·have e:a.tmod n=a % n:=Int.tmod_eq_emod_of_nonneg ha
   have h':¬a % n<0:=by rw [←e];exact h
   clear h t1 t2 e
   go_enter Tryz.func23,Tryz.ntmps23
   go_wp2
   go_ret
   exact ⟨rfl,rfl⟩
  ·go_enter Tryz.func23,Tryz.ntmps23
   go_wp2
   go_ret
   exact ⟨rti (uh hd),rfl⟩

def Sn.Page (x:World) (seed:Int) (k:Nat) (cs:List Value):Prop :=
 ∃(S:Cr.W) (gC gE gI cC cE cI:Nat),cs=(Gd.world S.s gC gE gI cC cE cI S.g).toList∧Gd.Lists x gC gE gI S.c S.E S.I∧32≤cE∧Cr.Good S∧S.s 0=seed∧S.s 1=(k:Int)

theorem Sn.Page.len {x:World} {seed:Int} {k:Nat} {cs:List Value} (h:Sn.Page x seed k cs):cs.length=11:=by
 obtain ⟨S,gC,gE,gI,cC,cE,cI,rfl,_⟩:=h
 rfl

theorem Sn.Page.grown {x y:World} {seed:Int} {k:Nat} {cs:List Value} {r:Option Nat} (h:Sn.Page x seed k cs) (hg:x.grownBy y r) (hr:∀n,r=some n→∃m F,Lie x n 30 m F):Sn.Page y seed k cs:=by
 obtain ⟨S,gC,gE,gI,cC,cE,cI,hc,hL,h1,h2,h3,h4⟩:=h
 have key:∀(G:Nat) (T:TypeId) (m:Nat) (F:Nat→Value),T≠30→Lie x G T m F→r≠some G:=fun G T m F hT hl e=>by
  obtain ⟨m',F',hw⟩:=hr G e
  exact hl.type_ne hw hT rfl
 exact ⟨S,gC,gE,gI,cC,cE,cI,hc,⟨hL.cells.grown hg (key _ _ _ _ (by decide) hL.cells),hL.ents.grown hg (key _ _ _ _ (by decide) hL.ents),hL.items.grown hg (key _ _ _ _ (by decide) hL.items)⟩,h1,h2,h3,h4⟩

structure Sn.Book (w x:World) (base:Nat) (v:Value) (seed:Int) (L:List (List Value)):Prop where
 own:x.ownsRow base 30 11 v L.length L.flatten
 page:∀(k:Nat) (cs:List Value),L[k]?=some cs→Sn.Page x seed k cs

theorem Sn.own_lie {x:World} {base n:Nat} {v:Value} {xs:List Value} (h:x.ownsRow base 30 11 v n xs):∀k,v.ownBlock=some k→∃m F,Lie x k 30 m F:=by
 intro k hk
 rcases h.2 with ⟨rfl,_⟩ | ⟨g,cap,cur,rfl,_,hg,_⟩
 ·simp [Value.ownBlock] at hk
 ·simp [Value.ownBlock] at hk
  subst hk
  exact ⟨_,_,(Arr.lit hg).lie⟩

theorem Sn.Book.on {w x y:World} {base:Nat} {v:Value} {seed:Int} {L:List (List Value)} (h:Sn.Book w x base v seed L) (hg:x.grownBy y none):Sn.Book w y base v seed L :=
 ⟨h.own.kept hg (by cases v.ownBlock <;> simp),fun k cs hk=>(h.page k cs hk).grown hg (fun n e=>by cases e)⟩

theorem Sn.Book.over {w x:World} {base T m:Nat} {v:Value} {seed:Int} {L:List (List Value)} {F:Nat→Value} (h:Sn.Book w x base v seed L) (hT:Lie x T 30 m F) (hb:T<base) (vs:List Value):Sn.Book w (x.setCells T 0 vs) base v seed L:=by
 have r:=gss (g:=T) vs 0 x (World.grownBy.refl _ _)
 refine ⟨h.own.kept r ?_,fun k cs hk=>(h.page k cs hk).grown r (fun n e=>by cases e;exact ⟨m,F,hT⟩)⟩
 by_cases e:v.ownBlock=some T
 ·have:=(h.own.lt T e).1
  omega
 ·exact .inr e

theorem Sn.Book.more {w x y x':World} {base:Nat} {v v':Value} {seed:Int} {L:List (List Value)} {cs:List Value} (h:Sn.Book w x base v seed L) (hxy:x.grownBy y none) (hp:Sn.Page x seed L.length cs) (hown:x'.ownsRow base 30 11 v' (L.length+1) (L.flatten ++ cs)) (hg:y.grownBy x' v.ownBlock):Sn.Book w x' base v' seed (L ++ [cs]):=by
 have hy:=h.on hxy
 refine ⟨by rw [List.length_append,List.flatten_append];simpa using hown,fun k c hk=>?_⟩
 by_cases hlt:k<L.length
 ·rw [List.getElem?_append_left hlt] at hk
  exact (hy.page k c hk).grown hg (Sn.own_lie hy.own)
 ·rw [List.getElem?_append_right (by omega)] at hk
  have hk0:k - L.length=0:=by
   have:=(List.getElem?_eq_some_iff.1 hk).1
   simpa using this
  rw [hk0] at hk
  simp at hk
  subst hk
  obtain rfl:k=L.length:=by
   have hl:=hlt
   omega
  exact (hp.grown hxy (fun n e=>by cases e)).grown hg (Sn.own_lie hy.own)

theorem info_world:(Tryz.prog.info? 30).map (fun i=>(i.zero,i.size,i.bytes))=some (some (.agg #[.int .i64 0,.int .i64 0,.int .i64 0,.int .i64 0,.slice none 0 0,.slice none 0 0,.slice none 0 0,.int .i64 0,.int .i64 0,.int .i64 0,.int .i64 0]),11,136):=by kernel_rfl

def Sn.Tells11 (w:World) (seed:Int) (e:Ending) (w':World):Prop:=∃v base L,e=.returned v∧w.heap.size≤base∧0<L.length∧L.length≤31∧Sn.Book w w' base v seed L∧w.grownBy w' none

def Sn.TellsL (w:World) (seed:Int) (len:Nat) (e:Ending) (w':World):Prop:=∃v base L,e=.returned v∧w.heap.size≤base∧L.length=min len 30+1∧Sn.Book w w' base v seed L∧w.grownBy w' none

structure Sn.Tale (w x:World) (T gC gE gI cC cE cI:Nat) (S:Cr.W) (v:Value) (seed:Int) (L:List (List Value)):Prop where
 law:Gd.Law w x T gC gE gI cC cE cI S.s S.g S.c S.E S.I
 book:Sn.Book w x (T+1) v seed L
 good:Cr.Good S
 s0:S.s 0=seed
 s1:S.s 1+1=(L.length:Int)

theorem Sn.Tale.on {w x y:World} {T gC gE gI cC cE cI:Nat} {S:Cr.W} {v:Value} {seed:Int} {L:List (List Value)} (h:Sn.Tale w x T gC gE gI cC cE cI S v seed L) (hg:x.grownBy y none):Sn.Tale w y T gC gE gI cC cE cI S v seed L :=
 ⟨h.law.on hg,h.book.on hg,h.good,h.s0,h.s1⟩

theorem Sn.law_grown {w x y:World} {T gC gE gI cC cE cI n:Nat} {s g c:Nat→Int} {E I:Nat→Nat→Int} {v:Value} {zs:List Value} (h:Gd.Law w x T gC gE gI cC cE cI s g c E I) (ho:x.ownsRow (T+1) 30 11 v n zs) (hg:x.grownBy y v.ownBlock):Gd.Law w y T gC gE gI cC cE cI s g c E I:=by
 have hh:=h.hold
 have hT:v.ownBlock≠some T:=fun e=>by
  have:=(ho.lt T e).1
  omega
 have key:∀(G:Nat) (U:TypeId) (m:Nat) (F:Nat→Value),U≠30→Lie x G U m F→v.ownBlock≠some G:=fun G U m F hU hl e=>by
  obtain ⟨m',F',hw⟩:=Sn.own_lie ho G e
  exact hl.type_ne hw hU rfl
 exact ⟨⟨hh.box.grown hg hT,⟨hh.lists.cells.grown hg (key _ _ _ _ (by decide) hh.lists.cells),hh.lists.ents.grown hg (key _ _ _ _ (by decide) hh.lists.ents),hh.lists.items.grown hg (key _ _ _ _ (by decide) hh.lists.items)⟩,hh.bC,hh.bE,hh.bI,hh.cE,hh.cI,hh.eI⟩,h.lT,h.lE,h.lI,h.cap,gow h.grown hg (fun k e=>by have:=(ho.lt k e).1;have:=h.lT;omega)⟩

theorem Sn.Tale.aside {w x:World} {T A m gC gE gI cC cE cI:Nat} {S:Cr.W} {v:Value} {seed:Int} {L:List (List Value)} {F:Nat→Value} (h:Sn.Tale w x T gC gE gI cC cE cI S v seed L) (hA:Lie x A 63 m F) (lA:w.heap.size≤A) (i j k:Nat) (a b c:Value):Sn.Tale w (((x.setCell ⟨A,i,none⟩ a).setCell ⟨A,j,none⟩ b).setCell ⟨A,k,none⟩ c) T gC gE gI cC cE cI S v seed L:=by
 have key:∀(y:World) (i:Nat) (a:Value),Sn.Tale w y T gC gE gI cC cE cI S v seed L→(∃G,Lie y A 63 m G)→Sn.Tale w (y.setCell ⟨A,i,none⟩ a) T gC gE gI cC cE cI S v seed L∧∃G,Lie (y.setCell ⟨A,i,none⟩ a) A 63 m G:=fun y i a h ⟨G,hG⟩=>by
  have hh:=h.law.hold
  have n0:=hG.type_ne hh.box (by decide)
  have r:=gs0 y A i a
  refine ⟨⟨⟨⟨hh.box.other n0 _ _,⟨hh.lists.cells.other (hG.type_ne hh.lists.cells (by decide)) _ _,hh.lists.ents.other (hG.type_ne hh.lists.ents (by decide)) _ _,hh.lists.items.other (hG.type_ne hh.lists.items (by decide)) _ _⟩,hh.bC,hh.bE,hh.bI,hh.cE,hh.cI,hh.eI⟩,h.law.lT,h.law.lE,h.law.lI,h.law.cap,gsr h.law.grown ⟨A,i,none⟩ lA a⟩,⟨h.book.own.kept r ?_,fun q cs hq=>?_⟩,h.good,h.s0,h.s1⟩,_,hG.store i a⟩
  ·by_cases e:v.ownBlock=some A
   ·obtain ⟨m',F',hw⟩:=Sn.own_lie h.book.own A e
    exact absurd rfl (hG.type_ne hw (by decide))
   ·exact .inr e
  ·obtain ⟨S',qC,qE,qI,kC,kE,kI,hc,hL,h1,h2,h3,h4⟩:=h.book.page q cs hq
   exact ⟨S',qC,qE,qI,kC,kE,kI,hc,⟨hL.cells.other (hG.type_ne hL.cells (by decide)) _ _,hL.ents.other (hG.type_ne hL.ents (by decide)) _ _,hL.items.other (hG.type_ne hL.items (by decide)) _ _⟩,h1,h2,h3,h4⟩
 obtain ⟨h1,g1⟩:=key x i a h ⟨F,hA⟩
 obtain ⟨h2,g2⟩:=key _ j b h1 g1
 exact (key _ k c h2 g2).1

set_option maxRecDepth 16000 in
set_option maxHeartbeats 12800000 in
theorem story_len (seed:Int) (a:Option Addr) (len cap:Nat) (V:Nat→Option Addr × Nat × Nat) (z:Nat→Nat→Int) (w:World) (hC:Cr.Came w a len V z) :
  Calls Tryz.prog 8 #[.int .i64 seed,.slice a len cap] w (Sn.TellsL w seed len):=by
 have hC':=hide hC
 have hm1:Hid (len≤maxLen):=hC.1
 have cn:=hide (fun x=>refNew_any seed x)
 obtain ⟨i0,hi,hz0,hz1,hz2⟩:=info_parts info_world
 clear hC
 go_enter Tryz.func8,Tryz.ntmps8
 go_wp2_with fail
 refine (uh cn _).mono ?_
 rintro e w1 ⟨S0,hN,gC,gE,gI,cC,cE,cI,rfl,hcap,l1,l2,l3,n1,n2,n3,hL,hg1⟩
 have hLw:=hide (Gd.law_new (s:=S0.s) (g:=S0.g) (cC:=cC) (cI:=cI) (World.grownBy.refl w none) hcap l1 l2 l3 n1 n2 n3 hL hg1)
 have hGo:=hide hN.good
 have hHd:=hide hN.head
 clear cn hcap l1 l2 l3 n1 n2 n3 hL hg1 hN
 unfold Gd.world at hLw ⊢
 go_upto_region 2 with fail
 obtain ⟨T,hTe⟩:∃T,w1.heap.size=T:=⟨_,rfl⟩
 have hTs:Hid ((w1.alloc (.cells #[.int .i64 (S0.s 0),.int .i64 (S0.s 1),.int .i64 (S0.s 2),.int .i64 (S0.s 3),.slice (some ⟨gC,0,none⟩) 384 cC,.slice (some ⟨gE,0,none⟩) 32 cE,.slice (some ⟨gI,0,none⟩) 40 cI,.int .i64 (S0.g 0),.int .i64 (S0.g 1),.int .i64 (S0.g 2),.int .i64 (S0.g 3)] 30)).heap.size=T+1):=by show _=_;rw [←hTe];simp
 rw [hTe] at hLw ⊢
 clear hTe
 generalize w1.alloc (.cells #[.int .i64 (S0.s 0),.int .i64 (S0.s 1),.int .i64 (S0.s 2),.int .i64 (S0.s 3),.slice (some ⟨gC,0,none⟩) 384 cC,.slice (some ⟨gE,0,none⟩) 32 cE,.slice (some ⟨gI,0,none⟩) 40 cI,.int .i64 (S0.g 0),.int .i64 (S0.g 1),.int .i64 (S0.g 2),.int .i64 (S0.g 3)] 30)=w2 at hLw hTs ⊢
 obtain ⟨b0,b1,b2,b3,b4,b5,b6,b7,b8,b9,b10⟩:=(uh hLw).eleven
 obtain ⟨w3,hw3⟩:∃w3,w3=w2.alloc (.cells #[.int .i64 (S0.s 0),.int .i64 (S0.s 1),.int .i64 (S0.s 2),.int .i64 (S0.s 3),.slice (some ⟨gC,0,none⟩) 384 cC,.slice (some ⟨gE,0,none⟩) 32 cE,.slice (some ⟨gI,0,none⟩) 40 cI,.int .i64 (S0.g 0),.int .i64 (S0.g 1),.int .i64 (S0.g 2),.int .i64 (S0.g 3)] 30):=⟨_,rfl⟩
 have hg3:w2.grownBy w3 none:=by rw [hw3];exact World.grownBy_alloc _ _ _
 have hT0:Hid (Sn.Tale w w3 T gC gE gI cC cE cI S0 (.slice (some ⟨T+1,0,none⟩) 1 1) seed [(Gd.world S0.s gC gE gI cC cE cI S0.g).toList]):=by
  refine ⟨(uh hLw).on hg3,⟨?_,fun k cs hk=>?_⟩,uh hGo,(uh hHd).1,by have:=(uh hHd).2;show S0.s 1+1=1;omega⟩
  ·rw [hw3]
   have h:=World.ownsRow_lit (base:=T+1) (e:=30) (size:=11) w2 #[.int .i64 (S0.s 0),.int .i64 (S0.s 1),.int .i64 (S0.s 2),.int .i64 (S0.s 3),.slice (some ⟨gC,0,none⟩) 384 cC,.slice (some ⟨gE,0,none⟩) 32 cE,.slice (some ⟨gI,0,none⟩) 40 cI,.int .i64 (S0.g 0),.int .i64 (S0.g 1),.int .i64 (S0.g 2),.int .i64 (S0.g 3)] 1 (by rw [uh hTs];exact Nat.le_refl _) (by decide) rfl
   rw [uh hTs] at h
   exact h
  ·have hk0:k=0:=by
    have:=(List.getElem?_eq_some_iff.1 hk).1
    simpa using this
   subst hk0
   simp at hk
   subst hk
   exact ⟨S0,gC,gE,gI,cC,cE,cI,rfl,(uh hLw).hold.lists.on hg3,(uh hLw).cap,uh hGo,(uh hHd).1,by rw [(uh hHd).2];rfl⟩
 go_upto_region 3 with fail
 rw [←hw3,uh hTs]
 clear hw3 hg3 hLw hGo hHd hTs b0 b1 b2 b3 b4 b5 b6 b7 b8 b9 b10 w1 w2
 go_wp2_with fail
 go_loopw [6,7,8,9] (fun v6 v7 v8 v9 wr=>∃(i:Nat) (S:Cr.W) (gC gE gI cC cE cI:Nat) (L:List (List Value)),i≤30∧v7=.int .i64 (i:Int)∧Hid (L.length=i+1∧i≤len)∧Hid (Sn.Tale w wr T gC gE gI cC cE cI S v6 seed L)) (fun _ v7 _ _ _=>60 - (intOf v7).toNat)
 case atStart=>exact ⟨0,S0,gC,gE,gI,cC,cE,cI,[(Gd.world S0.s gC gE gI cC cE cI S0.g).toList],by omega,rfl,⟨rfl,Nat.zero_le _⟩,hT0⟩
 case round =>
  clear hT0
  obtain ⟨i,S,gC,gE,gI,cC,cE,cI,L,hi30,rfl,hLl,hX⟩:=hrel
  have hgr:=hide (uh hX).law.grown
  by_cases hlen:i<len
  case neg =>
   have hge:¬(i:Int)<(len:Int):=by omega
   have hf:Hid (Sn.TellsL w seed len (.returned u6) wr):=⟨u6,T+1,L,rfl,by have:=(uh hX).law.lT;omega,by have:=uh hLl;omega,(uh hX).book,uh hgr⟩
   clear hX
   go_wp2
   go_ret
   exact uh hf
  by_cases hlt:i<30
  case neg =>
   have hge:¬(i:Int)<30:=by omega
   have hlen':(i:Int)<(len:Int):=by omega
   have hf:Hid (Sn.TellsL w seed len (.returned u6) wr):=⟨u6,T+1,L,rfl,by have:=(uh hX).law.lT;omega,by have:=uh hLl;omega,(uh hX).book,uh hgr⟩
   clear hX
   go_wp2
   go_ret
   exact uh hf
  have hlt':(i:Int)<30:=by omega
  have hlen':(i:Int)<(len:Int):=by omega
  have HL:=hide hlt
  have HLEN:=hide hlen
  clear hlt hlen hi30
  go_upto_region 7 with fail
  obtain ⟨wd,hwd⟩:∃wd,wd=wr.alloc (.cells (Cr.acts (fun _=>0) (fun _=>0) (fun _=>false)) 63):=⟨_,rfl⟩
  have hgd:wr.grownBy wd none:=by rw [hwd];exact World.grownBy_alloc _ _ _
  have hA0:Hid (Lie wd wr.heap.size 63 12 (Cr.actF (fun _=>0) (fun _=>0) (fun _=>false))):=by
   show Lie wd _ _ _ _
   rw [hwd]
   exact Cr.acts_lie (heap_alloc_new wr _)
  have hX1:=hide ((uh hX).on hgd)
  have lA:Hid (w.heap.size≤wr.heap.size):=(uh hgr).size
  unfold Cr.acts at hwd
  rw [←hwd]
  obtain ⟨A,hAe⟩:∃A,wr.heap.size=A:=⟨_,rfl⟩
  rw [hAe] at hA0 lA ⊢
  clear hwd hgd hX hAe hgr
  obtain ⟨b,o,rfl,hbb,hcel,hmx,hzz⟩:=(uh hC').2 i (uh HLEN)
  obtain ⟨ra,rn,rk,hV⟩:∃ra rn rk,V i=(ra,rn,rk):=⟨_,_,_,rfl⟩
  rw [hV] at hcel hzz hmx
  dsimp only at hcel hzz hmx
  have hrow:Hid (∀x,w.grownBy x none→x.cell? ⟨b,o+i,none⟩=some (.slice ra rn rk)):=fun x hx=>(gce hx b _ hbb (by simp)).trans hcel
  have hnum:Hid (Cr.Nums w ra rn (z i)):=hzz
  have hmx':=hide hmx
  generalize z i=zi at hnum
  clear hV hbb hcel hmx hzz
  clear wr
  go_upto_block 2 with fail
  go_cut [9] from 24 to 66 (fun v9 wx=>∃how inp sp,Hid (Sn.Tale w wx T gC gE gI cC cE cI S u6 seed L∧Lie wx A 63 12 (Cr.actF how inp sp)))
  case first =>
   go_wp2_with fail
   go_loopw [9] (fun v9 wr=>∃(t:Nat) (how inp:Nat→Int) (sp:Nat→Bool),t≤4∧v9=.int .i64 (t:Int)∧Hid (Sn.Tale w wr T gC gE gI cC cE cI S u6 seed L∧Lie wr A 63 12 (Cr.actF how inp sp))) (fun v9 _=>10 - (intOf v9).toNat)
   case atStart=>exact ⟨0,_,_,_,by omega,rfl,uh hX1,uh hA0⟩
   case round =>
    clear hX1 hA0
    obtain ⟨t,how,inp,sp,ht,rfl,hX⟩:=hrel
    have r0:=uh hrow wr (uh hX).1.law.grown
    by_cases ht4:t<4
    case pos =>
     have ht4':(t:Int)<4:=by omega
     by_cases htn:t<rn
     case pos =>
      have htn':(t:Int)<(rn:Int):=by omega
      have TL:=hide ht4
      obtain ⟨rb,ro,rfl,hrb,hru,u1,u2⟩:=uh hnum t htn
      obtain ⟨u,hue⟩:∃u,zi t=u:=⟨_,rfl⟩
      rw [hue] at hru u1 u2
      have hm2:(rn:Int)≤9223372036854775807:=by have:=uh hmx';unfold maxLen at this;omega
      have t1:=Cr.quo_wrap u1 u2 (n:=3) (by omega)
      have t2:=Cr.quo_wrap u1 u2 (n:=33) (by omega)
      have c1:=hide (fun x=>within11_any u 3 x (by omega) (by omega))
      have c2:=hide (fun x=>within11_any (u.tdiv 3) 11 x (by omega) (by omega))
      have c3:=hide (fun x=>within11_any (u.tdiv 33) 3 x (by omega) (by omega))
      have hks:Hid (∀x,w.grownBy x none→x.cell? ⟨b,o+i,none⟩=some (.slice (some ⟨rb,ro,none⟩) rn rk)∧x.cell? ⟨rb,ro+t,none⟩=some (.int .i64 u)):=fun x hx=>⟨uh hrow x hx,(gce hx rb _ hrb (by simp)).trans hru⟩
      have hS0:=uh hks wr.drew (gd1 (uh hX).1.law.grown)
      have hXd:=hide (And.intro ((uh hX).1.on (gd1 (World.grownBy.refl wr none))) ((uh hX).2.on (gd1 (World.grownBy.refl wr none))))
      have fA:=(uh hX).2.free
      have z0:=(uh hX).2.cell (c:=t*3) (by omega)
      have z1:=(uh hX).2.cell (c:=t*3+1) (by omega)
      have z2:=(uh hX).2.cell (c:=t*3+2) (by omega)
      have hX2:Hid (Sn.Tale w (((wr.drew.setCell ⟨A,t*3,none⟩ (.int .i64 (u % 3))).setCell ⟨A,t*3+1,none⟩ (.int .i64 (u.tdiv 3 % 11))).setCell ⟨A,t*3+2,none⟩ (.bool (u.tdiv 33 % 3 == 0))) T gC gE gI cC cE cI S u6 seed L∧Lie (((wr.drew.setCell ⟨A,t*3,none⟩ (.int .i64 (u % 3))).setCell ⟨A,t*3+1,none⟩ (.int .i64 (u.tdiv 3 % 11))).setCell ⟨A,t*3+2,none⟩ (.bool (u.tdiv 33 % 3 == 0))) A 63 12 (Cr.actF (fun k=>if k=t then u % 3 else how k) (fun k=>if k=t then u.tdiv 3 % 11 else inp k) (fun k=>if k=t then u.tdiv 33 % 3 == 0 else sp k))):=⟨(uh hXd).1.aside (uh hXd).2 (uh lA) _ _ _ _ _ _,Cr.acts_put (uh hXd).2 _ _ _⟩
      clear ht htn ht4 hrb hru u1 u2 hue
      go_upto_region 10 with fail
      clear hX r0 hXd
      refine wp_region_till (h:=30) (S:=fun x=>x.cell? ⟨b,o+i,none⟩=some (.slice (some ⟨rb,ro,none⟩) rn rk)∧x.cell? ⟨rb,ro+t,none⟩=some (.int .i64 u)) (by kernel_rfl) ?_
      refine wtk (i:=0) (v:=?_) [30] rfl (by kernel_rfl) (by kernel_rfl) (by kernel_rfl) (by kernel_rfl) (fun _ _ _ h=>h) hS0 (Or.inl ⟨by rfl,?_⟩) ?_
      rotate_left
      ·intro x hSx
       try dsimp only at hSx
       go_simp
       try with_reducible rfl
      simp only [Act.put]
      refine wtk (i:=1) (v:=?_) [30] rfl (by kernel_rfl) (by kernel_rfl) (by kernel_rfl) (by kernel_rfl) (fun _ _ _ h=>h) hS0 (Or.inl ⟨by rfl,?_⟩) ?_
      rotate_left
      ·intro x hSx
       try dsimp only at hSx
       go_simp
       try with_reducible rfl
      simp only [Act.put]
      refine wtk (i:=2) (v:=?_) [30] rfl (by kernel_rfl) (by kernel_rfl) (by kernel_rfl) (by kernel_rfl) (fun _ _ _ h=>h) hS0 (Or.inl ⟨by rfl,?_⟩) ?_
      rotate_left
      ·intro x hSx
       try dsimp only at hSx
       go_simp
       try with_reducible rfl
      simp only [Act.put]
      refine wtk (i:=3) (v:=?_) [30] rfl (by kernel_rfl) (by kernel_rfl) (by kernel_rfl) (by kernel_rfl) (fun _ _ _ h=>h) hS0 (Or.inl ⟨by rfl,?_⟩) ?_
      rotate_left
      ·intro x hSx
       try dsimp only at hSx
       go_simp
       try with_reducible rfl
      simp only [Act.put]
      refine wtk (i:=4) (v:=?_) [30] rfl (by kernel_rfl) (by kernel_rfl) (by kernel_rfl) (by kernel_rfl) (fun _ _ _ h=>h) hS0 (Or.inl ⟨by rfl,?_⟩) ?_
      rotate_left
      ·intro x hSx
       try dsimp only at hSx
       go_simp
       try with_reducible rfl
      simp only [Act.put]
      refine wtk (i:=5) (v:=?_) [30] rfl (by kernel_rfl) (by kernel_rfl) (by kernel_rfl) (by kernel_rfl) (fun _ _ _ h=>h) hS0 (Or.inl ⟨by rfl,?_⟩) ?_
      rotate_left
      ·intro x hSx
       try dsimp only at hSx
       go_simp
       try with_reducible rfl
      simp only [Act.put]
      refine wtk (i:=6) (v:=?_) [30] rfl (by kernel_rfl) (by kernel_rfl) (by kernel_rfl) (by kernel_rfl) (fun _ _ _ h=>h) hS0 (Or.inl ⟨by rfl,?_⟩) ?_
      rotate_left
      ·intro x hSx
       try dsimp only at hSx
       go_simp
       try with_reducible rfl
      simp only [Act.put]
      refine wtk (i:=7) (v:=?_) [30] rfl (by kernel_rfl) (by kernel_rfl) (by kernel_rfl) (by kernel_rfl) (fun _ _ _ h=>h) hS0 (Or.inl ⟨by rfl,?_⟩) ?_
      rotate_left
      ·intro x hSx
       try dsimp only at hSx
       go_simp
       try with_reducible rfl
      simp only [Act.put]
      refine wtk (i:=9) (v:=?_) [30] rfl (by kernel_rfl) (by kernel_rfl) (by kernel_rfl) (by kernel_rfl) (fun _ _ _ h=>h) hS0 (Or.inl ⟨by rfl,?_⟩) ?_
      rotate_left
      ·intro x hSx
       try dsimp only at hSx
       go_simp
       try with_reducible rfl
      simp only [Act.put]
      refine wtk (i:=10) (v:=?_) [30] rfl (by kernel_rfl) (by kernel_rfl) (by kernel_rfl) (by kernel_rfl) (fun _ _ _ h=>h) hS0 (Or.inl ⟨by rfl,?_⟩) ?_
      rotate_left
      ·intro x hSx
       try dsimp only at hSx
       go_simp
       try with_reducible rfl
      simp only [Act.put]
      refine wtk (i:=11) (v:=?_) [30] rfl (by kernel_rfl) (by kernel_rfl) (by kernel_rfl) (by kernel_rfl) (fun _ _ _ h=>h) hS0 (Or.inl ⟨by rfl,?_⟩) ?_
      rotate_left
      ·intro x hSx
       try dsimp only at hSx
       go_simp
       try with_reducible rfl
      simp only [Act.put]
      refine wtk (i:=12) (v:=?_) [30] rfl (by kernel_rfl) (by kernel_rfl) (by kernel_rfl) (by kernel_rfl) (fun _ _ _ h=>h) hS0 (Or.inl ⟨by rfl,?_⟩) ?_
      rotate_left
      ·intro x hSx
       try dsimp only at hSx
       go_simp
       try with_reducible rfl
      simp only [Act.put]
      refine wtk (i:=13) (v:=?_) [30] rfl (by kernel_rfl) (by kernel_rfl) (by kernel_rfl) (by kernel_rfl) (fun _ _ _ h=>h) hS0 (Or.inl ⟨by rfl,?_⟩) ?_
      rotate_left
      ·intro x hSx
       try dsimp only at hSx
       go_simp
       try with_reducible rfl
      simp only [Act.put]
      refine wtk (i:=14) (v:=?_) [30] rfl (by kernel_rfl) (by kernel_rfl) (by kernel_rfl) (by kernel_rfl) (fun _ _ _ h=>h) hS0 (Or.inl ⟨by rfl,?_⟩) ?_
      rotate_left
      ·intro x hSx
       try dsimp only at hSx
       go_simp
       try with_reducible rfl
      simp only [Act.put]
      refine wtk (i:=15) (v:=?_) [30] rfl (by kernel_rfl) (by kernel_rfl) (by kernel_rfl) (by kernel_rfl) (fun _ _ _ h=>h) hS0 (Or.inl ⟨by rfl,?_⟩) ?_
      rotate_left
      ·intro x hSx
       try dsimp only at hSx
       go_simp
       try with_reducible rfl
      simp only [Act.put]
      refine wtk (i:=16) (v:=?_) [30] rfl (by kernel_rfl) (by kernel_rfl) (by kernel_rfl) (by kernel_rfl) (fun _ _ _ h=>h) hS0 (Or.inl ⟨by rfl,?_⟩) ?_
      rotate_left
      ·intro x hSx
       try dsimp only at hSx
       go_simp
       try with_reducible rfl
      simp only [Act.put]
      refine wtk (i:=18) (v:=?_) [30] rfl (by kernel_rfl) (by kernel_rfl) (by kernel_rfl) (by kernel_rfl) (fun _ _ _ h=>h) hS0 (Or.inl ⟨by rfl,?_⟩) ?_
      rotate_left
      ·intro x hSx
       try dsimp only at hSx
       go_simp
       try with_reducible rfl
      simp only [Act.put]
      refine wtk (i:=19) (v:=?_) [30] rfl (by kernel_rfl) (by kernel_rfl) (by kernel_rfl) (by kernel_rfl) (fun _ _ _ h=>h) hS0 (Or.inl ⟨by rfl,?_⟩) ?_
      rotate_left
      ·intro x hSx
       try dsimp only at hSx
       go_simp
       try with_reducible rfl
      simp only [Act.put]
      refine wtk (i:=20) (v:=?_) [30] rfl (by kernel_rfl) (by kernel_rfl) (by kernel_rfl) (by kernel_rfl) (fun _ _ _ h=>h) hS0 (Or.inl ⟨by rfl,?_⟩) ?_
      rotate_left
      ·intro x hSx
       try dsimp only at hSx
       go_simp
       try with_reducible rfl
      simp only [Act.put]
      refine wtk (i:=21) (v:=?_) [30] rfl (by kernel_rfl) (by kernel_rfl) (by kernel_rfl) (by kernel_rfl) (fun _ _ _ h=>h) hS0 (Or.inl ⟨by rfl,?_⟩) ?_
      rotate_left
      ·intro x hSx
       try dsimp only at hSx
       go_simp
       try with_reducible rfl
      simp only [Act.put]
      refine wtk (i:=22) (v:=?_) [30] rfl (by kernel_rfl) (by kernel_rfl) (by kernel_rfl) (by kernel_rfl) (fun _ _ _ h=>h) hS0 (Or.inl ⟨by rfl,?_⟩) ?_
      rotate_left
      ·intro x hSx
       try dsimp only at hSx
       go_simp
       try with_reducible rfl
      simp only [Act.put]
      refine wtk (i:=23) (v:=?_) [30] rfl (by kernel_rfl) (by kernel_rfl) (by kernel_rfl) (by kernel_rfl) (fun _ _ _ h=>h) hS0 (Or.inl ⟨by rfl,?_⟩) ?_
      rotate_left
      ·intro x hSx
       try dsimp only at hSx
       go_simp
       try with_reducible rfl
      simp only [Act.put]
      refine wtk (i:=24) (v:=?_) [30] rfl (by kernel_rfl) (by kernel_rfl) (by kernel_rfl) (by kernel_rfl) (fun _ _ _ h=>h) hS0 (Or.inl ⟨by rfl,?_⟩) ?_
      rotate_left
      ·intro x hSx
       try dsimp only at hSx
       go_simp
       try with_reducible rfl
      simp only [Act.put]
      refine wtk (i:=25) (v:=?_) [30] rfl (by kernel_rfl) (by kernel_rfl) (by kernel_rfl) (by kernel_rfl) (fun _ _ _ h=>h) hS0 (Or.inl ⟨by rfl,?_⟩) ?_
      rotate_left
      ·intro x hSx
       try dsimp only at hSx
       go_simp
       try with_reducible rfl
      simp only [Act.put]
      refine wto (j:=8) (by kernel_rfl) rfl (fun K hK=>?_)
      go_simp
      refine (uh c1 _).mono ?_
      rintro e0 wq ⟨rfl,hy⟩
      subst wq
      try go_simp
      refine hK.out _ _ (fun _=>hS0) ?_
      clear hK K
      refine wto (j:=17) (by kernel_rfl) rfl (fun K hK=>?_)
      go_simp
      refine (uh c2 _).mono ?_
      rintro e0 wq ⟨rfl,hy⟩
      subst wq
      try go_simp
      refine hK.out _ _ (fun _=>hS0) ?_
      clear hK K
      refine wto (j:=26) (by kernel_rfl) rfl (fun K hK=>?_)
      go_simp
      refine (uh c3 _).mono ?_
      rintro e0 wq ⟨rfl,hy⟩
      subst wq
      try go_simp
      refine hK.out _ _ (fun _=>hS0) ?_
      clear hK K
      refine wtk (i:=27) (v:=?_) [30] rfl (by kernel_rfl) (by kernel_rfl) (by kernel_rfl) (by kernel_rfl) (fun _ _ _ h=>h) hS0 (Or.inl ⟨by rfl,?_⟩) ?_
      rotate_left
      ·intro x hSx
       try dsimp only at hSx
       go_simp
       try with_reducible rfl
      simp only [Act.put]
      refine wtk (i:=28) (v:=?_) [30] rfl (by kernel_rfl) (by kernel_rfl) (by kernel_rfl) (by kernel_rfl) (fun _ _ _ h=>h) hS0 (Or.inl ⟨by rfl,?_⟩) ?_
      rotate_left
      ·intro x hSx
       try dsimp only at hSx
       go_simp
       try with_reducible rfl
      simp only [Act.put]
      refine wtk (i:=29) (v:=?_) [30] rfl (by kernel_rfl) (by kernel_rfl) (by kernel_rfl) (by kernel_rfl) (fun _ _ _ h=>h) hS0 (Or.inl ⟨by rfl,?_⟩) ?_
      rotate_left
      ·intro x hSx
       try dsimp only at hSx
       go_simp
       try with_reducible rfl
      simp only [Act.put]
      refine wto (j:=30) (by kernel_rfl) rfl (fun K hK=>?_)
      go_simp
      refine hK.out _ _ (fun hx=>absurd (hx.symm.trans (by kernel_rfl)) Bool.false_ne_true) ?_
      clear hK K
      refine wpTill_done (by kernel_rfl) ?_ _
      go_wp2
      go_roundw
      case rel=>exact ⟨t+1,_,_,_,by have:=uh TL;omega,by go_num,hX2⟩
      case measure=>simp [intOf];have:=uh TL;omega
     case neg =>
      have htn':¬(t:Int)<(rn:Int):=by omega
      clear ht ht4 htn
      go_wp2
      go_meet
      exact ⟨_,_,_,hX⟩
    case neg =>
     have ht4':¬(t:Int)<4:=by omega
     clear ht ht4
     go_wp2
     go_meet
     exact ⟨_,_,_,hX⟩
  case rest =>
  obtain ⟨how,inp,sp,hX⟩:=hcut
  clear hX1 hA0 hrow hnum hmx'
  obtain ⟨b0,b1,b2,b3,b4,b5,b6,b7,b8,b9,b10⟩:=(uh hX).1.law.eleven
  obtain ⟨x0,x1,x2,x3,x4,x5,x6,x7,x8,x9,x10,x11⟩:=Cr.acts_cells (uh hX).2
  have cs:=hide (refStep_any S.s S.g S.c S.E S.I gC gE gI cC cE cI how inp sp wc (uh hX).1.law.hold.lists (uh hX).1.good (by have:=(uh hX).1.s1;omega) (by have:=(uh hX).1.s1;have:=uh hLl;have:=uh HL;omega))
  unfold Gd.world at cs
  go_wp2_with fail
  refine (uh cs).mono ?_
  rintro e wu ⟨U,hU,aC,aE,aI,bC,bE,bI,rfl,hcap,l1,l2,l3,n1,n2,n3,hL,hg⟩
  have hX2:Hid (Gd.Law w (((((((((((wu.setCell ⟨T,0,none⟩ (.int .i64 (U.s 0))).setCell ⟨T,1,none⟩ (.int .i64 (U.s 1))).setCell ⟨T,2,none⟩ (.int .i64 (U.s 2))).setCell ⟨T,3,none⟩ (.int .i64 (U.s 3))).setCell ⟨T,4,none⟩ (.slice (some ⟨aC,0,none⟩) 384 bC)).setCell ⟨T,5,none⟩ (.slice (some ⟨aE,0,none⟩) 32 bE)).setCell ⟨T,6,none⟩ (.slice (some ⟨aI,0,none⟩) 40 bI)).setCell ⟨T,7,none⟩ (.int .i64 (U.g 0))).setCell ⟨T,8,none⟩ (.int .i64 (U.g 1))).setCell ⟨T,9,none⟩ (.int .i64 (U.g 2))).setCell ⟨T,10,none⟩ (.int .i64 (U.g 3))) T aC aE aI bC bE bI U.s U.g U.c U.E U.I∧Sn.Book w (((((((((((wu.setCell ⟨T,0,none⟩ (.int .i64 (U.s 0))).setCell ⟨T,1,none⟩ (.int .i64 (U.s 1))).setCell ⟨T,2,none⟩ (.int .i64 (U.s 2))).setCell ⟨T,3,none⟩ (.int .i64 (U.s 3))).setCell ⟨T,4,none⟩ (.slice (some ⟨aC,0,none⟩) 384 bC)).setCell ⟨T,5,none⟩ (.slice (some ⟨aE,0,none⟩) 32 bE)).setCell ⟨T,6,none⟩ (.slice (some ⟨aI,0,none⟩) 40 bI)).setCell ⟨T,7,none⟩ (.int .i64 (U.g 0))).setCell ⟨T,8,none⟩ (.int .i64 (U.g 1))).setCell ⟨T,9,none⟩ (.int .i64 (U.g 2))).setCell ⟨T,10,none⟩ (.int .i64 (U.g 3))) (T+1) u6 seed L):=⟨(uh hX).1.law.over hcap l1 l2 l3 n1 n2 n3 hL hg,((uh hX).1.book.on hg).over ((uh hX).1.law.hold.box.on hg) (by omega) (Gd.world U.s aC aE aI bC bE bI U.g).toList⟩
  have hGU:=hide (hU.good (uh hX).1.good)
  have hss:Hid (S.s 0=seed∧S.s 1+1=(L.length:Int)):=⟨(uh hX).1.s0,(uh hX).1.s1⟩
  have fT:=((uh hX).1.law.hold.box.on hg).free
  obtain ⟨y0,y1,y2,y3,y4,y5,y6,y7,y8,y9,y10⟩:=((uh hX).1.law.hold.box.on hg).eleven
  clear hcap l1 l2 l3 n1 n2 n3 hL hg cs b0 b1 b2 b3 b4 b5 b6 b7 b8 b9 b10 x0 x1 x2 x3 x4 x5 x6 x7 x8 x9 x10 x11 hX hU
  unfold Gd.world
  go_upto_region 12 with fail
  generalize (((((((((((wu.setCell ⟨T,0,none⟩ (.int .i64 (U.s 0))).setCell ⟨T,1,none⟩ (.int .i64 (U.s 1))).setCell ⟨T,2,none⟩ (.int .i64 (U.s 2))).setCell ⟨T,3,none⟩ (.int .i64 (U.s 3))).setCell ⟨T,4,none⟩ (.slice (some ⟨aC,0,none⟩) 384 bC)).setCell ⟨T,5,none⟩ (.slice (some ⟨aE,0,none⟩) 32 bE)).setCell ⟨T,6,none⟩ (.slice (some ⟨aI,0,none⟩) 40 bI)).setCell ⟨T,7,none⟩ (.int .i64 (U.g 0))).setCell ⟨T,8,none⟩ (.int .i64 (U.g 1))).setCell ⟨T,9,none⟩ (.int .i64 (U.g 2))).setCell ⟨T,10,none⟩ (.int .i64 (U.g 3)))=wg at hX2 ⊢
  clear y0 y1 y2 y3 y4 y5 y6 y7 y8 y9 y10 fT wu wc
  obtain ⟨b0,b1,b2,b3,b4,b5,b6,b7,b8,b9,b10⟩:=(uh hX2).1.eleven
  go_wp2_with (at_builtin;refine wpList_append_own _ rfl _ _ 35 rfl (T+1) 30 i0 (.agg #[.int .i64 0,.int .i64 0,.int .i64 0,.int .i64 0,.slice none 0 0,.slice none 0 0,.slice none 0 0,.int .i64 0,.int .i64 0,.int .i64 0,.int .i64 0]) 11 136 Tryz.underlying35 hi hz0 hz1 hz2 rfl (by decide) _ _ _ rfl ((uh hX2).2.own.alloc _) ⟨wg.heap.size,0,none⟩ 1 1 (#[.int .i64 (U.s 0),.int .i64 (U.s 1),.int .i64 (U.s 2),.int .i64 (U.s 3),.slice (some ⟨aC,0,none⟩) 384 bC,.slice (some ⟨aE,0,none⟩) 32 bE,.slice (some ⟨aI,0,none⟩) 40 bI,.int .i64 (U.g 0),.int .i64 (U.g 1),.int .i64 (U.g 2),.int .i64 (U.g 3)]:Array Value).toList rfl rfl (Sn.news wg _ _ _ rfl) ?_ ?_ ?_ ?_ ?_)
  ·exact ⟨rfl,rfl,rfl,rfl,rfl,rfl,rfl,rfl,rfl,rfl,rfl⟩
  ·have:=uh hLl;have:=uh HL;unfold maxLen;omega
  ·have:=uh hLl;have:=uh HL;omega
  ·have:=(uh hX2).1.hold.box.lt;simp;omega
  intro v8 w8 hown hgrow _
  have hX3:Hid (Sn.Tale w w8 T aC aE aI bC bE bI U v8 seed (L ++ [(Gd.world U.s aC aE aI bC bE bI U.g).toList])):=by
   have hs:=uh hss
   have hG:=uh hGU
   refine ⟨Sn.law_grown ((uh hX2).1.on (World.grownBy_alloc _ _ _)) ((uh hX2).2.own.alloc _) hgrow,(uh hX2).2.more (World.grownBy_alloc _ _ _) ⟨U,aC,aE,aI,bC,bE,bI,rfl,(uh hX2).1.hold.lists,(uh hX2).1.cap,hG.1,hG.2.1.trans hs.1,by rw [hG.2.2.1];exact hs.2⟩ hown hgrow,hG.1,hG.2.1.trans hs.1,?_⟩
   rw [List.length_append,hG.2.2.1]
   simp
   have:=hs.2
   omega
  have hL3:Hid ((L ++ [(Gd.world U.s aC aE aI bC bE bI U.g).toList]).length=i+1+1∧i+1≤len):=by
   refine ⟨?_,uh HLEN⟩
   rw [List.length_append,(uh hLl).1]
   rfl
  clear hown hgrow hX2 b0 b1 b2 b3 b4 b5 b6 b7 b8 b9 b10 hss hGU
  go_wp2
  go_roundw
  case rel=>exact ⟨i+1,U,aC,aE,aI,bC,bE,bI,_,by have:=uh HL;omega,by go_num,hL3,hX3⟩
  case measure=>simp [intOf];have:=uh HL;omega

theorem story_any (seed:Int) (a:Option Addr) (len cap:Nat) (V:Nat→Option Addr × Nat × Nat) (z:Nat→Nat→Int) (w:World) (hC:Cr.Came w a len V z) :
  Calls Tryz.prog 8 #[.int .i64 seed,.slice a len cap] w (Sn.Tells11 w seed) :=
 (story_len seed a len cap V z w hC).mono fun e w' ⟨v,base,L,h1,h2,h3,h4,h5⟩=>⟨v,base,L,h1,h2,by omega,by omega,h4,h5⟩


open Go.RowKit

theorem Sn.sameW_yes (s g c:Nat→Int) (E I:Nat→Nat→Int):Sn.sameW s s g g c c E E I I=true:=by
 unfold Sn.sameW
 rw [(Sn.sameH_iff s s g g).2 ⟨fun _ _=>rfl,fun _ _=>rfl⟩,Sn.allB_yes (fun k _=>by simp),Sn.allB_yes (fun k _=>(Sn.sameE_iff _ _).2 fun _ _=>rfl),Sn.allB_yes (fun k _=>(Sn.sameI_iff _ _).2 fun _ _=>rfl)]
 rfl

theorem Sn.flat_at {m:Nat}:∀(L:List (List Value)),(∀cs∈L,cs.length=m)→∀(k j:Nat) (cs:List Value),L[k]?=some cs→j<m→L.flatten[k*m+j]?=cs[j]?
 | [],_,k,j,cs,h,_=>by simp at h
 | a :: L,hL,k,j,cs,h,hj=>by
  have ha:a.length=m:=hL a (by simp)
  cases k with
  | zero =>
   simp at h
   subst h
   rw [Nat.zero_mul,Nat.zero_add,List.flatten_cons,List.getElem?_append_left (by omega)]
  | succ k =>
   have h':L[k]?=some cs:=by simpa using h
   rw [List.flatten_cons,List.getElem?_append_right (by rw [ha,Nat.succ_mul];omega),show (k+1)*m+j - a.length=k*m+j by rw [ha,Nat.succ_mul];omega]
   exact Sn.flat_at L (fun c hc=>hL c (by simp [hc])) k j cs h' hj

theorem Sn.Book.at {w x:World} {base:Nat} {v:Value} {seed:Int} {L:List (List Value)} (h:Sn.Book w x base v seed L) {k:Nat} (hk:k<L.length) :
  ∃q cap,v=.slice (some ⟨q,0,none⟩) L.length cap∧base≤q∧L.length≤cap∧∃(S:Cr.W) (gC gE gI cC cE cI:Nat),(∀j,j<11→x.cell? ⟨q,k*11+j,none⟩=some (Gd.box S.s gC gE gI cC cE cI S.g j))∧Gd.Lists x gC gE gI S.c S.E S.I∧32≤cE∧Cr.Good S∧S.s 0=seed∧S.s 1=(k:Int):=by
 obtain ⟨hlen,hv⟩:=h.own
 rcases hv with ⟨-,h0⟩ | ⟨q,cap,cur,rfl,hb,hq,hcap,hm,hs,ht⟩
 ·omega
 obtain ⟨cs,hcs⟩:∃cs,L[k]?=some cs:=⟨_,List.getElem?_eq_getElem hk⟩
 have hp:=h.page k cs hcs
 obtain ⟨S,gC,gE,gI,cC,cE,cI,rfl,hL,h1,h2,h3,h4⟩:=hp
 refine ⟨q,cap,rfl,hb,hcap,S,gC,gE,gI,cC,cE,cI,fun j hj=>?_,hL,h1,h2,h3,h4⟩
 have hall:∀cs∈L,cs.length=11:=fun cs hc=>by
  obtain ⟨i,hi⟩:=List.getElem?_of_mem hc
  exact (h.page i cs hi).len
 have hf:=Sn.flat_at L hall k j _ hcs hj
 have he:(Gd.world S.s gC gE gI cC cE cI S.g).toList[j]?=some (Gd.box S.s gC gE gI cC cE cI S.g j):=by
  rcases (show j=0∨j=1∨j=2∨j=3∨j=4∨j=5∨j=6∨j=7∨j=8∨j=9∨j=10 by omega) with rfl | rfl | rfl | rfl | rfl | rfl | rfl | rfl | rfl | rfl | rfl <;> rfl
 rw [he] at hf
 have:=h.own.cells (g:=q) rfl (k*11+j) _ hf
 rwa [Go.WideShapes.add_plain,Nat.zero_add] at this

end Go.Proofs.YtldgbkjceildfaaGreat
