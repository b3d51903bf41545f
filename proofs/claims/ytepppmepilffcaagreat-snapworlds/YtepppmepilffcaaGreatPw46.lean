import Derived.Test.YtepppmepilffcaaGreatPw33
import Derived.Test.YtepppmepilffcaaGreatPw45
import Derived.Test.YtepppmepilffcaaGreatPw32
namespace Go.Proofs.YtepppmepilffcaaGreat
open Go.RowKit

set_option maxHeartbeats 400000 in
theorem within11_any (a n:Int) (w:World) (hn:0<n) (hn2:n≤4611686018427387904) :
  Calls Tryz.prog 19 #[.int .i64 a,.int .i64 n] w fun e w'=>e=.returned (.int .i64 (a % n))∧w'=w:=by
 have t1:=Int.tmod_lt_of_pos a (b:=n) hn
 have t2:=Int.lt_tmod_of_pos a (b:=n) hn
 have hn0:(n == 0)=false:=by simp;omega
 by_cases h:a.tmod n<0
 ·have ha:¬0≤a:=by
   intro h0
   have:=Int.tmod_nonneg n h0
   omega
  have hd:=hide (Gr.within_neg a n hn h)
  go_enter Tryz.func19,Tryz.ntmps19
  go_wp2
  go_ret
  exact ⟨rti (uh hd),rfl⟩
 ·have hd:=hide (Gr.within_pos a n hn h)
  by_cases ha:0≤a
  ·have e:a.tmod n=a % n:=Int.tmod_eq_emod_of_nonneg ha
   have h':¬a % n<0:=by rw [←e];exact h
   clear h t1 t2 e
   go_enter Tryz.func19,Tryz.ntmps19
   go_wp2
   go_ret
   exact ⟨rfl,rfl⟩
  ·go_enter Tryz.func19,Tryz.ntmps19
   go_wp2
   go_ret
   exact ⟨rti (uh hd),rfl⟩

def Sn.Page (x:World) (seed:Int) (k:Nat) (cs:List Value):Prop :=
 ∃(S:Cr.W) (gC gE gI cC cE cI:Nat),cs=(Gd.world S.s gC gE gI cC cE cI S.g).toList∧Gd.Lists x gC gE gI S.c S.E S.I∧32≤cE∧Cr.Good S∧S.s 0=seed∧S.s 1=(k:Int)

theorem Sn.Page.len {x:World} {seed:Int} {k:Nat} {cs:List Value} (h:Sn.Page x seed k cs):cs.length=11:=by
 obtain ⟨S,gC,gE,gI,cC,cE,cI,rfl,_⟩:=h
 rfl

theorem Sn.Page.grown {x y:World} {seed:Int} {k:Nat} {cs:List Value} {r:Option Nat} (h:Sn.Page x seed k cs) (hg:x.grownBy y r) (hr:∀n,r=some n→∃m F,Lie x n 31 m F):Sn.Page y seed k cs:=by
 obtain ⟨S,gC,gE,gI,cC,cE,cI,hc,hL,h1,h2,h3,h4⟩:=h
 have key:∀(G:Nat) (T:TypeId) (m:Nat) (F:Nat→Value),T≠31→Lie x G T m F→r≠some G:=fun G T m F hT hl e=>by
  obtain ⟨m',F',hw⟩:=hr G e
  exact hl.type_ne hw hT rfl
 exact ⟨S,gC,gE,gI,cC,cE,cI,hc,⟨hL.cells.grown hg (key _ _ _ _ (by decide) hL.cells),hL.ents.grown hg (key _ _ _ _ (by decide) hL.ents),hL.items.grown hg (key _ _ _ _ (by decide) hL.items)⟩,h1,h2,h3,h4⟩

structure Sn.Book (w x:World) (base:Nat) (v:Value) (seed:Int) (L:List (List Value)):Prop where
 own:x.ownsRow base 31 11 v L.length L.flatten
 page:∀(k:Nat) (cs:List Value),L[k]?=some cs→Sn.Page x seed k cs

theorem Sn.own_lie {x:World} {base n:Nat} {v:Value} {xs:List Value} (h:x.ownsRow base 31 11 v n xs):∀k,v.ownBlock=some k→∃m F,Lie x k 31 m F:=by
 intro k hk
 rcases h.2 with ⟨rfl,_⟩ | ⟨g,cap,cur,rfl,_,hg,_⟩
 ·simp [Value.ownBlock] at hk
 ·simp [Value.ownBlock] at hk
  subst hk
  exact ⟨_,_,(Arr.lit hg).lie⟩

theorem Sn.Book.on {w x y:World} {base:Nat} {v:Value} {seed:Int} {L:List (List Value)} (h:Sn.Book w x base v seed L) (hg:x.grownBy y none):Sn.Book w y base v seed L :=
 ⟨h.own.kept hg (by cases v.ownBlock <;> simp),fun k cs hk=>(h.page k cs hk).grown hg (fun n e=>by cases e)⟩

theorem Sn.Book.over {w x:World} {base T m:Nat} {v:Value} {seed:Int} {L:List (List Value)} {F:Nat→Value} (h:Sn.Book w x base v seed L) (hT:Lie x T 31 m F) (hb:T<base) (vs:List Value):Sn.Book w (x.setCells T 0 vs) base v seed L:=by
 have r:=gss (g:=T) vs 0 x (World.grownBy.refl _ _)
 refine ⟨h.own.kept r ?_,fun k cs hk=>(h.page k cs hk).grown r (fun n e=>by cases e;exact ⟨m,F,hT⟩)⟩
 by_cases e:v.ownBlock=some T
 ·have:=(h.own.lt T e).1
  omega
 ·exact .inr e

theorem Sn.Book.more {w x y x':World} {base:Nat} {v v':Value} {seed:Int} {L:List (List Value)} {cs:List Value} (h:Sn.Book w x base v seed L) (hxy:x.grownBy y none) (hp:Sn.Page x seed L.length cs) (hown:x'.ownsRow base 31 11 v' (L.length+1) (L.flatten ++ cs)) (hg:y.grownBy x' v.ownBlock):Sn.Book w x' base v' seed (L ++ [cs]):=by
 have hy:=h.on hxy
 refine ⟨by rw [List.length_append,List.flatten_append];simpa using hown,fun k c hk=>?_⟩
 by_cases hlt:k<L.length
 ·rw [List.getElem?_append_left hlt] at hk
  exact (hy.page k c hk).grown hg (Sn.own_lie hy.own)
 ·rw [List.getElem?_append_right (by omega)] at hk
  have hk0:k - L.length=0:=by
   have:=(List.getElem?_eq_some_iff.1 hk).1
   simpa using this
  rw [hk0] at hk
  simp at hk
  subst hk
  obtain rfl:k=L.length:=by
   have hl:=hlt
   omega
  exact (hp.grown hxy (fun n e=>by cases e)).grown hg (Sn.own_lie hy.own)

theorem info_world:(Tryz.prog.info? 31).map (fun i=>(i.zero,i.size,i.bytes))=some (some (.agg #[.int .i64 0,.int .i64 0,.int .i64 0,.int .i64 0,.slice none 0 0,.slice none 0 0,.slice none 0 0,.int .i64 0,.int .i64 0,.int .i64 0,.int .i64 0]),11,136):=by kernel_rfl

def Sn.Tells11 (w:World) (seed:Int) (e:Ending) (w':World):Prop:=∃v base L,e=.returned v∧w.heap.size≤base∧0<L.length∧L.length≤31∧Sn.Book w w' base v seed L∧w.grownBy w' none

structure Sn.Tale (w x:World) (T gC gE gI cC cE cI:Nat) (S:Cr.W) (v:Value) (seed:Int) (L:List (List Value)):Prop where
 law:Gd.Law w x T gC gE gI cC cE cI S.s S.g S.c S.E S.I
 book:Sn.Book w x (T+1) v seed L
 good:Cr.Good S
 s0:S.s 0=seed
 s1:S.s 1+1=(L.length:Int)

theorem Sn.Tale.on {w x y:World} {T gC gE gI cC cE cI:Nat} {S:Cr.W} {v:Value} {seed:Int} {L:List (List Value)} (h:Sn.Tale w x T gC gE gI cC cE cI S v seed L) (hg:x.grownBy y none):Sn.Tale w y T gC gE gI cC cE cI S v seed L :=
 ⟨h.law.on hg,h.book.on hg,h.good,h.s0,h.s1⟩

theorem Sn.law_grown {w x y:World} {T gC gE gI cC cE cI n:Nat} {s g c:Nat→Int} {E I:Nat→Nat→Int} {v:Value} {zs:List Value} (h:Gd.Law w x T gC gE gI cC cE cI s g c E I) (ho:x.ownsRow (T+1) 31 11 v n zs) (hg:x.grownBy y v.ownBlock):Gd.Law w y T gC gE gI cC cE cI s g c E I:=by
 have hh:=h.hold
 have hT:v.ownBlock≠some T:=fun e=>by
  have:=(ho.lt T e).1
  omega
 have key:∀(G:Nat) (U:TypeId) (m:Nat) (F:Nat→Value),U≠31→Lie x G U m F→v.ownBlock≠some G:=fun G U m F hU hl e=>by
  obtain ⟨m',F',hw⟩:=Sn.own_lie ho G e
  exact hl.type_ne hw hU rfl
 exact ⟨⟨hh.box.grown hg hT,⟨hh.lists.cells.grown hg (key _ _ _ _ (by decide) hh.lists.cells),hh.lists.ents.grown hg (key _ _ _ _ (by decide) hh.lists.ents),hh.lists.items.grown hg (key _ _ _ _ (by decide) hh.lists.items)⟩,hh.bC,hh.bE,hh.bI,hh.cE,hh.cI,hh.eI⟩,h.lT,h.lE,h.lI,h.cap,gow h.grown hg (fun k e=>by have:=(ho.lt k e).1;have:=h.lT;omega)⟩

theorem Sn.Tale.aside {w x:World} {T A m gC gE gI cC cE cI:Nat} {S:Cr.W} {v:Value} {seed:Int} {L:List (List Value)} {F:Nat→Value} (h:Sn.Tale w x T gC gE gI cC cE cI S v seed L) (hA:Lie x A 56 m F) (lA:w.heap.size≤A) (i j k:Nat) (a b c:Value):Sn.Tale w (((x.setCell ⟨A,i,none⟩ a).setCell ⟨A,j,none⟩ b).setCell ⟨A,k,none⟩ c) T gC gE gI cC cE cI S v seed L:=by
 have key:∀(y:World) (i:Nat) (a:Value),Sn.Tale w y T gC gE gI cC cE cI S v seed L→(∃G,Lie y A 56 m G)→Sn.Tale w (y.setCell ⟨A,i,none⟩ a) T gC gE gI cC cE cI S v seed L∧∃G,Lie (y.setCell ⟨A,i,none⟩ a) A 56 m G:=fun y i a h ⟨G,hG⟩=>by
  have hh:=h.law.hold
  have n0:=hG.type_ne hh.box (by decide)
  have r:=gs0 y A i a
  refine ⟨⟨⟨⟨hh.box.other n0 _ _,⟨hh.lists.cells.other (hG.type_ne hh.lists.cells (by decide)) _ _,hh.lists.ents.other (hG.type_ne hh.lists.ents (by decide)) _ _,hh.lists.items.other (hG.type_ne hh.lists.items (by decide)) _ _⟩,hh.bC,hh.bE,hh.bI,hh.cE,hh.cI,hh.eI⟩,h.law.lT,h.law.lE,h.law.lI,h.law.cap,gsr h.law.grown ⟨A,i,none⟩ lA a⟩,⟨h.book.own.kept r ?_,fun q cs hq=>?_⟩,h.good,h.s0,h.s1⟩,_,hG.store i a⟩
  ·by_cases e:v.ownBlock=some A
   ·obtain ⟨m',F',hw⟩:=Sn.own_lie h.book.own A e
    exact absurd rfl (hG.type_ne hw (by decide))
   ·exact .inr e
  ·obtain ⟨S',qC,qE,qI,kC,kE,kI,hc,hL,h1,h2,h3,h4⟩:=h.book.page q cs hq
   exact ⟨S',qC,qE,qI,kC,kE,kI,hc,⟨hL.cells.other (hG.type_ne hL.cells (by decide)) _ _,hL.ents.other (hG.type_ne hL.ents (by decide)) _ _,hL.items.other (hG.type_ne hL.items (by decide)) _ _⟩,h1,h2,h3,h4⟩
 obtain ⟨h1,g1⟩:=key x i a h ⟨F,hA⟩
 obtain ⟨h2,g2⟩:=key _ j b h1 g1
 exact (key _ k c h2 g2).1

set_option maxRecDepth 16000 in
set_option maxHeartbeats 12800000 in
theorem story_any (seed:Int) (a:Option Addr) (len cap:Nat) (V:Nat→Option Addr × Nat × Nat) (z:Nat→Nat→Int) (w:World) (hC:Cr.Came w a len V z) :
  Calls Tryz.prog 6 #[.int .i64 seed,.slice a len cap] w (Sn.Tells11 w seed):=by
 have hC':=hide hC
 have hm1:Hid (len≤maxLen):=hC.1
 have cn:=hide (fun x=>refNew_any seed x)
 obtain ⟨i0,hi,hz0,hz1,hz2⟩:=info_parts info_world
 clear hC
 go_enter Tryz.func6,Tryz.ntmps6
 go_wp2_with fail
 refine (uh cn _).mono ?_
 rintro e w1 ⟨S0,hN,gC,gE,gI,cC,cE,cI,rfl,hcap,l1,l2,l3,n1,n2,n3,hL,hg1⟩
 have hLw:=hide (Gd.law_new (s:=S0.s) (g:=S0.g) (cC:=cC) (cI:=cI) (World.grownBy.refl w none) hcap l1 l2 l3 n1 n2 n3 hL hg1)
 have hGo:=hide hN.good
 have hHd:=hide hN.head
 clear cn hcap l1 l2 l3 n1 n2 n3 hL hg1 hN
 unfold Gd.world at hLw ⊢
 go_upto_region 2 with fail
 obtain ⟨T,hTe⟩:∃T,w1.heap.size=T:=⟨_,rfl⟩
 have hTs:Hid ((w1.alloc (.cells #[.int .i64 (S0.s 0),.int .i64 (S0.s 1),.int .i64 (S0.s 2),.int .i64 (S0.s 3),.slice (some ⟨gC,0,none⟩) 384 cC,.slice (some ⟨gE,0,none⟩) 32 cE,.slice (some ⟨gI,0,none⟩) 40 cI,.int .i64 (S0.g 0),.int .i64 (S0.g 1),.int .i64 (S0.g 2),.int .i64 (S0.g 3)] 31)).heap.size=T+1):=by show _=_;rw [←hTe];simp
 rw [hTe] at hLw ⊢
 clear hTe
 generalize w1.alloc (.cells #[.int .i64 (S0.s 0),.int .i64 (S0.s 1),.int .i64 (S0.s 2),.int .i64 (S0.s 3),.slice (some ⟨gC,0,none⟩) 384 cC,.slice (some ⟨gE,0,none⟩) 32 cE,.slice (some ⟨gI,0,none⟩) 40 cI,.int .i64 (S0.g 0),.int .i64 (S0.g 1),.int .i64 (S0.g 2),.int .i64 (S0.g 3)] 31)=w2 at hLw hTs ⊢
 obtain ⟨b0,b1,b2,b3,b4,b5,b6,b7,b8,b9,b10⟩:=(uh hLw).eleven
 obtain ⟨w3,hw3⟩:∃w3,w3=w2.alloc (.cells #[.int .i64 (S0.s 0),.int .i64 (S0.s 1),.int .i64 (S0.s 2),.int .i64 (S0.s 3),.slice (some ⟨gC,0,none⟩) 384 cC,.slice (some ⟨gE,0,none⟩) 32 cE,.slice (some ⟨gI,0,none⟩) 40 cI,.int .i64 (S0.g 0),.int .i64 (S0.g 1),.int .i64 (S0.g 2),.int .i64 (S0.g 3)] 31):=⟨_,rfl⟩
 have hg3:w2.grownBy w3 none:=by rw [hw3];exact World.grownBy_alloc _ _ _
 have hT0:Hid (Sn.Tale w w3 T gC gE gI cC cE cI S0 (.slice (some ⟨T+1,0,none⟩) 1 1) seed [(Gd.world S0.s gC gE gI cC cE cI S0.g).toList]):=by
  refine ⟨(uh hLw).on hg3,⟨?_,fun k cs hk=>?_⟩,uh hGo,(uh hHd).1,by have:=(uh hHd).2;show S0.s 1+1=1;omega⟩
  ·rw [hw3]
   have h:=World.ownsRow_lit (base:=T+1) (e:=31) (size:=11) w2 #[.int .i64 (S0.s 0),.int .i64 (S0.s 1),.int .i64 (S0.s 2),.int .i64 (S0.s 3),.slice (some ⟨gC,0,none⟩) 384 cC,.slice (some ⟨gE,0,none⟩) 32 cE,.slice (some ⟨gI,0,none⟩) 40 cI,.int .i64 (S0.g 0),.int .i64 (S0.g 1),.int .i64 (S0.g 2),.int .i64 (S0.g 3)] 1 (by rw [uh hTs];exact Nat.le_refl _) (by decide) rfl
   rw [uh hTs] at h
   exact h
  ·have hk0:k=0:=by
    have:=(List.getElem?_eq_some_iff.1 hk).1
    simpa using this
   subst hk0
   simp at hk
   subst hk
   exact ⟨S0,gC,gE,gI,cC,cE,cI,rfl,(uh hLw).hold.lists.on hg3,(uh hLw).cap,uh hGo,(uh hHd).1,by rw [(uh hHd).2];rfl⟩
 go_upto_region 3 with fail
 rw [←hw3,uh hTs]
 clear hw3 hg3 hLw hGo hHd hTs b0 b1 b2 b3 b4 b5 b6 b7 b8 b9 b10 w1 w2
 go_wp2_with fail
 go_loopw [6,7,8,9] (fun v6 v7 v8 v9 wr=>∃(i:Nat) (S:Cr.W) (gC gE gI cC cE cI:Nat) (L:List (List Value)),i≤30∧v7=.int .i64 (i:Int)∧Hid (L.length=i+1)∧Hid (Sn.Tale w wr T gC gE gI cC cE cI S v6 seed L)) (fun _ v7 _ _ _=>60 - (intOf v7).toNat)
 case atStart=>exact ⟨0,S0,gC,gE,gI,cC,cE,cI,[(Gd.world S0.s gC gE gI cC cE cI S0.g).toList],by omega,rfl,(show _=_ from rfl),hT0⟩
 case round =>
  clear hT0
  obtain ⟨i,S,gC,gE,gI,cC,cE,cI,L,hi30,rfl,hLl,hX⟩:=hrel
  have hgr:=hide (uh hX).law.grown
  by_cases hlen:i<len
  case neg =>
   have hge:¬(i:Int)<(len:Int):=by omega
   have hf:Hid (Sn.Tells11 w seed (.returned u6) wr):=⟨u6,T+1,L,rfl,by have:=(uh hX).law.lT;omega,by have:=uh hLl;omega,by have:=uh hLl;omega,(uh hX).book,uh hgr⟩
   clear hX
   go_wp2
   go_ret
   exact uh hf
  by_cases hlt:i<30
  case neg =>
   have hge:¬(i:Int)<30:=by omega
   have hlen':(i:Int)<(len:Int):=by omega
   have hf:Hid (Sn.Tells11 w seed (.returned u6) wr):=⟨u6,T+1,L,rfl,by have:=(uh hX).law.lT;omega,by have:=uh hLl;omega,by have:=uh hLl;omega,(uh hX).book,uh hgr⟩
   clear hX
   go_wp2
   go_ret
   exact uh hf
  have hlt':(i:Int)<30:=by omega
  have hlen':(i:Int)<(len:Int):=by omega
  have HL:=hide hlt
  have HLEN:=hide hlen
  clear hlt hlen hi30
  go_upto_region 7 with fail
  obtain ⟨wd,hwd⟩:∃wd,wd=wr.alloc (.cells (Cr.acts (fun _=>0) (fun _=>0) (fun _=>false)) 56):=⟨_,rfl⟩
  have hgd:wr.grownBy wd none:=by rw [hwd];exact World.grownBy_alloc _ _ _
  have hA0:Hid (Lie wd wr.heap.size 56 12 (Cr.actF (fun _=>0) (fun _=>0) (fun _=>false))):=by
   show Lie wd _ _ _ _
   rw [hwd]
   exact Cr.acts_lie (heap_alloc_new wr _)
  have hX1:=hide ((uh hX).on hgd)
  have lA:Hid (w.heap.size≤wr.heap.size):=(uh hgr).size
  unfold Cr.acts at hwd
  rw [←hwd]
  obtain ⟨A,hAe⟩:∃A,wr.heap.size=A:=⟨_,rfl⟩
  rw [hAe] at hA0 lA ⊢
  clear hwd hgd hX hAe hgr
  obtain ⟨b,o,rfl,hbb,hcel,hmx,hzz⟩:=(uh hC').2 i (uh HLEN)
  obtain ⟨ra,rn,rk,hV⟩:∃ra rn rk,V i=(ra,rn,rk):=⟨_,_,_,rfl⟩
  rw [hV] at hcel hzz hmx
  dsimp only at hcel hzz hmx
  have hrow:Hid (∀x,w.grownBy x none→x.cell? ⟨b,o+i,none⟩=some (.slice ra rn rk)):=fun x hx=>(gce hx b _ hbb (by simp)).trans hcel
  have hnum:Hid (Cr.Nums w ra rn (z i)):=hzz
  have hmx':=hide hmx
  generalize z i=zi at hnum
  clear hV hbb hcel hmx hzz
  clear wr
  go_upto_block 2 with fail
  go_cut [9] from 24 to 66 (fun v9 wx=>∃how inp sp,Hid (Sn.Tale w wx T gC gE gI cC cE cI S u6 seed L∧Lie wx A 56 12 (Cr.actF how inp sp)))
  case first =>
   go_wp2_with fail
   go_loopw [9] (fun v9 wr=>∃(t:Nat) (how inp:Nat→Int) (sp:Nat→Bool),t≤4∧v9=.int .i64 (t:Int)∧Hid (Sn.Tale w wr T gC gE gI cC cE cI S u6 seed L∧Lie wr A 56 12 (Cr.actF how inp sp))) (fun v9 _=>10 - (intOf v9).toNat)
   case atStart=>exact ⟨0,_,_,_,by omega,rfl,uh hX1,uh hA0⟩
   case round =>
    clear hX1 hA0
    obtain ⟨t,how,inp,sp,ht,rfl,hX⟩:=hrel
    have r0:=uh hrow wr (uh hX).1.law.grown
    by_cases ht4:t<4
    case pos =>
     have ht4':(t:Int)<4:=by omega
     by_cases htn:t<rn
     case pos =>
      have htn':(t:Int)<(rn:Int):=by omega
      have TL:=hide ht4
      obtain ⟨rb,ro,rfl,hrb,hru,u1,u2⟩:=uh hnum t htn
      obtain ⟨u,hue⟩:∃u,zi t=u:=⟨_,rfl⟩
      rw [hue] at hru u1 u2
      have hm2:(rn:Int)≤9223372036854775807:=by have:=uh hmx';unfold maxLen at this;omega
      have t1:=Cr.quo_wrap u1 u2 (n:=3) (by omega)
      have t2:=Cr.quo_wrap u1 u2 (n:=33) (by omega)
      have c1:=hide (fun x=>within11_any u 3 x (by omega) (by omega))
      have c2:=hide (fun x=>within11_any (u.tdiv 3) 11 x (by omega) (by omega))
      have c3:=hide (fun x=>within11_any (u.tdiv 33) 3 x (by omega) (by omega))
      have hks:Hid (∀x,w.grownBy x none→x.cell? ⟨b,o+i,none⟩=some (.slice (some ⟨rb,ro,none⟩) rn rk)∧x.cell? ⟨rb,ro+t,none⟩=some (.int .i64 u)):=fun x hx=>⟨uh hrow x hx,(gce hx rb _ hrb (by simp)).trans hru⟩
      have hS0:=uh hks wr.drew (gd1 (uh hX).1.law.grown)
      have hXd:=hide (And.intro ((uh hX).1.on (gd1 (World.grownBy.refl wr none))) ((uh hX).2.on (gd1 (World.grownBy.refl wr none))))
      have fA:=(uh hX).2.free
      have z0:=(uh hX).2.cell (c:=t*3) (by omega)
      have z1:=(uh hX).2.cell (c:=t*3+1) (by omega)
      have z2:=(uh hX).2.cell (c:=t*3+2) (by omega)
      have hX2:Hid (Sn.Tale w (((wr.drew.setCell ⟨A,t*3,none⟩ (.int .i64 (u % 3))).setCell ⟨A,t*3+1,none⟩ (.int .i64 (u.tdiv 3 % 11))).setCell ⟨A,t*3+2,none⟩ (.bool (u.tdiv 33 % 3 == 0))) T gC gE gI cC cE cI S u6 seed L∧Lie (((wr.drew.setCell ⟨A,t*3,none⟩ (.int .i64 (u % 3))).setCell ⟨A,t*3+1,none⟩ (.int .i64 (u.tdiv 3 % 11))).setCell ⟨A,t*3+2,none⟩ (.bool (u.tdiv 33 % 3 == 0))) A 56 12 (Cr.actF (fun k=>if k=t then u % 3 else how k) (fun k=>if k=t then u.tdiv 3 % 11 else inp k) (fun k=>if k=t then u.tdiv 33 % 3 == 0 else sp k))):=⟨(uh hXd).1.aside (uh hXd).2 (uh lA) _ _ _ _ _ _,Cr.acts_put (uh hXd).2 _ _ _⟩
      clear ht htn ht4 hrb hru u1 u2 hue
      go_upto_region 10 with fail
      clear hX r0 hXd
      refine wp_region_till (h:=30) (S:=fun x=>x.cell? ⟨b,o+i,none⟩=some (.slice (some ⟨rb,ro,none⟩) rn rk)∧x.cell? ⟨rb,ro+t,none⟩=some (.int .i64 u)) (by kernel_rfl) ?_
      refine wtk (i:=0) (v:=?_) [30] rfl (by kernel_rfl) (by kernel_rfl) (by kernel_rfl) (by kernel_rfl) (fun _ _ _ h=>h) hS0 (Or.inl ⟨by rfl,?_⟩) ?_
      rotate_left
      ·intro x hSx
       try dsimp only at hSx
       go_simp
       try with_reducible rfl
      simp only [Act.put]
      refine wtk (i:=1) (v:=?_) [30] rfl (by kernel_rfl) (by kernel_rfl) (by kernel_rfl) (by kernel_rfl) (fun _ _ _ h=>h) hS0 (Or.inl ⟨by rfl,?_⟩) ?_
      rotate_left
      ·intro x hSx
       try dsimp only at hSx
       go_simp
       try with_reducible rfl
      simp only [Act.put]
      refine wtk (i:=2) (v:=?_) [30] rfl (by kernel_rfl) (by kernel_rfl) (by kernel_rfl) (by kernel_rfl) (fun _ _ _ h=>h) hS0 (Or.inl ⟨by rfl,?_⟩) ?_
      rotate_left
      ·intro x hSx
       try dsimp only at hSx
       go_simp
       try with_reducible rfl
      simp only [Act.put]
      refine wtk (i:=3) (v:=?_) [30] rfl (by kernel_rfl) (by kernel_rfl) (by kernel_rfl) (by kernel_rfl) (fun _ _ _ h=>h) hS0 (Or.inl ⟨by rfl,?_⟩) ?_
      rotate_left
      ·intro x hSx
       try dsimp only at hSx
       go_simp
       try with_reducible rfl
      simp only [Act.put]
      refine wtk (i:=4) (v:=?_) [30] rfl (by kernel_rfl) (by kernel_rfl) (by kernel_rfl) (by kernel_rfl) (fun _ _ _ h=>h) hS0 (Or.inl ⟨by rfl,?_⟩) ?_
      rotate_left
      ·intro x hSx
       try dsimp only at hSx
       go_simp
       try with_reducible rfl
      simp only [Act.put]
      refine wtk (i:=5) (v:=?_) [30] rfl (by kernel_rfl) (by kernel_rfl) (by kernel_rfl) (by kernel_rfl) (fun _ _ _ h=>h) hS0 (Or.inl ⟨by rfl,?_⟩) ?_
      rotate_left
      ·intro x hSx
       try dsimp only at hSx
       go_simp
       try with_reducible rfl
      simp only [Act.put]
      refine wtk (i:=6) (v:=?_) [30] rfl (by kernel_rfl) (by kernel_rfl) (by kernel_rfl) (by kernel_rfl) (fun _ _ _ h=>h) hS0 (Or.inl ⟨by rfl,?_⟩) ?_
      rotate_left
      ·intro x hSx
       try dsimp only at hSx
       go_simp
       try with_reducible rfl
      simp only [Act.put]
      refine wtk (i:=7) (v:=?_) [30] rfl (by kernel_rfl) (by kernel_rfl) (by kernel_rfl) (by kernel_rfl) (fun _ _ _ h=>h) hS0 (Or.inl ⟨by rfl,?_⟩) ?_
      rotate_left
      ·intro x hSx
       try dsimp only at hSx
       go_simp
       try with_reducible rfl
      simp only [Act.put]
      refine wtk (i:=9) (v:=?_) [30] rfl (by kernel_rfl) (by kernel_rfl) (by kernel_rfl) (by kernel_rfl) (fun _ _ _ h=>h) hS0 (Or.inl ⟨by rfl,?_⟩) ?_
      rotate_left
      ·intro x hSx
       try dsimp only at hSx
       go_simp
       try with_reducible rfl
      simp only [Act.put]
      refine wtk (i:=10) (v:=?_) [30] rfl (by kernel_rfl) (by kernel_rfl) (by kernel_rfl) (by kernel_rfl) (fun _ _ _ h=>h) hS0 (Or.inl ⟨by rfl,?_⟩) ?_
      rotate_left
      ·intro x hSx
       try dsimp only at hSx
       go_simp
       try with_reducible rfl
      simp only [Act.put]
      refine wtk (i:=11) (v:=?_) [30] rfl (by kernel_rfl) (by kernel_rfl) (by kernel_rfl) (by kernel_rfl) (fun _ _ _ h=>h) hS0 (Or.inl ⟨by rfl,?_⟩) ?_
      rotate_left
      ·intro x hSx
       try dsimp only at hSx
       go_simp
       try with_reducible rfl
      simp only [Act.put]
      refine wtk (i:=12) (v:=?_) [30] rfl (by kernel_rfl) (by kernel_rfl) (by kernel_rfl) (by kernel_rfl) (fun _ _ _ h=>h) hS0 (Or.inl ⟨by rfl,?_⟩) ?_
      rotate_left
      ·intro x hSx
       try dsimp only at hSx
       go_simp
       try with_reducible rfl
      simp only [Act.put]
      refine wtk (i:=13) (v:=?_) [30] rfl (by kernel_rfl) (by kernel_rfl) (by kernel_rfl) (by kernel_rfl) (fun _ _ _ h=>h) hS0 (Or.inl ⟨by rfl,?_⟩) ?_
      rotate_left
      ·intro x hSx
       try dsimp only at hSx
       go_simp
       try with_reducible rfl
      simp only [Act.put]
      refine wtk (i:=14) (v:=?_) [30] rfl (by kernel_rfl) (by kernel_rfl) (by kernel_rfl) (by kernel_rfl) (fun _ _ _ h=>h) hS0 (Or.inl ⟨by rfl,?_⟩) ?_
      rotate_left
      ·intro x hSx
       try dsimp only at hSx
       go_simp
       try with_reducible rfl
      simp only [Act.put]
      refine wtk (i:=15) (v:=?_) [30] rfl (by kernel_rfl) (by kernel_rfl) (by kernel_rfl) (by kernel_rfl) (fun _ _ _ h=>h) hS0 (Or.inl ⟨by rfl,?_⟩) ?_
      rotate_left
      ·intro x hSx
       try dsimp only at hSx
       go_simp
       try with_reducible rfl
      simp only [Act.put]
      refine wtk (i:=16) (v:=?_) [30] rfl (by kernel_rfl) (by kernel_rfl) (by kernel_rfl) (by kernel_rfl) (fun _ _ _ h=>h) hS0 (Or.inl ⟨by rfl,?_⟩) ?_
      rotate_left
      ·intro x hSx
       try dsimp only at hSx
       go_simp
       try with_reducible rfl
      simp only [Act.put]
      refine wtk (i:=18) (v:=?_) [30] rfl (by kernel_rfl) (by kernel_rfl) (by kernel_rfl) (by kernel_rfl) (fun _ _ _ h=>h) hS0 (Or.inl ⟨by rfl,?_⟩) ?_
      rotate_left
      ·intro x hSx
       try dsimp only at hSx
       go_simp
       try with_reducible rfl
      simp only [Act.put]
      refine wtk (i:=19) (v:=?_) [30] rfl (by kernel_rfl) (by kernel_rfl) (by kernel_rfl) (by kernel_rfl) (fun _ _ _ h=>h) hS0 (Or.inl ⟨by rfl,?_⟩) ?_
      rotate_left
      ·intro x hSx
       try dsimp only at hSx
       go_simp
       try with_reducible rfl
      simp only [Act.put]
      refine wtk (i:=20) (v:=?_) [30] rfl (by kernel_rfl) (by kernel_rfl) (by kernel_rfl) (by kernel_rfl) (fun _ _ _ h=>h) hS0 (Or.inl ⟨by rfl,?_⟩) ?_
      rotate_left
      ·intro x hSx
       try dsimp only at hSx
       go_simp
       try with_reducible rfl
      simp only [Act.put]
      refine wtk (i:=21) (v:=?_) [30] rfl (by kernel_rfl) (by kernel_rfl) (by kernel_rfl) (by kernel_rfl) (fun _ _ _ h=>h) hS0 (Or.inl ⟨by rfl,?_⟩) ?_
      rotate_left
      ·intro x hSx
       try dsimp only at hSx
       go_simp
       try with_reducible rfl
      simp only [Act.put]
      refine wtk (i:=22) (v:=?_) [30] rfl (by kernel_rfl) (by kernel_rfl) (by kernel_rfl) (by kernel_rfl) (fun _ _ _ h=>h) hS0 (Or.inl ⟨by rfl,?_⟩) ?_
      rotate_left
      ·intro x hSx
       try dsimp only at hSx
       go_simp
       try with_reducible rfl
      simp only [Act.put]
      refine wtk (i:=23) (v:=?_) [30] rfl (by kernel_rfl) (by kernel_rfl) (by kernel_rfl) (by kernel_rfl) (fun _ _ _ h=>h) hS0 (Or.inl ⟨by rfl,?_⟩) ?_
      rotate_left
      ·intro x hSx
       try dsimp only at hSx
       go_simp
       try with_reducible rfl
      simp only [Act.put]
      refine wtk (i:=24) (v:=?_) [30] rfl (by kernel_rfl) (by kernel_rfl) (by kernel_rfl) (by kernel_rfl) (fun _ _ _ h=>h) hS0 (Or.inl ⟨by rfl,?_⟩) ?_
      rotate_left
      ·intro x hSx
       try dsimp only at hSx
       go_simp
       try with_reducible rfl
      simp only [Act.put]
      refine wtk (i:=25) (v:=?_) [30] rfl (by kernel_rfl) (by kernel_rfl) (by kernel_rfl) (by kernel_rfl) (fun _ _ _ h=>h) hS0 (Or.inl ⟨by rfl,?_⟩) ?_
      rotate_left
      ·intro x hSx
       try dsimp only at hSx
       go_simp
       try with_reducible rfl
      simp only [Act.put]
      refine wto (j:=8) (by kernel_rfl) rfl (fun K hK=>?_)
      go_simp
      refine (uh c1 _).mono ?_
      rintro e0 wq ⟨rfl,hy⟩
      subst wq
      try go_simp
      refine hK.out _ _ (fun _=>hS0) ?_
      clear hK K
      refine wto (j:=17) (by kernel_rfl) rfl (fun K hK=>?_)
      go_simp
      refine (uh c2 _).mono ?_
      rintro e0 wq ⟨rfl,hy⟩
      subst wq
      try go_simp
      refine hK.out _ _ (fun _=>hS0) ?_
      clear hK K
      refine wto (j:=26) (by kernel_rfl) rfl (fun K hK=>?_)
      go_simp
      refine (uh c3 _).mono ?_
      rintro e0 wq ⟨rfl,hy⟩
      subst wq
      try go_simp
      refine hK.out _ _ (fun _=>hS0) ?_
      clear hK K
      refine wtk (i:=27) (v:=?_) [30] rfl (by kernel_rfl) (by kernel_rfl) (by kernel_rfl) (by kernel_rfl) (fun _ _ _ h=>h) hS0 (Or.inl ⟨by rfl,?_⟩) ?_
      rotate_left
      ·intro x hSx
       try dsimp only at hSx
       go_simp
       try with_reducible rfl
      simp only [Act.put]
      refine wtk (i:=28) (v:=?_) [30] rfl (by kernel_rfl) (by kernel_rfl) (by kernel_rfl) (by kernel_rfl) (fun _ _ _ h=>h) hS0 (Or.inl ⟨by rfl,?_⟩) ?_
      rotate_left
      ·intro x hSx
       try dsimp only at hSx
       go_simp
       try with_reducible rfl
      simp only [Act.put]
      refine wtk (i:=29) (v:=?_) [30] rfl (by kernel_rfl) (by kernel_rfl) (by kernel_rfl) (by kernel_rfl) (fun _ _ _ h=>h) hS0 (Or.inl ⟨by rfl,?_⟩) ?_
      rotate_left
      ·intro x hSx
       try dsimp only at hSx
       go_simp
       try with_reducible rfl
      simp only [Act.put]
      refine wto (j:=30) (by kernel_rfl) rfl (fun K hK=>?_)
      go_simp
      refine hK.out _ _ (fun hx=>absurd (hx.symm.trans (by kernel_rfl)) Bool.false_ne_true) ?_
      clear hK K
      refine wpTill_done (by kernel_rfl) ?_ _
      go_wp2
      go_roundw
      case rel=>exact ⟨t+1,_,_,_,by have:=uh TL;omega,by go_num,hX2⟩
      case measure=>simp [intOf];have:=uh TL;omega
     case neg =>
      have htn':¬(t:Int)<(rn:Int):=by omega
      clear ht ht4 htn
      go_wp2
      go_meet
      exact ⟨_,_,_,hX⟩
    case neg =>
     have ht4':¬(t:Int)<4:=by omega
     clear ht ht4
     go_wp2
     go_meet
     exact ⟨_,_,_,hX⟩
  case rest =>
  obtain ⟨how,inp,sp,hX⟩:=hcut
  clear hX1 hA0 hrow hnum hmx'
  obtain ⟨b0,b1,b2,b3,b4,b5,b6,b7,b8,b9,b10⟩:=(uh hX).1.law.eleven
  obtain ⟨x0,x1,x2,x3,x4,x5,x6,x7,x8,x9,x10,x11⟩:=Cr.acts_cells (uh hX).2
  have cs:=hide (refStep_any S.s S.g S.c S.E S.I gC gE gI cC cE cI how inp sp wc (uh hX).1.law.hold.lists (uh hX).1.good (by have:=(uh hX).1.s1;omega) (by have:=(uh hX).1.s1;have:=uh hLl;have:=uh HL;omega))
  unfold Gd.world at cs
  go_wp2_with fail
  refine (uh cs).mono ?_
  rintro e wu ⟨U,hU,aC,aE,aI,bC,bE,bI,rfl,hcap,l1,l2,l3,n1,n2,n3,hL,hg⟩
  have hX2:Hid (Gd.Law w (((((((((((wu.setCell ⟨T,0,none⟩ (.int .i64 (U.s 0))).setCell ⟨T,1,none⟩ (.int .i64 (U.s 1))).setCell ⟨T,2,none⟩ (.int .i64 (U.s 2))).setCell ⟨T,3,none⟩ (.int .i64 (U.s 3))).setCell ⟨T,4,none⟩ (.slice (some ⟨aC,0,none⟩) 384 bC)).setCell ⟨T,5,none⟩ (.slice (some ⟨aE,0,none⟩) 32 bE)).setCell ⟨T,6,none⟩ (.slice (some ⟨aI,0,none⟩) 40 bI)).setCell ⟨T,7,none⟩ (.int .i64 (U.g 0))).setCell ⟨T,8,none⟩ (.int .i64 (U.g 1))).setCell ⟨T,9,none⟩ (.int .i64 (U.g 2))).setCell ⟨T,10,none⟩ (.int .i64 (U.g 3))) T aC aE aI bC bE bI U.s U.g U.c U.E U.I∧Sn.Book w (((((((((((wu.setCell ⟨T,0,none⟩ (.int .i64 (U.s 0))).setCell ⟨T,1,none⟩ (.int .i64 (U.s 1))).setCell ⟨T,2,none⟩ (.int .i64 (U.s 2))).setCell ⟨T,3,none⟩ (.int .i64 (U.s 3))).setCell ⟨T,4,none⟩ (.slice (some ⟨aC,0,none⟩) 384 bC)).setCell ⟨T,5,none⟩ (.slice (some ⟨aE,0,none⟩) 32 bE)).setCell ⟨T,6,none⟩ (.slice (some ⟨aI,0,none⟩) 40 bI)).setCell ⟨T,7,none⟩ (.int .i64 (U.g 0))).setCell ⟨T,8,none⟩ (.int .i64 (U.g 1))).setCell ⟨T,9,none⟩ (.int .i64 (U.g 2))).setCell ⟨T,10,none⟩ (.int .i64 (U.g 3))) (T+1) u6 seed L):=⟨(uh hX).1.law.over hcap l1 l2 l3 n1 n2 n3 hL hg,((uh hX).1.book.on hg).over ((uh hX).1.law.hold.box.on hg) (by omega) (Gd.world U.s aC aE aI bC bE bI U.g).toList⟩
  have hGU:=hide (hU.good (uh hX).1.good)
  have hss:Hid (S.s 0=seed∧S.s 1+1=(L.length:Int)):=⟨(uh hX).1.s0,(uh hX).1.s1⟩
  have fT:=((uh hX).1.law.hold.box.on hg).free
  obtain ⟨y0,y1,y2,y3,y4,y5,y6,y7,y8,y9,y10⟩:=((uh hX).1.law.hold.box.on hg).eleven
  clear hcap l1 l2 l3 n1 n2 n3 hL hg cs b0 b1 b2 b3 b4 b5 b6 b7 b8 b9 b10 x0 x1 x2 x3 x4 x5 x6 x7 x8 x9 x10 x11 hX hU
  unfold Gd.world
  go_upto_region 12 with fail
  generalize (((((((((((wu.setCell ⟨T,0,none⟩ (.int .i64 (U.s 0))).setCell ⟨T,1,none⟩ (.int .i64 (U.s 1))).setCell ⟨T,2,none⟩ (.int .i64 (U.s 2))).setCell ⟨T,3,none⟩ (.int .i64 (U.s 3))).setCell ⟨T,4,none⟩ (.slice (some ⟨aC,0,none⟩) 384 bC)).setCell ⟨T,5,none⟩ (.slice (some ⟨aE,0,none⟩) 32 bE)).setCell ⟨T,6,none⟩ (.slice (some ⟨aI,0,none⟩) 40 bI)).setCell ⟨T,7,none⟩ (.int .i64 (U.g 0))).setCell ⟨T,8,none⟩ (.int .i64 (U.g 1))).setCell ⟨T,9,none⟩ (.int .i64 (U.g 2))).setCell ⟨T,10,none⟩ (.int .i64 (U.g 3)))=wg at hX2 ⊢
  clear y0 y1 y2 y3 y4 y5 y6 y7 y8 y9 y10 fT wu wc
  obtain ⟨b0,b1,b2,b3,b4,b5,b6,b7,b8,b9,b10⟩:=(uh hX2).1.eleven
  go_wp2_with (at_builtin;refine wpList_append_own _ rfl _ _ 24 rfl (T+1) 31 i0 (.agg #[.int .i64 0,.int .i64 0,.int .i64 0,.int .i64 0,.slice none 0 0,.slice none 0 0,.slice none 0 0,.int .i64 0,.int .i64 0,.int .i64 0,.int .i64 0]) 11 136 Tryz.underlying24 hi hz0 hz1 hz2 rfl (by decide) _ _ _ rfl ((uh hX2).2.own.alloc _) ⟨wg.heap.size,0,none⟩ 1 1 (#[.int .i64 (U.s 0),.int .i64 (U.s 1),.int .i64 (U.s 2),.int .i64 (U.s 3),.slice (some ⟨aC,0,none⟩) 384 bC,.slice (some ⟨aE,0,none⟩) 32 bE,.slice (some ⟨aI,0,none⟩) 40 bI,.int .i64 (U.g 0),.int .i64 (U.g 1),.int .i64 (U.g 2),.int .i64 (U.g 3)]:Array Value).toList rfl rfl (Sn.news wg _ _ _ rfl) ?_ ?_ ?_ ?_ ?_)
  ·exact ⟨rfl,rfl,rfl,rfl,rfl,rfl,rfl,rfl,rfl,rfl,rfl⟩
  ·have:=uh hLl;have:=uh HL;unfold maxLen;omega
  ·have:=uh hLl;have:=uh HL;omega
  ·have:=(uh hX2).1.hold.box.lt;simp;omega
  intro v8 w8 hown hgrow _
  have hX3:Hid (Sn.Tale w w8 T aC aE aI bC bE bI U v8 seed (L ++ [(Gd.world U.s aC aE aI bC bE bI U.g).toList])):=by
   have hs:=uh hss
   have hG:=uh hGU
   refine ⟨Sn.law_grown ((uh hX2).1.on (World.grownBy_alloc _ _ _)) ((uh hX2).2.own.alloc _) hgrow,(uh hX2).2.more (World.grownBy_alloc _ _ _) ⟨U,aC,aE,aI,bC,bE,bI,rfl,(uh hX2).1.hold.lists,(uh hX2).1.cap,hG.1,hG.2.1.trans hs.1,by rw [hG.2.2.1];exact hs.2⟩ hown hgrow,hG.1,hG.2.1.trans hs.1,?_⟩
   rw [List.length_append,hG.2.2.1]
   simp
   have:=hs.2
   omega
  have hL3:Hid ((L ++ [(Gd.world U.s aC aE aI bC bE bI U.g).toList]).length=i+1+1):=by
   show (L ++ [(Gd.world U.s aC aE aI bC bE bI U.g).toList]).length=i+1+1
   rw [List.length_append,uh hLl]
   rfl
  clear hown hgrow hX2 b0 b1 b2 b3 b4 b5 b6 b7 b8 b9 b10 hss hGU
  go_wp2
  go_roundw
  case rel=>exact ⟨i+1,U,aC,aE,aI,bC,bE,bI,_,by have:=uh HL;omega,by go_num,hL3,hX3⟩
  case measure=>simp [intOf];have:=uh HL;omega


open Go.RowKit

def Sn.May (k0 i n5 nC nE nI:Nat):Prop :=
 (k0=4→nC=384)∧(k0=5→n5≤nC)∧(k0=6→i≤nE)∧((8≤k0∧k0≤14∨k0=19)→nE=32)∧((15≤k0∧k0≤18)→nI=40)∧nC≤384∧nE≤32

def Sn.Spoils (w:World) (z:Int) (k0 i n5 nI:Nat) (e:Ending) (w':World):Prop :=
 ∃(s g c:Nat→Int) (E I:Nat→Nat→Int) (mC mE mI:Nat),(∀i,0≤c i∧c i≤255)∧s 0=z∧Sn.May k0 i n5 mC mE mI∧mI≤nI+1∧Sn.Gets w s g c E I mC mE mI e w'

theorem Sn.wbox_num (s g:Nat→Int) (vC vE vI:Value) (k:Nat) (hk:k<4) (v:Int):∀j,j<11→(if j=k then Value.int .i64 v else Sn.wbox s g vC vE vI j)=Sn.wbox (Cr.num s k v) g vC vE vI j:=by
 intro j hj
 rcases (show k=0∨k=1∨k=2∨k=3 by omega) with rfl | rfl | rfl | rfl <;> rcases (show j=0∨j=1∨j=2∨j=3∨j=4∨j=5∨j=6∨j=7∨j=8∨j=9∨j=10 by omega) with rfl | rfl | rfl | rfl | rfl | rfl | rfl | rfl | rfl | rfl | rfl <;> rfl

theorem Sn.wbox_gold (s g:Nat→Int) (vC vE vI:Value) (k:Nat) (hk:k<4) (v:Int):∀j,j<11→(if j=7+k then Value.int .i64 v else Sn.wbox s g vC vE vI j)=Sn.wbox s (Cr.num g k v) vC vE vI j:=by
 intro j hj
 rcases (show k=0∨k=1∨k=2∨k=3 by omega) with rfl | rfl | rfl | rfl <;> rcases (show j=0∨j=1∨j=2∨j=3∨j=4∨j=5∨j=6∨j=7∨j=8∨j=9∨j=10 by omega) with rfl | rfl | rfl | rfl | rfl | rfl | rfl | rfl | rfl | rfl | rfl <;> rfl

structure Sn.Mine (w x:World) (B gC gE gI nC nE nI cC cE cI:Nat) (s g c:Nat→Int) (E I:Nat→Nat→Int):Prop where
 par:Sn.Par w x B (.slice (some ⟨gC,0,none⟩) nC cC) (.slice (some ⟨gE,0,none⟩) nE cE) (.slice (some ⟨gI,0,none⟩) nI cI) s g
 new:Sn.Newly x (B+2) gC gE gI nC nE nI cC cE cI c E I

section
variable {w x y:World} {B gC gE gI nC nE nI cC cE cI:Nat} {s g c:Nat→Int} {E I:Nat→Nat→Int}

theorem Sn.Mine.on (h:Sn.Mine w x B gC gE gI nC nE nI cC cE cI s g c E I) (hg:x.grownBy y none):Sn.Mine w y B gC gE gI nC nE nI cC cE cI s g c E I:=⟨h.par.on hg,h.new.on hg⟩

theorem Sn.Newly.aside {b q:Nat} (h:Sn.Newly x b gC gE gI nC nE nI cC cE cI c E I) (hq:q<b) (i:Nat) (u:Value):Sn.Newly (x.setCell ⟨q,i,none⟩ u) b gC gE gI nC nE nI cC cE cI c E I:=by
 have h1:=h.lC
 have h2:=h.lE
 have h3:=h.lI
 exact { h with cells:=h.cells.other (by omega) i u,ents:=h.ents.other (by omega) i u,items:=h.items.other (by omega) i u }

theorem Sn.Mine.num (h:Sn.Mine w x B gC gE gI nC nE nI cC cE cI s g c E I) (k:Nat) (hk:k<4) (v:Int):Sn.Mine w (x.setCell ⟨B,k,none⟩ (.int .i64 v)) B gC gE gI nC nE nI cC cE cI (Cr.num s k v) g c E I :=
 ⟨h.par.set k _ (Sn.wbox_num s g _ _ _ k hk v),h.new.aside (by omega) _ _⟩

theorem Sn.Mine.gold (h:Sn.Mine w x B gC gE gI nC nE nI cC cE cI s g c E I) (k:Nat) (hk:k<4) (v:Int):Sn.Mine w (x.setCell ⟨B,7+k,none⟩ (.int .i64 v)) B gC gE gI nC nE nI cC cE cI s (Cr.num g k v) c E I :=
 ⟨h.par.set (7+k) _ (Sn.wbox_gold s g _ _ _ k hk v),h.new.aside (by omega) _ _⟩

theorem Sn.Par.beyond {vC vE vI:Value} (h:Sn.Par w x B vC vE vI s g) {q:Nat} (hq:B+2≤q) (i:Nat) (u:Value):Sn.Par w (x.setCell ⟨q,i,none⟩ u) B vC vE vI s g:=by
 have h1:=h.at_
 have h2:=h.two
 exact ⟨h.box.other (by omega) _ _,h.res.other (by omega) _ _,h.at_,by simpa using h.two,gsr h.grown ⟨q,i,none⟩ (by show w.heap.size≤q;omega) u⟩

theorem Sn.Mine.cell (h:Sn.Mine w x B gC gE gI nC nE nI cC cE cI s g c E I) (k:Nat) (v:Int):Sn.Mine w (x.setCell ⟨gC,k,none⟩ (.int .u8 v)) B gC gE gI nC nE nI cC cE cI s g (fun i=>if i=k then v else c i) E I:=by
 have hh:=h.new
 refine ⟨h.par.beyond hh.lC _ _,{ hh with cells:=(hh.cells.store k (.int .u8 v)).congr fun j hj=>?_,ents:=hh.ents.other (hh.cells.type_ne hh.ents (by decide)) _ _,items:=hh.items.other (hh.cells.type_ne hh.items (by decide)) _ _ }⟩
 unfold Byts
 by_cases e:j=k
 ·simp [e]
 ·simp [e]

theorem Sn.Mine.ent (h:Sn.Mine w x B gC gE gI nC nE nI cC cE cI s g c E I) (k j:Nat) (hj:j<11) (v:Int):Sn.Mine w (x.setCell ⟨gE,k*11+j,none⟩ (.int .i64 v)) B gC gE gI nC nE nI cC cE cI s g c (Gd.set E k j v) I:=by
 have hh:=h.new
 exact ⟨h.par.beyond hh.lE _ _,{ hh with cells:=hh.cells.other (hh.ents.type_ne hh.cells (by decide)) _ _,ents:=hh.ents.stat k j hj v,items:=hh.items.other (hh.ents.type_ne hh.items (by decide)) _ _ }⟩

theorem Sn.Mine.item (h:Sn.Mine w x B gC gE gI nC nE nI cC cE cI s g c E I) (k j:Nat) (hj:j<4) (v:Int):Sn.Mine w (x.setCell ⟨gI,k*4+j,none⟩ (.int .i64 v)) B gC gE gI nC nE nI cC cE cI s g c E (Gd.set I k j v):=by
 have hh:=h.new
 exact ⟨h.par.beyond hh.lI _ _,{ hh with cells:=hh.cells.other (hh.items.type_ne hh.cells (by decide)) _ _,ents:=hh.ents.other (hh.items.type_ne hh.ents (by decide)) _ _,items:=hh.items.field k j hj v }⟩

theorem Sn.Li_less {T:TypeId} {z n m G:Nat} {F:Nat→Value} (h:Lie x G T (n*z) F) (hm:m≤n):Lie x G T (m*z) F:=by
 obtain ⟨M,K,h1,h2,h3⟩:=h
 have:=Nat.mul_le_mul_right z hm
 exact ⟨M,K,h1,by omega,fun c hc=>h3 c (by omega)⟩

theorem Sn.Mine.cutC (h:Sn.Mine w x B gC gE gI nC nE nI cC cE cI s g c E I) (m:Nat) (hm:m≤nC):Sn.Mine w (x.setCell ⟨B,4,none⟩ (.slice (some ⟨gC,0,none⟩) m cC)) B gC gE gI m nE nI cC cE cI s g c E I:=by
 have hh:=h.new
 have hp:=h.par.set (uC:=.slice (some ⟨gC,0,none⟩) m cC) 4 _ (Sn.wbox_set s g _ _ _ _).1
 have hs:=hh.aside (q:=B) (by omega) 4 (.slice (some ⟨gC,0,none⟩) m cC)
 exact ⟨hp,{ hs with cells:=Sn.Li_less hs.cells hm,kC:=⟨by have:=hh.kC;omega,hh.kC.2⟩ }⟩

theorem Sn.Mine.cutE (h:Sn.Mine w x B gC gE gI nC nE nI cC cE cI s g c E I) (m:Nat) (hm:m≤nE):Sn.Mine w (x.setCell ⟨B,5,none⟩ (.slice (some ⟨gE,0,none⟩) m cE)) B gC gE gI nC m nI cC cE cI s g c E I:=by
 have hh:=h.new
 have hp:=h.par.set (uE:=.slice (some ⟨gE,0,none⟩) m cE) 5 _ (Sn.wbox_set s g _ _ _ _).2.1
 have hs:=hh.aside (q:=B) (by omega) 5 (.slice (some ⟨gE,0,none⟩) m cE)
 exact ⟨hp,{ hs with ents:=Sn.Li_less hs.ents hm,kE:=⟨by have:=hh.kE;omega,hh.kE.2⟩ }⟩

theorem Sn.Mine.more {z:World} {b:Nat} {v':Value} {o:Obj} (h:Sn.Mine w x B gC gE gI nC nE nI cC cE cI s g c E I) (hb:B+2≤b) (hown:z.ownsRow b 63 4 v' (nI+1) (Gd.list (nI*4) (Gd.flat I) ++ (#[.int .i64 0,.int .i64 0,.int .i64 0,.int .i64 0]:Array Value).toList)) (hg:(x.alloc o).grownBy z (some gI)):∃gJ cJ,v'=.slice (some ⟨gJ,0,none⟩) (nI+1) cJ∧(∃uI,Sn.Par w z B (.slice (some ⟨gC,0,none⟩) nC cC) (.slice (some ⟨gE,0,none⟩) nE cE) uI s g∧uI=.slice (some ⟨gI,0,none⟩) nI cI)∧Sn.Mine w (z.setCell ⟨B,6,none⟩ (.slice (some ⟨gJ,0,none⟩) (nI+1) cJ)) B gC gE gJ nC nE (nI+1) cC cE cJ s g c E (fun i j=>if i<nI then I i j else 0):=by
 have hh:=h.new
 have hp:=h.par
 have a1:=hh.lI
 have a2:=hp.at_
 have a3:=hp.two
 have hx:=World.grownBy_alloc x o none
 have hpz:Sn.Par w z B (.slice (some ⟨gC,0,none⟩) nC cC) (.slice (some ⟨gE,0,none⟩) nE cE) (.slice (some ⟨gI,0,none⟩) nI cI) s g :=
  ⟨(hp.box.on hx).grown hg (by simp;omega),(hp.res.on hx).grown hg (by simp;omega),a2,Nat.le_trans a3 (Nat.le_trans hx.size hg.size),gow (gtr hp.grown hx) hg (fun k e=>by cases e;omega)⟩
 have hc:=(hh.cells.on hx).grown hg (by have:=hh.items.type_ne hh.cells (by decide);simpa using this)
 have he:=(hh.ents.on hx).grown hg (by have:=hh.items.type_ne hh.ents (by decide);simpa using this)
 have hl:Gd.list (nI*4) (Gd.flat I) ++ (#[.int .i64 0,.int .i64 0,.int .i64 0,.int .i64 0]:Array Value).toList=Gd.list ((nI+1)*4) (Gd.flat (fun i j=>if i<nI then I i j else 0)):=by
  refine List.ext_getElem? fun j=>?_
  by_cases h1:j<nI*4
  ·rw [List.getElem?_append_left (by rw [Gd.list_len];exact h1),Gd.list_at h1,Gd.list_at (by omega)]
   unfold Gd.flat
   simp only
   rw [if_pos (by omega)]
  ·rw [List.getElem?_append_right (by rw [Gd.list_len];omega),Gd.list_len]
   by_cases h2:j<(nI+1)*4
   ·rw [Gd.list_at h2]
    unfold Gd.flat
    simp only
    rw [if_neg (by omega)]
    rcases (show j - nI*4=0∨j - nI*4=1∨j - nI*4=2∨j - nI*4=3 by omega) with e | e | e | e <;> rw [e] <;> rfl
   ·rw [List.getElem?_eq_none (by simp;omega),List.getElem?_eq_none (by rw [Gd.list_len];omega)]
 rw [hl] at hown
 obtain ⟨gJ,cJ,rfl,h1,h2,h3⟩:=Sn.made_row hown (by rintro rfl;rcases hown.2 with ⟨_,e⟩ | ⟨_,_,_,e,_⟩ <;> first | omega | cases e)
 refine ⟨gJ,cJ,rfl,⟨_,hpz,rfl⟩,hpz.set (uI:=.slice (some ⟨gJ,0,none⟩) (nI+1) cJ) 6 _ (Sn.wbox_set s g _ _ _ _).2.2,?_⟩
 have b1:=hh.lC
 have b2:=hh.lE
 exact ⟨hc.other (by omega) _ _,he.other (by omega) _ _,h3.other (by omega) _ _,b1,b2,by omega,hh.kC,hh.kE,h2⟩

theorem Sn.Mine.gets {k0 i n5 nI0:Nat} {z:Int} (h:Sn.Mine w x B gC gE gI nC nE nI cC cE cI s g c E I) (h1:∀i,0≤c i∧c i≤255) (h2:s 0=z) (h3:Sn.May k0 i n5 nC nE nI) (h4:nI≤nI0+1) (vs:List Value):Sn.Spoils w z k0 i n5 nI0 (.returned (.agg (Sn.wide s g (.slice (some ⟨gC,0,none⟩) nC cC) (.slice (some ⟨gE,0,none⟩) nE cE) (.slice (some ⟨gI,0,none⟩) nI cI)))) (x.setCells (B+1) 0 vs):=by
 have hh:=h.new
 have hB:=h.par.at_
 have a1:=hh.lC
 have a2:=hh.lE
 have a3:=hh.lI
 exact ⟨s,g,c,E,I,nC,nE,nI,h1,h2,h3,h4,gC,gE,gI,cC,cE,cI,rfl,{ hh with cells:=hh.cells.others (by omega) _ _,ents:=hh.ents.others (by omega) _ _,items:=hh.items.others (by omega) _ _,lC:=by omega,lE:=by omega,lI:=by omega },own_sets (by omega) vs 0 x h.par.grown⟩

theorem Sn.Mine.laid {vC vE vI:Value} {b:Nat} (hh:Sn.Par w x B vC vE vI s g) (hN:Sn.Newly x b gC gE gI nC nE nI cC cE cI c E I) (hb:B+2≤b) (vs:List Value) (hv:vs=(Sn.wide s g (.slice (some ⟨gC,0,none⟩) nC cC) (.slice (some ⟨gE,0,none⟩) nE cE) (.slice (some ⟨gI,0,none⟩) nI cI)).toList):Sn.Mine w (x.setCells B 0 vs) B gC gE gI nC nE nI cC cE cI s g c E I:=by
 have hB:=hh.at_
 have a1:=hN.lC
 have a2:=hN.lE
 have a3:=hN.lI
 have hl:vs.length=11:=by rw [hv];rfl
 have r:=gss (g:=B) vs 0 x (World.grownBy.refl _ _)
 refine ⟨⟨(hh.box.stores 0 vs).congr fun j hj=>?_,hh.res.others (by omega) _ _,hB,Nat.le_trans hh.two r.size,own_sets (by omega) _ 0 x hh.grown⟩,{ hN with cells:=hN.cells.others (by omega) _ _,ents:=hN.ents.others (by omega) _ _,items:=hN.items.others (by omega) _ _,lC:=by omega,lE:=by omega,lI:=by omega }⟩
 rw [if_pos (by omega),Nat.sub_zero,hv,Array.getElem?_toList]
 rfl

theorem Sn.Mine.nest {vC vE vI:Value} {b:Nat} (hh:Sn.Par w x B vC vE vI s g) (hN:Sn.Newly x b gC gE gI nC nE nI cC cE cI c E I) (hb:B+2≤b):Sn.Mine w (((((((((((x.setCell ⟨B,0,none⟩ (.int .i64 (s 0))).setCell ⟨B,1,none⟩ (.int .i64 (s 1))).setCell ⟨B,2,none⟩ (.int .i64 (s 2))).setCell ⟨B,3,none⟩ (.int .i64 (s 3))).setCell ⟨B,4,none⟩ (.slice (some ⟨gC,0,none⟩) nC cC)).setCell ⟨B,5,none⟩ (.slice (some ⟨gE,0,none⟩) nE cE)).setCell ⟨B,6,none⟩ (.slice (some ⟨gI,0,none⟩) nI cI)).setCell ⟨B,7,none⟩ (.int .i64 (g 0))).setCell ⟨B,8,none⟩ (.int .i64 (g 1))).setCell ⟨B,9,none⟩ (.int .i64 (g 2))).setCell ⟨B,10,none⟩ (.int .i64 (g 3))) B gC gE gI nC nE nI cC cE cI s g c E I:=by
 have h:=Sn.Mine.laid hh hN hb _ rfl
 unfold Sn.wide at h
 simp only [World.setCells,Nat.zero_add,Nat.reduceAdd] at h
 exact h

theorem Sn.num_0 (s:Nat→Int) (k:Nat) (hk:k≠0) (v:Int):Cr.num s k v 0=s 0:=by
 unfold Cr.num
 rw [if_neg (by omega)]

end

end Go.Proofs.YtepppmepilffcaaGreat
