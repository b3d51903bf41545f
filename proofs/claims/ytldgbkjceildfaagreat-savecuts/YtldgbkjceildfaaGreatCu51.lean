import Derived.Test.YtldgbkjceildfaaGreatCu37
import Derived.Test.YtldgbkjceildfaaGreatCu50
namespace Go.Proofs.YtldgbkjceildfaaGreat
open Go.RowKit

def Sv.sameT (t u:Nat→Bool):Bool:=decide (t 0=u 0) && (decide (t 1=u 1) && (decide (t 2=u 2) && decide (t 3=u 3)))

theorem Sv.sameT_self (t:Nat→Bool):Sv.sameT t t=true:=by simp [Sv.sameT]

theorem Sv.info_bool:(Tryz.prog.info? 4).map (fun i=>(i.zero,i.size,i.bytes))=some (some (.bool false),1,1):=by kernel_rfl

theorem run_equal_seats (d:Nat) (t u:Nat→Bool) (w:World):(Op.equalIn (d+2) 31 (.agg #[.bool (t 0),.bool (t 1),.bool (t 2),.bool (t 3)]) (.agg #[.bool (u 0),.bool (u 1),.bool (u 2),.bool (u 3)])).run Tryz.prog w=.ok (Sv.sameT t u) w:=by
 obtain ⟨i0,hi,_,_,_⟩:=info_parts Sv.info_bool
 have hc:Tryz.prog.cellsOf 4=1:=by kernel_rfl
 have hh:=run_equalIn_array (P:=Tryz.prog) (w:=w) (d+1) #[.bool (t 0),.bool (t 1),.bool (t 2),.bool (t 3)] #[.bool (u 0),.bool (u 1),.bool (u 2),.bool (u 3)] Tryz.underlying31 hi
 have hr:(Op.eqItems (d+1) 4 (Tryz.prog.cellsOf 4) #[Value.bool (t 0),.bool (t 1),.bool (t 2),.bool (t 3)] #[.bool (u 0),.bool (u 1),.bool (u 2),.bool (u 3)] (List.range 4)).run Tryz.prog w=.ok (Sv.sameT t u) w:=by
  rw [hc]
  unfold Sv.sameT
  by_cases h0:t 0=u 0
  ·by_cases h1:t 1=u 1
   ·by_cases h2:t 2=u 2
    ·by_cases h3:t 3=u 3 <;> simp [List.range,List.range.loop,Op.eqItems,go_sem,h0,h1,h2,h3]
    ·simp [List.range,List.range.loop,Op.eqItems,go_sem,h0,h1,h2]
   ·simp [List.range,List.range.loop,Op.eqItems,go_sem,h0,h1]
  ·simp [List.range,List.range.loop,Op.eqItems,go_sem,h0]
 rw [hr] at hh
 exact hh

set_option maxRecDepth 16000 in
set_option maxHeartbeats 6400000 in
theorem svSame_any (s t g h c d:Nat→Int) (E F I J:Nat→Nat→Int) (u v:Nat→Bool) (gC gE gI cC cE cI jC jE jI dC dE dI:Nat) (w:World) (hL:Gd.Lists w gC gE gI c E I) (hL2:Gd.Lists w jC jE jI d F J) (hc:∀i,0≤c i∧c i≤255) (hd:∀i,0≤d i∧d i≤255) :
  Calls Tryz.prog 12 #[.agg (Sv.camp s gC gE gI cC cE cI g u),.agg (Sv.camp t jC jE jI dC dE dI h v)] w (Says w (.bool (Sv.sameT u v && Sn.sameW s t g h c d E F I J))):=by
 obtain ⟨w1,hw1⟩:∃x,x=w.alloc (.cells (Sv.camp s gC gE gI cC cE cI g u) 33):=⟨_,rfl⟩
 obtain ⟨w2,hw2⟩:∃x,x=w1.alloc (.cells (Sv.camp t jC jE jI dC dE dI h v) 33):=⟨_,rfl⟩
 have hg1:w.grownBy w1 none:=by rw [hw1];exact World.grownBy_alloc _ _ _
 have hg2:w1.grownBy w2 none:=by rw [hw2];exact World.grownBy_alloc _ _ _
 have hA:Lie w2 w.heap.size 33 15 (Sv.box s gC gE gI cC cE cI g u):=by
  have h:Lie w1 w.heap.size 33 15 (Sv.box s gC gE gI cC cE cI g u):=by rw [hw1];exact Sv.camp_lie (heap_alloc_new w _)
  exact h.on hg2
 have hB:Lie w2 w1.heap.size 33 15 (Sv.box t jC jE jI dC dE dI h v):=by rw [hw2];exact Sv.camp_lie (heap_alloc_new w1 _)
 have cs:=hide (same7_two s t g h c d E F I J gC gE gI cC cE cI jC jE jI dC dE dI w2 (hL.on (gtr hg1 hg2)) (hL2.on (gtr hg1 hg2)) hc hd)
 have heq:∀d wx,(Op.equalIn (d+2) 31 (.agg #[.bool (u 0),.bool (u 1),.bool (u 2),.bool (u 3)]) (.agg #[.bool (v 0),.bool (v 1),.bool (v 2),.bool (v 3)])).run Tryz.prog wx=.ok (Sv.sameT u v) wx:=fun d wx=>run_equal_seats d u v wx
 have hs1:w1.heap.size=w.heap.size+1:=by rw [hw1];simp
 obtain ⟨⟨a0,a1,a2,a3,a4,a5,a6,a7,a8,a9,a10⟩,a11,a12,a13,a14⟩:=Sv.fifteen hA
 obtain ⟨⟨b0,b1,b2,b3,b4,b5,b6,b7,b8,b9,b10⟩,b11,b12,b13,b14⟩:=Sv.fifteen hB
 have HG:=hide (gtr hg1 hg2)
 obtain ⟨B1,hB1⟩:∃B,w.heap.size=B:=⟨_,rfl⟩
 rw [hB1] at a0 a1 a2 a3 a4 a5 a6 a7 a8 a9 a10 a11 a12 a13 a14 hs1
 rw [hs1] at b0 b1 b2 b3 b4 b5 b6 b7 b8 b9 b10 b11 b12 b13 b14
 clear hg1 hg2 hA hB hL hL2 hs1
 unfold Sv.camp at hw1 hw2 ⊢
 unfold Gd.world at cs
 cases hT:Sv.sameT u v with
 | false =>
  rw [hT] at heq
  clear hT
  go_enter Tryz.func12,Tryz.ntmps12
  go_upto_region 1 with fail
  rw [←hw1,←hw2]
  clear hw1 hw2
  go_wp2
  go_ret
  exact ⟨rfl,uh HG⟩
 | true =>
  rw [hT] at heq
  clear hT
  go_enter Tryz.func12,Tryz.ntmps12
  go_upto_region 1 with fail
  rw [←hw1,←hw2]
  clear hw1 hw2
  go_wp2_with fail
  refine (uh cs).mono ?_
  rintro e w3 ⟨rfl,hg3⟩
  have hfin:=hide (gtr (uh HG) hg3)
  clear cs hg3
  go_wp2
  go_ret
  exact ⟨rfl,uh hfin⟩


open Go.RowKit

structure Sv.Disk (x:World) (base p bm cnt:Nat) (st:Dk.St) (o:Option Sv.C):Prop where
 mine:Dk.Mine x base p bm cnt st
 tells:Sv.tells st.f=o.map Sv.C.bytes
 ok:∀C,o=some C→C.Ok
 left:st.left≤9223372036854775807

theorem Sv.fresh_tells:Sv.tells Dk.fresh.f=none:=by
 have h:Sv.mark Dk.fresh.f=0:=rfl
 unfold Sv.tells
 rw [h,if_neg (by decide),if_neg (by decide)]

section
variable {w x y:World} {base p bm cnt:Nat} {st:Dk.St} {o:Option Sv.C}

theorem Sv.Disk.on (h:Sv.Disk x base p bm cnt st o) (hg:x.grownBy y none):Sv.Disk y base p bm cnt st o:={ h with mine:=h.mine.on hg }

theorem Sv.Disk.turn {B:Nat→Prop} (h:Sv.Disk x base p bm cnt st o) (ht:Turn B x y) (hp:¬B p) (hb:¬B bm):Sv.Disk y base p bm cnt st o:={ h with mine:=h.mine.turn ht hp hb }

theorem Sv.Disk.away (h:Sv.Disk x base p bm cnt st o) {g m:Nat} {T:TypeId} {F:Nat→Value} (hl:Lie x g T m F) (hT:T≠78):g≠p∧g≠bm:=by
 obtain ⟨M,G,hA,_,_⟩:=hl
 refine ⟨fun e=>?_,fun e=>?_⟩
 ·subst e
  obtain ⟨c1,h1,_⟩:=hA
  obtain ⟨c2,h2,_⟩:=h.mine.box
  rw [h1] at h2
  simp only [Option.some.injEq,Obj.cells.injEq] at h2
  exact hT h2.2.1
 ·subst e
  obtain ⟨D,⟨es,cl,hb,_⟩,_⟩:=Dk.Own.map h.mine
  obtain ⟨cur,hc,_⟩:=hA
  rw [hb] at hc
  cases hc

theorem Sv.lie_turn {B:Nat→Prop} {g m:Nat} {T:TypeId} {F:Nat→Value} (h:Lie x g T m F) (ht:Turn B x y) (hb:¬B g):Lie y g T m F:=by
 obtain ⟨M,G,hA,h1,h2⟩:=h
 exact ⟨M,G,hA.turn ht hb,h1,h2⟩

theorem Sv.Disk.lie (h:Sv.Disk x base p bm cnt st o) (ht:Turn (fun k=>k=p∨k=bm) x y) {g m:Nat} {T:TypeId} {F:Nat→Value} (hl:Lie x g T m F) (hT:T≠78):Lie y g T m F :=
 Sv.lie_turn hl ht (fun q=>by have:=h.away hl hT;omega)

theorem Sv.Disk.lists (h:Sv.Disk x base p bm cnt st o) (ht:Turn (fun k=>k=p∨k=bm) x y) {gC gE gI:Nat} {c:Nat→Int} {E I:Nat→Nat→Int} (hl:Gd.Lists x gC gE gI c E I):Gd.Lists y gC gE gI c E I :=
 ⟨h.lie ht hl.cells (by decide),h.lie ht hl.ents (by decide),h.lie ht hl.items (by decide)⟩

theorem Sv.Disk.page (h:Sv.Disk x base p bm cnt st o) (ht:Turn (fun k=>k=p∨k=bm) x y) {seed:Int} {k:Nat} {cs:List Value} (hp:Sn.Page x seed k cs):Sn.Page y seed k cs:=by
 obtain ⟨S,gC,gE,gI,cC,cE,cI,hc,hL,h1,h2,h3,h4⟩:=hp
 exact ⟨S,gC,gE,gI,cC,cE,cI,hc,h.lists ht hL,h1,h2,h3,h4⟩

theorem Sv.Disk.book (h:Sv.Disk x base p bm cnt st o) (ht:Turn (fun k=>k=p∨k=bm) x y) {b:Nat} {v:Value} {seed:Int} {L:List (List Value)} (hB:Sn.Book w x b v seed L):Sn.Book w y b v seed L:=by
 refine ⟨owns_turned hB.own ht (fun k e q=>?_),fun k cs hk=>h.page ht (hB.page k cs hk)⟩
 obtain ⟨m,F,hl⟩:=Sn.own_lie hB.own k e
 have:=h.away hl (by decide)
 omega

theorem Sv.Disk.start (h:Sv.Disk x base p bm cnt st o):Calls Tryz.prog 21 #[.pointer (some ⟨p,0,none⟩)] x fun e w'=>e=.returned (.tuple #[])∧Sv.Disk w' base p bm cnt ⟨st.f,st.done,-1,false⟩ o∧Turn (fun k=>k=p∨k=bm) x w':=by
 refine (Dk.mine_start base p bm cnt st x h.mine).mono ?_
 rintro e w' ⟨rfl,h1,h2⟩
 exact ⟨rfl,⟨h1,h.tells,h.ok,by simp⟩,h2⟩

theorem Sv.Disk.cut (h:Sv.Disk x base p bm cnt st o) (n:Int) (hn:n≤9223372036854775807):Calls Tryz.prog 18 #[.pointer (some ⟨p,0,none⟩),.int .i64 n] x fun e w'=>e=.returned (.tuple #[])∧Sv.Disk w' base p bm cnt ⟨st.f,st.done,n,st.dead⟩ o∧Turn (fun k=>k=p∨k=bm) x w':=by
 refine (Dk.mine_cut base p bm cnt st n x h.mine).mono ?_
 rintro e w' ⟨rfl,h1,h2⟩
 exact ⟨rfl,⟨h1,h.tells,h.ok,hn⟩,h2⟩

def Sv.Told (x:World) (o:Option Sv.C) (e:Ending) (w':World):Prop :=
 x.grownBy w' none∧match o with
  | none=>e=.returned (.tuple #[.agg Sv.void,.int .i64 2])
  | some C=>∃v,e=.returned (.tuple #[v,.int .i64 0])∧Sv.Has x w' v C

theorem Sv.Disk.load (h:Sv.Disk x base p bm cnt st o) (hc:40≤cnt) (hd:st.dead=false):Calls Tryz.prog 20 #[.pointer (some ⟨p,0,none⟩)] x (Sv.Told x o):=by
 cases o with
 | none =>
  have hn:Sv.tells st.f=none:=h.tells
  refine (svLoad_any base p bm cnt st x h.mine ⟨fun _=>0,fun _=>0,fun _=>0,fun _ _=>0,fun _ _=>0,fun _=>false⟩ (fun l e=>by rw [hn] at e;cases e)).mono ?_
  rintro e w' (⟨k,_⟩ | ⟨_,k,_⟩ | ⟨_,_,_,rfl,hg⟩ | ⟨_,_,k,_⟩)
  ·omega
  ·rw [hd] at k;cases k
  ·exact ⟨hg,rfl⟩
  ·rw [hn] at k;cases k
 | some C =>
  have hs:Sv.tells st.f=some C.bytes:=h.tells
  refine (svLoad_any base p bm cnt st x h.mine C (fun l e=>by rw [hs] at e;exact ⟨h.ok C rfl,(Option.some.inj e).symm⟩)).mono ?_
  rintro e w' (⟨k,_⟩ | ⟨_,k,_⟩ | ⟨_,_,k,_⟩ | ⟨_,_,_,_,v,rfl,hv,hg⟩)
  ·omega
  ·rw [hd] at k;cases k
  ·rw [hs] at k;cases k
  ·exact ⟨hg,v,rfl,hv⟩

theorem Sv.Disk.load_dead (h:Sv.Disk x base p bm cnt st o) (hc:40≤cnt) (hd:st.dead=true):Calls Tryz.prog 20 #[.pointer (some ⟨p,0,none⟩)] x fun e w'=>e=.returned (.tuple #[.agg Sv.void,.int .i64 11])∧x.grownBy w' none:=by
 have key:∃C:Sv.C,∀l,Sv.tells st.f=some l→C.Ok∧l=C.bytes:=by
  cases o with
  | none=>exact ⟨⟨fun _=>0,fun _=>0,fun _=>0,fun _ _=>0,fun _ _=>0,fun _=>false⟩,fun l e=>by rw [h.tells] at e;cases e⟩
  | some C=>exact ⟨C,fun l e=>by rw [h.tells] at e;exact ⟨h.ok C rfl,(Option.some.inj e).symm⟩⟩
 obtain ⟨C,hC⟩:=key
 refine (svLoad_any base p bm cnt st x h.mine C hC).mono ?_
 rintro e w' (⟨k,_⟩ | ⟨_,_,rfl,hg⟩ | ⟨_,k,_⟩ | ⟨_,k,_⟩)
 ·omega
 ·exact ⟨rfl,hg⟩
 ·rw [hd] at k;cases k
 ·rw [hd] at k;cases k

structure Sv.Kept (st:Dk.St) (o:Option Sv.C) (C:Sv.C) (r:Int) (st':Dk.St) (o':Option Sv.C):Prop where
 low:st.done≤st'.done
 high:st'.done≤st.done+16
 way:(r=0∧st'.dead=false∧o'=some C∧(st.left<0→st'.left<0))∨(r=11∧st'.dead=true∧o'=o∧0≤st.left)

theorem Sv.Disk.save (h:Sv.Disk x base p bm cnt st o) (hc:40≤cnt) (hd:st.dead=false) (hdone:st.done≤1073741824) {C:Sv.C} (hC:C.Ok) {gC gE gI cC cE cI:Nat} (hcE:32≤cE) (hL:Gd.Lists x gC gE gI C.c C.E C.I) :
  Calls Tryz.prog 19 #[.pointer (some ⟨p,0,none⟩),.agg (Sv.camp C.s gC gE gI cC cE cI C.g C.t)] x fun e w'=>∃r st' o',e=.returned (.int .i64 r)∧Sv.Disk w' base p bm cnt st' o'∧Sv.Kept st o C r st' o'∧Turn (fun k=>k=p∨k=bm) x w':=by
 refine (svSave_any base p bm cnt st C.s C.g C.c C.E C.I C.t 0 gC gE gI cC cE cI x h.mine h.left hdone hL hC.byte hcE hC.chk).mono ?_
 have hb:Sv.seats C.t 4 :: Sn.bytes C.s C.g C.c C.E C.I=C.bytes:=rfl
 have hr:Sv.saveR cnt st 0 C.bytes=Sv.saves cnt st C.bytes:=by
  unfold Sv.saveR
  rw [if_neg (by omega),if_neg (by simp)]
 rw [hb,hr]
 have hs:=Sv.saved (cnt:=cnt) (l:=C.bytes) hd h.left hc C.len
 obtain ⟨a,ha⟩:∃a,Sv.saves cnt st C.bytes=a:=⟨_,rfl⟩
 rw [ha] at hs ⊢
 rintro e w' ⟨rfl,hm,ht⟩
 rcases hs.way with ⟨h1,h2,h3,h4⟩ | ⟨h1,h2,h3,h4⟩
 ·exact ⟨a.1,a.2,some C,rfl,⟨hm,h3,fun D e=>by cases e;exact hC,hs.left⟩,⟨hs.low,hs.high,.inl ⟨h1,h2,rfl,h4⟩⟩,ht⟩
 ·exact ⟨a.1,a.2,o,rfl,⟨hm,h3.trans h.tells,h.ok,hs.left⟩,⟨hs.low,hs.high,.inr ⟨h1,h2,rfl,h4⟩⟩,ht⟩

theorem Sv.Disk.save_dead (h:Sv.Disk x base p bm cnt st o) (hc:40≤cnt) (hd:st.dead=true) (hdone:st.done≤1073741824) {C:Sv.C} (hC:C.Ok) {gC gE gI cC cE cI:Nat} (hcE:32≤cE) (hL:Gd.Lists x gC gE gI C.c C.E C.I) :
  Calls Tryz.prog 19 #[.pointer (some ⟨p,0,none⟩),.agg (Sv.camp C.s gC gE gI cC cE cI C.g C.t)] x fun e w'=>e=.returned (.int .i64 11)∧Sv.Disk w' base p bm cnt st o∧Turn (fun k=>k=p∨k=bm) x w':=by
 refine (svSave_any base p bm cnt st C.s C.g C.c C.E C.I C.t 0 gC gE gI cC cE cI x h.mine h.left hdone hL hC.byte hcE hC.chk).mono ?_
 have hr:Sv.saveR cnt st 0 (Sv.seats C.t 4 :: Sn.bytes C.s C.g C.c C.E C.I)=(11,st):=by
  unfold Sv.saveR
  rw [if_neg (by omega),if_neg (by simp),Sv.saves_dead _ _ _ hd]
 rw [hr]
 rintro e w' ⟨rfl,hm,ht⟩
 exact ⟨rfl,{ h with mine:=hm },ht⟩

end

theorem Sv.page_ok {S:Cr.W} {seed:Int} {k:Nat} (t:Nat→Bool) (hG:Cr.Good S) (h0:S.s 0=seed) (h1:S.s 1=(k:Int)) (hk:k≤31) (hs:-9223372036854775808≤seed∧seed≤9223372036854775807):Sv.C.Ok ⟨S.s,S.g,S.c,S.E,S.I,t⟩ :=
 ⟨Sn.chk_good hG (by show 0≤S.s 1;omega) (by show S.s 1<1073741824;omega),(show -9223372036854775808≤S.s 0∧S.s 0<9223372036854775808 by omega),hG.sane.fit.cells⟩


open Go.RowKit

set_option maxHeartbeats 400000 in
theorem within14_any (a n:Int) (w:World) (hn:0<n) (hn2:n≤4611686018427387904) :
  Calls Tryz.prog 13 #[.int .i64 a,.int .i64 n] w fun e w'=>e=.returned (.int .i64 (a % n))∧w'=w:=by
 have t1:=Int.tmod_lt_of_pos a (b:=n) hn
 have t2:=Int.lt_tmod_of_pos a (b:=n) hn
 have hn0:(n == 0)=false:=by simp;omega
 by_cases h:a.tmod n<0
 ·have ha:¬0≤a:=by
   intro h0
   have:=Int.tmod_nonneg n h0
   omega
  have hd:=hide (Gr.within_neg a n hn h)
  go_enter Tryz.func13,Tryz.ntmps13
  go_wp2
  go_ret
  exact ⟨rti (uh hd),rfl⟩
 ·have hd:=hide (Gr.within_pos a n hn h)
  by_cases ha:0≤a
  ·have e:a.tmod n=a % n:=Int.tmod_eq_emod_of_nonneg ha
   have h':¬a % n<0:=by rw [←e];exact h
   clear h t1 t2 e
   go_enter Tryz.func13,Tryz.ntmps13
   go_wp2
   go_ret
   exact ⟨rfl,rfl⟩
  ·go_enter Tryz.func13,Tryz.ntmps13
   go_wp2
   go_ret
   exact ⟨rti (uh hd),rfl⟩

def Sv.Tale (w:World) (e:Ending) (w':World):Prop :=
 ∃(C:Sv.C) (gC gE gI cC cE cI:Nat),e=.returned (.agg (Sv.camp C.s gC gE gI cC cE cI C.g C.t))∧32≤cE∧Gd.Lists w' gC gE gI C.c C.E C.I∧C.Ok∧w.grownBy w' none

set_option maxRecDepth 16000 in
set_option maxHeartbeats 6400000 in
theorem svCampaign_any {w0 w:World} {base:Nat} {v:Value} {seed:Int} {L:List (List Value)} (hB:Sn.Book w0 w base v seed L) (h0:0<L.length) (h31:L.length≤31) (hs:-9223372036854775808≤seed∧seed≤9223372036854775807) (n:Int) (hn:-9223372036854775808≤n∧n≤9223372036854775807) :
  Calls Tryz.prog 7 #[v,.int .i64 n] w (Sv.Tale w):=by
 have hk0:=Int.emod_nonneg n (show (L.length:Int)≠0 by omega)
 have hk1:=Int.emod_lt_of_pos n (show (0:Int)<(L.length:Int) by omega)
 obtain ⟨k,hk⟩:∃k:Nat,n % (L.length:Int)=(k:Int):=⟨(n % (L.length:Int)).toNat,by omega⟩
 have hkL:k<L.length:=by omega
 obtain ⟨q,cap,rfl,hq,hcap,S,gC,gE,gI,cC,cE,cI,hcell,hL,hcE,hG,hs0,hs1⟩:=hB.at hkL
 have hw:=hide (within14_any n L.length w (by omega) (by omega))
 rw [hk] at hw
 obtain ⟨w1,hw1⟩:∃x,x=w.alloc (.cells Sv.void 33):=⟨_,rfl⟩
 have hg1:w.grownBy w1 none:=by rw [hw1];exact World.grownBy_alloc _ _ _
 obtain ⟨P,hP⟩:∃P,w.heap.size=P:=⟨_,rfl⟩
 have hR:Lie w1 P 33 15 Sv.voids:=by
  rw [hw1,←hP]
  exact Sv.void_lie w
 have hs1':w1.heap.size=P+1:=by rw [hw1,←hP];simp
 have qlt:q<w.heap.size:=(hB.own.lt q rfl).2
 have k0:w1.cell? ⟨q,k*11,none⟩=some (Gd.box S.s gC gE gI cC cE cI S.g 0):=(gce hg1 q (k*11) qlt (by simp)).trans (by simpa using hcell 0 (by omega))
 have kk:∀j,j<11→w1.cell? ⟨q,k*11+j,none⟩=some (Gd.box S.s gC gE gI cC cE cI S.g j):=fun j hj=>(gce hg1 q (k*11+j) qlt (by simp)).trans (hcell j hj)
 have k1:=kk 1 (by omega)
 have k2:=kk 2 (by omega)
 have k3:=kk 3 (by omega)
 have k4:=kk 4 (by omega)
 have k5:=kk 5 (by omega)
 have k6:=kk 6 (by omega)
 have k7:=kk 7 (by omega)
 have k8:=kk 8 (by omega)
 have k9:=kk 9 (by omega)
 have k10:=kk 10 (by omega)
 dsimp only [Gd.box] at k0 k1 k2 k3 k4 k5 k6 k7 k8 k9 k10
 obtain ⟨w2,hw2⟩:∃z,z=w1.alloc (.cells (Sv.camp S.s gC gE gI cC cE cI S.g (fun _=>false)) 33):=⟨_,rfl⟩
 have hg2:w1.grownBy w2 none:=by rw [hw2];exact World.grownBy_alloc _ _ _
 have hC:Hid (Lie w2 (P+1) 33 15 (Sv.box S.s gC gE gI cC cE cI S.g (fun _=>false))):=by
  show Lie w2 _ _ _ _
  rw [hw2,←hs1']
  exact Sv.camp_lie (heap_alloc_new w1 _)
 have HR:=hide (hR.on hg2)
 have HL:=hide (hL.on (gtr hg1 hg2))
 have HG:=hide (gtr hg1 hg2)
 have HP:=hide hP
 have hok:Hid (∀t,Sv.C.Ok ⟨S.s,S.g,S.c,S.E,S.I,t⟩):=fun t=>Sv.page_ok t hG hs0 hs1 (by omega) hs
 have i1:(k:Int)<(L.length:Int):=by omega
 have i2:(L.length:Int)≤31:=by omega
 have HCE:=hide hcE
 have hn1:=hn.1
 have hn2:=hn.2
 have hwx:=hide (fun y (_:w.grownBy y none)=>within14_any n L.length y (by omega) (by omega))
 rw [hk] at hwx
 obtain ⟨ln,hln⟩:∃m,L.length=m:=⟨_,rfl⟩
 rw [hln] at hwx i1 i2 ⊢
 clear hB h0 h31 hk0 hk1 hkL hq hcap hcell hL hcE hG hs0 hs1 hR hP hg2 qlt kk hk hw hn hs hln
 unfold Sv.void at hw1
 unfold Sv.camp at hw2
 go_enter Tryz.func7,Tryz.ntmps7
 go_upto_region 1 with fail
 rw [←hw1,uh HP]
 clear hw1
 go_wp2_with fail
 refine (uh hwx _ hg1).mono ?_
 rintro e wq ⟨rfl,hq⟩
 obtain rfl:w1=wq:=hq.symm
 clear hwx hq
 go_upto_region 2 with fail
 rw [←hw2]
 clear hw2 hs1' k0 k1 k2 k3 k4 k5 k6 k7 k8 k9 k10 i1 i2 hg1
 obtain ⟨B,hBe⟩:∃B,P+1=B:=⟨_,rfl⟩
 rw [hBe] at hC ⊢
 have hne:Hid (gC≠B∧gE≠B∧gI≠B):=⟨(uh HL).cells.type_ne (uh hC) (by decide),(uh HL).ents.type_ne (uh hC) (by decide),(uh HL).items.type_ne (uh hC) (by decide)⟩
 have HB:=hide hBe
 clear hBe
 have hX0:Hid (∃t,Lie w2 B 33 15 (Sv.box S.s gC gE gI cC cE cI S.g t)∧Turn (fun k=>k=B) w2 w2):=⟨_,uh hC,Turn.refl _ _⟩
 clear hC
 go_wp2_with fail
 go_loopw [6] (fun vi wr=>∃i:Nat,i≤4∧vi=.int .i64 (i:Int)∧Hid (∃t,Lie wr B 33 15 (Sv.box S.s gC gE gI cC cE cI S.g t)∧Turn (fun k=>k=B) w2 wr)) (fun vi _=>10 - (intOf vi).toNat)
 case atStart=>exact ⟨0,by omega,rfl,hX0⟩
 case round =>
  clear hX0
  obtain ⟨i,hi,rfl,hX⟩:=hrel
  obtain ⟨t,hX1,hX2⟩:=uh hX
  clear hX
  by_cases hlt:i<4
  ·have HLT:=hide hlt
   have hlt':(i:Int)<4:=by omega
   have hl0:(0:Int)≤(i:Int):=by omega
   have u1:wr.cell? ⟨B,11+i,none⟩=some (.bool (t i)):=by
    rw [hX1.cell (c:=11+i) (by omega)]
    unfold Sv.box
    rw [if_neg (by omega),show 11+i - 11=i by omega]
   have fC:=hX1.free
   have hn:Hid (∀b,∃t,Lie (wr.setCell ⟨B,11+i,none⟩ (.bool b)) B 33 15 (Sv.box S.s gC gE gI cC cE cI S.g t)∧Turn (fun k=>k=B) w2 (wr.setCell ⟨B,11+i,none⟩ (.bool b))):=fun b =>
    ⟨fun j=>if j=i then b else t j,Sv.seat_store hX1 b (t':=fun j=>if j=i then b else t j) hlt (if_pos rfl) (fun j _ hne=>if_neg hne),hX2.store B (11+i) (.bool b) rfl⟩
   clear hlt hi hX1 hX2
   go_wp2
   go_roundw
   case rel=>exact ⟨i+1,by have:=uh HLT;omega,by go_num,uh hn _⟩
   case measure=>simp [intOf];have:=uh HLT;omega
  ·obtain rfl:i=4:=by omega
   have hge:¬((4:Nat):Int)<4:=by omega
   obtain ⟨⟨b0,b1,b2,b3,b4,b5,b6,b7,b8,b9,b10⟩,b11,b12,b13,b14⟩:=Sv.fifteen hX1
   have hgr:w2.grownBy wr (some B):=⟨hX2.os,hX2.tape,hX2.output,hX2.size,fun k hk hn=>hX2.block k hk (fun e=>hn (by rw [e]))⟩
   have hR4:Lie wr P 33 15 Sv.voids:=(uh HR).grown hgr (by have:=uh HB;simp;omega)
   have fz:=hR4.free
   obtain ⟨z0,z1,z2,z3,z4,z5,z6,z7,z8,z9,z10,z11,z12,z13,z14⟩:=Sv.void_cells hR4
   have hfo:Hid (∀vs,Sv.Tale w (.returned (.agg (Sv.camp S.s gC gE gI cC cE cI S.g t))) (wr.setCells P 0 vs)):=fun vs=>by
    have hl:=uh HL
    have hlt:w.heap.size≤B:=by have:=uh HP;have:=uh HB;omega
    obtain ⟨m1,m2,m3⟩:=uh hne
    have key:Gd.Lists wr gC gE gI S.c S.E S.I:=⟨hl.cells.grown hgr (by simp;omega),hl.ents.grown hgr (by simp;omega),hl.items.grown hgr (by simp;omega)⟩
    exact ⟨⟨S.s,S.g,S.c,S.E,S.I,t⟩,gC,gE,gI,cC,cE,cI,rfl,uh HCE,⟨key.cells.others (hR4.type_ne key.cells (by decide)) _ _,key.ents.others (hR4.type_ne key.ents (by decide)) _ _,key.items.others (hR4.type_ne key.items (by decide)) _ _⟩,uh hok t,own_sets (by have:=uh HP;omega) vs 0 wr (gow (uh HG) hgr (fun k e=>by cases e;exact hlt))⟩
   clear hX1 hX2 hR4 hlt hi hgr
   go_wp2
   refine bodyPost_ret (v:=.agg (Sv.camp S.s gC gE gI cC cE cI S.g t)) (by simp [results,Tryz.results7,go_sem,Sv.camp,z0,z1,z2,z3,z4,z5,z6,z7,z8,z9,z10,z11,z12,z13,z14]) rfl ?_
   exact uh hfo [_,_,_,_,_,_,_,_,_,_,_,_,_,_,_]


open Go.RowKit

theorem Sv.voids_same (w:World):Calls Tryz.prog 15 #[.agg Sn.void,.agg Sn.void] w (Says w (.bool true)) :=
 same7_alike (fun _=>0) (fun _=>0) (fun _=>0) (fun _ _=>0) (fun _ _=>0) _ _ _ _ _ _ 0 0 0 w ⟨.inl ⟨rfl,rfl⟩,.inl ⟨rfl,rfl⟩,.inl ⟨rfl,rfl⟩,fun _ _ _ e=>by cases e;exact Nat.le_refl _⟩ ⟨.inl ⟨rfl,rfl⟩,.inl ⟨rfl,rfl⟩,.inl ⟨rfl,rfl⟩,fun _ _ _ e=>by cases e;exact Nat.le_refl _⟩ (by omega) (by omega)

set_option maxRecDepth 16000 in
set_option maxHeartbeats 6400000 in
theorem svSame_void (w:World):Calls Tryz.prog 12 #[.agg Sv.void,.agg Sv.void] w (Says w (.bool true)):=by
 obtain ⟨w1,hw1⟩:∃x,x=w.alloc (.cells Sv.void 33):=⟨_,rfl⟩
 obtain ⟨w2,hw2⟩:∃x,x=w1.alloc (.cells Sv.void 33):=⟨_,rfl⟩
 have hg1:w.grownBy w1 none:=by rw [hw1];exact World.grownBy_alloc _ _ _
 have hg2:w1.grownBy w2 none:=by rw [hw2];exact World.grownBy_alloc _ _ _
 have hA:Lie w2 w.heap.size 33 15 Sv.voids:=by
  have h:Lie w1 w.heap.size 33 15 Sv.voids:=by rw [hw1];exact Sv.void_lie w
  exact h.on hg2
 have hB:Lie w2 w1.heap.size 33 15 Sv.voids:=by rw [hw2];exact Sv.void_lie w1
 have cs:=hide (Sv.voids_same w2)
 have heq:∀d wx,(Op.equalIn (d+2) 31 (.agg #[.bool false,.bool false,.bool false,.bool false]) (.agg #[.bool false,.bool false,.bool false,.bool false])).run Tryz.prog wx=.ok true wx:=fun d wx=>run_equal_seats d (fun _=>false) (fun _=>false) wx
 have hs1:w1.heap.size=w.heap.size+1:=by rw [hw1];simp
 obtain ⟨a0,a1,a2,a3,a4,a5,a6,a7,a8,a9,a10,a11,a12,a13,a14⟩:=Sv.void_cells hA
 obtain ⟨b0,b1,b2,b3,b4,b5,b6,b7,b8,b9,b10,b11,b12,b13,b14⟩:=Sv.void_cells hB
 have HG:=hide (gtr hg1 hg2)
 obtain ⟨B1,hB1⟩:∃B,w.heap.size=B:=⟨_,rfl⟩
 rw [hB1] at a0 a1 a2 a3 a4 a5 a6 a7 a8 a9 a10 a11 a12 a13 a14 hs1
 rw [hs1] at b0 b1 b2 b3 b4 b5 b6 b7 b8 b9 b10 b11 b12 b13 b14
 clear hg1 hg2 hA hB hs1
 unfold Sv.void at hw1 hw2 ⊢
 unfold Sn.void at cs
 go_enter Tryz.func12,Tryz.ntmps12
 go_upto_region 1 with fail
 rw [←hw1,←hw2]
 clear hw1 hw2
 go_wp2_with fail
 refine (uh cs).mono ?_
 rintro e w3 ⟨rfl,hg3⟩
 have hfin:=hide (gtr (uh HG) hg3)
 clear cs hg3
 go_wp2
 go_ret
 exact ⟨rfl,uh hfin⟩

set_option maxRecDepth 16000 in
set_option maxHeartbeats 12800000 in
theorem known14_any (w:World):Calls Tryz.prog 6 #[] w (Says w (.bool true)):=by
 have cN:=hide (Dk.mine_new 40 w (by omega) (by omega))
 go_enter Tryz.func6,Tryz.ntmps6
 go_wp2_with fail
 refine (uh cN).mono ?_
 rintro e x1 ⟨p,bm,rfl,hM,hg1⟩
 have hD1:Sv.Disk x1 w.heap.size p bm 40 Dk.fresh none:=⟨hM,Sv.fresh_tells,fun C e=>(by cases e),by simp [Dk.fresh]⟩
 have D1:=hide hD1
 have G1:=hide hg1
 have lo:=hide (And.intro hM.low hM.lowb)
 have cl:=hide (hD1.load (by omega) rfl)
 clear cN hM hg1 hD1
 go_wp2_with fail
 refine (uh cl).mono ?_
 rintro e x2 ⟨hg2,he⟩
 simp only at he
 subst he
 obtain ⟨x3,hx3⟩:∃x,x=x2.alloc (.cells Sv.void 33):=⟨_,rfl⟩
 have hg3:x2.grownBy x3 none:=by rw [hx3];exact World.grownBy_alloc _ _ _
 have D3:=hide (((uh D1).on hg2).on hg3)
 have G3:=hide (gtr (uh G1) (gtr hg2 hg3))
 have cs:=hide (story_any 1 none 0 0 (fun _=>(none,0,0)) (fun _ _=>0) x3 ⟨Nat.zero_le _,fun i hi=>absurd hi (Nat.not_lt_zero i)⟩)
 clear cl hg2 hg3 D1 G1
 unfold Sv.void at hx3 ⊢
 go_upto_region 5 with fail
 rw [←hx3]
 clear hx3
 obtain ⟨B3,hB3⟩:∃B,x2.heap.size=B:=⟨_,rfl⟩
 rw [hB3]
 clear hB3 x2
 go_wp2_with fail
 refine (uh cs).mono ?_
 rintro e x4 ⟨v,base,L,rfl,hbase,hL0,hL31,hBk,hg4⟩
 obtain ⟨q,cap,rfl,hq,hcap,S,gC,gE,gI,cC,cE,cI,hcell,hLs,hcE,hGood,hs0,hs1⟩:=hBk.at (k:=0) hL0
 have i1:(0:Int)<(L.length:Int):=by omega
 have k0:x4.cell? ⟨q,0,none⟩=some (Gd.box S.s gC gE gI cC cE cI S.g 0):=by simpa using hcell 0 (by omega)
 have k1:x4.cell? ⟨q,1,none⟩=some (Gd.box S.s gC gE gI cC cE cI S.g 1):=by simpa using hcell 1 (by omega)
 have k2:x4.cell? ⟨q,2,none⟩=some (Gd.box S.s gC gE gI cC cE cI S.g 2):=by simpa using hcell 2 (by omega)
 have k3:x4.cell? ⟨q,3,none⟩=some (Gd.box S.s gC gE gI cC cE cI S.g 3):=by simpa using hcell 3 (by omega)
 have k4:x4.cell? ⟨q,4,none⟩=some (Gd.box S.s gC gE gI cC cE cI S.g 4):=by simpa using hcell 4 (by omega)
 have k5:x4.cell? ⟨q,5,none⟩=some (Gd.box S.s gC gE gI cC cE cI S.g 5):=by simpa using hcell 5 (by omega)
 have k6:x4.cell? ⟨q,6,none⟩=some (Gd.box S.s gC gE gI cC cE cI S.g 6):=by simpa using hcell 6 (by omega)
 have k7:x4.cell? ⟨q,7,none⟩=some (Gd.box S.s gC gE gI cC cE cI S.g 7):=by simpa using hcell 7 (by omega)
 have k8:x4.cell? ⟨q,8,none⟩=some (Gd.box S.s gC gE gI cC cE cI S.g 8):=by simpa using hcell 8 (by omega)
 have k9:x4.cell? ⟨q,9,none⟩=some (Gd.box S.s gC gE gI cC cE cI S.g 9):=by simpa using hcell 9 (by omega)
 have k10:x4.cell? ⟨q,10,none⟩=some (Gd.box S.s gC gE gI cC cE cI S.g 10):=by simpa using hcell 10 (by omega)
 dsimp only [Gd.box] at k0 k1 k2 k3 k4 k5 k6 k7 k8 k9 k10
 obtain ⟨x5,hx5⟩:∃x,x=x4.alloc (.cells (Sv.camp S.s gC gE gI cC cE cI S.g (fun _=>false)) 33):=⟨_,rfl⟩
 have hg5:x4.grownBy x5 none:=by rw [hx5];exact World.grownBy_alloc _ _ _
 have hC:Hid (Lie x5 x4.heap.size 33 15 (Sv.box S.s gC gE gI cC cE cI S.g (fun _=>false))):=by
  show Lie x5 _ _ _ _
  rw [hx5]
  exact Sv.camp_lie (heap_alloc_new x4 _)
 have hok:Hid (Sv.C.Ok ⟨S.s,S.g,S.c,S.E,S.I,fun j=>decide (j=2)⟩):=Sv.page_ok _ hGood hs0 hs1 (by omega) (by omega)
 have D5:=hide (((uh D3).on hg4).on hg5)
 have G5:=hide (gtr (uh G3) (gtr hg4 hg5))
 have L5:=hide (hLs.on hg5)
 have HCE:=hide hcE
 have hw4:=hide (gtr (uh G3) hg4).size
 clear cs hbase hL0 hL31 hBk hg4 hq hcap hcell hLs hcE hGood hs0 hs1 hg5 D3 G3
 unfold Sv.camp at hx5
 go_upto_region 6 with fail
 rw [←hx5]
 clear hx5 k0 k1 k2 k3 k4 k5 k6 k7 k8 k9 k10 i1
 obtain ⟨B,hBe⟩:∃B,x4.heap.size=B:=⟨_,rfl⟩
 have hBw:Hid (w.heap.size≤B∧B≠p∧B≠bm):=by
  have h1:=(uh D5).away (uh hC) (by decide)
  rw [hBe] at h1
  rw [←hBe]
  exact ⟨uh hw4,by omega⟩
 rw [hBe] at hC ⊢
 clear hBe hw4 x4
 have hC2:Hid (Lie (x5.setCell ⟨B,13,none⟩ (.bool true)) B 33 15 (Sv.box S.s gC gE gI cC cE cI S.g (fun j=>decide (j=2)))):=Sv.seat_store (i:=2) (uh hC) true (by omega) rfl (fun j _ hne=>decide_eq_false hne)
 have gB:w.grownBy (x5.setCell ⟨B,13,none⟩ (.bool true)) none:=gsr (uh G5) ⟨B,13,none⟩ (uh hBw).1 _
 have tB:Turn (fun k=>k=B) x5 (x5.setCell ⟨B,13,none⟩ (.bool true)):=(Turn.refl _ _).store B 13 _ rfl
 have D6:=hide ((uh D5).turn tB (by have:=(uh hBw).2.1;omega) (by have:=(uh hBw).2.2;omega))
 have L6:Hid (Gd.Lists (x5.setCell ⟨B,13,none⟩ (.bool true)) gC gE gI S.c S.E S.I):=by
  have hl:=uh L5
  have hc:=uh hC
  exact ⟨hl.cells.other (hc.type_ne hl.cells (by decide)) _ _,hl.ents.other (hc.type_ne hl.ents (by decide)) _ _,hl.items.other (hc.type_ne hl.items (by decide)) _ _⟩
 have G6:=hide gB
 have fB:=(uh hC).free
 have u13:x5.cell? ⟨B,13,none⟩=some (.bool false):=(uh hC).cell (c:=13) (by omega)
 clear gB tB hC D5 G5 L5
 go_upto_region 7 with fail
 obtain ⟨x6,hx6⟩:∃x,x5.setCell ⟨B,13,none⟩ (.bool true)=x:=⟨_,rfl⟩
 rw [hx6] at hC2 D6 L6 G6 ⊢
 clear hx6 u13 fB x5
 obtain ⟨⟨b0,b1,b2,b3,b4,b5,b6,b7,b8,b9,b10⟩,b11,b12,b13,b14⟩:=Sv.fifteen (uh hC2)
 have cv:=hide (Sv.Disk.save (cC:=cC) (cE:=cE) (cI:=cI) (uh D6) (by omega) rfl (by decide) (uh hok) (uh HCE) (uh L6))
 have e0:decide ((0:Nat)=2)=false∧decide ((1:Nat)=2)=false∧decide ((2:Nat)=2)=true∧decide ((3:Nat)=2)=false:=⟨rfl,rfl,rfl,rfl⟩
 rw [e0.1] at b11
 rw [e0.2.1] at b12
 rw [e0.2.2.1] at b13
 rw [e0.2.2.2] at b14
 unfold Sv.camp at cv
 simp only [e0.1,e0.2.1,e0.2.2.2] at cv
 clear e0
 go_wp2_with fail
 refine (uh cv).mono ?_
 rintro e x7 ⟨r,st',o',rfl,hD7,hK7,ht7⟩
 rcases hK7.way with ⟨rfl,hdead,rfl,-⟩ | ⟨-,-,-,k4⟩
 case inr=>exact absurd k4 (by simp [Dk.fresh])
 have cl:=hide (hD7.load (by omega) hdead)
 have hC7:=hide ((uh D6).lie ht7 (uh hC2) (by decide))
 have L7:=hide ((uh D6).lists ht7 (uh L6))
 have B7:Hid (w.grownBy x7 none):=(Dk.still (Turn.new (uh G6)) ht7 (uh lo).1 (uh lo).2).grownBy
 have heq:∀d wx,(Op.equalIn (d+2) 31 (.agg #[.bool false,.bool false,.bool true,.bool false]) (.agg #[.bool false,.bool false,.bool true,.bool false])).run Tryz.prog wx=.ok true wx:=fun d wx=>run_equal_seats d (fun j=>decide (j=2)) (fun j=>decide (j=2)) wx
 clear cv hD7 hK7 ht7 hdead D6 L6 hC2 G6 b0 b1 b2 b3 b4 b5 b6 b7 b8 b9 b10 b11 b12 b13 b14
 go_wp2_with fail
 refine (uh cl).mono ?_
 rintro e x8 ⟨hg8,v,rfl,jC,jE,jI,dC,dE,dI,hv,-,-,-,-,hL8⟩
 obtain rfl:v=.agg #[.int .i64 (S.s 0),.int .i64 (S.s 1),.int .i64 (S.s 2),.int .i64 (S.s 3),.slice (some ⟨jC,0,none⟩) 384 dC,.slice (some ⟨jE,0,none⟩) 32 dE,.slice (some ⟨jI,0,none⟩) 40 dI,.int .i64 (S.g 0),.int .i64 (S.g 1),.int .i64 (S.g 2),.int .i64 (S.g 3),.bool false,.bool false,.bool true,.bool false]:=hv
 obtain ⟨x9,hx9⟩:∃x,x=x8.alloc (.cells #[.int .i64 (S.s 0),.int .i64 (S.s 1),.int .i64 (S.s 2),.int .i64 (S.s 3),.slice (some ⟨jC,0,none⟩) 384 dC,.slice (some ⟨jE,0,none⟩) 32 dE,.slice (some ⟨jI,0,none⟩) 40 dI,.int .i64 (S.g 0),.int .i64 (S.g 1),.int .i64 (S.g 2),.int .i64 (S.g 3),.bool false,.bool false,.bool true,.bool false] 33):=⟨_,rfl⟩
 have hg9:x8.grownBy x9 none:=by rw [hx9];exact World.grownBy_alloc _ _ _
 have hE:Lie x9 x8.heap.size 33 15 (Sv.box S.s jC jE jI dC dE dI S.g (fun j=>decide (j=2))):=by rw [hx9];exact Sv.camp_lie (s:=S.s) (g:=S.g) (t:=fun j=>decide (j=2)) (heap_alloc_new x8 _)
 obtain ⟨⟨b0,b1,b2,b3,b4,b5,b6,b7,b8,b9,b10⟩,b11,b12,b13,b14⟩:=Sv.fifteen ((uh hC7).on (gtr hg8 hg9))
 obtain ⟨⟨a0,a1,a2,a3,a4,a5,a6,a7,a8,a9,a10⟩,a11,a12,a13,a14⟩:=Sv.fifteen hE
 have e0:decide ((0:Nat)=2)=false∧decide ((1:Nat)=2)=false∧decide ((2:Nat)=2)=true∧decide ((3:Nat)=2)=false:=⟨rfl,rfl,rfl,rfl⟩
 rw [e0.1] at b11 a11
 rw [e0.2.1] at b12 a12
 rw [e0.2.2.1] at b13 a13
 rw [e0.2.2.2] at b14 a14
 have cq:=hide (same7_any S.s S.g S.c S.E S.I jC jE jI dC dE dI gC gE gI cC cE cI x9 (hL8.on hg9) ((uh L7).on (gtr hg8 hg9)))
 have B9:=hide (gtr (uh B7) (gtr hg8 hg9))
 unfold Gd.world at cq
 clear cl hg8 hg9 hE hL8 e0 L7 hC7 B7
 go_upto_region 9 with fail
 rw [←hx9]
 clear hx9
 obtain ⟨B8,hB8⟩:∃B,x8.heap.size=B:=⟨_,rfl⟩
 rw [hB8] at a0 a1 a2 a3 a4 a5 a6 a7 a8 a9 a10 a11 a12 a13 a14
 rw [hB8]
 clear hB8 x8
 go_wp2_with fail
 refine (uh cq).mono ?_
 rintro e x10 ⟨rfl,hg10⟩
 have hfin:=hide (gtr (uh B9) hg10)
 clear cq hg10 a0 a1 a2 a3 a4 a5 a6 a7 a8 a9 a10 a11 a12 a13 a14 b0 b1 b2 b3 b4 b5 b6 b7 b8 b9 b10 b11 b12 b13 b14
 go_wp2
 go_ret
 exact ⟨rfl,uh hfin⟩


open Go.RowKit

theorem Sv.wfs {a:Int} (h:(Lit.int .i64 a).wf=true):-9223372036854775808≤a∧a≤9223372036854775807:=by
 simp only [Lit.wf,Bool.and_eq_true,decide_eq_true_eq,show IntKind.i64.min=-9223372036854775808 from by decide,show IntKind.i64.max=9223372036854775807 from by decide] at h
 exact h

structure Sv.Row (w x:World) (base0 base p bm cnt:Nat) (st:Dk.St) (o:Option Sv.C) (v:Value) (seed:Int) (L:List (List Value)) (w0:World):Prop where
 disk:Sv.Disk x base p bm cnt st o
 book:Sn.Book w0 x base0 v seed L
 grown:w.grownBy x none
 dead:st.dead=false

theorem Sv.Row.on {w x y:World} {base0 base p bm cnt:Nat} {st:Dk.St} {o:Option Sv.C} {v:Value} {seed:Int} {L:List (List Value)} {w0:World} (h:Sv.Row w x base0 base p bm cnt st o v seed L w0) (hg:x.grownBy y none):Sv.Row w y base0 base p bm cnt st o v seed L w0 :=
 ⟨h.disk.on hg,h.book.on hg,gtr h.grown hg,h.dead⟩


open Go.RowKit

def Sv.nest (x:World) (T:Nat) (s:Nat→Int) (gC gE gI cC cE cI:Nat) (g:Nat→Int) (t:Nat→Bool):World:=(((((((((((((((x.setCell ⟨T,0,none⟩ (.int .i64 (s 0))).setCell ⟨T,1,none⟩ (.int .i64 (s 1))).setCell ⟨T,2,none⟩ (.int .i64 (s 2))).setCell ⟨T,3,none⟩ (.int .i64 (s 3))).setCell ⟨T,4,none⟩ (.slice (some ⟨gC,0,none⟩) 384 cC)).setCell ⟨T,5,none⟩ (.slice (some ⟨gE,0,none⟩) 32 cE)).setCell ⟨T,6,none⟩ (.slice (some ⟨gI,0,none⟩) 40 cI)).setCell ⟨T,7,none⟩ (.int .i64 (g 0))).setCell ⟨T,8,none⟩ (.int .i64 (g 1))).setCell ⟨T,9,none⟩ (.int .i64 (g 2))).setCell ⟨T,10,none⟩ (.int .i64 (g 3))).setCell ⟨T,11,none⟩ (.bool (t 0))).setCell ⟨T,12,none⟩ (.bool (t 1))).setCell ⟨T,13,none⟩ (.bool (t 2))).setCell ⟨T,14,none⟩ (.bool (t 3)))

theorem Sv.now_nest {x:World} {T:Nat} {K:Nat→Value} (h:Lie x T 33 15 K) (s:Nat→Int) (gC gE gI cC cE cI:Nat) (g:Nat→Int) (t:Nat→Bool) :
  Lie (Sv.nest x T s gC gE gI cC cE cI g t) T 33 15 (Sv.box s gC gE gI cC cE cI g t)∧Turn (fun k=>k=T) x (Sv.nest x T s gC gE gI cC cE cI g t):=by
 have ht:Turn (fun k=>k=T) x (((((((((((((((x.setCell ⟨T,0,none⟩ (.int .i64 (s 0))).setCell ⟨T,1,none⟩ (.int .i64 (s 1))).setCell ⟨T,2,none⟩ (.int .i64 (s 2))).setCell ⟨T,3,none⟩ (.int .i64 (s 3))).setCell ⟨T,4,none⟩ (.slice (some ⟨gC,0,none⟩) 384 cC)).setCell ⟨T,5,none⟩ (.slice (some ⟨gE,0,none⟩) 32 cE)).setCell ⟨T,6,none⟩ (.slice (some ⟨gI,0,none⟩) 40 cI)).setCell ⟨T,7,none⟩ (.int .i64 (g 0))).setCell ⟨T,8,none⟩ (.int .i64 (g 1))).setCell ⟨T,9,none⟩ (.int .i64 (g 2))).setCell ⟨T,10,none⟩ (.int .i64 (g 3))).setCell ⟨T,11,none⟩ (.bool (t 0))).setCell ⟨T,12,none⟩ (.bool (t 1))).setCell ⟨T,13,none⟩ (.bool (t 2))).setCell ⟨T,14,none⟩ (.bool (t 3))):=by
  exact (((((((((((((((Turn.refl (fun k=>k=T) x).store T 0 _ rfl).store T 1 _ rfl).store T 2 _ rfl).store T 3 _ rfl).store T 4 _ rfl).store T 5 _ rfl).store T 6 _ rfl).store T 7 _ rfl).store T 8 _ rfl).store T 9 _ rfl).store T 10 _ rfl).store T 11 _ rfl).store T 12 _ rfl).store T 13 _ rfl).store T 14 _ rfl
 refine ⟨(((((((((((((((h.store 0 _).store 1 _).store 2 _).store 3 _).store 4 _).store 5 _).store 6 _).store 7 _).store 8 _).store 9 _).store 10 _).store 11 _).store 12 _).store 13 _).store 14 _).congr fun j hj=>?_,ht⟩
 rcases (show j=0∨j=1∨j=2∨j=3∨j=4∨j=5∨j=6∨j=7∨j=8∨j=9∨j=10∨j=11∨j=12∨j=13∨j=14 by omega) with rfl | rfl | rfl | rfl | rfl | rfl | rfl | rfl | rfl | rfl | rfl | rfl | rfl | rfl | rfl <;> rfl

def Sv.alike (D N:Sv.C):Bool:=Sv.sameT D.t N.t && Sn.sameW D.s N.s D.g N.g D.c N.c D.E N.E D.I N.I

theorem svSame_c (D C:Sv.C) (gC gE gI cC cE cI jC jE jI dC dE dI:Nat) (w:World) (hL:Gd.Lists w gC gE gI D.c D.E D.I) (hL2:Gd.Lists w jC jE jI C.c C.E C.I) (hc:∀i,0≤D.c i∧D.c i≤255) (hd:∀i,0≤C.c i∧C.c i≤255) :
  Calls Tryz.prog 12 #[.agg (Sv.camp D.s gC gE gI cC cE cI D.g D.t),.agg (Sv.camp C.s jC jE jI dC dE dI C.g C.t)] w (Says w (.bool (Sv.alike D C))) :=
 svSame_any D.s C.s D.g C.g D.c C.c D.E C.E D.I C.I D.t C.t gC gE gI cC cE cI jC jE jI dC dE dI w hL hL2 hc hd

theorem Sv.alike_self (D:Sv.C):Sv.alike D D=true:=by
 unfold Sv.alike
 rw [Sv.sameT_self,Sn.sameW_yes]
 rfl

def Sv.Now (x:World) (T:Nat) (had:Bool) (o:Option Sv.C):Prop :=
 (had=false∧o=none∧Lie x T 33 15 Sv.voids) ∨
 (had=true∧∃(D N:Sv.C) (gC gE gI cC cE cI:Nat),o=some D∧Lie x T 33 15 (Sv.box N.s gC gE gI cC cE cI N.g N.t)∧Gd.Lists x gC gE gI N.c N.E N.I∧(∀i,0≤N.c i∧N.c i≤255)∧Sv.alike D N=true)

theorem Sv.Now.some {x:World} {T:Nat} {had:Bool} {o:Option Sv.C} (h:Sv.Now x T had o):∃K,Lie x T 33 15 K:=by
 rcases h with ⟨_,_,h⟩ | ⟨_,_,_,_,_,_,_,_,_,_,h,_⟩
 ·exact ⟨_,h⟩
 ·exact ⟨_,h⟩

theorem Sv.Now.on {x y:World} {T:Nat} {had:Bool} {o:Option Sv.C} (h:Sv.Now x T had o) (hg:x.grownBy y none):Sv.Now y T had o:=by
 rcases h with ⟨h1,h2,h⟩ | ⟨h1,D,N,gC,gE,gI,cC,cE,cI,h2,h3,h4,h5⟩
 ·exact .inl ⟨h1,h2,h.on hg⟩
 ·exact .inr ⟨h1,D,N,gC,gE,gI,cC,cE,cI,h2,h3.on hg,h4.on hg,h5⟩

theorem Sv.Now.disk {x y:World} {T base p bm cnt:Nat} {st:Dk.St} {o':Option Sv.C} {had:Bool} {o:Option Sv.C} (h:Sv.Now x T had o) (hd:Sv.Disk x base p bm cnt st o') (ht:Turn (fun k=>k=p∨k=bm) x y):Sv.Now y T had o:=by
 rcases h with ⟨h1,h2,h⟩ | ⟨h1,D,N,gC,gE,gI,cC,cE,cI,h2,h3,h4,h5⟩
 ·exact .inl ⟨h1,h2,hd.lie ht h (by decide)⟩
 ·exact .inr ⟨h1,D,N,gC,gE,gI,cC,cE,cI,h2,hd.lie ht h3 (by decide),hd.lists ht h4,h5⟩

section
variable {w x y:World} {base0 base p bm cnt:Nat} {st st':Dk.St} {o o' oo:Option Sv.C} {v:Value} {seed:Int} {L:List (List Value)} {w0:World} {T B:Nat} {had:Bool} {C:Sv.C} {gC gE gI:Nat}

structure Sv.At (w x:World) (base0 base p bm cnt:Nat) (st:Dk.St) (o oo:Option Sv.C) (v:Value) (seed:Int) (L:List (List Value)) (w0:World) (T:Nat) (had:Bool) (B:Nat) (C:Sv.C) (gC gE gI cC cE cI:Nat):Prop where
 disk:Sv.Disk x base p bm cnt st o
 book:Sn.Book w0 x base0 v seed L
 grown:w.grownBy x none
 now:Sv.Now x T had oo
 camp:Lie x B 33 15 (Sv.box C.s gC gE gI cC cE cI C.g C.t)
 lists:Gd.Lists x gC gE gI C.c C.E C.I

variable {cC cE cI:Nat}

theorem Sv.At.on (h:Sv.At w x base0 base p bm cnt st o oo v seed L w0 T had B C gC gE gI cC cE cI) (hg:x.grownBy y none):Sv.At w y base0 base p bm cnt st o oo v seed L w0 T had B C gC gE gI cC cE cI :=
 ⟨h.disk.on hg,h.book.on hg,gtr h.grown hg,h.now.on hg,h.camp.on hg,h.lists.on hg⟩

theorem Sv.At.next (h:Sv.At w x base0 base p bm cnt st o oo v seed L w0 T had B C gC gE gI cC cE cI) (lo:w.heap.size≤p∧w.heap.size≤bm) (hd:Sv.Disk y base p bm cnt st' o') (ht:Turn (fun k=>k=p∨k=bm) x y):Sv.At w y base0 base p bm cnt st' o' oo v seed L w0 T had B C gC gE gI cC cE cI :=
 ⟨hd,h.disk.book ht h.book,(Dk.still (Turn.new h.grown) ht lo.1 lo.2).grownBy,h.now.disk h.disk ht,h.disk.lie ht h.camp (by decide),h.disk.lists ht h.lists⟩

theorem Sv.lists_turn {x y:World} {T:Nat} {K:Nat→Value} (hT:Lie x T 33 15 K) (ht:Turn (fun k=>k=T) x y) {gC gE gI:Nat} {c:Nat→Int} {E I:Nat→Nat→Int} (hl:Gd.Lists x gC gE gI c E I):Gd.Lists y gC gE gI c E I :=
 ⟨Sv.lie_turn hl.cells ht (fun e=>hT.type_ne hl.cells (by decide) e.symm),Sv.lie_turn hl.ents ht (fun e=>hT.type_ne hl.ents (by decide) e.symm),Sv.lie_turn hl.items ht (fun e=>hT.type_ne hl.items (by decide) e.symm)⟩

theorem Sv.At.set (h:Sv.At w x base0 base p bm cnt st o oo v seed L w0 T had B C gC gE gI cC cE cI) {K:Nat→Value} (hT:Lie x T 33 15 K) (ht:Turn (fun k=>k=T) x y) (hw:w.heap.size≤T) (hB:B≠T) {had':Bool} {oo':Option Sv.C} (hn:Sv.Now y T had' oo'):Sv.At w y base0 base p bm cnt st o oo' v seed L w0 T had' B C gC gE gI cC cE cI:=by
 have hd:=h.disk.away hT (by decide)
 refine ⟨h.disk.turn ht (fun e=>hd.1 e.symm) (fun e=>hd.2 e.symm),⟨owns_turned h.book.own ht (fun k e q=>?_),fun k cs hk=>?_⟩,((Turn.new (B:=fun _=>False) h.grown).trans ht (fun i hi e=>by omega)).grownBy,hn,Sv.lie_turn h.camp ht hB,Sv.lists_turn hT ht h.lists⟩
 ·obtain ⟨m,F,hl⟩:=Sn.own_lie h.book.own k e
  exact hT.type_ne hl (by decide) q.symm
 ·obtain ⟨S,gC,gE,gI,cC,cE,cI,hc,hL,h1,h2,h3,h4⟩:=h.book.page k cs hk
  exact ⟨S,gC,gE,gI,cC,cE,cI,hc,Sv.lists_turn hT ht hL,h1,h2,h3,h4⟩

theorem Sv.At.row (h:Sv.At w x base0 base p bm cnt st o o v seed L w0 T had B C gC gE gI cC cE cI) (hd:st.dead=false):Sv.Row w x base0 base p bm cnt st o v seed L w0∧Sv.Now x T had o :=
 ⟨⟨h.disk,h.book,h.grown,hd⟩,h.now⟩

end

def Sv.find (n:Nat):Code→Option Code
 | .seq (.region k ops d) b=>if k=n then some (.seq (.region k ops d) b) else Sv.find n b
 | .seq a b=>match Sv.find n a with
  | some c=>some c
  | none=>Sv.find n b
 | .cond _ a b=>match Sv.find n a with
  | some c=>some c
  | none=>Sv.find n b
 | .block _ c=>Sv.find n c
 | .loop c=>Sv.find n c
 | .scope c=>Sv.find n c
 | _=>none

noncomputable def Sv.cuts26:Code:=(Tryz.f4.body.bind (Sv.find 26)).getD .skip

set_option maxRecDepth 16000 in
set_option maxHeartbeats 25600000 in
theorem saveCuts_ok (K:Act→World→Prop) (Q:Exit→Act→World→Prop) {f0 f1 f2 f3 f4 f5 f6 f7 f8 f9 f10 f11 f13 f18 f19 f22 f23 f24 f25 f26 f27 f28 f29 f30 f31 f32 f33 f34 f35 f36 f37 f38 f39 f40 f41 f42 f43 f44 f45 f46 f47 f48 f49 f50 f51 f52 f53 f54 f55 f56 f57 f58 f59 f60 f61 f62 f63 f64 f65 f66 f67 f68 f69 f70 f71 f72 f73 f74 f75 f76 f77 f78 f79 f80 f81 f82 f83 f84 f85 f86 f87 f88 f89 f90 f91 f92 f93 f94 f95 f96 f97 f98 f99 f100 f101 f102 f103 f104 f105 f106 f107 f108 f109 f110 f111 f112 f113 f114 f115 f116 f117 f118 f119 f120 f121 f122 f123 f124 f125 f126 f127 f128 f129 f130 f131 f132 f133 f134 f135 f136 f137 f138 f139 f140 f141 f142 f143 f144 f145 f146 f147 f148 f149 f150 f151 f152 f153 f154 f155 f156 f157 f158 f159 f160 f161 f162 f163 f164 f165 f166 f167 f168 f169:Value} (w y4 x1:World) (base0 bs p bm n T B i dn:Nat) (had:Bool) (st':Dk.St) (v:Value) (a0:Int) (L:List (List Value)) (C:Sv.C) (gC gE gI cC cE cI:Nat) (oo:Option Sv.C)
  (A4:Hid (Sv.At w y4 base0 bs p bm n st' (some C) oo v a0 L x1 T had B C gC gE gI cC cE cI)) (lo:Hid (w.heap.size≤p∧w.heap.size≤bm)) (hTw:Hid (w.heap.size≤T)) (hBT:Hid (B≠T)) (HN:Hid (40≤n∧n≤60)) (HOK:Hid C.Ok) (DN:Hid (dn≤16∧st'.done≤16*(i+1)))
  (hend:Hid (∀(h:Bool) (g24 g25 g26 g27 g113 g114 g115 g116 g117 g118 g119 g120 g121 g122 g123 g124 g125 g126 g127 g128 g129 g130 g131 g132 g133 g134 g135 g136 g137 g138 g139 g140 g141 g142 g143 g144 g145 g146 g147 g148 g149 g150 g151 g152 g153 g154 g155 g156 g157 g158 g159 g160 g161 g162 g163 g164 g165 g166 g167 g168 g169:Value) (z:World),(∃st o,Sv.Row w z base0 bs p bm n st o v a0 L x1∧st.done≤16*(i+1)∧Sv.Now z T h o)→K ⟨#[f0,f1,f2,f3,f4,f5,f6,f7,f8,f9,f10,f11,Value.pointer (some ⟨p,0,none⟩),f13,Value.bool h,Value.pointer (some ⟨T,0,none⟩),Value.int .i64 (i:Int),Value.pointer (some ⟨B,0,none⟩),f18,f19,Value.int .i64 0,Value.int .i64 (dn:Int),f22,f23,g24,g25,g26,g27,f28,f29,f30,f31,f32,f33,f34,f35,f36,f37,f38,f39,f40,f41,f42,f43,f44,f45,f46,f47,f48,f49,f50,f51,f52,f53,f54,f55,f56,f57,f58,f59,f60,f61,f62,f63,f64,f65,f66,f67,f68,f69,f70,f71,f72,f73,f74,f75,f76,f77,f78,f79,f80,f81,f82,f83,f84,f85,f86,f87,f88,f89,f90,f91,f92,f93,f94,f95,f96,f97,f98,f99,f100,f101,f102,f103,f104,f105,f106,f107,f108,f109,f110,f111,f112,g113,g114,g115,g116,g117,g118,g119,g120,g121,g122,g123,g124,g125,g126,g127,g128,g129,g130,g131,g132,g133,g134,g135,g136,g137,g138,g139,g140,g141,g142,g143,g144,g145,g146,g147,g148,g149,g150,g151,g152,g153,g154,g155,g156,g157,g158,g159,g160,g161,g162,g163,g164,g165,g166,g167,g168,g169],[]⟩ z)) :
  Code.wp Tryz.prog Sv.cuts26 (Exit.inBlock 1 (Exit.then K Q)) ⟨#[f0,f1,f2,f3,f4,f5,f6,f7,f8,f9,f10,f11,Value.pointer (some ⟨p,0,none⟩),f13,Value.bool had,Value.pointer (some ⟨T,0,none⟩),Value.int .i64 (i:Int),Value.pointer (some ⟨B,0,none⟩),f18,f19,Value.int .i64 0,Value.int .i64 (dn:Int),f22,f23,f24,f25,f26,f27,f28,f29,f30,f31,f32,f33,f34,f35,f36,f37,f38,f39,f40,f41,f42,f43,f44,f45,f46,f47,f48,f49,f50,f51,f52,f53,f54,f55,f56,f57,f58,f59,f60,f61,f62,f63,f64,f65,f66,f67,f68,f69,f70,f71,f72,f73,f74,f75,f76,f77,f78,f79,f80,f81,f82,f83,f84,f85,f86,f87,f88,f89,f90,f91,f92,f93,f94,f95,f96,f97,f98,f99,f100,f101,f102,f103,f104,f105,f106,f107,f108,f109,f110,f111,f112,f113,f114,f115,f116,f117,f118,f119,f120,f121,f122,f123,f124,f125,f126,f127,f128,f129,f130,f131,f132,f133,f134,f135,f136,f137,f138,f139,f140,f141,f142,f143,f144,f145,f146,f147,f148,f149,f150,f151,f152,f153,f154,f155,f156,f157,f158,f159,f160,f161,f162,f163,f164,f165,f166,f167,f168,f169],[]⟩ y4:=by
 conv=>arg 2;whnf
 have cs0:=hide (uh A4).disk.start
 go_wp2_with fail
 refine (uh cs0).mono ?_
 rintro e y5 ⟨rfl,hD5,ht5⟩
 have A6:=hide ((uh A4).next (uh lo) hD5 ht5)
 have OKD:=hide (hD5.ok _ rfl)
 have HAL:Hid (Sv.alike C C=true):=Sv.alike_self C
 have cl:Hid (∀y,y5.grownBy y none→Calls Tryz.prog 20 #[.pointer (some ⟨p,0,none⟩)] y (Sv.Told y (some C))):=fun y hy=>(hD5.on hy).load (uh HN).1 rfl
 clear cs0 A4 hD5 ht5
 go_wp2_with fail
 refine (uh cl _ (World.grownBy.refl _ _)).mono ?_
 rintro e z1 ⟨hz1,v1,rfl,jC,jE,jI,dC,dE,dI,rfl,-,-,-,-,hJ1⟩
 obtain ⟨z2,hz2⟩:∃x,x=z1.alloc (.cells (Sv.camp C.s jC jE jI dC dE dI C.g C.t) 33):=⟨_,rfl⟩
 have hg2:z1.grownBy z2 none:=by rw [hz2];exact World.grownBy_alloc _ _ _
 obtain ⟨X,hX0⟩:∃B,z1.heap.size=B:=⟨_,rfl⟩
 have BX:Hid (Lie z2 X 33 15 (Sv.box C.s jC jE jI dC dE dI C.g C.t)):=by
  show Lie z2 _ _ _ _
  rw [hz2,←hX0]
  exact Sv.camp_lie (heap_alloc_new z1 _)
 have LX:=hide (hJ1.on hg2)
 have HXT:Hid (X≠T):=by
  obtain ⟨K,hK⟩:=((uh A6).now.on hz1).some
  have:=hK.lt
  show X≠T
  omega
 have GZ2:=hide (gtr hz1 hg2)
 clear hz1 hJ1 hg2
 unfold Sv.camp at hz2 ⊢
 go_upto_region 28 with fail
 rw [←hz2]
 clear hz2 hX0 z1
 go_wp2_with fail
 refine (uh cl _ (uh GZ2)).mono ?_
 rintro e z3 ⟨hz3,v3,rfl,kC,kE,kI,fC,fE,fI,rfl,-,-,-,-,hJ3⟩
 obtain ⟨z4,hz4⟩:∃x,x=z3.alloc (.cells (Sv.camp C.s kC kE kI fC fE fI C.g C.t) 33):=⟨_,rfl⟩
 have hg4:z3.grownBy z4 none:=by rw [hz4];exact World.grownBy_alloc _ _ _
 obtain ⟨Y,hY0⟩:∃B,z3.heap.size=B:=⟨_,rfl⟩
 have BY:Lie z4 Y 33 15 (Sv.box C.s kC kE kI fC fE fI C.g C.t):=by
  rw [hz4,←hY0]
  exact Sv.camp_lie (heap_alloc_new z3 _)
 have BX4:=hide ((uh BX).on (gtr hz3 hg4))
 have LX4:=hide ((uh LX).on (gtr hz3 hg4))
 have GZ4:=hide (gtr (uh GZ2) (gtr hz3 hg4))
 obtain ⟨⟨p0,p1,p2,p3,p4,p5,p6,p7,p8,p9,p10⟩,p11,p12,p13,p14⟩:=Sv.fifteen BY
 obtain ⟨⟨q0,q1,q2,q3,q4,q5,q6,q7,q8,q9,q10⟩,q11,q12,q13,q14⟩:=Sv.fifteen (uh BX4)
 have cq:=hide (svSame_any C.s C.s C.g C.g C.c C.c C.E C.E C.I C.I C.t C.t jC jE jI dC dE dI kC kE kI fC fE fI z4 (uh LX4) (hJ3.on hg4) (uh OKD).byte (uh OKD).byte)
 rw [Sv.sameT_self,Sn.sameW_yes,Bool.and_true] at cq
 clear hz3 hJ3 hg4 BY BX LX GZ2 cl
 unfold Sv.camp at hz4 cq ⊢
 go_upto_region 29 with fail
 rw [←hz4]
 clear hz4 hY0 z3
 go_wp2_with fail
 refine (uh cq).mono ?_
 rintro e z5 ⟨rfl,hg5⟩
 have BX5:=hide ((uh BX4).on hg5)
 have LX5:=hide ((uh LX4).on hg5)
 have A7:=hide ((uh A6).on (gtr (uh GZ4) hg5))
 clear cq hg5 BX4 LX4 GZ4 A6 p0 p1 p2 p3 p4 p5 p6 p7 p8 p9 p10 p11 p12 p13 p14 q0 q1 q2 q3 q4 q5 q6 q7 q8 q9 q10 q11 q12 q13 q14
 obtain ⟨K,hKT⟩:=(uh A7).now.some
 obtain ⟨⟨b0,b1,b2,b3,b4,b5,b6,b7,b8,b9,b10⟩,b11,b12,b13,b14⟩:=Sv.fifteen (uh A7).camp
 have fT:=hKT.free
 have t0:z5.cell? ⟨T,0,none⟩=some (K 0):=hKT.cell (c:=0) (by omega)
 have t1:z5.cell? ⟨T,1,none⟩=some (K 1):=hKT.cell (c:=1) (by omega)
 have t2:z5.cell? ⟨T,2,none⟩=some (K 2):=hKT.cell (c:=2) (by omega)
 have t3:z5.cell? ⟨T,3,none⟩=some (K 3):=hKT.cell (c:=3) (by omega)
 have t4:z5.cell? ⟨T,4,none⟩=some (K 4):=hKT.cell (c:=4) (by omega)
 have t5:z5.cell? ⟨T,5,none⟩=some (K 5):=hKT.cell (c:=5) (by omega)
 have t6:z5.cell? ⟨T,6,none⟩=some (K 6):=hKT.cell (c:=6) (by omega)
 have t7:z5.cell? ⟨T,7,none⟩=some (K 7):=hKT.cell (c:=7) (by omega)
 have t8:z5.cell? ⟨T,8,none⟩=some (K 8):=hKT.cell (c:=8) (by omega)
 have t9:z5.cell? ⟨T,9,none⟩=some (K 9):=hKT.cell (c:=9) (by omega)
 have t10:z5.cell? ⟨T,10,none⟩=some (K 10):=hKT.cell (c:=10) (by omega)
 have t11:z5.cell? ⟨T,11,none⟩=some (K 11):=hKT.cell (c:=11) (by omega)
 have t12:z5.cell? ⟨T,12,none⟩=some (K 12):=hKT.cell (c:=12) (by omega)
 have t13:z5.cell? ⟨T,13,none⟩=some (K 13):=hKT.cell (c:=13) (by omega)
 have t14:z5.cell? ⟨T,14,none⟩=some (K 14):=hKT.cell (c:=14) (by omega)
 obtain ⟨z6,hz6⟩:∃x,Sv.nest z5 T C.s gC gE gI cC cE cI C.g C.t=x:=⟨_,rfl⟩
 have hN:=Sv.now_nest hKT C.s gC gE gI cC cE cI C.g C.t
 rw [hz6] at hN
 have LC6:=Sv.lists_turn hKT hN.2 (uh A7).lists
 have A8:=hide ((uh A7).set hKT hN.2 (uh hTw) (uh hBT) (had':=true) (oo':=some C) (.inr ⟨rfl,C,C,gC,gE,gI,cC,cE,cI,rfl,hN.1,LC6,(uh HOK).byte,uh HAL⟩))
 have BX6:=hide (Sv.lie_turn (uh BX5) hN.2 (uh HXT))
 have HT6:=hide hN.1
 have cq:=hide (svSame_c C C jC jE jI dC dE dI gC gE gI cC cE cI z6 (Sv.lists_turn hKT hN.2 (uh LX5)) LC6 (uh OKD).byte (uh HOK).byte)
 rw [uh HAL] at cq
 clear hN LC6 hKT A7 BX5 LX5
 unfold Sv.nest at hz6
 unfold Sv.camp at cq
 go_upto_region 37 with fail
 try rw [hz6]
 clear hz6 fT b0 b1 b2 b3 b4 b5 b6 b7 b8 b9 b10 b11 b12 b13 b14 t0 t1 t2 t3 t4 t5 t6 t7 t8 t9 t10 t11 t12 t13 t14 z5
 obtain ⟨⟨b0,b1,b2,b3,b4,b5,b6,b7,b8,b9,b10⟩,b11,b12,b13,b14⟩:=Sv.fifteen (uh HT6)
 obtain ⟨⟨q0,q1,q2,q3,q4,q5,q6,q7,q8,q9,q10⟩,q11,q12,q13,q14⟩:=Sv.fifteen (uh BX6)
 clear HT6 BX6
 go_wp2_with fail
 refine (uh cq).mono ?_
 rintro e z7 ⟨rfl,hg7⟩
 have hfin:Hid (∃st o,Sv.Row w z7 base0 bs p bm n st o v a0 L x1∧st.done≤16*(i+1)∧Sv.Now z7 T true o):=by
  have h9:=((uh A8).on hg7).row rfl
  exact ⟨_,_,h9.1,(uh DN).2,h9.2⟩
 clear cq hg7 A8 q0 q1 q2 q3 q4 q5 q6 q7 q8 q9 q10 q11 q12 q13 q14 b0 b1 b2 b3 b4 b5 b6 b7 b8 b9 b10 b11 b12 b13 b14
 go_wp2
 exact uh hend _ _ _ _ _ _ _ _ _ _ _ _ _ _ _ _ _ _ _ _ _ _ _ _ _ _ _ _ _ _ _ _ _ _ _ _ _ _ _ _ _ _ _ _ _ _ _ _ _ _ _ _ _ _ _ _ _ _ _ _ _ _ _ hfin

end Go.Proofs.YtldgbkjceildfaaGreat
