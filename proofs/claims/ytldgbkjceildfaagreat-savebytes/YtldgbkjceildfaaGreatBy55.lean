import Derived.Test.YtldgbkjceildfaaGreatBy42
import Derived.Test.YtldgbkjceildfaaGreatBy43
import Derived.Test.YtldgbkjceildfaaGreatBy54
namespace Go.Proofs.YtldgbkjceildfaaGreat
open Go.RowKit

def Sv.sameT (t u:Nat→Bool):Bool:=decide (t 0=u 0) && (decide (t 1=u 1) && (decide (t 2=u 2) && decide (t 3=u 3)))

theorem Sv.sameT_self (t:Nat→Bool):Sv.sameT t t=true:=by simp [Sv.sameT]

theorem Sv.info_bool:(Tryz.prog.info? 4).map (fun i=>(i.zero,i.size,i.bytes))=some (some (.bool false),1,1):=by kernel_rfl

theorem run_equal_seats (d:Nat) (t u:Nat→Bool) (w:World):(Op.equalIn (d+2) 31 (.agg #[.bool (t 0),.bool (t 1),.bool (t 2),.bool (t 3)]) (.agg #[.bool (u 0),.bool (u 1),.bool (u 2),.bool (u 3)])).run Tryz.prog w=.ok (Sv.sameT t u) w:=by
 obtain ⟨i0,hi,_,_,_⟩:=info_parts Sv.info_bool
 have hc:Tryz.prog.cellsOf 4=1:=by kernel_rfl
 have hh:=run_equalIn_array (P:=Tryz.prog) (w:=w) (d+1) #[.bool (t 0),.bool (t 1),.bool (t 2),.bool (t 3)] #[.bool (u 0),.bool (u 1),.bool (u 2),.bool (u 3)] Tryz.underlying31 hi
 have hr:(Op.eqItems (d+1) 4 (Tryz.prog.cellsOf 4) #[Value.bool (t 0),.bool (t 1),.bool (t 2),.bool (t 3)] #[.bool (u 0),.bool (u 1),.bool (u 2),.bool (u 3)] (List.range 4)).run Tryz.prog w=.ok (Sv.sameT t u) w:=by
  rw [hc]
  unfold Sv.sameT
  by_cases h0:t 0=u 0
  ·by_cases h1:t 1=u 1
   ·by_cases h2:t 2=u 2
    ·by_cases h3:t 3=u 3 <;> simp [List.range,List.range.loop,Op.eqItems,go_sem,h0,h1,h2,h3]
    ·simp [List.range,List.range.loop,Op.eqItems,go_sem,h0,h1,h2]
   ·simp [List.range,List.range.loop,Op.eqItems,go_sem,h0,h1]
  ·simp [List.range,List.range.loop,Op.eqItems,go_sem,h0]
 rw [hr] at hh
 exact hh

set_option maxRecDepth 16000 in
set_option maxHeartbeats 6400000 in
theorem svSame_any (s t g h c d:Nat→Int) (E F I J:Nat→Nat→Int) (u v:Nat→Bool) (gC gE gI cC cE cI jC jE jI dC dE dI:Nat) (w:World) (hL:Gd.Lists w gC gE gI c E I) (hL2:Gd.Lists w jC jE jI d F J) (hc:∀i,0≤c i∧c i≤255) (hd:∀i,0≤d i∧d i≤255) :
  Calls Tryz.prog 12 #[.agg (Sv.camp s gC gE gI cC cE cI g u),.agg (Sv.camp t jC jE jI dC dE dI h v)] w (Says w (.bool (Sv.sameT u v && Sn.sameW s t g h c d E F I J))):=by
 obtain ⟨w1,hw1⟩:∃x,x=w.alloc (.cells (Sv.camp s gC gE gI cC cE cI g u) 33):=⟨_,rfl⟩
 obtain ⟨w2,hw2⟩:∃x,x=w1.alloc (.cells (Sv.camp t jC jE jI dC dE dI h v) 33):=⟨_,rfl⟩
 have hg1:w.grownBy w1 none:=by rw [hw1];exact World.grownBy_alloc _ _ _
 have hg2:w1.grownBy w2 none:=by rw [hw2];exact World.grownBy_alloc _ _ _
 have hA:Lie w2 w.heap.size 33 15 (Sv.box s gC gE gI cC cE cI g u):=by
  have h:Lie w1 w.heap.size 33 15 (Sv.box s gC gE gI cC cE cI g u):=by rw [hw1];exact Sv.camp_lie (heap_alloc_new w _)
  exact h.on hg2
 have hB:Lie w2 w1.heap.size 33 15 (Sv.box t jC jE jI dC dE dI h v):=by rw [hw2];exact Sv.camp_lie (heap_alloc_new w1 _)
 have cs:=hide (same7_two s t g h c d E F I J gC gE gI cC cE cI jC jE jI dC dE dI w2 (hL.on (gtr hg1 hg2)) (hL2.on (gtr hg1 hg2)) hc hd)
 have heq:∀d wx,(Op.equalIn (d+2) 31 (.agg #[.bool (u 0),.bool (u 1),.bool (u 2),.bool (u 3)]) (.agg #[.bool (v 0),.bool (v 1),.bool (v 2),.bool (v 3)])).run Tryz.prog wx=.ok (Sv.sameT u v) wx:=fun d wx=>run_equal_seats d u v wx
 have hs1:w1.heap.size=w.heap.size+1:=by rw [hw1];simp
 obtain ⟨⟨a0,a1,a2,a3,a4,a5,a6,a7,a8,a9,a10⟩,a11,a12,a13,a14⟩:=Sv.fifteen hA
 obtain ⟨⟨b0,b1,b2,b3,b4,b5,b6,b7,b8,b9,b10⟩,b11,b12,b13,b14⟩:=Sv.fifteen hB
 have HG:=hide (gtr hg1 hg2)
 obtain ⟨B1,hB1⟩:∃B,w.heap.size=B:=⟨_,rfl⟩
 rw [hB1] at a0 a1 a2 a3 a4 a5 a6 a7 a8 a9 a10 a11 a12 a13 a14 hs1
 rw [hs1] at b0 b1 b2 b3 b4 b5 b6 b7 b8 b9 b10 b11 b12 b13 b14
 clear hg1 hg2 hA hB hL hL2 hs1
 unfold Sv.camp at hw1 hw2 ⊢
 unfold Gd.world at cs
 cases hT:Sv.sameT u v with
 | false =>
  rw [hT] at heq
  clear hT
  go_enter Tryz.func12,Tryz.ntmps12
  go_upto_region 1 with fail
  rw [←hw1,←hw2]
  clear hw1 hw2
  go_wp2
  go_ret
  exact ⟨rfl,uh HG⟩
 | true =>
  rw [hT] at heq
  clear hT
  go_enter Tryz.func12,Tryz.ntmps12
  go_upto_region 1 with fail
  rw [←hw1,←hw2]
  clear hw1 hw2
  go_wp2_with fail
  refine (uh cs).mono ?_
  rintro e w3 ⟨rfl,hg3⟩
  have hfin:=hide (gtr (uh HG) hg3)
  clear cs hg3
  go_wp2
  go_ret
  exact ⟨rfl,uh hfin⟩


open Go.RowKit

structure Sv.Disk (x:World) (base p bm cnt:Nat) (st:Dk.St) (o:Option Sv.C):Prop where
 mine:Dk.Mine x base p bm cnt st
 tells:Sv.tells st.f=o.map Sv.C.bytes
 ok:∀C,o=some C→C.Ok
 left:st.left≤9223372036854775807

theorem Sv.fresh_tells:Sv.tells Dk.fresh.f=none:=by
 have h:Sv.mark Dk.fresh.f=0:=rfl
 unfold Sv.tells
 rw [h,if_neg (by decide),if_neg (by decide)]

section
variable {w x y:World} {base p bm cnt:Nat} {st:Dk.St} {o:Option Sv.C}

theorem Sv.Disk.on (h:Sv.Disk x base p bm cnt st o) (hg:x.grownBy y none):Sv.Disk y base p bm cnt st o:={ h with mine:=h.mine.on hg }

theorem Sv.Disk.turn {B:Nat→Prop} (h:Sv.Disk x base p bm cnt st o) (ht:Turn B x y) (hp:¬B p) (hb:¬B bm):Sv.Disk y base p bm cnt st o:={ h with mine:=h.mine.turn ht hp hb }

theorem Sv.Disk.away (h:Sv.Disk x base p bm cnt st o) {g m:Nat} {T:TypeId} {F:Nat→Value} (hl:Lie x g T m F) (hT:T≠78):g≠p∧g≠bm:=by
 obtain ⟨M,G,hA,_,_⟩:=hl
 refine ⟨fun e=>?_,fun e=>?_⟩
 ·subst e
  obtain ⟨c1,h1,_⟩:=hA
  obtain ⟨c2,h2,_⟩:=h.mine.box
  rw [h1] at h2
  simp only [Option.some.injEq,Obj.cells.injEq] at h2
  exact hT h2.2.1
 ·subst e
  obtain ⟨D,⟨es,cl,hb,_⟩,_⟩:=Dk.Own.map h.mine
  obtain ⟨cur,hc,_⟩:=hA
  rw [hb] at hc
  cases hc

theorem Sv.lie_turn {B:Nat→Prop} {g m:Nat} {T:TypeId} {F:Nat→Value} (h:Lie x g T m F) (ht:Turn B x y) (hb:¬B g):Lie y g T m F:=by
 obtain ⟨M,G,hA,h1,h2⟩:=h
 exact ⟨M,G,hA.turn ht hb,h1,h2⟩

theorem Sv.Disk.lie (h:Sv.Disk x base p bm cnt st o) (ht:Turn (fun k=>k=p∨k=bm) x y) {g m:Nat} {T:TypeId} {F:Nat→Value} (hl:Lie x g T m F) (hT:T≠78):Lie y g T m F :=
 Sv.lie_turn hl ht (fun q=>by have:=h.away hl hT;omega)

theorem Sv.Disk.lists (h:Sv.Disk x base p bm cnt st o) (ht:Turn (fun k=>k=p∨k=bm) x y) {gC gE gI:Nat} {c:Nat→Int} {E I:Nat→Nat→Int} (hl:Gd.Lists x gC gE gI c E I):Gd.Lists y gC gE gI c E I :=
 ⟨h.lie ht hl.cells (by decide),h.lie ht hl.ents (by decide),h.lie ht hl.items (by decide)⟩

def Sv.Told (x:World) (o:Option Sv.C) (e:Ending) (w':World):Prop :=
 x.grownBy w' none∧match o with
  | none=>e=.returned (.tuple #[.agg Sv.void,.int .i64 2])
  | some C=>∃v,e=.returned (.tuple #[v,.int .i64 0])∧Sv.Has x w' v C

theorem Sv.Disk.load (h:Sv.Disk x base p bm cnt st o) (hc:40≤cnt) (hd:st.dead=false):Calls Tryz.prog 20 #[.pointer (some ⟨p,0,none⟩)] x (Sv.Told x o):=by
 cases o with
 | none =>
  have hn:Sv.tells st.f=none:=h.tells
  refine (svLoad_any base p bm cnt st x h.mine ⟨fun _=>0,fun _=>0,fun _=>0,fun _ _=>0,fun _ _=>0,fun _=>false⟩ (fun l e=>by rw [hn] at e;cases e)).mono ?_
  rintro e w' (⟨k,_⟩ | ⟨_,k,_⟩ | ⟨_,_,_,rfl,hg⟩ | ⟨_,_,k,_⟩)
  ·omega
  ·rw [hd] at k;cases k
  ·exact ⟨hg,rfl⟩
  ·rw [hn] at k;cases k
 | some C =>
  have hs:Sv.tells st.f=some C.bytes:=h.tells
  refine (svLoad_any base p bm cnt st x h.mine C (fun l e=>by rw [hs] at e;exact ⟨h.ok C rfl,(Option.some.inj e).symm⟩)).mono ?_
  rintro e w' (⟨k,_⟩ | ⟨_,k,_⟩ | ⟨_,_,k,_⟩ | ⟨_,_,_,_,v,rfl,hv,hg⟩)
  ·omega
  ·rw [hd] at k;cases k
  ·rw [hs] at k;cases k
  ·exact ⟨hg,v,rfl,hv⟩

structure Sv.Kept (st:Dk.St) (o:Option Sv.C) (C:Sv.C) (r:Int) (st':Dk.St) (o':Option Sv.C):Prop where
 low:st.done≤st'.done
 high:st'.done≤st.done+16
 way:(r=0∧st'.dead=false∧o'=some C∧(st.left<0→st'.left<0))∨(r=11∧st'.dead=true∧o'=o∧0≤st.left)

theorem Sv.Disk.save (h:Sv.Disk x base p bm cnt st o) (hc:40≤cnt) (hd:st.dead=false) (hdone:st.done≤1073741824) {C:Sv.C} (hC:C.Ok) {gC gE gI cC cE cI:Nat} (hcE:32≤cE) (hL:Gd.Lists x gC gE gI C.c C.E C.I) :
  Calls Tryz.prog 19 #[.pointer (some ⟨p,0,none⟩),.agg (Sv.camp C.s gC gE gI cC cE cI C.g C.t)] x fun e w'=>∃r st' o',e=.returned (.int .i64 r)∧Sv.Disk w' base p bm cnt st' o'∧Sv.Kept st o C r st' o'∧Turn (fun k=>k=p∨k=bm) x w':=by
 refine (svSave_any base p bm cnt st C.s C.g C.c C.E C.I C.t 0 gC gE gI cC cE cI x h.mine h.left hdone hL hC.byte hcE hC.chk).mono ?_
 have hb:Sv.seats C.t 4 :: Sn.bytes C.s C.g C.c C.E C.I=C.bytes:=rfl
 have hr:Sv.saveR cnt st 0 C.bytes=Sv.saves cnt st C.bytes:=by
  unfold Sv.saveR
  rw [if_neg (by omega),if_neg (by simp)]
 rw [hb,hr]
 have hs:=Sv.saved (cnt:=cnt) (l:=C.bytes) hd h.left hc C.len
 obtain ⟨a,ha⟩:∃a,Sv.saves cnt st C.bytes=a:=⟨_,rfl⟩
 rw [ha] at hs ⊢
 rintro e w' ⟨rfl,hm,ht⟩
 rcases hs.way with ⟨h1,h2,h3,h4⟩ | ⟨h1,h2,h3,h4⟩
 ·exact ⟨a.1,a.2,some C,rfl,⟨hm,h3,fun D e=>by cases e;exact hC,hs.left⟩,⟨hs.low,hs.high,.inl ⟨h1,h2,rfl,h4⟩⟩,ht⟩
 ·exact ⟨a.1,a.2,o,rfl,⟨hm,h3.trans h.tells,h.ok,hs.left⟩,⟨hs.low,hs.high,.inr ⟨h1,h2,rfl,h4⟩⟩,ht⟩

end

theorem Sv.page_ok {S:Cr.W} {seed:Int} {k:Nat} (t:Nat→Bool) (hG:Cr.Good S) (h0:S.s 0=seed) (h1:S.s 1=(k:Int)) (hk:k≤31) (hs:-9223372036854775808≤seed∧seed≤9223372036854775807):Sv.C.Ok ⟨S.s,S.g,S.c,S.E,S.I,t⟩ :=
 ⟨Sn.chk_good hG (by show 0≤S.s 1;omega) (by show S.s 1<1073741824;omega),(show -9223372036854775808≤S.s 0∧S.s 0<9223372036854775808 by omega),hG.sane.fit.cells⟩


open Go.RowKit

set_option maxHeartbeats 400000 in
theorem within14_any (a n:Int) (w:World) (hn:0<n) (hn2:n≤4611686018427387904) :
  Calls Tryz.prog 13 #[.int .i64 a,.int .i64 n] w fun e w'=>e=.returned (.int .i64 (a % n))∧w'=w:=by
 have t1:=Int.tmod_lt_of_pos a (b:=n) hn
 have t2:=Int.lt_tmod_of_pos a (b:=n) hn
 have hn0:(n == 0)=false:=by simp;omega
 by_cases h:a.tmod n<0
 ·have ha:¬0≤a:=by
   intro h0
   have:=Int.tmod_nonneg n h0
   omega
  have hd:=hide (Gr.within_neg a n hn h)
  go_enter Tryz.func13,Tryz.ntmps13
  go_wp2
  go_ret
  exact ⟨rti (uh hd),rfl⟩
 ·have hd:=hide (Gr.within_pos a n hn h)
  by_cases ha:0≤a
  ·have e:a.tmod n=a % n:=Int.tmod_eq_emod_of_nonneg ha
   have h':¬a % n<0:=by rw [←e];exact h
   clear h t1 t2 e
   go_enter Tryz.func13,Tryz.ntmps13
   go_wp2
   go_ret
   exact ⟨rfl,rfl⟩
  ·go_enter Tryz.func13,Tryz.ntmps13
   go_wp2
   go_ret
   exact ⟨rti (uh hd),rfl⟩

def Sv.Tale (w:World) (e:Ending) (w':World):Prop :=
 ∃(C:Sv.C) (gC gE gI cC cE cI:Nat),e=.returned (.agg (Sv.camp C.s gC gE gI cC cE cI C.g C.t))∧32≤cE∧Gd.Lists w' gC gE gI C.c C.E C.I∧C.Ok∧w.grownBy w' none

set_option maxRecDepth 16000 in
set_option maxHeartbeats 6400000 in
theorem svCampaign_any {w0 w:World} {base:Nat} {v:Value} {seed:Int} {L:List (List Value)} (hB:Sn.Book w0 w base v seed L) (h0:0<L.length) (h31:L.length≤31) (hs:-9223372036854775808≤seed∧seed≤9223372036854775807) (n:Int) (hn:-9223372036854775808≤n∧n≤9223372036854775807) :
  Calls Tryz.prog 7 #[v,.int .i64 n] w (Sv.Tale w):=by
 have hk0:=Int.emod_nonneg n (show (L.length:Int)≠0 by omega)
 have hk1:=Int.emod_lt_of_pos n (show (0:Int)<(L.length:Int) by omega)
 obtain ⟨k,hk⟩:∃k:Nat,n % (L.length:Int)=(k:Int):=⟨(n % (L.length:Int)).toNat,by omega⟩
 have hkL:k<L.length:=by omega
 obtain ⟨q,cap,rfl,hq,hcap,S,gC,gE,gI,cC,cE,cI,hcell,hL,hcE,hG,hs0,hs1⟩:=hB.at hkL
 have hw:=hide (within14_any n L.length w (by omega) (by omega))
 rw [hk] at hw
 obtain ⟨w1,hw1⟩:∃x,x=w.alloc (.cells Sv.void 33):=⟨_,rfl⟩
 have hg1:w.grownBy w1 none:=by rw [hw1];exact World.grownBy_alloc _ _ _
 obtain ⟨P,hP⟩:∃P,w.heap.size=P:=⟨_,rfl⟩
 have hR:Lie w1 P 33 15 Sv.voids:=by
  rw [hw1,←hP]
  exact Sv.void_lie w
 have hs1':w1.heap.size=P+1:=by rw [hw1,←hP];simp
 have qlt:q<w.heap.size:=(hB.own.lt q rfl).2
 have k0:w1.cell? ⟨q,k*11,none⟩=some (Gd.box S.s gC gE gI cC cE cI S.g 0):=(gce hg1 q (k*11) qlt (by simp)).trans (by simpa using hcell 0 (by omega))
 have kk:∀j,j<11→w1.cell? ⟨q,k*11+j,none⟩=some (Gd.box S.s gC gE gI cC cE cI S.g j):=fun j hj=>(gce hg1 q (k*11+j) qlt (by simp)).trans (hcell j hj)
 have k1:=kk 1 (by omega)
 have k2:=kk 2 (by omega)
 have k3:=kk 3 (by omega)
 have k4:=kk 4 (by omega)
 have k5:=kk 5 (by omega)
 have k6:=kk 6 (by omega)
 have k7:=kk 7 (by omega)
 have k8:=kk 8 (by omega)
 have k9:=kk 9 (by omega)
 have k10:=kk 10 (by omega)
 dsimp only [Gd.box] at k0 k1 k2 k3 k4 k5 k6 k7 k8 k9 k10
 obtain ⟨w2,hw2⟩:∃z,z=w1.alloc (.cells (Sv.camp S.s gC gE gI cC cE cI S.g (fun _=>false)) 33):=⟨_,rfl⟩
 have hg2:w1.grownBy w2 none:=by rw [hw2];exact World.grownBy_alloc _ _ _
 have hC:Hid (Lie w2 (P+1) 33 15 (Sv.box S.s gC gE gI cC cE cI S.g (fun _=>false))):=by
  show Lie w2 _ _ _ _
  rw [hw2,←hs1']
  exact Sv.camp_lie (heap_alloc_new w1 _)
 have HR:=hide (hR.on hg2)
 have HL:=hide (hL.on (gtr hg1 hg2))
 have HG:=hide (gtr hg1 hg2)
 have HP:=hide hP
 have hok:Hid (∀t,Sv.C.Ok ⟨S.s,S.g,S.c,S.E,S.I,t⟩):=fun t=>Sv.page_ok t hG hs0 hs1 (by omega) hs
 have i1:(k:Int)<(L.length:Int):=by omega
 have i2:(L.length:Int)≤31:=by omega
 have HCE:=hide hcE
 have hn1:=hn.1
 have hn2:=hn.2
 have hwx:=hide (fun y (_:w.grownBy y none)=>within14_any n L.length y (by omega) (by omega))
 rw [hk] at hwx
 obtain ⟨ln,hln⟩:∃m,L.length=m:=⟨_,rfl⟩
 rw [hln] at hwx i1 i2 ⊢
 clear hB h0 h31 hk0 hk1 hkL hq hcap hcell hL hcE hG hs0 hs1 hR hP hg2 qlt kk hk hw hn hs hln
 unfold Sv.void at hw1
 unfold Sv.camp at hw2
 go_enter Tryz.func7,Tryz.ntmps7
 go_upto_region 1 with fail
 rw [←hw1,uh HP]
 clear hw1
 go_wp2_with fail
 refine (uh hwx _ hg1).mono ?_
 rintro e wq ⟨rfl,hq⟩
 obtain rfl:w1=wq:=hq.symm
 clear hwx hq
 go_upto_region 2 with fail
 rw [←hw2]
 clear hw2 hs1' k0 k1 k2 k3 k4 k5 k6 k7 k8 k9 k10 i1 i2 hg1
 obtain ⟨B,hBe⟩:∃B,P+1=B:=⟨_,rfl⟩
 rw [hBe] at hC ⊢
 have hne:Hid (gC≠B∧gE≠B∧gI≠B):=⟨(uh HL).cells.type_ne (uh hC) (by decide),(uh HL).ents.type_ne (uh hC) (by decide),(uh HL).items.type_ne (uh hC) (by decide)⟩
 have HB:=hide hBe
 clear hBe
 have hX0:Hid (∃t,Lie w2 B 33 15 (Sv.box S.s gC gE gI cC cE cI S.g t)∧Turn (fun k=>k=B) w2 w2):=⟨_,uh hC,Turn.refl _ _⟩
 clear hC
 go_wp2_with fail
 go_loopw [6] (fun vi wr=>∃i:Nat,i≤4∧vi=.int .i64 (i:Int)∧Hid (∃t,Lie wr B 33 15 (Sv.box S.s gC gE gI cC cE cI S.g t)∧Turn (fun k=>k=B) w2 wr)) (fun vi _=>10 - (intOf vi).toNat)
 case atStart=>exact ⟨0,by omega,rfl,hX0⟩
 case round =>
  clear hX0
  obtain ⟨i,hi,rfl,hX⟩:=hrel
  obtain ⟨t,hX1,hX2⟩:=uh hX
  clear hX
  by_cases hlt:i<4
  ·have HLT:=hide hlt
   have hlt':(i:Int)<4:=by omega
   have hl0:(0:Int)≤(i:Int):=by omega
   have u1:wr.cell? ⟨B,11+i,none⟩=some (.bool (t i)):=by
    rw [hX1.cell (c:=11+i) (by omega)]
    unfold Sv.box
    rw [if_neg (by omega),show 11+i - 11=i by omega]
   have fC:=hX1.free
   have hn:Hid (∀b,∃t,Lie (wr.setCell ⟨B,11+i,none⟩ (.bool b)) B 33 15 (Sv.box S.s gC gE gI cC cE cI S.g t)∧Turn (fun k=>k=B) w2 (wr.setCell ⟨B,11+i,none⟩ (.bool b))):=fun b =>
    ⟨fun j=>if j=i then b else t j,Sv.seat_store hX1 b (t':=fun j=>if j=i then b else t j) hlt (if_pos rfl) (fun j _ hne=>if_neg hne),hX2.store B (11+i) (.bool b) rfl⟩
   clear hlt hi hX1 hX2
   go_wp2
   go_roundw
   case rel=>exact ⟨i+1,by have:=uh HLT;omega,by go_num,uh hn _⟩
   case measure=>simp [intOf];have:=uh HLT;omega
  ·obtain rfl:i=4:=by omega
   have hge:¬((4:Nat):Int)<4:=by omega
   obtain ⟨⟨b0,b1,b2,b3,b4,b5,b6,b7,b8,b9,b10⟩,b11,b12,b13,b14⟩:=Sv.fifteen hX1
   have hgr:w2.grownBy wr (some B):=⟨hX2.os,hX2.tape,hX2.output,hX2.size,fun k hk hn=>hX2.block k hk (fun e=>hn (by rw [e]))⟩
   have hR4:Lie wr P 33 15 Sv.voids:=(uh HR).grown hgr (by have:=uh HB;simp;omega)
   have fz:=hR4.free
   obtain ⟨z0,z1,z2,z3,z4,z5,z6,z7,z8,z9,z10,z11,z12,z13,z14⟩:=Sv.void_cells hR4
   have hfo:Hid (∀vs,Sv.Tale w (.returned (.agg (Sv.camp S.s gC gE gI cC cE cI S.g t))) (wr.setCells P 0 vs)):=fun vs=>by
    have hl:=uh HL
    have hlt:w.heap.size≤B:=by have:=uh HP;have:=uh HB;omega
    obtain ⟨m1,m2,m3⟩:=uh hne
    have key:Gd.Lists wr gC gE gI S.c S.E S.I:=⟨hl.cells.grown hgr (by simp;omega),hl.ents.grown hgr (by simp;omega),hl.items.grown hgr (by simp;omega)⟩
    exact ⟨⟨S.s,S.g,S.c,S.E,S.I,t⟩,gC,gE,gI,cC,cE,cI,rfl,uh HCE,⟨key.cells.others (hR4.type_ne key.cells (by decide)) _ _,key.ents.others (hR4.type_ne key.ents (by decide)) _ _,key.items.others (hR4.type_ne key.items (by decide)) _ _⟩,uh hok t,own_sets (by have:=uh HP;omega) vs 0 wr (gow (uh HG) hgr (fun k e=>by cases e;exact hlt))⟩
   clear hX1 hX2 hR4 hlt hi hgr
   go_wp2
   refine bodyPost_ret (v:=.agg (Sv.camp S.s gC gE gI cC cE cI S.g t)) (by simp [results,Tryz.results7,go_sem,Sv.camp,z0,z1,z2,z3,z4,z5,z6,z7,z8,z9,z10,z11,z12,z13,z14]) rfl ?_
   exact uh hfo [_,_,_,_,_,_,_,_,_,_,_,_,_,_,_]


open Go.RowKit

theorem Sv.voids_same (w:World):Calls Tryz.prog 15 #[.agg Sn.void,.agg Sn.void] w (Says w (.bool true)) :=
 same7_alike (fun _=>0) (fun _=>0) (fun _=>0) (fun _ _=>0) (fun _ _=>0) _ _ _ _ _ _ 0 0 0 w ⟨.inl ⟨rfl,rfl⟩,.inl ⟨rfl,rfl⟩,.inl ⟨rfl,rfl⟩,fun _ _ _ e=>by cases e;exact Nat.le_refl _⟩ ⟨.inl ⟨rfl,rfl⟩,.inl ⟨rfl,rfl⟩,.inl ⟨rfl,rfl⟩,fun _ _ _ e=>by cases e;exact Nat.le_refl _⟩ (by omega) (by omega)

set_option maxRecDepth 16000 in
set_option maxHeartbeats 6400000 in
theorem svSame_void (w:World):Calls Tryz.prog 12 #[.agg Sv.void,.agg Sv.void] w (Says w (.bool true)):=by
 obtain ⟨w1,hw1⟩:∃x,x=w.alloc (.cells Sv.void 33):=⟨_,rfl⟩
 obtain ⟨w2,hw2⟩:∃x,x=w1.alloc (.cells Sv.void 33):=⟨_,rfl⟩
 have hg1:w.grownBy w1 none:=by rw [hw1];exact World.grownBy_alloc _ _ _
 have hg2:w1.grownBy w2 none:=by rw [hw2];exact World.grownBy_alloc _ _ _
 have hA:Lie w2 w.heap.size 33 15 Sv.voids:=by
  have h:Lie w1 w.heap.size 33 15 Sv.voids:=by rw [hw1];exact Sv.void_lie w
  exact h.on hg2
 have hB:Lie w2 w1.heap.size 33 15 Sv.voids:=by rw [hw2];exact Sv.void_lie w1
 have cs:=hide (Sv.voids_same w2)
 have heq:∀d wx,(Op.equalIn (d+2) 31 (.agg #[.bool false,.bool false,.bool false,.bool false]) (.agg #[.bool false,.bool false,.bool false,.bool false])).run Tryz.prog wx=.ok true wx:=fun d wx=>run_equal_seats d (fun _=>false) (fun _=>false) wx
 have hs1:w1.heap.size=w.heap.size+1:=by rw [hw1];simp
 obtain ⟨a0,a1,a2,a3,a4,a5,a6,a7,a8,a9,a10,a11,a12,a13,a14⟩:=Sv.void_cells hA
 obtain ⟨b0,b1,b2,b3,b4,b5,b6,b7,b8,b9,b10,b11,b12,b13,b14⟩:=Sv.void_cells hB
 have HG:=hide (gtr hg1 hg2)
 obtain ⟨B1,hB1⟩:∃B,w.heap.size=B:=⟨_,rfl⟩
 rw [hB1] at a0 a1 a2 a3 a4 a5 a6 a7 a8 a9 a10 a11 a12 a13 a14 hs1
 rw [hs1] at b0 b1 b2 b3 b4 b5 b6 b7 b8 b9 b10 b11 b12 b13 b14
 clear hg1 hg2 hA hB hs1
 unfold Sv.void at hw1 hw2 ⊢
 unfold Sn.void at cs
 go_enter Tryz.func12,Tryz.ntmps12
 go_upto_region 1 with fail
 rw [←hw1,←hw2]
 clear hw1 hw2
 go_wp2_with fail
 refine (uh cs).mono ?_
 rintro e w3 ⟨rfl,hg3⟩
 have hfin:=hide (gtr (uh HG) hg3)
 clear cs hg3
 go_wp2
 go_ret
 exact ⟨rfl,uh hfin⟩

set_option maxRecDepth 16000 in
set_option maxHeartbeats 12800000 in
theorem known14_any (w:World):Calls Tryz.prog 6 #[] w (Says w (.bool true)):=by
 have cN:=hide (Dk.mine_new 40 w (by omega) (by omega))
 go_enter Tryz.func6,Tryz.ntmps6
 go_wp2_with fail
 refine (uh cN).mono ?_
 rintro e x1 ⟨p,bm,rfl,hM,hg1⟩
 have hD1:Sv.Disk x1 w.heap.size p bm 40 Dk.fresh none:=⟨hM,Sv.fresh_tells,fun C e=>(by cases e),by simp [Dk.fresh]⟩
 have D1:=hide hD1
 have G1:=hide hg1
 have lo:=hide (And.intro hM.low hM.lowb)
 have cl:=hide (hD1.load (by omega) rfl)
 clear cN hM hg1 hD1
 go_wp2_with fail
 refine (uh cl).mono ?_
 rintro e x2 ⟨hg2,he⟩
 simp only at he
 subst he
 obtain ⟨x3,hx3⟩:∃x,x=x2.alloc (.cells Sv.void 33):=⟨_,rfl⟩
 have hg3:x2.grownBy x3 none:=by rw [hx3];exact World.grownBy_alloc _ _ _
 have D3:=hide (((uh D1).on hg2).on hg3)
 have G3:=hide (gtr (uh G1) (gtr hg2 hg3))
 have cs:=hide (story_any 1 none 0 0 (fun _=>(none,0,0)) (fun _ _=>0) x3 ⟨Nat.zero_le _,fun i hi=>absurd hi (Nat.not_lt_zero i)⟩)
 clear cl hg2 hg3 D1 G1
 unfold Sv.void at hx3 ⊢
 go_upto_region 5 with fail
 rw [←hx3]
 clear hx3
 obtain ⟨B3,hB3⟩:∃B,x2.heap.size=B:=⟨_,rfl⟩
 rw [hB3]
 clear hB3 x2
 go_wp2_with fail
 refine (uh cs).mono ?_
 rintro e x4 ⟨v,base,L,rfl,hbase,hL0,hL31,hBk,hg4⟩
 obtain ⟨q,cap,rfl,hq,hcap,S,gC,gE,gI,cC,cE,cI,hcell,hLs,hcE,hGood,hs0,hs1⟩:=hBk.at (k:=0) hL0
 have i1:(0:Int)<(L.length:Int):=by omega
 have k0:x4.cell? ⟨q,0,none⟩=some (Gd.box S.s gC gE gI cC cE cI S.g 0):=by simpa using hcell 0 (by omega)
 have k1:x4.cell? ⟨q,1,none⟩=some (Gd.box S.s gC gE gI cC cE cI S.g 1):=by simpa using hcell 1 (by omega)
 have k2:x4.cell? ⟨q,2,none⟩=some (Gd.box S.s gC gE gI cC cE cI S.g 2):=by simpa using hcell 2 (by omega)
 have k3:x4.cell? ⟨q,3,none⟩=some (Gd.box S.s gC gE gI cC cE cI S.g 3):=by simpa using hcell 3 (by omega)
 have k4:x4.cell? ⟨q,4,none⟩=some (Gd.box S.s gC gE gI cC cE cI S.g 4):=by simpa using hcell 4 (by omega)
 have k5:x4.cell? ⟨q,5,none⟩=some (Gd.box S.s gC gE gI cC cE cI S.g 5):=by simpa using hcell 5 (by omega)
 have k6:x4.cell? ⟨q,6,none⟩=some (Gd.box S.s gC gE gI cC cE cI S.g 6):=by simpa using hcell 6 (by omega)
 have k7:x4.cell? ⟨q,7,none⟩=some (Gd.box S.s gC gE gI cC cE cI S.g 7):=by simpa using hcell 7 (by omega)
 have k8:x4.cell? ⟨q,8,none⟩=some (Gd.box S.s gC gE gI cC cE cI S.g 8):=by simpa using hcell 8 (by omega)
 have k9:x4.cell? ⟨q,9,none⟩=some (Gd.box S.s gC gE gI cC cE cI S.g 9):=by simpa using hcell 9 (by omega)
 have k10:x4.cell? ⟨q,10,none⟩=some (Gd.box S.s gC gE gI cC cE cI S.g 10):=by simpa using hcell 10 (by omega)
 dsimp only [Gd.box] at k0 k1 k2 k3 k4 k5 k6 k7 k8 k9 k10
 obtain ⟨x5,hx5⟩:∃x,x=x4.alloc (.cells (Sv.camp S.s gC gE gI cC cE cI S.g (fun _=>false)) 33):=⟨_,rfl⟩
 have hg5:x4.grownBy x5 none:=by rw [hx5];exact World.grownBy_alloc _ _ _
 have hC:Hid (Lie x5 x4.heap.size 33 15 (Sv.box S.s gC gE gI cC cE cI S.g (fun _=>false))):=by
  show Lie x5 _ _ _ _
  rw [hx5]
  exact Sv.camp_lie (heap_alloc_new x4 _)
 have hok:Hid (Sv.C.Ok ⟨S.s,S.g,S.c,S.E,S.I,fun j=>decide (j=2)⟩):=Sv.page_ok _ hGood hs0 hs1 (by omega) (by omega)
 have D5:=hide (((uh D3).on hg4).on hg5)
 have G5:=hide (gtr (uh G3) (gtr hg4 hg5))
 have L5:=hide (hLs.on hg5)
 have HCE:=hide hcE
 have hw4:=hide (gtr (uh G3) hg4).size
 clear cs hbase hL0 hL31 hBk hg4 hq hcap hcell hLs hcE hGood hs0 hs1 hg5 D3 G3
 unfold Sv.camp at hx5
 go_upto_region 6 with fail
 rw [←hx5]
 clear hx5 k0 k1 k2 k3 k4 k5 k6 k7 k8 k9 k10 i1
 obtain ⟨B,hBe⟩:∃B,x4.heap.size=B:=⟨_,rfl⟩
 have hBw:Hid (w.heap.size≤B∧B≠p∧B≠bm):=by
  have h1:=(uh D5).away (uh hC) (by decide)
  rw [hBe] at h1
  rw [←hBe]
  exact ⟨uh hw4,by omega⟩
 rw [hBe] at hC ⊢
 clear hBe hw4 x4
 have hC2:Hid (Lie (x5.setCell ⟨B,13,none⟩ (.bool true)) B 33 15 (Sv.box S.s gC gE gI cC cE cI S.g (fun j=>decide (j=2)))):=Sv.seat_store (i:=2) (uh hC) true (by omega) rfl (fun j _ hne=>decide_eq_false hne)
 have gB:w.grownBy (x5.setCell ⟨B,13,none⟩ (.bool true)) none:=gsr (uh G5) ⟨B,13,none⟩ (uh hBw).1 _
 have tB:Turn (fun k=>k=B) x5 (x5.setCell ⟨B,13,none⟩ (.bool true)):=(Turn.refl _ _).store B 13 _ rfl
 have D6:=hide ((uh D5).turn tB (by have:=(uh hBw).2.1;omega) (by have:=(uh hBw).2.2;omega))
 have L6:Hid (Gd.Lists (x5.setCell ⟨B,13,none⟩ (.bool true)) gC gE gI S.c S.E S.I):=by
  have hl:=uh L5
  have hc:=uh hC
  exact ⟨hl.cells.other (hc.type_ne hl.cells (by decide)) _ _,hl.ents.other (hc.type_ne hl.ents (by decide)) _ _,hl.items.other (hc.type_ne hl.items (by decide)) _ _⟩
 have G6:=hide gB
 have fB:=(uh hC).free
 have u13:x5.cell? ⟨B,13,none⟩=some (.bool false):=(uh hC).cell (c:=13) (by omega)
 clear gB tB hC D5 G5 L5
 go_upto_region 7 with fail
 obtain ⟨x6,hx6⟩:∃x,x5.setCell ⟨B,13,none⟩ (.bool true)=x:=⟨_,rfl⟩
 rw [hx6] at hC2 D6 L6 G6 ⊢
 clear hx6 u13 fB x5
 obtain ⟨⟨b0,b1,b2,b3,b4,b5,b6,b7,b8,b9,b10⟩,b11,b12,b13,b14⟩:=Sv.fifteen (uh hC2)
 have cv:=hide (Sv.Disk.save (cC:=cC) (cE:=cE) (cI:=cI) (uh D6) (by omega) rfl (by decide) (uh hok) (uh HCE) (uh L6))
 have e0:decide ((0:Nat)=2)=false∧decide ((1:Nat)=2)=false∧decide ((2:Nat)=2)=true∧decide ((3:Nat)=2)=false:=⟨rfl,rfl,rfl,rfl⟩
 rw [e0.1] at b11
 rw [e0.2.1] at b12
 rw [e0.2.2.1] at b13
 rw [e0.2.2.2] at b14
 unfold Sv.camp at cv
 simp only [e0.1,e0.2.1,e0.2.2.2] at cv
 clear e0
 go_wp2_with fail
 refine (uh cv).mono ?_
 rintro e x7 ⟨r,st',o',rfl,hD7,hK7,ht7⟩
 rcases hK7.way with ⟨rfl,hdead,rfl,-⟩ | ⟨-,-,-,k4⟩
 case inr=>exact absurd k4 (by simp [Dk.fresh])
 have cl:=hide (hD7.load (by omega) hdead)
 have hC7:=hide ((uh D6).lie ht7 (uh hC2) (by decide))
 have L7:=hide ((uh D6).lists ht7 (uh L6))
 have B7:Hid (w.grownBy x7 none):=(Dk.still (Turn.new (uh G6)) ht7 (uh lo).1 (uh lo).2).grownBy
 have heq:∀d wx,(Op.equalIn (d+2) 31 (.agg #[.bool false,.bool false,.bool true,.bool false]) (.agg #[.bool false,.bool false,.bool true,.bool false])).run Tryz.prog wx=.ok true wx:=fun d wx=>run_equal_seats d (fun j=>decide (j=2)) (fun j=>decide (j=2)) wx
 clear cv hD7 hK7 ht7 hdead D6 L6 hC2 G6 b0 b1 b2 b3 b4 b5 b6 b7 b8 b9 b10 b11 b12 b13 b14
 go_wp2_with fail
 refine (uh cl).mono ?_
 rintro e x8 ⟨hg8,v,rfl,jC,jE,jI,dC,dE,dI,hv,-,-,-,-,hL8⟩
 obtain rfl:v=.agg #[.int .i64 (S.s 0),.int .i64 (S.s 1),.int .i64 (S.s 2),.int .i64 (S.s 3),.slice (some ⟨jC,0,none⟩) 384 dC,.slice (some ⟨jE,0,none⟩) 32 dE,.slice (some ⟨jI,0,none⟩) 40 dI,.int .i64 (S.g 0),.int .i64 (S.g 1),.int .i64 (S.g 2),.int .i64 (S.g 3),.bool false,.bool false,.bool true,.bool false]:=hv
 obtain ⟨x9,hx9⟩:∃x,x=x8.alloc (.cells #[.int .i64 (S.s 0),.int .i64 (S.s 1),.int .i64 (S.s 2),.int .i64 (S.s 3),.slice (some ⟨jC,0,none⟩) 384 dC,.slice (some ⟨jE,0,none⟩) 32 dE,.slice (some ⟨jI,0,none⟩) 40 dI,.int .i64 (S.g 0),.int .i64 (S.g 1),.int .i64 (S.g 2),.int .i64 (S.g 3),.bool false,.bool false,.bool true,.bool false] 33):=⟨_,rfl⟩
 have hg9:x8.grownBy x9 none:=by rw [hx9];exact World.grownBy_alloc _ _ _
 have hE:Lie x9 x8.heap.size 33 15 (Sv.box S.s jC jE jI dC dE dI S.g (fun j=>decide (j=2))):=by rw [hx9];exact Sv.camp_lie (s:=S.s) (g:=S.g) (t:=fun j=>decide (j=2)) (heap_alloc_new x8 _)
 obtain ⟨⟨b0,b1,b2,b3,b4,b5,b6,b7,b8,b9,b10⟩,b11,b12,b13,b14⟩:=Sv.fifteen ((uh hC7).on (gtr hg8 hg9))
 obtain ⟨⟨a0,a1,a2,a3,a4,a5,a6,a7,a8,a9,a10⟩,a11,a12,a13,a14⟩:=Sv.fifteen hE
 have e0:decide ((0:Nat)=2)=false∧decide ((1:Nat)=2)=false∧decide ((2:Nat)=2)=true∧decide ((3:Nat)=2)=false:=⟨rfl,rfl,rfl,rfl⟩
 rw [e0.1] at b11 a11
 rw [e0.2.1] at b12 a12
 rw [e0.2.2.1] at b13 a13
 rw [e0.2.2.2] at b14 a14
 have cq:=hide (same7_any S.s S.g S.c S.E S.I jC jE jI dC dE dI gC gE gI cC cE cI x9 (hL8.on hg9) ((uh L7).on (gtr hg8 hg9)))
 have B9:=hide (gtr (uh B7) (gtr hg8 hg9))
 unfold Gd.world at cq
 clear cl hg8 hg9 hE hL8 e0 L7 hC7 B7
 go_upto_region 9 with fail
 rw [←hx9]
 clear hx9
 obtain ⟨B8,hB8⟩:∃B,x8.heap.size=B:=⟨_,rfl⟩
 rw [hB8] at a0 a1 a2 a3 a4 a5 a6 a7 a8 a9 a10 a11 a12 a13 a14
 rw [hB8]
 clear hB8 x8
 go_wp2_with fail
 refine (uh cq).mono ?_
 rintro e x10 ⟨rfl,hg10⟩
 have hfin:=hide (gtr (uh B9) hg10)
 clear cq hg10 a0 a1 a2 a3 a4 a5 a6 a7 a8 a9 a10 a11 a12 a13 a14 b0 b1 b2 b3 b4 b5 b6 b7 b8 b9 b10 b11 b12 b13 b14
 go_wp2
 go_ret
 exact ⟨rfl,uh hfin⟩


open Go.RowKit

structure Sv.Q where
 i:Nat→Int
 a:Nat→Option Addr × Nat × Nat
 g:Nat→Int
 t:Nat→Bool

def Sv.Q.box (F:Sv.Q):Nat→Value
 | 0=>.int .i64 (F.i 0)
 | 1=>.int .i64 (F.i 1)
 | 2=>.int .i64 (F.i 2)
 | 3=>.int .i64 (F.i 3)
 | 4=>.slice (F.a 0).1 (F.a 0).2.1 (F.a 0).2.2
 | 5=>.slice (F.a 1).1 (F.a 1).2.1 (F.a 1).2.2
 | 6=>.slice (F.a 2).1 (F.a 2).2.1 (F.a 2).2.2
 | 7=>.int .i64 (F.g 0)
 | 8=>.int .i64 (F.g 1)
 | 9=>.int .i64 (F.g 2)
 | 10=>.int .i64 (F.g 3)
 | 11=>.bool (F.t 0)
 | 12=>.bool (F.t 1)
 | 13=>.bool (F.t 2)
 | 14=>.bool (F.t 3)
 | _=>undef

def Sv.Q.none:Sv.Q:=⟨fun _=>0,fun _=>(Option.none,0,0),fun _=>0,fun _=>false⟩

def Sv.Q.of (s:Nat→Int) (gC gE gI cC cE cI:Nat) (g:Nat→Int) (t:Nat→Bool):Sv.Q:=⟨s,fun k=>if k=0 then (some ⟨gC,0,Option.none⟩,384,cC) else if k=1 then (some ⟨gE,0,Option.none⟩,32,cE) else (some ⟨gI,0,Option.none⟩,40,cI),g,t⟩

def Sv.cells (F:Sv.Q):Array Value:=#[.int .i64 (F.i 0),.int .i64 (F.i 1),.int .i64 (F.i 2),.int .i64 (F.i 3),.slice (F.a 0).1 (F.a 0).2.1 (F.a 0).2.2,.slice (F.a 1).1 (F.a 1).2.1 (F.a 1).2.2,.slice (F.a 2).1 (F.a 2).2.1 (F.a 2).2.2,.int .i64 (F.g 0),.int .i64 (F.g 1),.int .i64 (F.g 2),.int .i64 (F.g 3),.bool (F.t 0),.bool (F.t 1),.bool (F.t 2),.bool (F.t 3)]

theorem Sv.cells_camp (s g:Nat→Int) (gC gE gI cC cE cI:Nat) (t:Nat→Bool):Sv.camp s gC gE gI cC cE cI g t=Sv.cells (Sv.Q.of s gC gE gI cC cE cI g t):=rfl

theorem Sv.cells_at (F:Sv.Q) (j:Nat) (hj:j<15):(Sv.cells F)[j]?=some (F.box j):=by
 rcases (show j=0∨j=1∨j=2∨j=3∨j=4∨j=5∨j=6∨j=7∨j=8∨j=9∨j=10∨j=11∨j=12∨j=13∨j=14 by omega) with rfl | rfl | rfl | rfl | rfl | rfl | rfl | rfl | rfl | rfl | rfl | rfl | rfl | rfl | rfl <;> rfl

theorem Sv.cells_lie (x:World) (F:Sv.Q):Lie (x.alloc (.cells (Sv.cells F) 33)) x.heap.size 33 15 F.box :=
 Arr.lie (m:=15) ⟨_,heap_alloc_new x _,rfl,fun i hi=>Sv.cells_at F i hi⟩

theorem Sv.cells15 {x:World} {B:Nat} {F:Sv.Q} (h:Lie x B 33 15 F.box):x.cell? ⟨B,0,none⟩=some (.int .i64 (F.i 0))∧x.cell? ⟨B,1,none⟩=some (.int .i64 (F.i 1))∧x.cell? ⟨B,2,none⟩=some (.int .i64 (F.i 2))∧x.cell? ⟨B,3,none⟩=some (.int .i64 (F.i 3))∧x.cell? ⟨B,4,none⟩=some (.slice (F.a 0).1 (F.a 0).2.1 (F.a 0).2.2)∧x.cell? ⟨B,5,none⟩=some (.slice (F.a 1).1 (F.a 1).2.1 (F.a 1).2.2)∧x.cell? ⟨B,6,none⟩=some (.slice (F.a 2).1 (F.a 2).2.1 (F.a 2).2.2)∧x.cell? ⟨B,7,none⟩=some (.int .i64 (F.g 0))∧x.cell? ⟨B,8,none⟩=some (.int .i64 (F.g 1))∧x.cell? ⟨B,9,none⟩=some (.int .i64 (F.g 2))∧x.cell? ⟨B,10,none⟩=some (.int .i64 (F.g 3))∧x.cell? ⟨B,11,none⟩=some (.bool (F.t 0))∧x.cell? ⟨B,12,none⟩=some (.bool (F.t 1))∧x.cell? ⟨B,13,none⟩=some (.bool (F.t 2))∧x.cell? ⟨B,14,none⟩=some (.bool (F.t 3)) :=
 ⟨h.cell (c:=0) (by omega),h.cell (c:=1) (by omega),h.cell (c:=2) (by omega),h.cell (c:=3) (by omega),h.cell (c:=4) (by omega),h.cell (c:=5) (by omega),h.cell (c:=6) (by omega),h.cell (c:=7) (by omega),h.cell (c:=8) (by omega),h.cell (c:=9) (by omega),h.cell (c:=10) (by omega),h.cell (c:=11) (by omega),h.cell (c:=12) (by omega),h.cell (c:=13) (by omega),h.cell (c:=14) (by omega)⟩

def Sv.Camp (x:World) (C:Sv.C) (F:Sv.Q):Prop:=C.Ok∧∃gC gE gI cC cE cI,F=Sv.Q.of C.s gC gE gI cC cE cI C.g C.t∧32≤cE∧Gd.Lists x gC gE gI C.c C.E C.I

def Sv.Tells (x:World):Option Sv.C→Sv.Q→Prop
 | none,F=>F=Sv.Q.none
 | some C,F=>C.Ok∧∃gC gE gI cC cE cI,F=Sv.Q.of C.s gC gE gI cC cE cI C.g C.t∧Gd.Lists x gC gE gI C.c C.E C.I

section
variable {x y:World} {base p bm cnt:Nat} {st:Dk.St} {o oo:Option Sv.C} {C:Sv.C} {F G:Sv.Q}

theorem Sv.Camp.on (h:Sv.Camp x C F) (hg:x.grownBy y none):Sv.Camp y C F:=by
 obtain ⟨h1,gC,gE,gI,cC,cE,cI,h2,h3,h4⟩:=h
 exact ⟨h1,gC,gE,gI,cC,cE,cI,h2,h3,h4.on hg⟩

theorem Sv.Camp.tells (h:Sv.Camp x C F):Sv.Tells x (some C) F:=by
 obtain ⟨h1,gC,gE,gI,cC,cE,cI,h2,_,h4⟩:=h
 exact ⟨h1,gC,gE,gI,cC,cE,cI,h2,h4⟩

theorem Sv.Tells.on (h:Sv.Tells x o F) (hg:x.grownBy y none):Sv.Tells y o F:=by
 cases o with
 | none=>exact h
 | some C =>
  obtain ⟨h1,gC,gE,gI,cC,cE,cI,h2,h4⟩:=h
  exact ⟨h1,gC,gE,gI,cC,cE,cI,h2,h4.on hg⟩

theorem svSame_tells (h:Sv.Tells x o F) (h2:Sv.Tells x o G):Calls Tryz.prog 12 #[.agg (Sv.cells F),.agg (Sv.cells G)] x (Says x (.bool true)):=by
 cases o with
 | none =>
  have e1:F=Sv.Q.none:=h
  have e2:G=Sv.Q.none:=h2
  subst e1 e2
  exact svSame_void x
 | some C =>
  obtain ⟨h1,gC,gE,gI,cC,cE,cI,rfl,h4⟩:=h
  obtain ⟨_,jC,jE,jI,dC,dE,dI,rfl,h5⟩:=h2
  have h:=svSame_any C.s C.s C.g C.g C.c C.c C.E C.E C.I C.I C.t C.t gC gE gI cC cE cI jC jE jI dC dE dI x h4 h5 h1.byte h1.byte
  rw [Sv.sameT_self,Sn.sameW_yes,Bool.and_true] at h
  exact h

end


open Go.RowKit

def Sv.nestG (x:World) (T:Nat) (F:Sv.Q):World:=(((((((((((((((x.setCell ⟨T,0,none⟩ (.int .i64 (F.i 0))).setCell ⟨T,1,none⟩ (.int .i64 (F.i 1))).setCell ⟨T,2,none⟩ (.int .i64 (F.i 2))).setCell ⟨T,3,none⟩ (.int .i64 (F.i 3))).setCell ⟨T,4,none⟩ (.slice (F.a 0).1 (F.a 0).2.1 (F.a 0).2.2)).setCell ⟨T,5,none⟩ (.slice (F.a 1).1 (F.a 1).2.1 (F.a 1).2.2)).setCell ⟨T,6,none⟩ (.slice (F.a 2).1 (F.a 2).2.1 (F.a 2).2.2)).setCell ⟨T,7,none⟩ (.int .i64 (F.g 0))).setCell ⟨T,8,none⟩ (.int .i64 (F.g 1))).setCell ⟨T,9,none⟩ (.int .i64 (F.g 2))).setCell ⟨T,10,none⟩ (.int .i64 (F.g 3))).setCell ⟨T,11,none⟩ (.bool (F.t 0))).setCell ⟨T,12,none⟩ (.bool (F.t 1))).setCell ⟨T,13,none⟩ (.bool (F.t 2))).setCell ⟨T,14,none⟩ (.bool (F.t 3)))

theorem Sv.now_nestG {x:World} {T:Nat} {K:Nat→Value} (h:Lie x T 33 15 K) (F:Sv.Q):Lie (Sv.nestG x T F) T 33 15 F.box∧Turn (fun k=>k=T) x (Sv.nestG x T F):=by
 refine ⟨((((((((((((((((h.store 0 _).store 1 _).store 2 _).store 3 _).store 4 _).store 5 _).store 6 _).store 7 _).store 8 _).store 9 _).store 10 _).store 11 _).store 12 _).store 13 _).store 14 _)).congr fun j hj=>?_,(((((((((((((((Turn.refl (fun k=>k=T) x).store T 0 _ rfl).store T 1 _ rfl).store T 2 _ rfl).store T 3 _ rfl).store T 4 _ rfl).store T 5 _ rfl).store T 6 _ rfl).store T 7 _ rfl).store T 8 _ rfl).store T 9 _ rfl).store T 10 _ rfl).store T 11 _ rfl).store T 12 _ rfl).store T 13 _ rfl).store T 14 _ rfl⟩
 rcases (show j=0∨j=1∨j=2∨j=3∨j=4∨j=5∨j=6∨j=7∨j=8∨j=9∨j=10∨j=11∨j=12∨j=13∨j=14 by omega) with rfl | rfl | rfl | rfl | rfl | rfl | rfl | rfl | rfl | rfl | rfl | rfl | rfl | rfl | rfl <;> rfl

def Sv.world (F:Sv.Q):Array Value:=#[.int .i64 (F.i 0),.int .i64 (F.i 1),.int .i64 (F.i 2),.int .i64 (F.i 3),.slice (F.a 0).1 (F.a 0).2.1 (F.a 0).2.2,.slice (F.a 1).1 (F.a 1).2.1 (F.a 1).2.2,.slice (F.a 2).1 (F.a 2).2.1 (F.a 2).2.2,.int .i64 (F.g 0),.int .i64 (F.g 1),.int .i64 (F.g 2),.int .i64 (F.g 3)]

theorem Sv.world_at (F:Sv.Q) (j:Nat) (hj:j<11):(Sv.world F)[j]?=some (F.box j):=by
 rcases (show j=0∨j=1∨j=2∨j=3∨j=4∨j=5∨j=6∨j=7∨j=8∨j=9∨j=10 by omega) with rfl | rfl | rfl | rfl | rfl | rfl | rfl | rfl | rfl | rfl | rfl <;> rfl

theorem Sv.world_lie (x:World) (F:Sv.Q):Lie (x.alloc (.cells (Sv.world F) 30)) x.heap.size 30 11 F.box :=
 Arr.lie (m:=11) ⟨_,heap_alloc_new x _,rfl,fun i hi=>Sv.world_at F i hi⟩

theorem Sv.cells11 {x:World} {B:Nat} {F:Sv.Q} (h:Lie x B 30 11 F.box):x.cell? ⟨B,0,none⟩=some (.int .i64 (F.i 0))∧x.cell? ⟨B,1,none⟩=some (.int .i64 (F.i 1))∧x.cell? ⟨B,2,none⟩=some (.int .i64 (F.i 2))∧x.cell? ⟨B,3,none⟩=some (.int .i64 (F.i 3))∧x.cell? ⟨B,4,none⟩=some (.slice (F.a 0).1 (F.a 0).2.1 (F.a 0).2.2)∧x.cell? ⟨B,5,none⟩=some (.slice (F.a 1).1 (F.a 1).2.1 (F.a 1).2.2)∧x.cell? ⟨B,6,none⟩=some (.slice (F.a 2).1 (F.a 2).2.1 (F.a 2).2.2)∧x.cell? ⟨B,7,none⟩=some (.int .i64 (F.g 0))∧x.cell? ⟨B,8,none⟩=some (.int .i64 (F.g 1))∧x.cell? ⟨B,9,none⟩=some (.int .i64 (F.g 2))∧x.cell? ⟨B,10,none⟩=some (.int .i64 (F.g 3)) :=
 ⟨h.cell (c:=0) (by omega),h.cell (c:=1) (by omega),h.cell (c:=2) (by omega),h.cell (c:=3) (by omega),h.cell (c:=4) (by omega),h.cell (c:=5) (by omega),h.cell (c:=6) (by omega),h.cell (c:=7) (by omega),h.cell (c:=8) (by omega),h.cell (c:=9) (by omega),h.cell (c:=10) (by omega)⟩

section
variable {w x y z:World} {G n cap:Nat} {l:List Int} {C:Sv.C} {F K:Sv.Q}

theorem Sv.own_down {b b' n z:Nat} {T:TypeId} {v:Value} {xs:List Value} (h:x.ownsRow b T z v n xs) (hb:b'≤b):x.ownsRow b' T z v n xs:=by
 refine ⟨h.1,?_⟩
 rcases h.2 with q | ⟨g,c,cur,h1,h2,h3⟩
 ·exact .inl q
 ·exact .inr ⟨g,c,cur,h1,Nat.le_trans hb h2,h3⟩

theorem Sn.Buf.down (h:Sn.Buf x y G n cap l) (hg:w.grownBy x none):Sn.Buf w y G n cap l :=
 ⟨Sv.own_down h.own hg.size,h.byte,gtr hg h.grown⟩

theorem Sv.Camp.encode (h:Sv.Camp x C F):Calls Tryz.prog 9 #[.agg (Sv.cells F)] x fun e z=>∃G cap,e=.returned (.tuple #[.slice (some ⟨G,0,none⟩) 919 cap,.int .i64 0])∧Sn.Buf x z G 919 cap C.bytes:=by
 obtain ⟨h1,gC,gE,gI,cC,cE,cI,rfl,h3,h4⟩:=h
 refine (svEncode_any C.s C.g C.c C.E C.I C.t gC gE gI cC cE cI x h4 h1.byte h3).mono ?_
 rintro e z ⟨r,hr,⟨h0,_⟩ | ⟨rfl,G,cap,rfl,hb⟩⟩
 ·exact absurd (h1.chk.one hr) h0
 ·exact ⟨G,cap,rfl,hb⟩

theorem Sv.Camp.refEncode (h:Sv.Camp x C F):Calls Tryz.prog 10 #[.agg (Sv.world F)] x fun e z=>∃G cap,e=.returned (.tuple #[.slice (some ⟨G,0,none⟩) 918 cap,.int .i64 0])∧Sn.Buf x z G 918 cap (C.bytes.drop 1):=by
 obtain ⟨h1,gC,gE,gI,cC,cE,cI,rfl,h3,h4⟩:=h
 refine (refEncode_any C.s C.g C.c C.E C.I gC gE gI cC cE cI x h4 (fun y hy=>refCheck11_any C.s C.g C.c C.E C.I gC gE gI cC cE cI y hy h1.byte h3)).mono ?_
 rintro e z ⟨v,r,rfl,hr,-,hown,hg⟩
 obtain rfl:r=0:=h1.chk.one hr
 obtain ⟨g,c,rfl,hb⟩:=Sn.Bytes.buf (w:=x) (hown rfl) (Sn.bytes_byte C.s C.g C.c C.E C.I h1.byte) (by rw [Sn.bytes_len];decide) (Nat.le_refl _) hg
 rw [Sn.bytes_len] at hb ⊢
 exact ⟨g,c,rfl,hb⟩

theorem Sv.Camp.decode (h:Sv.Camp x C F) (hB:Sn.Buf w y G 919 cap C.bytes):Calls Tryz.prog 11 #[.slice (some ⟨G,0,none⟩) 919 cap] y fun e z=>y.grownBy z none∧∃K,e=.returned (.tuple #[.agg (Sv.cells K),.int .i64 0])∧Sv.Tells z (some C) K:=by
 refine (svDecode_is h.1 hB).mono ?_
 rintro e z ⟨v,rfl,⟨gC,gE,gI,cC,cE,cI,rfl,_,_,_,_,hL⟩,hg⟩
 exact ⟨hg,_,rfl,h.1,gC,gE,gI,cC,cE,cI,rfl,hL⟩

def Sv.Gives (z:World) (l:List Int) (r:Int) (F:Sv.Q):Prop :=
 Sv.Rds l r∧((r≠0∧F=Sv.Q.none)∨(r=0∧l.length=919∧∃gC gE gI cC cE cI,F=Sv.Q.of (Sn.rs (Sn.fn (l.drop 1))) gC gE gI cC cE cI (Sn.rg (Sn.fn (l.drop 1))) (Sv.tk l)∧Gd.Lists z gC gE gI (Sn.rc (Sn.fn (l.drop 1))) (Sn.rE (Sn.fn (l.drop 1))) (Sn.rI (Sn.fn (l.drop 1)))))

theorem Sv.Gives.on {r:Int} (h:Sv.Gives y l r F) (hg:y.grownBy z none):Sv.Gives z l r F:=by
 obtain ⟨h1,h2 | ⟨h2,h3,gC,gE,gI,cC,cE,cI,h4,h5⟩⟩:=h
 ·exact ⟨h1,.inl h2⟩
 ·exact ⟨h1,.inr ⟨h2,h3,gC,gE,gI,cC,cE,cI,h4,h5.on hg⟩⟩

theorem Sv.Gives.turn {r:Int} {T m:Nat} {J:Nat→Value} (h:Sv.Gives y l r F) (hT:Lie y T 33 m J) (ht:Turn (fun k=>k=T) y z):Sv.Gives z l r F:=by
 obtain ⟨h1,h2 | ⟨h2,h3,gC,gE,gI,cC,cE,cI,h4,h5⟩⟩:=h
 ·exact ⟨h1,.inl h2⟩
 ·exact ⟨h1,.inr ⟨h2,h3,gC,gE,gI,cC,cE,cI,h4,⟨Sv.lie_turn h5.cells ht (fun e=>hT.type_ne h5.cells (by decide) e.symm),Sv.lie_turn h5.ents ht (fun e=>hT.type_ne h5.ents (by decide) e.symm),Sv.lie_turn h5.items ht (fun e=>hT.type_ne h5.items (by decide) e.symm)⟩⟩⟩

theorem Sn.Buf.gives (h:Sn.Buf w x G n cap l):Calls Tryz.prog 11 #[.slice (some ⟨G,0,none⟩) n cap] x fun e z=>x.grownBy z none∧∃r F,e=.returned (.tuple #[.agg (Sv.cells F),.int .i64 r])∧Sv.Gives z l r F:=by
 have key:Calls Tryz.prog 11 #[.slice (some ⟨G,0,none⟩) n cap] x (Sv.Reads x l):=by
  by_cases h0:0<n
  ·exact svDecode_any h h0
  ·obtain rfl:n=0:=by omega
   have hl:=h.len
   obtain rfl:l=[]:=List.length_eq_zero_iff.1 hl
   exact svDecode_none _ cap x
 refine key.mono ?_
 rintro e z ⟨r,hr,hg,⟨h0,rfl⟩ | ⟨rfl,h9,gC,gE,gI,cC,cE,cI,rfl,_,_,_,_,hL⟩⟩
 ·exact ⟨hg,r,Sv.Q.none,rfl,hr,.inl ⟨h0,rfl⟩⟩
 ·exact ⟨hg,0,_,rfl,hr,.inr ⟨rfl,h9,gC,gE,gI,cC,cE,cI,rfl,hL⟩⟩

def Sv.Shows (z:World) (l:List Int) (r:Int) (K:Sv.Q):Prop :=
 (r≠0∧K=Sv.Q.none)∨(r=0∧∃gC gE gI cC cE cI,K=Sv.Q.of (Sn.rs (Sn.fn (l.drop 1))) gC gE gI cC cE cI (Sn.rg (Sn.fn (l.drop 1))) (fun _=>false)∧Gd.Lists z gC gE gI (Sn.rc (Sn.fn (l.drop 1))) (Sn.rE (Sn.fn (l.drop 1))) (Sn.rI (Sn.fn (l.drop 1))))

theorem Sv.Shows.on {r:Int} (h:Sv.Shows y l r K) (hg:y.grownBy z none):Sv.Shows z l r K:=by
 obtain h2 | ⟨h2,gC,gE,gI,cC,cE,cI,h4,h5⟩:=h
 ·exact .inl h2
 ·exact .inr ⟨h2,gC,gE,gI,cC,cE,cI,h4,h5.on hg⟩

theorem Sn.Buf.shows {r:Int} (h:Sn.Buf w x G n cap l) (h0:0<n) (h15:¬15<Sn.fn l 0) (hr:Sv.Rds l r) (a:Option Addr) (ha:n - 1=918→a=some ⟨G,1,none⟩):Calls Tryz.prog 14 #[.slice a (n - 1) (cap - 1)] x fun e z=>x.grownBy z none∧∃K,e=.returned (.tuple #[.agg (Sv.world K),.int .i64 r])∧Sv.Shows z l r K:=by
 have hl:=h.len
 refine (h.refReadsAt a 1 (by omega) ha).mono ?_
 rintro e z ⟨r',hr',hcase⟩
 unfold Sv.Rds at hr
 rw [if_neg (by omega),if_neg h15] at hr
 obtain rfl:r=r':=hr.one hr'
 rcases hcase with ⟨h1,rfl,hg⟩ | ⟨rfl,_,v,rfl,gC,gE,gI,cC,cE,cI,hv,_,_,_,_,_,_,_,hL,hg⟩
 ·exact ⟨hg,Sv.Q.none,rfl,.inl ⟨h1,rfl⟩⟩
 ·obtain rfl:v=.agg (Gd.world (Sn.rs (Sn.fn (l.drop 1))) gC gE gI cC cE cI (Sn.rg (Sn.fn (l.drop 1)))):=by simpa using hv
  exact ⟨hg,_,rfl,.inr ⟨rfl,gC,gE,gI,cC,cE,cI,rfl,hL⟩⟩

theorem Sv.Gives.same {r:Int} (h:Sv.Gives x l r F) (h2:Sv.Shows x l r K):Calls Tryz.prog 15 #[.agg (Sv.world F),.agg (Sv.world K)] x (Says x (.bool true)):=by
 rcases h.2 with ⟨h0,rfl⟩ | ⟨rfl,_,gC,gE,gI,cC,cE,cI,rfl,hL⟩
 ·rcases h2 with ⟨_,rfl⟩ | ⟨k,_⟩
  ·exact Sv.voids_same x
  ·exact absurd k h0
 ·rcases h2 with ⟨k,_⟩ | ⟨_,jC,jE,jI,dC,dE,dI,rfl,hL2⟩
  ·exact absurd rfl k
  ·exact same7_any _ _ _ _ _ gC gE gI cC cE cI jC jE jI dC dE dI x hL hL2

theorem Sv.Gives.seat (h:Sv.Gives x l 0 F) (i:Nat):F.t i=decide (Sn.fn l 0 / 2 ^ i % 2=1):=by
 rcases h.2 with ⟨h0,_⟩ | ⟨_,_,gC,gE,gI,cC,cE,cI,rfl,_⟩
 ·exact absurd rfl h0
 ·rfl

theorem Sn.Buf.more0 {v':Value} {lm:List Int} (h:Sn.Buf w x G n cap l) (hown:z.ownsRow w.heap.size 5 1 v' (n+lm.length) (Ck.bys l ++ Ck.bys lm)) (hg:x.grownBy z (some G)) (hb:∀b∈lm,0≤b∧b≤255) (hv:v'≠.slice none 0 0):∃g c,v'=.slice (some ⟨g,0,none⟩) (n+lm.length) c∧Sn.Buf w z g (n+lm.length) c (l ++ lm):=by
 rcases hown.2 with ⟨e,_⟩ | ⟨g,c,cur,e,_⟩
 ·exact absurd e hv
 ·refine ⟨g,c,e,?_,fun b q=>?_,gow h.grown hg (fun k e=>by cases e;exact h.low)⟩
  ·unfold Ck.bys at hown ⊢
   rw [List.map_append,←e]
   exact hown
  ·rcases List.mem_append.1 q with q | q
   ·exact h.byte b q
   ·exact hb b q

end


open Go.RowKit

theorem Sv.wfs {a:Int} (h:(Lit.int .i64 a).wf=true):-9223372036854775808≤a∧a≤9223372036854775807:=by
 simp only [Lit.wf,Bool.and_eq_true,decide_eq_true_eq,show IntKind.i64.min=-9223372036854775808 from by decide,show IntKind.i64.max=9223372036854775807 from by decide] at h
 exact h


open Go.RowKit

def Sv.headsB (n:Nat):Code→Bool
 | .region k _ _=>k == n
 | .seq a _=>Sv.headsB n a
 | _=>false

def Sv.findsB (n:Nat):Code→Option Code
 | .seq a b=>if Sv.headsB n a then some (.seq a b) else match Sv.findsB n a with
  | some c=>some c
  | none=>Sv.findsB n b
 | .cond _ a b=>match Sv.findsB n a with
  | some c=>some c
  | none=>Sv.findsB n b
 | _=>none

noncomputable def Sv.bytes11:Code:=(Tryz.f3.body.bind (Sv.findsB 11)).getD .skip
noncomputable def Sv.bytes18:Code:=(Tryz.f3.body.bind (Sv.findsB 18)).getD .skip

theorem Sn.Buf.ne_camp {w x:World} {G n cap X m:Nat} {l:List Int} {J:Nat→Value} (h:Sn.Buf w x G n cap l) (hX:Lie x X 33 m J):G≠X:=by
 rcases h.own.2 with ⟨e,_⟩ | ⟨g,c,cur,e,_,hg,_⟩
 ·cases e
 ·simp only [Value.slice.injEq,Option.some.injEq,Addr.mk.injEq,and_true] at e
  obtain ⟨M,K,⟨c2,h2,_⟩,_,_⟩:=hX
  intro q
  rw [e.1] at q
  subst q
  rw [hg] at h2
  simp only [Option.some.injEq,Obj.cells.injEq] at h2
  exact absurd h2.2.1 (by decide)

theorem Sn.Buf.src1 {w x:World} {G n cap:Nat} {l:List Int} (h:Sn.Buf w x G n cap l):Ck.Src x (.slice (some ⟨G,1,none⟩) (n - 1) (cap - 1)) (l.drop 1):=by
 refine .inr ⟨⟨G,1,none⟩,cap - 1,by rw [List.length_drop,h.len],fun j u hj=>?_⟩
 have hc:=h.own.cells (g:=G) rfl (1+j) u (by
  unfold Ck.bys at hj ⊢
  rw [List.map_drop,List.getElem?_drop] at hj
  exact hj)
 rw [Go.WideShapes.add_plain] at hc ⊢
 simpa using hc

theorem Sv.run_tail (G n cb:Nat) (hn:1≤n):∃a,(∀w:World,(Instr.slice 24 (.slice (some ⟨G,0,none⟩) n cb) (some (.int .i64 1)) none none).run Tryz.prog w=.ok (.slice a (n - 1) (cb - 1)) w)∧(cb≠1→a=some ⟨G,1,none⟩):=by
 refine ⟨if cb=1 then some ⟨G,0,none⟩ else some ⟨G,1,none⟩,fun w=>?_,fun q=>by rw [if_neg q]⟩
 have hr:=run_slice_l (P:=Tryz.prog) w 24 (some ⟨G,0,none⟩) n cb (by kernel_rfl) .i64 1 (by omega) (by omega)
 rw [hr]
 by_cases hz:cb=1 <;> simp [go_sem,sliced,hz,Addr.add]

set_option maxRecDepth 16000 in
set_option maxHeartbeats 25600000 in
theorem saveBytes_tail {f0 f1 f2 f3 f4 f5 f6 f7 f8 f9 f10 f11 f12 f13 f14 f15 f17 f18 f19 f21 f22 f23 f24 f25 f26 f27 f28 f29 f30 f31 f32 f33 f34 f35 f36 f37 f38 f39 f40 f41 f42 f43 f44 f45 f46 f47 f48 f49 f50 f51 f52 f53 f54 f55 f56 f57 f58 f59 f60 f61 f62 f63 f64 f65 f66 f67 f68 f69 f70 f71 f72 f73 f74 f75 f76 f77 f78 f79 f80 f81 f82 f83 f84 f85 f86 f87 f88 f89 f90 f91 f92 f93 f94 f95 f96 f97 f98 f99 f100 f101 f102 f103 f104 f105 f106 f107 f108 f109 f110 f111 f112 f113 f114 f115 f116 f117 f118 f119 f120 f121 f122 f123 f124 f125 f126 f127 f128 f129 f130 f131 f132 f133 f134 f135 f136 f137 f138 f139 f140 f141 f142 f143 f144 f145 f146 f147 f148 f149 f150 f151 f152 f153 f154 f155 f156 f157 f158 f159 f160 f161 f162 f163 f164 f165 f166 f167 f168 f169 f170 f171 f172 f173 f174 f175 f176 f177 f178 f179 f180 f181 f182 f183 f184 f185:Value} (w x:World) (G n cb X:Nat) (l:List Int) (J:Nat→Value) (hB:Hid (Sn.Buf w x G n cb l)) (hX:Hid (Lie x X 33 15 J)) (hXw:Hid (w.heap.size≤X)) (hn:Hid (n≤1019)) :
  Code.wp Tryz.prog Sv.bytes18 (bodyPost Tryz.prog Tryz.f3 fun e w'=>e=.returned (.bool true)∧Below w.heap.size w w') ⟨#[f0,f1,f2,f3,f4,f5,f6,f7,f8,f9,f10,f11,f12,f13,f14,f15,(.slice (some ⟨G,0,none⟩) n cb),f17,f18,f19,(.pointer (some ⟨X,0,none⟩)),f21,f22,f23,f24,f25,f26,f27,f28,f29,f30,f31,f32,f33,f34,f35,f36,f37,f38,f39,f40,f41,f42,f43,f44,f45,f46,f47,f48,f49,f50,f51,f52,f53,f54,f55,f56,f57,f58,f59,f60,f61,f62,f63,f64,f65,f66,f67,f68,f69,f70,f71,f72,f73,f74,f75,f76,f77,f78,f79,f80,f81,f82,f83,f84,f85,f86,f87,f88,f89,f90,f91,f92,f93,f94,f95,f96,f97,f98,f99,f100,f101,f102,f103,f104,f105,f106,f107,f108,f109,f110,f111,f112,f113,f114,f115,f116,f117,f118,f119,f120,f121,f122,f123,f124,f125,f126,f127,f128,f129,f130,f131,f132,f133,f134,f135,f136,f137,f138,f139,f140,f141,f142,f143,f144,f145,f146,f147,f148,f149,f150,f151,f152,f153,f154,f155,f156,f157,f158,f159,f160,f161,f162,f163,f164,f165,f166,f167,f168,f169,f170,f171,f172,f173,f174,f175,f176,f177,f178,f179,f180,f181,f182,f183,f184,f185],[]⟩ x:=by
 conv=>arg 2;whnf
 have cd:=hide (uh hB).gives
 go_wp2_with fail
 refine (uh cd).mono ?_
 rintro e x1 ⟨hg1,r,F,rfl,hGv⟩
 have hX1:=(uh hX).on hg1
 have fT:=hX1.free
 have t0:x1.cell? ⟨X,0,none⟩=some (J 0):=hX1.cell (c:=0) (by omega)
 have t1:x1.cell? ⟨X,1,none⟩=some (J 1):=hX1.cell (c:=1) (by omega)
 have t2:x1.cell? ⟨X,2,none⟩=some (J 2):=hX1.cell (c:=2) (by omega)
 have t3:x1.cell? ⟨X,3,none⟩=some (J 3):=hX1.cell (c:=3) (by omega)
 have t4:x1.cell? ⟨X,4,none⟩=some (J 4):=hX1.cell (c:=4) (by omega)
 have t5:x1.cell? ⟨X,5,none⟩=some (J 5):=hX1.cell (c:=5) (by omega)
 have t6:x1.cell? ⟨X,6,none⟩=some (J 6):=hX1.cell (c:=6) (by omega)
 have t7:x1.cell? ⟨X,7,none⟩=some (J 7):=hX1.cell (c:=7) (by omega)
 have t8:x1.cell? ⟨X,8,none⟩=some (J 8):=hX1.cell (c:=8) (by omega)
 have t9:x1.cell? ⟨X,9,none⟩=some (J 9):=hX1.cell (c:=9) (by omega)
 have t10:x1.cell? ⟨X,10,none⟩=some (J 10):=hX1.cell (c:=10) (by omega)
 have t11:x1.cell? ⟨X,11,none⟩=some (J 11):=hX1.cell (c:=11) (by omega)
 have t12:x1.cell? ⟨X,12,none⟩=some (J 12):=hX1.cell (c:=12) (by omega)
 have t13:x1.cell? ⟨X,13,none⟩=some (J 13):=hX1.cell (c:=13) (by omega)
 have t14:x1.cell? ⟨X,14,none⟩=some (J 14):=hX1.cell (c:=14) (by omega)
 have hN:=Sv.now_nestG hX1 F
 have B1:=(uh hB).on hg1
 have hne:=B1.ne_camp hX1
 obtain ⟨x2,hx2⟩:∃x,Sv.nestG x1 X F=x:=⟨_,rfl⟩
 rw [hx2] at hN
 have BX:=hide hN.1
 have Gv:=hide (hGv.turn hX1 hN.2)
 have B2:=hide (B1.past hN.2 hne (fun k e=>by rw [e];exact uh hXw))
 clear cd hg1 hGv hX1 hN B1 hne hB hX
 unfold Sv.nestG at hx2
 unfold Sv.cells
 go_upto_region 19 with fail
 try rw [hx2]
 clear hx2 fT t0 t1 t2 t3 t4 t5 t6 t7 t8 t9 t10 t11 t12 t13 t14 x1
 have hlen:=hide (uh B2).len
 have hcap:=hide (uh B2).caps
 by_cases hn0:n=0
 ·subst hn0
  obtain rfl:l=[]:=List.length_eq_zero_iff.1 (uh hlen)
  obtain rfl:r=7:=by
   have h:=(uh Gv).1
   unfold Sv.Rds at h
   simpa using h
  have hfin:=hide (none_below (uh B2).grown)
  clear BX Gv B2 hlen hcap hn
  go_wp2
  go_ret
  exact ⟨rfl,uh hfin⟩
 have n0:((n:Int) == 0)=false:=by simp;omega
 have n1:(0:Int)<(n:Int):=by omega
 have u0:x2.cell? ⟨G,0,none⟩=some (.int .u8 (Sn.fn l 0)):=(uh B2).cell (k:=0) (by omega)
 by_cases h15:15<Sn.fn l 0
 ·obtain rfl:r=9:=by
   have h:=(uh Gv).1
   have hl:=uh hlen
   unfold Sv.Rds at h
   rw [if_neg (by omega),if_pos h15] at h
   exact h
  have hfin:=hide (none_below (uh B2).grown)
  obtain ⟨v,hv⟩:∃v,Sn.fn l 0=v:=⟨_,rfl⟩
  rw [hv] at u0 h15
  clear BX Gv B2 hlen hcap hn hn0 hv
  go_wp2
  go_ret
  exact ⟨rfl,uh hfin⟩
 have HN0:Hid (0<n):=(show 0<n by omega)
 obtain ⟨a,hslice,ha⟩:=Sv.run_tail G n cb (by omega)
 have cs:=hide ((uh B2).shows (uh HN0) h15 (uh Gv).1 a (fun q=>ha (by have:=(uh hcap).1;omega)))
 have hlo:Hid (0≤Sn.fn l 0∧Sn.fn l 0≤15):=by
  refine ⟨?_,by omega⟩
  have hl:=uh hlen
  unfold Sn.fn
  rw [List.getElem?_eq_getElem (by omega)]
  exact ((uh B2).byte _ (List.getElem_mem (by omega))).1
 obtain ⟨v,hv⟩:∃v,Sn.fn l 0=v:=⟨_,rfl⟩
 have HV:=hide hv
 have n3:(1:Int)≤(n:Int):=by omega
 have n4:(n:Int)≤(cb:Int):=by have:=(uh hcap).1;omega
 have n5:(cb:Int)≤9223372036854775807:=by have:=(uh hcap).2;unfold maxLen at this;omega
 have n2:¬(15:Int)<v:=by omega
 rw [hv] at u0 hlo
 clear hn0 h15 hv ha hlen hcap hn
 go_wp2_with fail
 refine (uh cs).mono ?_
 rintro e x3 ⟨hg3,K,rfl,hSh⟩
 obtain ⟨x4,hx4⟩:∃x,x=x3.alloc (.cells (Sv.world K) 30):=⟨_,rfl⟩
 have hg4:x3.grownBy x4 none:=by rw [hx4];exact World.grownBy_alloc _ _ _
 obtain ⟨V,hV⟩:∃B,x3.heap.size=B:=⟨_,rfl⟩
 have BV:Hid (Lie x4 V 30 11 K.box):=by
  show Lie x4 _ _ _ _
  rw [hx4,←hV]
  exact Sv.world_lie x3 K
 have hg34:=gtr hg3 hg4
 have BX4:=hide ((uh BX).on hg34)
 have Gv4:=hide ((uh Gv).on hg34)
 have B4:=hide ((uh B2).on hg34)
 have cq:=hide ((uh Gv4).same (hSh.on hg4))
 clear cs hg3 hg4 hg34 hSh BX Gv B2 hslice u0
 unfold Sv.world at hx4 cq ⊢
 go_upto_region 24 with fail
 rw [←hx4]
 clear hx4 hV x3
 obtain ⟨p0,p1,p2,p3,p4,p5,p6,p7,p8,p9,p10,p11,p12,p13,p14⟩:=Sv.cells15 (uh BX4)
 obtain ⟨q0,q1,q2,q3,q4,q5,q6,q7,q8,q9,q10⟩:=Sv.cells11 (uh BV)
 go_wp2_with fail
 refine (uh cq).mono ?_
 rintro e x5 ⟨rfl,hg5⟩
 have BX5:=hide ((uh BX4).on hg5)
 have B5:=hide ((uh B4).on hg5)
 have hst:Hid (r=0→∀i,F.t i=decide (v / 2 ^ i % 2=1)):=fun h i=>by
  subst h
  have h:=(uh Gv4).seat i
  rw [uh HV] at h
  exact h
 clear cq hg5 BX4 B4 Gv4 BV p0 p1 p2 p3 p4 p5 p6 p7 p8 p9 p10 p11 p12 p13 p14 q0 q1 q2 q3 q4 q5 q6 q7 q8 q9 q10 n3 n4 n5 n2 x4
 go_wp2_with fail
 go_loopw [25] (fun v25 wr=>∃i:Nat,i≤4∧v25=.int .i64 (i:Int)∧Hid (x5.grownBy wr none)) (fun v25 _=>10 - (intOf v25).toNat)
 case atStart=>exact ⟨0,by omega,rfl,World.grownBy.refl _ _⟩
 case round =>
  obtain ⟨i,hi,rfl,hG⟩:=hrel
  by_cases hlt:i<4
  ·have HL:=hide hlt
   have hlt':(i:Int)<4:=by omega
   have hl0:(0:Int)≤(i:Int):=by omega
   have hfin:Hid (∀m,x5.grownBy (wr.drewN m) none):=fun m=>gdw (uh hG) m
   by_cases hr:r=0
   ·subst hr
    have u0:wr.cell? ⟨G,0,none⟩=some (.int .u8 v):=by
     have h:=((uh B5).on (uh hG)).cell (k:=0) (uh HN0)
     rw [uh HV] at h
     exact h
    have u1:wr.cell? ⟨X,11+i,none⟩=some (.bool (v / 2 ^ i % 2 == 1)):=by
     have h:=((uh BX5).on (uh hG)).cell (c:=11+i) (by omega)
     rw [h]
     have e:=uh hst rfl
     rcases (show i=0∨i=1∨i=2∨i=3 by omega) with rfl | rfl | rfl | rfl
     ·exact congrArg (fun b=>some (Value.bool b)) (e 0)
     ·exact congrArg (fun b=>some (Value.bool b)) (e 1)
     ·exact congrArg (fun b=>some (Value.bool b)) (e 2)
     ·exact congrArg (fun b=>some (Value.bool b)) (e 3)
    have hsh:=Sv.run_shift v i (uh hlo).1 (uh hlo).2 hlt
    obtain ⟨bt,hbt⟩:∃b,(v / 2 ^ i % 2 == 1)=b:=⟨_,rfl⟩
    rw [hbt] at u1
    clear hlt hi hG
    go_wp2_with fail
    go_quiet (fail)
    go_wp2
    go_roundw
    case rel=>exact ⟨i+1,by have:=uh HL;omega,by go_num,uh hfin _⟩
    case measure=>simp [intOf];have:=uh HL;omega
   ·have hr1:(r == 0)=false:=by simp [hr]
    clear hlt hi hG hr
    go_wp2_with fail
    go_quiet (fail)
    go_wp2
    go_roundw
    case rel=>exact ⟨i+1,by have:=uh HL;omega,by go_num,uh hfin _⟩
    case measure=>simp [intOf];have:=uh HL;omega
  ·obtain rfl:i=4:=by omega
   have hge:¬((4:Nat):Int)<4:=by omega
   have hfin:=hide (none_below (gtr (uh B5).grown (uh hG)))
   clear hi hlt hG B5 BX5
   go_wp2
   go_ret
   exact ⟨rfl,uh hfin⟩


open Go.RowKit

def Sv.Turns (w x:World) (G cb X:Nat):Prop:=∃l J,Sn.Buf w x G 919 cb l∧Lie x X 33 15 J

theorem Sv.Turns.on {w x y:World} {G cb X:Nat} (h:Sv.Turns w x G cb X) (hg:x.grownBy y none):Sv.Turns w y G cb X:=by
 obtain ⟨l,J,h1,h2⟩:=h
 exact ⟨l,J,h1.on hg,h2.on hg⟩

def Sv.Cuts (w x:World) (G cb X:Nat) (v:Value):Prop:=∃m l J,m≤919∧v=.slice (some ⟨G,0,none⟩) m cb∧Sn.Buf w x G m cb l∧Lie x X 33 15 J

theorem Sv.within_nat {a:Int} {n:Nat} (h:0<n):∃k:Nat,a % (n:Int)=(k:Int)∧k<n :=
 ⟨(a % (n:Int)).toNat,by have:=Int.emod_nonneg a (show (n:Int)≠0 by omega);omega,by have:=Int.emod_nonneg a (show (n:Int)≠0 by omega);have:=Int.emod_lt_of_pos a (show (0:Int)<(n:Int) by omega);omega⟩

set_option maxRecDepth 16000 in
set_option maxHeartbeats 25600000 in
theorem saveBytes_mid {f0 f1 f2 f7 f8 f9 f10 f11 f12 f13 f14 f15 f17 f18 f19 f21 f22 f23 f24 f25 f26 f27 f28 f29 f30 f31 f32 f33 f34 f35 f36 f37 f38 f39 f40 f41 f42 f43 f44 f45 f46 f47 f48 f49 f50 f51 f52 f53 f54 f55 f56 f57 f58 f59 f60 f61 f62 f63 f64 f65 f66 f67 f68 f69 f70 f71 f72 f73 f74 f75 f76 f77 f78 f79 f80 f81 f82 f83 f84 f85 f86 f87 f88 f89 f90 f91 f92 f93 f94 f95 f96 f97 f98 f99 f100 f101 f102 f103 f104 f105 f106 f107 f108 f109 f110 f111 f112 f113 f114 f115 f116 f117 f118 f119 f120 f121 f122 f123 f124 f125 f126 f127 f128 f129 f130 f131 f132 f133 f134 f135 f136 f137 f138 f139 f140 f141 f142 f143 f144 f145 f146 f147 f148 f149 f150 f151 f152 f153 f154 f155 f156 f157 f158 f159 f160 f161 f162 f163 f164 f165 f166 f167 f168 f169 f170 f171 f172 f173 f174 f175 f176 f177 f178 f179 f180 f181 f182 f183 f184 f185:Value} (w x:World) (G cb X len3 cap3 len4 cap4 len6 cap6:Nat) (a3 a4 a6:Option Addr) (a5:Int) (z3 z4:Nat→Int) (lm:List Int) (H3:Hid (Vec w.heap.size w a3 len3 (fun i=>.int .i64 (z3 i)))) (H4:Hid (Vec w.heap.size w a4 len4 (fun i=>.int .u8 (z4 i)))) (HB4:Hid (∀i,0≤z4 i∧z4 i≤255)) (HSR:Hid (Ck.Src w (.slice a6 lm.length cap6) lm)) (HLM:Hid (lm.length=len6)) (HBM:Hid (∀b∈lm,0≤b∧b≤255)) (H100:Hid (¬100<len6)) (HT:Hid (Sv.Turns w x G cb X)) (HXw:Hid (w.heap.size≤X)) :
  Code.wp Tryz.prog Sv.bytes11 (bodyPost Tryz.prog Tryz.f3 fun e w'=>e=.returned (.bool true)∧Below w.heap.size w w') ⟨#[f0,f1,f2,(.slice a3 len3 cap3),(.slice a4 len4 cap4),(.int .i64 a5),(.slice a6 len6 cap6),f7,f8,f9,f10,f11,f12,f13,f14,f15,(.slice (some ⟨G,0,none⟩) 919 cb),f17,f18,f19,(.pointer (some ⟨X,0,none⟩)),f21,f22,f23,f24,f25,f26,f27,f28,f29,f30,f31,f32,f33,f34,f35,f36,f37,f38,f39,f40,f41,f42,f43,f44,f45,f46,f47,f48,f49,f50,f51,f52,f53,f54,f55,f56,f57,f58,f59,f60,f61,f62,f63,f64,f65,f66,f67,f68,f69,f70,f71,f72,f73,f74,f75,f76,f77,f78,f79,f80,f81,f82,f83,f84,f85,f86,f87,f88,f89,f90,f91,f92,f93,f94,f95,f96,f97,f98,f99,f100,f101,f102,f103,f104,f105,f106,f107,f108,f109,f110,f111,f112,f113,f114,f115,f116,f117,f118,f119,f120,f121,f122,f123,f124,f125,f126,f127,f128,f129,f130,f131,f132,f133,f134,f135,f136,f137,f138,f139,f140,f141,f142,f143,f144,f145,f146,f147,f148,f149,f150,f151,f152,f153,f154,f155,f156,f157,f158,f159,f160,f161,f162,f163,f164,f165,f166,f167,f168,f169,f170,f171,f172,f173,f174,f175,f176,f177,f178,f179,f180,f181,f182,f183,f184,f185],[]⟩ x:=by
 conv=>arg 2;whnf
 go_upto_block 0 with fail
 go_cut [22] from 87 to 118 (fun _ wx=>Hid (Sv.Turns w wx G cb X))
 case first =>
  go_wp2_with fail
  go_loopw [22] (fun v22 wr=>∃i:Nat,i≤3∧v22=.int .i64 (i:Int)∧Hid (Sv.Turns w wr G cb X)) (fun v22 _=>10 - (intOf v22).toNat)
  case atStart=>exact ⟨0,by omega,rfl,HT⟩
  case round =>
   clear HT
   obtain ⟨i,hi3,rfl,hX0⟩:=hrel
   by_cases hlt:i<len3∧i<len4∧i<3
   ·obtain ⟨l,J,hX,hJ⟩:=uh hX0
    have hlt1:(i:Int)<(len3:Int):=by omega
    have hlt2:(i:Int)<(len4:Int):=by omega
    have hlt3:(i:Int)<3:=by omega
    have HL:=hide hlt
    obtain ⟨b3,o3,rfl,hb3,hc3⟩:∃b off,a3=some ⟨b,off,none⟩∧b<w.heap.size∧∀i,i<len3→w.cell? ⟨b,off+i,none⟩=some (.int .i64 (z3 i)):=by
     obtain ⟨_,h0 | h⟩:=uh H3
     ·omega
     ·exact h
    obtain ⟨b4,o4,rfl,hb4,hc4⟩:∃b off,a4=some ⟨b,off,none⟩∧b<w.heap.size∧∀i,i<len4→w.cell? ⟨b,off+i,none⟩=some (.int .u8 (z4 i)):=by
     obtain ⟨_,h0 | h⟩:=uh H4
     ·omega
     ·exact h
    have d3:wr.cell? ⟨b3,o3+i,none⟩=some (.int .i64 (z3 i)):=(gce hX.grown b3 (o3+i) hb3 (by simp)).trans (hc3 i hlt.1)
    have d4:wr.cell? ⟨b4,o4+i,none⟩=some (.int .u8 (z4 i)):=(gce hX.grown b4 (o4+i) hb4 (by simp)).trans (hc4 i hlt.2.1)
    have yb:=uh HB4 i
    obtain ⟨y2,hy2⟩:∃y,z3 i=y:=⟨_,rfl⟩
    obtain ⟨yy,hyy⟩:∃y,z4 i=y:=⟨_,rfl⟩
    rw [hy2] at d3
    rw [hyy] at d4 yb
    obtain ⟨k,hk,hk9⟩:=Sv.within_nat (a:=y2) (n:=919) (by omega)
    have cw:Hid (∀x,Calls Tryz.prog 13 #[.int .i64 y2,.int .i64 919] x fun e w'=>e=.returned (.int .i64 (k:Int))∧w'=x):=fun x=>by
     have h:=within14_any y2 919 x (by omega) (by omega)
     rw [show y2 % 919=(k:Int) from hk] at h
     exact h
    have d1:=hX.cell hk9
    have fB:=hX.free
    have hbt:0≤Sn.fn l k∧Sn.fn l k≤255:=by
     have hl:=hX.len
     unfold Sn.fn
     rw [List.getElem?_eq_getElem (by omega)]
     exact hX.byte _ (List.getElem_mem (by omega))
    obtain ⟨x0,hx0⟩:∃x,Sn.fn l k=x:=⟨_,rfl⟩
    rw [hx0] at d1 hbt
    have hw8:IntKind.u8.wrap (x0+yy)=(x0+yy) % 256:=Sn.wrap8 _
    have hne:=hX.ne_camp hJ
    have hT2:Hid (Sv.Turns w (wr.setCell ⟨G,k,none⟩ (.int .u8 ((x0+yy) % 256))) G cb X):=⟨_,J,hX.turn k ((x0+yy) % 256) (by omega) (by omega),hJ.other hne _ _⟩
    have hk1:(k:Int)<919:=by omega
    have hk2:(0:Int)≤(k:Int):=by omega
    have hS0:Hid (wr.cell? ⟨G,k,none⟩=some (.int .u8 x0)∧wr.cell? ⟨b3,o3+i,none⟩=some (.int .i64 y2)∧wr.cell? ⟨b4,o4+i,none⟩=some (.int .u8 yy)):=⟨d1,d3,d4⟩
    clear hlt hi3 hb3 hc3 hb4 hc4 hy2 hyy hk hk9 hx0 hX hJ hX0 hne yb hbt
    go_upto_region 14 with fail
    refine wp_region_till (h:=16) (S:=fun x=>Hid (x.cell? ⟨G,k,none⟩=some (.int .u8 x0)∧x.cell? ⟨b3,o3+i,none⟩=some (.int .i64 y2)∧x.cell? ⟨b4,o4+i,none⟩=some (.int .u8 yy))) (by kernel_rfl) ?_
    have hS0:Hid (wr.drew.cell? ⟨G,k,none⟩=some (.int .u8 x0)∧wr.drew.cell? ⟨b3,o3+i,none⟩=some (.int .i64 y2)∧wr.drew.cell? ⟨b4,o4+i,none⟩=some (.int .u8 yy)):=uh hS0
    refine wtk (i:=0) (v:=?_) [16] rfl (by kernel_rfl) (by kernel_rfl) (by kernel_rfl) (by kernel_rfl) (fun _ _ _ h=>h) hS0 (Or.inl ⟨by rfl,?_⟩) ?_
    rotate_left
    ·intro x hSx
     clear hSx
     go_simp
     try with_reducible rfl
    simp only [Act.put,List.getElem_toArray,List.getElem_cons_zero,List.setIfInBounds_toArray,List.set_cons_succ,List.set_cons_zero]
    refine wtk (i:=1) (v:=?_) [16] rfl (by kernel_rfl) (by kernel_rfl) (by kernel_rfl) (by kernel_rfl) (fun _ _ _ h=>h) hS0 (Or.inl ⟨by rfl,?_⟩) ?_
    rotate_left
    ·intro x hSx
     clear hSx
     go_simp
     try with_reducible rfl
    simp only [Act.put,List.getElem_toArray,List.getElem_cons_zero,List.getElem_cons_succ,List.setIfInBounds_toArray,List.set_cons_succ,List.set_cons_zero]
    refine wtk (i:=2) (v:=?_) [16] rfl (by kernel_rfl) (by kernel_rfl) (by kernel_rfl) (by kernel_rfl) (fun _ _ _ h=>h) hS0 (Or.inl ⟨by rfl,?_⟩) ?_
    rotate_left
    ·intro x hSx
     clear hSx
     go_simp
     try with_reducible rfl
    simp only [Act.put,List.getElem_toArray,List.getElem_cons_zero,List.getElem_cons_succ,List.setIfInBounds_toArray,List.set_cons_succ,List.set_cons_zero]
    refine wtk (i:=3) (v:=?_) [16] rfl (by kernel_rfl) (by kernel_rfl) (by kernel_rfl) (by kernel_rfl) (fun _ _ _ h=>h) hS0 (Or.inl ⟨by rfl,?_⟩) ?_
    rotate_left
    ·intro x hSx
     clear hSx
     go_simp
     try with_reducible rfl
    simp only [Act.put,List.getElem_toArray,List.getElem_cons_zero,List.getElem_cons_succ,List.setIfInBounds_toArray,List.set_cons_succ,List.set_cons_zero]
    refine wtk (i:=4) (v:=?_) [16] rfl (by kernel_rfl) (by kernel_rfl) (by kernel_rfl) (by kernel_rfl) (fun _ _ _ h=>h) hS0 (Or.inl ⟨by rfl,?_⟩) ?_
    rotate_left
    ·intro x hSx
     have u0:=(uh hSx).2.1
     clear hSx
     go_simp
     try with_reducible rfl
    simp only [Act.put,List.getElem_toArray,List.getElem_cons_zero,List.getElem_cons_succ,List.setIfInBounds_toArray,List.set_cons_succ,List.set_cons_zero]
    refine wtk (i:=5) (v:=?_) [16] rfl (by kernel_rfl) (by kernel_rfl) (by kernel_rfl) (by kernel_rfl) (fun _ _ _ h=>h) hS0 (Or.inl ⟨by rfl,?_⟩) ?_
    rotate_left
    ·intro x hSx
     clear hSx
     go_simp
     try with_reducible rfl
    simp only [Act.put,List.getElem_toArray,List.getElem_cons_zero,List.getElem_cons_succ,List.setIfInBounds_toArray,List.set_cons_succ,List.set_cons_zero]
    refine wtk (i:=6) (v:=?_) [16] rfl (by kernel_rfl) (by kernel_rfl) (by kernel_rfl) (by kernel_rfl) (fun _ _ _ h=>h) hS0 (Or.inl ⟨by rfl,?_⟩) ?_
    rotate_left
    ·intro x hSx
     clear hSx
     go_simp
     try with_reducible rfl
    simp only [Act.put,List.getElem_toArray,List.getElem_cons_zero,List.getElem_cons_succ,List.setIfInBounds_toArray,List.set_cons_succ,List.set_cons_zero]
    refine wtk (i:=10) (v:=?_) [16] rfl (by kernel_rfl) (by kernel_rfl) (by kernel_rfl) (by kernel_rfl) (fun _ _ _ h=>h) hS0 (Or.inl ⟨by rfl,?_⟩) ?_
    rotate_left
    ·intro x hSx
     clear hSx
     go_simp
     try with_reducible rfl
    simp only [Act.put,List.getElem_toArray,List.getElem_cons_zero,List.getElem_cons_succ,List.setIfInBounds_toArray,List.set_cons_succ,List.set_cons_zero]
    refine wtk (i:=11) (v:=?_) [16] rfl (by kernel_rfl) (by kernel_rfl) (by kernel_rfl) (by kernel_rfl) (fun _ _ _ h=>h) hS0 (Or.inl ⟨by rfl,?_⟩) ?_
    rotate_left
    ·intro x hSx
     clear hSx
     go_simp
     try with_reducible rfl
    simp only [Act.put,List.getElem_toArray,List.getElem_cons_zero,List.getElem_cons_succ,List.setIfInBounds_toArray,List.set_cons_succ,List.set_cons_zero]
    refine wtk (i:=12) (v:=?_) [16] rfl (by kernel_rfl) (by kernel_rfl) (by kernel_rfl) (by kernel_rfl) (fun _ _ _ h=>h) hS0 (Or.inl ⟨by rfl,?_⟩) ?_
    rotate_left
    ·intro x hSx
     clear hSx
     go_simp
     try with_reducible rfl
    simp only [Act.put,List.getElem_toArray,List.getElem_cons_zero,List.getElem_cons_succ,List.setIfInBounds_toArray,List.set_cons_succ,List.set_cons_zero]
    refine wtk (i:=13) (v:=?_) [16] rfl (by kernel_rfl) (by kernel_rfl) (by kernel_rfl) (by kernel_rfl) (fun _ _ _ h=>h) hS0 (Or.inl ⟨by rfl,?_⟩) ?_
    rotate_left
    ·intro x hSx
     have u0:=(uh hSx).2.2
     clear hSx
     go_simp
     try with_reducible rfl
    simp only [Act.put,List.getElem_toArray,List.getElem_cons_zero,List.getElem_cons_succ,List.setIfInBounds_toArray,List.set_cons_succ,List.set_cons_zero]
    refine wto (j:=7) (by kernel_rfl) rfl (fun K hK=>?_)
    go_simp
    refine (uh cw _).mono ?_
    rintro e wq ⟨rfl,hq'⟩
    obtain rfl:wr.drew=wq:=hq'.symm
    clear hq'
    try go_simp
    refine hK.out _ _ (fun _=>hS0) ?_
    clear hK K
    refine wtk (i:=8) (v:=?_) [16] rfl (by kernel_rfl) (by kernel_rfl) (by kernel_rfl) (by kernel_rfl) (fun _ _ _ h=>h) hS0 (Or.inl ⟨by rfl,?_⟩) ?_
    rotate_left
    ·intro x hSx
     clear hSx
     go_simp
     try with_reducible rfl
    simp only [Act.put,List.getElem_toArray,List.getElem_cons_zero,List.getElem_cons_succ,List.setIfInBounds_toArray,List.set_cons_succ,List.set_cons_zero]
    refine wtk (i:=9) (v:=?_) [16] rfl (by kernel_rfl) (by kernel_rfl) (by kernel_rfl) (by kernel_rfl) (fun _ _ _ h=>h) hS0 (Or.inl ⟨by rfl,?_⟩) ?_
    rotate_left
    ·intro x hSx
     have u0:=(uh hSx).1
     clear hSx
     go_simp
     try with_reducible rfl
    simp only [Act.put,List.getElem_toArray,List.getElem_cons_zero,List.getElem_cons_succ,List.setIfInBounds_toArray,List.set_cons_succ,List.set_cons_zero]
    refine wtk (i:=14) (v:=?_) [16] rfl (by kernel_rfl) (by kernel_rfl) (by kernel_rfl) (by kernel_rfl) (fun _ _ _ h=>h) hS0 (Or.inl ⟨by rfl,?_⟩) ?_
    rotate_left
    ·intro x hSx
     clear hSx
     go_simp
     try with_reducible rfl
    simp only [Act.put,List.getElem_toArray,List.getElem_cons_zero,List.getElem_cons_succ,List.setIfInBounds_toArray,List.set_cons_succ,List.set_cons_zero]
    refine wtk (i:=15) (v:=?_) [16] rfl (by kernel_rfl) (by kernel_rfl) (by kernel_rfl) (by kernel_rfl) (fun _ _ _ h=>h) hS0 (Or.inl ⟨by rfl,?_⟩) ?_
    rotate_left
    ·intro x hSx
     clear hSx
     go_simp
     try with_reducible rfl
    simp only [Act.put,List.getElem_toArray,List.getElem_cons_zero,List.getElem_cons_succ,List.setIfInBounds_toArray,List.set_cons_succ,List.set_cons_zero]
    refine wto (j:=16) (by kernel_rfl) rfl (fun K hK=>?_)
    go_simp
    refine hK.out _ _ (fun hx=>absurd (hx.symm.trans (by kernel_rfl)) Bool.false_ne_true) ?_
    clear hK K
    refine wpTill_done (by kernel_rfl) ?_ _
    clear hS0 cw d1 d3 d4 fB hw8 hk1 hk2
    go_wp2_with fail
    go_roundw
    case rel=>exact ⟨i+1,by have:=uh HL;omega,by go_num,(uh hT2).on (gdw (World.grownBy.refl _ none) 1)⟩
    case measure=>simp [intOf];have:=uh HL;omega
   ·by_cases h1:i<len3
    ·have h1':(i:Int)<(len3:Int):=by omega
     by_cases h2:i<len4
     ·have h2':(i:Int)<(len4:Int):=by omega
      have h3':¬(i:Int)<3:=by omega
      clear hlt h1 h2 hi3
      go_wp2_with fail
      go_meet
      exact hX0
     ·have h2':¬(i:Int)<(len4:Int):=by omega
      clear hlt h1 h2 hi3
      go_wp2_with fail
      go_meet
      exact hX0
    ·have h1':¬(i:Int)<(len3:Int):=by omega
     clear hlt h1 hi3
     go_wp2_with fail
     go_meet
     exact hX0
 case rest =>
  clear HT
  have HT:=hide (uh hcut)
  clear hcut
  rename_i Kx Ax
  refine Ax _ _ ?_
  go_upto_if 120 with fail
  go_cut [16] from 120 to 130 (fun v16 wx=>Hid (Sv.Cuts w wx G cb X v16))
  case first =>
   obtain ⟨l,J,hX,hJ⟩:=uh HT
   by_cases hc0:0<a5
   ·obtain ⟨k,hk,hk9⟩:=Sv.within_nat (a:=a5) (n:=920) (by omega)
    have cw:Hid (Calls Tryz.prog 13 #[.int .i64 a5,.int .i64 920] wc fun e w'=>e=.returned (.int .i64 (k:Int))∧w'=wc):=by
     have h:=within14_any a5 920 wc (by omega) (by omega)
     rw [show a5 % 920=(k:Int) from hk] at h
     exact h
    have hk1:(919:Int) - (k:Int)=((919 - k:Nat):Int):=by omega
    obtain ⟨m,hm⟩:∃m,919 - k=m:=⟨_,rfl⟩
    rw [hm] at hk1
    have hm1:(m:Int)≤(cb:Int):=by have:=hX.caps;omega
    have hm0:(0:Int)≤(m:Int):=by omega
    have hfin:Hid (Sv.Cuts w wc G cb X (.slice (some ⟨G,0,none⟩) m cb)):=⟨m,_,J,by omega,rfl,hX.cut (m:=m) (by omega),hJ⟩
    clear hk hk9 hm hX hJ HT
    go_wp2_with fail
    refine (uh cw).mono ?_
    rintro e wq ⟨rfl,hq'⟩
    obtain rfl:wc=wq:=hq'.symm
    clear cw hq'
    go_wp2_with fail
    go_meet
    exact hfin
   ·have hfin:Hid (Sv.Cuts w wc G cb X (.slice (some ⟨G,0,none⟩) 919 cb)):=⟨919,_,J,by omega,rfl,hX,hJ⟩
    clear hX hJ HT
    go_wp2_with fail
    go_meet
    exact hfin
  case rest =>
   obtain ⟨m,l,J,hm1,rfl,hB,hJ⟩:=uh hcut
   clear hcut HT
   have hSm:=hide ((uh HSR).grown hB.grown)
   rw [uh HLM] at hSm
   have hlm:lm.length≤100:=by have:=uh H100;have:=uh HLM;omega
   have Hm:=hide (And.intro hm1 hlm)
   have hne:=hide (hB.ne_camp hJ)
   have hBo:=hide hB.own
   have hBz:=hide hB.grown.size
   have HB:=hide hB
   have HJ:=hide hJ
   clear hB hJ hm1 hlm
   go_upto_region 17 with fail
   go_cut [16] from 131 to 133 (fun v16 wx=>∃G1 c1 n l1,v16=.slice (some ⟨G1,0,none⟩) n c1∧Hid (n≤1019∧Sn.Buf w wx G1 n c1 l1∧∃J,Lie wx X 33 15 J))
   case first =>
    go_wp2_with (at_builtin;refine wpList_append_wide rfl _ _ rfl w.heap.size _ m _ rfl (uh hBo) _ lm rfl (uh hSm) ?_ (uh hBz) ?_)
    ·have:=uh Hm;omega
    intro v1 wm hown hgrow hnz
    obtain ⟨G1,c1,rfl,hB1⟩:=(uh HB).more0 hown hgrow (uh HBM) hnz
    have hfin:Hid (m+lm.length≤1019∧Sn.Buf w wm G1 (m+lm.length) c1 (l ++ lm)∧∃J,Lie wm X 33 15 J):=⟨by have:=uh Hm;omega,hB1,J,(uh HJ).grown hgrow (by simp [Value.ownBlock];exact fun e=>uh hne e)⟩
    clear hown hgrow hnz hB1 hBo hSm hBz HB HJ
    go_wp2_with fail
    go_meet
    exact ⟨G1,c1,_,_,rfl,hfin⟩
   case rest =>
    obtain ⟨G1,c1,n1,l1,rfl,hX⟩:=hcut
    obtain ⟨J1,hJ1⟩:=(uh hX).2.2
    rename_i Ky Ay
    refine Ay _ _ ?_
    exact saveBytes_tail w _ G1 n1 c1 X l1 J1 (uh hX).2.1 hJ1 HXw (uh hX).1


open Go.RowKit

set_option maxRecDepth 16000 in
set_option maxHeartbeats 25600000 in
theorem saveBytes_any (a0 a2 a5:Int) (a1 a3 a4 a6:Option Addr) (len1 cap1 len3 cap3 len4 cap4 len6 cap6:Nat) (V:Nat→Option Addr × Nat × Nat) (z:Nat→Nat→Int) (z3 z4:Nat→Int) (lm:List Int) (w:World) (w0:(Lit.int .i64 a0).wf=true) (w2:(Lit.int .i64 a2).wf=true) (hC:Cr.Came w a1 len1 V z) (hv3:Vec w.heap.size w a3 len3 (fun i=>.int .i64 (z3 i))) (hv4:Vec w.heap.size w a4 len4 (fun i=>.int .u8 (z4 i))) (hb4:∀i,0≤z4 i∧z4 i≤255) (hlm:lm.length=len6) (hm6:len6≤cap6∧cap6≤maxLen) (hsrc:Ck.Src w (.slice a6 lm.length cap6) lm) (hbm:∀b∈lm,0≤b∧b≤255) :
  Calls Tryz.prog 3 #[.int .i64 a0,.slice a1 len1 cap1,.int .i64 a2,.slice a3 len3 cap3,.slice a4 len4 cap4,.int .i64 a5,.slice a6 len6 cap6] w fun e w'=>e=.returned (.bool true)∧Below w.heap.size w w':=by
 have hz:=hide (Sv.wfs w0)
 have hz2:=hide (Sv.wfs w2)
 have hC':=hide hC
 have H3:=hide hv3
 have H4:=hide hv4
 have HB4:=hide hb4
 have HSR:=hide hsrc
 have HLM:=hide hlm
 have HBM:=hide hbm
 have e3:(len3:Int)≤9223372036854775807:=by have:=hv3.1;unfold maxLen at this;omega
 have e4:(len4:Int)≤9223372036854775807:=by have:=hv4.1;unfold maxLen at this;omega
 have e6:(len6:Int)≤9223372036854775807:=by have:=hm6;unfold maxLen at this;omega
 clear w0 w2 hC hv3 hv4 hb4 hsrc hlm hbm hm6
 go_enter Tryz.func3,Tryz.ntmps3
 go_wp2_with fail
 refine (known14_any _).mono ?_
 rintro e x1 ⟨rfl,hg1⟩
 have cs:=hide (story_any a0 a1 len1 cap1 V z x1 ((uh hC').on hg1))
 have G1:=hide hg1
 clear hg1 hC'
 go_wp2_with fail
 refine (uh cs).mono ?_
 rintro e x2 ⟨v,base0,L,rfl,hbase,hL0,hL31,hBk,hg2⟩
 have cc:=hide (svCampaign_any hBk hL0 hL31 (uh hz) a2 (uh hz2))
 have G2:=hide (gtr (uh G1) hg2)
 clear cs hbase hL0 hL31 hBk hg2 G1 hz hz2
 go_wp2_with fail
 refine (uh cc).mono ?_
 rintro e x3 ⟨C,gC,gE,gI,cC,cE,cI,rfl,hcE,hL,hok,hg3⟩
 have hK:Sv.Camp x3 C (Sv.Q.of C.s gC gE gI cC cE cI C.g C.t):=⟨hok,gC,gE,gI,cC,cE,cI,rfl,hcE,hL⟩
 rw [Sv.cells_camp]
 obtain ⟨F,hF⟩:∃F,Sv.Q.of C.s gC gE gI cC cE cI C.g C.t=F:=⟨_,rfl⟩
 rw [hF] at hK ⊢
 obtain ⟨x4,hx4⟩:∃x,x=x3.alloc (.cells (Sv.cells F) 33):=⟨_,rfl⟩
 have hg4:x3.grownBy x4 none:=by rw [hx4];exact World.grownBy_alloc _ _ _
 obtain ⟨B,hB⟩:∃B,x3.heap.size=B:=⟨_,rfl⟩
 have BC:Hid (Lie x4 B 33 15 F.box):=by
  show Lie x4 _ _ _ _
  rw [hx4,←hB]
  exact Sv.cells_lie x3 F
 have K4:=hide (hK.on hg4)
 have G4:=hide (gtr (uh G2) (gtr hg3 hg4))
 clear cc hcE hL hok hg3 hg4 hK hF G2
 unfold Sv.cells at hx4 ⊢
 go_upto_region 4 with fail
 rw [←hx4]
 clear hx4 hB x3
 have ce:=hide (uh K4).encode
 obtain ⟨b0,b1,b2,b3,b4,b5,b6,b7,b8,b9,b10,b11,b12,b13,b14⟩:=Sv.cells15 (uh BC)
 unfold Sv.cells at ce
 go_wp2_with fail
 refine (uh ce).mono ?_
 rintro e x5 ⟨G,cb,rfl,hBuf⟩
 have HB5:=hide (hBuf.down (uh G4))
 have K5:=hide ((uh K4).on hBuf.grown)
 have BC5:=hide ((uh BC).on hBuf.grown)
 have cr:=hide (uh K5).refEncode
 clear ce hBuf K4 BC G4 b0 b1 b2 b3 b4 b5 b6 b7 b8 b9 b10 b11 b12 b13 b14
 obtain ⟨b0,b1,b2,b3,b4,b5,b6,b7,b8,b9,b10,b11,b12,b13,b14⟩:=Sv.cells15 (uh BC5)
 unfold Sv.world at cr
 go_wp2_with fail
 refine (uh cr).mono ?_
 rintro e x6 ⟨G2,c2,rfl,hBuf2⟩
 have HB6:=hide ((uh HB5).on hBuf2.grown)
 have K6:=hide ((uh K5).on hBuf2.grown)
 have BC6:=hide ((uh BC5).on hBuf2.grown)
 have t2:Hid (∀y,x6.grownBy y none→(convert 24 9 (.slice (some ⟨G2,0,none⟩) 918 c2)).run Tryz.prog y=.ok (.string (strOfNums (C.bytes.drop 1))) y):=fun y hy=>(hBuf2.on hy).src.text
 have t1:Hid (∀y,x6.grownBy y none→(convert 24 9 (.slice (some ⟨G,1,none⟩) 918 (cb - 1))).run Tryz.prog y=.ok (.string (strOfNums (C.bytes.drop 1))) y):=fun y hy=>((uh HB6).on hy).src1.text
 have hcp:=(uh HB6).caps
 have hcp2:cb≤9223372036854775807:=hcp.2
 obtain ⟨a,hslice,ha⟩:=Sv.run_tail G 919 cb (by omega)
 obtain rfl:=ha (by omega)
 obtain ⟨S,hS⟩:∃S,strOfNums (C.bytes.drop 1)=S:=⟨_,rfl⟩
 rw [hS] at t1 t2
 clear cr hBuf2 HB5 K5 BC5 b0 b1 b2 b3 b4 b5 b6 b7 b8 b9 b10 b11 b12 b13 b14 hS hcp hcp2
 go_upto_region 6 with fail
 go_cut [70] from 44 to 70 (fun v70 wx=>v70=.bool (decide (100<len6))∧Hid (x6.grownBy wx none))
 case first =>
  by_cases h100:100<len6
  ·have h5:(100:Int)<(len6:Int):=by omega
   have HD:Hid (Value.bool true=.bool (decide (100<len6))):=(show _=_ by rw [decide_eq_true h100])
   clear h100
   refine wp_region_held_drew (S:=fun x=>Hid (x6.grownBy x none)) (by kernel_rfl) (gd1 (World.grownBy.refl _ none)) (fun HS0=>?_)
   refine wpAnyH_take (i:=0) (v:=?_) rfl (by kernel_rfl) (by kernel_rfl) (by kernel_rfl) (fun _ _ _ h=>h) (Or.inl ⟨by rfl,?_⟩) HS0 ?_
   rotate_left
   ·intro x hSx
    clear hSx
    go_simp
    try with_reducible rfl
   simp only [Act.put,List.getElem_toArray,List.getElem_cons_zero,List.setIfInBounds_toArray,List.set_cons_succ,List.set_cons_zero]
   refine wpAnyH_take (i:=1) (v:=?_) rfl (by kernel_rfl) (by kernel_rfl) (by kernel_rfl) (fun _ _ _ h=>h) (Or.inl ⟨by rfl,?_⟩) HS0 ?_
   rotate_left
   ·intro x hSx
    clear hSx
    go_simp
    try with_reducible rfl
   simp only [Act.put,List.getElem_toArray,List.getElem_cons_zero,List.getElem_cons_succ,List.setIfInBounds_toArray,List.set_cons_succ,List.set_cons_zero]
   refine wpAnyH_take (i:=2) (v:=?_) rfl (by kernel_rfl) (by kernel_rfl) (by kernel_rfl) (fun _ _ _ h=>h) (Or.inl ⟨by rfl,?_⟩) HS0 ?_
   rotate_left
   ·intro x hSx
    clear hSx
    go_simp
    try with_reducible rfl
   simp only [Act.put,List.getElem_toArray,List.getElem_cons_zero,List.getElem_cons_succ,List.setIfInBounds_toArray,List.set_cons_succ,List.set_cons_zero]
   refine wpAnyH_take (i:=3) (v:=?_) rfl (by kernel_rfl) (by kernel_rfl) (by kernel_rfl) (fun _ _ _ h=>h) (Or.inl ⟨by rfl,?_⟩) HS0 ?_
   rotate_left
   ·intro x hSx
    clear hSx
    go_simp
    try with_reducible rfl
   simp only [Act.put,List.getElem_toArray,List.getElem_cons_zero,List.getElem_cons_succ,List.setIfInBounds_toArray,List.set_cons_succ,List.set_cons_zero]
   refine wpAnyH_take (i:=4) (v:=?_) rfl (by kernel_rfl) (by kernel_rfl) (by kernel_rfl) (fun _ _ _ h=>h) (Or.inl ⟨by rfl,?_⟩) HS0 ?_
   rotate_left
   ·intro x hSx
    clear hSx
    go_simp
    try with_reducible rfl
   simp only [Act.put,List.getElem_toArray,List.getElem_cons_zero,List.getElem_cons_succ,List.setIfInBounds_toArray,List.set_cons_succ,List.set_cons_zero]
   refine wpAnyH_take (i:=5) (v:=?_) rfl (by kernel_rfl) (by kernel_rfl) (by kernel_rfl) (fun _ _ _ h=>h) (Or.inl ⟨by rfl,?_⟩) HS0 ?_
   rotate_left
   ·intro x hSx
    clear hSx
    go_simp
    try with_reducible rfl
   simp only [Act.put,List.getElem_toArray,List.getElem_cons_zero,List.getElem_cons_succ,List.setIfInBounds_toArray,List.set_cons_succ,List.set_cons_zero]
   refine wpAnyH_take (i:=6) (v:=?_) rfl (by kernel_rfl) (by kernel_rfl) (by kernel_rfl) (fun _ _ _ h=>h) (Or.inl ⟨by rfl,?_⟩) HS0 ?_
   rotate_left
   ·intro x hSx
    clear hSx
    go_simp
    try with_reducible rfl
   simp only [Act.put,List.getElem_toArray,List.getElem_cons_zero,List.getElem_cons_succ,List.setIfInBounds_toArray,List.set_cons_succ,List.set_cons_zero]
   refine wpAnyH_take (i:=7) (v:=?_) rfl (by kernel_rfl) (by kernel_rfl) (by kernel_rfl) (fun _ _ _ h=>h) (Or.inl ⟨by rfl,?_⟩) HS0 ?_
   rotate_left
   ·intro x hSx
    clear hSx
    go_simp
    try with_reducible rfl
   simp only [Act.put,List.getElem_toArray,List.getElem_cons_zero,List.getElem_cons_succ,List.setIfInBounds_toArray,List.set_cons_succ,List.set_cons_zero]
   refine wpAnyH_take (i:=8) (v:=?_) rfl (by kernel_rfl) (by kernel_rfl) (by kernel_rfl) (fun _ _ _ h=>h) (Or.inl ⟨by rfl,?_⟩) HS0 ?_
   rotate_left
   ·intro x hSx
    clear hSx
    go_simp
    try with_reducible rfl
   simp only [Act.put,List.getElem_toArray,List.getElem_cons_zero,List.getElem_cons_succ,List.setIfInBounds_toArray,List.set_cons_succ,List.set_cons_zero]
   refine wpAnyH_take (i:=9) (v:=?_) rfl (by kernel_rfl) (by kernel_rfl) (by kernel_rfl) (fun _ _ _ h=>h) (Or.inl ⟨by rfl,?_⟩) HS0 ?_
   rotate_left
   ·intro x hSx
    clear hSx
    go_simp
    try with_reducible rfl
   simp only [Act.put,List.getElem_toArray,List.getElem_cons_zero,List.getElem_cons_succ,List.setIfInBounds_toArray,List.set_cons_succ,List.set_cons_zero]
   refine wpAnyH_take (i:=10) (v:=?_) rfl (by kernel_rfl) (by kernel_rfl) (by kernel_rfl) (fun _ _ _ h=>h) (Or.inl ⟨by rfl,?_⟩) HS0 ?_
   rotate_left
   ·intro x hSx
    clear hSx
    go_simp
    try with_reducible rfl
   simp only [Act.put,List.getElem_toArray,List.getElem_cons_zero,List.getElem_cons_succ,List.setIfInBounds_toArray,List.set_cons_succ,List.set_cons_zero]
   refine wpAnyH_take (i:=11) (v:=?_) rfl (by kernel_rfl) (by kernel_rfl) (by kernel_rfl) (fun _ _ _ h=>h) (Or.inl ⟨by rfl,?_⟩) HS0 ?_
   rotate_left
   ·intro x hSx
    clear hSx
    go_simp
    try with_reducible rfl
   simp only [Act.put,List.getElem_toArray,List.getElem_cons_zero,List.getElem_cons_succ,List.setIfInBounds_toArray,List.set_cons_succ,List.set_cons_zero]
   refine wpAnyH_take (i:=12) (v:=?_) rfl (by kernel_rfl) (by kernel_rfl) (by kernel_rfl) (fun _ _ _ h=>h) (Or.inl ⟨by rfl,?_⟩) HS0 ?_
   rotate_left
   ·intro x hSx
    clear hSx
    go_simp
    try with_reducible rfl
   simp only [Act.put,List.getElem_toArray,List.getElem_cons_zero,List.getElem_cons_succ,List.setIfInBounds_toArray,List.set_cons_succ,List.set_cons_zero]
   refine wpAnyH_take (i:=13) (v:=?_) rfl (by kernel_rfl) (by kernel_rfl) (by kernel_rfl) (fun _ _ _ h=>h) (Or.inl ⟨by rfl,?_⟩) HS0 ?_
   rotate_left
   ·intro x hSx
    clear hSx
    go_simp
    try with_reducible rfl
   simp only [Act.put,List.getElem_toArray,List.getElem_cons_zero,List.getElem_cons_succ,List.setIfInBounds_toArray,List.set_cons_succ,List.set_cons_zero]
   refine wpAnyH_take (i:=14) (v:=?_) rfl (by kernel_rfl) (by kernel_rfl) (by kernel_rfl) (fun _ _ _ h=>h) (Or.inl ⟨by rfl,?_⟩) HS0 ?_
   rotate_left
   ·intro x hSx
    clear hSx
    go_simp
    try with_reducible rfl
   simp only [Act.put,List.getElem_toArray,List.getElem_cons_zero,List.getElem_cons_succ,List.setIfInBounds_toArray,List.set_cons_succ,List.set_cons_zero]
   refine wpAnyH_take (i:=15) (v:=?_) rfl (by kernel_rfl) (by kernel_rfl) (by kernel_rfl) (fun _ _ _ h=>h) (Or.inl ⟨by rfl,?_⟩) HS0 ?_
   rotate_left
   ·intro x hSx
    clear hSx
    go_simp
    try with_reducible rfl
   simp only [Act.put,List.getElem_toArray,List.getElem_cons_zero,List.getElem_cons_succ,List.setIfInBounds_toArray,List.set_cons_succ,List.set_cons_zero]
   refine wpAnyH_take (i:=16) (v:=?_) rfl (by kernel_rfl) (by kernel_rfl) (by kernel_rfl) (fun _ _ _ h=>h) (Or.inl ⟨by rfl,?_⟩) HS0 ?_
   rotate_left
   ·intro x hSx
    clear hSx
    go_simp
    try with_reducible rfl
   simp only [Act.put,List.getElem_toArray,List.getElem_cons_zero,List.getElem_cons_succ,List.setIfInBounds_toArray,List.set_cons_succ,List.set_cons_zero]
   refine wpAnyH_take (i:=17) (v:=?_) rfl (by kernel_rfl) (by kernel_rfl) (by kernel_rfl) (fun _ _ _ h=>h) (Or.inl ⟨by rfl,?_⟩) HS0 ?_
   rotate_left
   ·intro x hSx
    have u0:=uh t1 x (uh hSx)
    clear hSx
    go_simp
    try with_reducible rfl
   simp only [Act.put,List.getElem_toArray,List.getElem_cons_zero,List.getElem_cons_succ,List.setIfInBounds_toArray,List.set_cons_succ,List.set_cons_zero]
   refine wpAnyH_take (i:=18) (v:=?_) rfl (by kernel_rfl) (by kernel_rfl) (by kernel_rfl) (fun _ _ _ h=>h) (Or.inl ⟨by rfl,?_⟩) HS0 ?_
   rotate_left
   ·intro x hSx
    clear hSx
    go_simp
    try with_reducible rfl
   simp only [Act.put,List.getElem_toArray,List.getElem_cons_zero,List.getElem_cons_succ,List.setIfInBounds_toArray,List.set_cons_succ,List.set_cons_zero]
   refine wpAnyH_take (i:=19) (v:=?_) rfl (by kernel_rfl) (by kernel_rfl) (by kernel_rfl) (fun _ _ _ h=>h) (Or.inl ⟨by rfl,?_⟩) HS0 ?_
   rotate_left
   ·intro x hSx
    have u0:=uh t2 x (uh hSx)
    clear hSx
    go_simp
    try with_reducible rfl
   simp only [Act.put,List.getElem_toArray,List.getElem_cons_zero,List.getElem_cons_succ,List.setIfInBounds_toArray,List.set_cons_succ,List.set_cons_zero]
   refine wpAnyH_take (i:=20) (v:=?_) rfl (by kernel_rfl) (by kernel_rfl) (by kernel_rfl) (fun _ _ _ h=>h) (Or.inl ⟨by rfl,?_⟩) HS0 ?_
   rotate_left
   ·intro x hSx
    clear hSx
    go_simp
    try with_reducible rfl
   simp only [Act.put,List.getElem_toArray,List.getElem_cons_zero,List.getElem_cons_succ,List.setIfInBounds_toArray,List.set_cons_succ,List.set_cons_zero]
   refine wpAnyH_take (i:=21) (v:=?_) rfl (by kernel_rfl) (by kernel_rfl) (by kernel_rfl) (fun _ _ _ h=>h) (Or.inl ⟨by rfl,?_⟩) HS0 ?_
   rotate_left
   ·intro x hSx
    clear hSx
    go_simp
    try with_reducible rfl
   simp only [Act.put,List.getElem_toArray,List.getElem_cons_zero,List.getElem_cons_succ,List.setIfInBounds_toArray,List.set_cons_succ,List.set_cons_zero]
   refine wpAnyH_take (i:=22) (v:=?_) rfl (by kernel_rfl) (by kernel_rfl) (by kernel_rfl) (fun _ _ _ h=>h) (Or.inl ⟨by rfl,?_⟩) HS0 ?_
   rotate_left
   ·intro x hSx
    clear hSx
    go_simp
    try with_reducible rfl
   simp only [Act.put,List.getElem_toArray,List.getElem_cons_zero,List.getElem_cons_succ,List.setIfInBounds_toArray,List.set_cons_succ,List.set_cons_zero]
   refine wpAnyH_take (i:=23) (v:=?_) rfl (by kernel_rfl) (by kernel_rfl) (by kernel_rfl) (fun _ _ _ h=>h) (Or.inl ⟨by rfl,?_⟩) HS0 ?_
   rotate_left
   ·intro x hSx
    clear hSx
    go_simp
    try with_reducible rfl
   simp only [Act.put,List.getElem_toArray,List.getElem_cons_zero,List.getElem_cons_succ,List.setIfInBounds_toArray,List.set_cons_succ,List.set_cons_zero]
   refine wpAnyH_take (i:=24) (v:=?_) rfl (by kernel_rfl) (by kernel_rfl) (by kernel_rfl) (fun _ _ _ h=>h) (Or.inl ⟨by rfl,?_⟩) HS0 ?_
   rotate_left
   ·intro x hSx
    clear hSx
    go_simp
    try with_reducible rfl
   simp only [Act.put,List.getElem_toArray,List.getElem_cons_zero,List.getElem_cons_succ,List.setIfInBounds_toArray,List.set_cons_succ,List.set_cons_zero]
   refine wpAnyH_take (i:=25) (v:=?_) rfl (by kernel_rfl) (by kernel_rfl) (by kernel_rfl) (fun _ _ _ h=>h) (Or.inl ⟨by rfl,?_⟩) HS0 ?_
   rotate_left
   ·intro x hSx
    clear hSx
    go_simp
    try with_reducible rfl
   simp only [Act.put,List.getElem_toArray,List.getElem_cons_zero,List.getElem_cons_succ,List.setIfInBounds_toArray,List.set_cons_succ,List.set_cons_zero]
   refine wpAnyH_take (i:=26) (v:=?_) rfl (by kernel_rfl) (by kernel_rfl) (by kernel_rfl) (fun _ _ _ h=>h) (Or.inl ⟨by rfl,?_⟩) HS0 ?_
   rotate_left
   ·intro x hSx
    clear hSx
    go_simp
    try with_reducible rfl
   simp only [Act.put,List.getElem_toArray,List.getElem_cons_zero,List.getElem_cons_succ,List.setIfInBounds_toArray,List.set_cons_succ,List.set_cons_zero]
   refine wpAnyH_done (by kernel_rfl) ?_ _
   clear t1 t2 hslice HB6 K6 BC6
   go_wp2_with fail
   go_meet
   exact ⟨uh HD,HS0⟩
  ·have h5:¬(100:Int)<(len6:Int):=by omega
   have HD:Hid (Value.bool false=.bool (decide (100<len6))):=(show _=_ by rw [decide_eq_false h100])
   clear h100
   refine wp_region_held_drew (S:=fun x=>Hid (x6.grownBy x none)) (by kernel_rfl) (gd1 (World.grownBy.refl _ none)) (fun HS0=>?_)
   refine wpAnyH_take (i:=0) (v:=?_) rfl (by kernel_rfl) (by kernel_rfl) (by kernel_rfl) (fun _ _ _ h=>h) (Or.inl ⟨by rfl,?_⟩) HS0 ?_
   rotate_left
   ·intro x hSx
    clear hSx
    go_simp
    try with_reducible rfl
   simp only [Act.put,List.getElem_toArray,List.getElem_cons_zero,List.setIfInBounds_toArray,List.set_cons_succ,List.set_cons_zero]
   refine wpAnyH_take (i:=1) (v:=?_) rfl (by kernel_rfl) (by kernel_rfl) (by kernel_rfl) (fun _ _ _ h=>h) (Or.inl ⟨by rfl,?_⟩) HS0 ?_
   rotate_left
   ·intro x hSx
    clear hSx
    go_simp
    try with_reducible rfl
   simp only [Act.put,List.getElem_toArray,List.getElem_cons_zero,List.getElem_cons_succ,List.setIfInBounds_toArray,List.set_cons_succ,List.set_cons_zero]
   refine wpAnyH_take (i:=2) (v:=?_) rfl (by kernel_rfl) (by kernel_rfl) (by kernel_rfl) (fun _ _ _ h=>h) (Or.inl ⟨by rfl,?_⟩) HS0 ?_
   rotate_left
   ·intro x hSx
    clear hSx
    go_simp
    try with_reducible rfl
   simp only [Act.put,List.getElem_toArray,List.getElem_cons_zero,List.getElem_cons_succ,List.setIfInBounds_toArray,List.set_cons_succ,List.set_cons_zero]
   refine wpAnyH_take (i:=3) (v:=?_) rfl (by kernel_rfl) (by kernel_rfl) (by kernel_rfl) (fun _ _ _ h=>h) (Or.inl ⟨by rfl,?_⟩) HS0 ?_
   rotate_left
   ·intro x hSx
    clear hSx
    go_simp
    try with_reducible rfl
   simp only [Act.put,List.getElem_toArray,List.getElem_cons_zero,List.getElem_cons_succ,List.setIfInBounds_toArray,List.set_cons_succ,List.set_cons_zero]
   refine wpAnyH_take (i:=4) (v:=?_) rfl (by kernel_rfl) (by kernel_rfl) (by kernel_rfl) (fun _ _ _ h=>h) (Or.inl ⟨by rfl,?_⟩) HS0 ?_
   rotate_left
   ·intro x hSx
    clear hSx
    go_simp
    try with_reducible rfl
   simp only [Act.put,List.getElem_toArray,List.getElem_cons_zero,List.getElem_cons_succ,List.setIfInBounds_toArray,List.set_cons_succ,List.set_cons_zero]
   refine wpAnyH_take (i:=5) (v:=?_) rfl (by kernel_rfl) (by kernel_rfl) (by kernel_rfl) (fun _ _ _ h=>h) (Or.inl ⟨by rfl,?_⟩) HS0 ?_
   rotate_left
   ·intro x hSx
    clear hSx
    go_simp
    try with_reducible rfl
   simp only [Act.put,List.getElem_toArray,List.getElem_cons_zero,List.getElem_cons_succ,List.setIfInBounds_toArray,List.set_cons_succ,List.set_cons_zero]
   refine wpAnyH_take (i:=6) (v:=?_) rfl (by kernel_rfl) (by kernel_rfl) (by kernel_rfl) (fun _ _ _ h=>h) (Or.inl ⟨by rfl,?_⟩) HS0 ?_
   rotate_left
   ·intro x hSx
    clear hSx
    go_simp
    try with_reducible rfl
   simp only [Act.put,List.getElem_toArray,List.getElem_cons_zero,List.getElem_cons_succ,List.setIfInBounds_toArray,List.set_cons_succ,List.set_cons_zero]
   refine wpAnyH_take (i:=7) (v:=?_) rfl (by kernel_rfl) (by kernel_rfl) (by kernel_rfl) (fun _ _ _ h=>h) (Or.inl ⟨by rfl,?_⟩) HS0 ?_
   rotate_left
   ·intro x hSx
    clear hSx
    go_simp
    try with_reducible rfl
   simp only [Act.put,List.getElem_toArray,List.getElem_cons_zero,List.getElem_cons_succ,List.setIfInBounds_toArray,List.set_cons_succ,List.set_cons_zero]
   refine wpAnyH_take (i:=8) (v:=?_) rfl (by kernel_rfl) (by kernel_rfl) (by kernel_rfl) (fun _ _ _ h=>h) (Or.inl ⟨by rfl,?_⟩) HS0 ?_
   rotate_left
   ·intro x hSx
    clear hSx
    go_simp
    try with_reducible rfl
   simp only [Act.put,List.getElem_toArray,List.getElem_cons_zero,List.getElem_cons_succ,List.setIfInBounds_toArray,List.set_cons_succ,List.set_cons_zero]
   refine wpAnyH_take (i:=9) (v:=?_) rfl (by kernel_rfl) (by kernel_rfl) (by kernel_rfl) (fun _ _ _ h=>h) (Or.inl ⟨by rfl,?_⟩) HS0 ?_
   rotate_left
   ·intro x hSx
    clear hSx
    go_simp
    try with_reducible rfl
   simp only [Act.put,List.getElem_toArray,List.getElem_cons_zero,List.getElem_cons_succ,List.setIfInBounds_toArray,List.set_cons_succ,List.set_cons_zero]
   refine wpAnyH_take (i:=10) (v:=?_) rfl (by kernel_rfl) (by kernel_rfl) (by kernel_rfl) (fun _ _ _ h=>h) (Or.inl ⟨by rfl,?_⟩) HS0 ?_
   rotate_left
   ·intro x hSx
    clear hSx
    go_simp
    try with_reducible rfl
   simp only [Act.put,List.getElem_toArray,List.getElem_cons_zero,List.getElem_cons_succ,List.setIfInBounds_toArray,List.set_cons_succ,List.set_cons_zero]
   refine wpAnyH_take (i:=11) (v:=?_) rfl (by kernel_rfl) (by kernel_rfl) (by kernel_rfl) (fun _ _ _ h=>h) (Or.inl ⟨by rfl,?_⟩) HS0 ?_
   rotate_left
   ·intro x hSx
    clear hSx
    go_simp
    try with_reducible rfl
   simp only [Act.put,List.getElem_toArray,List.getElem_cons_zero,List.getElem_cons_succ,List.setIfInBounds_toArray,List.set_cons_succ,List.set_cons_zero]
   refine wpAnyH_take (i:=12) (v:=?_) rfl (by kernel_rfl) (by kernel_rfl) (by kernel_rfl) (fun _ _ _ h=>h) (Or.inl ⟨by rfl,?_⟩) HS0 ?_
   rotate_left
   ·intro x hSx
    clear hSx
    go_simp
    try with_reducible rfl
   simp only [Act.put,List.getElem_toArray,List.getElem_cons_zero,List.getElem_cons_succ,List.setIfInBounds_toArray,List.set_cons_succ,List.set_cons_zero]
   refine wpAnyH_take (i:=13) (v:=?_) rfl (by kernel_rfl) (by kernel_rfl) (by kernel_rfl) (fun _ _ _ h=>h) (Or.inl ⟨by rfl,?_⟩) HS0 ?_
   rotate_left
   ·intro x hSx
    clear hSx
    go_simp
    try with_reducible rfl
   simp only [Act.put,List.getElem_toArray,List.getElem_cons_zero,List.getElem_cons_succ,List.setIfInBounds_toArray,List.set_cons_succ,List.set_cons_zero]
   refine wpAnyH_take (i:=14) (v:=?_) rfl (by kernel_rfl) (by kernel_rfl) (by kernel_rfl) (fun _ _ _ h=>h) (Or.inl ⟨by rfl,?_⟩) HS0 ?_
   rotate_left
   ·intro x hSx
    clear hSx
    go_simp
    try with_reducible rfl
   simp only [Act.put,List.getElem_toArray,List.getElem_cons_zero,List.getElem_cons_succ,List.setIfInBounds_toArray,List.set_cons_succ,List.set_cons_zero]
   refine wpAnyH_take (i:=15) (v:=?_) rfl (by kernel_rfl) (by kernel_rfl) (by kernel_rfl) (fun _ _ _ h=>h) (Or.inl ⟨by rfl,?_⟩) HS0 ?_
   rotate_left
   ·intro x hSx
    clear hSx
    go_simp
    try with_reducible rfl
   simp only [Act.put,List.getElem_toArray,List.getElem_cons_zero,List.getElem_cons_succ,List.setIfInBounds_toArray,List.set_cons_succ,List.set_cons_zero]
   refine wpAnyH_take (i:=16) (v:=?_) rfl (by kernel_rfl) (by kernel_rfl) (by kernel_rfl) (fun _ _ _ h=>h) (Or.inl ⟨by rfl,?_⟩) HS0 ?_
   rotate_left
   ·intro x hSx
    clear hSx
    go_simp
    try with_reducible rfl
   simp only [Act.put,List.getElem_toArray,List.getElem_cons_zero,List.getElem_cons_succ,List.setIfInBounds_toArray,List.set_cons_succ,List.set_cons_zero]
   refine wpAnyH_take (i:=17) (v:=?_) rfl (by kernel_rfl) (by kernel_rfl) (by kernel_rfl) (fun _ _ _ h=>h) (Or.inl ⟨by rfl,?_⟩) HS0 ?_
   rotate_left
   ·intro x hSx
    have u0:=uh t1 x (uh hSx)
    clear hSx
    go_simp
    try with_reducible rfl
   simp only [Act.put,List.getElem_toArray,List.getElem_cons_zero,List.getElem_cons_succ,List.setIfInBounds_toArray,List.set_cons_succ,List.set_cons_zero]
   refine wpAnyH_take (i:=18) (v:=?_) rfl (by kernel_rfl) (by kernel_rfl) (by kernel_rfl) (fun _ _ _ h=>h) (Or.inl ⟨by rfl,?_⟩) HS0 ?_
   rotate_left
   ·intro x hSx
    clear hSx
    go_simp
    try with_reducible rfl
   simp only [Act.put,List.getElem_toArray,List.getElem_cons_zero,List.getElem_cons_succ,List.setIfInBounds_toArray,List.set_cons_succ,List.set_cons_zero]
   refine wpAnyH_take (i:=19) (v:=?_) rfl (by kernel_rfl) (by kernel_rfl) (by kernel_rfl) (fun _ _ _ h=>h) (Or.inl ⟨by rfl,?_⟩) HS0 ?_
   rotate_left
   ·intro x hSx
    have u0:=uh t2 x (uh hSx)
    clear hSx
    go_simp
    try with_reducible rfl
   simp only [Act.put,List.getElem_toArray,List.getElem_cons_zero,List.getElem_cons_succ,List.setIfInBounds_toArray,List.set_cons_succ,List.set_cons_zero]
   refine wpAnyH_take (i:=20) (v:=?_) rfl (by kernel_rfl) (by kernel_rfl) (by kernel_rfl) (fun _ _ _ h=>h) (Or.inl ⟨by rfl,?_⟩) HS0 ?_
   rotate_left
   ·intro x hSx
    clear hSx
    go_simp
    try with_reducible rfl
   simp only [Act.put,List.getElem_toArray,List.getElem_cons_zero,List.getElem_cons_succ,List.setIfInBounds_toArray,List.set_cons_succ,List.set_cons_zero]
   refine wpAnyH_take (i:=21) (v:=?_) rfl (by kernel_rfl) (by kernel_rfl) (by kernel_rfl) (fun _ _ _ h=>h) (Or.inl ⟨by rfl,?_⟩) HS0 ?_
   rotate_left
   ·intro x hSx
    clear hSx
    go_simp
    try with_reducible rfl
   simp only [Act.put,List.getElem_toArray,List.getElem_cons_zero,List.getElem_cons_succ,List.setIfInBounds_toArray,List.set_cons_succ,List.set_cons_zero]
   refine wpAnyH_take (i:=22) (v:=?_) rfl (by kernel_rfl) (by kernel_rfl) (by kernel_rfl) (fun _ _ _ h=>h) (Or.inl ⟨by rfl,?_⟩) HS0 ?_
   rotate_left
   ·intro x hSx
    clear hSx
    go_simp
    try with_reducible rfl
   simp only [Act.put,List.getElem_toArray,List.getElem_cons_zero,List.getElem_cons_succ,List.setIfInBounds_toArray,List.set_cons_succ,List.set_cons_zero]
   refine wpAnyH_take (i:=23) (v:=?_) rfl (by kernel_rfl) (by kernel_rfl) (by kernel_rfl) (fun _ _ _ h=>h) (Or.inl ⟨by rfl,?_⟩) HS0 ?_
   rotate_left
   ·intro x hSx
    clear hSx
    go_simp
    try with_reducible rfl
   simp only [Act.put,List.getElem_toArray,List.getElem_cons_zero,List.getElem_cons_succ,List.setIfInBounds_toArray,List.set_cons_succ,List.set_cons_zero]
   refine wpAnyH_take (i:=24) (v:=?_) rfl (by kernel_rfl) (by kernel_rfl) (by kernel_rfl) (fun _ _ _ h=>h) (Or.inl ⟨by rfl,?_⟩) HS0 ?_
   rotate_left
   ·intro x hSx
    clear hSx
    go_simp
    try with_reducible rfl
   simp only [Act.put,List.getElem_toArray,List.getElem_cons_zero,List.getElem_cons_succ,List.setIfInBounds_toArray,List.set_cons_succ,List.set_cons_zero]
   refine wpAnyH_take (i:=25) (v:=?_) rfl (by kernel_rfl) (by kernel_rfl) (by kernel_rfl) (fun _ _ _ h=>h) (Or.inl ⟨by rfl,?_⟩) HS0 ?_
   rotate_left
   ·intro x hSx
    clear hSx
    go_simp
    try with_reducible rfl
   simp only [Act.put,List.getElem_toArray,List.getElem_cons_zero,List.getElem_cons_succ,List.setIfInBounds_toArray,List.set_cons_succ,List.set_cons_zero]
   refine wpAnyH_take (i:=26) (v:=?_) rfl (by kernel_rfl) (by kernel_rfl) (by kernel_rfl) (fun _ _ _ h=>h) (Or.inl ⟨by rfl,?_⟩) HS0 ?_
   rotate_left
   ·intro x hSx
    clear hSx
    go_simp
    try with_reducible rfl
   simp only [Act.put,List.getElem_toArray,List.getElem_cons_zero,List.getElem_cons_succ,List.setIfInBounds_toArray,List.set_cons_succ,List.set_cons_zero]
   refine wpAnyH_done (by kernel_rfl) ?_ _
   clear t1 t2 hslice HB6 K6 BC6
   go_wp2_with fail
   go_meet
   exact ⟨uh HD,HS0⟩
 case rest =>
  obtain ⟨rfl,hg7⟩:=hcut
  have HB7:=hide ((uh HB6).on (uh hg7))
  have K7:=hide ((uh K6).on (uh hg7))
  have BC7:=hide ((uh BC6).on (uh hg7))
  clear HB6 K6 BC6 t1 t2 hslice hg7
  by_cases h100:100<len6
  ·have h5:(100:Int)<(len6:Int):=by omega
   rw [decide_eq_true h100]
   have hfin:=hide (none_below (uh HB7).grown)
   clear h100 HB7 K7 BC7
   go_wp2
   go_ret
   exact ⟨rfl,uh hfin⟩
  ·have h5:¬(100:Int)<(len6:Int):=by omega
   have H100:=hide h100
   rw [decide_eq_false h100]
   have cd:=hide ((uh K7).decode (uh HB7))
   clear h100
   go_wp2_with fail
   refine (uh cd).mono ?_
   rintro e z1 ⟨hg8,F1,rfl,hT1⟩
   obtain ⟨z2,hz2⟩:∃x,x=z1.alloc (.cells (Sv.cells F1) 33):=⟨_,rfl⟩
   have hg2:z1.grownBy z2 none:=by rw [hz2];exact World.grownBy_alloc _ _ _
   obtain ⟨X,hX0⟩:∃B,z1.heap.size=B:=⟨_,rfl⟩
   have BX:Hid (Lie z2 X 33 15 F1.box):=by
    show Lie z2 _ _ _ _
    rw [hz2,←hX0]
    exact Sv.cells_lie z1 F1
   have hg:=gtr hg8 hg2
   have HB8:=hide ((uh HB7).on hg)
   have HXw:Hid (w.heap.size≤X):=by
    show w.heap.size≤X
    rw [←hX0]
    exact Nat.le_trans (uh HB7).grown.size hg8.size
   have BC8:=hide ((uh BC7).on hg)
   have cq:=hide (svSame_tells (hT1.on hg2) ((uh K7).on hg).tells)
   clear cd hg8 hT1 hg2 hg HB7 K7 BC7
   unfold Sv.cells at hz2 cq ⊢
   go_upto_region 9 with fail
   rw [←hz2]
   clear hz2 hX0 z1
   obtain ⟨p0,p1,p2,p3,p4,p5,p6,p7,p8,p9,p10,p11,p12,p13,p14⟩:=Sv.cells15 (uh BX)
   obtain ⟨q0,q1,q2,q3,q4,q5,q6,q7,q8,q9,q10,q11,q12,q13,q14⟩:=Sv.cells15 (uh BC8)
   go_wp2_with fail
   refine (uh cq).mono ?_
   rintro e z3 ⟨rfl,hg9⟩
   have HT:Hid (Sv.Turns w z3 G cb X):=⟨_,_,(uh HB8).on hg9,(uh BX).on hg9⟩
   clear cq hg9 HB8 BX BC8 p0 p1 p2 p3 p4 p5 p6 p7 p8 p9 p10 p11 p12 p13 p14 q0 q1 q2 q3 q4 q5 q6 q7 q8 q9 q10 q11 q12 q13 q14
   go_upto_if 86 with fail
   go_cut [] from 86 to 86 (fun wx=>wx=z3)
   case first =>
    go_wp2_with fail
    go_meet
    exact rfl
   case rest =>
    obtain rfl:=hcut
    rename_i Kx Ax
    refine Ax _ _ ?_
    exact saveBytes_mid w _ G cb X len3 cap3 len4 cap4 len6 cap6 a3 a4 a6 a5 z3 z4 lm H3 H4 HB4 HSR HLM HBM H100 HT HXw

end Go.Proofs.YtldgbkjceildfaaGreat
