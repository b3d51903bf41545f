import Derived.Test.YtldgbkjceildfaaGreatBy41
import Derived.Test.YtldgbkjceildfaaGreatBy52
namespace Go.Proofs.YtldgbkjceildfaaGreat
open Go.RowKit

def Sv.sameT (t u:Nat→Bool):Bool:=decide (t 0=u 0) && (decide (t 1=u 1) && (decide (t 2=u 2) && decide (t 3=u 3)))

theorem Sv.sameT_self (t:Nat→Bool):Sv.sameT t t=true:=by simp [Sv.sameT]

theorem Sv.info_bool:(Tryz.prog.info? 4).map (fun i=>(i.zero,i.size,i.bytes))=some (some (.bool false),1,1):=by kernel_rfl

theorem run_equal_seats (d:Nat) (t u:Nat→Bool) (w:World):(Op.equalIn (d+2) 31 (.agg #[.bool (t 0),.bool (t 1),.bool (t 2),.bool (t 3)]) (.agg #[.bool (u 0),.bool (u 1),.bool (u 2),.bool (u 3)])).run Tryz.prog w=.ok (Sv.sameT t u) w:=by
 obtain ⟨i0,hi,_,_,_⟩:=info_parts Sv.info_bool;have hc:Tryz.prog.cellsOf 4=1:=by kernel_rfl
 have hh:=run_equalIn_array (P:=Tryz.prog) (w:=w) (d+1) #[.bool (t 0),.bool (t 1),.bool (t 2),.bool (t 3)] #[.bool (u 0),.bool (u 1),.bool (u 2),.bool (u 3)] Tryz.underlying31 hi;have hr:(Op.eqItems (d+1) 4 (Tryz.prog.cellsOf 4) #[Value.bool (t 0),.bool (t 1),.bool (t 2),.bool (t 3)] #[.bool (u 0),.bool (u 1),.bool (u 2),.bool (u 3)] (List.range 4)).run Tryz.prog w=.ok (Sv.sameT t u) w:=by
  rw [hc];unfold Sv.sameT;by_cases h0:t 0=u 0
  ·by_cases h1:t 1=u 1
   ·by_cases h2:t 2=u 2
    ·by_cases h3:t 3=u 3 <;> simp [List.range,List.range.loop,Op.eqItems,go_sem,h0,h1,h2,h3]
    ·simp [List.range,List.range.loop,Op.eqItems,go_sem,h0,h1,h2]
   ·simp [List.range,List.range.loop,Op.eqItems,go_sem,h0,h1]
  ·simp [List.range,List.range.loop,Op.eqItems,go_sem,h0]
 rw [hr] at hh;exact hh

set_option maxRecDepth 16000 in
set_option maxHeartbeats 6400000 in
theorem svSame_any (s t g h c d:Nat→Int) (E F I J:Nat→Nat→Int) (u v:Nat→Bool) (gC gE gI cC cE cI jC jE jI dC dE dI:Nat) (w:World) (hL:Gd.Lists w gC gE gI c E I) (hL2:Gd.Lists w jC jE jI d F J) (hc:∀i,0≤c i∧c i≤255) (hd:∀i,0≤d i∧d i≤255) :
  Calls Tryz.prog 12 #[.agg (Sv.camp s gC gE gI cC cE cI g u),.agg (Sv.camp t jC jE jI dC dE dI h v)] w (Says w (.bool (Sv.sameT u v && Sn.sameW s t g h c d E F I J))):=by
 obtain ⟨w1,hw1⟩:∃x,x=w.alloc (.cells (Sv.camp s gC gE gI cC cE cI g u) 33):=⟨_,rfl⟩;obtain ⟨w2,hw2⟩:∃x,x=w1.alloc (.cells (Sv.camp t jC jE jI dC dE dI h v) 33):=⟨_,rfl⟩;have hg1:w.grownBy w1 none:=by rw [hw1];exact World.grownBy_alloc _ _ _
 have hg2:w1.grownBy w2 none:=by rw [hw2];exact World.grownBy_alloc _ _ _
 have hA:Lie w2 w.heap.size 33 15 (Sv.box s gC gE gI cC cE cI g u):=by
  have h:Lie w1 w.heap.size 33 15 (Sv.box s gC gE gI cC cE cI g u):=by rw [hw1];exact Sv.camp_lie (heap_alloc_new w _)
  exact h.on hg2
 have hB:Lie w2 w1.heap.size 33 15 (Sv.box t jC jE jI dC dE dI h v):=by rw [hw2];exact Sv.camp_lie (heap_alloc_new w1 _)
 have cs:=hide (same7_two s t g h c d E F I J gC gE gI cC cE cI jC jE jI dC dE dI w2 (hL.on (gtr hg1 hg2)) (hL2.on (gtr hg1 hg2)) hc hd);have heq:∀d wx,(Op.equalIn (d+2) 31 (.agg #[.bool (u 0),.bool (u 1),.bool (u 2),.bool (u 3)]) (.agg #[.bool (v 0),.bool (v 1),.bool (v 2),.bool (v 3)])).run Tryz.prog wx=.ok (Sv.sameT u v) wx:=fun d wx=>run_equal_seats d u v wx;have hs1:w1.heap.size=w.heap.size+1:=by rw [hw1];simp
 obtain ⟨⟨a0,a1,a2,a3,a4,a5,a6,a7,a8,a9,a10⟩,a11,a12,a13,a14⟩:=Sv.fifteen hA;obtain ⟨⟨b0,b1,b2,b3,b4,b5,b6,b7,b8,b9,b10⟩,b11,b12,b13,b14⟩:=Sv.fifteen hB;have HG:=hide (gtr hg1 hg2);obtain ⟨B1,hB1⟩:∃B,w.heap.size=B:=⟨_,rfl⟩;rw [hB1] at a0 a1 a2 a3 a4 a5 a6 a7 a8 a9 a10 a11 a12 a13 a14 hs1;rw [hs1] at b0 b1 b2 b3 b4 b5 b6 b7 b8 b9 b10 b11 b12 b13 b14;clear hg1 hg2 hA hB hL hL2 hs1;unfold Sv.camp at hw1 hw2 ⊢;unfold Gd.world at cs;cases hT:Sv.sameT u v with
 | false =>
  rw [hT] at heq;clear hT;go_enter Tryz.func12,Tryz.ntmps12;go_upto_region 1 with fail;rw [←hw1,←hw2];clear hw1 hw2;go_wp2;go_ret;exact ⟨rfl,uh HG⟩
 | true =>
  rw [hT] at heq;clear hT;go_enter Tryz.func12,Tryz.ntmps12;go_upto_region 1 with fail;rw [←hw1,←hw2];clear hw1 hw2;go_wp2_with fail;refine (uh cs).mono ?_;rintro e w3 ⟨rfl,hg3⟩;have hfin:=hide (gtr (uh HG) hg3);clear cs hg3;go_wp2;go_ret;exact ⟨rfl,uh hfin⟩


open Go.RowKit

structure Sv.Disk (x:World) (base p bm cnt:Nat) (st:Dk.St) (o:Option Sv.C):Prop where
 mine:Dk.Mine x base p bm cnt st
 tells:Sv.tells st.f=o.map Sv.C.bytes
 ok:∀C,o=some C→C.Ok
 left:st.left≤9223372036854775807

theorem Sv.fresh_tells:Sv.tells Dk.fresh.f=none:=by
 have h:Sv.mark Dk.fresh.f=0:=rfl;unfold Sv.tells;rw [h,if_neg (by decide),if_neg (by decide)]

section
variable {w x y:World} {base p bm cnt:Nat} {st:Dk.St} {o:Option Sv.C}

theorem Sv.Disk.on (h:Sv.Disk x base p bm cnt st o) (hg:x.grownBy y none):Sv.Disk y base p bm cnt st o:={ h with mine:=h.mine.on hg }

theorem Sv.Disk.turn {B:Nat→Prop} (h:Sv.Disk x base p bm cnt st o) (ht:Turn B x y) (hp:¬B p) (hb:¬B bm):Sv.Disk y base p bm cnt st o:={ h with mine:=h.mine.turn ht hp hb }

theorem Sv.Disk.away (h:Sv.Disk x base p bm cnt st o) {g m:Nat} {T:TypeId} {F:Nat→Value} (hl:Lie x g T m F) (hT:T≠78):g≠p∧g≠bm:=by
 obtain ⟨M,G,hA,_,_⟩:=hl;refine ⟨fun e=>?_,fun e=>?_⟩
 ·subst e;obtain ⟨c1,h1,_⟩:=hA;obtain ⟨c2,h2,_⟩:=h.mine.box;rw [h1] at h2;simp only [Option.some.injEq,Obj.cells.injEq] at h2;exact hT h2.2.1
 ·subst e;obtain ⟨D,⟨es,cl,hb,_⟩,_⟩:=Dk.Own.map h.mine;obtain ⟨cur,hc,_⟩:=hA;rw [hb] at hc;cases hc

theorem Sv.lie_turn {B:Nat→Prop} {g m:Nat} {T:TypeId} {F:Nat→Value} (h:Lie x g T m F) (ht:Turn B x y) (hb:¬B g):Lie y g T m F:=by
 obtain ⟨M,G,hA,h1,h2⟩:=h;exact ⟨M,G,hA.turn ht hb,h1,h2⟩

theorem Sv.Disk.lie (h:Sv.Disk x base p bm cnt st o) (ht:Turn (fun k=>k=p∨k=bm) x y) {g m:Nat} {T:TypeId} {F:Nat→Value} (hl:Lie x g T m F) (hT:T≠78):Lie y g T m F :=
 Sv.lie_turn hl ht (fun q=>by have:=h.away hl hT;omega)

theorem Sv.Disk.lists (h:Sv.Disk x base p bm cnt st o) (ht:Turn (fun k=>k=p∨k=bm) x y) {gC gE gI:Nat} {c:Nat→Int} {E I:Nat→Nat→Int} (hl:Gd.Lists x gC gE gI c E I):Gd.Lists y gC gE gI c E I :=
 ⟨h.lie ht hl.cells (by decide),h.lie ht hl.ents (by decide),h.lie ht hl.items (by decide)⟩

def Sv.Told (x:World) (o:Option Sv.C) (e:Ending) (w':World):Prop :=
 x.grownBy w' none∧match o with
  | none=>e=.returned (.tuple #[.agg Sv.void,.int .i64 2])
  | some C=>∃v,e=.returned (.tuple #[v,.int .i64 0])∧Sv.Has x w' v C

theorem Sv.Disk.load (h:Sv.Disk x base p bm cnt st o) (hc:40≤cnt) (hd:st.dead=false):Calls Tryz.prog 20 #[.pointer (some ⟨p,0,none⟩)] x (Sv.Told x o):=by
 cases o with
 | none =>
  have hn:Sv.tells st.f=none:=h.tells;refine (svLoad_any base p bm cnt st x h.mine ⟨fun _=>0,fun _=>0,fun _=>0,fun _ _=>0,fun _ _=>0,fun _=>false⟩ (fun l e=>by rw [hn] at e;cases e)).mono ?_;rintro e w' (⟨k,_⟩|⟨_,k,_⟩|⟨_,_,_,rfl,hg⟩|⟨_,_,k,_⟩)
  ·omega
  ·rw [hd] at k;cases k
  ·exact ⟨hg,rfl⟩
  ·rw [hn] at k;cases k
 | some C =>
  have hs:Sv.tells st.f=some C.bytes:=h.tells;refine (svLoad_any base p bm cnt st x h.mine C (fun l e=>by rw [hs] at e;exact ⟨h.ok C rfl,(Option.some.inj e).symm⟩)).mono ?_;rintro e w' (⟨k,_⟩|⟨_,k,_⟩|⟨_,_,k,_⟩|⟨_,_,_,_,v,rfl,hv,hg⟩)
  ·omega
  ·rw [hd] at k;cases k
  ·rw [hs] at k;cases k
  ·exact ⟨hg,v,rfl,hv⟩

structure Sv.Kept (st:Dk.St) (o:Option Sv.C) (C:Sv.C) (r:Int) (st':Dk.St) (o':Option Sv.C):Prop where
 low:st.done≤st'.done
 high:st'.done≤st.done+16
 way:(r=0∧st'.dead=false∧o'=some C∧(st.left<0→st'.left<0))∨(r=11∧st'.dead=true∧o'=o∧0≤st.left)

theorem Sv.Disk.save (h:Sv.Disk x base p bm cnt st o) (hc:40≤cnt) (hd:st.dead=false) (hdone:st.done≤1073741824) {C:Sv.C} (hC:C.Ok) {gC gE gI cC cE cI:Nat} (hcE:32≤cE) (hL:Gd.Lists x gC gE gI C.c C.E C.I) :
  Calls Tryz.prog 19 #[.pointer (some ⟨p,0,none⟩),.agg (Sv.camp C.s gC gE gI cC cE cI C.g C.t)] x fun e w'=>∃r st' o',e=.returned (.int .i64 r)∧Sv.Disk w' base p bm cnt st' o'∧Sv.Kept st o C r st' o'∧Turn (fun k=>k=p∨k=bm) x w':=by
 refine (svSave_any base p bm cnt st C.s C.g C.c C.E C.I C.t 0 gC gE gI cC cE cI x h.mine h.left hdone hL hC.byte hcE hC.chk).mono ?_;have hb:Sv.seats C.t 4 :: Sn.bytes C.s C.g C.c C.E C.I=C.bytes:=rfl;have hr:Sv.saveR cnt st 0 C.bytes=Sv.saves cnt st C.bytes:=by
  unfold Sv.saveR;rw [if_neg (by omega),if_neg (by simp)]
 rw [hb,hr];have hs:=Sv.saved (cnt:=cnt) (l:=C.bytes) hd h.left hc C.len;obtain ⟨a,ha⟩:∃a,Sv.saves cnt st C.bytes=a:=⟨_,rfl⟩;rw [ha] at hs ⊢;rintro e w' ⟨rfl,hm,ht⟩;rcases hs.way with ⟨h1,h2,h3,h4⟩|⟨h1,h2,h3,h4⟩
 ·exact ⟨a.1,a.2,some C,rfl,⟨hm,h3,fun D e=>by cases e;exact hC,hs.left⟩,⟨hs.low,hs.high,.inl ⟨h1,h2,rfl,h4⟩⟩,ht⟩
 ·exact ⟨a.1,a.2,o,rfl,⟨hm,h3.trans h.tells,h.ok,hs.left⟩,⟨hs.low,hs.high,.inr ⟨h1,h2,rfl,h4⟩⟩,ht⟩

end

theorem Sv.page_ok {S:Cr.W} {seed:Int} {k:Nat} (t:Nat→Bool) (hG:Cr.Good S) (h0:S.s 0=seed) (h1:S.s 1=(k:Int)) (hk:k≤31) (hs:-9223372036854775808≤seed∧seed≤9223372036854775807):Sv.C.Ok ⟨S.s,S.g,S.c,S.E,S.I,t⟩ :=
 ⟨Sn.chk_good hG (by show 0≤S.s 1;omega) (by show S.s 1<1073741824;omega),(show -9223372036854775808≤S.s 0∧S.s 0<9223372036854775808 by omega),hG.sane.fit.cells⟩


open Go.RowKit

set_option maxHeartbeats 400000 in
theorem within14_any (a n:Int) (w:World) (hn:0<n) (hn2:n≤4611686018427387904) :
  Calls Tryz.prog 13 #[.int .i64 a,.int .i64 n] w fun e w'=>e=.returned (.int .i64 (a % n))∧w'=w:=by
 have t1:=Int.tmod_lt_of_pos a (b:=n) hn;have t2:=Int.lt_tmod_of_pos a (b:=n) hn;have hn0:(n == 0)=false:=by simp;omega
 by_cases h:a.tmod n<0
 ·have ha:¬0≤a:=by
   intro h0;have:=Int.tmod_nonneg n h0;omega
  have hd:=hide (Gr.within_neg a n hn h);go_enter Tryz.func13,Tryz.ntmps13;go_wp2;go_ret;exact ⟨rti (uh hd),rfl⟩
 ·have hd:=hide (Gr.within_pos a n hn h);by_cases ha:0≤a
  ·have e:a.tmod n=a % n:=Int.tmod_eq_emod_of_nonneg ha;have h':¬a % n<0:=by rw [←e];exact h
   clear h t1 t2 e;go_enter Tryz.func13,Tryz.ntmps13;go_wp2;go_ret;exact ⟨rfl,rfl⟩
  ·go_enter Tryz.func13,Tryz.ntmps13;go_wp2;go_ret;exact ⟨rti (uh hd),rfl⟩

def Sv.Tale (w:World) (e:Ending) (w':World):Prop :=
 ∃(C:Sv.C) (gC gE gI cC cE cI:Nat),e=.returned (.agg (Sv.camp C.s gC gE gI cC cE cI C.g C.t))∧32≤cE∧Gd.Lists w' gC gE gI C.c C.E C.I∧C.Ok∧w.grownBy w' none

set_option maxRecDepth 16000 in
set_option maxHeartbeats 6400000 in
theorem svCampaign_any {w0 w:World} {base:Nat} {v:Value} {seed:Int} {L:List (List Value)} (hB:Sn.Book w0 w base v seed L) (h0:0<L.length) (h31:L.length≤31) (hs:-9223372036854775808≤seed∧seed≤9223372036854775807) (n:Int) (hn:-9223372036854775808≤n∧n≤9223372036854775807) :
  Calls Tryz.prog 7 #[v,.int .i64 n] w (Sv.Tale w):=by
 have hk0:=Int.emod_nonneg n (show (L.length:Int)≠0 by omega);have hk1:=Int.emod_lt_of_pos n (show (0:Int)<(L.length:Int) by omega);obtain ⟨k,hk⟩:∃k:Nat,n % (L.length:Int)=(k:Int):=⟨(n % (L.length:Int)).toNat,by omega⟩;have hkL:k<L.length:=by omega
 obtain ⟨q,cap,rfl,hq,hcap,S,gC,gE,gI,cC,cE,cI,hcell,hL,hcE,hG,hs0,hs1⟩:=hB.at hkL;have hw:=hide (within14_any n L.length w (by omega) (by omega));rw [hk] at hw;obtain ⟨w1,hw1⟩:∃x,x=w.alloc (.cells Sv.void 33):=⟨_,rfl⟩;have hg1:w.grownBy w1 none:=by rw [hw1];exact World.grownBy_alloc _ _ _
 obtain ⟨P,hP⟩:∃P,w.heap.size=P:=⟨_,rfl⟩;have hR:Lie w1 P 33 15 Sv.voids:=by
  rw [hw1,←hP];exact Sv.void_lie w
 have hs1':w1.heap.size=P+1:=by rw [hw1,←hP];simp
 have qlt:q<w.heap.size:=(hB.own.lt q rfl).2;have k0:w1.cell? ⟨q,k*11,none⟩=some (Gd.box S.s gC gE gI cC cE cI S.g 0):=(gce hg1 q (k*11) qlt (by simp)).trans (by simpa using hcell 0 (by omega));have kk:∀j,j<11→w1.cell? ⟨q,k*11+j,none⟩=some (Gd.box S.s gC gE gI cC cE cI S.g j):=fun j hj=>(gce hg1 q (k*11+j) qlt (by simp)).trans (hcell j hj);have k1:=kk 1 (by omega);have k2:=kk 2 (by omega);have k3:=kk 3 (by omega);have k4:=kk 4 (by omega);have k5:=kk 5 (by omega);have k6:=kk 6 (by omega);have k7:=kk 7 (by omega);have k8:=kk 8 (by omega);have k9:=kk 9 (by omega);have k10:=kk 10 (by omega);dsimp only [Gd.box] at k0 k1 k2 k3 k4 k5 k6 k7 k8 k9 k10;obtain ⟨w2,hw2⟩:∃z,z=w1.alloc (.cells (Sv.camp S.s gC gE gI cC cE cI S.g (fun _=>false)) 33):=⟨_,rfl⟩;have hg2:w1.grownBy w2 none:=by rw [hw2];exact World.grownBy_alloc _ _ _
 have hC:Hid (Lie w2 (P+1) 33 15 (Sv.box S.s gC gE gI cC cE cI S.g (fun _=>false))):=by
  show Lie w2 _ _ _ _;rw [hw2,←hs1'];exact Sv.camp_lie (heap_alloc_new w1 _)
 have HR:=hide (hR.on hg2);have HL:=hide (hL.on (gtr hg1 hg2));have HG:=hide (gtr hg1 hg2);have HP:=hide hP;have hok:Hid (∀t,Sv.C.Ok ⟨S.s,S.g,S.c,S.E,S.I,t⟩):=fun t=>Sv.page_ok t hG hs0 hs1 (by omega) hs;have i1:(k:Int)<(L.length:Int):=by omega
 have i2:(L.length:Int)≤31:=by omega
 have HCE:=hide hcE;have hn1:=hn.1;have hn2:=hn.2;have hwx:=hide (fun y (_:w.grownBy y none)=>within14_any n L.length y (by omega) (by omega));rw [hk] at hwx;obtain ⟨ln,hln⟩:∃m,L.length=m:=⟨_,rfl⟩;rw [hln] at hwx i1 i2 ⊢;clear hB h0 h31 hk0 hk1 hkL hq hcap hcell hL hcE hG hs0 hs1 hR hP hg2 qlt kk hk hw hn hs hln;unfold Sv.void at hw1;unfold Sv.camp at hw2;go_enter Tryz.func7,Tryz.ntmps7;go_upto_region 1 with fail;rw [←hw1,uh HP];clear hw1;go_wp2_with fail;refine (uh hwx _ hg1).mono ?_;rintro e wq ⟨rfl,hq⟩;obtain rfl:w1=wq:=hq.symm;clear hwx hq;go_upto_region 2 with fail;rw [←hw2];clear hw2 hs1' k0 k1 k2 k3 k4 k5 k6 k7 k8 k9 k10 i1 i2 hg1;obtain ⟨B,hBe⟩:∃B,P+1=B:=⟨_,rfl⟩;rw [hBe] at hC ⊢;have hne:Hid (gC≠B∧gE≠B∧gI≠B):=⟨(uh HL).cells.type_ne (uh hC) (by decide),(uh HL).ents.type_ne (uh hC) (by decide),(uh HL).items.type_ne (uh hC) (by decide)⟩;have HB:=hide hBe;clear hBe;have hX0:Hid (∃t,Lie w2 B 33 15 (Sv.box S.s gC gE gI cC cE cI S.g t)∧Turn (fun k=>k=B) w2 w2):=⟨_,uh hC,Turn.refl _ _⟩;clear hC;go_wp2_with fail
 go_loopw [6] (fun vi wr=>∃i:Nat,i≤4∧vi=.int .i64 (i:Int)∧Hid (∃t,Lie wr B 33 15 (Sv.box S.s gC gE gI cC cE cI S.g t)∧Turn (fun k=>k=B) w2 wr)) (fun vi _=>10 - (intOf vi).toNat)
 case atStart=>exact ⟨0,by omega,rfl,hX0⟩
 case round =>
  clear hX0;obtain ⟨i,hi,rfl,hX⟩:=hrel;obtain ⟨t,hX1,hX2⟩:=uh hX;clear hX;by_cases hlt:i<4
  ·have HLT:=hide hlt;have hlt':(i:Int)<4:=by omega
   have hl0:(0:Int)≤(i:Int):=by omega
   have u1:wr.cell? ⟨B,11+i,none⟩=some (.bool (t i)):=by
    rw [hX1.cell (c:=11+i) (by omega)];unfold Sv.box;rw [if_neg (by omega),show 11+i - 11=i by omega]
   have fC:=hX1.free;have hn:Hid (∀b,∃t,Lie (wr.setCell ⟨B,11+i,none⟩ (.bool b)) B 33 15 (Sv.box S.s gC gE gI cC cE cI S.g t)∧Turn (fun k=>k=B) w2 (wr.setCell ⟨B,11+i,none⟩ (.bool b))):=fun b =>
    ⟨fun j=>if j=i then b else t j,Sv.seat_store hX1 b (t':=fun j=>if j=i then b else t j) hlt (if_pos rfl) (fun j _ hne=>if_neg hne),hX2.store B (11+i) (.bool b) rfl⟩
   clear hlt hi hX1 hX2;go_wp2;go_roundw;case rel=>exact ⟨i+1,by have:=uh HLT;omega,by go_num,uh hn _⟩
   case measure=>simp [intOf];have:=uh HLT;omega
  ·obtain rfl:i=4:=by omega
   have hge:¬((4:Nat):Int)<4:=by omega
   obtain ⟨⟨b0,b1,b2,b3,b4,b5,b6,b7,b8,b9,b10⟩,b11,b12,b13,b14⟩:=Sv.fifteen hX1;have hgr:w2.grownBy wr (some B):=⟨hX2.os,hX2.tape,hX2.output,hX2.size,fun k hk hn=>hX2.block k hk (fun e=>hn (by rw [e]))⟩;have hR4:Lie wr P 33 15 Sv.voids:=(uh HR).grown hgr (by have:=uh HB;simp;omega);have fz:=hR4.free;obtain ⟨z0,z1,z2,z3,z4,z5,z6,z7,z8,z9,z10,z11,z12,z13,z14⟩:=Sv.void_cells hR4;have hfo:Hid (∀vs,Sv.Tale w (.returned (.agg (Sv.camp S.s gC gE gI cC cE cI S.g t))) (wr.setCells P 0 vs)):=fun vs=>by
    have hl:=uh HL;have hlt:w.heap.size≤B:=by have:=uh HP;have:=uh HB;omega
    obtain ⟨m1,m2,m3⟩:=uh hne;have key:Gd.Lists wr gC gE gI S.c S.E S.I:=⟨hl.cells.grown hgr (by simp;omega),hl.ents.grown hgr (by simp;omega),hl.items.grown hgr (by simp;omega)⟩;exact ⟨⟨S.s,S.g,S.c,S.E,S.I,t⟩,gC,gE,gI,cC,cE,cI,rfl,uh HCE,⟨key.cells.others (hR4.type_ne key.cells (by decide)) _ _,key.ents.others (hR4.type_ne key.ents (by decide)) _ _,key.items.others (hR4.type_ne key.items (by decide)) _ _⟩,uh hok t,own_sets (by have:=uh HP;omega) vs 0 wr (gow (uh HG) hgr (fun k e=>by cases e;exact hlt))⟩
   clear hX1 hX2 hR4 hlt hi hgr;go_wp2;refine bodyPost_ret (v:=.agg (Sv.camp S.s gC gE gI cC cE cI S.g t)) (by simp [results,Tryz.results7,go_sem,Sv.camp,z0,z1,z2,z3,z4,z5,z6,z7,z8,z9,z10,z11,z12,z13,z14]) rfl ?_;exact uh hfo [_,_,_,_,_,_,_,_,_,_,_,_,_,_,_]


open Go.RowKit

theorem Sv.voids_same (w:World):Calls Tryz.prog 15 #[.agg Sn.void,.agg Sn.void] w (Says w (.bool true)) :=
 same7_alike (fun _=>0) (fun _=>0) (fun _=>0) (fun _ _=>0) (fun _ _=>0) _ _ _ _ _ _ 0 0 0 w ⟨.inl ⟨rfl,rfl⟩,.inl ⟨rfl,rfl⟩,.inl ⟨rfl,rfl⟩,fun _ _ _ e=>by cases e;exact Nat.le_refl _⟩ ⟨.inl ⟨rfl,rfl⟩,.inl ⟨rfl,rfl⟩,.inl ⟨rfl,rfl⟩,fun _ _ _ e=>by cases e;exact Nat.le_refl _⟩ (by omega) (by omega)

set_option maxRecDepth 16000 in
set_option maxHeartbeats 6400000 in
theorem svSame_void (w:World):Calls Tryz.prog 12 #[.agg Sv.void,.agg Sv.void] w (Says w (.bool true)):=by
 obtain ⟨w1,hw1⟩:∃x,x=w.alloc (.cells Sv.void 33):=⟨_,rfl⟩;obtain ⟨w2,hw2⟩:∃x,x=w1.alloc (.cells Sv.void 33):=⟨_,rfl⟩;have hg1:w.grownBy w1 none:=by rw [hw1];exact World.grownBy_alloc _ _ _
 have hg2:w1.grownBy w2 none:=by rw [hw2];exact World.grownBy_alloc _ _ _
 have hA:Lie w2 w.heap.size 33 15 Sv.voids:=by
  have h:Lie w1 w.heap.size 33 15 Sv.voids:=by rw [hw1];exact Sv.void_lie w
  exact h.on hg2
 have hB:Lie w2 w1.heap.size 33 15 Sv.voids:=by rw [hw2];exact Sv.void_lie w1
 have cs:=hide (Sv.voids_same w2);have heq:∀d wx,(Op.equalIn (d+2) 31 (.agg #[.bool false,.bool false,.bool false,.bool false]) (.agg #[.bool false,.bool false,.bool false,.bool false])).run Tryz.prog wx=.ok true wx:=fun d wx=>run_equal_seats d (fun _=>false) (fun _=>false) wx;have hs1:w1.heap.size=w.heap.size+1:=by rw [hw1];simp
 obtain ⟨a0,a1,a2,a3,a4,a5,a6,a7,a8,a9,a10,a11,a12,a13,a14⟩:=Sv.void_cells hA;obtain ⟨b0,b1,b2,b3,b4,b5,b6,b7,b8,b9,b10,b11,b12,b13,b14⟩:=Sv.void_cells hB;have HG:=hide (gtr hg1 hg2);obtain ⟨B1,hB1⟩:∃B,w.heap.size=B:=⟨_,rfl⟩;rw [hB1] at a0 a1 a2 a3 a4 a5 a6 a7 a8 a9 a10 a11 a12 a13 a14 hs1;rw [hs1] at b0 b1 b2 b3 b4 b5 b6 b7 b8 b9 b10 b11 b12 b13 b14;clear hg1 hg2 hA hB hs1;unfold Sv.void at hw1 hw2 ⊢;unfold Sn.void at cs;go_enter Tryz.func12,Tryz.ntmps12;go_upto_region 1 with fail;rw [←hw1,←hw2];clear hw1 hw2;go_wp2_with fail;refine (uh cs).mono ?_;rintro e w3 ⟨rfl,hg3⟩;have hfin:=hide (gtr (uh HG) hg3);clear cs hg3;go_wp2;go_ret;exact ⟨rfl,uh hfin⟩

set_option maxRecDepth 16000 in
set_option maxHeartbeats 12800000 in
theorem known14_any (w:World):Calls Tryz.prog 6 #[] w (Says w (.bool true)):=by
 have cN:=hide (Dk.mine_new 40 w (by omega) (by omega));go_enter Tryz.func6,Tryz.ntmps6;go_wp2_with fail;refine (uh cN).mono ?_;rintro e x1 ⟨p,bm,rfl,hM,hg1⟩;have hD1:Sv.Disk x1 w.heap.size p bm 40 Dk.fresh none:=⟨hM,Sv.fresh_tells,fun C e=>(by cases e),by simp [Dk.fresh]⟩;have D1:=hide hD1;have G1:=hide hg1;have lo:=hide (And.intro hM.low hM.lowb);have cl:=hide (hD1.load (by omega) rfl);clear cN hM hg1 hD1;go_wp2_with fail;refine (uh cl).mono ?_;rintro e x2 ⟨hg2,he⟩;simp only at he;subst he;obtain ⟨x3,hx3⟩:∃x,x=x2.alloc (.cells Sv.void 33):=⟨_,rfl⟩;have hg3:x2.grownBy x3 none:=by rw [hx3];exact World.grownBy_alloc _ _ _
 have D3:=hide (((uh D1).on hg2).on hg3);have G3:=hide (gtr (uh G1) (gtr hg2 hg3));have cs:=hide (story_any 1 none 0 0 (fun _=>(none,0,0)) (fun _ _=>0) x3 ⟨Nat.zero_le _,fun i hi=>absurd hi (Nat.not_lt_zero i)⟩);clear cl hg2 hg3 D1 G1;unfold Sv.void at hx3 ⊢;go_upto_region 5 with fail;rw [←hx3];clear hx3;obtain ⟨B3,hB3⟩:∃B,x2.heap.size=B:=⟨_,rfl⟩;rw [hB3];clear hB3 x2;go_wp2_with fail;refine (uh cs).mono ?_;rintro e x4 ⟨v,base,L,rfl,hbase,hL0,hL31,hBk,hg4⟩;obtain ⟨q,cap,rfl,hq,hcap,S,gC,gE,gI,cC,cE,cI,hcell,hLs,hcE,hGood,hs0,hs1⟩:=hBk.at (k:=0) hL0;have i1:(0:Int)<(L.length:Int):=by omega
 have k0:x4.cell? ⟨q,0,none⟩=some (Gd.box S.s gC gE gI cC cE cI S.g 0):=by simpa using hcell 0 (by omega)
 have k1:x4.cell? ⟨q,1,none⟩=some (Gd.box S.s gC gE gI cC cE cI S.g 1):=by simpa using hcell 1 (by omega)
 have k2:x4.cell? ⟨q,2,none⟩=some (Gd.box S.s gC gE gI cC cE cI S.g 2):=by simpa using hcell 2 (by omega)
 have k3:x4.cell? ⟨q,3,none⟩=some (Gd.box S.s gC gE gI cC cE cI S.g 3):=by simpa using hcell 3 (by omega)
 have k4:x4.cell? ⟨q,4,none⟩=some (Gd.box S.s gC gE gI cC cE cI S.g 4):=by simpa using hcell 4 (by omega)
 have k5:x4.cell? ⟨q,5,none⟩=some (Gd.box S.s gC gE gI cC cE cI S.g 5):=by simpa using hcell 5 (by omega)
 have k6:x4.cell? ⟨q,6,none⟩=some (Gd.box S.s gC gE gI cC cE cI S.g 6):=by simpa using hcell 6 (by omega)
 have k7:x4.cell? ⟨q,7,none⟩=some (Gd.box S.s gC gE gI cC cE cI S.g 7):=by simpa using hcell 7 (by omega)
 have k8:x4.cell? ⟨q,8,none⟩=some (Gd.box S.s gC gE gI cC cE cI S.g 8):=by simpa using hcell 8 (by omega)
 have k9:x4.cell? ⟨q,9,none⟩=some (Gd.box S.s gC gE gI cC cE cI S.g 9):=by simpa using hcell 9 (by omega)
 have k10:x4.cell? ⟨q,10,none⟩=some (Gd.box S.s gC gE gI cC cE cI S.g 10):=by simpa using hcell 10 (by omega)
 dsimp only [Gd.box] at k0 k1 k2 k3 k4 k5 k6 k7 k8 k9 k10;obtain ⟨x5,hx5⟩:∃x,x=x4.alloc (.cells (Sv.camp S.s gC gE gI cC cE cI S.g (fun _=>false)) 33):=⟨_,rfl⟩;have hg5:x4.grownBy x5 none:=by rw [hx5];exact World.grownBy_alloc _ _ _
 have hC:Hid (Lie x5 x4.heap.size 33 15 (Sv.box S.s gC gE gI cC cE cI S.g (fun _=>false))):=by
  show Lie x5 _ _ _ _;rw [hx5];exact Sv.camp_lie (heap_alloc_new x4 _)
 have hok:Hid (Sv.C.Ok ⟨S.s,S.g,S.c,S.E,S.I,fun j=>decide (j=2)⟩):=Sv.page_ok _ hGood hs0 hs1 (by omega) (by omega);have D5:=hide (((uh D3).on hg4).on hg5);have G5:=hide (gtr (uh G3) (gtr hg4 hg5));have L5:=hide (hLs.on hg5);have HCE:=hide hcE;have hw4:=hide (gtr (uh G3) hg4).size;clear cs hbase hL0 hL31 hBk hg4 hq hcap hcell hLs hcE hGood hs0 hs1 hg5 D3 G3;unfold Sv.camp at hx5;go_upto_region 6 with fail;rw [←hx5];clear hx5 k0 k1 k2 k3 k4 k5 k6 k7 k8 k9 k10 i1;obtain ⟨B,hBe⟩:∃B,x4.heap.size=B:=⟨_,rfl⟩;have hBw:Hid (w.heap.size≤B∧B≠p∧B≠bm):=by
  have h1:=(uh D5).away (uh hC) (by decide);rw [hBe] at h1;rw [←hBe];exact ⟨uh hw4,by omega⟩
 rw [hBe] at hC ⊢;clear hBe hw4 x4;have hC2:Hid (Lie (x5.setCell ⟨B,13,none⟩ (.bool true)) B 33 15 (Sv.box S.s gC gE gI cC cE cI S.g (fun j=>decide (j=2)))):=Sv.seat_store (i:=2) (uh hC) true (by omega) rfl (fun j _ hne=>decide_eq_false hne);have gB:w.grownBy (x5.setCell ⟨B,13,none⟩ (.bool true)) none:=gsr (uh G5) ⟨B,13,none⟩ (uh hBw).1 _;have tB:Turn (fun k=>k=B) x5 (x5.setCell ⟨B,13,none⟩ (.bool true)):=(Turn.refl _ _).store B 13 _ rfl;have D6:=hide ((uh D5).turn tB (by have:=(uh hBw).2.1;omega) (by have:=(uh hBw).2.2;omega));have L6:Hid (Gd.Lists (x5.setCell ⟨B,13,none⟩ (.bool true)) gC gE gI S.c S.E S.I):=by
  have hl:=uh L5;have hc:=uh hC;exact ⟨hl.cells.other (hc.type_ne hl.cells (by decide)) _ _,hl.ents.other (hc.type_ne hl.ents (by decide)) _ _,hl.items.other (hc.type_ne hl.items (by decide)) _ _⟩
 have G6:=hide gB;have fB:=(uh hC).free;have u13:x5.cell? ⟨B,13,none⟩=some (.bool false):=(uh hC).cell (c:=13) (by omega);clear gB tB hC D5 G5 L5;go_upto_region 7 with fail;obtain ⟨x6,hx6⟩:∃x,x5.setCell ⟨B,13,none⟩ (.bool true)=x:=⟨_,rfl⟩;rw [hx6] at hC2 D6 L6 G6 ⊢;clear hx6 u13 fB x5;obtain ⟨⟨b0,b1,b2,b3,b4,b5,b6,b7,b8,b9,b10⟩,b11,b12,b13,b14⟩:=Sv.fifteen (uh hC2);have cv:=hide (Sv.Disk.save (cC:=cC) (cE:=cE) (cI:=cI) (uh D6) (by omega) rfl (by decide) (uh hok) (uh HCE) (uh L6));have e0:decide ((0:Nat)=2)=false∧decide ((1:Nat)=2)=false∧decide ((2:Nat)=2)=true∧decide ((3:Nat)=2)=false:=⟨rfl,rfl,rfl,rfl⟩;rw [e0.1] at b11;rw [e0.2.1] at b12;rw [e0.2.2.1] at b13;rw [e0.2.2.2] at b14;unfold Sv.camp at cv;simp only [e0.1,e0.2.1,e0.2.2.2] at cv;clear e0;go_wp2_with fail;refine (uh cv).mono ?_;rintro e x7 ⟨r,st',o',rfl,hD7,hK7,ht7⟩;rcases hK7.way with ⟨rfl,hdead,rfl,-⟩|⟨-,-,-,k4⟩;case inr=>exact absurd k4 (by simp [Dk.fresh])
 have cl:=hide (hD7.load (by omega) hdead);have hC7:=hide ((uh D6).lie ht7 (uh hC2) (by decide));have L7:=hide ((uh D6).lists ht7 (uh L6));have B7:Hid (w.grownBy x7 none):=(Dk.still (Turn.new (uh G6)) ht7 (uh lo).1 (uh lo).2).grownBy;have heq:∀d wx,(Op.equalIn (d+2) 31 (.agg #[.bool false,.bool false,.bool true,.bool false]) (.agg #[.bool false,.bool false,.bool true,.bool false])).run Tryz.prog wx=.ok true wx:=fun d wx=>run_equal_seats d (fun j=>decide (j=2)) (fun j=>decide (j=2)) wx;clear cv hD7 hK7 ht7 hdead D6 L6 hC2 G6 b0 b1 b2 b3 b4 b5 b6 b7 b8 b9 b10 b11 b12 b13 b14;go_wp2_with fail;refine (uh cl).mono ?_;rintro e x8 ⟨hg8,v,rfl,jC,jE,jI,dC,dE,dI,hv,-,-,-,-,hL8⟩;obtain rfl:v=.agg #[.int .i64 (S.s 0),.int .i64 (S.s 1),.int .i64 (S.s 2),.int .i64 (S.s 3),.slice (some ⟨jC,0,none⟩) 384 dC,.slice (some ⟨jE,0,none⟩) 32 dE,.slice (some ⟨jI,0,none⟩) 40 dI,.int .i64 (S.g 0),.int .i64 (S.g 1),.int .i64 (S.g 2),.int .i64 (S.g 3),.bool false,.bool false,.bool true,.bool false]:=hv;obtain ⟨x9,hx9⟩:∃x,x=x8.alloc (.cells #[.int .i64 (S.s 0),.int .i64 (S.s 1),.int .i64 (S.s 2),.int .i64 (S.s 3),.slice (some ⟨jC,0,none⟩) 384 dC,.slice (some ⟨jE,0,none⟩) 32 dE,.slice (some ⟨jI,0,none⟩) 40 dI,.int .i64 (S.g 0),.int .i64 (S.g 1),.int .i64 (S.g 2),.int .i64 (S.g 3),.bool false,.bool false,.bool true,.bool false] 33):=⟨_,rfl⟩;have hg9:x8.grownBy x9 none:=by rw [hx9];exact World.grownBy_alloc _ _ _
 have hE:Lie x9 x8.heap.size 33 15 (Sv.box S.s jC jE jI dC dE dI S.g (fun j=>decide (j=2))):=by rw [hx9];exact Sv.camp_lie (s:=S.s) (g:=S.g) (t:=fun j=>decide (j=2)) (heap_alloc_new x8 _)
 obtain ⟨⟨b0,b1,b2,b3,b4,b5,b6,b7,b8,b9,b10⟩,b11,b12,b13,b14⟩:=Sv.fifteen ((uh hC7).on (gtr hg8 hg9));obtain ⟨⟨a0,a1,a2,a3,a4,a5,a6,a7,a8,a9,a10⟩,a11,a12,a13,a14⟩:=Sv.fifteen hE;have e0:decide ((0:Nat)=2)=false∧decide ((1:Nat)=2)=false∧decide ((2:Nat)=2)=true∧decide ((3:Nat)=2)=false:=⟨rfl,rfl,rfl,rfl⟩;rw [e0.1] at b11 a11;rw [e0.2.1] at b12 a12;rw [e0.2.2.1] at b13 a13;rw [e0.2.2.2] at b14 a14;have cq:=hide (same7_any S.s S.g S.c S.E S.I jC jE jI dC dE dI gC gE gI cC cE cI x9 (hL8.on hg9) ((uh L7).on (gtr hg8 hg9)));have B9:=hide (gtr (uh B7) (gtr hg8 hg9));unfold Gd.world at cq;clear cl hg8 hg9 hE hL8 e0 L7 hC7 B7;go_upto_region 9 with fail;rw [←hx9];clear hx9;obtain ⟨B8,hB8⟩:∃B,x8.heap.size=B:=⟨_,rfl⟩;rw [hB8] at a0 a1 a2 a3 a4 a5 a6 a7 a8 a9 a10 a11 a12 a13 a14;rw [hB8];clear hB8 x8;go_wp2_with fail;refine (uh cq).mono ?_;rintro e x10 ⟨rfl,hg10⟩;have hfin:=hide (gtr (uh B9) hg10);clear cq hg10 a0 a1 a2 a3 a4 a5 a6 a7 a8 a9 a10 a11 a12 a13 a14 b0 b1 b2 b3 b4 b5 b6 b7 b8 b9 b10 b11 b12 b13 b14;go_wp2;go_ret;exact ⟨rfl,uh hfin⟩

end Go.Proofs.YtldgbkjceildfaaGreat
