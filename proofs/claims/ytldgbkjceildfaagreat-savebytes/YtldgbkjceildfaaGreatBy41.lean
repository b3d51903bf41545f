import Derived.Test.YtldgbkjceildfaaGreatBy39
import Derived.Test.YtldgbkjceildfaaGreatBy40
namespace Go.Proofs.YtldgbkjceildfaaGreat
open Go.RowKit

theorem Sv.free_fr (f:Int→List Int):Sv.fr (Sv.mark f)=(Sv.free f:Int):=by
 unfold Sv.fr Sv.free;split <;> rfl

theorem Sv.free_is (f:Int→List Int):Sv.free f=1∨Sv.free f=20:=by
 unfold Sv.free;split
 ·exact .inr rfl
 ·exact .inl rfl

def Sv.saves (cnt:Nat) (s:Dk.St) (l:List Int):Int × Dk.St :=
 if s.dead=true then (11,s) else if (Sv.put cnt s (Sv.free s.f) (Sv.pcs l 15)).1=0 then Sv.put cnt (Sv.put cnt s (Sv.free s.f) (Sv.pcs l 15)).2 (0:Nat) (Sv.pcs [(Sv.free s.f:Int)] 1) else Sv.put cnt s (Sv.free s.f) (Sv.pcs l 15)

theorem Sv.put_one {cnt:Nat} {s:Dk.St} {a:Nat} {p:List Int} (hd:s.dead=false) (ha:a<cnt) (hp:p.length=64) (h:(Sv.put cnt s a [p]).1≠0):(Sv.put cnt s a [p]).2.f=s.f:=by
 unfold Sv.put at h ⊢;rcases Sv.wr_is cnt s a p hd ha hp with ⟨h0,e⟩|⟨h0,e⟩
 ·rw [e,if_neg (by simp)]
 ·rw [e,if_pos rfl] at h;exact absurd rfl h

structure Sv.Saved (s:Dk.St) (l:List Int) (r:Int × Dk.St):Prop where
 low:s.done≤r.2.done
 high:r.2.done≤s.done+16
 left:r.2.left≤9223372036854775807
 way:(r.1=0∧r.2.dead=false∧Sv.tells r.2.f=some l∧(s.left<0→r.2.left<0))∨(r.1=11∧r.2.dead=true∧Sv.tells r.2.f=Sv.tells s.f∧0≤s.left)

theorem Sv.saves_dead (cnt:Nat) (s:Dk.St) (l:List Int) (h:s.dead=true):Sv.saves cnt s l=(11,s):=if_pos h

theorem Sv.saved {cnt:Nat} {s:Dk.St} {l:List Int} (hd:s.dead=false) (hl:s.left≤9223372036854775807) (hc:40≤cnt) (h9:l.length=919):Sv.Saved s l (Sv.saves cnt s l):=by
 have hfr:=Sv.free_is s.f;have h1:=Sv.puts cnt (Sv.pcs l 15) s (Sv.free s.f) hd hl (by rw [Sv.pcs_len];omega) Sv.pcs_each;unfold Sv.saves;rw [if_neg (by rw [hd];decide)];obtain ⟨r,hr⟩:∃r,Sv.put cnt s (Sv.free s.f) (Sv.pcs l 15)=r:=⟨_,rfl⟩;rw [hr] at h1 ⊢;clear hr;have l15:=Sv.pcs_len l 15;have hlow:=h1.low;have hhigh:=h1.high;rw [l15] at hhigh;have hel:=h1.else_;rw [l15] at hel;rcases h1.way with ⟨e0,e1,e2,e3⟩|⟨e0,e1,e2⟩
 ·rw [if_pos e0];have h2:=Sv.puts cnt (Sv.pcs [(Sv.free s.f:Int)] 1) r.2 0 e1 h1.left (by rw [Sv.pcs_len];omega) Sv.pcs_each;obtain ⟨q,hq⟩:∃q,Sv.put cnt r.2 ((0:Nat):Int) (Sv.pcs [(Sv.free s.f:Int)] 1)=q:=⟨_,rfl⟩;rw [hq] at h2 ⊢;have l1:=Sv.pcs_len [(Sv.free s.f:Int)] 1;have hlow2:=h2.low;have hhigh2:=h2.high;rw [l1] at hhigh2;have hel2:=h2.else_;rw [l1] at hel2;refine ⟨by omega,by omega,h2.left,?_⟩;rcases h2.way with ⟨g0,g1,g2,g3⟩|⟨g0,g1,g2⟩
  ·refine .inl ⟨g0,g1,?_,fun h=>g3 (e3 h)⟩;refine Sv.tells_new h9 hfr (fun i hi=>?_) ?_
   ·rw [e2 i (by rw [l15];exact hi),hel2 _ (by omega)]
   ·have q0:=g2 0 (by rw [l1];decide);have hz:((0:Nat):Int)+((0:Nat):Int)=0:=rfl;rw [hz] at q0;exact (Option.some.inj q0).symm
  ·refine .inr ⟨g0,g1,?_,?_⟩
   ·have hs:∀m:Int,m≠0→q.2.f m=r.2.f m:=fun m hm=>hel2 m (by omega);have hz:q.2.f 0=r.2.f 0:=by
     have hne:(Sv.put cnt r.2 ((0:Nat):Int) (Sv.pcs [(Sv.free s.f:Int)] 1)).1≠0:=by rw [hq,g0];decide
     have hone:=Sv.put_one e1 (by omega) (Sv.pcs_each (l:=[(Sv.free s.f:Int)]) (c:=1) (Sv.pad (Sv.pc [(Sv.free s.f:Int)] 0)) (List.mem_singleton.2 rfl)) hne;rw [←hq];exact congrFun hone 0
    refine (Sv.tells_stays (f:=s.f) (g:=q.2.f) ?_ (fun m hm=>?_))
    ·rw [hz,hel 0 (by omega)]
    ·by_cases e:m=0
     ·subst e;rw [hz,hel 0 (by omega)]
     ·rw [hs m e,hel m (by omega)]
   ·by_cases hn:s.left<0
    ·have:=e3 hn;omega
    ·omega
 ·rw [if_neg (by rw [e0];decide)];refine ⟨hlow,by omega,h1.left,.inr ⟨e0,e1,Sv.tells_stays (hel 0 (by omega)) (fun m hm=>hel m (by omega)),e2⟩⟩

theorem Sv.src_head {x:World} {q k c:Nat} {l:List Int} (h:Ck.Src x (.slice (some ⟨q,0,none⟩) k c) l) (h0:0<l.length):x.cell? ⟨q,0,none⟩=some (.int .u8 (Sn.fn l 0)):=by
 rcases h with ⟨e,_⟩|⟨ad,cap,e,hc⟩
 ·cases e
 ·simp only [Value.slice.injEq,Option.some.injEq] at e;obtain ⟨rfl,-,-⟩:=e;have h:=hc 0 (.int .u8 (Sn.fn l 0)) (by unfold Ck.bys;rw [List.getElem?_map,Sn.fn_at h0];rfl);rw [Go.WideShapes.add_plain] at h;exact h

def Sv.saveR (cnt:Nat) (s:Dk.St) (r:Int) (l:List Int):Int × Dk.St:=if cnt<40 then (5,s) else if r≠0 then (r,s) else Sv.saves cnt s l

set_option maxRecDepth 16000 in
set_option maxHeartbeats 6400000 in
theorem svSave_any (base p bm cnt:Nat) (st:Dk.St) (s g c:Nat→Int) (E I:Nat→Nat→Int) (t:Nat→Bool) (r:Int) (gC gE gI cC cE cI:Nat) (w:World) (H:Dk.Mine w base p bm cnt st) (hleft:st.left≤9223372036854775807) (hdone:st.done≤1073741824) (hL:Gd.Lists w gC gE gI c E I) (hc:∀i,0≤c i∧c i≤255) (hcE:32≤cE) (hr:Sn.Chk s g c E I r) :
  Calls Tryz.prog 19 #[.pointer (some ⟨p,0,none⟩),.agg (Sv.camp s gC gE gI cC cE cI g t)] w fun e w'=>e=.returned (.int .i64 (Sv.saveR cnt st r (Sv.seats t 4 :: Sn.bytes s g c E I)).1)∧Dk.Mine w' base p bm cnt (Sv.saveR cnt st r (Sv.seats t 4 :: Sn.bytes s g c E I)).2∧Turn (fun k=>k=p∨k=bm) w w':=by
 obtain ⟨w0,hw0⟩:∃w0,w0=w.alloc (.cells (Sv.camp s gC gE gI cC cE cI g t) 33):=⟨_,rfl⟩;have hg0:w.grownBy w0 none:=by rw [hw0];exact World.grownBy_alloc _ _ _
 have hB:Hid (Lie w0 w.heap.size 33 15 (Sv.box s gC gE gI cC cE cI g t)):=by
  show Lie w0 _ _ _ _;rw [hw0];exact Sv.camp_lie (heap_alloc_new w _)
 have H0:=hide (H.on hg0);have cs:=hide (dkSectors_any base p bm cnt st.f st.done st.left st.dead w0 (H.on hg0));have ce:=hide (svEncode_any s g c E I t gC gE gI cC cE cI w0 (hL.on hg0) hc hcE);have hfew:=hide H.most;have HG:=hide hg0;have HR:=hide hr;have HL:=hide hleft;have HD:=hide hdone;clear hg0 hL hc hcE hr H hleft hdone;obtain ⟨D,hD⟩:∃D:Ending→World→Prop,D=fun e w'=>e=.returned (.int .i64 (Sv.saveR cnt st r (Sv.seats t 4 :: Sn.bytes s g c E I)).1)∧Dk.Mine w' base p bm cnt (Sv.saveR cnt st r (Sv.seats t 4 :: Sn.bytes s g c E I)).2∧Turn (fun k=>k=p∨k=bm) w w':=⟨_,rfl⟩;rw [←hD];have hpost:Hid (∀(a:Int × Dk.St) x,Sv.saveR cnt st r (Sv.seats t 4 :: Sn.bytes s g c E I)=a→Dk.Mine x base p bm cnt a.2→Turn (fun k=>k=p∨k=bm) w x→D (.returned (.int .i64 a.1)) x):=fun a x h1 h2 h3=>by
  rw [hD];subst h1;exact ⟨rfl,h2,h3⟩
 clear hD;unfold Sv.camp at hw0 ce ⊢;by_cases hn:cnt<40
 ·have hn':(cnt:Int)<40:=by omega
  have e5:=hide (uh hpost (5,st) w0 (if_pos hn) (uh H0) (Turn.new (uh HG)));clear hn ce;go_enter Tryz.func19,Tryz.ntmps19;go_upto_region 1 with fail;rw [←hw0];clear hw0;go_wp2_with fail;refine (uh cs).mono ?_;rintro e wq ⟨rfl,hq⟩;obtain rfl:w0=wq:=hq.symm;go_wp2;first | exact uh e5 | (go_ret;exact uh e5)
 ·have hn':¬(cnt:Int)<40:=by omega
  have HN:=hide hn;clear hn;obtain ⟨b,hbe⟩:∃b,w.heap.size=b:=⟨_,rfl⟩;have HBe:=hide hbe;go_enter Tryz.func19,Tryz.ntmps19;go_upto_region 1 with fail;rw [←hw0];clear hw0;rw [hbe] at hB;clear hbe;obtain ⟨⟨b0,b1,b2,b3,b4,b5,b6,b7,b8,b9,b10⟩,b11,b12,b13,b14⟩:=Sv.fifteen (uh hB);go_wp2_with fail;refine (uh cs).mono ?_;rintro e wq ⟨rfl,hq⟩;obtain rfl:w0=wq:=hq.symm;clear cs hq;go_wp2_with fail;refine (uh ce).mono ?_;rintro e w1 ⟨r',hr',hcase⟩;obtain rfl:r=r':=hr'.one (uh HR);clear ce b0 b1 b2 b3 b4 b5 b6 b7 b8 b9 b10 b11 b12 b13 b14;rcases hcase with ⟨h0,rfl,hg1⟩|⟨rfl,G,cap,rfl,hbuf⟩
  ·have h0':(r != 0)=true:=by simp [h0]
   have hfin:=hide (uh hpost (r,st) w1 (by unfold Sv.saveR;rw [if_neg (uh HN),if_pos h0]) ((uh H0).on hg1) (Turn.new (gtr (uh HG) hg1)));clear hg1 hr' h0;go_wp2;first | exact uh hfin | (go_ret;exact uh hfin)
  ·have HB:=hide hbuf;have hG:Hid (G≠p∧G≠bm):=by
    have h1:=(uh H0).box.lt;have h2:=(uh H0).ltb;have h3:=hbuf.low;exact ⟨by omega,by omega⟩
   have M1:=hide ((uh H0).on hbuf.grown);have hg1:=hide (gtr (uh HG) hbuf.grown);obtain ⟨l,hl⟩:∃l,Sv.seats t 4 :: Sn.bytes s g c E I=l:=⟨_,rfl⟩;rw [hl] at HB hpost;have hpo:Hid (∀(a:Int × Dk.St) x,Sv.saves cnt st l=a→Dk.Mine x base p bm cnt a.2→Turn (fun k=>k=p∨k=bm) w x→D (.returned (.int .i64 a.1)) x):=fun a x h1 h2 h3=>uh hpost a x (by unfold Sv.saveR;rw [if_neg (uh HN),if_neg (by simp)];exact h1) h2 h3;clear hpost hbuf hr' hB H0 HG HR;cases hdd:st.dead with
   | true =>
    have cr:=hide (dkRead_dead base p bm cnt st.f st.done st.left 0 w1 (by have h:=uh M1;unfold Dk.Mine at h;rw [hdd] at h;exact h));go_wp2_with fail;refine (uh cr).mono ?_;rintro e wq ⟨rfl,hq⟩;obtain rfl:w1=wq:=hq.symm;have hfin:=hide (uh hpo (11,st) w1 (Sv.saves_dead _ _ _ hdd) (uh M1) (Turn.new (uh hg1)));clear cr hq;go_wp2;first | exact uh hfin | (go_ret;exact uh hfin)
   | false =>
    have cr:=hide (dkRead_ok base p bm cnt st.f st.done st.left 0 w1 (by have h:=uh M1;unfold Dk.Mine at h;rw [hdd] at h;exact h) (by have:=uh HN;unfold Dk.has;simp;omega));go_wp2_with fail;refine (uh cr).mono ?_;rintro e w2 ⟨q,rfl,hsrc,hq,hg2⟩;have u0:w2.cell? ⟨q,0,none⟩=some (.int .u8 (Sv.mark st.f)):=Sv.src_head hsrc (by rw [Dk.Own.sect (uh M1) 0];decide);have cp:=svPlaces_any (Sv.mark st.f) w2;rw [Sv.free_fr] at cp;have hfr:=hide (Sv.free_is st.f);have M2:=hide ((uh M1).on hg2);have B2:=hide ((uh HB).on hg2);have G2:=hide (gtr (uh hg1) hg2);have CP:=hide cp;obtain ⟨mk,hmk⟩:∃m,Sv.mark st.f=m:=⟨_,rfl⟩;rw [hmk] at u0 CP;clear cr cp hsrc hq hg2 M1 HB hg1 hmk;go_wp2_with fail;refine (uh CP).mono ?_;rintro e wq ⟨rfl,hq⟩;obtain rfl:w2=wq:=hq.symm;clear CP hq u0;have hl919:Hid (l.length=919):=by show _=_;rw [←hl,List.length_cons,Sn.bytes_len]
    have M2h:=(uh M2);have c1:=hide (svPut_any base p bm cnt (Sv.free st.f) G 0 cap 15 st l w2 (uh M2) (by have:=uh hl919;omega) (by have:=uh hl919;omega) (by have:=(uh B2).caps;have:=uh hl919;omega) (by have h:=(uh B2).caps.2;unfold maxLen at h;omega) (by have:=uh hl919;omega) (by have:=uh hl919;omega) (fun j hj=>by rw [Nat.zero_add];exact (uh B2).cell (by have:=uh hl919;omega)) (uh hG).1 (uh hG).2 (by have:=uh hfr;omega) (uh HL) (by have:=uh HD;omega));rw [uh hl919] at c1;obtain ⟨r1,hr1⟩:∃r1,Sv.put cnt st (Sv.free st.f) (Sv.pcs l 15)=r1:=⟨_,rfl⟩;rw [hr1] at c1;obtain ⟨fr,hfe⟩:∃fr,Sv.free st.f=fr:=⟨_,rfl⟩;rw [hfe] at c1 hfr;rw [hfe];have HR1:=hide hr1;have HFE:=hide hfe;clear M2h hr1 hfe;go_wp2_with fail;refine (uh c1).mono ?_;rintro e w3 ⟨rfl,hm3,ht3⟩;have T3:=hide ((Turn.new (B:=fun k=>k=p∨k=bm) (uh G2)).trans ht3 (fun _ _ q=>q));have M3:=hide hm3;clear c1 hm3 ht3 M2 B2 G2;by_cases h1:r1.1=0
    ·have hdead1:r1.2.dead=false∧r1.2.left≤9223372036854775807∧r1.2.done≤st.done+15:=by
      have h:=Sv.puts cnt (Sv.pcs l 15) st (Sv.free st.f) hdd (uh HL) (by rw [Sv.pcs_len];have:=Sv.free_is st.f;omega) Sv.pcs_each;rw [uh HR1] at h;have hh:=h.high;rw [Sv.pcs_len] at hh;rcases h.way with ⟨_,e1,_⟩|⟨e0,_⟩
      ·exact ⟨e1,h.left,hh⟩
      ·rw [h1] at e0;cases e0
     have hD1:=hide hdead1;have hfu:IntKind.u8.wrap (fr:Int)=(fr:Int):=by
      rw [IntKind.wrap_u8];have:=uh hfr;omega
     obtain ⟨w4,hw4⟩:∃x,w3.alloc (.cells #[.int .u8 (fr:Int)] 5)=x:=⟨_,rfl⟩;have hg4:w3.grownBy w4 none:=by rw [←hw4];exact World.grownBy_alloc _ _ _
     obtain ⟨z,hz⟩:∃z,w3.heap.size=z:=⟨_,rfl⟩;have hcell:w4.cell? ⟨z,0,none⟩=some (.int .u8 (fr:Int)):=by
      rw [←hw4,←hz];exact (Arr.lit (heap_alloc_new w3 (.cells #[.int .u8 (fr:Int)] 5))).cell (i:=0) (by show 0<1;decide)
     have c2:=hide (svPut_any base p bm cnt 0 z 0 1 1 r1.2 [(fr:Int)] w4 ((uh M3).on hg4) (by show 0<1;decide) (by show 1≤1048576;decide) (by show 1≤1;decide) (by decide) (by show 64*1<1+64;decide) (by show 1≤64*1;decide) (fun j hj=>by
      have hj':j<1:=hj;obtain rfl:j=0:=by omega
      exact hcell) (by have:=(uh M3).box.lt;omega) (by have:=(uh M3).ltb;omega) (by decide) (uh hD1).2.1 (by have:=(uh hD1).2.2;have:=uh HD;omega))
     have T4:=hide ((uh T3).then hg4);obtain ⟨r2,hr2⟩:∃r2,Sv.put cnt r1.2 ((0:Nat):Int) (Sv.pcs [(fr:Int)] 1)=r2:=⟨_,rfl⟩;rw [hr2] at c2;have hsv:Sv.saves cnt st l=r2:=by
      unfold Sv.saves;rw [if_neg (by rw [hdd];decide),uh HR1,if_pos h1,uh HFE,hr2]
     have hfin:=hide (uh hpo r2);have HSV:=hide hsv;have c3:Hid (Calls Tryz.prog 33 #[.pointer (some ⟨p,0,none⟩),.int .i64 0,.slice (some ⟨z,0,none⟩) 1 1] w4 fun e w'=>e=.returned (.int .i64 r2.1)∧Dk.Mine w' base p bm cnt r2.2∧Turn (fun k=>k=p∨k=bm) w4 w'):=uh c2;clear hdead1 c2 hcell hg4 hr2 hsv hpo M3 T3 hdd hl;go_wp2_with fail;refine (uh c3).mono ?_;rintro e w5 ⟨rfl,hm5,ht5⟩;have hdone:=hide (uh hfin w5 (uh HSV) hm5 ((uh T4).trans ht5 (fun _ _ q=>q)));clear c3 hm5 ht5 hfin T4 hw4 hz;go_wp2;first | exact uh hdone | (go_ret;exact uh hdone)
    ·have h1':(r1.1 != 0)=true:=by simp [h1]
     have hsv:Sv.saves cnt st l=r1:=by
      unfold Sv.saves;rw [if_neg (by rw [hdd];decide),uh HR1,if_neg h1]
     have hfin:=hide (uh hpo r1 w3 hsv (uh M3) (uh T3));clear hpo M3 T3 hsv h1 hl;go_wp2;first | exact uh hfin | (go_ret;exact uh hfin)


open Go.RowKit

def Sv.Loads (cnt:Nat) (s:Dk.St) (C:Sv.C) (w:World) (e:Ending) (w':World):Prop :=
 (cnt<40∧e=.returned (.tuple #[.agg Sv.void,.int .i64 5])∧w.grownBy w' none) ∨
 (40≤cnt∧s.dead=true∧e=.returned (.tuple #[.agg Sv.void,.int .i64 11])∧w.grownBy w' none) ∨
 (40≤cnt∧s.dead=false∧Sv.tells s.f=none∧e=.returned (.tuple #[.agg Sv.void,.int .i64 2])∧w.grownBy w' none) ∨
 (40≤cnt∧s.dead=false∧Sv.tells s.f=some C.bytes∧C.Ok∧∃v,e=.returned (.tuple #[v,.int .i64 0])∧Sv.Has w w' v C∧w.grownBy w' none)

set_option maxRecDepth 16000 in
set_option maxHeartbeats 12800000 in
theorem svLoad_any (base p bm cnt:Nat) (st:Dk.St) (w:World) (H:Dk.Mine w base p bm cnt st) (C:Sv.C) (hC:∀l,Sv.tells st.f=some l→C.Ok∧l=C.bytes) :
  Calls Tryz.prog 20 #[.pointer (some ⟨p,0,none⟩)] w (Sv.Loads cnt st C w):=by
 obtain ⟨w0,hw0⟩:∃w0,w0=w.alloc (.cells Sv.void 33):=⟨_,rfl⟩;have hg0:w.grownBy w0 none:=by rw [hw0];exact World.grownBy_alloc _ _ _
 obtain ⟨P,hP⟩:∃P,w.heap.size=P:=⟨_,rfl⟩;have hR:Lie w0 P 33 15 Sv.voids:=by
  rw [hw0,←hP];exact Sv.void_lie w
 have HP:=hide hP;have HG:=hide hg0;have HR:=hide hR;have H0:=hide (H.on hg0);have hfew:=hide H.most;have cs:=hide (dkSectors_any base p bm cnt st.f st.done st.left st.dead w0 (H.on hg0));have hend:Hid (∀x,w0.grownBy x none→∀vs,w.grownBy (x.setCells P 0 vs) none):=fun x hx vs=>own_sets (by omega) vs 0 x (gtr hg0 hx);obtain ⟨D,hD⟩:∃D,D=Sv.Loads cnt st C w:=⟨_,rfl⟩;rw [←hD];have HD:=hide hD;clear hg0 hP hR H hD;unfold Sv.void at hw0;by_cases hn:cnt<40
 ·have hn':(cnt:Int)<40:=by omega
  have fz:=(uh HR).free;obtain ⟨z0,z1,z2,z3,z4,z5,z6,z7,z8,z9,z10,z11,z12,z13,z14⟩:=Sv.void_cells (uh HR);have HN:=hide hn;clear hn;go_enter Tryz.func20,Tryz.ntmps20;go_upto_region 1 with fail;rw [←hw0,uh HP];clear hw0;go_wp2_with fail;refine (uh cs).mono ?_;rintro e wq ⟨rfl,hq⟩;obtain rfl:w0=wq:=hq.symm;clear cs hq;go_wp2;refine bodyPost_ret (v:=.tuple #[.agg Sv.void,.int .i64 5]) (by simp [results,Tryz.results20,go_sem,Sv.void,z0,z1,z2,z3,z4,z5,z6,z7,z8,z9,z10,z11,z12,z13,z14]) rfl ?_;rw [uh HD];exact .inl ⟨uh HN,rfl,uh hend _ (World.grownBy.refl _ _) [_,_,_,_,_,_,_,_,_,_,_,_,_,_,_]⟩
 ·have hn':¬(cnt:Int)<40:=by omega
  have HN:Hid (40≤cnt):=(show 40≤cnt by omega);clear hn;cases hdd:st.dead with
  | true =>
   have fz:=(uh HR).free;obtain ⟨z0,z1,z2,z3,z4,z5,z6,z7,z8,z9,z10,z11,z12,z13,z14⟩:=Sv.void_cells (uh HR);have cr:=hide (dkRead_dead base p bm cnt st.f st.done st.left 0 w0 (by have h:=uh H0;unfold Dk.Mine at h;rw [hdd] at h;exact h));have HDD:=hide hdd;clear hdd;go_enter Tryz.func20,Tryz.ntmps20;go_upto_region 1 with fail;rw [←hw0,uh HP];clear hw0;go_wp2_with fail;refine (uh cs).mono ?_;rintro e wq ⟨rfl,hq⟩;obtain rfl:w0=wq:=hq.symm;clear cs hq;go_wp2_with fail;refine (uh cr).mono ?_;rintro e wq ⟨rfl,hq⟩;obtain rfl:w0=wq:=hq.symm;clear cr hq;go_wp2;refine bodyPost_ret (v:=.tuple #[.agg Sv.void,.int .i64 11]) (by simp [results,Tryz.results20,go_sem,Sv.void,z0,z1,z2,z3,z4,z5,z6,z7,z8,z9,z10,z11,z12,z13,z14]) rfl ?_;rw [uh HD];exact .inr (.inl ⟨uh HN,uh HDD,rfl,uh hend _ (World.grownBy.refl _ _) [_,_,_,_,_,_,_,_,_,_,_,_,_,_,_]⟩)
  | false =>
   have cr:=hide (dkRead_ok base p bm cnt st.f st.done st.left 0 w0 (by have h:=uh H0;unfold Dk.Mine at h;rw [hdd] at h;exact h) (by have:=uh HN;unfold Dk.has;simp;omega));have HDD:=hide hdd;go_enter Tryz.func20,Tryz.ntmps20;go_upto_region 1 with fail;rw [←hw0,uh HP];clear hw0;go_wp2_with fail;refine (uh cs).mono ?_;rintro e wq ⟨rfl,hq⟩;obtain rfl:w0=wq:=hq.symm;clear cs hq;go_wp2_with fail;refine (uh cr).mono ?_;rintro e w2 ⟨q,rfl,hsrc,hq,hg2⟩;have u0:w2.cell? ⟨q,0,none⟩=some (.int .u8 (Sv.mark st.f)):=Sv.src_head hsrc (by rw [Dk.Own.sect (uh H0) 0];decide);have CP:=hide (svPlaces_any (Sv.mark st.f) w2);have M2:=hide ((uh H0).on hg2);have G2:=hide hg2;have R2:=hide ((uh HR).on hg2);have htl:Sv.tells st.f=if Sv.mark st.f=1 then some (Sv.at st.f 1) else if Sv.mark st.f=20 then some (Sv.at st.f 20) else none:=rfl
   obtain ⟨mk,hmk2⟩:∃m,Sv.mark st.f=m:=⟨_,rfl⟩;rw [hmk2] at u0 CP htl;clear cr hsrc hq hg2 hdd HR H0 hmk2;have HTL:=hide htl;clear htl;go_wp2_with fail;refine (uh CP).mono ?_;rintro e wq ⟨rfl,hq⟩;obtain rfl:w2=wq:=hq.symm;clear CP hq u0;by_cases hc:Sv.cnts mk=0
   ·have hno:Sv.tells st.f=none:=by
     rw [uh HTL];unfold Sv.cnts at hc;by_cases h1:mk=1
     ·rw [if_pos h1] at hc;cases hc
     ·rw [if_neg h1] at hc ⊢;by_cases h2:mk=20
      ·rw [if_pos h2] at hc;cases hc
      ·rw [if_neg h2]
    have HNO:=hide hno;have hc':(Sv.cnts mk == 0)=true:=by simp [hc]
    have fz:=(uh R2).free;obtain ⟨z0,z1,z2,z3,z4,z5,z6,z7,z8,z9,z10,z11,z12,z13,z14⟩:=Sv.void_cells (uh R2);clear hno hc;go_wp2;refine bodyPost_ret (v:=.tuple #[.agg Sv.void,.int .i64 2]) (by simp [results,Tryz.results20,go_sem,Sv.void,z0,z1,z2,z3,z4,z5,z6,z7,z8,z9,z10,z11,z12,z13,z14]) rfl ?_;rw [uh HD];exact .inr (.inr (.inl ⟨uh HN,uh HDD,uh HNO,rfl,uh hend _ (uh G2) [_,_,_,_,_,_,_,_,_,_,_,_,_,_,_]⟩))
   ·obtain ⟨a,ha,hat,ha2⟩:∃a:Nat,Sv.cnts mk=(a:Int)∧Sv.tells st.f=some (Sv.at st.f a)∧(a=1∨a=20):=by
     rw [uh HTL];unfold Sv.cnts at hc ⊢;by_cases h1:mk=1
     ·exact ⟨1,by rw [if_pos h1];rfl,by rw [if_pos h1];rfl,.inl rfl⟩
     ·rw [if_neg h1] at hc;by_cases h2:mk=20
      ·exact ⟨20,by rw [if_neg h1,if_pos h2];rfl,by rw [if_neg h1,if_pos h2];rfl,.inr rfl⟩
      ·rw [if_neg h2] at hc;exact absurd rfl hc
    have cg:=hide (svGet_any base p bm cnt a st w2 (uh M2) (uh HDD) (by have:=uh HN;omega) (uh hfew) (by rw [(hC _ hat).2];exact (hC _ hat).1.bytes));have hc':((a:Int) == 0)=false:=by simp;omega
    have HAT:=hide hat;rw [ha];clear hc ha hat ha2;go_wp2_with fail;refine (uh cg).mono ?_;rintro e w3 ⟨G,cap,rfl,hbuf⟩;obtain ⟨l,hl⟩:∃l,Sv.at st.f a=l:=⟨_,rfl⟩;rw [hl] at HAT hbuf;obtain ⟨hok,hlc⟩:=hC l (uh HAT);rw [hlc] at HAT hbuf;have HOK:=hide hok;have cd:=hide (svDecode_is hok hbuf);have R3:=hide ((uh R2).on hbuf.grown);have G3:=hide (gtr (uh G2) hbuf.grown);clear cg hbuf hl R2 M2 hok hlc;go_wp2_with fail;refine (uh cd).mono ?_;rintro e w4 ⟨v,rfl,⟨gC,gE,gI,cC,cE,cI,rfl,k0,k1,k2,k3,hL⟩,hg4⟩;have G4:=hide (gtr (uh G3) hg4);have R4:=(uh R3).on hg4;have fz:=R4.free;obtain ⟨z0,z1,z2,z3,z4,z5,z6,z7,z8,z9,z10,z11,z12,z13,z14⟩:=Sv.void_cells R4;have hfin:Hid (∀vs,D (.returned (.tuple #[.agg (Sv.camp C.s gC gE gI cC cE cI C.g C.t),.int .i64 0])) (w4.setCells P 0 vs)):=fun vs=>by
     rw [uh HD];have hs:w.heap.size≤w3.heap.size:=by
      have h1:=(uh G3).size;have h2:=uh hend w0 (World.grownBy.refl _ _) [];have h3:=h2.size;simp only [World.setCells] at h3;omega
     refine .inr (.inr (.inr ⟨uh HN,uh HDD,uh HAT,uh HOK,_,rfl,⟨gC,gE,gI,cC,cE,cI,rfl,k0,by omega,by omega,by omega,?_⟩,uh hend _ (uh G4) vs⟩));exact ⟨hL.cells.others (R4.type_ne hL.cells (by decide)) _ _,hL.ents.others (R4.type_ne hL.ents (by decide)) _ _,hL.items.others (R4.type_ne hL.items (by decide)) _ _⟩
    clear hg4 cd k0 k1 k2 k3 hL R4 R3;unfold Sv.camp at hfin ⊢;go_wp2;refine bodyPost_ret (v:=.tuple #[.agg #[.int .i64 (C.s 0),.int .i64 (C.s 1),.int .i64 (C.s 2),.int .i64 (C.s 3),.slice (some ⟨gC,0,none⟩) 384 cC,.slice (some ⟨gE,0,none⟩) 32 cE,.slice (some ⟨gI,0,none⟩) 40 cI,.int .i64 (C.g 0),.int .i64 (C.g 1),.int .i64 (C.g 2),.int .i64 (C.g 3),.bool (C.t 0),.bool (C.t 1),.bool (C.t 2),.bool (C.t 3)],.int .i64 0]) (by simp [results,Tryz.results20,go_sem,z0,z1,z2,z3,z4,z5,z6,z7,z8,z9,z10,z11,z12,z13,z14]) rfl ?_;exact uh hfin [_,_,_,_,_,_,_,_,_,_,_,_,_,_,_]

end Go.Proofs.YtldgbkjceildfaaGreat
