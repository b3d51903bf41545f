import Derived.Test.YtldgbkjceildfaaGreatBy25
import Derived.Laws.Bits64b
import Derived.BigRegion
namespace Go.Proofs.YtldgbkjceildfaaGreat
open Go.RowKit

theorem make918:∃Z:Array Value,Z.size=918∧∀w:World,(Instr.makeSlice 24 (.int .i64 0) (.int .i64 918)).run Tryz.prog w=.ok (.slice (some ⟨w.heap.size,0,none⟩) 0 918) (w.alloc (.cells Z 5)):=by
 obtain ⟨i0,hi,hz0,hz1,hz2⟩:=info_parts info_byte;refine ⟨madeCells (Value.int .u8 0).cells (918*1),by rw [size_madeCells],fun w=>?_⟩;have hr:=run_make (P:=Tryz.prog) w 24 5 i0 _ Tryz.underlying24 hi hz0 .i64 .i64 (0:Nat) (918:Nat) (by omega) (by omega) (by rw [hz2];decide) (by decide);rw [hz1] at hr;exact hr

theorem Sn.wrap64 (x:Int):IntKind.u64.wrap x=x % 18446744073709551616:=IntKind.wrap_u64 x

theorem Sn.wrap8 (x:Int):IntKind.u8.wrap x=x % 256:=IntKind.wrap_u8 x

structure Sn.Wr (w x:World) (base:Nat) (v:Value) (l:List Int):Prop where
 own:Sn.Bytes x base v l
 bel:Below base w x

theorem Sn.Wr.top {w x:World} {base:Nat} {v:Value} {l:List Int} (h:Sn.Wr w x base v l) (hb:base≤w.heap.size):base≤x.heap.size:=Nat.le_trans hb h.bel.size

theorem Sn.Wr.more {w x y x':World} {base m:Nat} {v v':Value} {l ns:List Int} (h:Sn.Wr w x base v l) (hb:base≤w.heap.size) (hxy:x.grownBy y none) (hown:x'.ownsRow base 5 1 v' (l.length+m) (List.map (Value.int .u8) l ++ ns.map (Value.int .u8))) (hm:ns.length=m) (hg:y.grownBy x' v.ownBlock):Sn.Wr w x' base v' (l ++ ns):=by
 refine ⟨?_,?_⟩
 ·unfold Sn.Bytes;rw [List.length_append,hm,List.map_append];exact hown
 ·have hb1:Below base x y:=Sn.below hxy (fun k e=>by cases e) (h.top hb);have hb2:=Sn.below hg (fun k e=>(h.own.lt k e).1) (Nat.le_trans (h.top hb) hb1.size);exact h.bel.trans (hb1.trans hb2)

theorem Sn.Wr.on {w x y:World} {base:Nat} {v:Value} {l:List Int} (h:Sn.Wr w x base v l) (hb:base≤w.heap.size) (hg:x.grownBy y none):Sn.Wr w y base v l :=
 ⟨h.own.on hg,h.bel.trans (Sn.below hg (fun k e=>by cases e) (h.top hb))⟩

theorem Sn.Wr.adds {w x x':World} {base:Nat} {v v':Value} {l l':List Int} (h:Sn.Wr w x base v l) (hown:Sn.Bytes x' base v' l') (hb:Below base x x'):Sn.Wr w x' base v' l':=⟨hown,h.bel.trans hb⟩

theorem Sn.cells_src {w:World} {G:Nat} {c:Nat→Int} (h:Lie w G 5 384 (Byts c)):∀j u,(((List.range 384).map c).map (Value.int .u8))[j]?=some u→w.cell? ((⟨G,0,none⟩:Addr).add j)=some u:=by
 intro j u hj;have hlt:j<384:=by
  have:=(List.getElem?_eq_some_iff.1 hj).1;simpa using this
 rw [show (⟨G,0,none⟩:Addr).add j=⟨G,j,none⟩ by rw [Go.WideShapes.add_plain,Nat.zero_add],h.cell hlt];rw [List.getElem?_map,List.getElem?_map,List.getElem?_range hlt] at hj;exact hj

theorem Sn.news (w:World) (arr:Array Value) (T:TypeId) (B:Nat) (hB:B=w.heap.size):∀j u,arr.toList[j]?=some u→(w.alloc (.cells arr T)).cell? ((⟨B,0,none⟩:Addr).add j)=some u:=by
 subst hB;intro j u hj;have hlt:j<arr.size:=by
  have:=(List.getElem?_eq_some_iff.1 hj).1;simpa using this
 rw [show (⟨w.heap.size,0,none⟩:Addr).add j=⟨w.heap.size,j,none⟩ by rw [Go.WideShapes.add_plain,Nat.zero_add],(Arr.lit (heap_alloc_new w (.cells arr T))).cell hlt];rw [Array.getElem?_toList] at hj;rw [hj];rfl

set_option maxRecDepth 16000 in
set_option maxHeartbeats 6400000 in
theorem written_any (s g c:Nat→Int) (E I:Nat→Nat→Int) (gC gE gI cC cE cI:Nat) (w:World) (hL:Gd.Lists w gC gE gI c E I) :
  Calls Tryz.prog 53 #[.agg (Gd.world s gC gE gI cC cE cI g)] w fun e w'=>∃v,e=.returned v∧Sn.Bytes w' w.heap.size v (Sn.bytes s g c E I)∧w.grownBy w' none:=by
 obtain ⟨w0,hw0⟩:∃w0,w0=w.alloc (.cells (Gd.world s gC gE gI cC cE cI g) 30):=⟨_,rfl⟩;have hg0:w.grownBy w0 none:=by rw [hw0];exact World.grownBy_alloc _ _ _
 have hO:Hid (Sn.Shown w w0 w.heap.size gC gE gI cC cE cI s g c E I):=by
  refine ⟨?_,hL.on hg0,hg0⟩;rw [hw0];exact (Arr.world (heap_alloc_new w _)).lie
 obtain ⟨base,hbase⟩:∃base,w0.heap.size=base:=⟨_,rfl⟩;have HB:Hid (base=w.heap.size+1):=by
  show base=w.heap.size+1;rw [←hbase,hw0];simp
 have HG0:=hide hg0;have HB0:Hid (base≤w0.heap.size):=(show base≤w0.heap.size by omega);obtain ⟨i0,hi,hz0,hz1,hz2⟩:=info_parts info_byte;obtain ⟨Z,hZ,hmk⟩:=make918;have hW0:Hid (∀x,x=w0.alloc (.cells Z 5)→Sn.Wr w0 x base (.slice (some ⟨base,0,none⟩) 0 918) []):=fun x hx=>by
  subst hx;rw [←hbase];exact ⟨World.ownsRow_made w0 Z 918 (Nat.le_refl _) (by decide) (by rw [hZ]),Sn.below (World.grownBy_alloc w0 _ none) (fun k e=>by cases e) (Nat.le_refl _)⟩
 have lE:=hide (And.intro hL.cells.lt (And.intro hL.ents.lt hL.items.lt));have hlists:Hid (∀x,Below base w0 x→Lie x w.heap.size 30 11 (Gd.box s gC gE gI cC cE cI g)∧Gd.Lists x gC gE gI c E I):=fun x hx=>by
  have:=uh HB;obtain ⟨l1,l2,l3⟩:=uh lE;exact ⟨(uh hO).box.below hx (by omega),(uh hO).lists.below hx (by omega) (by omega) (by omega)⟩
 have cN:=hide (fun (n:Nat) (x:Int) (v:Value) (l:List Int) (y:World) (hn:n≤8) (h:Sn.Bytes y base v l) (hb:base≤y.heap.size) (hl:l.length≤1000)=>withNumber_any n base x v l y hn h hb hl);clear hL hg0 hZ;unfold Gd.world at hw0 ⊢;go_enter Tryz.func53,Tryz.ntmps53;go_upto_region 1 with fail;rw [←hw0];clear hw0;obtain ⟨B,hBe⟩:∃B,w.heap.size=B:=⟨_,rfl⟩;rw [hBe] at hlists ⊢;clear hO hBe;go_upto_region 2 with fail;have hW1:=hide (uh hW0 _ rfl);clear hW0 hmk;generalize w0.alloc (.cells Z 5)=w1 at hW1 ⊢;obtain ⟨b0,b1,b2,b3,b4,b5,b6,b7,b8,b9,b10⟩:=(uh hlists w1 (uh hW1).bel).1.eleven;go_wp2_with fail;refine (uh cN 8 _ _ [] _ (by omega) (uh hW1).own ((uh hW1).top (uh HB0)) (by simp)).mono ?_;rintro e w2 ⟨v2,rfl,hown,hbel⟩;have hW2:=hide ((uh hW1).adds hown hbel);rw [List.nil_append,Sn.wrap64] at hW2;clear hown hbel hW1 b0 b1 b2 b3 b4 b5 b6 b7 b8 b9 b10;have b1:=(uh hlists w2 (uh hW2).bel).1.eleven.2.1;go_wp2_with fail;refine (uh cN 4 _ _ _ _ (by omega) (uh hW2).own ((uh hW2).top (uh HB0)) (by rw [Sn.num_len];omega)).mono ?_;rintro e w3 ⟨v3,rfl,hown,hbel⟩;have hW3:=hide ((uh hW2).adds hown hbel);rw [Sn.wrap64] at hW3;clear hown hbel hW2 b1;obtain ⟨b0,b1,b2,b3,b4,b5,b6,b7,b8,b9,b10⟩:=(uh hlists w3 (uh hW3).bel).1.eleven;have t2:IntKind.u8.wrap (s 2)=s 2 % 256:=Sn.wrap8 _;have t3:IntKind.u8.wrap (s 3)=s 3 % 256:=Sn.wrap8 _;go_wp2_with (at_builtin;refine wpList_append_own _ rfl _ _ 24 rfl base 5 i0 (.int .u8 0) 1 1 Tryz.underlying24 hi hz0 hz1 hz2 rfl (by decide) _ _ _ rfl ((uh hW3).own.alloc _) ⟨w3.heap.size,0,none⟩ 2 2 [.int .u8 (s 2 % 256),.int .u8 (s 3 % 256)] rfl rfl (Sn.news w3 #[.int .u8 (s 2 % 256),.int .u8 (s 3 % 256)] _ _ rfl) ?_ ?_ ?_ ?_ ?_)
 ·intro u hu;simp only [List.mem_cons,List.not_mem_nil,or_false] at hu;rcases hu with rfl|rfl <;> rfl
 ·simp [Sn.num_len];unfold maxLen;omega
 ·simp [Sn.num_len]
 ·have:=(uh hW3).top (uh HB0);simp;omega
 intro v4 w4 hown hgrow _;have hW4:Hid (Sn.Wr w0 w4 base v4 (Sn.head s)):=(uh hW3).more (m:=2) (ns:=[s 2 % 256,s 3 % 256]) (uh HB0) (World.grownBy_alloc _ _ _) (by simpa using hown) rfl hgrow;clear hown hgrow hW3 b0 b1 b2 b3 b4 b5 b6 b7 b8 b9 b10 t2 t3;obtain ⟨b0,b1,b2,b3,b4,b5,b6,b7,b8,b9,b10⟩:=(uh hlists w4 (uh hW4).bel).1.eleven;go_wp2_with fail
 go_loopw [3,32] (fun v3 v32 wr=>∃k:Nat,k≤4∧v32=.int .i64 (k:Int)∧Hid (Sn.Wr w0 wr base v3 (Sn.head s ++ Sn.golds k g))) (fun _ v32 _=>10 - (intOf v32).toNat)
 case atStart=>exact ⟨0,by omega,rfl,by simpa [Sn.golds] using hW4⟩
 case round =>
  clear hW4 b0 b1 b2 b3 b4 b5 b6 b7 b8 b9 b10;obtain ⟨k,hk,rfl,hX⟩:=hrel;have hlen:Hid ((Sn.head s ++ Sn.golds k g).length=14+k*2):=by show (Sn.head s ++ Sn.golds k g).length=_;rw [List.length_append,Sn.head_len,Sn.golds_len]
  by_cases hlt:k<4
  ·have hlt':(k:Int)<4:=by omega
   have HL:=hide hlt;have hix:=fun x=>run_index_gold g k hlt x;clear hlt hk;go_wp2_with fail;refine (uh cN 2 _ _ _ _ (by omega) (uh hX).own ((uh hX).top (uh HB0)) (by have:=uh hlen;have:=uh HL;omega)).mono ?_;rintro e w5 ⟨v5,rfl,hown,hbel⟩;have hX2:=hide ((uh hX).adds hown hbel);rw [Sn.wrap64,List.append_assoc,←Sn.golds_more] at hX2;clear hown hbel hX hix hlen;go_wp2;go_roundw;case rel=>exact ⟨k+1,by have:=uh HL;omega,by go_num,hX2⟩
   case measure=>simp [intOf];have:=uh HL;omega
  ·obtain rfl:k=4:=by omega
   have hge:¬((4:Nat):Int)<4:=by omega
   clear hlt hk;have b4:=(uh hlists wr (uh hX).bel).1.eleven.2.2.2.2.1;go_upto_region 10 with fail;go_wp2_with (at_builtin;refine wpList_append_own _ rfl _ _ 24 rfl base 5 i0 (.int .u8 0) 1 1 Tryz.underlying24 hi hz0 hz1 hz2 rfl (by decide) _ _ _ rfl (uh hX).own ⟨gC,0,none⟩ 384 cC (((List.range 384).map c).map (Value.int .u8)) rfl (by simp) (Sn.cells_src (uh hlists wr (uh hX).bel).2.cells) ?_ ?_ ?_ ?_ ?_)
   ·intro u hu;obtain ⟨x,_,rfl⟩:=List.mem_map.1 hu;rfl
   ·have:=Sn.head_len s;have:=Sn.golds_len g 4;unfold maxLen;omega
   ·have:=Sn.head_len s;have:=Sn.golds_len g 4;omega
   ·exact (uh hX).top (uh HB0)
   intro v6 w6 hown hgrow _;have hW6:Hid (Sn.Wr w0 w6 base v6 (Sn.head s ++ Sn.golds 4 g ++ (List.range 384).map c)):=(uh hX).more (m:=384) (uh HB0) (World.grownBy.refl _ _) hown (by simp) hgrow;clear hown hgrow hX b4 hlen hge;have b5:=(uh hlists w6 (uh hW6).bel).1.eleven.2.2.2.2.2.1;go_upto_region 11 with fail;go_wp2_with fail
   go_loopw [3,7,47] (fun v3 v7 v47 wr=>∃k:Nat,k≤32∧v47=.int .i64 (k:Int)∧Hid (Sn.Wr w0 wr base v3 (Sn.head s ++ Sn.golds 4 g ++ (List.range 384).map c ++ Sn.rows k 11 E))) (fun _ _ v47 _=>40 - (intOf v47).toNat)
   case atStart=>exact ⟨0,by omega,rfl,by simpa [Sn.rows] using hW6⟩
   case round =>
    clear hW6 b5;obtain ⟨k,hk,rfl,hX⟩:=hrel;have hlen:Hid ((Sn.head s ++ Sn.golds 4 g ++ (List.range 384).map c ++ Sn.rows k 11 E).length=406+k*11):=by show (Sn.head s ++ Sn.golds 4 g ++ (List.range 384).map c ++ Sn.rows k 11 E).length=_;rw [List.length_append,Sn.len22,Sn.rows_len]
    by_cases hlt:k<32
    ·have hlt':(k:Int)<32:=by omega
     have HL:=hide hlt;obtain ⟨r0,r1,r2,r3,r4,r5,r6,r7,r8,r9,r10⟩:=(uh hlists wr (uh hX).bel).2.own.ents.row hlt;clear hlt hk;obtain ⟨l,hl⟩:∃l,Sn.head s ++ Sn.golds 4 g ++ (List.range 384).map c ++ Sn.rows k 11 E=l:=⟨_,rfl⟩;rw [hl] at hX hlen;have hl':=hide hl;clear hl;go_upto_region 14 with fail;obtain ⟨wd,hwd⟩:∃wd,wd=wr.alloc (.cells (En.cells (E k)) 70):=⟨_,rfl⟩;have hgd:wr.grownBy wd none:=by rw [hwd];exact World.grownBy_alloc _ _ _
     have hD:Hid (Lie wd wr.heap.size 70 11 (Ints (E k))):=by show Lie wd _ _ _ _;rw [hwd];exact Sn.born wr (E k) 70
     have hXd:=hide ((uh hX).on (uh HB0) hgd);unfold En.cells at hwd;rw [←hwd];clear hwd hgd hX r0 r1 r2 r3 r4 r5 r6 r7 r8 r9 r10;obtain ⟨D,hDe⟩:∃D,wr.heap.size=D:=⟨_,rfl⟩;rw [hDe] at hD ⊢;clear hDe wr;obtain ⟨d0,d1,d2,d3,d4,d5,d6,d7,d8,d9,d10⟩:=Sn.row (uh hD);have tw:∀j,IntKind.u8.wrap (E k j)=E k j % 256:=fun j=>Sn.wrap8 _;go_wp2_with (at_builtin;refine wpList_append_own _ rfl _ _ 24 rfl base 5 i0 (.int .u8 0) 1 1 Tryz.underlying24 hi hz0 hz1 hz2 rfl (by decide) _ _ _ rfl ((uh hXd).own.alloc _) ⟨wd.heap.size,0,none⟩ 11 11 (#[.int .u8 (E k 0 % 256),.int .u8 (E k 1 % 256),.int .u8 (E k 2 % 256),.int .u8 (E k 3 % 256),.int .u8 (E k 4 % 256),.int .u8 (E k 5 % 256),.int .u8 (E k 6 % 256),.int .u8 (E k 7 % 256),.int .u8 (E k 8 % 256),.int .u8 (E k 9 % 256),.int .u8 (E k 10 % 256)]:Array Value).toList rfl rfl (Sn.news wd _ _ _ rfl) ?_ ?_ ?_ ?_ ?_)
     ·exact ⟨rfl,rfl,rfl,rfl,rfl,rfl,rfl,rfl,rfl,rfl,rfl⟩
     ·have:=uh hlen;have:=uh HL;unfold maxLen;omega
     ·have:=uh hlen;have:=uh HL;omega
     ·have:=(uh hXd).top (uh HB0);simp;omega
     intro v8 w8 hown hgrow _;have hX2:Hid (Sn.Wr w0 w8 base v8 (l ++ (List.range 11).map fun j=>E k j % 256)):=(uh hXd).more (m:=11) (uh HB0) (World.grownBy_alloc _ _ _) hown (by simp) hgrow;rw [←uh hl',List.append_assoc,←Sn.rows_more] at hX2;clear hown hgrow hXd hD d0 d1 d2 d3 d4 d5 d6 d7 d8 d9 d10 tw hlen;go_wp2;go_roundw;case rel=>exact ⟨k+1,by have:=uh HL;omega,by go_num,hX2⟩
     case measure=>simp [intOf];have:=uh HL;omega
    ·obtain rfl:k=32:=by omega
     have hge:¬((32:Nat):Int)<32:=by omega
     clear hlt hk;have b6:=(uh hlists wr (uh hX).bel).1.eleven.2.2.2.2.2.2.1;go_upto_region 16 with fail;go_wp2_with fail
     go_loopw [3,9,91] (fun v3 v9 v91 wr=>∃k:Nat,k≤40∧v91=.int .i64 (k:Int)∧Hid (Sn.Wr w0 wr base v3 (Sn.head s ++ Sn.golds 4 g ++ (List.range 384).map c ++ Sn.rows 32 11 E ++ Sn.rows k 4 I))) (fun _ _ v91 _=>50 - (intOf v91).toNat)
     case atStart=>exact ⟨0,by omega,rfl,by simpa [Sn.rows] using hX⟩
     case round =>
      clear hX b6 hge hlen;obtain ⟨k,hk,rfl,hX⟩:=hrel;have hlen:Hid ((Sn.head s ++ Sn.golds 4 g ++ (List.range 384).map c ++ Sn.rows 32 11 E ++ Sn.rows k 4 I).length=758+k*4):=by show (Sn.head s ++ Sn.golds 4 g ++ (List.range 384).map c ++ Sn.rows 32 11 E ++ Sn.rows k 4 I).length=_;rw [List.length_append,Sn.len406,Sn.rows_len]
      by_cases hlt:k<40
      ·have hlt':(k:Int)<40:=by omega
       have HL:=hide hlt;obtain ⟨r0,r1,r2,r3⟩:=(uh hlists wr (uh hX).bel).2.its.row hlt;clear hlt hk;obtain ⟨l,hl⟩:∃l,Sn.head s ++ Sn.golds 4 g ++ (List.range 384).map c ++ Sn.rows 32 11 E ++ Sn.rows k 4 I=l:=⟨_,rfl⟩;rw [hl] at hX hlen;have hl':=hide hl;clear hl;go_upto_region 19 with fail;obtain ⟨wd,hwd⟩:∃wd,wd=wr.alloc (.cells (Gd.cells (I k)) 72):=⟨_,rfl⟩;have hgd:wr.grownBy wd none:=by rw [hwd];exact World.grownBy_alloc _ _ _
       have hD:Hid (Lie wd wr.heap.size 72 4 (fun j=>(Gd.cells (I k))[j]?.getD undef)):=by show Lie wd _ _ _ _;rw [hwd];exact (Arr.lit (heap_alloc_new wr _)).lie
       have hXd:=hide ((uh hX).on (uh HB0) hgd);unfold Gd.cells at hwd;rw [←hwd];clear hwd hgd hX r0 r1 r2 r3;obtain ⟨D,hDe⟩:∃D,wr.heap.size=D:=⟨_,rfl⟩;rw [hDe] at hD ⊢;clear hDe wr;have d0:wd.cell? ⟨D,0,none⟩=some (.int .i64 (I k 0)):=(uh hD).cell (c:=0) (by omega);have d1:wd.cell? ⟨D,1,none⟩=some (.int .i64 (I k 1)):=(uh hD).cell (c:=1) (by omega);have d2:wd.cell? ⟨D,2,none⟩=some (.int .i64 (I k 2)):=(uh hD).cell (c:=2) (by omega);have d3:wd.cell? ⟨D,3,none⟩=some (.int .i64 (I k 3)):=(uh hD).cell (c:=3) (by omega);have tw:∀j,IntKind.u8.wrap (I k j)=I k j % 256:=fun j=>Sn.wrap8 _;go_wp2_with (at_builtin;refine wpList_append_own _ rfl _ _ 24 rfl base 5 i0 (.int .u8 0) 1 1 Tryz.underlying24 hi hz0 hz1 hz2 rfl (by decide) _ _ _ rfl ((uh hXd).own.alloc _) ⟨wd.heap.size,0,none⟩ 4 4 (#[.int .u8 (I k 0 % 256),.int .u8 (I k 1 % 256),.int .u8 (I k 2 % 256),.int .u8 (I k 3 % 256)]:Array Value).toList rfl rfl (Sn.news wd _ _ _ rfl) ?_ ?_ ?_ ?_ ?_)
       ·exact ⟨rfl,rfl,rfl,rfl⟩
       ·have:=uh hlen;have:=uh HL;unfold maxLen;omega
       ·have:=uh hlen;have:=uh HL;omega
       ·have:=(uh hXd).top (uh HB0);simp;omega
       intro v8 w8 hown hgrow _;have hX2:Hid (Sn.Wr w0 w8 base v8 (l ++ (List.range 4).map fun j=>I k j % 256)):=(uh hXd).more (m:=4) (uh HB0) (World.grownBy_alloc _ _ _) hown (by simp) hgrow;rw [←uh hl',List.append_assoc,←Sn.rows_more] at hX2;clear hown hgrow hXd hD d0 d1 d2 d3 tw hlen;go_wp2;go_roundw;case rel=>exact ⟨k+1,by have:=uh HL;omega,by go_num,hX2⟩
       case measure=>simp [intOf];have:=uh HL;omega
      ·obtain rfl:k=40:=by omega
       have hge:¬((40:Nat):Int)<40:=by omega
       have hfin:Hid (∀v,Sn.Wr w0 wr base v (Sn.bytes s g c E I)→Sn.Bytes wr w.heap.size v (Sn.bytes s g c E I)∧w.grownBy wr none):=fun v hv=>by
        have e1:=uh HB;refine ⟨?_,?_⟩
        ·obtain ⟨h1,h2⟩:=hv.own;refine ⟨h1,?_⟩;rcases h2 with h2|⟨gg,cap,cur,h3,h4,h5⟩
         ·exact .inl h2
         ·exact .inr ⟨gg,cap,cur,h3,by omega,h5⟩
        ·exact below_grown (Sn.below_trans (none_below (uh HG0)) (hv.bel.mono (by omega)))
       clear hlt hk;go_wp2;go_ret;exact ⟨_,rfl,(uh hfin _ (uh hX)).1,(uh hfin _ (uh hX)).2⟩

def Sn.Encodes (w:World) (s g c:Nat→Int) (E I:Nat→Nat→Int) (e:Ending) (w':World):Prop :=
 ∃v r,e=.returned (.tuple #[v,.int .i64 r])∧Sn.Chk s g c E I r∧(r≠0→v=.slice none 0 0)∧(r=0→Sn.Bytes w' w.heap.size v (Sn.bytes s g c E I))∧w.grownBy w' none

theorem Sn.Bytes.mono {w:World} {base base':Nat} {v:Value} {l:List Int} (h:Sn.Bytes w base v l) (hb:base'≤base):Sn.Bytes w base' v l:=by
 obtain ⟨h1,h2⟩:=h;refine ⟨h1,?_⟩;rcases h2 with h2|⟨gg,cap,cur,h3,h4,h5⟩
 ·exact .inl h2
 ·exact .inr ⟨gg,cap,cur,h3,by omega,h5⟩

set_option maxRecDepth 8000 in
set_option maxHeartbeats 1600000 in
theorem encode_any (s g c:Nat→Int) (E I:Nat→Nat→Int) (gC gE gI cC cE cI:Nat) (w:World) (hL:Gd.Lists w gC gE gI c E I) (hc:∀i,0≤c i∧c i≤255) (hcE:32≤cE) :
  Calls Tryz.prog 25 #[.agg (Gd.world s gC gE gI cC cE cI g)] w (Sn.Encodes w s g c E I):=by
 obtain ⟨w0,hw0⟩:∃w0,w0=w.alloc (.cells (Gd.world s gC gE gI cC cE cI g) 30):=⟨_,rfl⟩;have hg0:w.grownBy w0 none:=by rw [hw0];exact World.grownBy_alloc _ _ _
 have hO:Hid (Sn.Shown w w0 w.heap.size gC gE gI cC cE cI s g c E I):=by
  refine ⟨?_,hL.on hg0,hg0⟩;rw [hw0];exact (Arr.world (heap_alloc_new w _)).lie
 have cc:=hide (fun x (hx:Gd.Lists x gC gE gI c E I)=>snCheck_any s g c E I gC gE gI cC cE cI x hx hc hcE);have cw:=hide (fun x (hx:Gd.Lists x gC gE gI c E I)=>written_any s g c E I gC gE gI cC cE cI x hx);clear hL hg0 hc hcE;unfold Gd.world at hw0 cc cw ⊢;go_enter Tryz.func25,Tryz.ntmps25;go_upto_region 1 with fail;rw [←hw0];clear hw0;obtain ⟨B,hBe⟩:∃B,w.heap.size=B:=⟨_,rfl⟩;rw [hBe] at hO ⊢;clear hBe;obtain ⟨b0,b1,b2,b3,b4,b5,b6,b7,b8,b9,b10⟩:=(uh hO).box.eleven;go_wp2_with fail;refine (uh cc _ (uh hO).lists).mono ?_;rintro e w1 ⟨r,rfl,hr,hg⟩;have hO1:=hide ((uh hO).on hg);have HR:=hide hr;clear hg hO cc b0 b1 b2 b3 b4 b5 b6 b7 b8 b9 b10 hr;by_cases h0:r=0
 ·have h0':(r != 0)=false:=by simp [h0]
  have H0:=hide h0;obtain ⟨b0,b1,b2,b3,b4,b5,b6,b7,b8,b9,b10⟩:=(uh hO1).box.eleven;clear h0;go_wp2_with fail;refine (uh cw _ (uh hO1).lists).mono ?_;rintro e w2 ⟨v,rfl,hown,hg⟩;have hfin:Hid (Sn.Encodes w s g c E I (.returned (.tuple #[v,.int .i64 0])) w2):=by
   have e:=uh HR;rw [uh H0] at e;exact ⟨v,0,rfl,e,fun h=>absurd rfl h,fun _=>hown.mono (uh hO1).grown.size,gtr (uh hO1).grown hg⟩
  clear hown hg b0 b1 b2 b3 b4 b5 b6 b7 b8 b9 b10 hO1 cw;go_wp2;go_ret2;exact uh hfin
 ·have h0':(r != 0)=true:=by simp [h0]
  have hfin:Hid (Sn.Encodes w s g c E I (.returned (.tuple #[.slice none 0 0,.int .i64 r])) w1):=⟨_,r,rfl,uh HR,fun _=>rfl,fun h=>absurd h h0,(uh hO1).grown⟩;clear h0;go_wp2;go_ret2;exact uh hfin


open Go.RowKit

structure Sn.Rd (x:World) (R G o k:Nat):Prop where
 cell:∃p C,Lie x R 137 1 (fun _=>.slice (some ⟨G,p,none⟩) (918 - k) C)∧(k<918→p=o+k)∧918 - k≤C∧C≤9223372036854775807

theorem Sn.Rd.on {x y:World} {R G o k:Nat} (h:Sn.Rd x R G o k) (hg:x.grownBy y none):Sn.Rd y R G o k:=by
 obtain ⟨p,C,hl,h1,h2,h3⟩:=h.cell;exact ⟨p,C,hl.on hg,h1,h2,h3⟩

theorem Sn.Rd.other {x:World} {R G o k:Nat} (h:Sn.Rd x R G o k) {q:Nat} (hq:q≠R) (i:Nat) (u:Value):Sn.Rd (x.setCell ⟨q,i,none⟩ u) R G o k:=by
 obtain ⟨p,C,hl,h1,h2,h3⟩:=h.cell;exact ⟨p,C,hl.other hq i u,h1,h2,h3⟩

theorem Sn.Rd.others {x:World} {R G o k:Nat} (h:Sn.Rd x R G o k) {q:Nat} (hq:q≠R) (i:Nat) (vs:List Value):Sn.Rd (x.setCells q i vs) R G o k:=by
 obtain ⟨p,C,hl,h1,h2,h3⟩:=h.cell;exact ⟨p,C,hl.others hq i vs,h1,h2,h3⟩

def Sn.Goes (x:World) (R G o k n:Nat) (e:Ending) (x':World):Prop :=
 ∃u C,e=.returned (.slice (some ⟨G,o+k,none⟩) n C)∧n≤C∧x'=x.setCell ⟨R,0,none⟩ u∧Sn.Rd x' R G o (k+n)

set_option maxRecDepth 8000 in
set_option maxHeartbeats 1600000 in
theorem snNext_any (R G o k n:Nat) (x:World) (hR:Sn.Rd x R G o k) (h0:0<n) (hn:k+n≤918) :
  Calls Tryz.prog 94 #[.pointer (some ⟨R,0,none⟩),.int .i64 (n:Int)] x (Sn.Goes x R G o k n):=by
 obtain ⟨p,C,hl,h1,h2,h3⟩:=hR.cell;have hp:p=o+k:=h1 (by omega);obtain ⟨L,hL⟩:∃L,L=918 - k:=⟨_,rfl⟩;rw [←hL] at hl h2;have r0:x.cell? ⟨R,0,none⟩=some (.slice (some ⟨G,p,none⟩) L C):=hl.cell (c:=0) (by omega);have fR:=hl.free;have q1:¬(n:Int)<0:=by omega
 have q2:(n:Int)≤(C:Int):=by omega
 have q3:(n:Int)≤(L:Int):=by omega
 have hfin:Hid (∀q,(k+n<918→q=o+(k+n))→Sn.Goes x R G o k n (.returned (.slice (some ⟨G,p,none⟩) n C)) (x.setCell ⟨R,0,none⟩ (.slice (some ⟨G,q,none⟩) (L - n) (C - n)))):=fun q hq=>by
  refine ⟨_,C,by rw [hp],by omega,rfl,⟨q,C - n,?_,hq,by omega,by omega⟩⟩;refine (hl.store 0 (.slice (some ⟨G,q,none⟩) (L - n) (C - n))).congr fun c hc=>?_;obtain rfl:c=0:=by omega
  rw [if_pos rfl,show 918 - (k+n)=L - n by omega]
 clear hR hl;by_cases hz:C - n=0
 ·have hf:=hide (uh hfin p (fun h=>by omega));rw [hz] at hf;clear hL hfin h1 hp;go_enter Tryz.func94,Tryz.ntmps94;go_wp2;go_ret;exact uh hf
 ·have hf:=hide (uh hfin (p+n) (fun _=>by omega));clear hL hfin h1 hp;go_enter Tryz.func94,Tryz.ntmps94;go_wp2;go_ret;exact uh hf

structure Sn.Src (x:World) (G o:Nat) (F:Nat→Int):Prop where
 lt:G<x.heap.size
 cell:∀i,i<918→x.cell? ⟨G,o+i,none⟩=some (.int .u8 (F i))
 byte:∀i,0≤F i∧F i≤255

theorem Sn.Src.on {x y:World} {G o:Nat} {F:Nat→Int} {r:Option Nat} (h:Sn.Src x G o F) (hg:x.grownBy y r) (hr:r≠some G):Sn.Src y G o F :=
 ⟨Nat.lt_of_lt_of_le h.lt hg.size,fun i hi=>(gce hg G (o+i) h.lt hr).trans (h.cell i hi),h.byte⟩

theorem Sn.Src.set {x:World} {G o:Nat} {F:Nat→Int} (h:Sn.Src x G o F) {q:Nat} (hq:q≠G) (i:Nat) (u:Value):Sn.Src (x.setCell ⟨q,i,none⟩ u) G o F :=
 h.on (gs0 x q i u) (by simpa using hq)

theorem Sn.Src.sets {x:World} {G o:Nat} {F:Nat→Int} (h:Sn.Src x G o F) {q:Nat} (hq:q≠G) (p:Nat) (vs:List Value):Sn.Src (x.setCells q p vs) G o F :=
 h.on (gss vs p x (World.grownBy.refl _ _)) (by simpa using hq)

theorem Sn.Src.off {x:World} {G o:Nat} {F:Nat→Int} (h:Sn.Src x G o F) (k j:Nat) (hk:k+j<918):x.cell? ⟨G,o+k+j,none⟩=some (.int .u8 (F (k+j))):=by
 rw [Nat.add_assoc];exact h.cell (k+j) hk

theorem Sn.or_byte (v b:Int) (h0:0≤v) (h1:v<72057594037927936) (b0:0≤b) (b1:b≤255):bits BinOp.or IntKind.u64 (IntKind.u64.wrap (v*256)) b=v*256+b:=by
 obtain ⟨n,rfl⟩:∃n:Nat,v=(n:Int):=⟨v.toNat,by omega⟩;obtain ⟨m,rfl⟩:∃n:Nat,b=(n:Int):=⟨b.toNat,by omega⟩;rw [Sn.wrap64,show (n:Int)*256 % 18446744073709551616=((n*256:Nat):Int) by omega,bits_or_u64_nat (n*256) m (by omega) (by omega)];have h:n*2 ^ 8+m=n*2 ^ 8 ||| m:=by
  rw [←Nat.shiftLeft_eq];exact Nat.shiftLeft_add_eq_or_of_lt (by omega) n
 show ((n*2 ^ 8 ||| m:Nat):Int)=_;rw [←h];show ((n*256+m:Nat):Int)=_;omega

def Sn.Nums (x:World) (R G o k n:Nat) (v:Int) (e:Ending) (x':World):Prop :=
 ∃u,e=.returned (.int .u64 v)∧x'=x.setCell ⟨R,0,none⟩ u∧Sn.Rd x' R G o (k+n)

set_option maxRecDepth 8000 in
set_option maxHeartbeats 1600000 in
theorem snNumber_any (R G o k n:Nat) (F:Nat→Int) (x:World) (hR:Sn.Rd x R G o k) (hS:Sn.Src x G o F) (hRG:R≠G) (h0:0<n) (h8:n≤8) (hn:k+n≤918) :
  Calls Tryz.prog 92 #[.pointer (some ⟨R,0,none⟩),.int .i64 (n:Int)] x (Sn.Nums x R G o k n (Sn.be (Sn.cut F k n))):=by
 have cn:=hide (snNext_any R G o k n x hR h0 hn);have hS':=hide hS;have HRG:=hide hRG;have H8:=hide h8;have HN:=hide hn;clear hR hS hRG h0 h8 hn;go_enter Tryz.func92,Tryz.ntmps92;go_wp2_with fail;refine (uh cn).mono ?_;rintro e y ⟨u,C,rfl,hC,hy,hRd⟩;have hY:=hide (And.intro hy hRd);have hSy:Hid (Sn.Src y G o F):=by
  show Sn.Src y G o F;rw [hy];exact (uh hS').set (uh HRG) _ _
 obtain ⟨p,hp⟩:∃p,o+k=p:=⟨_,rfl⟩;have hcl:Hid (∀i,k+i<918→y.cell? ⟨G,p+i,none⟩=some (.int .u8 (F (k+i)))):=fun i hi=>by
  rw [←hp];exact (uh hSy).off k i hi
 rw [hp];clear cn hC hy hRd hS' hp;go_wp2_with fail
 go_loop [5,7,12] (fun v5 v7 v12=>∃i:Nat,i≤n∧v5=.int .u64 (Sn.be (Sn.cut F k i))∧v12=.int .i64 (i:Int)) (fun _ _ v12=>20 - (intOf v12).toNat)
 case atStart=>exact ⟨0,by omega,rfl,rfl⟩
 case round =>
  obtain ⟨i,hi,rfl,rfl⟩:=hrel;by_cases hlt:i<n
  ·have hlt':(i:Int)<(n:Int):=by omega
   have HL:=hide hlt;have hi8:(i:Int)<8:=by have:=uh H8;omega
   have u0:y.cell? ⟨G,p+i,none⟩=some (.int .u8 (F (k+i))):=uh hcl i (by have:=uh HN;omega);obtain ⟨v0,v1⟩:=Sn.be_bound i F k (fun j _=>(uh hSy).byte _);have v2:Sn.be (Sn.cut F k i)<72057594037927936:=by
    have h7:i≤7:=by have:=uh H8;omega
    have:(256:Int) ^ i≤256 ^ 7:=by
     rcases (show i=0∨i=1∨i=2∨i=3∨i=4∨i=5∨i=6∨i=7 by omega) with rfl|rfl|rfl|rfl|rfl|rfl|rfl|rfl <;> decide
    omega
   have hor:=Sn.or_byte (Sn.be (Sn.cut F k i)) (F (k+i)) v0 v2 ((uh hSy).byte _).1 ((uh hSy).byte _).2;have hmo:=hide (Sn.be_more (Sn.cut F k i) (F (k+i)));rw [←Sn.cut_more] at hmo;rw [←uh hmo] at hor;have hw:IntKind.u64.wrap (F (k+i))=F (k+i):=by
    rw [Sn.wrap64];have:=(uh hSy).byte (k+i);omega
   obtain ⟨X,hX⟩:∃X,Sn.be (Sn.cut F k i)=X:=⟨_,rfl⟩;rw [hX] at hor ⊢;clear hlt hi hX v0 v1 v2 hmo;go_wp2;go_round;case rel=>exact ⟨i+1,by have:=uh HL;omega,rfl,by go_num⟩
   case measure=>simp [intOf];have:=uh HL;have:=uh H8;omega
  ·obtain rfl:i=n:=by omega
   have hge:¬(i:Int)<(i:Int):=by omega
   have hfin:Hid (Sn.Nums x R G o k i (Sn.be (Sn.cut F k i)) (.returned (.int .u64 (Sn.be (Sn.cut F k i)))) y):=⟨u,rfl,(uh hY).1,(uh hY).2⟩;clear hlt hi;go_wp2;go_ret;exact uh hfin


open Go.RowKit

set_option maxRecDepth 8000 in
set_option maxHeartbeats 6400000 in
theorem itemOf_any (G o k C:Nat) (F:Nat→Int) (x:World) (hS:Sn.Src x G o F) (hk:k+4≤918) :
  Calls Tryz.prog 96 #[.slice (some ⟨G,o+k,none⟩) 4 C] x (Says x (.agg #[.int .i64 (F k),.int .i64 (F (k+1)),.int .i64 (F (k+2)),.int .i64 (F (k+3))])):=by
 obtain ⟨y,hy⟩:∃y,y=x.alloc (.cells #[.int .i64 0,.int .i64 0,.int .i64 0,.int .i64 0] 72):=⟨_,rfl⟩;have hg:Hid (x.grownBy y none):=by show x.grownBy y none;rw [hy];exact World.grownBy_alloc _ _ _
 have hR:Hid (Lie y x.heap.size 72 4 (fun _=>.int .i64 0)):=by
  show Lie y _ _ _ _;rw [hy];refine (Arr.lit (heap_alloc_new x _)).lie.congr fun c hc=>?_;have:c<4:=hc;rcases (show c=0∨c=1∨c=2∨c=3 by omega) with rfl|rfl|rfl|rfl <;> rfl
 have hSy:=hide (hS.on (uh hg) (by simp));have HK:=hide hk;obtain ⟨p,hp⟩:∃p,o+k=p:=⟨_,rfl⟩;have hoff:Hid (∀z,y.grownBy z none→∀j,k+j<918→z.cell? ⟨G,p+j,none⟩=some (.int .u8 (F (k+j)))):=fun z hz j hj=>by
  rw [←hp];exact ((uh hSy).on hz (by simp)).off k j hj
 rw [hp];clear hS hk hp;go_enter Tryz.func96,Tryz.ntmps96;go_upto_region 1 with fail;rw [←hy];clear hy;obtain ⟨B,hB⟩:∃B,x.heap.size=B:=⟨_,rfl⟩;have hBx:Hid (x.heap.size≤B):=(show x.heap.size≤B by omega);rw [hB] at hR ⊢;clear hB;have c0:y.cell? ⟨G,p,none⟩=some (.int .u8 (F k)):=uh hoff y (World.grownBy.refl _ _) 0 (by have:=uh HK;omega);have c1:=uh hoff y (World.grownBy.refl _ _) 1 (by have:=uh HK;omega);have c2:=uh hoff y (World.grownBy.refl _ _) 2 (by have:=uh HK;omega);have c3:=uh hoff y (World.grownBy.refl _ _) 3 (by have:=uh HK;omega);have tw:∀j,IntKind.i64.wrap (F j)=F j:=fun j=>by
  have:=(uh hSy).byte j;rw [IntKind.wrap_i64];omega
 have fR:=(uh hR).free;have z0:y.cell? ⟨B,0,none⟩=some (.int .i64 0):=(uh hR).cell (c:=0) (by omega);have z1:y.cell? ⟨B,1,none⟩=some (.int .i64 0):=(uh hR).cell (c:=1) (by omega);have z2:y.cell? ⟨B,2,none⟩=some (.int .i64 0):=(uh hR).cell (c:=2) (by omega);have z3:y.cell? ⟨B,3,none⟩=some (.int .i64 0):=(uh hR).cell (c:=3) (by omega);have hgo:Hid (∀l m,x.grownBy ((y.setCells B 0 l).drewN m) none):=fun l m=>gdw (own_sets (uh hBx) l 0 y (uh hg)) m
 go_region
 go_wp2;refine bodyPost_ret (v:=.agg #[.int .i64 (F k),.int .i64 (F (k+1)),.int .i64 (F (k+2)),.int .i64 (F (k+3))]) (by simp [results,Tryz.results96,go_sem,z0,z1,z2,z3]) rfl ?_;exact ⟨rfl,uh hgo [_,_,_,_] 1⟩

set_option maxRecDepth 8000 in
set_option maxHeartbeats 6400000 in
theorem entOf_any (G o k C:Nat) (F:Nat→Int) (x:World) (hS:Sn.Src x G o F) (hk:k+11≤918) :
  Calls Tryz.prog 95 #[.slice (some ⟨G,o+k,none⟩) 11 C] x (Says x (.agg #[.int .i64 (F k),.int .i64 (F (k+1)),.int .i64 (F (k+2)),.int .i64 (F (k+3)),.int .i64 (F (k+4)),.int .i64 (F (k+5)),.int .i64 (F (k+6)),.int .i64 (F (k+7)),.int .i64 (F (k+8)),.int .i64 (F (k+9)),.int .i64 (F (k+10))])):=by
 obtain ⟨y,hy⟩:∃y,y=x.alloc (.cells #[.int .i64 0,.int .i64 0,.int .i64 0,.int .i64 0,.int .i64 0,.int .i64 0,.int .i64 0,.int .i64 0,.int .i64 0,.int .i64 0,.int .i64 0] 70):=⟨_,rfl⟩;have hg:Hid (x.grownBy y none):=by show x.grownBy y none;rw [hy];exact World.grownBy_alloc _ _ _
 have hR:Hid (Lie y x.heap.size 70 11 (fun _=>.int .i64 0)):=by
  show Lie y _ _ _ _;rw [hy];refine (Arr.lit (heap_alloc_new x _)).lie.congr fun c hc=>?_;have:c<11:=hc;rcases (show c=0∨c=1∨c=2∨c=3∨c=4∨c=5∨c=6∨c=7∨c=8∨c=9∨c=10 by omega) with rfl|rfl|rfl|rfl|rfl|rfl|rfl|rfl|rfl|rfl|rfl <;> rfl
 have hSy:=hide (hS.on (uh hg) (by simp));have HK:=hide hk;obtain ⟨p,hp⟩:∃p,o+k=p:=⟨_,rfl⟩;have hoff:Hid (∀z,y.grownBy z none→∀j,k+j<918→z.cell? ⟨G,p+j,none⟩=some (.int .u8 (F (k+j)))):=fun z hz j hj=>by
  rw [←hp];exact ((uh hSy).on hz (by simp)).off k j hj
 rw [hp];clear hS hk hp;go_enter Tryz.func95,Tryz.ntmps95;go_upto_region 1 with fail;rw [←hy];clear hy;obtain ⟨B,hB⟩:∃B,x.heap.size=B:=⟨_,rfl⟩;have hBx:Hid (x.heap.size≤B):=(show x.heap.size≤B by omega);rw [hB] at hR ⊢;clear hB;have tw:∀j,IntKind.i64.wrap (F j)=F j:=fun j=>by
  have:=(uh hSy).byte j;rw [IntKind.wrap_i64];omega
 have fR:=(uh hR).free;have z0:y.cell? ⟨B,0,none⟩=some (.int .i64 0):=(uh hR).cell (c:=0) (by omega);have z1:y.cell? ⟨B,1,none⟩=some (.int .i64 0):=(uh hR).cell (c:=1) (by omega);have z2:y.cell? ⟨B,2,none⟩=some (.int .i64 0):=(uh hR).cell (c:=2) (by omega);have z3:y.cell? ⟨B,3,none⟩=some (.int .i64 0):=(uh hR).cell (c:=3) (by omega);have z4:y.cell? ⟨B,4,none⟩=some (.int .i64 0):=(uh hR).cell (c:=4) (by omega);have z5:y.cell? ⟨B,5,none⟩=some (.int .i64 0):=(uh hR).cell (c:=5) (by omega);have z6:y.cell? ⟨B,6,none⟩=some (.int .i64 0):=(uh hR).cell (c:=6) (by omega);have z7:y.cell? ⟨B,7,none⟩=some (.int .i64 0):=(uh hR).cell (c:=7) (by omega);have z8:y.cell? ⟨B,8,none⟩=some (.int .i64 0):=(uh hR).cell (c:=8) (by omega);have z9:y.cell? ⟨B,9,none⟩=some (.int .i64 0):=(uh hR).cell (c:=9) (by omega);have z10:y.cell? ⟨B,10,none⟩=some (.int .i64 0):=(uh hR).cell (c:=10) (by omega);have hgo:Hid (∀l m,x.grownBy ((y.setCells B 0 l).drewN m) none):=fun l m=>gdw (own_sets (uh hBx) l 0 y (uh hg)) m;have hS0:y.drew.cell? ⟨G,p,none⟩=some (.int .u8 (F k))∧y.drew.cell? ⟨G,p+1,none⟩=some (.int .u8 (F (k+1)))∧y.drew.cell? ⟨G,p+2,none⟩=some (.int .u8 (F (k+2)))∧y.drew.cell? ⟨G,p+3,none⟩=some (.int .u8 (F (k+3)))∧y.drew.cell? ⟨G,p+4,none⟩=some (.int .u8 (F (k+4)))∧y.drew.cell? ⟨G,p+5,none⟩=some (.int .u8 (F (k+5)))∧y.drew.cell? ⟨G,p+6,none⟩=some (.int .u8 (F (k+6)))∧y.drew.cell? ⟨G,p+7,none⟩=some (.int .u8 (F (k+7)))∧y.drew.cell? ⟨G,p+8,none⟩=some (.int .u8 (F (k+8)))∧y.drew.cell? ⟨G,p+9,none⟩=some (.int .u8 (F (k+9)))∧y.drew.cell? ⟨G,p+10,none⟩=some (.int .u8 (F (k+10))):=by
  have h:=fun j hj=>uh hoff _ (gd1 (World.grownBy.refl y none)) j hj;have hk:=uh HK;exact ⟨h 0 (by omega),h 1 (by omega),h 2 (by omega),h 3 (by omega),h 4 (by omega),h 5 (by omega),h 6 (by omega),h 7 (by omega),h 8 (by omega),h 9 (by omega),h 10 (by omega)⟩
 clear hSy hR hg hBx HK;refine wp_region_till (h:=45) (S:=fun x=>x.cell? ⟨G,p,none⟩=some (.int .u8 (F k))∧x.cell? ⟨G,p+1,none⟩=some (.int .u8 (F (k+1)))∧x.cell? ⟨G,p+2,none⟩=some (.int .u8 (F (k+2)))∧x.cell? ⟨G,p+3,none⟩=some (.int .u8 (F (k+3)))∧x.cell? ⟨G,p+4,none⟩=some (.int .u8 (F (k+4)))∧x.cell? ⟨G,p+5,none⟩=some (.int .u8 (F (k+5)))∧x.cell? ⟨G,p+6,none⟩=some (.int .u8 (F (k+6)))∧x.cell? ⟨G,p+7,none⟩=some (.int .u8 (F (k+7)))∧x.cell? ⟨G,p+8,none⟩=some (.int .u8 (F (k+8)))∧x.cell? ⟨G,p+9,none⟩=some (.int .u8 (F (k+9)))∧x.cell? ⟨G,p+10,none⟩=some (.int .u8 (F (k+10)))) (by kernel_rfl) ?_;refine wtj 0 (v:=?_) [45] rfl (by kernel_rfl) (fun _ _ _ h=>h) hS0 ⟨by rfl,?_⟩ ?_;rotate_left
 ·intro x hSx;try dsimp only at hSx
  go_simp;try with_reducible rfl
 simp only [Act.put];refine wtj 1 (v:=?_) [45] rfl (by kernel_rfl) (fun _ _ _ h=>h) hS0 ⟨by rfl,?_⟩ ?_;rotate_left
 ·intro x hSx;try dsimp only at hSx
  go_simp;try with_reducible rfl
 simp only [Act.put];refine wtj 2 (v:=?_) [45] rfl (by kernel_rfl) (fun _ _ _ h=>h) hS0 ⟨by rfl,?_⟩ ?_;rotate_left
 ·intro x hSx;try dsimp only at hSx
  go_simp;try with_reducible rfl
 simp only [Act.put];refine wtj 3 (v:=?_) [45] rfl (by kernel_rfl) (fun _ _ _ h=>h) hS0 ⟨by rfl,?_⟩ ?_;rotate_left
 ·intro x hSx;try dsimp only at hSx
  go_simp;try with_reducible rfl
 simp only [Act.put];refine wtj 4 (v:=?_) [45] rfl (by kernel_rfl) (fun _ _ _ h=>h) hS0 ⟨by rfl,?_⟩ ?_;rotate_left
 ·intro x hSx;try dsimp only at hSx
  go_simp;try with_reducible rfl
 simp only [Act.put];refine wtj 5 (v:=?_) [45] rfl (by kernel_rfl) (fun _ _ _ h=>h) hS0 ⟨by rfl,?_⟩ ?_;rotate_left
 ·intro x hSx;try dsimp only at hSx
  go_simp;try with_reducible rfl
 simp only [Act.put];refine wtj 6 (v:=?_) [45] rfl (by kernel_rfl) (fun _ _ _ h=>h) hS0 ⟨by rfl,?_⟩ ?_;rotate_left
 ·intro x hSx;try dsimp only at hSx
  go_simp;try with_reducible rfl
 simp only [Act.put];refine wtj 7 (v:=?_) [45] rfl (by kernel_rfl) (fun _ _ _ h=>h) hS0 ⟨by rfl,?_⟩ ?_;rotate_left
 ·intro x hSx;try dsimp only at hSx
  go_simp;try with_reducible rfl
 simp only [Act.put];refine wtj 8 (v:=?_) [45] rfl (by kernel_rfl) (fun _ _ _ h=>h) hS0 ⟨by rfl,?_⟩ ?_;rotate_left
 ·intro x hSx;try dsimp only at hSx
  go_simp;try with_reducible rfl
 simp only [Act.put];refine wtj 9 (v:=?_) [45] rfl (by kernel_rfl) (fun _ _ _ h=>h) hS0 ⟨by rfl,?_⟩ ?_;rotate_left
 ·intro x hSx;try dsimp only at hSx
  go_simp;try with_reducible rfl
 simp only [Act.put];refine wtj 10 (v:=?_) [45] rfl (by kernel_rfl) (fun _ _ _ h=>h) hS0 ⟨by rfl,?_⟩ ?_;rotate_left
 ·intro x hSx;try dsimp only at hSx
  go_simp;try with_reducible rfl
 simp only [Act.put];refine wtj 11 (v:=?_) [45] rfl (by kernel_rfl) (fun _ _ _ h=>h) hS0 ⟨by rfl,?_⟩ ?_;rotate_left
 ·intro x hSx;try dsimp only at hSx
  go_simp;try with_reducible rfl
 simp only [Act.put];refine wtj 12 (v:=?_) [45] rfl (by kernel_rfl) (fun _ _ _ h=>h) hS0 ⟨by rfl,?_⟩ ?_;rotate_left
 ·intro x hSx;try dsimp only at hSx
  go_simp;try with_reducible rfl
 simp only [Act.put];refine wtj 13 (v:=?_) [45] rfl (by kernel_rfl) (fun _ _ _ h=>h) hS0 ⟨by rfl,?_⟩ ?_;rotate_left
 ·intro x hSx;try dsimp only at hSx
  go_simp;try with_reducible rfl
 simp only [Act.put];refine wtj 14 (v:=?_) [45] rfl (by kernel_rfl) (fun _ _ _ h=>h) hS0 ⟨by rfl,?_⟩ ?_;rotate_left
 ·intro x hSx;try dsimp only at hSx
  go_simp;try with_reducible rfl
 simp only [Act.put];refine wtj 15 (v:=?_) [45] rfl (by kernel_rfl) (fun _ _ _ h=>h) hS0 ⟨by rfl,?_⟩ ?_;rotate_left
 ·intro x hSx;try dsimp only at hSx
  go_simp;try with_reducible rfl
 simp only [Act.put];refine wtj 16 (v:=?_) [45] rfl (by kernel_rfl) (fun _ _ _ h=>h) hS0 ⟨by rfl,?_⟩ ?_;rotate_left
 ·intro x hSx;try dsimp only at hSx
  go_simp;try with_reducible rfl
 simp only [Act.put];refine wtj 17 (v:=?_) [45] rfl (by kernel_rfl) (fun _ _ _ h=>h) hS0 ⟨by rfl,?_⟩ ?_;rotate_left
 ·intro x hSx;try dsimp only at hSx
  go_simp;try with_reducible rfl
 simp only [Act.put];refine wtj 18 (v:=?_) [45] rfl (by kernel_rfl) (fun _ _ _ h=>h) hS0 ⟨by rfl,?_⟩ ?_;rotate_left
 ·intro x hSx;try dsimp only at hSx
  go_simp;try with_reducible rfl
 simp only [Act.put];refine wtj 19 (v:=?_) [45] rfl (by kernel_rfl) (fun _ _ _ h=>h) hS0 ⟨by rfl,?_⟩ ?_;rotate_left
 ·intro x hSx;try dsimp only at hSx
  go_simp;try with_reducible rfl
 simp only [Act.put];refine wtj 20 (v:=?_) [45] rfl (by kernel_rfl) (fun _ _ _ h=>h) hS0 ⟨by rfl,?_⟩ ?_;rotate_left
 ·intro x hSx;try dsimp only at hSx
  go_simp;try with_reducible rfl
 simp only [Act.put];refine wtj 21 (v:=?_) [45] rfl (by kernel_rfl) (fun _ _ _ h=>h) hS0 ⟨by rfl,?_⟩ ?_;rotate_left
 ·intro x hSx;try dsimp only at hSx
  go_simp;try with_reducible rfl
 simp only [Act.put];refine wtj 22 (v:=?_) [45] rfl (by kernel_rfl) (fun _ _ _ h=>h) hS0 ⟨by rfl,?_⟩ ?_;rotate_left
 ·intro x hSx;try dsimp only at hSx
  go_simp;try with_reducible rfl
 simp only [Act.put];refine wtj 23 (v:=?_) [45] rfl (by kernel_rfl) (fun _ _ _ h=>h) hS0 ⟨by rfl,?_⟩ ?_;rotate_left
 ·intro x hSx;try dsimp only at hSx
  go_simp;try with_reducible rfl
 simp only [Act.put];refine wtj 24 (v:=?_) [45] rfl (by kernel_rfl) (fun _ _ _ h=>h) hS0 ⟨by rfl,?_⟩ ?_;rotate_left
 ·intro x hSx;try dsimp only at hSx
  go_simp;try with_reducible rfl
 simp only [Act.put];refine wtj 25 (v:=?_) [45] rfl (by kernel_rfl) (fun _ _ _ h=>h) hS0 ⟨by rfl,?_⟩ ?_;rotate_left
 ·intro x hSx;try dsimp only at hSx
  go_simp;try with_reducible rfl
 simp only [Act.put];refine wtj 26 (v:=?_) [45] rfl (by kernel_rfl) (fun _ _ _ h=>h) hS0 ⟨by rfl,?_⟩ ?_;rotate_left
 ·intro x hSx;try dsimp only at hSx
  go_simp;try with_reducible rfl
 simp only [Act.put];refine wtj 27 (v:=?_) [45] rfl (by kernel_rfl) (fun _ _ _ h=>h) hS0 ⟨by rfl,?_⟩ ?_;rotate_left
 ·intro x hSx;try dsimp only at hSx
  go_simp;try with_reducible rfl
 simp only [Act.put];refine wtj 28 (v:=?_) [45] rfl (by kernel_rfl) (fun _ _ _ h=>h) hS0 ⟨by rfl,?_⟩ ?_;rotate_left
 ·intro x hSx;try dsimp only at hSx
  go_simp;try with_reducible rfl
 simp only [Act.put];refine wtj 29 (v:=?_) [45] rfl (by kernel_rfl) (fun _ _ _ h=>h) hS0 ⟨by rfl,?_⟩ ?_;rotate_left
 ·intro x hSx;try dsimp only at hSx
  go_simp;try with_reducible rfl
 simp only [Act.put];refine wtj 30 (v:=?_) [45] rfl (by kernel_rfl) (fun _ _ _ h=>h) hS0 ⟨by rfl,?_⟩ ?_;rotate_left
 ·intro x hSx;try dsimp only at hSx
  go_simp;try with_reducible rfl
 simp only [Act.put];refine wtj 31 (v:=?_) [45] rfl (by kernel_rfl) (fun _ _ _ h=>h) hS0 ⟨by rfl,?_⟩ ?_;rotate_left
 ·intro x hSx;try dsimp only at hSx
  go_simp;try with_reducible rfl
 simp only [Act.put];refine wtj 32 (v:=?_) [45] rfl (by kernel_rfl) (fun _ _ _ h=>h) hS0 ⟨by rfl,?_⟩ ?_;rotate_left
 ·intro x hSx;try dsimp only at hSx
  go_simp;try with_reducible rfl
 simp only [Act.put];refine wtj 33 (v:=?_) [45] rfl (by kernel_rfl) (fun _ _ _ h=>h) hS0 ⟨by rfl,?_⟩ ?_;rotate_left
 ·intro x hSx;try dsimp only at hSx
  go_simp;try with_reducible rfl
 simp only [Act.put];refine wtj 34 (v:=?_) [45] rfl (by kernel_rfl) (fun _ _ _ h=>h) hS0 ⟨by rfl,?_⟩ ?_;rotate_left
 ·intro x hSx;try dsimp only at hSx
  go_simp;try with_reducible rfl
 simp only [Act.put];refine wtj 35 (v:=?_) [45] rfl (by kernel_rfl) (fun _ _ _ h=>h) hS0 ⟨by rfl,?_⟩ ?_;rotate_left
 ·intro x hSx;try dsimp only at hSx
  go_simp;try with_reducible rfl
 simp only [Act.put];refine wtj 36 (v:=?_) [45] rfl (by kernel_rfl) (fun _ _ _ h=>h) hS0 ⟨by rfl,?_⟩ ?_;rotate_left
 ·intro x hSx;try dsimp only at hSx
  go_simp;try with_reducible rfl
 simp only [Act.put];refine wtj 37 (v:=?_) [45] rfl (by kernel_rfl) (fun _ _ _ h=>h) hS0 ⟨by rfl,?_⟩ ?_;rotate_left
 ·intro x hSx;try dsimp only at hSx
  go_simp;try with_reducible rfl
 simp only [Act.put];refine wtj 38 (v:=?_) [45] rfl (by kernel_rfl) (fun _ _ _ h=>h) hS0 ⟨by rfl,?_⟩ ?_;rotate_left
 ·intro x hSx;try dsimp only at hSx
  go_simp;try with_reducible rfl
 simp only [Act.put];refine wtj 39 (v:=?_) [45] rfl (by kernel_rfl) (fun _ _ _ h=>h) hS0 ⟨by rfl,?_⟩ ?_;rotate_left
 ·intro x hSx;try dsimp only at hSx
  go_simp;try with_reducible rfl
 simp only [Act.put];refine wtj 40 (v:=?_) [45] rfl (by kernel_rfl) (fun _ _ _ h=>h) hS0 ⟨by rfl,?_⟩ ?_;rotate_left
 ·intro x hSx;try dsimp only at hSx
  go_simp;try with_reducible rfl
 simp only [Act.put];refine wtj 41 (v:=?_) [45] rfl (by kernel_rfl) (fun _ _ _ h=>h) hS0 ⟨by rfl,?_⟩ ?_;rotate_left
 ·intro x hSx;try dsimp only at hSx
  go_simp;try with_reducible rfl
 simp only [Act.put];refine wtj 42 (v:=?_) [45] rfl (by kernel_rfl) (fun _ _ _ h=>h) hS0 ⟨by rfl,?_⟩ ?_;rotate_left
 ·intro x hSx;try dsimp only at hSx
  go_simp;try with_reducible rfl
 simp only [Act.put];refine wtj 43 (v:=?_) [45] rfl (by kernel_rfl) (fun _ _ _ h=>h) hS0 ⟨by rfl,?_⟩ ?_;rotate_left
 ·intro x hSx;try dsimp only at hSx
  go_simp;try with_reducible rfl
 simp only [Act.put];refine wtj 44 (v:=?_) [45] rfl (by kernel_rfl) (fun _ _ _ h=>h) hS0 ⟨by rfl,?_⟩ ?_;rotate_left
 ·intro x hSx;try dsimp only at hSx
  go_simp;try with_reducible rfl
 simp only [Act.put];refine wto (j:=45) (by kernel_rfl) rfl (fun K hK=>?_);go_simp;refine hK.out _ _ (fun hx=>absurd (hx.symm.trans (by kernel_rfl)) Bool.false_ne_true) ?_;clear hK K;refine wpTill_done (by kernel_rfl) ?_ _;go_wp2;refine bodyPost_ret (v:=.agg #[.int .i64 (F k),.int .i64 (F (k+1)),.int .i64 (F (k+2)),.int .i64 (F (k+3)),.int .i64 (F (k+4)),.int .i64 (F (k+5)),.int .i64 (F (k+6)),.int .i64 (F (k+7)),.int .i64 (F (k+8)),.int .i64 (F (k+9)),.int .i64 (F (k+10))]) (by simp [results,Tryz.results95,go_sem,z0,z1,z2,z3,z4,z5,z6,z7,z8,z9,z10]) rfl ?_;exact ⟨rfl,uh hgo [_,_,_,_,_,_,_,_,_,_,_] 1⟩


open Go.RowKit

theorem Sn.list_src {w:World} {b o m:Nat} {F:Nat→Value} (h:∀c,c<m→w.cell? ⟨b,o+c,none⟩=some (F c)):∀j v,(Gd.list m F)[j]?=some v→w.cell? ((⟨b,o,none⟩:Addr).add j)=some v:=by
 intro j v hj;have hlt:j<m:=by
  have:=(List.getElem?_eq_some_iff.1 hj).1
  rwa [Gd.list_len] at this
 rw [Gd.list_at hlt] at hj;rw [show (⟨b,o,none⟩:Addr).add j=⟨b,o+j,none⟩ by rw [Go.WideShapes.add_plain],h j hlt];exact hj

set_option maxHeartbeats 800000 in
theorem snTwinB_any (b o n m cp:Nat) (F:Nat→Value) (w:World) (hn:n≤1000) (hm:m=n*1) (h1:∀c,(F c).oneCell'=true) (hF:∀c,c<m→w.cell? ⟨b,o+c,none⟩=some (F c)) (hb:b<w.heap.size) :
  Calls Tryz.prog 93 #[.slice (some ⟨b,o,none⟩) n cp] w (Copies w 5 n m F):=by
 have hF':=hide hF;have h1':=hide h1;obtain ⟨i0,hi,hz0,hz1,hz2⟩:=info_parts info_byte;have hsz:(Tryz.prog.info? 5).map (·.size)=some 1:=by rw [hi];simp [hz1]
 clear hF h1;go_enter Tryz.func93,Tryz.ntmps93;go_wp2_with (at_make;refine wpList_make_full _ rfl _ _ 24 rfl w.heap.size 5 i0 (.int .u8 0) 1 Tryz.underlying24 hi hz0 hz1 .i64 .i64 _ _ n rfl rfl rfl rfl ?q3 ?q4 ?q5 ?_)
 any_goals (first | (rw [hz2];omega) | (unfold maxLen;omega) | exact Nat.le_refl _)
 intro w1 hown hgrow;obtain ⟨cur,hg,hcs⟩:∃cur,w1.heap[w.heap.size]?=some (.cells cur 5 (0,0))∧cur.size=n*1:=by
  rcases hown.2 with ⟨h',_⟩|⟨g',cap',cur,h',_,hg,_,_,hcs,_⟩
  ·simp at h'
  ·simp only [Value.slice.injEq,Option.some.injEq,Addr.mk.injEq,and_true,true_and] at h';obtain ⟨rfl,rfl⟩:=h';exact ⟨cur,hg,hcs⟩
 have hg':=hide hg;have hgrow':=hide hgrow;have hcs':=hide hcs;clear hown hg hgrow hcs hi hz0 hz1 hz2;obtain ⟨w2,hrun,hrow,hgr2⟩:=run_copy_whole 24 24 3 5 Tryz.underlying24 1 hsz w.heap.size n n ⟨b,o,none⟩ cp cur _ (uh hg') (Gd.list m F) ((Gd.list_len m F).trans hm) (Sn.list_src fun c hc=>(gce (uh hgrow') b (o+c) hb (by simp)).trans (uh hF' c hc)) (by rw [Gd.list_len,uh hcs',hm]) (Gd.list_one (uh h1'));have hfin:=hide (Arr.of_list hrow);have hgw:=hide (show w.grownBy w2 none from gow (uh hgrow') hgr2 (fun k e=>by cases e;exact Nat.le_refl _));clear hrow hgr2 hb hm hn hsz;go_wp2;go_ret;exact ⟨w.heap.size,rfl,Nat.le_refl _,uh hfin,uh hgw⟩

def Sn.put (B:Nat→Value) (i:Nat) (v:Value):Nat→Value:=fun j=>if j=i then v else B j

structure Sn.Read (w x:World) (P W R G o k:Nat) (F:Nat→Int) (B:Nat→Value):Prop where
 res:Lie x P 30 11 (fun j=>#[.int .i64 0,.int .i64 0,.int .i64 0,.int .i64 0,.slice none 0 0,.slice none 0 0,.slice none 0 0,.int .i64 0,.int .i64 0,.int .i64 0,Value.int .i64 0][j]?.getD undef)
 box:Lie x W 30 11 B
 rd:Sn.Rd x R G o k
 src:Sn.Src x G o F
 lP:w.heap.size≤P
 lW:w.heap.size≤W
 lR:w.heap.size≤R
 lG:G<w.heap.size
 pW:P≠W
 rW:R≠W
 rP:R≠P
 grown:w.grownBy x none

theorem Sn.Read.rG {w x:World} {P W R G o k:Nat} {F:Nat→Int} {B:Nat→Value} (h:Sn.Read w x P W R G o k F B):R≠G:=by
 have:=h.lR;have:=h.lG;omega

theorem Sn.Read.on {w x y:World} {P W R G o k:Nat} {F:Nat→Int} {B:Nat→Value} (h:Sn.Read w x P W R G o k F B) (hg:x.grownBy y none):Sn.Read w y P W R G o k F B :=
 { h with res:=h.res.on hg,box:=h.box.on hg,rd:=h.rd.on hg,src:=h.src.on hg (by simp),grown:=gtr h.grown hg }

theorem Sn.Read.step {w x y:World} {P W R G o k k':Nat} {F:Nat→Int} {B:Nat→Value} {u:Value} (h:Sn.Read w x P W R G o k F B) (hy:y=x.setCell ⟨R,0,none⟩ u) (hr:Sn.Rd y R G o k'):Sn.Read w y P W R G o k' F B:=by
 subst hy;exact { h with res:=h.res.other h.rP _ _,box:=h.box.other h.rW _ _,rd:=hr,src:=h.src.set h.rG _ _,grown:=gsr h.grown ⟨R,0,none⟩ h.lR u }

theorem Sn.Read.field {w x:World} {P W R G o k:Nat} {F:Nat→Int} {B:Nat→Value} (h:Sn.Read w x P W R G o k F B) (i:Nat) (v:Value):Sn.Read w (x.setCell ⟨W,i,none⟩ v) P W R G o k F (Sn.put B i v):=by
 have h1:=h.lW;have h2:=h.lG;exact { h with res:=h.res.other h.pW.symm _ _,box:=h.box.store i v,rd:=h.rd.other h.rW.symm _ _,src:=h.src.set (by omega) _ _,grown:=gsr h.grown ⟨W,i,none⟩ h.lW v }

theorem Sn.Read.rows {w x:World} {P W R G o k g:Nat} {T:TypeId} {m:Nat} {K:Nat→Value} {F:Nat→Int} {B:Nat→Value} (h:Sn.Read w x P W R G o k F B) (hl:Lie x g T m K) (hT:T≠30) (hT2:T≠137) (hg:w.heap.size≤g) (i:Nat) (vs:List Value):Sn.Read w (x.setCells g i vs) P W R G o k F B:=by
 obtain ⟨p,C,hc,-⟩:=h.rd.cell;have n1:=hl.type7 h.res hT;have n2:=hl.type7 h.box hT;have n3:=hl.type7 hc hT2;have h2:=h.lG;exact { h with res:=h.res.others n1 _ _,box:=h.box.others n2 _ _,rd:=h.rd.others n3 _ _,src:=h.src.sets (by omega) _ _,grown:=own_sets hg vs i x h.grown }

def Sn.gd (B:Nat→Value) (g:Nat→Int) (t:Nat):Nat→Value:=fun j=>if 7≤j∧j<7+t then .int .i64 (g (j - 7)) else B j

theorem Sn.gd_more (B:Nat→Value) (g:Nat→Int) (t:Nat):Sn.put (Sn.gd B g t) (7+t) (.int .i64 (g t))=Sn.gd B g (t+1):=by
 funext j;unfold Sn.put Sn.gd;by_cases e:j=7+t
 ·rw [if_pos e,if_pos (by omega),show j - 7=t by omega]
 ·rw [if_neg e];by_cases e2:7≤j∧j<7+t
  ·rw [if_pos e2,if_pos (by omega)]
  ·rw [if_neg e2,if_neg (by omega)]

theorem Sn.gd_none (B:Nat→Value) (g:Nat→Int):Sn.gd B g 0=B:=by
 funext j;unfold Sn.gd;rw [if_neg (by omega)]

def Sn.fill (f:Nat→Nat→Int) (n:Nat):Nat→Nat→Int:=fun i j=>if i<n then f i j else 0

theorem Sn.fill_more (f:Nat→Nat→Int) (n:Nat):En.put (Sn.fill f n) n (f n)=Sn.fill f (n+1):=by
 funext i j;unfold Sn.fill;by_cases e:i=n
 ·subst e;rw [En.put_same,if_pos (by omega)]
 ·rw [En.put_other e];by_cases e2:i<n
  ·rw [if_pos e2,if_pos (by omega)]
  ·rw [if_neg e2,if_neg (by omega)]

theorem Sn.fill_none (f:Nat→Nat→Int):Sn.fill f 0=fun _ _=>0:=by
 funext i j;unfold Sn.fill;rw [if_neg (by omega)]


open Go.RowKit

set_option maxRecDepth 16000 in
set_option maxHeartbeats 12800000 in
theorem snReads_any (G o cap:Nat) (F:Nat→Int) (w:World) (hS:Sn.Src w G o F) (hc:918≤cap) (hm:cap≤9223372036854775807) :
  Calls Tryz.prog 57 #[.slice (some ⟨G,o,none⟩) 918 cap] w (Gd.Worlds w (Sn.rs F) (Sn.rg F) (Sn.rc F) (Sn.rE F) (Sn.rI F)):=by
 obtain ⟨wa,hwa⟩:∃wa,wa=w.alloc (.cells #[.int .i64 0,.int .i64 0,.int .i64 0,.int .i64 0,.slice none 0 0,.slice none 0 0,.slice none 0 0,.int .i64 0,.int .i64 0,.int .i64 0,.int .i64 0] 30):=⟨_,rfl⟩;obtain ⟨wb,hwb⟩:∃wb,wb=wa.alloc (.cells #[.int .i64 0,.int .i64 0,.int .i64 0,.int .i64 0,.slice none 0 0,.slice none 0 0,.slice none 0 0,.int .i64 0,.int .i64 0,.int .i64 0,.int .i64 0] 30):=⟨_,rfl⟩;obtain ⟨x0,hx0⟩:∃x0,x0=wb.alloc (.cells #[.slice (some ⟨G,o,none⟩) 918 cap] 137):=⟨_,rfl⟩;have ga:w.grownBy wa none:=by rw [hwa];exact World.grownBy_alloc _ _ _
 have gb:wa.grownBy wb none:=by rw [hwb];exact World.grownBy_alloc _ _ _
 have g0:wb.grownBy x0 none:=by rw [hx0];exact World.grownBy_alloc _ _ _
 have sa:wa.heap.size=w.heap.size+1:=by rw [hwa];simp
 have sb:wb.heap.size=w.heap.size+1+1:=by rw [hwb,←sa];simp
 have hP:Lie wa w.heap.size 30 11 (fun j=>#[.int .i64 0,.int .i64 0,.int .i64 0,.int .i64 0,.slice none 0 0,.slice none 0 0,.slice none 0 0,.int .i64 0,.int .i64 0,.int .i64 0,Value.int .i64 0][j]?.getD undef):=by
  rw [hwa];exact (Arr.lit (heap_alloc_new w _)).lie
 have hW:Lie wb wa.heap.size 30 11 (fun j=>#[.int .i64 0,.int .i64 0,.int .i64 0,.int .i64 0,.slice none 0 0,.slice none 0 0,.slice none 0 0,.int .i64 0,.int .i64 0,.int .i64 0,Value.int .i64 0][j]?.getD undef):=by
  rw [hwb];exact (Arr.lit (heap_alloc_new wa _)).lie
 have hR:Lie x0 wb.heap.size 137 1 (fun _=>.slice (some ⟨G,o,none⟩) (918 - 0) cap):=by
  rw [hx0];refine Lie.congr (m:=1) (Arr.lit (heap_alloc_new wb _)).lie fun c hc=>?_;obtain rfl:c=0:=by omega
  rfl
 obtain ⟨Z,hZe⟩:∃Z:Nat→Value,(fun j=>#[.int .i64 0,.int .i64 0,.int .i64 0,.int .i64 0,.slice none 0 0,.slice none 0 0,.slice none 0 0,.int .i64 0,.int .i64 0,.int .i64 0,Value.int .i64 0][j]?.getD undef)=Z:=⟨_,rfl⟩;obtain ⟨P,hPe⟩:∃P,w.heap.size=P:=⟨_,rfl⟩;obtain ⟨W,hWe⟩:∃W,wa.heap.size=W:=⟨_,rfl⟩;obtain ⟨R,hRe⟩:∃R,wb.heap.size=R:=⟨_,rfl⟩;have hX0:Hid (Sn.Read w x0 P W R G o 0 F Z):=by
  have hlt:=hS.lt;refine ⟨?_,?_,⟨o,cap,?_,fun _=>rfl,by omega,hm⟩,hS.on (gtr ga (gtr gb g0)) (by simp),by omega,by omega,by omega,hlt,by omega,by omega,by omega,gtr ga (gtr gb g0)⟩
  ·rw [←hPe];exact hP.on (gtr gb g0)
  ·rw [←hWe,←hZe];exact hW.on g0
  ·rw [←hRe];exact hR
 have HZ:=hide hZe;have eR:P+1+1=R:=by omega
 have eW:P+1=W:=by omega
 have eR':=hide eR;have eW':=hide eW;clear eR eW hWe hRe;clear hS hc hm ga gb g0 sa sb hP hW hR hZe;go_enter Tryz.func57,Tryz.ntmps57;go_upto_region 3 with fail;rw [←hwa,←hwb,←hx0,uh eR',uh eW'];clear hwa hwb hx0 hPe eR' eW';clear wa wb;have cn:=hide (snNumber_any R G o 0 8 F x0 (uh hX0).rd (uh hX0).src (uh hX0).rG (by omega) (by omega) (by omega));obtain ⟨V0,hV0⟩:∃V,IntKind.i64.wrap (Sn.be (Sn.cut F 0 8))=V:=⟨_,rfl⟩;have hv0:=hide hV0;go_wp2_with fail;refine (uh cn).mono ?_;rintro e y ⟨u,rfl,hy,hRd⟩;have hY:=hide ((uh hX0).step hy hRd);have fW:=(uh hY).box.free;have zW:=(uh hY).box.cell (c:=0) (by omega);have hZ:=hide ((uh hY).field 0 (.int .i64 V0));clear cn hy hRd hX0 hY;go_upto_region 4 with fail;generalize y.setCell ⟨W,0,none⟩ (.int .i64 V0)=x1 at hZ ⊢;have hX1:Hid (Sn.Read w x1 P W R G o 8 F (Sn.put (Z) 0 (.int .i64 V0))):=hZ;clear hZ fW zW hV0;have cn:=hide (snNumber_any R G o 8 4 F x1 (uh hX1).rd (uh hX1).src (uh hX1).rG (by omega) (by omega) (by omega));obtain ⟨V1,hV1⟩:∃V,IntKind.i64.wrap (Sn.be (Sn.cut F 8 4))=V:=⟨_,rfl⟩;have hv1:=hide hV1;go_wp2_with fail;refine (uh cn).mono ?_;rintro e y ⟨u,rfl,hy,hRd⟩;have hY:=hide ((uh hX1).step hy hRd);have fW:=(uh hY).box.free;have zW:=(uh hY).box.cell (c:=1) (by omega);have hZ:=hide ((uh hY).field 1 (.int .i64 V1));clear cn hy hRd hX1 hY;go_upto_region 5 with fail;generalize y.setCell ⟨W,1,none⟩ (.int .i64 V1)=x2 at hZ ⊢;have hX2:Hid (Sn.Read w x2 P W R G o 12 F (Sn.put (Sn.put (Z) 0 (.int .i64 V0)) 1 (.int .i64 V1))):=hZ;clear hZ fW zW hV1;have cn:=hide (snNumber_any R G o 12 1 F x2 (uh hX2).rd (uh hX2).src (uh hX2).rG (by omega) (by omega) (by omega));obtain ⟨V2,hV2⟩:∃V,IntKind.i64.wrap (Sn.be (Sn.cut F 12 1))=V:=⟨_,rfl⟩;have hv2:=hide hV2;go_wp2_with fail;refine (uh cn).mono ?_;rintro e y ⟨u,rfl,hy,hRd⟩;have hY:=hide ((uh hX2).step hy hRd);have fW:=(uh hY).box.free;have zW:=(uh hY).box.cell (c:=2) (by omega);have hZ:=hide ((uh hY).field 2 (.int .i64 V2));clear cn hy hRd hX2 hY;go_upto_region 6 with fail;generalize y.setCell ⟨W,2,none⟩ (.int .i64 V2)=x3 at hZ ⊢;have hX3:Hid (Sn.Read w x3 P W R G o 13 F (Sn.put (Sn.put (Sn.put (Z) 0 (.int .i64 V0)) 1 (.int .i64 V1)) 2 (.int .i64 V2))):=hZ;clear hZ fW zW hV2;have cn:=hide (snNumber_any R G o 13 1 F x3 (uh hX3).rd (uh hX3).src (uh hX3).rG (by omega) (by omega) (by omega));obtain ⟨V3,hV3⟩:∃V,IntKind.i64.wrap (Sn.be (Sn.cut F 13 1))=V:=⟨_,rfl⟩;have hv3:=hide hV3;go_wp2_with fail;refine (uh cn).mono ?_;rintro e y ⟨u,rfl,hy,hRd⟩;have hY:=hide ((uh hX3).step hy hRd);have fW:=(uh hY).box.free;have zW:=(uh hY).box.cell (c:=3) (by omega);have hZ:=hide ((uh hY).field 3 (.int .i64 V3));clear cn hy hRd hX3 hY;go_upto_region 7 with fail;generalize y.setCell ⟨W,3,none⟩ (.int .i64 V3)=x4 at hZ ⊢;have hX4:Hid (Sn.Read w x4 P W R G o 14 F (Sn.put (Sn.put (Sn.put (Sn.put (Z) 0 (.int .i64 V0)) 1 (.int .i64 V1)) 2 (.int .i64 V2)) 3 (.int .i64 V3))):=hZ;clear hZ fW zW hV3;obtain ⟨H,hH⟩:∃H,H=Sn.put (Sn.put (Sn.put (Sn.put (Z) 0 (.int .i64 V0)) 1 (.int .i64 V1)) 2 (.int .i64 V2)) 3 (.int .i64 V3):=⟨_,rfl⟩;rw [←hH] at hX4;have HH:=hide hH;clear hH;go_wp2_with fail
 go_loopw [5,22] (fun v5 v22 wr=>∃t:Nat,t≤4∧v22=.int .i64 (t:Int)∧Hid (Sn.Read w wr P W R G o (14+2*t) F (Sn.gd H (Sn.rg F) t))) (fun _ v22 _=>10 - (intOf v22).toNat)
 case atStart=>exact ⟨0,by omega,rfl,by rw [Sn.gd_none];exact hX4⟩
 case round =>
  clear hX4;obtain ⟨t,ht,rfl,hX⟩:=hrel;by_cases hlt:t<4
  ·have hlt':(t:Int)<4:=by omega
   have HL:=hide hlt;have cn:=hide (snNumber_any R G o (14+2*t) 2 F wr (uh hX).rd (uh hX).src (uh hX).rG (by omega) (by omega) (by omega));have tw:IntKind.i64.wrap (Sn.be (Sn.cut F (14+2*t) 2))=Sn.rg F t:=by
    have:=Sn.be_bound 2 F (14+2*t) (fun j _=>(uh hX).src.byte _);rw [IntKind.wrap_i64];unfold Sn.rg;omega
   clear hlt ht;go_wp2_with fail;refine (uh cn).mono ?_;rintro e y ⟨u,rfl,hy,hRd⟩;have hY:=hide ((uh hX).step hy hRd);have fW:=(uh hY).box.free;have zW:=(uh hY).box.cell (c:=7+t) (by have:=uh HL;omega);have hZ:=hide ((uh hY).field (7+t) (.int .i64 (Sn.rg F t)));rw [Sn.gd_more,show 14+2*t+2=14+2*(t+1) by omega] at hZ;clear cn hy hRd hX hY;go_wp2;go_roundw;case rel=>exact ⟨t+1,by have:=uh HL;omega,by go_num,hZ⟩
   case measure=>simp [intOf];have:=uh HL;omega
  ·obtain rfl:t=4:=by omega
   have hge:¬((4:Nat):Int)<4:=by omega
   clear hlt ht;have cn:=hide (snNext_any R G o 22 384 wr (uh hX).rd (by omega) (by omega));go_upto_region 12 with fail;go_wp2_with fail;refine (uh cn).mono ?_;rintro e y ⟨u,C,rfl,hC,hy,hRd⟩;have hY:=hide ((uh hX).step hy hRd);have ct:=hide (snTwinB_any G (o+22) 384 384 C (Byts (Sn.rc F)) y (by omega) (by omega) (fun _=>rfl) (fun c hc=>(uh hY).src.off 22 c (by omega)) (uh hY).src.lt);clear cn hC hy hRd hX;go_wp2_with fail;refine (uh ct).mono ?_;rintro e y2 ⟨gC,rfl,lC,hA,hg⟩;have hY2:=hide ((uh hY).on hg);have HC:=hide hA.lie;have LC:Hid (w.heap.size≤gC):=(show w.heap.size≤gC by have:=(uh hY).grown.size;omega);have fW:=(uh hY2).box.free;have zW:=(uh hY2).box.cell (c:=4) (by omega);have nCW:Hid (gC≠W):=(uh HC).type_ne (uh hY2).box (by decide);have hZ:=hide (And.intro ((uh hY2).field 4 (.slice (some ⟨gC,0,none⟩) 384 384)) ((uh HC).other (uh nCW).symm 4 (.slice (some ⟨gC,0,none⟩) 384 384)));clear ct lC hA hg hY hY2 HC;go_upto_region 13 with fail;generalize y2.setCell ⟨W,4,none⟩ (.slice (some ⟨gC,0,none⟩) 384 384)=x5 at hZ ⊢;clear fW zW y y2;obtain ⟨Z5,hm5,hZ5⟩:=make32;obtain ⟨gE,hgE⟩:∃b,x5.heap.size=b:=⟨_,rfl⟩;obtain ⟨wm,hwm⟩:∃wm,wm=x5.alloc (.cells Z5 70):=⟨_,rfl⟩;have hga:x5.grownBy wm none:=by rw [hwm];exact World.grownBy_alloc _ _ _
   have hl5:Lie wm gE 70 352 (En.flat fun _ _=>0):=by
    rw [←hgE,hwm];exact (hZ5 x5).lie (m:=352) (by omega)
   have hmx:=hm5 x5;rw [←hwm,hgE] at hmx;have hb:=hide ((uh hZ).1.on hga);have fW:=(uh hb).box.free;have zW:=(uh hb).box.cell (c:=5) (by omega);obtain ⟨B5,hB5⟩:∃B,B=Sn.put (Sn.put (Sn.gd H (Sn.rg F) 4) 4 (.slice (some ⟨gC,0,none⟩) 384 384)) 5 (.slice (some ⟨gE,0,none⟩) 32 32):=⟨_,rfl⟩;have LgE:Hid (w.heap.size≤gE):=(show w.heap.size≤gE by have:=(uh hZ).1.grown.size;omega);have hQ:Hid (Sn.Read w (wm.setCell ⟨W,5,none⟩ (.slice (some ⟨gE,0,none⟩) 32 32)) P W R G o (406) F B5∧Lie (wm.setCell ⟨W,5,none⟩ (.slice (some ⟨gE,0,none⟩) 32 32)) gC 5 384 (Byts (Sn.rc F))∧Lie (wm.setCell ⟨W,5,none⟩ (.slice (some ⟨gE,0,none⟩) 32 32)) gE 70 352 (En.flat (Sn.fill (Sn.rE F) 0))):=by
    have hz:=uh hZ;exact ⟨by rw [hB5];exact (uh hb).field 5 _,(hz.2.on hga).other ((hz.2.on hga).type_ne (uh hb).box (by decide)).symm _ _,by rw [Sn.fill_none];exact hl5.other (hl5.type_ne (uh hb).box (by decide)).symm _ _⟩
   have HB5:=hide hB5;clear hga hl5 hZ5 hB5 hm5 hb hgE hwm;go_upto_region 14 with fail;generalize (wm.setCell ⟨W,5,none⟩ (.slice (some ⟨gE,0,none⟩) 32 32))=x5n at hQ ⊢;clear hmx hZ fW zW;have hb5:Hid (∀z,Lie z W 30 11 B5→z.cell? ⟨W,5,none⟩=some (.slice (some ⟨gE,0,none⟩) 32 32)):=fun z hz=>by
    rw [hz.cell (c:=5) (by omega),uh HB5];rfl
   have zB:=uh hb5 _ (uh hQ).1.box;go_wp2_with fail
   go_loopw [6,39] (fun vo vl wr=>∃n:Nat,n≤32∧vl=.int .i64 (n:Int)∧Hid (Sn.Read w wr P W R G o (406+n*11) F B5∧Lie wr gC 5 384 (Byts (Sn.rc F))∧Lie wr gE 70 352 (En.flat (Sn.fill (Sn.rE F) n)))) (fun _ vl _=>60 - (intOf vl).toNat)
   case atStart=>exact ⟨0,by omega,rfl,hQ⟩
   case round =>
    clear hQ zB;obtain ⟨n,hn,rfl,hX⟩:=hrel;by_cases hlt:n<32
    ·have hlt':(n:Int)<32:=by omega
     have HL:=hide hlt;have hd:=hide (gd1 (World.grownBy.refl wr none));have hon:Hid (∀y z kk,(Sn.Read w y P W R G o (kk) F B5∧Lie y gC 5 384 (Byts (Sn.rc F))∧Lie y gE 70 352 (En.flat (Sn.fill (Sn.rE F) n)))→y.grownBy z none→(Sn.Read w z P W R G o (kk) F B5∧Lie z gC 5 384 (Byts (Sn.rc F))∧Lie z gE 70 352 (En.flat (Sn.fill (Sn.rE F) n)))):=fun y z kk h hg=>⟨h.1.on hg,(h).2.1.on hg,(h).2.2.on hg⟩;have hst:Hid (∀y z u kk,(Sn.Read w y P W R G o (kk) F B5∧Lie y gC 5 384 (Byts (Sn.rc F))∧Lie y gE 70 352 (En.flat (Sn.fill (Sn.rE F) n)))→z=y.setCell ⟨R,0,none⟩ u→∀k2,Sn.Rd z R G o k2→(Sn.Read w z P W R G o (k2) F B5∧Lie z gC 5 384 (Byts (Sn.rc F))∧Lie z gE 70 352 (En.flat (Sn.fill (Sn.rE F) n)))):=fun y z u kk h hz k2 hr=>by
      obtain ⟨p,C,hc,-⟩:=h.1.rd.cell;refine ⟨h.1.step hz hr,?_,?_⟩
      ·rw [hz];exact (h).2.1.other ((h).2.1.type_ne hc (by decide)).symm _ _
      ·rw [hz];exact (h).2.2.other ((h).2.2.type_ne hc (by decide)).symm _ _
     have cn:Hid (∀z,wr.grownBy z none→Calls Tryz.prog 94 #[.pointer (some ⟨R,0,none⟩),.int .i64 ((11:Nat):Int)] z (Sn.Goes z R G o (406+n*11) 11)):=fun z hz=>snNext_any R G o (406+n*11) 11 z ((uh hX).1.rd.on hz) (by omega) (by have:=uh HL;omega);have ce:=hide (fun z C (hz:Sn.Src z G o F)=>entOf_any G o (406+n*11) C F z hz (by have:=uh HL;omega));have hput:Hid (∀z,(Sn.Read w z P W R G o (406+n*11+11) F B5∧Lie z gC 5 384 (Byts (Sn.rc F))∧Lie z gE 70 352 (En.flat (Sn.fill (Sn.rE F) n)))→(Sn.Read w (z.setCells gE (n*11) (#[.int .i64 (F (406+n*11)),.int .i64 (F (406+n*11+1)),.int .i64 (F (406+n*11+2)),.int .i64 (F (406+n*11+3)),.int .i64 (F (406+n*11+4)),.int .i64 (F (406+n*11+5)),.int .i64 (F (406+n*11+6)),.int .i64 (F (406+n*11+7)),.int .i64 (F (406+n*11+8)),.int .i64 (F (406+n*11+9)),.int .i64 (F (406+n*11+10))]:Array Value).toList) P W R G o (406+(n+1)*11) F B5∧Lie (z.setCells gE (n*11) (#[.int .i64 (F (406+n*11)),.int .i64 (F (406+n*11+1)),.int .i64 (F (406+n*11+2)),.int .i64 (F (406+n*11+3)),.int .i64 (F (406+n*11+4)),.int .i64 (F (406+n*11+5)),.int .i64 (F (406+n*11+6)),.int .i64 (F (406+n*11+7)),.int .i64 (F (406+n*11+8)),.int .i64 (F (406+n*11+9)),.int .i64 (F (406+n*11+10))]:Array Value).toList) gC 5 384 (Byts (Sn.rc F))∧Lie (z.setCells gE (n*11) (#[.int .i64 (F (406+n*11)),.int .i64 (F (406+n*11+1)),.int .i64 (F (406+n*11+2)),.int .i64 (F (406+n*11+3)),.int .i64 (F (406+n*11+4)),.int .i64 (F (406+n*11+5)),.int .i64 (F (406+n*11+6)),.int .i64 (F (406+n*11+7)),.int .i64 (F (406+n*11+8)),.int .i64 (F (406+n*11+9)),.int .i64 (F (406+n*11+10))]:Array Value).toList) gE 70 352 (En.flat (Sn.fill (Sn.rE F) (n+1))))):=fun z h=>by
      rw [show 406+(n+1)*11=406+n*11+11 by omega,←Sn.fill_more (Sn.rE F) n];refine ⟨h.1.rows (h).2.2 (by decide) (by decide) (uh LgE) _ _,(h).2.1.others ((h).2.2.type_ne (h).2.1 (by decide)) _ _,?_⟩;exact (((h).2.2.own (n:=32) (by omega) (by omega)).store n (Sn.rE F n)).lie (by omega)
     have hrow:Hid (∀z,(Sn.Read w z P W R G o (406+n*11+11) F B5∧Lie z gC 5 384 (Byts (Sn.rc F))∧Lie z gE 70 352 (En.flat (Sn.fill (Sn.rE F) n)))→z.cell? ⟨gE,n*11,none⟩=some (.int .i64 (Sn.fill (Sn.rE F) n n 0))∧z.cell? ⟨gE,n*11+1,none⟩=some (.int .i64 (Sn.fill (Sn.rE F) n n 1))∧z.cell? ⟨gE,n*11+2,none⟩=some (.int .i64 (Sn.fill (Sn.rE F) n n 2))∧z.cell? ⟨gE,n*11+3,none⟩=some (.int .i64 (Sn.fill (Sn.rE F) n n 3))∧z.cell? ⟨gE,n*11+4,none⟩=some (.int .i64 (Sn.fill (Sn.rE F) n n 4))∧z.cell? ⟨gE,n*11+5,none⟩=some (.int .i64 (Sn.fill (Sn.rE F) n n 5))∧z.cell? ⟨gE,n*11+6,none⟩=some (.int .i64 (Sn.fill (Sn.rE F) n n 6))∧z.cell? ⟨gE,n*11+7,none⟩=some (.int .i64 (Sn.fill (Sn.rE F) n n 7))∧z.cell? ⟨gE,n*11+8,none⟩=some (.int .i64 (Sn.fill (Sn.rE F) n n 8))∧z.cell? ⟨gE,n*11+9,none⟩=some (.int .i64 (Sn.fill (Sn.rE F) n n 9))∧z.cell? ⟨gE,n*11+10,none⟩=some (.int .i64 (Sn.fill (Sn.rE F) n n 10))):=fun z h=>((h).2.2.own (n:=32) (by omega) (by omega)).ents.row (uh HL);clear hlt hn;go_upto_region 17 with fail;refine wp_region_till (h:=6) (S:=fun x=>x.cell? ⟨W,5,none⟩=some (.slice (some ⟨gE,0,none⟩) 32 32)) (by kernel_rfl) ?_;have hS0:=uh hb5 _ ((uh hX).1.box.on (uh hd));refine wtj 0 (v:=?_) [6] rfl (by kernel_rfl) (fun _ _ _ h=>h) hS0 ⟨by rfl,?_⟩ ?_;rotate_left
     ·intro x hSx;try dsimp only at hSx
      go_simp;try with_reducible rfl
     simp only [Act.put];refine wtj 1 (v:=?_) [6] rfl (by kernel_rfl) (fun _ _ _ h=>h) hS0 ⟨by rfl,?_⟩ ?_;rotate_left
     ·intro x hSx;try dsimp only at hSx
      go_simp;try with_reducible rfl
     simp only [Act.put];refine wtj 2 (v:=?_) [6] rfl (by kernel_rfl) (fun _ _ _ h=>h) hS0 ⟨by rfl,?_⟩ ?_;rotate_left
     ·intro x hSx;try dsimp only at hSx
      go_simp;try with_reducible rfl
     simp only [Act.put];refine wto (j:=3) (by kernel_rfl) rfl (fun K hK=>?_);go_simp;refine (uh cn _ (uh hd)).mono ?_;rintro e0 y ⟨u,C,rfl,hC,hy,hRd⟩;have hY:=hide (uh hst _ _ u _ (uh hon _ _ _ (uh hX) (uh hd)) hy _ hRd);have hS3:=uh hb5 _ (uh hY).1.box;clear hC hy hRd;try go_simp
     refine hK.out _ _ (fun _=>hS3) ?_;clear hK K;refine wto (j:=4) (by kernel_rfl) rfl (fun K hK=>?_);go_simp;refine (uh ce _ _ (uh hY).1.src).mono ?_;rintro e0 y2 ⟨rfl,hg4⟩;have hY2:=hide (uh hon _ _ _ (uh hY) hg4);have hS4:=uh hb5 _ (uh hY2).1.box;obtain ⟨r0,r1,r2,r3,r4,r5,r6,r7,r8,r9,r10⟩:=uh hrow _ (uh hY2);have fE:=(uh hY2).2.2.free;have hX2:=hide (uh hput _ (uh hY2));clear hg4 hY;try go_simp
     refine hK.out _ _ (fun _=>hS4) ?_;clear hK K;refine wtj 5 (v:=?_) [6] rfl (by kernel_rfl) (fun _ _ _ h=>h) hS4 ⟨by rfl,?_⟩ ?_;rotate_left
     ·intro x hSx;try dsimp only at hSx
      go_simp;try with_reducible rfl
     simp only [Act.put];refine wto (j:=6) (by kernel_rfl) rfl (fun K hK=>?_);go_simp;refine hK.out _ _ (fun hx=>absurd (hx.symm.trans (by kernel_rfl)) Bool.false_ne_true) ?_;clear hK K;refine wpTill_done (by kernel_rfl) ?_ _;clear cn ce hst hon hrow hput hS4 hS3 r0 r1 r2 r3 r4 r5 r6 r7 r8 r9 r10 fE hX hd hY2;go_wp2;go_roundw;case rel=>exact ⟨n+1,by have:=uh HL;omega,by go_num,hX2⟩
     case measure=>simp [intOf];have:=uh HL;omega
    ·obtain rfl:n=32:=by omega
     have hge:¬((32:Nat):Int)<32:=by omega
     clear hlt hn;have hZ:=hX;clear hX;go_upto_region 19 with fail;obtain ⟨Z6,hm6,hZ6⟩:=make40;obtain ⟨gI,hgI⟩:∃b,wr.heap.size=b:=⟨_,rfl⟩;obtain ⟨wm,hwm⟩:∃wm,wm=wr.alloc (.cells Z6 72):=⟨_,rfl⟩;have hga:wr.grownBy wm none:=by rw [hwm];exact World.grownBy_alloc _ _ _
     have hl6:Lie wm gI 72 160 (Gd.flat fun _ _=>0):=by
      rw [←hgI,hwm];exact hZ6 wr
     have hmx:=hm6 wr;rw [←hwm,hgI] at hmx;have hb:=hide ((uh hZ).1.on hga);have fW:=(uh hb).box.free;have zW:=(uh hb).box.cell (c:=6) (by omega);obtain ⟨B6,hB6⟩:∃B,B=Sn.put (B5) 6 (.slice (some ⟨gI,0,none⟩) 40 40):=⟨_,rfl⟩;have LgI:Hid (w.heap.size≤gI):=(show w.heap.size≤gI by have:=(uh hZ).1.grown.size;omega);have hQ:Hid (Sn.Read w (wm.setCell ⟨W,6,none⟩ (.slice (some ⟨gI,0,none⟩) 40 40)) P W R G o (758) F B6∧Lie (wm.setCell ⟨W,6,none⟩ (.slice (some ⟨gI,0,none⟩) 40 40)) gC 5 384 (Byts (Sn.rc F))∧Lie (wm.setCell ⟨W,6,none⟩ (.slice (some ⟨gI,0,none⟩) 40 40)) gE 70 352 (En.flat (Sn.fill (Sn.rE F) 32))∧Lie (wm.setCell ⟨W,6,none⟩ (.slice (some ⟨gI,0,none⟩) 40 40)) gI 72 160 (Gd.flat (Sn.fill (Sn.rI F) 0))):=by
      have hz:=uh hZ;exact ⟨by rw [hB6];exact (uh hb).field 6 _,(hz.2.1.on hga).other ((hz.2.1.on hga).type_ne (uh hb).box (by decide)).symm _ _,(hz.2.2.on hga).other ((hz.2.2.on hga).type_ne (uh hb).box (by decide)).symm _ _,by rw [Sn.fill_none];exact hl6.other (hl6.type_ne (uh hb).box (by decide)).symm _ _⟩
     have HB6:=hide hB6;clear hga hl6 hZ6 hB6 hm6 hb hgI hwm;go_upto_region 20 with fail;generalize (wm.setCell ⟨W,6,none⟩ (.slice (some ⟨gI,0,none⟩) 40 40))=wrn at hQ ⊢;clear hmx hZ fW zW;have hb5:Hid (∀z,Lie z W 30 11 B6→z.cell? ⟨W,6,none⟩=some (.slice (some ⟨gI,0,none⟩) 40 40)):=fun z hz=>by
      rw [hz.cell (c:=6) (by omega),uh HB6];rfl
     have zB:=uh hb5 _ (uh hQ).1.box;go_wp2_with fail
     go_loopw [7,54] (fun vo vl wr=>∃n:Nat,n≤40∧vl=.int .i64 (n:Int)∧Hid (Sn.Read w wr P W R G o (758+n*4) F B6∧Lie wr gC 5 384 (Byts (Sn.rc F))∧Lie wr gE 70 352 (En.flat (Sn.fill (Sn.rE F) 32))∧Lie wr gI 72 160 (Gd.flat (Sn.fill (Sn.rI F) n)))) (fun _ vl _=>60 - (intOf vl).toNat)
     case atStart=>exact ⟨0,by omega,rfl,hQ⟩
     case round =>
      clear hQ zB;obtain ⟨n,hn,rfl,hX⟩:=hrel;by_cases hlt:n<40
      ·have hlt':(n:Int)<40:=by omega
       have HL:=hide hlt;have hd:=hide (gd1 (World.grownBy.refl wr none));have hon:Hid (∀y z kk,(Sn.Read w y P W R G o (kk) F B6∧Lie y gC 5 384 (Byts (Sn.rc F))∧Lie y gE 70 352 (En.flat (Sn.fill (Sn.rE F) 32))∧Lie y gI 72 160 (Gd.flat (Sn.fill (Sn.rI F) n)))→y.grownBy z none→(Sn.Read w z P W R G o (kk) F B6∧Lie z gC 5 384 (Byts (Sn.rc F))∧Lie z gE 70 352 (En.flat (Sn.fill (Sn.rE F) 32))∧Lie z gI 72 160 (Gd.flat (Sn.fill (Sn.rI F) n)))):=fun y z kk h hg=>⟨h.1.on hg,(h).2.1.on hg,(h).2.2.1.on hg,(h).2.2.2.on hg⟩;have hst:Hid (∀y z u kk,(Sn.Read w y P W R G o (kk) F B6∧Lie y gC 5 384 (Byts (Sn.rc F))∧Lie y gE 70 352 (En.flat (Sn.fill (Sn.rE F) 32))∧Lie y gI 72 160 (Gd.flat (Sn.fill (Sn.rI F) n)))→z=y.setCell ⟨R,0,none⟩ u→∀k2,Sn.Rd z R G o k2→(Sn.Read w z P W R G o (k2) F B6∧Lie z gC 5 384 (Byts (Sn.rc F))∧Lie z gE 70 352 (En.flat (Sn.fill (Sn.rE F) 32))∧Lie z gI 72 160 (Gd.flat (Sn.fill (Sn.rI F) n)))):=fun y z u kk h hz k2 hr=>by
        obtain ⟨p,C,hc,-⟩:=h.1.rd.cell;refine ⟨h.1.step hz hr,?_,?_,?_⟩
        ·rw [hz];exact (h).2.1.other ((h).2.1.type_ne hc (by decide)).symm _ _
        ·rw [hz];exact (h).2.2.1.other ((h).2.2.1.type_ne hc (by decide)).symm _ _
        ·rw [hz];exact (h).2.2.2.other ((h).2.2.2.type_ne hc (by decide)).symm _ _
       have cn:Hid (∀z,wr.grownBy z none→Calls Tryz.prog 94 #[.pointer (some ⟨R,0,none⟩),.int .i64 ((4:Nat):Int)] z (Sn.Goes z R G o (758+n*4) 4)):=fun z hz=>snNext_any R G o (758+n*4) 4 z ((uh hX).1.rd.on hz) (by omega) (by have:=uh HL;omega);have ce:=hide (fun z C (hz:Sn.Src z G o F)=>itemOf_any G o (758+n*4) C F z hz (by have:=uh HL;omega));have hput:Hid (∀z,(Sn.Read w z P W R G o (758+n*4+4) F B6∧Lie z gC 5 384 (Byts (Sn.rc F))∧Lie z gE 70 352 (En.flat (Sn.fill (Sn.rE F) 32))∧Lie z gI 72 160 (Gd.flat (Sn.fill (Sn.rI F) n)))→(Sn.Read w (z.setCells gI (n*4) (#[.int .i64 (F (758+n*4)),.int .i64 (F (758+n*4+1)),.int .i64 (F (758+n*4+2)),.int .i64 (F (758+n*4+3))]:Array Value).toList) P W R G o (758+(n+1)*4) F B6∧Lie (z.setCells gI (n*4) (#[.int .i64 (F (758+n*4)),.int .i64 (F (758+n*4+1)),.int .i64 (F (758+n*4+2)),.int .i64 (F (758+n*4+3))]:Array Value).toList) gC 5 384 (Byts (Sn.rc F))∧Lie (z.setCells gI (n*4) (#[.int .i64 (F (758+n*4)),.int .i64 (F (758+n*4+1)),.int .i64 (F (758+n*4+2)),.int .i64 (F (758+n*4+3))]:Array Value).toList) gE 70 352 (En.flat (Sn.fill (Sn.rE F) 32))∧Lie (z.setCells gI (n*4) (#[.int .i64 (F (758+n*4)),.int .i64 (F (758+n*4+1)),.int .i64 (F (758+n*4+2)),.int .i64 (F (758+n*4+3))]:Array Value).toList) gI 72 160 (Gd.flat (Sn.fill (Sn.rI F) (n+1))))):=fun z h=>by
        rw [show 758+(n+1)*4=758+n*4+4 by omega,←Sn.fill_more (Sn.rI F) n];refine ⟨h.1.rows (h).2.2.2 (by decide) (by decide) (uh LgI) _ _,(h).2.1.others ((h).2.2.2.type_ne (h).2.1 (by decide)) _ _,(h).2.2.1.others ((h).2.2.2.type_ne (h).2.2.1 (by decide)) _ _,?_⟩;exact (h).2.2.2.item n (Sn.rI F n)
       have hrow:Hid (∀z,(Sn.Read w z P W R G o (758+n*4+4) F B6∧Lie z gC 5 384 (Byts (Sn.rc F))∧Lie z gE 70 352 (En.flat (Sn.fill (Sn.rE F) 32))∧Lie z gI 72 160 (Gd.flat (Sn.fill (Sn.rI F) n)))→z.cell? ⟨gI,n*4,none⟩=some (.int .i64 (Sn.fill (Sn.rI F) n n 0))∧z.cell? ⟨gI,n*4+1,none⟩=some (.int .i64 (Sn.fill (Sn.rI F) n n 1))∧z.cell? ⟨gI,n*4+2,none⟩=some (.int .i64 (Sn.fill (Sn.rI F) n n 2))∧z.cell? ⟨gI,n*4+3,none⟩=some (.int .i64 (Sn.fill (Sn.rI F) n n 3))):=fun z h=>((h).2.2.2.its (n:=40) (by omega) (by omega)).row (uh HL);clear hlt hn;go_upto_region 23 with fail;refine wp_region_till (h:=6) (S:=fun x=>x.cell? ⟨W,6,none⟩=some (.slice (some ⟨gI,0,none⟩) 40 40)) (by kernel_rfl) ?_;have hS0:=uh hb5 _ ((uh hX).1.box.on (uh hd));refine wtj 0 (v:=?_) [6] rfl (by kernel_rfl) (fun _ _ _ h=>h) hS0 ⟨by rfl,?_⟩ ?_;rotate_left
       ·intro x hSx;try dsimp only at hSx
        go_simp;try with_reducible rfl
       simp only [Act.put];refine wtj 1 (v:=?_) [6] rfl (by kernel_rfl) (fun _ _ _ h=>h) hS0 ⟨by rfl,?_⟩ ?_;rotate_left
       ·intro x hSx;try dsimp only at hSx
        go_simp;try with_reducible rfl
       simp only [Act.put];refine wtj 2 (v:=?_) [6] rfl (by kernel_rfl) (fun _ _ _ h=>h) hS0 ⟨by rfl,?_⟩ ?_;rotate_left
       ·intro x hSx;try dsimp only at hSx
        go_simp;try with_reducible rfl
       simp only [Act.put];refine wto (j:=3) (by kernel_rfl) rfl (fun K hK=>?_);go_simp;refine (uh cn _ (uh hd)).mono ?_;rintro e0 y ⟨u,C,rfl,hC,hy,hRd⟩;have hY:=hide (uh hst _ _ u _ (uh hon _ _ _ (uh hX) (uh hd)) hy _ hRd);have hS3:=uh hb5 _ (uh hY).1.box;clear hC hy hRd;try go_simp
       refine hK.out _ _ (fun _=>hS3) ?_;clear hK K;refine wto (j:=4) (by kernel_rfl) rfl (fun K hK=>?_);go_simp;refine (uh ce _ _ (uh hY).1.src).mono ?_;rintro e0 y2 ⟨rfl,hg4⟩;have hY2:=hide (uh hon _ _ _ (uh hY) hg4);have hS4:=uh hb5 _ (uh hY2).1.box;obtain ⟨r0,r1,r2,r3⟩:=uh hrow _ (uh hY2);have fE:=(uh hY2).2.2.2.free;have hX2:=hide (uh hput _ (uh hY2));clear hg4 hY;try go_simp
       refine hK.out _ _ (fun _=>hS4) ?_;clear hK K;refine wtj 5 (v:=?_) [6] rfl (by kernel_rfl) (fun _ _ _ h=>h) hS4 ⟨by rfl,?_⟩ ?_;rotate_left
       ·intro x hSx;try dsimp only at hSx
        go_simp;try with_reducible rfl
       simp only [Act.put];refine wto (j:=6) (by kernel_rfl) rfl (fun K hK=>?_);go_simp;refine hK.out _ _ (fun hx=>absurd (hx.symm.trans (by kernel_rfl)) Bool.false_ne_true) ?_;clear hK K;refine wpTill_done (by kernel_rfl) ?_ _;clear cn ce hst hon hrow hput hS4 hS3 r0 r1 r2 r3 fE hX hd hY2;go_wp2;go_roundw;case rel=>exact ⟨n+1,by have:=uh HL;omega,by go_num,hX2⟩
       case measure=>simp [intOf];have:=uh HL;omega
      ·obtain rfl:n=40:=by omega
       have hge:¬((40:Nat):Int)<40:=by omega
       clear hlt hn;have hbox:Lie wr W 30 11 (Gd.box (Sn.rs F) gC gE gI 384 32 40 (Sn.rg F)):=by
        refine (uh hX).1.box.congr fun c hc=>?_;rw [uh HB6,uh HB5,uh HH,←uh HZ];have q8:=Sn.be_bound 8 F 0 (fun j _=>(uh hX).1.src.byte _);have q4:=Sn.be_bound 4 F 8 (fun j _=>(uh hX).1.src.byte _);have f12:=(uh hX).1.src.byte 12;have f13:=(uh hX).1.src.byte 13;have e0:V0=Sn.rs F 0:=by
         rw [←uh hv0,IntKind.wrap_i64];show _=if Sn.be (Sn.cut F 0 8)<9223372036854775808 then _ else _
         split <;> omega
        have e1:V1=Sn.rs F 1:=by
         rw [←uh hv1,IntKind.wrap_i64];show _=Sn.be (Sn.cut F 8 4);omega
        have e2:V2=Sn.rs F 2:=by
         rw [←uh hv2,IntKind.wrap_i64];show _=F 12;have:Sn.be (Sn.cut F 12 1)=F 12:=by simp [Sn.be,Sn.cut]
         omega
        have e3:V3=Sn.rs F 3:=by
         rw [←uh hv3,IntKind.wrap_i64];show _=F 13;have:Sn.be (Sn.cut F 13 1)=F 13:=by simp [Sn.be,Sn.cut]
         omega
        rw [e0,e1,e2,e3];rcases (show c=0∨c=1∨c=2∨c=3∨c=4∨c=5∨c=6∨c=7∨c=8∨c=9∨c=10 by omega) with rfl|rfl|rfl|rfl|rfl|rfl|rfl|rfl|rfl|rfl|rfl <;> rfl
       have hfo:Hid (∀vs,Gd.Worlds w (Sn.rs F) (Sn.rg F) (Sn.rc F) (Sn.rE F) (Sn.rI F) (.returned (.agg (Gd.world (Sn.rs F) gC gE gI 384 32 40 (Sn.rg F)))) (wr.setCells P 0 vs)):=fun vs=>by
        have h:=uh hX;have hE:Lie wr gE 70 352 (En.flat (Sn.rE F)):=h.2.2.1.congr fun c hc=>by
         show Value.int .i64 (Sn.fill (Sn.rE F) 32 (c / 11) (c % 11))=.int .i64 (Sn.rE F (c / 11) (c % 11));unfold Sn.fill;rw [if_pos (by omega)]
        have hI:Lie wr gI 72 160 (Gd.flat (Sn.rI F)):=h.2.2.2.congr fun c hc=>by
         show Value.int .i64 (Sn.fill (Sn.rI F) 40 (c / 4) (c % 4))=.int .i64 (Sn.rI F (c / 4) (c % 4));unfold Sn.fill;rw [if_pos (by omega)]
        exact ⟨gC,gE,gI,384,32,40,rfl,by omega,uh LC,uh LgE,uh LgI,h.2.1.type_ne hE (by decide),h.2.1.type_ne hI (by decide),hE.type_ne hI (by decide),⟨h.2.1.others (h.1.res.type_ne h.2.1 (by decide)) _ _,hE.others (h.1.res.type_ne hE (by decide)) _ _,hI.others (h.1.res.type_ne hI (by decide)) _ _⟩,own_sets h.1.lP vs 0 wr h.1.grown⟩
       obtain ⟨b0,b1,b2,b3,b4,b5,b6,b7,b8,b9,b10⟩:=hbox.eleven;have fz:=(uh hX).1.res.free;obtain ⟨z0,z1,z2,z3,z4,z5,z6,z7,z8,z9,z10⟩:=Gd.res_cells (uh hX).1.res;generalize Sn.rs F=sF at *
       generalize Sn.rg F=gF at *
       clear hbox hX hb5 hge HB5 HB6 HH HZ hv0 hv1 hv2 hv3;go_wp2;refine bodyPost_ret (v:=.agg (Gd.world sF gC gE gI 384 32 40 gF)) (by simp [results,Tryz.results57,go_sem,Gd.world,z0,z1,z2,z3,z4,z5,z6,z7,z8,z9,z10]) rfl ?_;exact uh hfo [_,_,_,_,_,_,_,_,_,_,_]


open Go.RowKit

def Sn.void:Array Value:=#[.int .i64 0,.int .i64 0,.int .i64 0,.int .i64 0,.slice none 0 0,.slice none 0 0,.slice none 0 0,.int .i64 0,.int .i64 0,.int .i64 0,Value.int .i64 0]

set_option maxRecDepth 8000 in
set_option maxHeartbeats 3200000 in
theorem decode_short (a:Option Addr) (n cap:Nat) (w:World) (hn:n≠918) :
  Calls Tryz.prog 28 #[.slice a n cap] w fun e w'=>e=.returned (.tuple #[.agg Sn.void,.int .i64 (if n<918 then 7 else 8)])∧w.grownBy w' none:=by
 obtain ⟨w0,hw0⟩:∃w0,w0=w.alloc (.cells #[.int .i64 0,.int .i64 0,.int .i64 0,.int .i64 0,.slice none 0 0,.slice none 0 0,.slice none 0 0,.int .i64 0,.int .i64 0,.int .i64 0,.int .i64 0] 30):=⟨_,rfl⟩;have hg0:w.grownBy w0 none:=by rw [hw0];exact World.grownBy_alloc _ _ _
 obtain ⟨P,hP⟩:∃P,w.heap.size=P:=⟨_,rfl⟩;have hR:Lie w0 P 30 11 (fun j=>#[.int .i64 0,.int .i64 0,.int .i64 0,.int .i64 0,.slice none 0 0,.slice none 0 0,.slice none 0 0,.int .i64 0,.int .i64 0,.int .i64 0,Value.int .i64 0][j]?.getD undef):=by
  rw [hw0,←hP];exact (Arr.lit (heap_alloc_new w _)).lie
 have fz:=hR.free;obtain ⟨z0,z1,z2,z3,z4,z5,z6,z7,z8,z9,z10⟩:=Gd.res_cells hR;have hgo:Hid (∀l,w.grownBy (w0.setCells P 0 l) none):=fun l=>own_sets (by omega) l 0 w0 hg0;have HP:=hide hP;clear hg0 hR hP;by_cases h1:n<918
 ·have h1':(n:Int)<918:=by omega
  rw [if_pos h1];clear h1 hn;go_enter Tryz.func28,Tryz.ntmps28;go_upto_region 1 with fail;rw [←hw0,uh HP];clear hw0 HP;go_wp2;refine bodyPost_ret (v:=.tuple #[.agg Sn.void,.int .i64 7]) (by simp [results,Tryz.results28,go_sem,Sn.void,z0,z1,z2,z3,z4,z5,z6,z7,z8,z9,z10]) rfl ?_;exact ⟨rfl,uh hgo [_,_,_,_,_,_,_,_,_,_,_]⟩
 ·have h1':¬(n:Int)<918:=by omega
  have h2':(n:Int) > 918:=by omega
  rw [if_neg h1];clear h1 hn;go_enter Tryz.func28,Tryz.ntmps28;go_upto_region 1 with fail;rw [←hw0,uh HP];clear hw0 HP;go_wp2;refine bodyPost_ret (v:=.tuple #[.agg Sn.void,.int .i64 8]) (by simp [results,Tryz.results28,go_sem,Sn.void,z0,z1,z2,z3,z4,z5,z6,z7,z8,z9,z10]) rfl ?_;exact ⟨rfl,uh hgo [_,_,_,_,_,_,_,_,_,_,_]⟩

theorem Sn.worlds_congr {w w':World} {e:Ending} {s s' g g' c c':Nat→Int} {E E' I I':Nat→Nat→Int} (h:Gd.Worlds w s g c E I e w') (hs:∀k,k<4→s k=s' k) (hg:∀k,k<4→g k=g' k) (hc:∀k,k<384→c k=c' k) (hE:∀i j,i<32→j<11→E i j=E' i j) (hI:∀i j,i<40→j<4→I i j=I' i j):Gd.Worlds w s' g' c' E' I' e w':=by
 obtain ⟨gC,gE,gI,cC,cE,cI,rfl,h1,h2,h3,h4,h5,h6,h7,hL,hg2⟩:=h;refine ⟨gC,gE,gI,cC,cE,cI,?_,h1,h2,h3,h4,h5,h6,h7,⟨hL.cells.congr fun k hk=>?_,hL.ents.congr fun k hk=>?_,hL.items.congr fun k hk=>?_⟩,hg2⟩
 ·unfold Gd.world;rw [hs 0 (by omega),hs 1 (by omega),hs 2 (by omega),hs 3 (by omega),hg 0 (by omega),hg 1 (by omega),hg 2 (by omega),hg 3 (by omega)]
 ·show Value.int .u8 (c k)=.int .u8 (c' k);rw [hc k hk]
 ·show Value.int .i64 (E (k / 11) (k % 11))=.int .i64 (E' (k / 11) (k % 11));rw [hE _ _ (by omega) (by omega)]
 ·show Value.int .i64 (I (k / 4) (k % 4))=.int .i64 (I' (k / 4) (k % 4));rw [hI _ _ (by omega) (by omega)]

def Sn.Decodes (w:World) (s g c:Nat→Int) (E I:Nat→Nat→Int) (e:Ending) (w':World):Prop :=
 ∃r,Sn.Chk s g c E I r∧((r≠0∧e=.returned (.tuple #[.agg Sn.void,.int .i64 r])∧w.grownBy w' none) ∨
  (r=0∧∃v,e=.returned (.tuple #[v,.int .i64 0])∧Gd.Worlds w s g c E I (.returned v) w'))

set_option maxRecDepth 8000 in
set_option maxHeartbeats 6400000 in
theorem decode_any (G o cap:Nat) (F sF gF cF:Nat→Int) (eF iF:Nat→Nat→Int) (w:World) (hS:Sn.Src w G o F) (hc:918≤cap) (hm:cap≤9223372036854775807) (qs:∀k,k<4→Sn.rs F k=sF k) (qg:∀k,k<4→Sn.rg F k=gF k) (qc:∀k,k<384→Sn.rc F k=cF k) (qE:∀i j,i<32→j<11→Sn.rE F i j=eF i j) (qI:∀i j,i<40→j<4→Sn.rI F i j=iF i j) (hby':∀i,0≤cF i∧cF i≤255) :
  Calls Tryz.prog 28 #[.slice (some ⟨G,o,none⟩) 918 cap] w (Sn.Decodes w sF gF cF eF iF):=by
 obtain ⟨w0,hw0⟩:∃w0,w0=w.alloc (.cells #[.int .i64 0,.int .i64 0,.int .i64 0,.int .i64 0,.slice none 0 0,.slice none 0 0,.slice none 0 0,.int .i64 0,.int .i64 0,.int .i64 0,.int .i64 0] 30):=⟨_,rfl⟩;have hg0:w.grownBy w0 none:=by rw [hw0];exact World.grownBy_alloc _ _ _
 obtain ⟨P,hP⟩:∃P,w.heap.size=P:=⟨_,rfl⟩;have hR:Lie w0 P 30 11 (fun j=>#[.int .i64 0,.int .i64 0,.int .i64 0,.int .i64 0,.slice none 0 0,.slice none 0 0,.slice none 0 0,.int .i64 0,.int .i64 0,.int .i64 0,Value.int .i64 0][j]?.getD undef):=by
  rw [hw0,←hP];exact (Arr.lit (heap_alloc_new w _)).lie
 have hby:=hide hby';have cr:=hide ((snReads_any G o cap F w0 (hS.on hg0 (by simp)) hc hm).mono fun e x h=>Sn.worlds_congr h qs qg qc qE qI);obtain ⟨D,hD⟩:∃D,Sn.Decodes w sF gF cF eF iF=D:=⟨_,rfl⟩;have hD1:Hid (∀r x,Sn.Chk sF gF cF eF iF r→r≠0→w.grownBy x none→D (.returned (.tuple #[.agg Sn.void,.int .i64 r])) x):=fun r x h1 h2 h3=>by
  rw [←hD];exact ⟨r,h1,.inl ⟨h2,rfl,h3⟩⟩
 have hD0:Hid (∀v x,Sn.Chk sF gF cF eF iF 0→Gd.Worlds w sF gF cF eF iF (.returned v) x→D (.returned (.tuple #[v,.int .i64 0])) x):=fun v x h1 h2=>by
  rw [←hD];exact ⟨0,h1,.inr ⟨rfl,v,rfl,h2⟩⟩
 rw [hD];have HP:=hide hP;have HR:=hide hR;have HG:=hide hg0;clear hg0 hR hP hS hc hm hD qs qg qc qE qI hby';go_enter Tryz.func28,Tryz.ntmps28;go_upto_region 1 with fail;rw [←hw0,uh HP];clear hw0;go_wp2_with fail;refine (uh cr).mono ?_;rintro e w1 ⟨gC,gE,gI,cC,cE,cI,rfl,hcE,l1,l2,l3,n1,n2,n3,hL,hg1⟩;have hW0:Hid (Gd.Worlds w0 sF gF cF eF iF (.returned (.agg (Gd.world sF gC gE gI cC cE cI gF))) w1):=⟨gC,gE,gI,cC,cE,cI,rfl,hcE,l1,l2,l3,n1,n2,n3,hL,hg1⟩;obtain ⟨w2,hw2⟩:∃w2,w2=w1.alloc (.cells (Gd.world sF gC gE gI cC cE cI gF) 30):=⟨_,rfl⟩;have hg2:w1.grownBy w2 none:=by rw [hw2];exact World.grownBy_alloc _ _ _
 have hB:Hid (Lie w2 w1.heap.size 30 11 (Gd.box sF gC gE gI cC cE cI gF)):=by show Lie w2 _ _ _ _;rw [hw2];exact (Arr.world (heap_alloc_new w1 _)).lie
 have HR2:=hide ((uh HR).on (gtr hg1 hg2));have HG2:=hide (gtr (uh HG) (gtr hg1 hg2));have HL2:=hide (hL.on hg2);have cc:=hide (snCheck_any sF gF cF eF iF gC gE gI cC cE cI w2 (uh HL2) (uh hby) hcE);have HX:Hid (32≤cE∧w0.heap.size≤gC∧w0.heap.size≤gE∧w0.heap.size≤gI∧gC≠gE∧gC≠gI∧gE≠gI):=⟨hcE,l1,l2,l3,n1,n2,n3⟩;clear hcE l1 l2 l3 n1 n2 n3 hL hg1 hg2 cr HR hW0;unfold Gd.world at hw2 cc ⊢;go_upto_region 6 with fail;rw [←hw2];clear hw2;obtain ⟨B,hBe⟩:∃B,w1.heap.size=B:=⟨_,rfl⟩;rw [hBe] at hB ⊢;clear hBe w1;obtain ⟨b0,b1,b2,b3,b4,b5,b6,b7,b8,b9,b10⟩:=(uh hB).eleven;go_wp2_with fail;refine (uh cc).mono ?_;rintro e w3 ⟨r,rfl,hr,hg3⟩;have HR3:=hide ((uh HR2).on hg3);have HG3:=hide (gtr (uh HG2) hg3);have HL3:=hide ((uh HL2).on hg3);have hB3:=hide ((uh hB).on hg3);have hr':=hide hr;clear hg3 hr cc HR2 HG2 HL2 hB b0 b1 b2 b3 b4 b5 b6 b7 b8 b9 b10;have fz:=(uh HR3).free;obtain ⟨z0,z1,z2,z3,z4,z5,z6,z7,z8,z9,z10⟩:=Gd.res_cells (uh HR3);by_cases h0:r=0
 ·subst h0;have hPl:Hid (w.heap.size≤P):=(show w.heap.size≤P by have:=uh HP;omega);have hfo:Hid (∀vs,D (.returned (.tuple #[.agg (Gd.world sF gC gE gI cC cE cI gF),.int .i64 0])) (w3.setCells P 0 vs)):=fun vs=>by
   obtain ⟨x1,x2,x3,x4,x5,x6,x7⟩:=uh HX;have hs:=(uh HG).size;have h:=uh HL3;have hr:=uh HR3;refine uh hD0 _ _ (uh hr') ⟨gC,gE,gI,cC,cE,cI,rfl,x1,by omega,by omega,by omega,x5,x6,x7,⟨h.cells.others (hr.type_ne h.cells (by decide)) _ _,h.ents.others (hr.type_ne h.ents (by decide)) _ _,h.items.others (hr.type_ne h.items (by decide)) _ _⟩,own_sets (uh hPl) vs 0 w3 (uh HG3)⟩
  obtain ⟨b0,b1,b2,b3,b4,b5,b6,b7,b8,b9,b10⟩:=(uh hB3).eleven;clear HX HL3 HR3 HG3 hB3 hD0 hD1 hr' hby;go_wp2;refine bodyPost_ret (v:=.tuple #[.agg (Gd.world sF gC gE gI cC cE cI gF),.int .i64 0]) (by simp [results,Tryz.results28,go_sem,Gd.world,z0,z1,z2,z3,z4,z5,z6,z7,z8,z9,z10]) rfl ?_;exact uh hfo [_,_,_,_,_,_,_,_,_,_,_]
 ·have h0':(r != 0)=true:=by simp [h0]
  have hPl:Hid (w.heap.size≤P):=(show w.heap.size≤P by have:=uh HP;omega);have hfo:Hid (∀vs,D (.returned (.tuple #[.agg Sn.void,.int .i64 r])) (w3.setCells P 0 vs)):=fun vs=>uh hD1 r _ (uh hr') h0 (own_sets (uh hPl) vs 0 w3 (uh HG3));clear HX HL3 HR3 HG3 hB3 hD0 hD1 hr' h0 hby;go_wp2;refine bodyPost_ret (v:=.tuple #[.agg Sn.void,.int .i64 r]) (by simp [results,Tryz.results28,go_sem,Sn.void,z0,z1,z2,z3,z4,z5,z6,z7,z8,z9,z10]) rfl ?_;exact uh hfo [_,_,_,_,_,_,_,_,_,_,_]

end Go.Proofs.YtldgbkjceildfaaGreat
