import Derived.Test.YtepppmepilffcaaGreatPw22
import Derived.Laws.Bits64b
import Derived.BigRegion
namespace Go.Proofs.YtepppmepilffcaaGreat
open Go.RowKit

theorem make918:∃Z:Array Value,Z.size=918∧∀w:World,(Instr.makeSlice 26 (.int .i64 0) (.int .i64 918)).run Tryz.prog w=.ok (.slice (some ⟨w.heap.size,0,none⟩) 0 918) (w.alloc (.cells Z 5)):=by
 obtain ⟨i0,hi,hz0,hz1,hz2⟩:=info_parts info_byte
 refine ⟨madeCells (Value.int .u8 0).cells (918*1),by rw [size_madeCells],fun w=>?_⟩
 have hr:=run_make (P:=Tryz.prog) w 26 5 i0 _ Tryz.underlying26 hi hz0 .i64 .i64 (0:Nat) (918:Nat) (by omega) (by omega) (by rw [hz2];decide) (by decide)
 rw [hz1] at hr
 exact hr

theorem Sn.wrap64 (x:Int):IntKind.u64.wrap x=x % 18446744073709551616:=IntKind.wrap_u64 x

theorem Sn.wrap8 (x:Int):IntKind.u8.wrap x=x % 256:=IntKind.wrap_u8 x

structure Sn.Wr (w x:World) (base:Nat) (v:Value) (l:List Int):Prop where
 own:Sn.Bytes x base v l
 bel:Below base w x

theorem Sn.Wr.top {w x:World} {base:Nat} {v:Value} {l:List Int} (h:Sn.Wr w x base v l) (hb:base≤w.heap.size):base≤x.heap.size:=Nat.le_trans hb h.bel.size

theorem Sn.Wr.more {w x y x':World} {base m:Nat} {v v':Value} {l ns:List Int} (h:Sn.Wr w x base v l) (hb:base≤w.heap.size) (hxy:x.grownBy y none) (hown:x'.ownsRow base 5 1 v' (l.length+m) (List.map (Value.int .u8) l ++ ns.map (Value.int .u8))) (hm:ns.length=m) (hg:y.grownBy x' v.ownBlock):Sn.Wr w x' base v' (l ++ ns):=by
 refine ⟨?_,?_⟩
 ·unfold Sn.Bytes
  rw [List.length_append,hm,List.map_append]
  exact hown
 ·have hb1:Below base x y:=Sn.below hxy (fun k e=>by cases e) (h.top hb)
  have hb2:=Sn.below hg (fun k e=>(h.own.lt k e).1) (Nat.le_trans (h.top hb) hb1.size)
  exact h.bel.trans (hb1.trans hb2)

theorem Sn.Wr.on {w x y:World} {base:Nat} {v:Value} {l:List Int} (h:Sn.Wr w x base v l) (hb:base≤w.heap.size) (hg:x.grownBy y none):Sn.Wr w y base v l :=
 ⟨h.own.on hg,h.bel.trans (Sn.below hg (fun k e=>by cases e) (h.top hb))⟩

theorem Sn.Wr.adds {w x x':World} {base:Nat} {v v':Value} {l l':List Int} (h:Sn.Wr w x base v l) (hown:Sn.Bytes x' base v' l') (hb:Below base x x'):Sn.Wr w x' base v' l':=⟨hown,h.bel.trans hb⟩

theorem Sn.cells_src {w:World} {G:Nat} {c:Nat→Int} (h:Lie w G 5 384 (Byts c)):∀j u,(((List.range 384).map c).map (Value.int .u8))[j]?=some u→w.cell? ((⟨G,0,none⟩:Addr).add j)=some u:=by
 intro j u hj
 have hlt:j<384:=by
  have:=(List.getElem?_eq_some_iff.1 hj).1
  simpa using this
 rw [show (⟨G,0,none⟩:Addr).add j=⟨G,j,none⟩ by rw [Go.WideShapes.add_plain,Nat.zero_add],h.cell hlt]
 rw [List.getElem?_map,List.getElem?_map,List.getElem?_range hlt] at hj
 exact hj

theorem Sn.news (w:World) (arr:Array Value) (T:TypeId) (B:Nat) (hB:B=w.heap.size):∀j u,arr.toList[j]?=some u→(w.alloc (.cells arr T)).cell? ((⟨B,0,none⟩:Addr).add j)=some u:=by
 subst hB
 intro j u hj
 have hlt:j<arr.size:=by
  have:=(List.getElem?_eq_some_iff.1 hj).1
  simpa using this
 rw [show (⟨w.heap.size,0,none⟩:Addr).add j=⟨w.heap.size,j,none⟩ by rw [Go.WideShapes.add_plain,Nat.zero_add],(Arr.lit (heap_alloc_new w (.cells arr T))).cell hlt]
 rw [Array.getElem?_toList] at hj
 rw [hj]
 rfl

set_option maxRecDepth 16000 in
set_option maxHeartbeats 6400000 in
theorem written_any (s g c:Nat→Int) (E I:Nat→Nat→Int) (gC gE gI cC cE cI:Nat) (w:World) (hL:Gd.Lists w gC gE gI c E I) :
  Calls Tryz.prog 23 #[.agg (Gd.world s gC gE gI cC cE cI g)] w fun e w'=>∃v,e=.returned v∧Sn.Bytes w' w.heap.size v (Sn.bytes s g c E I)∧w.grownBy w' none:=by
 obtain ⟨w0,hw0⟩:∃w0,w0=w.alloc (.cells (Gd.world s gC gE gI cC cE cI g) 31):=⟨_,rfl⟩
 have hg0:w.grownBy w0 none:=by rw [hw0];exact World.grownBy_alloc _ _ _
 have hO:Hid (Sn.Shown w w0 w.heap.size gC gE gI cC cE cI s g c E I):=by
  refine ⟨?_,hL.on hg0,hg0⟩
  rw [hw0]
  exact (Arr.world (heap_alloc_new w _)).lie
 obtain ⟨base,hbase⟩:∃base,w0.heap.size=base:=⟨_,rfl⟩
 have HB:Hid (base=w.heap.size+1):=by
  show base=w.heap.size+1
  rw [←hbase,hw0]
  simp
 have HG0:=hide hg0
 have HB0:Hid (base≤w0.heap.size):=(show base≤w0.heap.size by omega)
 obtain ⟨i0,hi,hz0,hz1,hz2⟩:=info_parts info_byte
 obtain ⟨Z,hZ,hmk⟩:=make918
 have hW0:Hid (∀x,x=w0.alloc (.cells Z 5)→Sn.Wr w0 x base (.slice (some ⟨base,0,none⟩) 0 918) []):=fun x hx=>by
  subst hx
  rw [←hbase]
  exact ⟨World.ownsRow_made w0 Z 918 (Nat.le_refl _) (by decide) (by rw [hZ]),Sn.below (World.grownBy_alloc w0 _ none) (fun k e=>by cases e) (Nat.le_refl _)⟩
 have lE:=hide (And.intro hL.cells.lt (And.intro hL.ents.lt hL.items.lt))
 have hlists:Hid (∀x,Below base w0 x→Lie x w.heap.size 31 11 (Gd.box s gC gE gI cC cE cI g)∧Gd.Lists x gC gE gI c E I):=fun x hx=>by
  have:=uh HB
  obtain ⟨l1,l2,l3⟩:=uh lE
  exact ⟨(uh hO).box.below hx (by omega),(uh hO).lists.below hx (by omega) (by omega) (by omega)⟩
 have cN:=hide (fun (n:Nat) (x:Int) (v:Value) (l:List Int) (y:World) (hn:n≤8) (h:Sn.Bytes y base v l) (hb:base≤y.heap.size) (hl:l.length≤1000)=>withNumber_any n base x v l y hn h hb hl)
 clear hL hg0 hZ
 unfold Gd.world at hw0 ⊢
 go_enter Tryz.func23,Tryz.ntmps23
 go_upto_region 1 with fail
 rw [←hw0]
 clear hw0
 obtain ⟨B,hBe⟩:∃B,w.heap.size=B:=⟨_,rfl⟩
 rw [hBe] at hlists ⊢
 clear hO hBe
 go_upto_region 2 with fail
 have hW1:=hide (uh hW0 _ rfl)
 clear hW0 hmk
 generalize w0.alloc (.cells Z 5)=w1 at hW1 ⊢
 obtain ⟨b0,b1,b2,b3,b4,b5,b6,b7,b8,b9,b10⟩:=(uh hlists w1 (uh hW1).bel).1.eleven
 go_wp2_with fail
 refine (uh cN 8 _ _ [] _ (by omega) (uh hW1).own ((uh hW1).top (uh HB0)) (by simp)).mono ?_
 rintro e w2 ⟨v2,rfl,hown,hbel⟩
 have hW2:=hide ((uh hW1).adds hown hbel)
 rw [List.nil_append,Sn.wrap64] at hW2
 clear hown hbel hW1 b0 b1 b2 b3 b4 b5 b6 b7 b8 b9 b10
 have b1:=(uh hlists w2 (uh hW2).bel).1.eleven.2.1
 go_wp2_with fail
 refine (uh cN 4 _ _ _ _ (by omega) (uh hW2).own ((uh hW2).top (uh HB0)) (by rw [Sn.num_len];omega)).mono ?_
 rintro e w3 ⟨v3,rfl,hown,hbel⟩
 have hW3:=hide ((uh hW2).adds hown hbel)
 rw [Sn.wrap64] at hW3
 clear hown hbel hW2 b1
 obtain ⟨b0,b1,b2,b3,b4,b5,b6,b7,b8,b9,b10⟩:=(uh hlists w3 (uh hW3).bel).1.eleven
 have t2:IntKind.u8.wrap (s 2)=s 2 % 256:=Sn.wrap8 _
 have t3:IntKind.u8.wrap (s 3)=s 3 % 256:=Sn.wrap8 _
 go_wp2_with (at_builtin;refine wpList_append_own _ rfl _ _ 26 rfl base 5 i0 (.int .u8 0) 1 1 Tryz.underlying26 hi hz0 hz1 hz2 rfl (by decide) _ _ _ rfl ((uh hW3).own.alloc _) ⟨w3.heap.size,0,none⟩ 2 2 [.int .u8 (s 2 % 256),.int .u8 (s 3 % 256)] rfl rfl (Sn.news w3 #[.int .u8 (s 2 % 256),.int .u8 (s 3 % 256)] _ _ rfl) ?_ ?_ ?_ ?_ ?_)
 ·intro u hu
  simp only [List.mem_cons,List.not_mem_nil,or_false] at hu
  rcases hu with rfl | rfl <;> rfl
 ·simp [Sn.num_len];unfold maxLen;omega
 ·simp [Sn.num_len]
 ·have:=(uh hW3).top (uh HB0);simp;omega
 intro v4 w4 hown hgrow _
 have hW4:Hid (Sn.Wr w0 w4 base v4 (Sn.head s)):=(uh hW3).more (m:=2) (ns:=[s 2 % 256,s 3 % 256]) (uh HB0) (World.grownBy_alloc _ _ _) (by simpa using hown) rfl hgrow
 clear hown hgrow hW3 b0 b1 b2 b3 b4 b5 b6 b7 b8 b9 b10 t2 t3
 obtain ⟨b0,b1,b2,b3,b4,b5,b6,b7,b8,b9,b10⟩:=(uh hlists w4 (uh hW4).bel).1.eleven
 go_wp2_with fail
 go_loopw [3,32] (fun v3 v32 wr=>∃k:Nat,k≤4∧v32=.int .i64 (k:Int)∧Hid (Sn.Wr w0 wr base v3 (Sn.head s ++ Sn.golds k g))) (fun _ v32 _=>10 - (intOf v32).toNat)
 case atStart=>exact ⟨0,by omega,rfl,by simpa [Sn.golds] using hW4⟩
 case round =>
  clear hW4 b0 b1 b2 b3 b4 b5 b6 b7 b8 b9 b10
  obtain ⟨k,hk,rfl,hX⟩:=hrel
  have hlen:Hid ((Sn.head s ++ Sn.golds k g).length=14+k*2):=by show (Sn.head s ++ Sn.golds k g).length=_;rw [List.length_append,Sn.head_len,Sn.golds_len]
  by_cases hlt:k<4
  ·have hlt':(k:Int)<4:=by omega
   have HL:=hide hlt
   have hix:=fun x=>run_index_gold g k hlt x
   clear hlt hk
   go_wp2_with fail
   refine (uh cN 2 _ _ _ _ (by omega) (uh hX).own ((uh hX).top (uh HB0)) (by have:=uh hlen;have:=uh HL;omega)).mono ?_
   rintro e w5 ⟨v5,rfl,hown,hbel⟩
   have hX2:=hide ((uh hX).adds hown hbel)
   rw [Sn.wrap64,List.append_assoc,←Sn.golds_more] at hX2
   clear hown hbel hX hix hlen
   go_wp2
   go_roundw
   case rel=>exact ⟨k+1,by have:=uh HL;omega,by go_num,hX2⟩
   case measure=>simp [intOf];have:=uh HL;omega
  ·obtain rfl:k=4:=by omega
   have hge:¬((4:Nat):Int)<4:=by omega
   clear hlt hk
   have b4:=(uh hlists wr (uh hX).bel).1.eleven.2.2.2.2.1
   go_upto_region 10 with fail
   go_wp2_with (at_builtin;refine wpList_append_own _ rfl _ _ 26 rfl base 5 i0 (.int .u8 0) 1 1 Tryz.underlying26 hi hz0 hz1 hz2 rfl (by decide) _ _ _ rfl (uh hX).own ⟨gC,0,none⟩ 384 cC (((List.range 384).map c).map (Value.int .u8)) rfl (by simp) (Sn.cells_src (uh hlists wr (uh hX).bel).2.cells) ?_ ?_ ?_ ?_ ?_)
   ·intro u hu
    obtain ⟨x,_,rfl⟩:=List.mem_map.1 hu
    rfl
   ·have:=Sn.head_len s;have:=Sn.golds_len g 4;unfold maxLen;omega
   ·have:=Sn.head_len s;have:=Sn.golds_len g 4;omega
   ·exact (uh hX).top (uh HB0)
   intro v6 w6 hown hgrow _
   have hW6:Hid (Sn.Wr w0 w6 base v6 (Sn.head s ++ Sn.golds 4 g ++ (List.range 384).map c)):=(uh hX).more (m:=384) (uh HB0) (World.grownBy.refl _ _) hown (by simp) hgrow
   clear hown hgrow hX b4 hlen hge
   have b5:=(uh hlists w6 (uh hW6).bel).1.eleven.2.2.2.2.2.1
   go_upto_region 11 with fail
   go_wp2_with fail
   go_loopw [3,7,47] (fun v3 v7 v47 wr=>∃k:Nat,k≤32∧v47=.int .i64 (k:Int)∧Hid (Sn.Wr w0 wr base v3 (Sn.head s ++ Sn.golds 4 g ++ (List.range 384).map c ++ Sn.rows k 11 E))) (fun _ _ v47 _=>40 - (intOf v47).toNat)
   case atStart=>exact ⟨0,by omega,rfl,by simpa [Sn.rows] using hW6⟩
   case round =>
    clear hW6 b5
    obtain ⟨k,hk,rfl,hX⟩:=hrel
    have hlen:Hid ((Sn.head s ++ Sn.golds 4 g ++ (List.range 384).map c ++ Sn.rows k 11 E).length=406+k*11):=by show (Sn.head s ++ Sn.golds 4 g ++ (List.range 384).map c ++ Sn.rows k 11 E).length=_;rw [List.length_append,Sn.len22,Sn.rows_len]
    by_cases hlt:k<32
    ·have hlt':(k:Int)<32:=by omega
     have HL:=hide hlt
     obtain ⟨r0,r1,r2,r3,r4,r5,r6,r7,r8,r9,r10⟩:=(uh hlists wr (uh hX).bel).2.own.ents.row hlt
     clear hlt hk
     obtain ⟨l,hl⟩:∃l,Sn.head s ++ Sn.golds 4 g ++ (List.range 384).map c ++ Sn.rows k 11 E=l:=⟨_,rfl⟩
     rw [hl] at hX hlen
     have hl':=hide hl
     clear hl
     go_upto_region 14 with fail
     obtain ⟨wd,hwd⟩:∃wd,wd=wr.alloc (.cells (En.cells (E k)) 61):=⟨_,rfl⟩
     have hgd:wr.grownBy wd none:=by rw [hwd];exact World.grownBy_alloc _ _ _
     have hD:Hid (Lie wd wr.heap.size 61 11 (Ints (E k))):=by show Lie wd _ _ _ _;rw [hwd];exact Sn.born wr (E k) 61
     have hXd:=hide ((uh hX).on (uh HB0) hgd)
     unfold En.cells at hwd
     rw [←hwd]
     clear hwd hgd hX r0 r1 r2 r3 r4 r5 r6 r7 r8 r9 r10
     obtain ⟨D,hDe⟩:∃D,wr.heap.size=D:=⟨_,rfl⟩
     rw [hDe] at hD ⊢
     clear hDe wr
     obtain ⟨d0,d1,d2,d3,d4,d5,d6,d7,d8,d9,d10⟩:=Sn.row (uh hD)
     have tw:∀j,IntKind.u8.wrap (E k j)=E k j % 256:=fun j=>Sn.wrap8 _
     go_wp2_with (at_builtin;refine wpList_append_own _ rfl _ _ 26 rfl base 5 i0 (.int .u8 0) 1 1 Tryz.underlying26 hi hz0 hz1 hz2 rfl (by decide) _ _ _ rfl ((uh hXd).own.alloc _) ⟨wd.heap.size,0,none⟩ 11 11 (#[.int .u8 (E k 0 % 256),.int .u8 (E k 1 % 256),.int .u8 (E k 2 % 256),.int .u8 (E k 3 % 256),.int .u8 (E k 4 % 256),.int .u8 (E k 5 % 256),.int .u8 (E k 6 % 256),.int .u8 (E k 7 % 256),.int .u8 (E k 8 % 256),.int .u8 (E k 9 % 256),.int .u8 (E k 10 % 256)]:Array Value).toList rfl rfl (Sn.news wd _ _ _ rfl) ?_ ?_ ?_ ?_ ?_)
     ·exact ⟨rfl,rfl,rfl,rfl,rfl,rfl,rfl,rfl,rfl,rfl,rfl⟩
     ·have:=uh hlen;have:=uh HL;unfold maxLen;omega
     ·have:=uh hlen;have:=uh HL;omega
     ·have:=(uh hXd).top (uh HB0);simp;omega
     intro v8 w8 hown hgrow _
     have hX2:Hid (Sn.Wr w0 w8 base v8 (l ++ (List.range 11).map fun j=>E k j % 256)):=(uh hXd).more (m:=11) (uh HB0) (World.grownBy_alloc _ _ _) hown (by simp) hgrow
     rw [←uh hl',List.append_assoc,←Sn.rows_more] at hX2
     clear hown hgrow hXd hD d0 d1 d2 d3 d4 d5 d6 d7 d8 d9 d10 tw hlen
     go_wp2
     go_roundw
     case rel=>exact ⟨k+1,by have:=uh HL;omega,by go_num,hX2⟩
     case measure=>simp [intOf];have:=uh HL;omega
    ·obtain rfl:k=32:=by omega
     have hge:¬((32:Nat):Int)<32:=by omega
     clear hlt hk
     have b6:=(uh hlists wr (uh hX).bel).1.eleven.2.2.2.2.2.2.1
     go_upto_region 16 with fail
     go_wp2_with fail
     go_loopw [3,9,91] (fun v3 v9 v91 wr=>∃k:Nat,k≤40∧v91=.int .i64 (k:Int)∧Hid (Sn.Wr w0 wr base v3 (Sn.head s ++ Sn.golds 4 g ++ (List.range 384).map c ++ Sn.rows 32 11 E ++ Sn.rows k 4 I))) (fun _ _ v91 _=>50 - (intOf v91).toNat)
     case atStart=>exact ⟨0,by omega,rfl,by simpa [Sn.rows] using hX⟩
     case round =>
      clear hX b6 hge hlen
      obtain ⟨k,hk,rfl,hX⟩:=hrel
      have hlen:Hid ((Sn.head s ++ Sn.golds 4 g ++ (List.range 384).map c ++ Sn.rows 32 11 E ++ Sn.rows k 4 I).length=758+k*4):=by show (Sn.head s ++ Sn.golds 4 g ++ (List.range 384).map c ++ Sn.rows 32 11 E ++ Sn.rows k 4 I).length=_;rw [List.length_append,Sn.len406,Sn.rows_len]
      by_cases hlt:k<40
      ·have hlt':(k:Int)<40:=by omega
       have HL:=hide hlt
       obtain ⟨r0,r1,r2,r3⟩:=(uh hlists wr (uh hX).bel).2.its.row hlt
       clear hlt hk
       obtain ⟨l,hl⟩:∃l,Sn.head s ++ Sn.golds 4 g ++ (List.range 384).map c ++ Sn.rows 32 11 E ++ Sn.rows k 4 I=l:=⟨_,rfl⟩
       rw [hl] at hX hlen
       have hl':=hide hl
       clear hl
       go_upto_region 19 with fail
       obtain ⟨wd,hwd⟩:∃wd,wd=wr.alloc (.cells (Gd.cells (I k)) 63):=⟨_,rfl⟩
       have hgd:wr.grownBy wd none:=by rw [hwd];exact World.grownBy_alloc _ _ _
       have hD:Hid (Lie wd wr.heap.size 63 4 (fun j=>(Gd.cells (I k))[j]?.getD undef)):=by show Lie wd _ _ _ _;rw [hwd];exact (Arr.lit (heap_alloc_new wr _)).lie
       have hXd:=hide ((uh hX).on (uh HB0) hgd)
       unfold Gd.cells at hwd
       rw [←hwd]
       clear hwd hgd hX r0 r1 r2 r3
       obtain ⟨D,hDe⟩:∃D,wr.heap.size=D:=⟨_,rfl⟩
       rw [hDe] at hD ⊢
       clear hDe wr
       have d0:wd.cell? ⟨D,0,none⟩=some (.int .i64 (I k 0)):=(uh hD).cell (c:=0) (by omega)
       have d1:wd.cell? ⟨D,1,none⟩=some (.int .i64 (I k 1)):=(uh hD).cell (c:=1) (by omega)
       have d2:wd.cell? ⟨D,2,none⟩=some (.int .i64 (I k 2)):=(uh hD).cell (c:=2) (by omega)
       have d3:wd.cell? ⟨D,3,none⟩=some (.int .i64 (I k 3)):=(uh hD).cell (c:=3) (by omega)
       have tw:∀j,IntKind.u8.wrap (I k j)=I k j % 256:=fun j=>Sn.wrap8 _
       go_wp2_with (at_builtin;refine wpList_append_own _ rfl _ _ 26 rfl base 5 i0 (.int .u8 0) 1 1 Tryz.underlying26 hi hz0 hz1 hz2 rfl (by decide) _ _ _ rfl ((uh hXd).own.alloc _) ⟨wd.heap.size,0,none⟩ 4 4 (#[.int .u8 (I k 0 % 256),.int .u8 (I k 1 % 256),.int .u8 (I k 2 % 256),.int .u8 (I k 3 % 256)]:Array Value).toList rfl rfl (Sn.news wd _ _ _ rfl) ?_ ?_ ?_ ?_ ?_)
       ·exact ⟨rfl,rfl,rfl,rfl⟩
       ·have:=uh hlen;have:=uh HL;unfold maxLen;omega
       ·have:=uh hlen;have:=uh HL;omega
       ·have:=(uh hXd).top (uh HB0);simp;omega
       intro v8 w8 hown hgrow _
       have hX2:Hid (Sn.Wr w0 w8 base v8 (l ++ (List.range 4).map fun j=>I k j % 256)):=(uh hXd).more (m:=4) (uh HB0) (World.grownBy_alloc _ _ _) hown (by simp) hgrow
       rw [←uh hl',List.append_assoc,←Sn.rows_more] at hX2
       clear hown hgrow hXd hD d0 d1 d2 d3 tw hlen
       go_wp2
       go_roundw
       case rel=>exact ⟨k+1,by have:=uh HL;omega,by go_num,hX2⟩
       case measure=>simp [intOf];have:=uh HL;omega
      ·obtain rfl:k=40:=by omega
       have hge:¬((40:Nat):Int)<40:=by omega
       have hfin:Hid (∀v,Sn.Wr w0 wr base v (Sn.bytes s g c E I)→Sn.Bytes wr w.heap.size v (Sn.bytes s g c E I)∧w.grownBy wr none):=fun v hv=>by
        have e1:=uh HB
        refine ⟨?_,?_⟩
        ·obtain ⟨h1,h2⟩:=hv.own
         refine ⟨h1,?_⟩
         rcases h2 with h2 | ⟨gg,cap,cur,h3,h4,h5⟩
         ·exact .inl h2
         ·exact .inr ⟨gg,cap,cur,h3,by omega,h5⟩
        ·exact below_grown (Sn.below_trans (none_below (uh HG0)) (hv.bel.mono (by omega)))
       clear hlt hk
       go_wp2
       go_ret
       exact ⟨_,rfl,(uh hfin _ (uh hX)).1,(uh hfin _ (uh hX)).2⟩

def Sn.Encodes (w:World) (s g c:Nat→Int) (E I:Nat→Nat→Int) (e:Ending) (w':World):Prop :=
 ∃v r,e=.returned (.tuple #[v,.int .i64 r])∧Sn.Chk s g c E I r∧(r≠0→v=.slice none 0 0)∧(r=0→Sn.Bytes w' w.heap.size v (Sn.bytes s g c E I))∧w.grownBy w' none

theorem Sn.Bytes.mono {w:World} {base base':Nat} {v:Value} {l:List Int} (h:Sn.Bytes w base v l) (hb:base'≤base):Sn.Bytes w base' v l:=by
 obtain ⟨h1,h2⟩:=h
 refine ⟨h1,?_⟩
 rcases h2 with h2 | ⟨gg,cap,cur,h3,h4,h5⟩
 ·exact .inl h2
 ·exact .inr ⟨gg,cap,cur,h3,by omega,h5⟩

set_option maxRecDepth 8000 in
set_option maxHeartbeats 1600000 in
theorem encode_any (s g c:Nat→Int) (E I:Nat→Nat→Int) (gC gE gI cC cE cI:Nat) (w:World) (hL:Gd.Lists w gC gE gI c E I) (hc:∀i,0≤c i∧c i≤255) (hcE:32≤cE) :
  Calls Tryz.prog 8 #[.agg (Gd.world s gC gE gI cC cE cI g)] w (Sn.Encodes w s g c E I):=by
 obtain ⟨w0,hw0⟩:∃w0,w0=w.alloc (.cells (Gd.world s gC gE gI cC cE cI g) 31):=⟨_,rfl⟩
 have hg0:w.grownBy w0 none:=by rw [hw0];exact World.grownBy_alloc _ _ _
 have hO:Hid (Sn.Shown w w0 w.heap.size gC gE gI cC cE cI s g c E I):=by
  refine ⟨?_,hL.on hg0,hg0⟩
  rw [hw0]
  exact (Arr.world (heap_alloc_new w _)).lie
 have cc:=hide (fun x (hx:Gd.Lists x gC gE gI c E I)=>snCheck_any s g c E I gC gE gI cC cE cI x hx hc hcE)
 have cw:=hide (fun x (hx:Gd.Lists x gC gE gI c E I)=>written_any s g c E I gC gE gI cC cE cI x hx)
 clear hL hg0 hc hcE
 unfold Gd.world at hw0 cc cw ⊢
 go_enter Tryz.func8,Tryz.ntmps8
 go_upto_region 1 with fail
 rw [←hw0]
 clear hw0
 obtain ⟨B,hBe⟩:∃B,w.heap.size=B:=⟨_,rfl⟩
 rw [hBe] at hO ⊢
 clear hBe
 obtain ⟨b0,b1,b2,b3,b4,b5,b6,b7,b8,b9,b10⟩:=(uh hO).box.eleven
 go_wp2_with fail
 refine (uh cc _ (uh hO).lists).mono ?_
 rintro e w1 ⟨r,rfl,hr,hg⟩
 have hO1:=hide ((uh hO).on hg)
 have HR:=hide hr
 clear hg hO cc b0 b1 b2 b3 b4 b5 b6 b7 b8 b9 b10 hr
 by_cases h0:r=0
 ·have h0':(r != 0)=false:=by simp [h0]
  have H0:=hide h0
  obtain ⟨b0,b1,b2,b3,b4,b5,b6,b7,b8,b9,b10⟩:=(uh hO1).box.eleven
  clear h0
  go_wp2_with fail
  refine (uh cw _ (uh hO1).lists).mono ?_
  rintro e w2 ⟨v,rfl,hown,hg⟩
  have hfin:Hid (Sn.Encodes w s g c E I (.returned (.tuple #[v,.int .i64 0])) w2):=by
   have e:=uh HR
   rw [uh H0] at e
   exact ⟨v,0,rfl,e,fun h=>absurd rfl h,fun _=>hown.mono (uh hO1).grown.size,gtr (uh hO1).grown hg⟩
  clear hown hg b0 b1 b2 b3 b4 b5 b6 b7 b8 b9 b10 hO1 cw
  go_wp2
  go_ret2
  exact uh hfin
 ·have h0':(r != 0)=true:=by simp [h0]
  have hfin:Hid (Sn.Encodes w s g c E I (.returned (.tuple #[.slice none 0 0,.int .i64 r])) w1):=⟨_,r,rfl,uh HR,fun _=>rfl,fun h=>absurd h h0,(uh hO1).grown⟩
  clear h0
  go_wp2
  go_ret2
  exact uh hfin


open Go.RowKit

structure Sn.Rd (x:World) (R G k:Nat):Prop where
 cell:∃p C,Lie x R 107 1 (fun _=>.slice (some ⟨G,p,none⟩) (918 - k) C)∧(k<918→p=k)∧918 - k≤C∧C≤9223372036854775807

theorem Sn.Rd.on {x y:World} {R G k:Nat} (h:Sn.Rd x R G k) (hg:x.grownBy y none):Sn.Rd y R G k:=by
 obtain ⟨p,C,hl,h1,h2,h3⟩:=h.cell
 exact ⟨p,C,hl.on hg,h1,h2,h3⟩

theorem Sn.Rd.other {x:World} {R G k:Nat} (h:Sn.Rd x R G k) {q:Nat} (hq:q≠R) (i:Nat) (u:Value):Sn.Rd (x.setCell ⟨q,i,none⟩ u) R G k:=by
 obtain ⟨p,C,hl,h1,h2,h3⟩:=h.cell
 exact ⟨p,C,hl.other hq i u,h1,h2,h3⟩

theorem Sn.Rd.others {x:World} {R G k:Nat} (h:Sn.Rd x R G k) {q:Nat} (hq:q≠R) (o:Nat) (vs:List Value):Sn.Rd (x.setCells q o vs) R G k:=by
 obtain ⟨p,C,hl,h1,h2,h3⟩:=h.cell
 exact ⟨p,C,hl.others hq o vs,h1,h2,h3⟩

def Sn.Goes (x:World) (R G k n:Nat) (e:Ending) (x':World):Prop :=
 ∃u C,e=.returned (.slice (some ⟨G,k,none⟩) n C)∧n≤C∧x'=x.setCell ⟨R,0,none⟩ u∧Sn.Rd x' R G (k+n)

set_option maxRecDepth 8000 in
set_option maxHeartbeats 1600000 in
theorem snNext_any (R G k n:Nat) (x:World) (hR:Sn.Rd x R G k) (h0:0<n) (hn:k+n≤918) :
  Calls Tryz.prog 70 #[.pointer (some ⟨R,0,none⟩),.int .i64 (n:Int)] x (Sn.Goes x R G k n):=by
 obtain ⟨p,C,hl,h1,h2,h3⟩:=hR.cell
 obtain rfl:p=k:=h1 (by omega)
 obtain ⟨L,hL⟩:∃L,L=918 - p:=⟨_,rfl⟩
 rw [←hL] at hl h2
 have r0:x.cell? ⟨R,0,none⟩=some (.slice (some ⟨G,p,none⟩) L C):=hl.cell (c:=0) (by omega)
 have fR:=hl.free
 have q1:¬(n:Int)<0:=by omega
 have q2:(n:Int)≤(C:Int):=by omega
 have q3:(n:Int)≤(L:Int):=by omega
 have hfin:Hid (∀q,(p+n<918→q=p+n)→Sn.Goes x R G p n (.returned (.slice (some ⟨G,p,none⟩) n C)) (x.setCell ⟨R,0,none⟩ (.slice (some ⟨G,q,none⟩) (L - n) (C - n)))):=fun q hq=>by
  refine ⟨_,C,rfl,by omega,rfl,⟨q,C - n,?_,hq,by omega,by omega⟩⟩
  refine (hl.store 0 (.slice (some ⟨G,q,none⟩) (L - n) (C - n))).congr fun c hc=>?_
  obtain rfl:c=0:=by omega
  rw [if_pos rfl,show 918 - (p+n)=L - n by omega]
 clear hR hl h1
 by_cases hz:C - n=0
 ·have hf:=hide (uh hfin p (fun h=>by omega))
  rw [hz] at hf
  clear hL hfin
  go_enter Tryz.func70,Tryz.ntmps70
  go_wp2
  go_ret
  exact uh hf
 ·have hf:=hide (uh hfin (p+n) (fun _=>rfl))
  clear hL hfin
  go_enter Tryz.func70,Tryz.ntmps70
  go_wp2
  go_ret
  exact uh hf

structure Sn.Src (x:World) (G:Nat) (F:Nat→Int):Prop where
 lt:G<x.heap.size
 cell:∀i,i<918→x.cell? ⟨G,i,none⟩=some (.int .u8 (F i))
 byte:∀i,0≤F i∧F i≤255

theorem Sn.Src.on {x y:World} {G:Nat} {F:Nat→Int} {r:Option Nat} (h:Sn.Src x G F) (hg:x.grownBy y r) (hr:r≠some G):Sn.Src y G F :=
 ⟨Nat.lt_of_lt_of_le h.lt hg.size,fun i hi=>(gce hg G i h.lt hr).trans (h.cell i hi),h.byte⟩

theorem Sn.Src.set {x:World} {G:Nat} {F:Nat→Int} (h:Sn.Src x G F) {q:Nat} (hq:q≠G) (i:Nat) (u:Value):Sn.Src (x.setCell ⟨q,i,none⟩ u) G F :=
 h.on (gs0 x q i u) (by simpa using hq)

theorem Sn.Src.sets {x:World} {G:Nat} {F:Nat→Int} (h:Sn.Src x G F) {q:Nat} (hq:q≠G) (o:Nat) (vs:List Value):Sn.Src (x.setCells q o vs) G F :=
 h.on (gss vs o x (World.grownBy.refl _ _)) (by simpa using hq)

theorem Sn.or_byte (v b:Int) (h0:0≤v) (h1:v<72057594037927936) (b0:0≤b) (b1:b≤255):bits BinOp.or IntKind.u64 (IntKind.u64.wrap (v*256)) b=v*256+b:=by
 obtain ⟨n,rfl⟩:∃n:Nat,v=(n:Int):=⟨v.toNat,by omega⟩
 obtain ⟨m,rfl⟩:∃n:Nat,b=(n:Int):=⟨b.toNat,by omega⟩
 rw [Sn.wrap64,show (n:Int)*256 % 18446744073709551616=((n*256:Nat):Int) by omega,bits_or_u64_nat (n*256) m (by omega) (by omega)]
 have h:n*2 ^ 8+m=n*2 ^ 8 ||| m:=by
  rw [←Nat.shiftLeft_eq]
  exact Nat.shiftLeft_add_eq_or_of_lt (by omega) n
 show ((n*2 ^ 8 ||| m:Nat):Int)=_
 rw [←h]
 show ((n*256+m:Nat):Int)=_
 omega

def Sn.Nums (x:World) (R G k n:Nat) (v:Int) (e:Ending) (x':World):Prop :=
 ∃u,e=.returned (.int .u64 v)∧x'=x.setCell ⟨R,0,none⟩ u∧Sn.Rd x' R G (k+n)

set_option maxRecDepth 8000 in
set_option maxHeartbeats 1600000 in
theorem snNumber_any (R G k n:Nat) (F:Nat→Int) (x:World) (hR:Sn.Rd x R G k) (hS:Sn.Src x G F) (hRG:R≠G) (h0:0<n) (h8:n≤8) (hn:k+n≤918) :
  Calls Tryz.prog 69 #[.pointer (some ⟨R,0,none⟩),.int .i64 (n:Int)] x (Sn.Nums x R G k n (Sn.be (Sn.cut F k n))):=by
 have cn:=hide (snNext_any R G k n x hR h0 hn)
 have hS':=hide hS
 have HRG:=hide hRG
 have H8:=hide h8
 have HN:=hide hn
 clear hR hS hRG h0 h8 hn
 go_enter Tryz.func69,Tryz.ntmps69
 go_wp2_with fail
 refine (uh cn).mono ?_
 rintro e y ⟨u,C,rfl,hC,hy,hRd⟩
 have hY:=hide (And.intro hy hRd)
 have hSy:Hid (Sn.Src y G F):=by
  show Sn.Src y G F
  rw [hy]
  exact (uh hS').set (uh HRG) _ _
 clear cn hC hy hRd hS'
 go_wp2_with fail
 go_loop [5,7,12] (fun v5 v7 v12=>∃i:Nat,i≤n∧v5=.int .u64 (Sn.be (Sn.cut F k i))∧v12=.int .i64 (i:Int)) (fun _ _ v12=>20 - (intOf v12).toNat)
 case atStart=>exact ⟨0,by omega,rfl,rfl⟩
 case round =>
  obtain ⟨i,hi,rfl,rfl⟩:=hrel
  by_cases hlt:i<n
  ·have hlt':(i:Int)<(n:Int):=by omega
   have HL:=hide hlt
   have hi8:(i:Int)<8:=by have:=uh H8;omega
   have u0:y.cell? ⟨G,k+i,none⟩=some (.int .u8 (F (k+i))):=(uh hSy).cell (k+i) (by have:=uh HN;omega)
   obtain ⟨v0,v1⟩:=Sn.be_bound i F k (fun j _=>(uh hSy).byte _)
   have v2:Sn.be (Sn.cut F k i)<72057594037927936:=by
    have h7:i≤7:=by have:=uh H8;omega
    have:(256:Int) ^ i≤256 ^ 7:=by
     rcases (show i=0∨i=1∨i=2∨i=3∨i=4∨i=5∨i=6∨i=7 by omega) with rfl | rfl | rfl | rfl | rfl | rfl | rfl | rfl <;> decide
    omega
   have hor:=Sn.or_byte (Sn.be (Sn.cut F k i)) (F (k+i)) v0 v2 ((uh hSy).byte _).1 ((uh hSy).byte _).2
   have hmo:=hide (Sn.be_more (Sn.cut F k i) (F (k+i)))
   rw [←Sn.cut_more] at hmo
   rw [←uh hmo] at hor
   have hw:IntKind.u64.wrap (F (k+i))=F (k+i):=by
    rw [Sn.wrap64]
    have:=(uh hSy).byte (k+i)
    omega
   obtain ⟨X,hX⟩:∃X,Sn.be (Sn.cut F k i)=X:=⟨_,rfl⟩
   rw [hX] at hor ⊢
   clear hlt hi hX v0 v1 v2 hmo
   go_wp2
   go_round
   case rel=>exact ⟨i+1,by have:=uh HL;omega,rfl,by go_num⟩
   case measure=>simp [intOf];have:=uh HL;have:=uh H8;omega
  ·obtain rfl:i=n:=by omega
   have hge:¬(i:Int)<(i:Int):=by omega
   have hfin:Hid (Sn.Nums x R G k i (Sn.be (Sn.cut F k i)) (.returned (.int .u64 (Sn.be (Sn.cut F k i)))) y):=⟨u,rfl,(uh hY).1,(uh hY).2⟩
   clear hlt hi
   go_wp2
   go_ret
   exact uh hfin


open Go.RowKit

set_option maxRecDepth 8000 in
set_option maxHeartbeats 6400000 in
theorem itemOf_any (G k C:Nat) (F:Nat→Int) (x:World) (hS:Sn.Src x G F) (hk:k+4≤918) :
  Calls Tryz.prog 72 #[.slice (some ⟨G,k,none⟩) 4 C] x (Says x (.agg #[.int .i64 (F k),.int .i64 (F (k+1)),.int .i64 (F (k+2)),.int .i64 (F (k+3))])):=by
 obtain ⟨y,hy⟩:∃y,y=x.alloc (.cells #[.int .i64 0,.int .i64 0,.int .i64 0,.int .i64 0] 63):=⟨_,rfl⟩
 have hg:Hid (x.grownBy y none):=by show x.grownBy y none;rw [hy];exact World.grownBy_alloc _ _ _
 have hR:Hid (Lie y x.heap.size 63 4 (fun _=>.int .i64 0)):=by
  show Lie y _ _ _ _
  rw [hy]
  refine (Arr.lit (heap_alloc_new x _)).lie.congr fun c hc=>?_
  have:c<4:=hc
  rcases (show c=0∨c=1∨c=2∨c=3 by omega) with rfl | rfl | rfl | rfl <;> rfl
 have hSy:=hide (hS.on (uh hg) (by simp))
 have HK:=hide hk
 clear hS hk
 go_enter Tryz.func72,Tryz.ntmps72
 go_upto_region 1 with fail
 rw [←hy]
 clear hy
 obtain ⟨B,hB⟩:∃B,x.heap.size=B:=⟨_,rfl⟩
 have hBx:Hid (x.heap.size≤B):=(show x.heap.size≤B by omega)
 rw [hB] at hR ⊢
 clear hB
 have c0:=(uh hSy).cell (k) (by have:=uh HK;omega)
 have c1:=(uh hSy).cell (k+1) (by have:=uh HK;omega)
 have c2:=(uh hSy).cell (k+2) (by have:=uh HK;omega)
 have c3:=(uh hSy).cell (k+3) (by have:=uh HK;omega)
 have tw:∀j,IntKind.i64.wrap (F j)=F j:=fun j=>by
  have:=(uh hSy).byte j
  rw [IntKind.wrap_i64]
  omega
 have fR:=(uh hR).free
 have z0:y.cell? ⟨B,0,none⟩=some (.int .i64 0):=(uh hR).cell (c:=0) (by omega)
 have z1:y.cell? ⟨B,1,none⟩=some (.int .i64 0):=(uh hR).cell (c:=1) (by omega)
 have z2:y.cell? ⟨B,2,none⟩=some (.int .i64 0):=(uh hR).cell (c:=2) (by omega)
 have z3:y.cell? ⟨B,3,none⟩=some (.int .i64 0):=(uh hR).cell (c:=3) (by omega)
 have hgo:Hid (∀l m,x.grownBy ((y.setCells B 0 l).drewN m) none):=fun l m=>gdw (own_sets (uh hBx) l 0 y (uh hg)) m
 go_region
 go_wp2
 refine bodyPost_ret (v:=.agg #[.int .i64 (F k),.int .i64 (F (k+1)),.int .i64 (F (k+2)),.int .i64 (F (k+3))]) (by simp [results,Tryz.results72,go_sem,z0,z1,z2,z3]) rfl ?_
 exact ⟨rfl,uh hgo [_,_,_,_] 1⟩

set_option maxRecDepth 8000 in
set_option maxHeartbeats 6400000 in
theorem entOf_any (G k C:Nat) (F:Nat→Int) (x:World) (hS:Sn.Src x G F) (hk:k+11≤918) :
  Calls Tryz.prog 71 #[.slice (some ⟨G,k,none⟩) 11 C] x (Says x (.agg #[.int .i64 (F k),.int .i64 (F (k+1)),.int .i64 (F (k+2)),.int .i64 (F (k+3)),.int .i64 (F (k+4)),.int .i64 (F (k+5)),.int .i64 (F (k+6)),.int .i64 (F (k+7)),.int .i64 (F (k+8)),.int .i64 (F (k+9)),.int .i64 (F (k+10))])):=by
 obtain ⟨y,hy⟩:∃y,y=x.alloc (.cells #[.int .i64 0,.int .i64 0,.int .i64 0,.int .i64 0,.int .i64 0,.int .i64 0,.int .i64 0,.int .i64 0,.int .i64 0,.int .i64 0,.int .i64 0] 61):=⟨_,rfl⟩
 have hg:Hid (x.grownBy y none):=by show x.grownBy y none;rw [hy];exact World.grownBy_alloc _ _ _
 have hR:Hid (Lie y x.heap.size 61 11 (fun _=>.int .i64 0)):=by
  show Lie y _ _ _ _
  rw [hy]
  refine (Arr.lit (heap_alloc_new x _)).lie.congr fun c hc=>?_
  have:c<11:=hc
  rcases (show c=0∨c=1∨c=2∨c=3∨c=4∨c=5∨c=6∨c=7∨c=8∨c=9∨c=10 by omega) with rfl | rfl | rfl | rfl | rfl | rfl | rfl | rfl | rfl | rfl | rfl <;> rfl
 have hSy:=hide (hS.on (uh hg) (by simp))
 have HK:=hide hk
 clear hS hk
 go_enter Tryz.func71,Tryz.ntmps71
 go_upto_region 1 with fail
 rw [←hy]
 clear hy
 obtain ⟨B,hB⟩:∃B,x.heap.size=B:=⟨_,rfl⟩
 have hBx:Hid (x.heap.size≤B):=(show x.heap.size≤B by omega)
 rw [hB] at hR ⊢
 clear hB
 have tw:∀j,IntKind.i64.wrap (F j)=F j:=fun j=>by
  have:=(uh hSy).byte j
  rw [IntKind.wrap_i64]
  omega
 have fR:=(uh hR).free
 have z0:y.cell? ⟨B,0,none⟩=some (.int .i64 0):=(uh hR).cell (c:=0) (by omega)
 have z1:y.cell? ⟨B,1,none⟩=some (.int .i64 0):=(uh hR).cell (c:=1) (by omega)
 have z2:y.cell? ⟨B,2,none⟩=some (.int .i64 0):=(uh hR).cell (c:=2) (by omega)
 have z3:y.cell? ⟨B,3,none⟩=some (.int .i64 0):=(uh hR).cell (c:=3) (by omega)
 have z4:y.cell? ⟨B,4,none⟩=some (.int .i64 0):=(uh hR).cell (c:=4) (by omega)
 have z5:y.cell? ⟨B,5,none⟩=some (.int .i64 0):=(uh hR).cell (c:=5) (by omega)
 have z6:y.cell? ⟨B,6,none⟩=some (.int .i64 0):=(uh hR).cell (c:=6) (by omega)
 have z7:y.cell? ⟨B,7,none⟩=some (.int .i64 0):=(uh hR).cell (c:=7) (by omega)
 have z8:y.cell? ⟨B,8,none⟩=some (.int .i64 0):=(uh hR).cell (c:=8) (by omega)
 have z9:y.cell? ⟨B,9,none⟩=some (.int .i64 0):=(uh hR).cell (c:=9) (by omega)
 have z10:y.cell? ⟨B,10,none⟩=some (.int .i64 0):=(uh hR).cell (c:=10) (by omega)
 have hgo:Hid (∀l m,x.grownBy ((y.setCells B 0 l).drewN m) none):=fun l m=>gdw (own_sets (uh hBx) l 0 y (uh hg)) m
 have hS0:y.drew.cell? ⟨G,k,none⟩=some (.int .u8 (F k))∧y.drew.cell? ⟨G,k+1,none⟩=some (.int .u8 (F (k+1)))∧y.drew.cell? ⟨G,k+2,none⟩=some (.int .u8 (F (k+2)))∧y.drew.cell? ⟨G,k+3,none⟩=some (.int .u8 (F (k+3)))∧y.drew.cell? ⟨G,k+4,none⟩=some (.int .u8 (F (k+4)))∧y.drew.cell? ⟨G,k+5,none⟩=some (.int .u8 (F (k+5)))∧y.drew.cell? ⟨G,k+6,none⟩=some (.int .u8 (F (k+6)))∧y.drew.cell? ⟨G,k+7,none⟩=some (.int .u8 (F (k+7)))∧y.drew.cell? ⟨G,k+8,none⟩=some (.int .u8 (F (k+8)))∧y.drew.cell? ⟨G,k+9,none⟩=some (.int .u8 (F (k+9)))∧y.drew.cell? ⟨G,k+10,none⟩=some (.int .u8 (F (k+10))):=by
  have h:=(uh hSy).on (gd1 (World.grownBy.refl y none)) (by simp)
  have hk:=uh HK
  exact ⟨h.cell (k) (by omega),h.cell (k+1) (by omega),h.cell (k+2) (by omega),h.cell (k+3) (by omega),h.cell (k+4) (by omega),h.cell (k+5) (by omega),h.cell (k+6) (by omega),h.cell (k+7) (by omega),h.cell (k+8) (by omega),h.cell (k+9) (by omega),h.cell (k+10) (by omega)⟩
 clear hSy hR hg hBx HK
 refine wp_region_till (h:=45) (S:=fun x=>x.cell? ⟨G,k,none⟩=some (.int .u8 (F k))∧x.cell? ⟨G,k+1,none⟩=some (.int .u8 (F (k+1)))∧x.cell? ⟨G,k+2,none⟩=some (.int .u8 (F (k+2)))∧x.cell? ⟨G,k+3,none⟩=some (.int .u8 (F (k+3)))∧x.cell? ⟨G,k+4,none⟩=some (.int .u8 (F (k+4)))∧x.cell? ⟨G,k+5,none⟩=some (.int .u8 (F (k+5)))∧x.cell? ⟨G,k+6,none⟩=some (.int .u8 (F (k+6)))∧x.cell? ⟨G,k+7,none⟩=some (.int .u8 (F (k+7)))∧x.cell? ⟨G,k+8,none⟩=some (.int .u8 (F (k+8)))∧x.cell? ⟨G,k+9,none⟩=some (.int .u8 (F (k+9)))∧x.cell? ⟨G,k+10,none⟩=some (.int .u8 (F (k+10)))) (by kernel_rfl) ?_
 refine wtk (i:=0) (v:=?_) [45] rfl (by kernel_rfl) (by kernel_rfl) (by kernel_rfl) (by kernel_rfl) (fun _ _ _ h=>h) hS0 (Or.inl ⟨by rfl,?_⟩) ?_
 rotate_left
 ·intro x hSx
  try dsimp only at hSx
  go_simp
  try with_reducible rfl
 simp only [Act.put]
 refine wtk (i:=1) (v:=?_) [45] rfl (by kernel_rfl) (by kernel_rfl) (by kernel_rfl) (by kernel_rfl) (fun _ _ _ h=>h) hS0 (Or.inl ⟨by rfl,?_⟩) ?_
 rotate_left
 ·intro x hSx
  try dsimp only at hSx
  go_simp
  try with_reducible rfl
 simp only [Act.put]
 refine wtk (i:=2) (v:=?_) [45] rfl (by kernel_rfl) (by kernel_rfl) (by kernel_rfl) (by kernel_rfl) (fun _ _ _ h=>h) hS0 (Or.inl ⟨by rfl,?_⟩) ?_
 rotate_left
 ·intro x hSx
  try dsimp only at hSx
  go_simp
  try with_reducible rfl
 simp only [Act.put]
 refine wtk (i:=3) (v:=?_) [45] rfl (by kernel_rfl) (by kernel_rfl) (by kernel_rfl) (by kernel_rfl) (fun _ _ _ h=>h) hS0 (Or.inl ⟨by rfl,?_⟩) ?_
 rotate_left
 ·intro x hSx
  try dsimp only at hSx
  go_simp
  try with_reducible rfl
 simp only [Act.put]
 refine wtk (i:=4) (v:=?_) [45] rfl (by kernel_rfl) (by kernel_rfl) (by kernel_rfl) (by kernel_rfl) (fun _ _ _ h=>h) hS0 (Or.inl ⟨by rfl,?_⟩) ?_
 rotate_left
 ·intro x hSx
  try dsimp only at hSx
  go_simp
  try with_reducible rfl
 simp only [Act.put]
 refine wtk (i:=5) (v:=?_) [45] rfl (by kernel_rfl) (by kernel_rfl) (by kernel_rfl) (by kernel_rfl) (fun _ _ _ h=>h) hS0 (Or.inl ⟨by rfl,?_⟩) ?_
 rotate_left
 ·intro x hSx
  try dsimp only at hSx
  go_simp
  try with_reducible rfl
 simp only [Act.put]
 refine wtk (i:=6) (v:=?_) [45] rfl (by kernel_rfl) (by kernel_rfl) (by kernel_rfl) (by kernel_rfl) (fun _ _ _ h=>h) hS0 (Or.inl ⟨by rfl,?_⟩) ?_
 rotate_left
 ·intro x hSx
  try dsimp only at hSx
  go_simp
  try with_reducible rfl
 simp only [Act.put]
 refine wtk (i:=7) (v:=?_) [45] rfl (by kernel_rfl) (by kernel_rfl) (by kernel_rfl) (by kernel_rfl) (fun _ _ _ h=>h) hS0 (Or.inl ⟨by rfl,?_⟩) ?_
 rotate_left
 ·intro x hSx
  try dsimp only at hSx
  go_simp
  try with_reducible rfl
 simp only [Act.put]
 refine wtk (i:=8) (v:=?_) [45] rfl (by kernel_rfl) (by kernel_rfl) (by kernel_rfl) (by kernel_rfl) (fun _ _ _ h=>h) hS0 (Or.inl ⟨by rfl,?_⟩) ?_
 rotate_left
 ·intro x hSx
  try dsimp only at hSx
  go_simp
  try with_reducible rfl
 simp only [Act.put]
 refine wtk (i:=9) (v:=?_) [45] rfl (by kernel_rfl) (by kernel_rfl) (by kernel_rfl) (by kernel_rfl) (fun _ _ _ h=>h) hS0 (Or.inl ⟨by rfl,?_⟩) ?_
 rotate_left
 ·intro x hSx
  try dsimp only at hSx
  go_simp
  try with_reducible rfl
 simp only [Act.put]
 refine wtk (i:=10) (v:=?_) [45] rfl (by kernel_rfl) (by kernel_rfl) (by kernel_rfl) (by kernel_rfl) (fun _ _ _ h=>h) hS0 (Or.inl ⟨by rfl,?_⟩) ?_
 rotate_left
 ·intro x hSx
  try dsimp only at hSx
  go_simp
  try with_reducible rfl
 simp only [Act.put]
 refine wtk (i:=11) (v:=?_) [45] rfl (by kernel_rfl) (by kernel_rfl) (by kernel_rfl) (by kernel_rfl) (fun _ _ _ h=>h) hS0 (Or.inl ⟨by rfl,?_⟩) ?_
 rotate_left
 ·intro x hSx
  try dsimp only at hSx
  go_simp
  try with_reducible rfl
 simp only [Act.put]
 refine wtk (i:=12) (v:=?_) [45] rfl (by kernel_rfl) (by kernel_rfl) (by kernel_rfl) (by kernel_rfl) (fun _ _ _ h=>h) hS0 (Or.inl ⟨by rfl,?_⟩) ?_
 rotate_left
 ·intro x hSx
  try dsimp only at hSx
  go_simp
  try with_reducible rfl
 simp only [Act.put]
 refine wtk (i:=13) (v:=?_) [45] rfl (by kernel_rfl) (by kernel_rfl) (by kernel_rfl) (by kernel_rfl) (fun _ _ _ h=>h) hS0 (Or.inl ⟨by rfl,?_⟩) ?_
 rotate_left
 ·intro x hSx
  try dsimp only at hSx
  go_simp
  try with_reducible rfl
 simp only [Act.put]
 refine wtk (i:=14) (v:=?_) [45] rfl (by kernel_rfl) (by kernel_rfl) (by kernel_rfl) (by kernel_rfl) (fun _ _ _ h=>h) hS0 (Or.inl ⟨by rfl,?_⟩) ?_
 rotate_left
 ·intro x hSx
  try dsimp only at hSx
  go_simp
  try with_reducible rfl
 simp only [Act.put]
 refine wtk (i:=15) (v:=?_) [45] rfl (by kernel_rfl) (by kernel_rfl) (by kernel_rfl) (by kernel_rfl) (fun _ _ _ h=>h) hS0 (Or.inl ⟨by rfl,?_⟩) ?_
 rotate_left
 ·intro x hSx
  try dsimp only at hSx
  go_simp
  try with_reducible rfl
 simp only [Act.put]
 refine wtk (i:=16) (v:=?_) [45] rfl (by kernel_rfl) (by kernel_rfl) (by kernel_rfl) (by kernel_rfl) (fun _ _ _ h=>h) hS0 (Or.inl ⟨by rfl,?_⟩) ?_
 rotate_left
 ·intro x hSx
  try dsimp only at hSx
  go_simp
  try with_reducible rfl
 simp only [Act.put]
 refine wtk (i:=17) (v:=?_) [45] rfl (by kernel_rfl) (by kernel_rfl) (by kernel_rfl) (by kernel_rfl) (fun _ _ _ h=>h) hS0 (Or.inl ⟨by rfl,?_⟩) ?_
 rotate_left
 ·intro x hSx
  try dsimp only at hSx
  go_simp
  try with_reducible rfl
 simp only [Act.put]
 refine wtk (i:=18) (v:=?_) [45] rfl (by kernel_rfl) (by kernel_rfl) (by kernel_rfl) (by kernel_rfl) (fun _ _ _ h=>h) hS0 (Or.inl ⟨by rfl,?_⟩) ?_
 rotate_left
 ·intro x hSx
  try dsimp only at hSx
  go_simp
  try with_reducible rfl
 simp only [Act.put]
 refine wtk (i:=19) (v:=?_) [45] rfl (by kernel_rfl) (by kernel_rfl) (by kernel_rfl) (by kernel_rfl) (fun _ _ _ h=>h) hS0 (Or.inl ⟨by rfl,?_⟩) ?_
 rotate_left
 ·intro x hSx
  try dsimp only at hSx
  go_simp
  try with_reducible rfl
 simp only [Act.put]
 refine wtk (i:=20) (v:=?_) [45] rfl (by kernel_rfl) (by kernel_rfl) (by kernel_rfl) (by kernel_rfl) (fun _ _ _ h=>h) hS0 (Or.inl ⟨by rfl,?_⟩) ?_
 rotate_left
 ·intro x hSx
  try dsimp only at hSx
  go_simp
  try with_reducible rfl
 simp only [Act.put]
 refine wtk (i:=21) (v:=?_) [45] rfl (by kernel_rfl) (by kernel_rfl) (by kernel_rfl) (by kernel_rfl) (fun _ _ _ h=>h) hS0 (Or.inl ⟨by rfl,?_⟩) ?_
 rotate_left
 ·intro x hSx
  try dsimp only at hSx
  go_simp
  try with_reducible rfl
 simp only [Act.put]
 refine wtk (i:=22) (v:=?_) [45] rfl (by kernel_rfl) (by kernel_rfl) (by kernel_rfl) (by kernel_rfl) (fun _ _ _ h=>h) hS0 (Or.inl ⟨by rfl,?_⟩) ?_
 rotate_left
 ·intro x hSx
  try dsimp only at hSx
  go_simp
  try with_reducible rfl
 simp only [Act.put]
 refine wtk (i:=23) (v:=?_) [45] rfl (by kernel_rfl) (by kernel_rfl) (by kernel_rfl) (by kernel_rfl) (fun _ _ _ h=>h) hS0 (Or.inl ⟨by rfl,?_⟩) ?_
 rotate_left
 ·intro x hSx
  try dsimp only at hSx
  go_simp
  try with_reducible rfl
 simp only [Act.put]
 refine wtk (i:=24) (v:=?_) [45] rfl (by kernel_rfl) (by kernel_rfl) (by kernel_rfl) (by kernel_rfl) (fun _ _ _ h=>h) hS0 (Or.inl ⟨by rfl,?_⟩) ?_
 rotate_left
 ·intro x hSx
  try dsimp only at hSx
  go_simp
  try with_reducible rfl
 simp only [Act.put]
 refine wtk (i:=25) (v:=?_) [45] rfl (by kernel_rfl) (by kernel_rfl) (by kernel_rfl) (by kernel_rfl) (fun _ _ _ h=>h) hS0 (Or.inl ⟨by rfl,?_⟩) ?_
 rotate_left
 ·intro x hSx
  try dsimp only at hSx
  go_simp
  try with_reducible rfl
 simp only [Act.put]
 refine wtk (i:=26) (v:=?_) [45] rfl (by kernel_rfl) (by kernel_rfl) (by kernel_rfl) (by kernel_rfl) (fun _ _ _ h=>h) hS0 (Or.inl ⟨by rfl,?_⟩) ?_
 rotate_left
 ·intro x hSx
  try dsimp only at hSx
  go_simp
  try with_reducible rfl
 simp only [Act.put]
 refine wtk (i:=27) (v:=?_) [45] rfl (by kernel_rfl) (by kernel_rfl) (by kernel_rfl) (by kernel_rfl) (fun _ _ _ h=>h) hS0 (Or.inl ⟨by rfl,?_⟩) ?_
 rotate_left
 ·intro x hSx
  try dsimp only at hSx
  go_simp
  try with_reducible rfl
 simp only [Act.put]
 refine wtk (i:=28) (v:=?_) [45] rfl (by kernel_rfl) (by kernel_rfl) (by kernel_rfl) (by kernel_rfl) (fun _ _ _ h=>h) hS0 (Or.inl ⟨by rfl,?_⟩) ?_
 rotate_left
 ·intro x hSx
  try dsimp only at hSx
  go_simp
  try with_reducible rfl
 simp only [Act.put]
 refine wtk (i:=29) (v:=?_) [45] rfl (by kernel_rfl) (by kernel_rfl) (by kernel_rfl) (by kernel_rfl) (fun _ _ _ h=>h) hS0 (Or.inl ⟨by rfl,?_⟩) ?_
 rotate_left
 ·intro x hSx
  try dsimp only at hSx
  go_simp
  try with_reducible rfl
 simp only [Act.put]
 refine wtk (i:=30) (v:=?_) [45] rfl (by kernel_rfl) (by kernel_rfl) (by kernel_rfl) (by kernel_rfl) (fun _ _ _ h=>h) hS0 (Or.inl ⟨by rfl,?_⟩) ?_
 rotate_left
 ·intro x hSx
  try dsimp only at hSx
  go_simp
  try with_reducible rfl
 simp only [Act.put]
 refine wtk (i:=31) (v:=?_) [45] rfl (by kernel_rfl) (by kernel_rfl) (by kernel_rfl) (by kernel_rfl) (fun _ _ _ h=>h) hS0 (Or.inl ⟨by rfl,?_⟩) ?_
 rotate_left
 ·intro x hSx
  try dsimp only at hSx
  go_simp
  try with_reducible rfl
 simp only [Act.put]
 refine wtk (i:=32) (v:=?_) [45] rfl (by kernel_rfl) (by kernel_rfl) (by kernel_rfl) (by kernel_rfl) (fun _ _ _ h=>h) hS0 (Or.inl ⟨by rfl,?_⟩) ?_
 rotate_left
 ·intro x hSx
  try dsimp only at hSx
  go_simp
  try with_reducible rfl
 simp only [Act.put]
 refine wtk (i:=33) (v:=?_) [45] rfl (by kernel_rfl) (by kernel_rfl) (by kernel_rfl) (by kernel_rfl) (fun _ _ _ h=>h) hS0 (Or.inl ⟨by rfl,?_⟩) ?_
 rotate_left
 ·intro x hSx
  try dsimp only at hSx
  go_simp
  try with_reducible rfl
 simp only [Act.put]
 refine wtk (i:=34) (v:=?_) [45] rfl (by kernel_rfl) (by kernel_rfl) (by kernel_rfl) (by kernel_rfl) (fun _ _ _ h=>h) hS0 (Or.inl ⟨by rfl,?_⟩) ?_
 rotate_left
 ·intro x hSx
  try dsimp only at hSx
  go_simp
  try with_reducible rfl
 simp only [Act.put]
 refine wtk (i:=35) (v:=?_) [45] rfl (by kernel_rfl) (by kernel_rfl) (by kernel_rfl) (by kernel_rfl) (fun _ _ _ h=>h) hS0 (Or.inl ⟨by rfl,?_⟩) ?_
 rotate_left
 ·intro x hSx
  try dsimp only at hSx
  go_simp
  try with_reducible rfl
 simp only [Act.put]
 refine wtk (i:=36) (v:=?_) [45] rfl (by kernel_rfl) (by kernel_rfl) (by kernel_rfl) (by kernel_rfl) (fun _ _ _ h=>h) hS0 (Or.inl ⟨by rfl,?_⟩) ?_
 rotate_left
 ·intro x hSx
  try dsimp only at hSx
  go_simp
  try with_reducible rfl
 simp only [Act.put]
 refine wtk (i:=37) (v:=?_) [45] rfl (by kernel_rfl) (by kernel_rfl) (by kernel_rfl) (by kernel_rfl) (fun _ _ _ h=>h) hS0 (Or.inl ⟨by rfl,?_⟩) ?_
 rotate_left
 ·intro x hSx
  try dsimp only at hSx
  go_simp
  try with_reducible rfl
 simp only [Act.put]
 refine wtk (i:=38) (v:=?_) [45] rfl (by kernel_rfl) (by kernel_rfl) (by kernel_rfl) (by kernel_rfl) (fun _ _ _ h=>h) hS0 (Or.inl ⟨by rfl,?_⟩) ?_
 rotate_left
 ·intro x hSx
  try dsimp only at hSx
  go_simp
  try with_reducible rfl
 simp only [Act.put]
 refine wtk (i:=39) (v:=?_) [45] rfl (by kernel_rfl) (by kernel_rfl) (by kernel_rfl) (by kernel_rfl) (fun _ _ _ h=>h) hS0 (Or.inl ⟨by rfl,?_⟩) ?_
 rotate_left
 ·intro x hSx
  try dsimp only at hSx
  go_simp
  try with_reducible rfl
 simp only [Act.put]
 refine wtk (i:=40) (v:=?_) [45] rfl (by kernel_rfl) (by kernel_rfl) (by kernel_rfl) (by kernel_rfl) (fun _ _ _ h=>h) hS0 (Or.inl ⟨by rfl,?_⟩) ?_
 rotate_left
 ·intro x hSx
  try dsimp only at hSx
  go_simp
  try with_reducible rfl
 simp only [Act.put]
 refine wtk (i:=41) (v:=?_) [45] rfl (by kernel_rfl) (by kernel_rfl) (by kernel_rfl) (by kernel_rfl) (fun _ _ _ h=>h) hS0 (Or.inl ⟨by rfl,?_⟩) ?_
 rotate_left
 ·intro x hSx
  try dsimp only at hSx
  go_simp
  try with_reducible rfl
 simp only [Act.put]
 refine wtk (i:=42) (v:=?_) [45] rfl (by kernel_rfl) (by kernel_rfl) (by kernel_rfl) (by kernel_rfl) (fun _ _ _ h=>h) hS0 (Or.inl ⟨by rfl,?_⟩) ?_
 rotate_left
 ·intro x hSx
  try dsimp only at hSx
  go_simp
  try with_reducible rfl
 simp only [Act.put]
 refine wtk (i:=43) (v:=?_) [45] rfl (by kernel_rfl) (by kernel_rfl) (by kernel_rfl) (by kernel_rfl) (fun _ _ _ h=>h) hS0 (Or.inl ⟨by rfl,?_⟩) ?_
 rotate_left
 ·intro x hSx
  try dsimp only at hSx
  go_simp
  try with_reducible rfl
 simp only [Act.put]
 refine wtk (i:=44) (v:=?_) [45] rfl (by kernel_rfl) (by kernel_rfl) (by kernel_rfl) (by kernel_rfl) (fun _ _ _ h=>h) hS0 (Or.inl ⟨by rfl,?_⟩) ?_
 rotate_left
 ·intro x hSx
  try dsimp only at hSx
  go_simp
  try with_reducible rfl
 simp only [Act.put]
 refine wto (j:=45) (by kernel_rfl) rfl (fun K hK=>?_)
 go_simp
 refine hK.out _ _ (fun hx=>absurd (hx.symm.trans (by kernel_rfl)) Bool.false_ne_true) ?_
 clear hK K
 refine wpTill_done (by kernel_rfl) ?_ _
 go_wp2
 refine bodyPost_ret (v:=.agg #[.int .i64 (F k),.int .i64 (F (k+1)),.int .i64 (F (k+2)),.int .i64 (F (k+3)),.int .i64 (F (k+4)),.int .i64 (F (k+5)),.int .i64 (F (k+6)),.int .i64 (F (k+7)),.int .i64 (F (k+8)),.int .i64 (F (k+9)),.int .i64 (F (k+10))]) (by simp [results,Tryz.results71,go_sem,z0,z1,z2,z3,z4,z5,z6,z7,z8,z9,z10]) rfl ?_
 exact ⟨rfl,uh hgo [_,_,_,_,_,_,_,_,_,_,_] 1⟩


open Go.RowKit

theorem Sn.list_src {w:World} {b o m:Nat} {F:Nat→Value} (h:∀c,c<m→w.cell? ⟨b,o+c,none⟩=some (F c)):∀j v,(Gd.list m F)[j]?=some v→w.cell? ((⟨b,o,none⟩:Addr).add j)=some v:=by
 intro j v hj
 have hlt:j<m:=by
  have:=(List.getElem?_eq_some_iff.1 hj).1
  rwa [Gd.list_len] at this
 rw [Gd.list_at hlt] at hj
 rw [show (⟨b,o,none⟩:Addr).add j=⟨b,o+j,none⟩ by rw [Go.WideShapes.add_plain],h j hlt]
 exact hj

set_option maxHeartbeats 800000 in
theorem snTwinB_any (b o n m cp:Nat) (F:Nat→Value) (w:World) (hn:n≤1000) (hm:m=n*1) (h1:∀c,(F c).oneCell'=true) (hF:∀c,c<m→w.cell? ⟨b,o+c,none⟩=some (F c)) (hb:b<w.heap.size) :
  Calls Tryz.prog 33 #[.slice (some ⟨b,o,none⟩) n cp] w (Copies w 5 n m F):=by
 have hF':=hide hF
 have h1':=hide h1
 obtain ⟨i0,hi,hz0,hz1,hz2⟩:=info_parts info_byte
 have hsz:(Tryz.prog.info? 5).map (·.size)=some 1:=by rw [hi];simp [hz1]
 clear hF h1
 go_enter Tryz.func33,Tryz.ntmps33
 go_wp2_with (at_make;refine wpList_make_full _ rfl _ _ 26 rfl w.heap.size 5 i0 (.int .u8 0) 1 Tryz.underlying26 hi hz0 hz1 .i64 .i64 _ _ n rfl rfl rfl rfl ?q3 ?q4 ?q5 ?_)
 any_goals (first | (rw [hz2];omega) | (unfold maxLen;omega) | exact Nat.le_refl _)
 intro w1 hown hgrow
 obtain ⟨cur,hg,hcs⟩:∃cur,w1.heap[w.heap.size]?=some (.cells cur 5 (0,0))∧cur.size=n*1:=by
  rcases hown.2 with ⟨h',_⟩ | ⟨g',cap',cur,h',_,hg,_,_,hcs,_⟩
  ·simp at h'
  ·simp only [Value.slice.injEq,Option.some.injEq,Addr.mk.injEq,and_true,true_and] at h'
   obtain ⟨rfl,rfl⟩:=h'
   exact ⟨cur,hg,hcs⟩
 have hg':=hide hg
 have hgrow':=hide hgrow
 have hcs':=hide hcs
 clear hown hg hgrow hcs hi hz0 hz1 hz2
 obtain ⟨w2,hrun,hrow,hgr2⟩:=run_copy_whole 26 26 3 5 Tryz.underlying26 1 hsz w.heap.size n n ⟨b,o,none⟩ cp cur _ (uh hg') (Gd.list m F) ((Gd.list_len m F).trans hm) (Sn.list_src fun c hc=>(gce (uh hgrow') b (o+c) hb (by simp)).trans (uh hF' c hc)) (by rw [Gd.list_len,uh hcs',hm]) (Gd.list_one (uh h1'))
 have hfin:=hide (Arr.of_list hrow)
 have hgw:=hide (show w.grownBy w2 none from gow (uh hgrow') hgr2 (fun k e=>by cases e;exact Nat.le_refl _))
 clear hrow hgr2 hb hm hn hsz
 go_wp2
 go_ret
 exact ⟨w.heap.size,rfl,Nat.le_refl _,uh hfin,uh hgw⟩

set_option maxHeartbeats 800000 in
theorem snTwinE_any (b o n m cp:Nat) (F:Nat→Value) (w:World) (hn:n≤1000) (hm:m=n*11) (h1:∀c,(F c).oneCell'=true) (hF:∀c,c<m→w.cell? ⟨b,o+c,none⟩=some (F c)) (hb:b<w.heap.size) :
  Calls Tryz.prog 34 #[.slice (some ⟨b,o,none⟩) n cp] w (Copies w 61 n m F):=by
 have hF':=hide hF
 have h1':=hide h1
 obtain ⟨i0,hi,hz0,hz1,hz2⟩:=info_parts info_ent
 have hsz:(Tryz.prog.info? 61).map (·.size)=some 11:=by rw [hi];simp [hz1]
 clear hF h1
 go_enter Tryz.func34,Tryz.ntmps34
 go_wp2_with (at_make;refine wpList_make_full _ rfl _ _ 27 rfl w.heap.size 61 i0 (.agg #[.int .i64 0,.int .i64 0,.int .i64 0,.int .i64 0,.int .i64 0,.int .i64 0,.int .i64 0,.int .i64 0,.int .i64 0,.int .i64 0,.int .i64 0]) 11 Tryz.underlying27 hi hz0 hz1 .i64 .i64 _ _ n rfl rfl rfl rfl ?q3 ?q4 ?q5 ?_)
 any_goals (first | (rw [hz2];omega) | (unfold maxLen;omega) | exact Nat.le_refl _)
 intro w1 hown hgrow
 obtain ⟨cur,hg,hcs⟩:∃cur,w1.heap[w.heap.size]?=some (.cells cur 61 (0,0))∧cur.size=n*11:=by
  rcases hown.2 with ⟨h',_⟩ | ⟨g',cap',cur,h',_,hg,_,_,hcs,_⟩
  ·simp at h'
  ·simp only [Value.slice.injEq,Option.some.injEq,Addr.mk.injEq,and_true,true_and] at h'
   obtain ⟨rfl,rfl⟩:=h'
   exact ⟨cur,hg,hcs⟩
 have hg':=hide hg
 have hgrow':=hide hgrow
 have hcs':=hide hcs
 clear hown hg hgrow hcs hi hz0 hz1 hz2
 obtain ⟨w2,hrun,hrow,hgr2⟩:=run_copy_whole 27 27 3 61 Tryz.underlying27 11 hsz w.heap.size n n ⟨b,o,none⟩ cp cur _ (uh hg') (Gd.list m F) ((Gd.list_len m F).trans hm) (Sn.list_src fun c hc=>(gce (uh hgrow') b (o+c) hb (by simp)).trans (uh hF' c hc)) (by rw [Gd.list_len,uh hcs',hm]) (Gd.list_one (uh h1'))
 have hfin:=hide (Arr.of_list hrow)
 have hgw:=hide (show w.grownBy w2 none from gow (uh hgrow') hgr2 (fun k e=>by cases e;exact Nat.le_refl _))
 clear hrow hgr2 hb hm hn hsz
 go_wp2
 go_ret
 exact ⟨w.heap.size,rfl,Nat.le_refl _,uh hfin,uh hgw⟩

set_option maxHeartbeats 800000 in
theorem snTwinI_any (b o n m cp:Nat) (F:Nat→Value) (w:World) (hn:n≤1000) (hm:m=n*4) (h1:∀c,(F c).oneCell'=true) (hF:∀c,c<m→w.cell? ⟨b,o+c,none⟩=some (F c)) (hb:b<w.heap.size) :
  Calls Tryz.prog 35 #[.slice (some ⟨b,o,none⟩) n cp] w (Copies w 63 n m F):=by
 have hF':=hide hF
 have h1':=hide h1
 obtain ⟨i0,hi,hz0,hz1,hz2⟩:=info_parts info_item
 have hsz:(Tryz.prog.info? 63).map (·.size)=some 4:=by rw [hi];simp [hz1]
 clear hF h1
 go_enter Tryz.func35,Tryz.ntmps35
 go_wp2_with (at_make;refine wpList_make_full _ rfl _ _ 28 rfl w.heap.size 63 i0 (.agg #[.int .i64 0,.int .i64 0,.int .i64 0,.int .i64 0]) 4 Tryz.underlying28 hi hz0 hz1 .i64 .i64 _ _ n rfl rfl rfl rfl ?q3 ?q4 ?q5 ?_)
 any_goals (first | (rw [hz2];omega) | (unfold maxLen;omega) | exact Nat.le_refl _)
 intro w1 hown hgrow
 obtain ⟨cur,hg,hcs⟩:∃cur,w1.heap[w.heap.size]?=some (.cells cur 63 (0,0))∧cur.size=n*4:=by
  rcases hown.2 with ⟨h',_⟩ | ⟨g',cap',cur,h',_,hg,_,_,hcs,_⟩
  ·simp at h'
  ·simp only [Value.slice.injEq,Option.some.injEq,Addr.mk.injEq,and_true,true_and] at h'
   obtain ⟨rfl,rfl⟩:=h'
   exact ⟨cur,hg,hcs⟩
 have hg':=hide hg
 have hgrow':=hide hgrow
 have hcs':=hide hcs
 clear hown hg hgrow hcs hi hz0 hz1 hz2
 obtain ⟨w2,hrun,hrow,hgr2⟩:=run_copy_whole 28 28 3 63 Tryz.underlying28 4 hsz w.heap.size n n ⟨b,o,none⟩ cp cur _ (uh hg') (Gd.list m F) ((Gd.list_len m F).trans hm) (Sn.list_src fun c hc=>(gce (uh hgrow') b (o+c) hb (by simp)).trans (uh hF' c hc)) (by rw [Gd.list_len,uh hcs',hm]) (Gd.list_one (uh h1'))
 have hfin:=hide (Arr.of_list hrow)
 have hgw:=hide (show w.grownBy w2 none from gow (uh hgrow') hgr2 (fun k e=>by cases e;exact Nat.le_refl _))
 clear hrow hgr2 hb hm hn hsz
 go_wp2
 go_ret
 exact ⟨w.heap.size,rfl,Nat.le_refl _,uh hfin,uh hgw⟩

def Sn.put (B:Nat→Value) (i:Nat) (v:Value):Nat→Value:=fun j=>if j=i then v else B j

structure Sn.Read (w x:World) (P W R G k:Nat) (F:Nat→Int) (B:Nat→Value):Prop where
 res:Lie x P 31 11 (fun j=>#[.int .i64 0,.int .i64 0,.int .i64 0,.int .i64 0,.slice none 0 0,.slice none 0 0,.slice none 0 0,.int .i64 0,.int .i64 0,.int .i64 0,Value.int .i64 0][j]?.getD undef)
 box:Lie x W 31 11 B
 rd:Sn.Rd x R G k
 src:Sn.Src x G F
 lP:w.heap.size≤P
 lW:w.heap.size≤W
 lR:w.heap.size≤R
 lG:G<w.heap.size
 pW:P≠W
 rW:R≠W
 rP:R≠P
 grown:w.grownBy x none

theorem Sn.Read.rG {w x:World} {P W R G k:Nat} {F:Nat→Int} {B:Nat→Value} (h:Sn.Read w x P W R G k F B):R≠G:=by
 have:=h.lR
 have:=h.lG
 omega

theorem Sn.Read.on {w x y:World} {P W R G k:Nat} {F:Nat→Int} {B:Nat→Value} (h:Sn.Read w x P W R G k F B) (hg:x.grownBy y none):Sn.Read w y P W R G k F B :=
 { h with res:=h.res.on hg,box:=h.box.on hg,rd:=h.rd.on hg,src:=h.src.on hg (by simp),grown:=gtr h.grown hg }

theorem Sn.Read.step {w x y:World} {P W R G k k':Nat} {F:Nat→Int} {B:Nat→Value} {u:Value} (h:Sn.Read w x P W R G k F B) (hy:y=x.setCell ⟨R,0,none⟩ u) (hr:Sn.Rd y R G k'):Sn.Read w y P W R G k' F B:=by
 subst hy
 exact { h with res:=h.res.other h.rP _ _,box:=h.box.other h.rW _ _,rd:=hr,src:=h.src.set h.rG _ _,grown:=gsr h.grown ⟨R,0,none⟩ h.lR u }

theorem Sn.Read.field {w x:World} {P W R G k:Nat} {F:Nat→Int} {B:Nat→Value} (h:Sn.Read w x P W R G k F B) (i:Nat) (v:Value):Sn.Read w (x.setCell ⟨W,i,none⟩ v) P W R G k F (Sn.put B i v):=by
 have h1:=h.lW
 have h2:=h.lG
 exact { h with res:=h.res.other h.pW.symm _ _,box:=h.box.store i v,rd:=h.rd.other h.rW.symm _ _,src:=h.src.set (by omega) _ _,grown:=gsr h.grown ⟨W,i,none⟩ h.lW v }

theorem Sn.Read.rows {w x:World} {P W R G k g:Nat} {T:TypeId} {m:Nat} {K:Nat→Value} {F:Nat→Int} {B:Nat→Value} (h:Sn.Read w x P W R G k F B) (hl:Lie x g T m K) (hT:T≠31) (hT2:T≠107) (hg:w.heap.size≤g) (o:Nat) (vs:List Value):Sn.Read w (x.setCells g o vs) P W R G k F B:=by
 obtain ⟨p,C,hc,-⟩:=h.rd.cell
 have n1:=hl.type7 h.res hT
 have n2:=hl.type7 h.box hT
 have n3:=hl.type7 hc hT2
 have h2:=h.lG
 exact { h with res:=h.res.others n1 _ _,box:=h.box.others n2 _ _,rd:=h.rd.others n3 _ _,src:=h.src.sets (by omega) _ _,grown:=own_sets hg vs o x h.grown }

def Sn.gd (B:Nat→Value) (g:Nat→Int) (t:Nat):Nat→Value:=fun j=>if 7≤j∧j<7+t then .int .i64 (g (j - 7)) else B j

theorem Sn.gd_more (B:Nat→Value) (g:Nat→Int) (t:Nat):Sn.put (Sn.gd B g t) (7+t) (.int .i64 (g t))=Sn.gd B g (t+1):=by
 funext j
 unfold Sn.put Sn.gd
 by_cases e:j=7+t
 ·rw [if_pos e,if_pos (by omega),show j - 7=t by omega]
 ·rw [if_neg e]
  by_cases e2:7≤j∧j<7+t
  ·rw [if_pos e2,if_pos (by omega)]
  ·rw [if_neg e2,if_neg (by omega)]

theorem Sn.gd_none (B:Nat→Value) (g:Nat→Int):Sn.gd B g 0=B:=by
 funext j
 unfold Sn.gd
 rw [if_neg (by omega)]

def Sn.fill (f:Nat→Nat→Int) (n:Nat):Nat→Nat→Int:=fun i j=>if i<n then f i j else 0

theorem Sn.fill_more (f:Nat→Nat→Int) (n:Nat):En.put (Sn.fill f n) n (f n)=Sn.fill f (n+1):=by
 funext i j
 unfold Sn.fill
 by_cases e:i=n
 ·subst e
  rw [En.put_same,if_pos (by omega)]
 ·rw [En.put_other e]
  by_cases e2:i<n
  ·rw [if_pos e2,if_pos (by omega)]
  ·rw [if_neg e2,if_neg (by omega)]

theorem Sn.fill_none (f:Nat→Nat→Int):Sn.fill f 0=fun _ _=>0:=by
 funext i j
 unfold Sn.fill
 rw [if_neg (by omega)]

end Go.Proofs.YtepppmepilffcaaGreat
