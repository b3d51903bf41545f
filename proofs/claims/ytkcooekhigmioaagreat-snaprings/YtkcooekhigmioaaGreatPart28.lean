import Derived.Test.YtkcooekhigmioaaGreatPart25
import Derived.Test.YtkcooekhigmioaaGreatPart26
import Derived.Test.YtkcooekhigmioaaGreatPart27
import Derived.Laws.Bits64b
import Derived.BigRegion
namespace Go.Proofs.YtkcooekhigmioaaGreat
open Go.RowKit

def Sn.sameW (s t g h c d:Nat→Int) (E F I J:Nat→Nat→Int):Bool :=
 Sn.sameH s t g h && (Sn.allB (fun i=>c i == d i) 384 && (Sn.allB (fun i=>Sn.sameE (E i) (F i)) 32 && Sn.allB (fun i=>Sn.sameI (I i) (J i)) 40))


open Go.RowKit

theorem Gd.Lists.aside {x:World} {gC gE gI:Nat} {c:Nat→Int} {E I:Nat→Nat→Int} (h:Gd.Lists x gC gE gI c E I) {G:Nat} (n1:G≠gC) (n2:G≠gE) (n3:G≠gI) (i:Nat) (u:Value):Gd.Lists (x.setCell ⟨G,i,none⟩ u) gC gE gI c E I :=
 ⟨h.cells.other n1 i u,h.ents.other n2 i u,h.items.other n3 i u⟩

theorem Sn.box_num (s g:Nat→Int) (gC gE gI cC cE cI k:Nat) (u:Int) (hk:k<4):∀j,j<11→(if j=k then Value.int .i64 u else Gd.box s gC gE gI cC cE cI g j)=Gd.box (Cr.num s k u) gC gE gI cC cE cI g j:=by
 intro j hj
 rcases (show k=0∨k=1∨k=2∨k=3 by omega) with rfl | rfl | rfl | rfl <;> rcases (show j=0∨j=1∨j=2∨j=3∨j=4∨j=5∨j=6∨j=7∨j=8∨j=9∨j=10 by omega) with rfl | rfl | rfl | rfl | rfl | rfl | rfl | rfl | rfl | rfl | rfl <;> rfl

theorem Gd.Lists.asides {x:World} {gC gE gI:Nat} {c:Nat→Int} {E I:Nat→Nat→Int} (h:Gd.Lists x gC gE gI c E I) {G:Nat} (n1:G≠gC) (n2:G≠gE) (n3:G≠gI) (o:Nat) (vs:List Value):Gd.Lists (x.setCells G o vs) gC gE gI c E I :=
 ⟨h.cells.others n1 o vs,h.ents.others n2 o vs,h.items.others n3 o vs⟩


open Go.RowKit

structure Sn.Left (x:World) (V jC jE jI dC dE dI:Nat) (t h d:Nat→Int) (F J:Nat→Nat→Int):Prop where
 v:Lie x V 31 11 (Gd.box t jC jE jI dC dE dI h)
 lv:Gd.Lists x jC jE jI d F J

theorem Sn.Left.on {x y:World} {V jC jE jI dC dE dI:Nat} {t h d:Nat→Int} {F J:Nat→Nat→Int} (H:Sn.Left x V jC jE jI dC dE dI t h d F J) (hg:x.grownBy y none):Sn.Left y V jC jE jI dC dE dI t h d F J :=
 ⟨H.v.on hg,H.lv.on hg⟩


open Go.RowKit

theorem make918:∃Z:Array Value,Z.size=918∧∀w:World,(Instr.makeSlice 26 (.int .i64 0) (.int .i64 918)).run Tryz.prog w=.ok (.slice (some ⟨w.heap.size,0,none⟩) 0 918) (w.alloc (.cells Z 5)):=by
 obtain ⟨i0,hi,hz0,hz1,hz2⟩:=info_parts info_byte
 refine ⟨madeCells (Value.int .u8 0).cells (918*1),by rw [size_madeCells],fun w=>?_⟩
 have hr:=run_make (P:=Tryz.prog) w 26 5 i0 _ Tryz.underlying26 hi hz0 .i64 .i64 (0:Nat) (918:Nat) (by omega) (by omega) (by rw [hz2];decide) (by decide)
 rw [hz1] at hr
 exact hr

theorem Sn.wrap64 (x:Int):IntKind.u64.wrap x=x % 18446744073709551616:=IntKind.wrap_u64 x

theorem Sn.wrap8 (x:Int):IntKind.u8.wrap x=x % 256:=IntKind.wrap_u8 x

structure Sn.Wr (w x:World) (base:Nat) (v:Value) (l:List Int):Prop where
 own:Sn.Bytes x base v l
 bel:Below base w x

theorem Sn.Wr.top {w x:World} {base:Nat} {v:Value} {l:List Int} (h:Sn.Wr w x base v l) (hb:base≤w.heap.size):base≤x.heap.size:=Nat.le_trans hb h.bel.size

theorem Sn.Wr.more {w x y x':World} {base m:Nat} {v v':Value} {l ns:List Int} (h:Sn.Wr w x base v l) (hb:base≤w.heap.size) (hxy:x.grownBy y none) (hown:x'.ownsRow base 5 1 v' (l.length+m) (List.map (Value.int .u8) l ++ ns.map (Value.int .u8))) (hm:ns.length=m) (hg:y.grownBy x' v.ownBlock):Sn.Wr w x' base v' (l ++ ns):=by
 refine ⟨?_,?_⟩
 ·unfold Sn.Bytes
  rw [List.length_append,hm,List.map_append]
  exact hown
 ·have hb1:Below base x y:=Sn.below hxy (fun k e=>by cases e) (h.top hb)
  have hb2:=Sn.below hg (fun k e=>(h.own.lt k e).1) (Nat.le_trans (h.top hb) hb1.size)
  exact h.bel.trans (hb1.trans hb2)

theorem Sn.Wr.on {w x y:World} {base:Nat} {v:Value} {l:List Int} (h:Sn.Wr w x base v l) (hb:base≤w.heap.size) (hg:x.grownBy y none):Sn.Wr w y base v l :=
 ⟨h.own.on hg,h.bel.trans (Sn.below hg (fun k e=>by cases e) (h.top hb))⟩

theorem Sn.Wr.adds {w x x':World} {base:Nat} {v v':Value} {l l':List Int} (h:Sn.Wr w x base v l) (hown:Sn.Bytes x' base v' l') (hb:Below base x x'):Sn.Wr w x' base v' l':=⟨hown,h.bel.trans hb⟩

theorem Sn.cells_src {w:World} {G:Nat} {c:Nat→Int} (h:Lie w G 5 384 (Byts c)):∀j u,(((List.range 384).map c).map (Value.int .u8))[j]?=some u→w.cell? ((⟨G,0,none⟩:Addr).add j)=some u:=by
 intro j u hj
 have hlt:j<384:=by
  have:=(List.getElem?_eq_some_iff.1 hj).1
  simpa using this
 rw [show (⟨G,0,none⟩:Addr).add j=⟨G,j,none⟩ by rw [Go.WideShapes.add_plain,Nat.zero_add],h.cell hlt]
 rw [List.getElem?_map,List.getElem?_map,List.getElem?_range hlt] at hj
 exact hj

theorem Sn.news (w:World) (arr:Array Value) (T:TypeId) (B:Nat) (hB:B=w.heap.size):∀j u,arr.toList[j]?=some u→(w.alloc (.cells arr T)).cell? ((⟨B,0,none⟩:Addr).add j)=some u:=by
 subst hB
 intro j u hj
 have hlt:j<arr.size:=by
  have:=(List.getElem?_eq_some_iff.1 hj).1
  simpa using this
 rw [show (⟨w.heap.size,0,none⟩:Addr).add j=⟨w.heap.size,j,none⟩ by rw [Go.WideShapes.add_plain,Nat.zero_add],(Arr.lit (heap_alloc_new w (.cells arr T))).cell hlt]
 rw [Array.getElem?_toList] at hj
 rw [hj]
 rfl

set_option maxRecDepth 16000 in
set_option maxHeartbeats 6400000 in
theorem written_any (s g c:Nat→Int) (E I:Nat→Nat→Int) (gC gE gI cC cE cI:Nat) (w:World) (hL:Gd.Lists w gC gE gI c E I) :
  Calls Tryz.prog 30 #[.agg (Gd.world s gC gE gI cC cE cI g)] w fun e w'=>∃v,e=.returned v∧Sn.Bytes w' w.heap.size v (Sn.bytes s g c E I)∧w.grownBy w' none:=by
 obtain ⟨w0,hw0⟩:∃w0,w0=w.alloc (.cells (Gd.world s gC gE gI cC cE cI g) 31):=⟨_,rfl⟩
 have hg0:w.grownBy w0 none:=by rw [hw0];exact World.grownBy_alloc _ _ _
 have hO:Hid (Sn.Shown w w0 w.heap.size gC gE gI cC cE cI s g c E I):=by
  refine ⟨?_,hL.on hg0,hg0⟩
  rw [hw0]
  exact (Arr.world (heap_alloc_new w _)).lie
 obtain ⟨base,hbase⟩:∃base,w0.heap.size=base:=⟨_,rfl⟩
 have HB:Hid (base=w.heap.size+1):=by
  show base=w.heap.size+1
  rw [←hbase,hw0]
  simp
 have HG0:=hide hg0
 have HB0:Hid (base≤w0.heap.size):=(show base≤w0.heap.size by omega)
 obtain ⟨i0,hi,hz0,hz1,hz2⟩:=info_parts info_byte
 obtain ⟨Z,hZ,hmk⟩:=make918
 have hW0:Hid (∀x,x=w0.alloc (.cells Z 5)→Sn.Wr w0 x base (.slice (some ⟨base,0,none⟩) 0 918) []):=fun x hx=>by
  subst hx
  rw [←hbase]
  exact ⟨World.ownsRow_made w0 Z 918 (Nat.le_refl _) (by decide) (by rw [hZ]),Sn.below (World.grownBy_alloc w0 _ none) (fun k e=>by cases e) (Nat.le_refl _)⟩
 have lE:=hide (And.intro hL.cells.lt (And.intro hL.ents.lt hL.items.lt))
 have hlists:Hid (∀x,Below base w0 x→Lie x w.heap.size 31 11 (Gd.box s gC gE gI cC cE cI g)∧Gd.Lists x gC gE gI c E I):=fun x hx=>by
  have:=uh HB
  obtain ⟨l1,l2,l3⟩:=uh lE
  exact ⟨(uh hO).box.below hx (by omega),(uh hO).lists.below hx (by omega) (by omega) (by omega)⟩
 have cN:=hide (fun (n:Nat) (x:Int) (v:Value) (l:List Int) (y:World) (hn:n≤8) (h:Sn.Bytes y base v l) (hb:base≤y.heap.size) (hl:l.length≤1000)=>withNumber_any n base x v l y hn h hb hl)
 clear hL hg0 hZ
 unfold Gd.world at hw0 ⊢
 go_enter Tryz.func30,Tryz.ntmps30
 go_upto_region 1 with fail
 rw [←hw0]
 clear hw0
 obtain ⟨B,hBe⟩:∃B,w.heap.size=B:=⟨_,rfl⟩
 rw [hBe] at hlists ⊢
 clear hO hBe
 go_upto_region 2 with fail
 have hW1:=hide (uh hW0 _ rfl)
 clear hW0 hmk
 generalize w0.alloc (.cells Z 5)=w1 at hW1 ⊢
 obtain ⟨b0,b1,b2,b3,b4,b5,b6,b7,b8,b9,b10⟩:=(uh hlists w1 (uh hW1).bel).1.eleven
 go_wp2_with fail
 refine (uh cN 8 _ _ [] _ (by omega) (uh hW1).own ((uh hW1).top (uh HB0)) (by simp)).mono ?_
 rintro e w2 ⟨v2,rfl,hown,hbel⟩
 have hW2:=hide ((uh hW1).adds hown hbel)
 rw [List.nil_append,Sn.wrap64] at hW2
 clear hown hbel hW1 b0 b1 b2 b3 b4 b5 b6 b7 b8 b9 b10
 have b1:=(uh hlists w2 (uh hW2).bel).1.eleven.2.1
 go_wp2_with fail
 refine (uh cN 4 _ _ _ _ (by omega) (uh hW2).own ((uh hW2).top (uh HB0)) (by rw [Sn.num_len];omega)).mono ?_
 rintro e w3 ⟨v3,rfl,hown,hbel⟩
 have hW3:=hide ((uh hW2).adds hown hbel)
 rw [Sn.wrap64] at hW3
 clear hown hbel hW2 b1
 obtain ⟨b0,b1,b2,b3,b4,b5,b6,b7,b8,b9,b10⟩:=(uh hlists w3 (uh hW3).bel).1.eleven
 have t2:IntKind.u8.wrap (s 2)=s 2 % 256:=Sn.wrap8 _
 have t3:IntKind.u8.wrap (s 3)=s 3 % 256:=Sn.wrap8 _
 go_wp2_with (at_builtin;refine wpList_append_own _ rfl _ _ 26 rfl base 5 i0 (.int .u8 0) 1 1 Tryz.underlying26 hi hz0 hz1 hz2 rfl (by decide) _ _ _ rfl ((uh hW3).own.alloc _) ⟨w3.heap.size,0,none⟩ 2 2 [.int .u8 (s 2 % 256),.int .u8 (s 3 % 256)] rfl rfl (Sn.news w3 #[.int .u8 (s 2 % 256),.int .u8 (s 3 % 256)] _ _ rfl) ?_ ?_ ?_ ?_ ?_)
 ·intro u hu
  simp only [List.mem_cons,List.not_mem_nil,or_false] at hu
  rcases hu with rfl | rfl <;> rfl
 ·simp [Sn.num_len];unfold maxLen;omega
 ·simp [Sn.num_len]
 ·have:=(uh hW3).top (uh HB0);simp;omega
 intro v4 w4 hown hgrow _
 have hW4:Hid (Sn.Wr w0 w4 base v4 (Sn.head s)):=(uh hW3).more (m:=2) (ns:=[s 2 % 256,s 3 % 256]) (uh HB0) (World.grownBy_alloc _ _ _) (by simpa using hown) rfl hgrow
 clear hown hgrow hW3 b0 b1 b2 b3 b4 b5 b6 b7 b8 b9 b10 t2 t3
 obtain ⟨b0,b1,b2,b3,b4,b5,b6,b7,b8,b9,b10⟩:=(uh hlists w4 (uh hW4).bel).1.eleven
 go_wp2_with fail
 go_loopw [3,32] (fun v3 v32 wr=>∃k:Nat,k≤4∧v32=.int .i64 (k:Int)∧Hid (Sn.Wr w0 wr base v3 (Sn.head s ++ Sn.golds k g))) (fun _ v32 _=>10 - (intOf v32).toNat)
 case atStart=>exact ⟨0,by omega,rfl,by simpa [Sn.golds] using hW4⟩
 case round =>
  clear hW4 b0 b1 b2 b3 b4 b5 b6 b7 b8 b9 b10
  obtain ⟨k,hk,rfl,hX⟩:=hrel
  have hlen:Hid ((Sn.head s ++ Sn.golds k g).length=14+k*2):=by show (Sn.head s ++ Sn.golds k g).length=_;rw [List.length_append,Sn.head_len,Sn.golds_len]
  by_cases hlt:k<4
  ·have hlt':(k:Int)<4:=by omega
   have HL:=hide hlt
   have hix:=fun x=>run_index_gold g k hlt x
   clear hlt hk
   go_wp2_with fail
   refine (uh cN 2 _ _ _ _ (by omega) (uh hX).own ((uh hX).top (uh HB0)) (by have:=uh hlen;have:=uh HL;omega)).mono ?_
   rintro e w5 ⟨v5,rfl,hown,hbel⟩
   have hX2:=hide ((uh hX).adds hown hbel)
   rw [Sn.wrap64,List.append_assoc,←Sn.golds_more] at hX2
   clear hown hbel hX hix hlen
   go_wp2
   go_roundw
   case rel=>exact ⟨k+1,by have:=uh HL;omega,by go_num,hX2⟩
   case measure=>simp [intOf];have:=uh HL;omega
  ·obtain rfl:k=4:=by omega
   have hge:¬((4:Nat):Int)<4:=by omega
   clear hlt hk
   have b4:=(uh hlists wr (uh hX).bel).1.eleven.2.2.2.2.1
   go_upto_region 10 with fail
   go_wp2_with (at_builtin;refine wpList_append_own _ rfl _ _ 26 rfl base 5 i0 (.int .u8 0) 1 1 Tryz.underlying26 hi hz0 hz1 hz2 rfl (by decide) _ _ _ rfl (uh hX).own ⟨gC,0,none⟩ 384 cC (((List.range 384).map c).map (Value.int .u8)) rfl (by simp) (Sn.cells_src (uh hlists wr (uh hX).bel).2.cells) ?_ ?_ ?_ ?_ ?_)
   ·intro u hu
    obtain ⟨x,_,rfl⟩:=List.mem_map.1 hu
    rfl
   ·have:=Sn.head_len s;have:=Sn.golds_len g 4;unfold maxLen;omega
   ·have:=Sn.head_len s;have:=Sn.golds_len g 4;omega
   ·exact (uh hX).top (uh HB0)
   intro v6 w6 hown hgrow _
   have hW6:Hid (Sn.Wr w0 w6 base v6 (Sn.head s ++ Sn.golds 4 g ++ (List.range 384).map c)):=(uh hX).more (m:=384) (uh HB0) (World.grownBy.refl _ _) hown (by simp) hgrow
   clear hown hgrow hX b4 hlen hge
   have b5:=(uh hlists w6 (uh hW6).bel).1.eleven.2.2.2.2.2.1
   go_upto_region 11 with fail
   go_wp2_with fail
   go_loopw [3,7,47] (fun v3 v7 v47 wr=>∃k:Nat,k≤32∧v47=.int .i64 (k:Int)∧Hid (Sn.Wr w0 wr base v3 (Sn.head s ++ Sn.golds 4 g ++ (List.range 384).map c ++ Sn.rows k 11 E))) (fun _ _ v47 _=>40 - (intOf v47).toNat)
   case atStart=>exact ⟨0,by omega,rfl,by simpa [Sn.rows] using hW6⟩
   case round =>
    clear hW6 b5
    obtain ⟨k,hk,rfl,hX⟩:=hrel
    have hlen:Hid ((Sn.head s ++ Sn.golds 4 g ++ (List.range 384).map c ++ Sn.rows k 11 E).length=406+k*11):=by show (Sn.head s ++ Sn.golds 4 g ++ (List.range 384).map c ++ Sn.rows k 11 E).length=_;rw [List.length_append,Sn.len22,Sn.rows_len]
    by_cases hlt:k<32
    ·have hlt':(k:Int)<32:=by omega
     have HL:=hide hlt
     obtain ⟨r0,r1,r2,r3,r4,r5,r6,r7,r8,r9,r10⟩:=(uh hlists wr (uh hX).bel).2.own.ents.row hlt
     clear hlt hk
     obtain ⟨l,hl⟩:∃l,Sn.head s ++ Sn.golds 4 g ++ (List.range 384).map c ++ Sn.rows k 11 E=l:=⟨_,rfl⟩
     rw [hl] at hX hlen
     have hl':=hide hl
     clear hl
     go_upto_region 14 with fail
     obtain ⟨wd,hwd⟩:∃wd,wd=wr.alloc (.cells (En.cells (E k)) 70):=⟨_,rfl⟩
     have hgd:wr.grownBy wd none:=by rw [hwd];exact World.grownBy_alloc _ _ _
     have hD:Hid (Lie wd wr.heap.size 70 11 (Ints (E k))):=by show Lie wd _ _ _ _;rw [hwd];exact Sn.born wr (E k) 70
     have hXd:=hide ((uh hX).on (uh HB0) hgd)
     unfold En.cells at hwd
     rw [←hwd]
     clear hwd hgd hX r0 r1 r2 r3 r4 r5 r6 r7 r8 r9 r10
     obtain ⟨D,hDe⟩:∃D,wr.heap.size=D:=⟨_,rfl⟩
     rw [hDe] at hD ⊢
     clear hDe wr
     obtain ⟨d0,d1,d2,d3,d4,d5,d6,d7,d8,d9,d10⟩:=Sn.row (uh hD)
     have tw:∀j,IntKind.u8.wrap (E k j)=E k j % 256:=fun j=>Sn.wrap8 _
     go_wp2_with (at_builtin;refine wpList_append_own _ rfl _ _ 26 rfl base 5 i0 (.int .u8 0) 1 1 Tryz.underlying26 hi hz0 hz1 hz2 rfl (by decide) _ _ _ rfl ((uh hXd).own.alloc _) ⟨wd.heap.size,0,none⟩ 11 11 (#[.int .u8 (E k 0 % 256),.int .u8 (E k 1 % 256),.int .u8 (E k 2 % 256),.int .u8 (E k 3 % 256),.int .u8 (E k 4 % 256),.int .u8 (E k 5 % 256),.int .u8 (E k 6 % 256),.int .u8 (E k 7 % 256),.int .u8 (E k 8 % 256),.int .u8 (E k 9 % 256),.int .u8 (E k 10 % 256)]:Array Value).toList rfl rfl (Sn.news wd _ _ _ rfl) ?_ ?_ ?_ ?_ ?_)
     ·exact ⟨rfl,rfl,rfl,rfl,rfl,rfl,rfl,rfl,rfl,rfl,rfl⟩
     ·have:=uh hlen;have:=uh HL;unfold maxLen;omega
     ·have:=uh hlen;have:=uh HL;omega
     ·have:=(uh hXd).top (uh HB0);simp;omega
     intro v8 w8 hown hgrow _
     have hX2:Hid (Sn.Wr w0 w8 base v8 (l ++ (List.range 11).map fun j=>E k j % 256)):=(uh hXd).more (m:=11) (uh HB0) (World.grownBy_alloc _ _ _) hown (by simp) hgrow
     rw [←uh hl',List.append_assoc,←Sn.rows_more] at hX2
     clear hown hgrow hXd hD d0 d1 d2 d3 d4 d5 d6 d7 d8 d9 d10 tw hlen
     go_wp2
     go_roundw
     case rel=>exact ⟨k+1,by have:=uh HL;omega,by go_num,hX2⟩
     case measure=>simp [intOf];have:=uh HL;omega
    ·obtain rfl:k=32:=by omega
     have hge:¬((32:Nat):Int)<32:=by omega
     clear hlt hk
     have b6:=(uh hlists wr (uh hX).bel).1.eleven.2.2.2.2.2.2.1
     go_upto_region 16 with fail
     go_wp2_with fail
     go_loopw [3,9,91] (fun v3 v9 v91 wr=>∃k:Nat,k≤40∧v91=.int .i64 (k:Int)∧Hid (Sn.Wr w0 wr base v3 (Sn.head s ++ Sn.golds 4 g ++ (List.range 384).map c ++ Sn.rows 32 11 E ++ Sn.rows k 4 I))) (fun _ _ v91 _=>50 - (intOf v91).toNat)
     case atStart=>exact ⟨0,by omega,rfl,by simpa [Sn.rows] using hX⟩
     case round =>
      clear hX b6 hge hlen
      obtain ⟨k,hk,rfl,hX⟩:=hrel
      have hlen:Hid ((Sn.head s ++ Sn.golds 4 g ++ (List.range 384).map c ++ Sn.rows 32 11 E ++ Sn.rows k 4 I).length=758+k*4):=by show (Sn.head s ++ Sn.golds 4 g ++ (List.range 384).map c ++ Sn.rows 32 11 E ++ Sn.rows k 4 I).length=_;rw [List.length_append,Sn.len406,Sn.rows_len]
      by_cases hlt:k<40
      ·have hlt':(k:Int)<40:=by omega
       have HL:=hide hlt
       obtain ⟨r0,r1,r2,r3⟩:=(uh hlists wr (uh hX).bel).2.its.row hlt
       clear hlt hk
       obtain ⟨l,hl⟩:∃l,Sn.head s ++ Sn.golds 4 g ++ (List.range 384).map c ++ Sn.rows 32 11 E ++ Sn.rows k 4 I=l:=⟨_,rfl⟩
       rw [hl] at hX hlen
       have hl':=hide hl
       clear hl
       go_upto_region 19 with fail
       obtain ⟨wd,hwd⟩:∃wd,wd=wr.alloc (.cells (Gd.cells (I k)) 72):=⟨_,rfl⟩
       have hgd:wr.grownBy wd none:=by rw [hwd];exact World.grownBy_alloc _ _ _
       have hD:Hid (Lie wd wr.heap.size 72 4 (fun j=>(Gd.cells (I k))[j]?.getD undef)):=by show Lie wd _ _ _ _;rw [hwd];exact (Arr.lit (heap_alloc_new wr _)).lie
       have hXd:=hide ((uh hX).on (uh HB0) hgd)
       unfold Gd.cells at hwd
       rw [←hwd]
       clear hwd hgd hX r0 r1 r2 r3
       obtain ⟨D,hDe⟩:∃D,wr.heap.size=D:=⟨_,rfl⟩
       rw [hDe] at hD ⊢
       clear hDe wr
       have d0:wd.cell? ⟨D,0,none⟩=some (.int .i64 (I k 0)):=(uh hD).cell (c:=0) (by omega)
       have d1:wd.cell? ⟨D,1,none⟩=some (.int .i64 (I k 1)):=(uh hD).cell (c:=1) (by omega)
       have d2:wd.cell? ⟨D,2,none⟩=some (.int .i64 (I k 2)):=(uh hD).cell (c:=2) (by omega)
       have d3:wd.cell? ⟨D,3,none⟩=some (.int .i64 (I k 3)):=(uh hD).cell (c:=3) (by omega)
       have tw:∀j,IntKind.u8.wrap (I k j)=I k j % 256:=fun j=>Sn.wrap8 _
       go_wp2_with (at_builtin;refine wpList_append_own _ rfl _ _ 26 rfl base 5 i0 (.int .u8 0) 1 1 Tryz.underlying26 hi hz0 hz1 hz2 rfl (by decide) _ _ _ rfl ((uh hXd).own.alloc _) ⟨wd.heap.size,0,none⟩ 4 4 (#[.int .u8 (I k 0 % 256),.int .u8 (I k 1 % 256),.int .u8 (I k 2 % 256),.int .u8 (I k 3 % 256)]:Array Value).toList rfl rfl (Sn.news wd _ _ _ rfl) ?_ ?_ ?_ ?_ ?_)
       ·exact ⟨rfl,rfl,rfl,rfl⟩
       ·have:=uh hlen;have:=uh HL;unfold maxLen;omega
       ·have:=uh hlen;have:=uh HL;omega
       ·have:=(uh hXd).top (uh HB0);simp;omega
       intro v8 w8 hown hgrow _
       have hX2:Hid (Sn.Wr w0 w8 base v8 (l ++ (List.range 4).map fun j=>I k j % 256)):=(uh hXd).more (m:=4) (uh HB0) (World.grownBy_alloc _ _ _) hown (by simp) hgrow
       rw [←uh hl',List.append_assoc,←Sn.rows_more] at hX2
       clear hown hgrow hXd hD d0 d1 d2 d3 tw hlen
       go_wp2
       go_roundw
       case rel=>exact ⟨k+1,by have:=uh HL;omega,by go_num,hX2⟩
       case measure=>simp [intOf];have:=uh HL;omega
      ·obtain rfl:k=40:=by omega
       have hge:¬((40:Nat):Int)<40:=by omega
       have hfin:Hid (∀v,Sn.Wr w0 wr base v (Sn.bytes s g c E I)→Sn.Bytes wr w.heap.size v (Sn.bytes s g c E I)∧w.grownBy wr none):=fun v hv=>by
        have e1:=uh HB
        refine ⟨?_,?_⟩
        ·obtain ⟨h1,h2⟩:=hv.own
         refine ⟨h1,?_⟩
         rcases h2 with h2 | ⟨gg,cap,cur,h3,h4,h5⟩
         ·exact .inl h2
         ·exact .inr ⟨gg,cap,cur,h3,by omega,h5⟩
        ·exact below_grown (Sn.below_trans (none_below (uh HG0)) (hv.bel.mono (by omega)))
       clear hlt hk
       go_wp2
       go_ret
       exact ⟨_,rfl,(uh hfin _ (uh hX)).1,(uh hfin _ (uh hX)).2⟩

def Sn.Encodes (w:World) (s g c:Nat→Int) (E I:Nat→Nat→Int) (e:Ending) (w':World):Prop :=
 ∃v r,e=.returned (.tuple #[v,.int .i64 r])∧Sn.Chk s g c E I r∧(r≠0→v=.slice none 0 0)∧(r=0→Sn.Bytes w' w.heap.size v (Sn.bytes s g c E I))∧w.grownBy w' none

theorem Sn.Bytes.mono {w:World} {base base':Nat} {v:Value} {l:List Int} (h:Sn.Bytes w base v l) (hb:base'≤base):Sn.Bytes w base' v l:=by
 obtain ⟨h1,h2⟩:=h
 refine ⟨h1,?_⟩
 rcases h2 with h2 | ⟨gg,cap,cur,h3,h4,h5⟩
 ·exact .inl h2
 ·exact .inr ⟨gg,cap,cur,h3,by omega,h5⟩

set_option maxRecDepth 8000 in
set_option maxHeartbeats 1600000 in
theorem encode_any (s g c:Nat→Int) (E I:Nat→Nat→Int) (gC gE gI cC cE cI:Nat) (w:World) (hL:Gd.Lists w gC gE gI c E I) (hc:∀i,0≤c i∧c i≤255) (hcE:32≤cE) :
  Calls Tryz.prog 9 #[.agg (Gd.world s gC gE gI cC cE cI g)] w (Sn.Encodes w s g c E I):=by
 obtain ⟨w0,hw0⟩:∃w0,w0=w.alloc (.cells (Gd.world s gC gE gI cC cE cI g) 31):=⟨_,rfl⟩
 have hg0:w.grownBy w0 none:=by rw [hw0];exact World.grownBy_alloc _ _ _
 have hO:Hid (Sn.Shown w w0 w.heap.size gC gE gI cC cE cI s g c E I):=by
  refine ⟨?_,hL.on hg0,hg0⟩
  rw [hw0]
  exact (Arr.world (heap_alloc_new w _)).lie
 have cc:=hide (fun x (hx:Gd.Lists x gC gE gI c E I)=>snCheck_any s g c E I gC gE gI cC cE cI x hx hc hcE)
 have cw:=hide (fun x (hx:Gd.Lists x gC gE gI c E I)=>written_any s g c E I gC gE gI cC cE cI x hx)
 clear hL hg0 hc hcE
 unfold Gd.world at hw0 cc cw ⊢
 go_enter Tryz.func9,Tryz.ntmps9
 go_upto_region 1 with fail
 rw [←hw0]
 clear hw0
 obtain ⟨B,hBe⟩:∃B,w.heap.size=B:=⟨_,rfl⟩
 rw [hBe] at hO ⊢
 clear hBe
 obtain ⟨b0,b1,b2,b3,b4,b5,b6,b7,b8,b9,b10⟩:=(uh hO).box.eleven
 go_wp2_with fail
 refine (uh cc _ (uh hO).lists).mono ?_
 rintro e w1 ⟨r,rfl,hr,hg⟩
 have hO1:=hide ((uh hO).on hg)
 have HR:=hide hr
 clear hg hO cc b0 b1 b2 b3 b4 b5 b6 b7 b8 b9 b10 hr
 by_cases h0:r=0
 ·have h0':(r != 0)=false:=by simp [h0]
  have H0:=hide h0
  obtain ⟨b0,b1,b2,b3,b4,b5,b6,b7,b8,b9,b10⟩:=(uh hO1).box.eleven
  clear h0
  go_wp2_with fail
  refine (uh cw _ (uh hO1).lists).mono ?_
  rintro e w2 ⟨v,rfl,hown,hg⟩
  have hfin:Hid (Sn.Encodes w s g c E I (.returned (.tuple #[v,.int .i64 0])) w2):=by
   have e:=uh HR
   rw [uh H0] at e
   exact ⟨v,0,rfl,e,fun h=>absurd rfl h,fun _=>hown.mono (uh hO1).grown.size,gtr (uh hO1).grown hg⟩
  clear hown hg b0 b1 b2 b3 b4 b5 b6 b7 b8 b9 b10 hO1 cw
  go_wp2
  go_ret2
  exact uh hfin
 ·have h0':(r != 0)=true:=by simp [h0]
  have hfin:Hid (Sn.Encodes w s g c E I (.returned (.tuple #[.slice none 0 0,.int .i64 r])) w1):=⟨_,r,rfl,uh HR,fun _=>rfl,fun h=>absurd h h0,(uh hO1).grown⟩
  clear h0
  go_wp2
  go_ret2
  exact uh hfin


open Go.RowKit

structure Sn.Rd (x:World) (R G k:Nat):Prop where
 cell:∃p C,Lie x R 128 1 (fun _=>.slice (some ⟨G,p,none⟩) (918 - k) C)∧(k<918→p=k)∧918 - k≤C∧C≤9223372036854775807

theorem Sn.Rd.on {x y:World} {R G k:Nat} (h:Sn.Rd x R G k) (hg:x.grownBy y none):Sn.Rd y R G k:=by
 obtain ⟨p,C,hl,h1,h2,h3⟩:=h.cell
 exact ⟨p,C,hl.on hg,h1,h2,h3⟩

theorem Sn.Rd.other {x:World} {R G k:Nat} (h:Sn.Rd x R G k) {q:Nat} (hq:q≠R) (i:Nat) (u:Value):Sn.Rd (x.setCell ⟨q,i,none⟩ u) R G k:=by
 obtain ⟨p,C,hl,h1,h2,h3⟩:=h.cell
 exact ⟨p,C,hl.other hq i u,h1,h2,h3⟩

theorem Sn.Rd.others {x:World} {R G k:Nat} (h:Sn.Rd x R G k) {q:Nat} (hq:q≠R) (o:Nat) (vs:List Value):Sn.Rd (x.setCells q o vs) R G k:=by
 obtain ⟨p,C,hl,h1,h2,h3⟩:=h.cell
 exact ⟨p,C,hl.others hq o vs,h1,h2,h3⟩

def Sn.Goes (x:World) (R G k n:Nat) (e:Ending) (x':World):Prop :=
 ∃u C,e=.returned (.slice (some ⟨G,k,none⟩) n C)∧n≤C∧x'=x.setCell ⟨R,0,none⟩ u∧Sn.Rd x' R G (k+n)

set_option maxRecDepth 8000 in
set_option maxHeartbeats 1600000 in
theorem snNext_any (R G k n:Nat) (x:World) (hR:Sn.Rd x R G k) (h0:0<n) (hn:k+n≤918) :
  Calls Tryz.prog 79 #[.pointer (some ⟨R,0,none⟩),.int .i64 (n:Int)] x (Sn.Goes x R G k n):=by
 obtain ⟨p,C,hl,h1,h2,h3⟩:=hR.cell
 obtain rfl:p=k:=h1 (by omega)
 obtain ⟨L,hL⟩:∃L,L=918 - p:=⟨_,rfl⟩
 rw [←hL] at hl h2
 have r0:x.cell? ⟨R,0,none⟩=some (.slice (some ⟨G,p,none⟩) L C):=hl.cell (c:=0) (by omega)
 have fR:=hl.free
 have q1:¬(n:Int)<0:=by omega
 have q2:(n:Int)≤(C:Int):=by omega
 have q3:(n:Int)≤(L:Int):=by omega
 have hfin:Hid (∀q,(p+n<918→q=p+n)→Sn.Goes x R G p n (.returned (.slice (some ⟨G,p,none⟩) n C)) (x.setCell ⟨R,0,none⟩ (.slice (some ⟨G,q,none⟩) (L - n) (C - n)))):=fun q hq=>by
  refine ⟨_,C,rfl,by omega,rfl,⟨q,C - n,?_,hq,by omega,by omega⟩⟩
  refine (hl.store 0 (.slice (some ⟨G,q,none⟩) (L - n) (C - n))).congr fun c hc=>?_
  obtain rfl:c=0:=by omega
  rw [if_pos rfl,show 918 - (p+n)=L - n by omega]
 clear hR hl h1
 by_cases hz:C - n=0
 ·have hf:=hide (uh hfin p (fun h=>by omega))
  rw [hz] at hf
  clear hL hfin
  go_enter Tryz.func79,Tryz.ntmps79
  go_wp2
  go_ret
  exact uh hf
 ·have hf:=hide (uh hfin (p+n) (fun _=>rfl))
  clear hL hfin
  go_enter Tryz.func79,Tryz.ntmps79
  go_wp2
  go_ret
  exact uh hf

structure Sn.Src (x:World) (G:Nat) (F:Nat→Int):Prop where
 lt:G<x.heap.size
 cell:∀i,i<918→x.cell? ⟨G,i,none⟩=some (.int .u8 (F i))
 byte:∀i,0≤F i∧F i≤255

theorem Sn.Src.on {x y:World} {G:Nat} {F:Nat→Int} {r:Option Nat} (h:Sn.Src x G F) (hg:x.grownBy y r) (hr:r≠some G):Sn.Src y G F :=
 ⟨Nat.lt_of_lt_of_le h.lt hg.size,fun i hi=>(gce hg G i h.lt hr).trans (h.cell i hi),h.byte⟩

theorem Sn.Src.set {x:World} {G:Nat} {F:Nat→Int} (h:Sn.Src x G F) {q:Nat} (hq:q≠G) (i:Nat) (u:Value):Sn.Src (x.setCell ⟨q,i,none⟩ u) G F :=
 h.on (gs0 x q i u) (by simpa using hq)

theorem Sn.Src.sets {x:World} {G:Nat} {F:Nat→Int} (h:Sn.Src x G F) {q:Nat} (hq:q≠G) (o:Nat) (vs:List Value):Sn.Src (x.setCells q o vs) G F :=
 h.on (gss vs o x (World.grownBy.refl _ _)) (by simpa using hq)

theorem Sn.or_byte (v b:Int) (h0:0≤v) (h1:v<72057594037927936) (b0:0≤b) (b1:b≤255):bits BinOp.or IntKind.u64 (IntKind.u64.wrap (v*256)) b=v*256+b:=by
 obtain ⟨n,rfl⟩:∃n:Nat,v=(n:Int):=⟨v.toNat,by omega⟩
 obtain ⟨m,rfl⟩:∃n:Nat,b=(n:Int):=⟨b.toNat,by omega⟩
 rw [Sn.wrap64,show (n:Int)*256 % 18446744073709551616=((n*256:Nat):Int) by omega,bits_or_u64_nat (n*256) m (by omega) (by omega)]
 have h:n*2 ^ 8+m=n*2 ^ 8 ||| m:=by
  rw [←Nat.shiftLeft_eq]
  exact Nat.shiftLeft_add_eq_or_of_lt (by omega) n
 show ((n*2 ^ 8 ||| m:Nat):Int)=_
 rw [←h]
 show ((n*256+m:Nat):Int)=_
 omega

def Sn.Nums (x:World) (R G k n:Nat) (v:Int) (e:Ending) (x':World):Prop :=
 ∃u,e=.returned (.int .u64 v)∧x'=x.setCell ⟨R,0,none⟩ u∧Sn.Rd x' R G (k+n)

set_option maxRecDepth 8000 in
set_option maxHeartbeats 1600000 in
theorem snNumber_any (R G k n:Nat) (F:Nat→Int) (x:World) (hR:Sn.Rd x R G k) (hS:Sn.Src x G F) (hRG:R≠G) (h0:0<n) (h8:n≤8) (hn:k+n≤918) :
  Calls Tryz.prog 78 #[.pointer (some ⟨R,0,none⟩),.int .i64 (n:Int)] x (Sn.Nums x R G k n (Sn.be (Sn.cut F k n))):=by
 have cn:=hide (snNext_any R G k n x hR h0 hn)
 have hS':=hide hS
 have HRG:=hide hRG
 have H8:=hide h8
 have HN:=hide hn
 clear hR hS hRG h0 h8 hn
 go_enter Tryz.func78,Tryz.ntmps78
 go_wp2_with fail
 refine (uh cn).mono ?_
 rintro e y ⟨u,C,rfl,hC,hy,hRd⟩
 have hY:=hide (And.intro hy hRd)
 have hSy:Hid (Sn.Src y G F):=by
  show Sn.Src y G F
  rw [hy]
  exact (uh hS').set (uh HRG) _ _
 clear cn hC hy hRd hS'
 go_wp2_with fail
 go_loop [5,7,12] (fun v5 v7 v12=>∃i:Nat,i≤n∧v5=.int .u64 (Sn.be (Sn.cut F k i))∧v12=.int .i64 (i:Int)) (fun _ _ v12=>20 - (intOf v12).toNat)
 case atStart=>exact ⟨0,by omega,rfl,rfl⟩
 case round =>
  obtain ⟨i,hi,rfl,rfl⟩:=hrel
  by_cases hlt:i<n
  ·have hlt':(i:Int)<(n:Int):=by omega
   have HL:=hide hlt
   have hi8:(i:Int)<8:=by have:=uh H8;omega
   have u0:y.cell? ⟨G,k+i,none⟩=some (.int .u8 (F (k+i))):=(uh hSy).cell (k+i) (by have:=uh HN;omega)
   obtain ⟨v0,v1⟩:=Sn.be_bound i F k (fun j _=>(uh hSy).byte _)
   have v2:Sn.be (Sn.cut F k i)<72057594037927936:=by
    have h7:i≤7:=by have:=uh H8;omega
    have:(256:Int) ^ i≤256 ^ 7:=by
     rcases (show i=0∨i=1∨i=2∨i=3∨i=4∨i=5∨i=6∨i=7 by omega) with rfl | rfl | rfl | rfl | rfl | rfl | rfl | rfl <;> decide
    omega
   have hor:=Sn.or_byte (Sn.be (Sn.cut F k i)) (F (k+i)) v0 v2 ((uh hSy).byte _).1 ((uh hSy).byte _).2
   have hmo:=hide (Sn.be_more (Sn.cut F k i) (F (k+i)))
   rw [←Sn.cut_more] at hmo
   rw [←uh hmo] at hor
   have hw:IntKind.u64.wrap (F (k+i))=F (k+i):=by
    rw [Sn.wrap64]
    have:=(uh hSy).byte (k+i)
    omega
   obtain ⟨X,hX⟩:∃X,Sn.be (Sn.cut F k i)=X:=⟨_,rfl⟩
   rw [hX] at hor ⊢
   clear hlt hi hX v0 v1 v2 hmo
   go_wp2
   go_round
   case rel=>exact ⟨i+1,by have:=uh HL;omega,rfl,by go_num⟩
   case measure=>simp [intOf];have:=uh HL;have:=uh H8;omega
  ·obtain rfl:i=n:=by omega
   have hge:¬(i:Int)<(i:Int):=by omega
   have hfin:Hid (Sn.Nums x R G k i (Sn.be (Sn.cut F k i)) (.returned (.int .u64 (Sn.be (Sn.cut F k i)))) y):=⟨u,rfl,(uh hY).1,(uh hY).2⟩
   clear hlt hi
   go_wp2
   go_ret
   exact uh hfin


open Go.RowKit

set_option maxRecDepth 8000 in
set_option maxHeartbeats 6400000 in
theorem itemOf_any (G k C:Nat) (F:Nat→Int) (x:World) (hS:Sn.Src x G F) (hk:k+4≤918) :
  Calls Tryz.prog 81 #[.slice (some ⟨G,k,none⟩) 4 C] x (Says x (.agg #[.int .i64 (F k),.int .i64 (F (k+1)),.int .i64 (F (k+2)),.int .i64 (F (k+3))])):=by
 obtain ⟨y,hy⟩:∃y,y=x.alloc (.cells #[.int .i64 0,.int .i64 0,.int .i64 0,.int .i64 0] 72):=⟨_,rfl⟩
 have hg:Hid (x.grownBy y none):=by show x.grownBy y none;rw [hy];exact World.grownBy_alloc _ _ _
 have hR:Hid (Lie y x.heap.size 72 4 (fun _=>.int .i64 0)):=by
  show Lie y _ _ _ _
  rw [hy]
  refine (Arr.lit (heap_alloc_new x _)).lie.congr fun c hc=>?_
  have:c<4:=hc
  rcases (show c=0∨c=1∨c=2∨c=3 by omega) with rfl | rfl | rfl | rfl <;> rfl
 have hSy:=hide (hS.on (uh hg) (by simp))
 have HK:=hide hk
 clear hS hk
 go_enter Tryz.func81,Tryz.ntmps81
 go_upto_region 1 with fail
 rw [←hy]
 clear hy
 obtain ⟨B,hB⟩:∃B,x.heap.size=B:=⟨_,rfl⟩
 have hBx:Hid (x.heap.size≤B):=(show x.heap.size≤B by omega)
 rw [hB] at hR ⊢
 clear hB
 have c0:=(uh hSy).cell (k) (by have:=uh HK;omega)
 have c1:=(uh hSy).cell (k+1) (by have:=uh HK;omega)
 have c2:=(uh hSy).cell (k+2) (by have:=uh HK;omega)
 have c3:=(uh hSy).cell (k+3) (by have:=uh HK;omega)
 have tw:∀j,IntKind.i64.wrap (F j)=F j:=fun j=>by
  have:=(uh hSy).byte j
  rw [IntKind.wrap_i64]
  omega
 have fR:=(uh hR).free
 have z0:y.cell? ⟨B,0,none⟩=some (.int .i64 0):=(uh hR).cell (c:=0) (by omega)
 have z1:y.cell? ⟨B,1,none⟩=some (.int .i64 0):=(uh hR).cell (c:=1) (by omega)
 have z2:y.cell? ⟨B,2,none⟩=some (.int .i64 0):=(uh hR).cell (c:=2) (by omega)
 have z3:y.cell? ⟨B,3,none⟩=some (.int .i64 0):=(uh hR).cell (c:=3) (by omega)
 have hgo:Hid (∀l m,x.grownBy ((y.setCells B 0 l).drewN m) none):=fun l m=>gdw (own_sets (uh hBx) l 0 y (uh hg)) m
 go_region
 go_wp2
 refine bodyPost_ret (v:=.agg #[.int .i64 (F k),.int .i64 (F (k+1)),.int .i64 (F (k+2)),.int .i64 (F (k+3))]) (by simp [results,Tryz.results81,go_sem,z0,z1,z2,z3]) rfl ?_
 exact ⟨rfl,uh hgo [_,_,_,_] 1⟩

set_option maxRecDepth 8000 in
set_option maxHeartbeats 6400000 in
theorem entOf_any (G k C:Nat) (F:Nat→Int) (x:World) (hS:Sn.Src x G F) (hk:k+11≤918) :
  Calls Tryz.prog 80 #[.slice (some ⟨G,k,none⟩) 11 C] x (Says x (.agg #[.int .i64 (F k),.int .i64 (F (k+1)),.int .i64 (F (k+2)),.int .i64 (F (k+3)),.int .i64 (F (k+4)),.int .i64 (F (k+5)),.int .i64 (F (k+6)),.int .i64 (F (k+7)),.int .i64 (F (k+8)),.int .i64 (F (k+9)),.int .i64 (F (k+10))])):=by
 obtain ⟨y,hy⟩:∃y,y=x.alloc (.cells #[.int .i64 0,.int .i64 0,.int .i64 0,.int .i64 0,.int .i64 0,.int .i64 0,.int .i64 0,.int .i64 0,.int .i64 0,.int .i64 0,.int .i64 0] 70):=⟨_,rfl⟩
 have hg:Hid (x.grownBy y none):=by show x.grownBy y none;rw [hy];exact World.grownBy_alloc _ _ _
 have hR:Hid (Lie y x.heap.size 70 11 (fun _=>.int .i64 0)):=by
  show Lie y _ _ _ _
  rw [hy]
  refine (Arr.lit (heap_alloc_new x _)).lie.congr fun c hc=>?_
  have:c<11:=hc
  rcases (show c=0∨c=1∨c=2∨c=3∨c=4∨c=5∨c=6∨c=7∨c=8∨c=9∨c=10 by omega) with rfl | rfl | rfl | rfl | rfl | rfl | rfl | rfl | rfl | rfl | rfl <;> rfl
 have hSy:=hide (hS.on (uh hg) (by simp))
 have HK:=hide hk
 clear hS hk
 go_enter Tryz.func80,Tryz.ntmps80
 go_upto_region 1 with fail
 rw [←hy]
 clear hy
 obtain ⟨B,hB⟩:∃B,x.heap.size=B:=⟨_,rfl⟩
 have hBx:Hid (x.heap.size≤B):=(show x.heap.size≤B by omega)
 rw [hB] at hR ⊢
 clear hB
 have tw:∀j,IntKind.i64.wrap (F j)=F j:=fun j=>by
  have:=(uh hSy).byte j
  rw [IntKind.wrap_i64]
  omega
 have fR:=(uh hR).free
 have z0:y.cell? ⟨B,0,none⟩=some (.int .i64 0):=(uh hR).cell (c:=0) (by omega)
 have z1:y.cell? ⟨B,1,none⟩=some (.int .i64 0):=(uh hR).cell (c:=1) (by omega)
 have z2:y.cell? ⟨B,2,none⟩=some (.int .i64 0):=(uh hR).cell (c:=2) (by omega)
 have z3:y.cell? ⟨B,3,none⟩=some (.int .i64 0):=(uh hR).cell (c:=3) (by omega)
 have z4:y.cell? ⟨B,4,none⟩=some (.int .i64 0):=(uh hR).cell (c:=4) (by omega)
 have z5:y.cell? ⟨B,5,none⟩=some (.int .i64 0):=(uh hR).cell (c:=5) (by omega)
 have z6:y.cell? ⟨B,6,none⟩=some (.int .i64 0):=(uh hR).cell (c:=6) (by omega)
 have z7:y.cell? ⟨B,7,none⟩=some (.int .i64 0):=(uh hR).cell (c:=7) (by omega)
 have z8:y.cell? ⟨B,8,none⟩=some (.int .i64 0):=(uh hR).cell (c:=8) (by omega)
 have z9:y.cell? ⟨B,9,none⟩=some (.int .i64 0):=(uh hR).cell (c:=9) (by omega)
 have z10:y.cell? ⟨B,10,none⟩=some (.int .i64 0):=(uh hR).cell (c:=10) (by omega)
 have hgo:Hid (∀l m,x.grownBy ((y.setCells B 0 l).drewN m) none):=fun l m=>gdw (own_sets (uh hBx) l 0 y (uh hg)) m
 have hS0:y.drew.cell? ⟨G,k,none⟩=some (.int .u8 (F k))∧y.drew.cell? ⟨G,k+1,none⟩=some (.int .u8 (F (k+1)))∧y.drew.cell? ⟨G,k+2,none⟩=some (.int .u8 (F (k+2)))∧y.drew.cell? ⟨G,k+3,none⟩=some (.int .u8 (F (k+3)))∧y.drew.cell? ⟨G,k+4,none⟩=some (.int .u8 (F (k+4)))∧y.drew.cell? ⟨G,k+5,none⟩=some (.int .u8 (F (k+5)))∧y.drew.cell? ⟨G,k+6,none⟩=some (.int .u8 (F (k+6)))∧y.drew.cell? ⟨G,k+7,none⟩=some (.int .u8 (F (k+7)))∧y.drew.cell? ⟨G,k+8,none⟩=some (.int .u8 (F (k+8)))∧y.drew.cell? ⟨G,k+9,none⟩=some (.int .u8 (F (k+9)))∧y.drew.cell? ⟨G,k+10,none⟩=some (.int .u8 (F (k+10))):=by
  have h:=(uh hSy).on (gd1 (World.grownBy.refl y none)) (by simp)
  have hk:=uh HK
  exact ⟨h.cell (k) (by omega),h.cell (k+1) (by omega),h.cell (k+2) (by omega),h.cell (k+3) (by omega),h.cell (k+4) (by omega),h.cell (k+5) (by omega),h.cell (k+6) (by omega),h.cell (k+7) (by omega),h.cell (k+8) (by omega),h.cell (k+9) (by omega),h.cell (k+10) (by omega)⟩
 clear hSy hR hg hBx HK
 refine wp_region_till (h:=45) (S:=fun x=>x.cell? ⟨G,k,none⟩=some (.int .u8 (F k))∧x.cell? ⟨G,k+1,none⟩=some (.int .u8 (F (k+1)))∧x.cell? ⟨G,k+2,none⟩=some (.int .u8 (F (k+2)))∧x.cell? ⟨G,k+3,none⟩=some (.int .u8 (F (k+3)))∧x.cell? ⟨G,k+4,none⟩=some (.int .u8 (F (k+4)))∧x.cell? ⟨G,k+5,none⟩=some (.int .u8 (F (k+5)))∧x.cell? ⟨G,k+6,none⟩=some (.int .u8 (F (k+6)))∧x.cell? ⟨G,k+7,none⟩=some (.int .u8 (F (k+7)))∧x.cell? ⟨G,k+8,none⟩=some (.int .u8 (F (k+8)))∧x.cell? ⟨G,k+9,none⟩=some (.int .u8 (F (k+9)))∧x.cell? ⟨G,k+10,none⟩=some (.int .u8 (F (k+10)))) (by kernel_rfl) ?_
 refine wtk (i:=0) (v:=?_) [45] rfl (by kernel_rfl) (by kernel_rfl) (by kernel_rfl) (by kernel_rfl) (fun _ _ _ h=>h) hS0 (Or.inl ⟨by rfl,?_⟩) ?_
 rotate_left
 ·intro x hSx
  try dsimp only at hSx
  go_simp
  try with_reducible rfl
 simp only [Act.put]
 refine wtk (i:=1) (v:=?_) [45] rfl (by kernel_rfl) (by kernel_rfl) (by kernel_rfl) (by kernel_rfl) (fun _ _ _ h=>h) hS0 (Or.inl ⟨by rfl,?_⟩) ?_
 rotate_left
 ·intro x hSx
  try dsimp only at hSx
  go_simp
  try with_reducible rfl
 simp only [Act.put]
 refine wtk (i:=2) (v:=?_) [45] rfl (by kernel_rfl) (by kernel_rfl) (by kernel_rfl) (by kernel_rfl) (fun _ _ _ h=>h) hS0 (Or.inl ⟨by rfl,?_⟩) ?_
 rotate_left
 ·intro x hSx
  try dsimp only at hSx
  go_simp
  try with_reducible rfl
 simp only [Act.put]
 refine wtk (i:=3) (v:=?_) [45] rfl (by kernel_rfl) (by kernel_rfl) (by kernel_rfl) (by kernel_rfl) (fun _ _ _ h=>h) hS0 (Or.inl ⟨by rfl,?_⟩) ?_
 rotate_left
 ·intro x hSx
  try dsimp only at hSx
  go_simp
  try with_reducible rfl
 simp only [Act.put]
 refine wtk (i:=4) (v:=?_) [45] rfl (by kernel_rfl) (by kernel_rfl) (by kernel_rfl) (by kernel_rfl) (fun _ _ _ h=>h) hS0 (Or.inl ⟨by rfl,?_⟩) ?_
 rotate_left
 ·intro x hSx
  try dsimp only at hSx
  go_simp
  try with_reducible rfl
 simp only [Act.put]
 refine wtk (i:=5) (v:=?_) [45] rfl (by kernel_rfl) (by kernel_rfl) (by kernel_rfl) (by kernel_rfl) (fun _ _ _ h=>h) hS0 (Or.inl ⟨by rfl,?_⟩) ?_
 rotate_left
 ·intro x hSx
  try dsimp only at hSx
  go_simp
  try with_reducible rfl
 simp only [Act.put]
 refine wtk (i:=6) (v:=?_) [45] rfl (by kernel_rfl) (by kernel_rfl) (by kernel_rfl) (by kernel_rfl) (fun _ _ _ h=>h) hS0 (Or.inl ⟨by rfl,?_⟩) ?_
 rotate_left
 ·intro x hSx
  try dsimp only at hSx
  go_simp
  try with_reducible rfl
 simp only [Act.put]
 refine wtk (i:=7) (v:=?_) [45] rfl (by kernel_rfl) (by kernel_rfl) (by kernel_rfl) (by kernel_rfl) (fun _ _ _ h=>h) hS0 (Or.inl ⟨by rfl,?_⟩) ?_
 rotate_left
 ·intro x hSx
  try dsimp only at hSx
  go_simp
  try with_reducible rfl
 simp only [Act.put]
 refine wtk (i:=8) (v:=?_) [45] rfl (by kernel_rfl) (by kernel_rfl) (by kernel_rfl) (by kernel_rfl) (fun _ _ _ h=>h) hS0 (Or.inl ⟨by rfl,?_⟩) ?_
 rotate_left
 ·intro x hSx
  try dsimp only at hSx
  go_simp
  try with_reducible rfl
 simp only [Act.put]
 refine wtk (i:=9) (v:=?_) [45] rfl (by kernel_rfl) (by kernel_rfl) (by kernel_rfl) (by kernel_rfl) (fun _ _ _ h=>h) hS0 (Or.inl ⟨by rfl,?_⟩) ?_
 rotate_left
 ·intro x hSx
  try dsimp only at hSx
  go_simp
  try with_reducible rfl
 simp only [Act.put]
 refine wtk (i:=10) (v:=?_) [45] rfl (by kernel_rfl) (by kernel_rfl) (by kernel_rfl) (by kernel_rfl) (fun _ _ _ h=>h) hS0 (Or.inl ⟨by rfl,?_⟩) ?_
 rotate_left
 ·intro x hSx
  try dsimp only at hSx
  go_simp
  try with_reducible rfl
 simp only [Act.put]
 refine wtk (i:=11) (v:=?_) [45] rfl (by kernel_rfl) (by kernel_rfl) (by kernel_rfl) (by kernel_rfl) (fun _ _ _ h=>h) hS0 (Or.inl ⟨by rfl,?_⟩) ?_
 rotate_left
 ·intro x hSx
  try dsimp only at hSx
  go_simp
  try with_reducible rfl
 simp only [Act.put]
 refine wtk (i:=12) (v:=?_) [45] rfl (by kernel_rfl) (by kernel_rfl) (by kernel_rfl) (by kernel_rfl) (fun _ _ _ h=>h) hS0 (Or.inl ⟨by rfl,?_⟩) ?_
 rotate_left
 ·intro x hSx
  try dsimp only at hSx
  go_simp
  try with_reducible rfl
 simp only [Act.put]
 refine wtk (i:=13) (v:=?_) [45] rfl (by kernel_rfl) (by kernel_rfl) (by kernel_rfl) (by kernel_rfl) (fun _ _ _ h=>h) hS0 (Or.inl ⟨by rfl,?_⟩) ?_
 rotate_left
 ·intro x hSx
  try dsimp only at hSx
  go_simp
  try with_reducible rfl
 simp only [Act.put]
 refine wtk (i:=14) (v:=?_) [45] rfl (by kernel_rfl) (by kernel_rfl) (by kernel_rfl) (by kernel_rfl) (fun _ _ _ h=>h) hS0 (Or.inl ⟨by rfl,?_⟩) ?_
 rotate_left
 ·intro x hSx
  try dsimp only at hSx
  go_simp
  try with_reducible rfl
 simp only [Act.put]
 refine wtk (i:=15) (v:=?_) [45] rfl (by kernel_rfl) (by kernel_rfl) (by kernel_rfl) (by kernel_rfl) (fun _ _ _ h=>h) hS0 (Or.inl ⟨by rfl,?_⟩) ?_
 rotate_left
 ·intro x hSx
  try dsimp only at hSx
  go_simp
  try with_reducible rfl
 simp only [Act.put]
 refine wtk (i:=16) (v:=?_) [45] rfl (by kernel_rfl) (by kernel_rfl) (by kernel_rfl) (by kernel_rfl) (fun _ _ _ h=>h) hS0 (Or.inl ⟨by rfl,?_⟩) ?_
 rotate_left
 ·intro x hSx
  try dsimp only at hSx
  go_simp
  try with_reducible rfl
 simp only [Act.put]
 refine wtk (i:=17) (v:=?_) [45] rfl (by kernel_rfl) (by kernel_rfl) (by kernel_rfl) (by kernel_rfl) (fun _ _ _ h=>h) hS0 (Or.inl ⟨by rfl,?_⟩) ?_
 rotate_left
 ·intro x hSx
  try dsimp only at hSx
  go_simp
  try with_reducible rfl
 simp only [Act.put]
 refine wtk (i:=18) (v:=?_) [45] rfl (by kernel_rfl) (by kernel_rfl) (by kernel_rfl) (by kernel_rfl) (fun _ _ _ h=>h) hS0 (Or.inl ⟨by rfl,?_⟩) ?_
 rotate_left
 ·intro x hSx
  try dsimp only at hSx
  go_simp
  try with_reducible rfl
 simp only [Act.put]
 refine wtk (i:=19) (v:=?_) [45] rfl (by kernel_rfl) (by kernel_rfl) (by kernel_rfl) (by kernel_rfl) (fun _ _ _ h=>h) hS0 (Or.inl ⟨by rfl,?_⟩) ?_
 rotate_left
 ·intro x hSx
  try dsimp only at hSx
  go_simp
  try with_reducible rfl
 simp only [Act.put]
 refine wtk (i:=20) (v:=?_) [45] rfl (by kernel_rfl) (by kernel_rfl) (by kernel_rfl) (by kernel_rfl) (fun _ _ _ h=>h) hS0 (Or.inl ⟨by rfl,?_⟩) ?_
 rotate_left
 ·intro x hSx
  try dsimp only at hSx
  go_simp
  try with_reducible rfl
 simp only [Act.put]
 refine wtk (i:=21) (v:=?_) [45] rfl (by kernel_rfl) (by kernel_rfl) (by kernel_rfl) (by kernel_rfl) (fun _ _ _ h=>h) hS0 (Or.inl ⟨by rfl,?_⟩) ?_
 rotate_left
 ·intro x hSx
  try dsimp only at hSx
  go_simp
  try with_reducible rfl
 simp only [Act.put]
 refine wtk (i:=22) (v:=?_) [45] rfl (by kernel_rfl) (by kernel_rfl) (by kernel_rfl) (by kernel_rfl) (fun _ _ _ h=>h) hS0 (Or.inl ⟨by rfl,?_⟩) ?_
 rotate_left
 ·intro x hSx
  try dsimp only at hSx
  go_simp
  try with_reducible rfl
 simp only [Act.put]
 refine wtk (i:=23) (v:=?_) [45] rfl (by kernel_rfl) (by kernel_rfl) (by kernel_rfl) (by kernel_rfl) (fun _ _ _ h=>h) hS0 (Or.inl ⟨by rfl,?_⟩) ?_
 rotate_left
 ·intro x hSx
  try dsimp only at hSx
  go_simp
  try with_reducible rfl
 simp only [Act.put]
 refine wtk (i:=24) (v:=?_) [45] rfl (by kernel_rfl) (by kernel_rfl) (by kernel_rfl) (by kernel_rfl) (fun _ _ _ h=>h) hS0 (Or.inl ⟨by rfl,?_⟩) ?_
 rotate_left
 ·intro x hSx
  try dsimp only at hSx
  go_simp
  try with_reducible rfl
 simp only [Act.put]
 refine wtk (i:=25) (v:=?_) [45] rfl (by kernel_rfl) (by kernel_rfl) (by kernel_rfl) (by kernel_rfl) (fun _ _ _ h=>h) hS0 (Or.inl ⟨by rfl,?_⟩) ?_
 rotate_left
 ·intro x hSx
  try dsimp only at hSx
  go_simp
  try with_reducible rfl
 simp only [Act.put]
 refine wtk (i:=26) (v:=?_) [45] rfl (by kernel_rfl) (by kernel_rfl) (by kernel_rfl) (by kernel_rfl) (fun _ _ _ h=>h) hS0 (Or.inl ⟨by rfl,?_⟩) ?_
 rotate_left
 ·intro x hSx
  try dsimp only at hSx
  go_simp
  try with_reducible rfl
 simp only [Act.put]
 refine wtk (i:=27) (v:=?_) [45] rfl (by kernel_rfl) (by kernel_rfl) (by kernel_rfl) (by kernel_rfl) (fun _ _ _ h=>h) hS0 (Or.inl ⟨by rfl,?_⟩) ?_
 rotate_left
 ·intro x hSx
  try dsimp only at hSx
  go_simp
  try with_reducible rfl
 simp only [Act.put]
 refine wtk (i:=28) (v:=?_) [45] rfl (by kernel_rfl) (by kernel_rfl) (by kernel_rfl) (by kernel_rfl) (fun _ _ _ h=>h) hS0 (Or.inl ⟨by rfl,?_⟩) ?_
 rotate_left
 ·intro x hSx
  try dsimp only at hSx
  go_simp
  try with_reducible rfl
 simp only [Act.put]
 refine wtk (i:=29) (v:=?_) [45] rfl (by kernel_rfl) (by kernel_rfl) (by kernel_rfl) (by kernel_rfl) (fun _ _ _ h=>h) hS0 (Or.inl ⟨by rfl,?_⟩) ?_
 rotate_left
 ·intro x hSx
  try dsimp only at hSx
  go_simp
  try with_reducible rfl
 simp only [Act.put]
 refine wtk (i:=30) (v:=?_) [45] rfl (by kernel_rfl) (by kernel_rfl) (by kernel_rfl) (by kernel_rfl) (fun _ _ _ h=>h) hS0 (Or.inl ⟨by rfl,?_⟩) ?_
 rotate_left
 ·intro x hSx
  try dsimp only at hSx
  go_simp
  try with_reducible rfl
 simp only [Act.put]
 refine wtk (i:=31) (v:=?_) [45] rfl (by kernel_rfl) (by kernel_rfl) (by kernel_rfl) (by kernel_rfl) (fun _ _ _ h=>h) hS0 (Or.inl ⟨by rfl,?_⟩) ?_
 rotate_left
 ·intro x hSx
  try dsimp only at hSx
  go_simp
  try with_reducible rfl
 simp only [Act.put]
 refine wtk (i:=32) (v:=?_) [45] rfl (by kernel_rfl) (by kernel_rfl) (by kernel_rfl) (by kernel_rfl) (fun _ _ _ h=>h) hS0 (Or.inl ⟨by rfl,?_⟩) ?_
 rotate_left
 ·intro x hSx
  try dsimp only at hSx
  go_simp
  try with_reducible rfl
 simp only [Act.put]
 refine wtk (i:=33) (v:=?_) [45] rfl (by kernel_rfl) (by kernel_rfl) (by kernel_rfl) (by kernel_rfl) (fun _ _ _ h=>h) hS0 (Or.inl ⟨by rfl,?_⟩) ?_
 rotate_left
 ·intro x hSx
  try dsimp only at hSx
  go_simp
  try with_reducible rfl
 simp only [Act.put]
 refine wtk (i:=34) (v:=?_) [45] rfl (by kernel_rfl) (by kernel_rfl) (by kernel_rfl) (by kernel_rfl) (fun _ _ _ h=>h) hS0 (Or.inl ⟨by rfl,?_⟩) ?_
 rotate_left
 ·intro x hSx
  try dsimp only at hSx
  go_simp
  try with_reducible rfl
 simp only [Act.put]
 refine wtk (i:=35) (v:=?_) [45] rfl (by kernel_rfl) (by kernel_rfl) (by kernel_rfl) (by kernel_rfl) (fun _ _ _ h=>h) hS0 (Or.inl ⟨by rfl,?_⟩) ?_
 rotate_left
 ·intro x hSx
  try dsimp only at hSx
  go_simp
  try with_reducible rfl
 simp only [Act.put]
 refine wtk (i:=36) (v:=?_) [45] rfl (by kernel_rfl) (by kernel_rfl) (by kernel_rfl) (by kernel_rfl) (fun _ _ _ h=>h) hS0 (Or.inl ⟨by rfl,?_⟩) ?_
 rotate_left
 ·intro x hSx
  try dsimp only at hSx
  go_simp
  try with_reducible rfl
 simp only [Act.put]
 refine wtk (i:=37) (v:=?_) [45] rfl (by kernel_rfl) (by kernel_rfl) (by kernel_rfl) (by kernel_rfl) (fun _ _ _ h=>h) hS0 (Or.inl ⟨by rfl,?_⟩) ?_
 rotate_left
 ·intro x hSx
  try dsimp only at hSx
  go_simp
  try with_reducible rfl
 simp only [Act.put]
 refine wtk (i:=38) (v:=?_) [45] rfl (by kernel_rfl) (by kernel_rfl) (by kernel_rfl) (by kernel_rfl) (fun _ _ _ h=>h) hS0 (Or.inl ⟨by rfl,?_⟩) ?_
 rotate_left
 ·intro x hSx
  try dsimp only at hSx
  go_simp
  try with_reducible rfl
 simp only [Act.put]
 refine wtk (i:=39) (v:=?_) [45] rfl (by kernel_rfl) (by kernel_rfl) (by kernel_rfl) (by kernel_rfl) (fun _ _ _ h=>h) hS0 (Or.inl ⟨by rfl,?_⟩) ?_
 rotate_left
 ·intro x hSx
  try dsimp only at hSx
  go_simp
  try with_reducible rfl
 simp only [Act.put]
 refine wtk (i:=40) (v:=?_) [45] rfl (by kernel_rfl) (by kernel_rfl) (by kernel_rfl) (by kernel_rfl) (fun _ _ _ h=>h) hS0 (Or.inl ⟨by rfl,?_⟩) ?_
 rotate_left
 ·intro x hSx
  try dsimp only at hSx
  go_simp
  try with_reducible rfl
 simp only [Act.put]
 refine wtk (i:=41) (v:=?_) [45] rfl (by kernel_rfl) (by kernel_rfl) (by kernel_rfl) (by kernel_rfl) (fun _ _ _ h=>h) hS0 (Or.inl ⟨by rfl,?_⟩) ?_
 rotate_left
 ·intro x hSx
  try dsimp only at hSx
  go_simp
  try with_reducible rfl
 simp only [Act.put]
 refine wtk (i:=42) (v:=?_) [45] rfl (by kernel_rfl) (by kernel_rfl) (by kernel_rfl) (by kernel_rfl) (fun _ _ _ h=>h) hS0 (Or.inl ⟨by rfl,?_⟩) ?_
 rotate_left
 ·intro x hSx
  try dsimp only at hSx
  go_simp
  try with_reducible rfl
 simp only [Act.put]
 refine wtk (i:=43) (v:=?_) [45] rfl (by kernel_rfl) (by kernel_rfl) (by kernel_rfl) (by kernel_rfl) (fun _ _ _ h=>h) hS0 (Or.inl ⟨by rfl,?_⟩) ?_
 rotate_left
 ·intro x hSx
  try dsimp only at hSx
  go_simp
  try with_reducible rfl
 simp only [Act.put]
 refine wtk (i:=44) (v:=?_) [45] rfl (by kernel_rfl) (by kernel_rfl) (by kernel_rfl) (by kernel_rfl) (fun _ _ _ h=>h) hS0 (Or.inl ⟨by rfl,?_⟩) ?_
 rotate_left
 ·intro x hSx
  try dsimp only at hSx
  go_simp
  try with_reducible rfl
 simp only [Act.put]
 refine wto (j:=45) (by kernel_rfl) rfl (fun K hK=>?_)
 go_simp
 refine hK.out _ _ (fun hx=>absurd (hx.symm.trans (by kernel_rfl)) Bool.false_ne_true) ?_
 clear hK K
 refine wpTill_done (by kernel_rfl) ?_ _
 go_wp2
 refine bodyPost_ret (v:=.agg #[.int .i64 (F k),.int .i64 (F (k+1)),.int .i64 (F (k+2)),.int .i64 (F (k+3)),.int .i64 (F (k+4)),.int .i64 (F (k+5)),.int .i64 (F (k+6)),.int .i64 (F (k+7)),.int .i64 (F (k+8)),.int .i64 (F (k+9)),.int .i64 (F (k+10))]) (by simp [results,Tryz.results80,go_sem,z0,z1,z2,z3,z4,z5,z6,z7,z8,z9,z10]) rfl ?_
 exact ⟨rfl,uh hgo [_,_,_,_,_,_,_,_,_,_,_] 1⟩


open Go.RowKit

theorem Sn.list_src {w:World} {b o m:Nat} {F:Nat→Value} (h:∀c,c<m→w.cell? ⟨b,o+c,none⟩=some (F c)):∀j v,(Gd.list m F)[j]?=some v→w.cell? ((⟨b,o,none⟩:Addr).add j)=some v:=by
 intro j v hj
 have hlt:j<m:=by
  have:=(List.getElem?_eq_some_iff.1 hj).1
  rwa [Gd.list_len] at this
 rw [Gd.list_at hlt] at hj
 rw [show (⟨b,o,none⟩:Addr).add j=⟨b,o+j,none⟩ by rw [Go.WideShapes.add_plain],h j hlt]
 exact hj

set_option maxHeartbeats 800000 in
theorem snTwinB_any (b o n m cp:Nat) (F:Nat→Value) (w:World) (hn:n≤1000) (hm:m=n*1) (h1:∀c,(F c).oneCell'=true) (hF:∀c,c<m→w.cell? ⟨b,o+c,none⟩=some (F c)) (hb:b<w.heap.size) :
  Calls Tryz.prog 40 #[.slice (some ⟨b,o,none⟩) n cp] w (Copies w 5 n m F):=by
 have hF':=hide hF
 have h1':=hide h1
 obtain ⟨i0,hi,hz0,hz1,hz2⟩:=info_parts info_byte
 have hsz:(Tryz.prog.info? 5).map (·.size)=some 1:=by rw [hi];simp [hz1]
 clear hF h1
 go_enter Tryz.func40,Tryz.ntmps40
 go_wp2_with (at_make;refine wpList_make_full _ rfl _ _ 26 rfl w.heap.size 5 i0 (.int .u8 0) 1 Tryz.underlying26 hi hz0 hz1 .i64 .i64 _ _ n rfl rfl rfl rfl ?q3 ?q4 ?q5 ?_)
 any_goals (first | (rw [hz2];omega) | (unfold maxLen;omega) | exact Nat.le_refl _)
 intro w1 hown hgrow
 obtain ⟨cur,hg,hcs⟩:∃cur,w1.heap[w.heap.size]?=some (.cells cur 5 (0,0))∧cur.size=n*1:=by
  rcases hown.2 with ⟨h',_⟩ | ⟨g',cap',cur,h',_,hg,_,_,hcs,_⟩
  ·simp at h'
  ·simp only [Value.slice.injEq,Option.some.injEq,Addr.mk.injEq,and_true,true_and] at h'
   obtain ⟨rfl,rfl⟩:=h'
   exact ⟨cur,hg,hcs⟩
 have hg':=hide hg
 have hgrow':=hide hgrow
 have hcs':=hide hcs
 clear hown hg hgrow hcs hi hz0 hz1 hz2
 obtain ⟨w2,hrun,hrow,hgr2⟩:=run_copy_whole 26 26 3 5 Tryz.underlying26 1 hsz w.heap.size n n ⟨b,o,none⟩ cp cur _ (uh hg') (Gd.list m F) ((Gd.list_len m F).trans hm) (Sn.list_src fun c hc=>(gce (uh hgrow') b (o+c) hb (by simp)).trans (uh hF' c hc)) (by rw [Gd.list_len,uh hcs',hm]) (Gd.list_one (uh h1'))
 have hfin:=hide (Arr.of_list hrow)
 have hgw:=hide (show w.grownBy w2 none from gow (uh hgrow') hgr2 (fun k e=>by cases e;exact Nat.le_refl _))
 clear hrow hgr2 hb hm hn hsz
 go_wp2
 go_ret
 exact ⟨w.heap.size,rfl,Nat.le_refl _,uh hfin,uh hgw⟩

set_option maxHeartbeats 800000 in
theorem snTwinE_any (b o n m cp:Nat) (F:Nat→Value) (w:World) (hn:n≤1000) (hm:m=n*11) (h1:∀c,(F c).oneCell'=true) (hF:∀c,c<m→w.cell? ⟨b,o+c,none⟩=some (F c)) (hb:b<w.heap.size) :
  Calls Tryz.prog 41 #[.slice (some ⟨b,o,none⟩) n cp] w (Copies w 70 n m F):=by
 have hF':=hide hF
 have h1':=hide h1
 obtain ⟨i0,hi,hz0,hz1,hz2⟩:=info_parts info_ent
 have hsz:(Tryz.prog.info? 70).map (·.size)=some 11:=by rw [hi];simp [hz1]
 clear hF h1
 go_enter Tryz.func41,Tryz.ntmps41
 go_wp2_with (at_make;refine wpList_make_full _ rfl _ _ 27 rfl w.heap.size 70 i0 (.agg #[.int .i64 0,.int .i64 0,.int .i64 0,.int .i64 0,.int .i64 0,.int .i64 0,.int .i64 0,.int .i64 0,.int .i64 0,.int .i64 0,.int .i64 0]) 11 Tryz.underlying27 hi hz0 hz1 .i64 .i64 _ _ n rfl rfl rfl rfl ?q3 ?q4 ?q5 ?_)
 any_goals (first | (rw [hz2];omega) | (unfold maxLen;omega) | exact Nat.le_refl _)
 intro w1 hown hgrow
 obtain ⟨cur,hg,hcs⟩:∃cur,w1.heap[w.heap.size]?=some (.cells cur 70 (0,0))∧cur.size=n*11:=by
  rcases hown.2 with ⟨h',_⟩ | ⟨g',cap',cur,h',_,hg,_,_,hcs,_⟩
  ·simp at h'
  ·simp only [Value.slice.injEq,Option.some.injEq,Addr.mk.injEq,and_true,true_and] at h'
   obtain ⟨rfl,rfl⟩:=h'
   exact ⟨cur,hg,hcs⟩
 have hg':=hide hg
 have hgrow':=hide hgrow
 have hcs':=hide hcs
 clear hown hg hgrow hcs hi hz0 hz1 hz2
 obtain ⟨w2,hrun,hrow,hgr2⟩:=run_copy_whole 27 27 3 70 Tryz.underlying27 11 hsz w.heap.size n n ⟨b,o,none⟩ cp cur _ (uh hg') (Gd.list m F) ((Gd.list_len m F).trans hm) (Sn.list_src fun c hc=>(gce (uh hgrow') b (o+c) hb (by simp)).trans (uh hF' c hc)) (by rw [Gd.list_len,uh hcs',hm]) (Gd.list_one (uh h1'))
 have hfin:=hide (Arr.of_list hrow)
 have hgw:=hide (show w.grownBy w2 none from gow (uh hgrow') hgr2 (fun k e=>by cases e;exact Nat.le_refl _))
 clear hrow hgr2 hb hm hn hsz
 go_wp2
 go_ret
 exact ⟨w.heap.size,rfl,Nat.le_refl _,uh hfin,uh hgw⟩

set_option maxHeartbeats 800000 in
theorem snTwinI_any (b o n m cp:Nat) (F:Nat→Value) (w:World) (hn:n≤1000) (hm:m=n*4) (h1:∀c,(F c).oneCell'=true) (hF:∀c,c<m→w.cell? ⟨b,o+c,none⟩=some (F c)) (hb:b<w.heap.size) :
  Calls Tryz.prog 42 #[.slice (some ⟨b,o,none⟩) n cp] w (Copies w 72 n m F):=by
 have hF':=hide hF
 have h1':=hide h1
 obtain ⟨i0,hi,hz0,hz1,hz2⟩:=info_parts info_item
 have hsz:(Tryz.prog.info? 72).map (·.size)=some 4:=by rw [hi];simp [hz1]
 clear hF h1
 go_enter Tryz.func42,Tryz.ntmps42
 go_wp2_with (at_make;refine wpList_make_full _ rfl _ _ 28 rfl w.heap.size 72 i0 (.agg #[.int .i64 0,.int .i64 0,.int .i64 0,.int .i64 0]) 4 Tryz.underlying28 hi hz0 hz1 .i64 .i64 _ _ n rfl rfl rfl rfl ?q3 ?q4 ?q5 ?_)
 any_goals (first | (rw [hz2];omega) | (unfold maxLen;omega) | exact Nat.le_refl _)
 intro w1 hown hgrow
 obtain ⟨cur,hg,hcs⟩:∃cur,w1.heap[w.heap.size]?=some (.cells cur 72 (0,0))∧cur.size=n*4:=by
  rcases hown.2 with ⟨h',_⟩ | ⟨g',cap',cur,h',_,hg,_,_,hcs,_⟩
  ·simp at h'
  ·simp only [Value.slice.injEq,Option.some.injEq,Addr.mk.injEq,and_true,true_and] at h'
   obtain ⟨rfl,rfl⟩:=h'
   exact ⟨cur,hg,hcs⟩
 have hg':=hide hg
 have hgrow':=hide hgrow
 have hcs':=hide hcs
 clear hown hg hgrow hcs hi hz0 hz1 hz2
 obtain ⟨w2,hrun,hrow,hgr2⟩:=run_copy_whole 28 28 3 72 Tryz.underlying28 4 hsz w.heap.size n n ⟨b,o,none⟩ cp cur _ (uh hg') (Gd.list m F) ((Gd.list_len m F).trans hm) (Sn.list_src fun c hc=>(gce (uh hgrow') b (o+c) hb (by simp)).trans (uh hF' c hc)) (by rw [Gd.list_len,uh hcs',hm]) (Gd.list_one (uh h1'))
 have hfin:=hide (Arr.of_list hrow)
 have hgw:=hide (show w.grownBy w2 none from gow (uh hgrow') hgr2 (fun k e=>by cases e;exact Nat.le_refl _))
 clear hrow hgr2 hb hm hn hsz
 go_wp2
 go_ret
 exact ⟨w.heap.size,rfl,Nat.le_refl _,uh hfin,uh hgw⟩

def Sn.put (B:Nat→Value) (i:Nat) (v:Value):Nat→Value:=fun j=>if j=i then v else B j

structure Sn.Read (w x:World) (P W R G k:Nat) (F:Nat→Int) (B:Nat→Value):Prop where
 res:Lie x P 31 11 (fun j=>#[.int .i64 0,.int .i64 0,.int .i64 0,.int .i64 0,.slice none 0 0,.slice none 0 0,.slice none 0 0,.int .i64 0,.int .i64 0,.int .i64 0,Value.int .i64 0][j]?.getD undef)
 box:Lie x W 31 11 B
 rd:Sn.Rd x R G k
 src:Sn.Src x G F
 lP:w.heap.size≤P
 lW:w.heap.size≤W
 lR:w.heap.size≤R
 lG:G<w.heap.size
 pW:P≠W
 rW:R≠W
 rP:R≠P
 grown:w.grownBy x none

theorem Sn.Read.rG {w x:World} {P W R G k:Nat} {F:Nat→Int} {B:Nat→Value} (h:Sn.Read w x P W R G k F B):R≠G:=by
 have:=h.lR
 have:=h.lG
 omega

theorem Sn.Read.on {w x y:World} {P W R G k:Nat} {F:Nat→Int} {B:Nat→Value} (h:Sn.Read w x P W R G k F B) (hg:x.grownBy y none):Sn.Read w y P W R G k F B :=
 { h with res:=h.res.on hg,box:=h.box.on hg,rd:=h.rd.on hg,src:=h.src.on hg (by simp),grown:=gtr h.grown hg }

theorem Sn.Read.step {w x y:World} {P W R G k k':Nat} {F:Nat→Int} {B:Nat→Value} {u:Value} (h:Sn.Read w x P W R G k F B) (hy:y=x.setCell ⟨R,0,none⟩ u) (hr:Sn.Rd y R G k'):Sn.Read w y P W R G k' F B:=by
 subst hy
 exact { h with res:=h.res.other h.rP _ _,box:=h.box.other h.rW _ _,rd:=hr,src:=h.src.set h.rG _ _,grown:=gsr h.grown ⟨R,0,none⟩ h.lR u }

theorem Sn.Read.field {w x:World} {P W R G k:Nat} {F:Nat→Int} {B:Nat→Value} (h:Sn.Read w x P W R G k F B) (i:Nat) (v:Value):Sn.Read w (x.setCell ⟨W,i,none⟩ v) P W R G k F (Sn.put B i v):=by
 have h1:=h.lW
 have h2:=h.lG
 exact { h with res:=h.res.other h.pW.symm _ _,box:=h.box.store i v,rd:=h.rd.other h.rW.symm _ _,src:=h.src.set (by omega) _ _,grown:=gsr h.grown ⟨W,i,none⟩ h.lW v }

theorem Sn.Read.rows {w x:World} {P W R G k g:Nat} {T:TypeId} {m:Nat} {K:Nat→Value} {F:Nat→Int} {B:Nat→Value} (h:Sn.Read w x P W R G k F B) (hl:Lie x g T m K) (hT:T≠31) (hT2:T≠128) (hg:w.heap.size≤g) (o:Nat) (vs:List Value):Sn.Read w (x.setCells g o vs) P W R G k F B:=by
 obtain ⟨p,C,hc,-⟩:=h.rd.cell
 have n1:=hl.type7 h.res hT
 have n2:=hl.type7 h.box hT
 have n3:=hl.type7 hc hT2
 have h2:=h.lG
 exact { h with res:=h.res.others n1 _ _,box:=h.box.others n2 _ _,rd:=h.rd.others n3 _ _,src:=h.src.sets (by omega) _ _,grown:=own_sets hg vs o x h.grown }

def Sn.gd (B:Nat→Value) (g:Nat→Int) (t:Nat):Nat→Value:=fun j=>if 7≤j∧j<7+t then .int .i64 (g (j - 7)) else B j

theorem Sn.gd_more (B:Nat→Value) (g:Nat→Int) (t:Nat):Sn.put (Sn.gd B g t) (7+t) (.int .i64 (g t))=Sn.gd B g (t+1):=by
 funext j
 unfold Sn.put Sn.gd
 by_cases e:j=7+t
 ·rw [if_pos e,if_pos (by omega),show j - 7=t by omega]
 ·rw [if_neg e]
  by_cases e2:7≤j∧j<7+t
  ·rw [if_pos e2,if_pos (by omega)]
  ·rw [if_neg e2,if_neg (by omega)]

theorem Sn.gd_none (B:Nat→Value) (g:Nat→Int):Sn.gd B g 0=B:=by
 funext j
 unfold Sn.gd
 rw [if_neg (by omega)]

def Sn.fill (f:Nat→Nat→Int) (n:Nat):Nat→Nat→Int:=fun i j=>if i<n then f i j else 0

theorem Sn.fill_more (f:Nat→Nat→Int) (n:Nat):En.put (Sn.fill f n) n (f n)=Sn.fill f (n+1):=by
 funext i j
 unfold Sn.fill
 by_cases e:i=n
 ·subst e
  rw [En.put_same,if_pos (by omega)]
 ·rw [En.put_other e]
  by_cases e2:i<n
  ·rw [if_pos e2,if_pos (by omega)]
  ·rw [if_neg e2,if_neg (by omega)]

theorem Sn.fill_none (f:Nat→Nat→Int):Sn.fill f 0=fun _ _=>0:=by
 funext i j
 unfold Sn.fill
 rw [if_neg (by omega)]


open Go.RowKit

theorem info_snrow:(Tryz.prog.info? 99).map (fun i=>(i.zero,i.size,i.bytes))=some (some .nilIface,1,16):=by kernel_rfl

def Sn.hdV (s g:Nat→Int):Value:=.iface 82 (.agg #[.int .i64 (s 0),.int .i64 (s 1),.int .i64 (s 2),.int .i64 (s 3),.int .i64 (g 0),.int .i64 (g 1),.int .i64 (g 2),.int .i64 (g 3)])
def Sn.clV (G:Nat):Value:=.iface 134 (.slice (some ⟨G,0,none⟩) 384 384)
def Sn.enV (n:Nat) (e:Nat→Int):Value:=.iface 136 (.agg #[.int .i64 (n:Int),.int .i64 (e 0),.int .i64 (e 1),.int .i64 (e 2),.int .i64 (e 3),.int .i64 (e 4),.int .i64 (e 5),.int .i64 (e 6),.int .i64 (e 7),.int .i64 (e 8),.int .i64 (e 9),.int .i64 (e 10)])
def Sn.itV (n:Nat) (e:Nat→Int):Value:=.iface 138 (.agg #[.int .i64 (n:Int),.int .i64 (e 0),.int .i64 (e 1),.int .i64 (e 2),.int .i64 (e 3)])

def Sn.chH (s t g h:Nat→Int):List Value:=if Sn.sameH s t g h=true then [] else [Sn.hdV s g]
def Sn.chC (b:Bool) (G:Nat):List Value:=if b=true then [] else [Sn.clV G]
def Sn.chE (E F:Nat→Nat→Int):Nat→List Value
 | 0=>[]
 | k+1=>Sn.chE E F k ++ if Sn.sameE (E k) (F k)=true then [] else [Sn.enV k (E k)]
def Sn.chI (E F:Nat→Nat→Int):Nat→List Value
 | 0=>[]
 | k+1=>Sn.chI E F k ++ if Sn.sameI (E k) (F k)=true then [] else [Sn.itV k (E k)]

theorem Sn.chH_len (s t g h:Nat→Int):(Sn.chH s t g h).length≤1:=by unfold Sn.chH;split <;> simp
theorem Sn.chC_len (b:Bool) (G:Nat):(Sn.chC b G).length≤1:=by unfold Sn.chC;split <;> simp
theorem Sn.chE_len (E F:Nat→Nat→Int):∀k,(Sn.chE E F k).length≤k
 | 0=>Nat.le_refl _
 | k+1=>by
  have:=Sn.chE_len E F k
  unfold Sn.chE
  rw [List.length_append]
  split <;> simp <;> omega
theorem Sn.chI_len (E F:Nat→Nat→Int):∀k,(Sn.chI E F k).length≤k
 | 0=>Nat.le_refl _
 | k+1=>by
  have:=Sn.chI_len E F k
  unfold Sn.chI
  rw [List.length_append]
  split <;> simp <;> omega

structure Sn.Ch (w x:World) (base:Nat) (v:Value) (l:List Value) (b:Bool) (G:Nat) (c:Nat→Int):Prop where
 own:x.ownsRow base 99 1 v l.length l
 bel:Below base w x
 cel:b=false→base≤G∧Lie x G 5 384 (Byts c)

theorem Sn.Ch.top {w x:World} {base:Nat} {v:Value} {l:List Value} {b:Bool} {G:Nat} {c:Nat→Int} (h:Sn.Ch w x base v l b G c) (hb:base≤w.heap.size):base≤x.heap.size:=Nat.le_trans hb h.bel.size

theorem Sn.Ch.on {w x y:World} {base:Nat} {v:Value} {l:List Value} {b:Bool} {G:Nat} {c:Nat→Int} (h:Sn.Ch w x base v l b G c) (hb:base≤w.heap.size) (hg:x.grownBy y none):Sn.Ch w y base v l b G c :=
 ⟨h.own.kept hg (by cases v.ownBlock <;> simp),h.bel.trans (Sn.below hg (fun k e=>by cases e) (h.top hb)),fun q=>⟨(h.cel q).1,(h.cel q).2.on hg⟩⟩

theorem Sn.Ch.apart {w x:World} {base:Nat} {v:Value} {l:List Value} {b:Bool} {G:Nat} {c:Nat→Int} (h:Sn.Ch w x base v l b G c) (q:b=false):v.ownBlock≠some G:=by
 intro e
 obtain ⟨_,_,⟨c1,e1,_⟩,_⟩:=(h.cel q).2
 rcases h.own.2 with ⟨rfl,_⟩ | ⟨g,cap,cur,rfl,_,hg,_⟩
 ·simp [Value.ownBlock] at e
 ·simp [Value.ownBlock] at e
  subst e
  rw [e1] at hg
  simp only [Option.some.injEq,Obj.cells.injEq] at hg
  exact absurd hg.2.1 (by decide)

theorem Sn.Ch.more {w x y x':World} {base:Nat} {v v' u:Value} {l:List Value} {b:Bool} {G:Nat} {c:Nat→Int} (h:Sn.Ch w x base v l b G c) (hb:base≤w.heap.size) (hxy:x.grownBy y none) (hown:x'.ownsRow base 99 1 v' (l.length+1) (l ++ [u])) (hg:y.grownBy x' v.ownBlock):Sn.Ch w x' base v' (l ++ [u]) b G c:=by
 refine ⟨by rw [List.length_append];exact hown,?_,fun q=>⟨(h.cel q).1,((h.cel q).2.on hxy).grown hg (h.apart q)⟩⟩
 have hb1:Below base x y:=Sn.below hxy (fun k e=>by cases e) (h.top hb)
 have hb2:=Sn.below hg (fun k e=>(h.own.lt k e).1) (Nat.le_trans (h.top hb) hb1.size)
 exact h.bel.trans (hb1.trans hb2)

def Sn.Changes (w:World) (s t g h c d:Nat→Int) (E F I J:Nat→Nat→Int) (e:Ending) (w':World):Prop :=
 ∃G v base,e=.returned v∧w.heap.size≤base∧w'.ownsRow base 99 1 v (Sn.chH s t g h ++ Sn.chC (Sn.allB (fun i=>c i == d i) 384) G ++ Sn.chE E F 32 ++ Sn.chI I J 40).length (Sn.chH s t g h ++ Sn.chC (Sn.allB (fun i=>c i == d i) 384) G ++ Sn.chE E F 32 ++ Sn.chI I J 40)∧(Sn.allB (fun i=>c i == d i) 384=false→w.heap.size≤G∧Lie w' G 5 384 (Byts c))∧w.grownBy w' none

theorem run_ne_head (s t g h:Nat→Int) (w:World):(binOp .neq 82 (.agg #[.int .i64 (s 0),.int .i64 (s 1),.int .i64 (s 2),.int .i64 (s 3),.int .i64 (g 0),.int .i64 (g 1),.int .i64 (g 2),.int .i64 (g 3)]) (.agg #[.int .i64 (t 0),.int .i64 (t 1),.int .i64 (t 2),.int .i64 (t 3),.int .i64 (h 0),.int .i64 (h 1),.int .i64 (h 2),.int .i64 (h 3)])).run Tryz.prog w=.ok (.bool (!Sn.sameH s t g h)) w:=by
 have hg:=fun d w=>run_equal_gold d g h w
 unfold Sn.sameH
 generalize Sn.sameG g h=q at hg ⊢
 by_cases h0:s 0=t 0
 ·by_cases h1:s 1=t 1
  ·by_cases h2:s 2=t 2
   ·by_cases h3:s 3=t 3
    ·simp [go_sem,h0,h1,h2,h3,hg]
     cases q <;> rfl
    ·simp [go_sem,h0,h1,h2,h3]
   ·simp [go_sem,h0,h1,h2]
  ·simp [go_sem,h0,h1]
 ·simp [go_sem,h0]

set_option maxRecDepth 16000 in
set_option maxHeartbeats 12800000 in
theorem changed_any (s t g h c d:Nat→Int) (E F I J:Nat→Nat→Int) (gC gE gI cC cE cI jC jE jI dC dE dI:Nat) (w:World) (hL:Gd.Lists w gC gE gI c E I) (hL2:Gd.Lists w jC jE jI d F J) :
  Calls Tryz.prog 50 #[.agg (Gd.world s gC gE gI cC cE cI g),.agg (Gd.world t jC jE jI dC dE dI h)] w (Sn.Changes w s t g h c d E F I J):=by
 obtain ⟨W0,hW⟩:∃W,W=(w.alloc (.cells (Gd.world s gC gE gI cC cE cI g) 31)).alloc (.cells (Gd.world t jC jE jI dC dE dI h) 31):=⟨_,rfl⟩
 have hg:w.grownBy W0 none:=by rw [hW];exact gal (World.grownBy_alloc _ _ _) _
 have x1:Lie W0 w.heap.size 31 11 (Gd.box s gC gE gI cC cE cI g):=by
  rw [hW]
  exact ((Arr.world (heap_alloc_new w _)).alloc _).lie
 have x2:Lie W0 (w.heap.size+1) 31 11 (Gd.box t jC jE jI dC dE dI h):=by
  rw [hW]
  have hh:=heap_alloc_new (w.alloc (.cells (Gd.world s gC gE gI cC cE cI g) 31)) (.cells (Gd.world t jC jE jI dC dE dI h) 31)
  rw [show (w.alloc (.cells (Gd.world s gC gE gI cC cE cI g) 31)).heap.size=w.heap.size+1 by simp] at hh
  exact (Arr.world hh).lie
 obtain ⟨B,hB⟩:∃B,w.heap.size=B:=⟨_,rfl⟩
 obtain ⟨base,hbase⟩:∃base,W0.heap.size=base:=⟨_,rfl⟩
 have HB0:Hid (base≤W0.heap.size):=(show base≤W0.heap.size by omega)
 have HB:Hid (w.heap.size=B∧B+2=base):=⟨hB,by rw [←hbase,hW,←hB];simp⟩
 rw [hB] at x1 x2
 have lC:=hide (And.intro hL.cells.lt (And.intro hL.ents.lt (And.intro hL.items.lt (And.intro hL2.cells.lt (And.intro hL2.ents.lt hL2.items.lt)))))
 have hbx:Hid (∀x,Below base W0 x→Lie x B 31 11 (Gd.box s gC gE gI cC cE cI g)∧Lie x (B+1) 31 11 (Gd.box t jC jE jI dC dE dI h)∧Gd.Lists x gC gE gI c E I∧Gd.Lists x jC jE jI d F J):=fun x hx=>by
  obtain ⟨e1,e2⟩:=uh HB
  obtain ⟨l1,l2,l3,l4,l5,l6⟩:=uh lC
  exact ⟨x1.below hx (by omega),x2.below hx (by omega),(hL.on hg).below hx (by omega) (by omega) (by omega),(hL2.on hg).below hx (by omega) (by omega) (by omega)⟩
 have hg':=hide hg
 have hcmp:=fun wx=>run_ne_head s t g h wx
 obtain ⟨k0,e0⟩:∃k,Sn.sameH s t g h=k:=⟨_,rfl⟩
 obtain ⟨k1,e1⟩:∃k,Sn.allB (fun i=>c i == d i) 384=k:=⟨_,rfl⟩
 obtain ⟨LH,hLH⟩:∃L,Sn.chH s t g h=L:=⟨_,rfl⟩
 have hLH0:Hid (k0=true→LH=[]):=fun q=>by rw [←hLH];unfold Sn.chH;rw [e0,if_pos q]
 have hLH1:Hid (k0=false→LH=[Sn.hdV s g]):=fun q=>by rw [←hLH];unfold Sn.chH;rw [e0,if_neg (by simp [q])]
 have hLHl:Hid (LH.length≤1):=by rw [←hLH];exact Sn.chH_len s t g h
 have hpost:Hid (∀G v x,Sn.Ch W0 x base v (LH ++ Sn.chC k1 G ++ Sn.chE E F 32 ++ Sn.chI I J 40) k1 G c→Sn.Changes w s t g h c d E F I J (.returned v) x):=fun G v x hx=>by
  obtain ⟨f1,f2⟩:=uh HB
  refine ⟨G,v,base,rfl,by omega,?_,fun q=>?_,?_⟩
  ·rw [hLH,e1]
   exact hx.own
  ·rw [e1] at q
   exact ⟨by have:=(hx.cel q).1;omega,(hx.cel q).2⟩
  ·exact below_grown (Sn.below_trans (none_below (uh hg')) (hx.bel.mono (by omega)))
 have cQ:Hid (∀z,Below base W0 z→Calls Tryz.prog 44 #[.slice (some ⟨gC,0,none⟩) 384 cC,.slice (some ⟨jC,0,none⟩) 384 dC] z (Says z (.bool k1))):=fun z hz=>by
  rw [←e1]
  exact snEqualB_any gC jC cC dC c d z (uh hbx z hz).2.2.1.cells (uh hbx z hz).2.2.2.cells
 obtain ⟨D,hD⟩:∃D,Sn.Changes w s t g h c d E F I J=D:=⟨_,rfl⟩
 rw [hD] at hpost ⊢
 rw [e0] at hcmp
 have cTw:=hide (fun z (hz:Below base W0 z)=>snTwinB_any gC 0 384 384 cC (Byts c) z (by omega) (by omega) (fun _=>rfl) (fun k hk=>by rw [Nat.zero_add];exact (uh hbx z hz).2.2.1.cells.cell hk) (uh hbx z hz).2.2.1.cells.lt)
 obtain ⟨i0,hi,hz0,hz1,hz2⟩:=info_parts info_snrow
 have hX0:Hid (Sn.Ch W0 W0 base (.slice none 0 0) [] true 0 c):=⟨World.ownsRow_nil _ _ _ _,Below.refl _ _,fun q=>absurd q (by simp)⟩
 clear hL hL2 hg x1 x2 e0 e1 hLH hD lC
 unfold Gd.world at hW ⊢
 go_enter Tryz.func50,Tryz.ntmps50
 go_upto_region 2 with fail
 rw [←hW]
 clear hW hB hbase
 go_cut [12] from 8 to 11 (fun v12 wx=>v12=.bool (!k0)∧Hid (Sn.Ch W0 wx base (.slice none 0 0) [] true 0 c))
 case first =>
  refine wp_region_grown (by kernel_rfl) (by kernel_rfl) ?_
  intro St hN W hI hx
  have p0:∀σ,(W σ).cell? ⟨B,0,none⟩=some (.int .i64 (s 0)):=fun σ=>((uh hbx _ (uh hX0).bel).1.on (hI σ)).eleven.1
  have q0:∀σ,(W σ).cell? ⟨B+1,0,none⟩=some (.int .i64 (t 0)):=fun σ=>((uh hbx _ (uh hX0).bel).2.1.on (hI σ)).eleven.1
  have p1:∀σ,(W σ).cell? ⟨B,1,none⟩=some (.int .i64 (s 1)):=fun σ=>((uh hbx _ (uh hX0).bel).1.on (hI σ)).eleven.2.1
  have q1:∀σ,(W σ).cell? ⟨B+1,1,none⟩=some (.int .i64 (t 1)):=fun σ=>((uh hbx _ (uh hX0).bel).2.1.on (hI σ)).eleven.2.1
  have p2:∀σ,(W σ).cell? ⟨B,2,none⟩=some (.int .i64 (s 2)):=fun σ=>((uh hbx _ (uh hX0).bel).1.on (hI σ)).eleven.2.2.1
  have q2:∀σ,(W σ).cell? ⟨B+1,2,none⟩=some (.int .i64 (t 2)):=fun σ=>((uh hbx _ (uh hX0).bel).2.1.on (hI σ)).eleven.2.2.1
  have p3:∀σ,(W σ).cell? ⟨B,3,none⟩=some (.int .i64 (s 3)):=fun σ=>((uh hbx _ (uh hX0).bel).1.on (hI σ)).eleven.2.2.2.1
  have q3:∀σ,(W σ).cell? ⟨B+1,3,none⟩=some (.int .i64 (t 3)):=fun σ=>((uh hbx _ (uh hX0).bel).2.1.on (hI σ)).eleven.2.2.2.1
  have p4:∀σ,(W σ).cell? ⟨B,4,none⟩=some (.slice (some ⟨gC,0,none⟩) 384 cC):=fun σ=>((uh hbx _ (uh hX0).bel).1.on (hI σ)).eleven.2.2.2.2.1
  have q4:∀σ,(W σ).cell? ⟨B+1,4,none⟩=some (.slice (some ⟨jC,0,none⟩) 384 dC):=fun σ=>((uh hbx _ (uh hX0).bel).2.1.on (hI σ)).eleven.2.2.2.2.1
  have p5:∀σ,(W σ).cell? ⟨B,5,none⟩=some (.slice (some ⟨gE,0,none⟩) 32 cE):=fun σ=>((uh hbx _ (uh hX0).bel).1.on (hI σ)).eleven.2.2.2.2.2.1
  have q5:∀σ,(W σ).cell? ⟨B+1,5,none⟩=some (.slice (some ⟨jE,0,none⟩) 32 dE):=fun σ=>((uh hbx _ (uh hX0).bel).2.1.on (hI σ)).eleven.2.2.2.2.2.1
  have p6:∀σ,(W σ).cell? ⟨B,6,none⟩=some (.slice (some ⟨gI,0,none⟩) 40 cI):=fun σ=>((uh hbx _ (uh hX0).bel).1.on (hI σ)).eleven.2.2.2.2.2.2.1
  have q6:∀σ,(W σ).cell? ⟨B+1,6,none⟩=some (.slice (some ⟨jI,0,none⟩) 40 dI):=fun σ=>((uh hbx _ (uh hX0).bel).2.1.on (hI σ)).eleven.2.2.2.2.2.2.1
  have p7:∀σ,(W σ).cell? ⟨B,7,none⟩=some (.int .i64 (g 0)):=fun σ=>((uh hbx _ (uh hX0).bel).1.on (hI σ)).eleven.2.2.2.2.2.2.2.1
  have q7:∀σ,(W σ).cell? ⟨B+1,7,none⟩=some (.int .i64 (h 0)):=fun σ=>((uh hbx _ (uh hX0).bel).2.1.on (hI σ)).eleven.2.2.2.2.2.2.2.1
  have p8:∀σ,(W σ).cell? ⟨B,8,none⟩=some (.int .i64 (g 1)):=fun σ=>((uh hbx _ (uh hX0).bel).1.on (hI σ)).eleven.2.2.2.2.2.2.2.2.1
  have q8:∀σ,(W σ).cell? ⟨B+1,8,none⟩=some (.int .i64 (h 1)):=fun σ=>((uh hbx _ (uh hX0).bel).2.1.on (hI σ)).eleven.2.2.2.2.2.2.2.2.1
  have p9:∀σ,(W σ).cell? ⟨B,9,none⟩=some (.int .i64 (g 2)):=fun σ=>((uh hbx _ (uh hX0).bel).1.on (hI σ)).eleven.2.2.2.2.2.2.2.2.2.1
  have q9:∀σ,(W σ).cell? ⟨B+1,9,none⟩=some (.int .i64 (h 2)):=fun σ=>((uh hbx _ (uh hX0).bel).2.1.on (hI σ)).eleven.2.2.2.2.2.2.2.2.2.1
  have p10:∀σ,(W σ).cell? ⟨B,10,none⟩=some (.int .i64 (g 3)):=fun σ=>((uh hbx _ (uh hX0).bel).1.on (hI σ)).eleven.2.2.2.2.2.2.2.2.2.2
  have q10:∀σ,(W σ).cell? ⟨B+1,10,none⟩=some (.int .i64 (h 3)):=fun σ=>((uh hbx _ (uh hX0).bel).2.1.on (hI σ)).eleven.2.2.2.2.2.2.2.2.2.2
  have f0:∀(s g:Nat→Int) (nC nE nI cC cE cI:Nat) (aC aE aI:Option Addr) σ,Calls Tryz.prog 43 #[.agg #[.int .i64 (s 0),.int .i64 (s 1),.int .i64 (s 2),.int .i64 (s 3),.slice aC nC cC,.slice aE nE cE,.slice aI nI cI,.int .i64 (g 0),.int .i64 (g 1),.int .i64 (g 2),.int .i64 (g 3)]] (W σ) fun e w''=>e=.returned (.agg #[.int .i64 (s 0),.int .i64 (s 1),.int .i64 (s 2),.int .i64 (s 3),.int .i64 (g 0),.int .i64 (g 1),.int .i64 (g 2),.int .i64 (g 3)])∧∃σ',w''=W σ':=fun s g nC nE nI cC cE cI aC aE aI σ=>calls_class hI hx (headOf_any s g nC nE nI cC cE cI aC aE aI _)
  have hI2:=hide hI
  clear hx hI
  repeat (go_big_quiet_step (first | (go_at_call 43;exact f0 _ _ _ _ _ _ _ _ _ _ _ _)))
  refine wpQuiet_nil ?_
  rintro _ ⟨σ,rfl⟩
  have hX1:=hide ((uh hX0).on (uh HB0) (uh hI2 σ))
  obtain ⟨wq,hwq⟩:∃wq,W σ=wq:=⟨_,rfl⟩
  rw [hwq] at hX1 ⊢
  clear p0 p1 p2 p3 p4 p5 p6 p7 p8 p9 p10 q0 q1 q2 q3 q4 q5 q6 q7 q8 q9 q10 f0 hcmp hI2 hwq
  clear σ W hN St
  go_wp2_with fail
  go_meet
  exact ⟨rfl,hX1⟩
 case rest =>
 obtain ⟨rfl,hX1⟩:=hcut
 clear hX0 hcmp
 go_upto_if 12 with fail
 go_cut [5] from 12 to 18 (fun v5 wx=>Hid (Sn.Ch W0 wx base v5 LH true 0 c))
 case first =>
  cases k0 with
  | true =>
   have hX2:Hid (Sn.Ch W0 wc base (.slice none 0 0) LH true 0 c):=by
    rw [uh hLH0 rfl]
    exact hX1
   go_wp2
   go_meet
   exact hX2
  | false =>
   have hLe:=hide (uh hLH1 rfl)
   obtain ⟨b0,b1,b2,b3,b4,b5,b6,b7,b8,b9,b10⟩:=(uh hbx _ (uh hX1).bel).1.eleven
   have ch:=hide (fun z=>headOf_any s g 384 32 40 cC cE cI (some ⟨gC,0,none⟩) (some ⟨gE,0,none⟩) (some ⟨gI,0,none⟩) z)
   go_wp2_with fail
   refine (uh ch _).mono ?_
   rintro e w3 ⟨rfl,hg3⟩
   have hX2:=hide ((uh hX1).on (uh HB0) hg3)
   clear hg3 hX1 ch b0 b1 b2 b3 b4 b5 b6 b7 b8 b9 b10
   go_wp2_with (at_builtin;refine wpList_append_own _ rfl _ _ 93 rfl base 99 i0 .nilIface 1 16 Tryz.underlying93 hi hz0 hz1 hz2 rfl (by decide) _ _ _ rfl ((uh hX2).own.alloc _) ⟨w3.heap.size,0,none⟩ 1 1 [Sn.hdV s g] rfl rfl (Sn.news w3 #[Sn.hdV s g] _ _ rfl) ?_ ?_ ?_ ?_ ?_)
   ·intro u hu;simp at hu;subst hu;rfl
   ·unfold maxLen;simp
   ·simp
   ·have:=(uh hX2).top (uh HB0);simp;omega
   intro v4 w4 hown hgrow _
   have hX3:Hid (Sn.Ch W0 w4 base v4 LH true 0 c):=by
    rw [uh hLe]
    exact (uh hX2).more (uh HB0) (World.grownBy_alloc _ _ _) hown hgrow
   clear hown hgrow hX2
   go_wp2
   go_meet
   exact hX3
 case rest =>
 have hX2:Hid (Sn.Ch W0 wc base u5 LH true 0 c):=hcut
 clear hcut hX1 hLH0 hLH1
 have b4:=(uh hbx _ (uh hX2).bel).1.eleven.2.2.2.2.1
 have d4:=(uh hbx _ (uh hX2).bel).2.1.eleven.2.2.2.2.1
 go_wp2_with fail
 refine (uh cQ _ (uh hX2).bel).mono ?_
 rintro e w3 ⟨rfl,hg3⟩
 have hX3:=hide ((uh hX2).on (uh HB0) hg3)
 clear hg3 hX2 b4 d4 cQ
 go_upto_if 24 with fail
 go_cut [5] from 24 to 31 (fun v5 wx=>∃G,Hid (Sn.Ch W0 wx base v5 (LH ++ Sn.chC k1 G) k1 G c))
 case first =>
  cases k1 with
  | true =>
   have hX4:Hid (Sn.Ch W0 w3 base u5 (LH ++ Sn.chC true 0) true 0 c):=by
    show Sn.Ch _ _ _ _ (LH ++ []) _ _ _
    rw [List.append_nil]
    exact hX3
   go_wp2
   go_meet
   exact ⟨0,hX4⟩
  | false =>
   have b4:=(uh hbx _ (uh hX3).bel).1.eleven.2.2.2.2.1
   go_wp2_with fail
   refine (uh cTw _ (uh hX3).bel).mono ?_
   rintro e w4 ⟨G,rfl,lG,hA,hg4⟩
   have hX4:Hid (Sn.Ch W0 w4 base u5 LH false G c):=by
    have hh:=(uh hX3).on (uh HB0) hg4
    exact ⟨hh.own,hh.bel,fun _=>⟨Nat.le_trans ((uh hX3).top (uh HB0)) lG,hA.lie⟩⟩
   have hll:=(uh hLHl)
   clear lG hA hg4 hX3 b4
   go_wp2_with (at_builtin;refine wpList_append_own _ rfl _ _ 93 rfl base 99 i0 .nilIface 1 16 Tryz.underlying93 hi hz0 hz1 hz2 rfl (by decide) _ _ _ rfl ((uh hX4).own.alloc _) ⟨w4.heap.size,0,none⟩ 1 1 [Sn.clV G] rfl rfl (Sn.news w4 #[Sn.clV G] _ _ rfl) ?_ ?_ ?_ ?_ ?_)
   ·intro u hu;simp at hu;subst hu;rfl
   ·unfold maxLen;omega
   ·omega
   ·have:=(uh hX4).top (uh HB0);simp;omega
   intro v5 w5 hown hgrow _
   have hX5:Hid (Sn.Ch W0 w5 base v5 (LH ++ Sn.chC false G) false G c):=(uh hX4).more (u:=Sn.clV G) (uh HB0) (World.grownBy_alloc _ _ _) hown hgrow
   clear hown hgrow hX4
   go_wp2
   go_meet
   exact ⟨G,hX5⟩
 case rest =>
 obtain ⟨G,hX4⟩:=hcut
 clear hX3 cTw
 obtain ⟨LC,hLC⟩:∃L,LH ++ Sn.chC k1 G=L:=⟨_,rfl⟩
 have hLCl:Hid (LC.length≤2):=by
  have h1:=uh hLHl
  have h2:=Sn.chC_len k1 G
  show LC.length≤2
  rw [←hLC,List.length_append]
  omega
 rw [hLC] at hX4
 have hpost2:Hid (∀v x,Sn.Ch W0 x base v (LC ++ Sn.chE E F 32 ++ Sn.chI I J 40) k1 G c→D (.returned v) x):=fun v x hx=>uh hpost G v x (by rw [hLC];exact hx)
 clear hLC hpost hLHl
 have b5:=(uh hbx _ (uh hX4).bel).1.eleven.2.2.2.2.2.1
 have d5:=(uh hbx _ (uh hX4).bel).2.1.eleven.2.2.2.2.2.1
 go_wp2_with fail
 go_loopw [5,6,39] (fun v5 vo vk wr=>∃k:Nat,k≤32∧vk=.int .i64 (k:Int)∧Hid (Sn.Ch W0 wr base v5 (LC ++ Sn.chE E F k) k1 G c)) (fun _ _ vk _=>60 - (intOf vk).toNat)
 case atStart=>exact ⟨0,by omega,rfl,by rw [show Sn.chE E F 0=[] from rfl,List.append_nil];exact hX4⟩
 case round =>
  clear hX4 b5 d5
  obtain ⟨k,hk,rfl,hX⟩:=hrel
  have b5:=(uh hbx _ (uh hX).bel).1.eleven.2.2.2.2.2.1
  have d5:=(uh hbx _ (uh hX).bel).2.1.eleven.2.2.2.2.2.1
  by_cases hlt:k<32
  ·have hlt':(k:Int)<32:=by omega
   have HL:=hide hlt
   have hll:Hid ((LC ++ Sn.chE E F k).length≤34):=by
    show (LC ++ Sn.chE E F k).length≤34
    have:=uh hLCl;have:=Sn.chE_len E F k;rw [List.length_append];omega
   obtain ⟨r0,r1,r2,r3,r4,r5,r6,r7,r8,r9,r10⟩:=(uh hbx _ (uh hX).bel).2.2.1.own.ents.row (uh HL)
   obtain ⟨v0,v1,v2,v3,v4,v5,v6,v7,v8,v9,v10⟩:=(uh hbx _ (uh hX).bel).2.2.2.own.ents.row (uh HL)
   have hcmp:∀wx:World,(binOp .neq 70 (.agg #[.int .i64 (E k 0),.int .i64 (E k 1),.int .i64 (E k 2),.int .i64 (E k 3),.int .i64 (E k 4),.int .i64 (E k 5),.int .i64 (E k 6),.int .i64 (E k 7),.int .i64 (E k 8),.int .i64 (E k 9),.int .i64 (E k 10)]) (.agg #[.int .i64 (F k 0),.int .i64 (F k 1),.int .i64 (F k 2),.int .i64 (F k 3),.int .i64 (F k 4),.int .i64 (F k 5),.int .i64 (F k 6),.int .i64 (F k 7),.int .i64 (F k 8),.int .i64 (F k 9),.int .i64 (F k 10)])).run Tryz.prog wx=.ok (.bool (!Sn.sameE (E k) (F k))) wx:=fun wx=>run_ne_ent (E k) (F k) wx
   have hmo:Hid (Sn.chE E F (k+1)=Sn.chE E F k ++ if Sn.sameE (E k) (F k)=true then [] else [Sn.enV k (E k)]):=rfl
   obtain ⟨p,hp⟩:∃p,Sn.sameE (E k) (F k)=p:=⟨_,rfl⟩
   rw [hp] at hcmp hmo
   have hXd:Hid (∀m,Sn.Ch W0 (wr.drewN m) base u5 (LC ++ Sn.chE E F k) k1 G c):=fun m=>(uh hX).on (uh HB0) (gdw (World.grownBy.refl _ none) m)
   clear hlt hk hp
   go_wp2_with fail
   go_quiet (fail)
   have hX5:=hide (uh hXd nq)
   clear hXd hX r0 r1 r2 r3 r4 r5 r6 r7 r8 r9 r10 v0 v1 v2 v3 v4 v5 v6 v7 v8 v9 v10 hcmp b5 d5
   generalize wr.drewN nq=w5 at hX5 ⊢
   cases p with
   | true =>
    rw [if_pos rfl,List.append_nil] at hmo
    have hX6:Hid (Sn.Ch W0 w5 base u5 (LC ++ Sn.chE E F (k+1)) k1 G c):=by
     rw [uh hmo]
     exact hX5
    go_wp2
    go_roundw
    case rel=>exact ⟨k+1,by have:=uh HL;omega,by go_num,hX6⟩
    case measure=>simp [intOf];have:=uh HL;omega
   | false =>
    have hmo':Hid (Sn.chE E F (k+1)=Sn.chE E F k ++ [Sn.enV k (E k)]):=uh hmo
    have b5:=(uh hbx _ (uh hX5).bel).1.eleven.2.2.2.2.2.1
    obtain ⟨r0,r1,r2,r3,r4,r5,r6,r7,r8,r9,r10⟩:=(uh hbx _ (uh hX5).bel).2.2.1.own.ents.row (uh HL)
    obtain ⟨l,hl⟩:∃l,LC ++ Sn.chE E F k=l:=⟨_,rfl⟩
    rw [hl] at hX5 hll
    have hl':=hide hl
    clear hl hmo
    go_upto_region 10 with fail
    go_wp2_with (at_builtin;refine wpList_append_own _ rfl _ _ 93 rfl base 99 i0 .nilIface 1 16 Tryz.underlying93 hi hz0 hz1 hz2 rfl (by decide) _ _ _ rfl ((uh hX5).own.alloc _) ⟨w5.heap.size,0,none⟩ 1 1 [Sn.enV k (E k)] rfl rfl (Sn.news w5 #[Sn.enV k (E k)] _ _ rfl) ?_ ?_ ?_ ?_ ?_)
    ·intro u hu;simp at hu;subst hu;rfl
    ·have:=uh hll;unfold maxLen;omega
    ·have:=uh hll;omega
    ·have:=(uh hX5).top (uh HB0);simp;omega
    intro v6 w6 hown hgrow _
    have hX6:Hid (Sn.Ch W0 w6 base v6 (LC ++ Sn.chE E F (k+1)) k1 G c):=by
     rw [uh hmo',←List.append_assoc,uh hl']
     exact (uh hX5).more (u:=Sn.enV k (E k)) (uh HB0) (World.grownBy_alloc _ _ _) hown hgrow
    clear hown hgrow hX5 b5 r0 r1 r2 r3 r4 r5 r6 r7 r8 r9 r10
    go_wp2
    go_roundw
    case rel=>exact ⟨k+1,by have:=uh HL;omega,by go_num,hX6⟩
    case measure=>simp [intOf];have:=uh HL;omega
  ·obtain rfl:k=32:=by omega
   have hge:¬((32:Nat):Int)<32:=by omega
   clear hlt hk
   have b6:=(uh hbx _ (uh hX).bel).1.eleven.2.2.2.2.2.2.1
   have d6:=(uh hbx _ (uh hX).bel).2.1.eleven.2.2.2.2.2.2.1
   clear b5 d5
   obtain ⟨LE,hLE⟩:∃L,LC ++ Sn.chE E F 32=L:=⟨_,rfl⟩
   have hLEl:Hid (LE.length≤34):=by
    have h1:=uh hLCl
    have h2:=Sn.chE_len E F 32
    show LE.length≤34
    rw [←hLE,List.length_append]
    omega
   rw [hLE] at hX hpost2
   clear hLE
   go_wp2_with fail
   go_loopw [5,7,72] (fun v5 vo vk wr=>∃k:Nat,k≤40∧vk=.int .i64 (k:Int)∧Hid (Sn.Ch W0 wr base v5 (LE ++ Sn.chI I J k) k1 G c)) (fun _ _ vk _=>60 - (intOf vk).toNat)
   case atStart=>exact ⟨0,by omega,rfl,by rw [show Sn.chI I J 0=[] from rfl,List.append_nil];exact hX⟩
   case round =>
    clear hX b6 d6 hge
    obtain ⟨k,hk,rfl,hX⟩:=hrel
    have b5:=(uh hbx _ (uh hX).bel).1.eleven.2.2.2.2.2.2.1
    have d5:=(uh hbx _ (uh hX).bel).2.1.eleven.2.2.2.2.2.2.1
    by_cases hlt:k<40
    ·have hlt':(k:Int)<40:=by omega
     have HL:=hide hlt
     have hll:Hid ((LE ++ Sn.chI I J k).length≤74):=by
      show (LE ++ Sn.chI I J k).length≤74
      have:=uh hLEl;have:=Sn.chI_len I J k;rw [List.length_append];omega
     obtain ⟨r0,r1,r2,r3⟩:=(uh hbx _ (uh hX).bel).2.2.1.its.row (uh HL)
     obtain ⟨v0,v1,v2,v3⟩:=(uh hbx _ (uh hX).bel).2.2.2.its.row (uh HL)
     have hcmp:∀wx:World,(binOp .neq 72 (.agg #[.int .i64 (I k 0),.int .i64 (I k 1),.int .i64 (I k 2),.int .i64 (I k 3)]) (.agg #[.int .i64 (J k 0),.int .i64 (J k 1),.int .i64 (J k 2),.int .i64 (J k 3)])).run Tryz.prog wx=.ok (.bool (!Sn.sameI (I k) (J k))) wx:=fun wx=>run_ne_item (I k 0) (I k 1) (I k 2) (I k 3) (J k 0) (J k 1) (J k 2) (J k 3) wx
     have hmo:Hid (Sn.chI I J (k+1)=Sn.chI I J k ++ if Sn.sameI (I k) (J k)=true then [] else [Sn.itV k (I k)]):=rfl
     obtain ⟨p,hp⟩:∃p,Sn.sameI (I k) (J k)=p:=⟨_,rfl⟩
     rw [hp] at hcmp hmo
     have hXd:Hid (∀m,Sn.Ch W0 (wr.drewN m) base u5 (LE ++ Sn.chI I J k) k1 G c):=fun m=>(uh hX).on (uh HB0) (gdw (World.grownBy.refl _ none) m)
     clear hlt hk hp
     go_wp2_with fail
     go_quiet (fail)
     have hX5:=hide (uh hXd nq)
     clear hXd hX r0 r1 r2 r3 v0 v1 v2 v3 hcmp b5 d5
     generalize wr.drewN nq=w5 at hX5 ⊢
     cases p with
     | true =>
      rw [if_pos rfl,List.append_nil] at hmo
      have hX6:Hid (Sn.Ch W0 w5 base u5 (LE ++ Sn.chI I J (k+1)) k1 G c):=by
       rw [uh hmo]
       exact hX5
      go_wp2
      go_roundw
      case rel=>exact ⟨k+1,by have:=uh HL;omega,by go_num,hX6⟩
      case measure=>simp [intOf];have:=uh HL;omega
     | false =>
      have hmo':Hid (Sn.chI I J (k+1)=Sn.chI I J k ++ [Sn.itV k (I k)]):=uh hmo
      have b5:=(uh hbx _ (uh hX5).bel).1.eleven.2.2.2.2.2.2.1
      obtain ⟨r0,r1,r2,r3⟩:=(uh hbx _ (uh hX5).bel).2.2.1.its.row (uh HL)
      obtain ⟨l,hl⟩:∃l,LE ++ Sn.chI I J k=l:=⟨_,rfl⟩
      rw [hl] at hX5 hll
      have hl':=hide hl
      clear hl hmo
      go_upto_region 16 with fail
      go_wp2_with (at_builtin;refine wpList_append_own _ rfl _ _ 93 rfl base 99 i0 .nilIface 1 16 Tryz.underlying93 hi hz0 hz1 hz2 rfl (by decide) _ _ _ rfl ((uh hX5).own.alloc _) ⟨w5.heap.size,0,none⟩ 1 1 [Sn.itV k (I k)] rfl rfl (Sn.news w5 #[Sn.itV k (I k)] _ _ rfl) ?_ ?_ ?_ ?_ ?_)
      ·intro u hu;simp at hu;subst hu;rfl
      ·have:=uh hll;unfold maxLen;omega
      ·have:=uh hll;omega
      ·have:=(uh hX5).top (uh HB0);simp;omega
      intro v6 w6 hown hgrow _
      have hX6:Hid (Sn.Ch W0 w6 base v6 (LE ++ Sn.chI I J (k+1)) k1 G c):=by
       rw [uh hmo',←List.append_assoc,uh hl']
       exact (uh hX5).more (u:=Sn.itV k (I k)) (uh HB0) (World.grownBy_alloc _ _ _) hown hgrow
      clear hown hgrow hX5 b5 r0 r1 r2 r3
      go_wp2
      go_roundw
      case rel=>exact ⟨k+1,by have:=uh HL;omega,by go_num,hX6⟩
      case measure=>simp [intOf];have:=uh HL;omega
    ·obtain rfl:k=40:=by omega
     have hge:¬((40:Nat):Int)<40:=by omega
     clear hlt hk
     have hf:=hide (uh hpost2 _ _ (uh hX))
     clear hX b5 d5
     go_wp2
     exact uh hf

end Go.Proofs.YtkcooekhigmioaaGreat
