import Derived.Test.YtldgbkjceildfaaGreatBy23
import Derived.Test.YtldgbkjceildfaaGreatBy25
namespace Go.Proofs.YtldgbkjceildfaaGreat
open Go.RowKit

theorem Sn.wanted {c a b:Prop} [Decidable c] (hc:c) (h:a):if c then a else b:=by
 rw [if_pos hc]
 exact h

set_option maxRecDepth 16000 in
set_option maxHeartbeats 12800000 in
theorem refEncode_any (s g c:Nat→Int) (E I:Nat→Nat→Int) (gC gE gI cC cE cI:Nat) (w:World) (hL:Gd.Lists w gC gE gI c E I) (hck:∀x,Gd.Lists x gC gE gI c E I→Calls Tryz.prog 26 #[.agg (Gd.world s gC gE gI cC cE cI g)] x (Sn.Told x s g c E I)) :
  Calls Tryz.prog 10 #[.agg (Gd.world s gC gE gI cC cE cI g)] w (Sn.Encodes w s g c E I):=by
 obtain ⟨wz,hwz⟩:∃wz,wz=w.alloc (.cells (Gd.world s gC gE gI cC cE cI g) 30):=⟨_,rfl⟩
 have hg0:w.grownBy wz none:=by rw [hwz];exact World.grownBy_alloc _ _ _
 have hO:Hid (Sn.Shown w wz w.heap.size gC gE gI cC cE cI s g c E I):=by
  refine ⟨?_,hL.on hg0,hg0⟩
  rw [hwz]
  exact (Arr.world (heap_alloc_new w _)).lie
 obtain ⟨i0,hi,hz0,hz1,hz2⟩:=info_parts info_byte
 have lE:=hide (And.intro hL.cells.lt (And.intro hL.ents.lt hL.items.lt))
 have cc:=hide hck
 have sz:Hid (wz.heap.size=w.heap.size+1):=by
  show wz.heap.size=_
  rw [hwz]
  simp
 clear hL hg0 hck
 unfold Gd.world at hwz cc ⊢
 go_enter Tryz.func10,Tryz.ntmps10
 go_upto_region 1 with fail
 rw [←hwz]
 clear hwz
 obtain ⟨B,hBe⟩:∃B,w.heap.size=B:=⟨_,rfl⟩
 have HBe:=hide hBe
 rw [hBe] at hO ⊢
 clear hBe
 obtain ⟨b0,b1,b2,b3,b4,b5,b6,b7,b8,b9,b10⟩:=(uh hO).box.eleven
 go_wp2_with fail
 refine (uh cc _ (uh hO).lists).mono ?_
 rintro e w0 ⟨r,rfl,hr,hg⟩
 have hO1:=hide ((uh hO).on hg)
 have HR:=hide hr
 have HS:Hid (w.heap.size+1≤w0.heap.size):=(show w.heap.size+1≤w0.heap.size by have:=hg.size;have:=uh sz;omega)
 clear hg hO cc b0 b1 b2 b3 b4 b5 b6 b7 b8 b9 b10 hr sz
 by_cases h0:r=0
 case neg =>
  have h0':(r != 0)=true:=by simp [h0]
  have hfin:Hid (Sn.Encodes w s g c E I (.returned (.tuple #[.slice none 0 0,.int .i64 r])) w0):=⟨_,r,rfl,uh HR,fun _=>rfl,fun h=>absurd h h0,(uh hO1).grown⟩
  clear h0
  go_wp2
  go_ret2
  exact uh hfin
 have h0':(r != 0)=false:=by simp [h0]
 have HC:Hid (Sn.Chk s g c E I 0):=by
  have e:=uh HR
  rw [h0] at e
  exact e
 clear h0 HR
 obtain ⟨base,hbase⟩:∃base,w0.heap.size=base:=⟨_,rfl⟩
 have HB0:Hid (base≤w0.heap.size):=(show base≤w0.heap.size by omega)
 have HB:Hid (w.heap.size+1≤base):=(show w.heap.size+1≤base by have:=uh HS;omega)
 have hlists:Hid (∀x,Below base w0 x→Lie x B 30 11 (Gd.box s gC gE gI cC cE cI g)∧Gd.Lists x gC gE gI c E I):=fun x hx=>by
  have:=uh HB
  have:=uh HBe
  obtain ⟨l1,l2,l3⟩:=uh lE
  exact ⟨(uh hO1).box.below hx (by omega),(uh hO1).lists.below hx (by omega) (by omega) (by omega)⟩
 have cN:=hide (fun (n:Nat) (x:Int) (v:Value) (l:List Int) (y:World) (hn:n≤8) (h:Sn.Bytes y base v l) (hb:base≤y.heap.size) (hl:l.length≤1000)=>refNum_any n base x v l y hn h hb hl)
 have hW1:Hid (Sn.Wr w0 w0.drew base (.slice none 0 0) []):=⟨World.ownsRow_nil _ _ _ _,below_drewN (Below.refl _ _) 1⟩
 clear HS hbase
 have hG0:=hide (uh hO1).grown
 go_upto_region 4 with fail
 have hk4:Hid (∀x,Below base w0 x→x.cell? ⟨B,0,none⟩=some (.int .i64 (s 0))∧x.cell? ⟨B,1,none⟩=some (.int .i64 (s 1))):=fun x hx=>⟨(uh hlists x hx).1.eleven.1,(uh hlists x hx).1.eleven.2.1⟩
 go_cut [5] from 15 to 23 (fun v3 wx=>Hid (Sn.Wr w0 wx base v3 (Sn.num 8 (s 0 % 18446744073709551616) ++ Sn.num 4 (s 1 % 18446744073709551616))))
 case first =>
  refine wp_region_till (h:=8) (S:=fun x=>x.cell? ⟨B,0,none⟩=some (.int .i64 (s 0))∧x.cell? ⟨B,1,none⟩=some (.int .i64 (s 1))) (by kernel_rfl) ?_
  have hS0:=uh hk4 _ (uh hW1).bel
  refine wtk (i:=0) (v:=?_) [8] rfl (by kernel_rfl) (by kernel_rfl) (by kernel_rfl) (by kernel_rfl) (fun _ _ _ h=>h) hS0 (Or.inl ⟨by rfl,?_⟩) ?_
  rotate_left
  ·intro x hSx
   try dsimp only at hSx
   go_simp
   try with_reducible rfl
  simp only [Act.put]
  refine wtk (i:=1) (v:=?_) [8] rfl (by kernel_rfl) (by kernel_rfl) (by kernel_rfl) (by kernel_rfl) (fun _ _ _ h=>h) hS0 (Or.inl ⟨by rfl,?_⟩) ?_
  rotate_left
  ·intro x hSx
   try dsimp only at hSx
   go_simp
   try with_reducible rfl
  simp only [Act.put]
  refine wtk (i:=2) (v:=?_) [8] rfl (by kernel_rfl) (by kernel_rfl) (by kernel_rfl) (by kernel_rfl) (fun _ _ _ h=>h) hS0 (Or.inl ⟨by rfl,?_⟩) ?_
  rotate_left
  ·intro x hSx
   try dsimp only at hSx
   go_simp
   try with_reducible rfl
  simp only [Act.put]
  refine wtk (i:=4) (v:=?_) [8] rfl (by kernel_rfl) (by kernel_rfl) (by kernel_rfl) (by kernel_rfl) (fun _ _ _ h=>h) hS0 (Or.inl ⟨by rfl,?_⟩) ?_
  rotate_left
  ·intro x hSx
   try dsimp only at hSx
   go_simp
   try with_reducible rfl
  simp only [Act.put]
  refine wtk (i:=5) (v:=?_) [8] rfl (by kernel_rfl) (by kernel_rfl) (by kernel_rfl) (by kernel_rfl) (fun _ _ _ h=>h) hS0 (Or.inl ⟨by rfl,?_⟩) ?_
  rotate_left
  ·intro x hSx
   try dsimp only at hSx
   go_simp
   try with_reducible rfl
  simp only [Act.put]
  refine wtk (i:=6) (v:=?_) [8] rfl (by kernel_rfl) (by kernel_rfl) (by kernel_rfl) (by kernel_rfl) (fun _ _ _ h=>h) hS0 (Or.inl ⟨by rfl,?_⟩) ?_
  rotate_left
  ·intro x hSx
   try dsimp only at hSx
   go_simp
   try with_reducible rfl
  simp only [Act.put]
  refine wto (j:=3) (by kernel_rfl) rfl (fun K hK=>?_)
  go_simp
  refine (uh cN 8 _ _ [] _ (by omega) (uh hW1).own ((uh hW1).top (uh HB0)) (by simp)).mono ?_
  rintro e w2 ⟨v2,rfl,hown,hbel⟩
  have hW2:=hide ((uh hW1).adds hown hbel)
  rw [List.nil_append,Sn.wrap64] at hW2
  have hS2:=uh hk4 _ (uh hW2).bel
  clear hown hbel hW1
  try go_simp
  refine hK.out _ _ (fun _=>hS2) ?_
  clear hK K
  refine wto (j:=7) (by kernel_rfl) rfl (fun K hK=>?_)
  go_simp
  refine (uh cN 4 _ _ _ _ (by omega) (uh hW2).own ((uh hW2).top (uh HB0)) (by rw [Sn.num_len];omega)).mono ?_
  rintro e w3 ⟨v3,rfl,hown,hbel⟩
  have hW3:=hide ((uh hW2).adds hown hbel)
  rw [Sn.wrap64] at hW3
  have hS3:=uh hk4 _ (uh hW3).bel
  clear hown hbel hW2
  try go_simp
  refine hK.out _ _ (fun _=>hS3) ?_
  clear hK K
  refine wto (j:=8) (by kernel_rfl) rfl (fun K hK=>?_)
  go_simp
  refine hK.out _ _ (fun hx=>absurd (hx.symm.trans (by kernel_rfl)) Bool.false_ne_true) ?_
  clear hK K
  refine wpTill_done (by kernel_rfl) ?_ _
  go_wp2_with fail
  go_meet
  exact hW3
 case rest =>
 have hW3:Hid (Sn.Wr w0 wc base u5 (Sn.num 8 (s 0 % 18446744073709551616) ++ Sn.num 4 (s 1 % 18446744073709551616))):=hcut
 clear hcut hW1 hk4
 obtain ⟨b0,b1,b2,b3,b4,b5,b6,b7,b8,b9,b10⟩:=(uh hlists wc (uh hW3).bel).1.eleven
 have t2:IntKind.u8.wrap (s 2)=s 2 % 256:=Sn.wrap8 _
 have t3:IntKind.u8.wrap (s 3)=s 3 % 256:=Sn.wrap8 _
 go_upto_region 5 with fail
 go_wp2_with (at_builtin;refine wpList_append_own _ rfl _ _ 24 rfl base 5 i0 (.int .u8 0) 1 1 Tryz.underlying24 hi hz0 hz1 hz2 rfl (by decide) _ _ _ rfl ((uh hW3).own.alloc _) ⟨wc.heap.size,0,none⟩ 2 2 [.int .u8 (s 2 % 256),.int .u8 (s 3 % 256)] rfl rfl (Sn.news wc #[.int .u8 (s 2 % 256),.int .u8 (s 3 % 256)] _ _ rfl) ?_ ?_ ?_ ?_ ?_)
 ·intro u hu
  simp only [List.mem_cons,List.not_mem_nil,or_false] at hu
  rcases hu with rfl | rfl <;> rfl
 ·simp [Sn.num_len];unfold maxLen;omega
 ·simp [Sn.num_len]
 ·have:=(uh hW3).top (uh HB0);simp;omega
 intro v4 w4 hown hgrow _
 have hW4:Hid (Sn.Wr w0 w4 base v4 (Sn.head s)):=(uh hW3).more (m:=2) (ns:=[s 2 % 256,s 3 % 256]) (uh HB0) (World.grownBy_alloc _ _ _) (by simpa using hown) rfl hgrow
 clear hown hgrow hW3 b0 b1 b2 b3 b4 b5 b6 b7 b8 b9 b10 t2 t3
 go_wp2_with fail
 go_loopw [5,6] (fun v5 v6 wr=>∃k:Nat,k≤4∧v6=.int .i64 (k:Int)∧Hid (Sn.Wr w0 wr base v5 (Sn.head s ++ Sn.golds k g))) (fun _ v6 _=>10 - (intOf v6).toNat)
 case atStart=>exact ⟨0,by omega,rfl,by simpa [Sn.golds] using hW4⟩
 case round =>
  clear hW4
  obtain ⟨k,hk,rfl,hX⟩:=hrel
  have hlen:Hid ((Sn.head s ++ Sn.golds k g).length=14+k*2):=by show (Sn.head s ++ Sn.golds k g).length=_;rw [List.length_append,Sn.head_len,Sn.golds_len]
  by_cases hlt:k<4
  ·have hlt':(k:Int)<4:=by omega
   have HL:=hide hlt
   have bk:wr.cell? ⟨B,7+k,none⟩=some (.int .i64 (g k)):=by
    rw [(uh hlists wr (uh hX).bel).1.cell (c:=7+k) (by omega),Gd.box_gold _ _ _ _ _ _ _ _ k hlt]
   clear hlt hk
   go_wp2_with fail
   refine (uh cN 2 _ _ _ _ (by omega) (uh hX).own ((uh hX).top (uh HB0)) (by have:=uh hlen;have:=uh HL;omega)).mono ?_
   rintro e w5 ⟨v5,rfl,hown,hbel⟩
   have hX2:=hide ((uh hX).adds hown hbel)
   rw [Sn.wrap64,List.append_assoc,←Sn.golds_more] at hX2
   clear hown hbel hX bk hlen
   go_wp2
   go_roundw
   case rel=>exact ⟨k+1,by have:=uh HL;omega,by go_num,hX2⟩
   case measure=>simp [intOf];have:=uh HL;omega
  ·obtain rfl:k=4:=by omega
   have hge:¬((4:Nat):Int)<4:=by omega
   clear hlt hk
   have b4:=(uh hlists wr (uh hX).bel).1.eleven.2.2.2.2.1
   go_upto_region 10 with fail
   go_wp2_with (at_builtin;refine wpList_append_own _ rfl _ _ 24 rfl base 5 i0 (.int .u8 0) 1 1 Tryz.underlying24 hi hz0 hz1 hz2 rfl (by decide) _ _ _ rfl (uh hX).own ⟨gC,0,none⟩ 384 cC (((List.range 384).map c).map (Value.int .u8)) rfl (by simp) (Sn.cells_src (uh hlists wr (uh hX).bel).2.cells) ?_ ?_ ?_ ?_ ?_)
   ·intro u hu
    obtain ⟨x,_,rfl⟩:=List.mem_map.1 hu
    rfl
   ·have:=Sn.head_len s;have:=Sn.golds_len g 4;unfold maxLen;omega
   ·have:=Sn.head_len s;have:=Sn.golds_len g 4;omega
   ·exact (uh hX).top (uh HB0)
   intro v6 w6 hown hgrow _
   have hW6:Hid (Sn.Wr w0 w6 base v6 (Sn.head s ++ Sn.golds 4 g ++ (List.range 384).map c)):=(uh hX).more (m:=384) (uh HB0) (World.grownBy.refl _ _) hown (by simp) hgrow
   clear hown hgrow hX b4 hlen hge
   go_upto_region 11 with fail
   go_wp2_with fail
   go_loopw [5,7,8] (fun v5 v7 v8 wr=>∃k:Nat,k≤32∧v7=.int .i64 (k:Int)∧Hid (Sn.Wr w0 wr base v5 (Sn.head s ++ Sn.golds 4 g ++ (List.range 384).map c ++ Sn.rows k 11 E))) (fun _ v7 _ _=>40 - (intOf v7).toNat)
   case atStart=>exact ⟨0,by omega,rfl,by simpa [Sn.rows] using hW6⟩
   case round =>
    clear hW6
    obtain ⟨k,hk,rfl,hX⟩:=hrel
    have hlen:Hid ((Sn.head s ++ Sn.golds 4 g ++ (List.range 384).map c ++ Sn.rows k 11 E).length=406+k*11):=by show (Sn.head s ++ Sn.golds 4 g ++ (List.range 384).map c ++ Sn.rows k 11 E).length=_;rw [List.length_append,Sn.len22,Sn.rows_len]
    have b5:=(uh hlists wr (uh hX).bel).1.eleven.2.2.2.2.2.1
    by_cases hlt:k<32
    ·have hlt':(k:Int)<32:=by omega
     have HL:=hide hlt
     obtain ⟨r0,r1,r2,r3,r4,r5,r6,r7,r8,r9,r10⟩:=(uh hlists wr (uh hX).bel).2.own.ents.row hlt
     clear hlt hk
     obtain ⟨l,hl⟩:∃l,Sn.head s ++ Sn.golds 4 g ++ (List.range 384).map c ++ Sn.rows k 11 E=l:=⟨_,rfl⟩
     rw [hl] at hX hlen
     have hl':=hide hl
     clear hl
     go_upto_region 15 with fail
     obtain ⟨wd,hwd⟩:∃wd,wd=wr.alloc (.cells (En.cells (E k)) 70):=⟨_,rfl⟩
     have hgd:wr.grownBy wd none:=by rw [hwd];exact World.grownBy_alloc _ _ _
     have hD:Hid (Lie wd wr.heap.size 70 11 (Ints (E k))):=by show Lie wd _ _ _ _;rw [hwd];exact Sn.born wr (E k) 70
     have hXd:=hide ((uh hX).on (uh HB0) hgd)
     unfold En.cells at hwd
     rw [←hwd]
     clear hwd hgd hX b5 r0 r1 r2 r3 r4 r5 r6 r7 r8 r9 r10
     obtain ⟨D,hDe⟩:∃D,wr.heap.size=D:=⟨_,rfl⟩
     rw [hDe] at hD ⊢
     clear hDe wr
     obtain ⟨d0,d1,d2,d3,d4,d5,d6,d7,d8,d9,d10⟩:=Sn.row (uh hD)
     have tw:∀j,IntKind.u8.wrap (E k j)=E k j % 256:=fun j=>Sn.wrap8 _
     go_wp2_with (at_builtin;refine wpList_append_own _ rfl _ _ 24 rfl base 5 i0 (.int .u8 0) 1 1 Tryz.underlying24 hi hz0 hz1 hz2 rfl (by decide) _ _ _ rfl ((uh hXd).own.alloc _) ⟨wd.heap.size,0,none⟩ 11 11 (#[.int .u8 (E k 0 % 256),.int .u8 (E k 1 % 256),.int .u8 (E k 2 % 256),.int .u8 (E k 3 % 256),.int .u8 (E k 4 % 256),.int .u8 (E k 5 % 256),.int .u8 (E k 6 % 256),.int .u8 (E k 7 % 256),.int .u8 (E k 8 % 256),.int .u8 (E k 9 % 256),.int .u8 (E k 10 % 256)]:Array Value).toList rfl rfl (Sn.news wd _ _ _ rfl) ?_ ?_ ?_ ?_ ?_)
     ·exact ⟨rfl,rfl,rfl,rfl,rfl,rfl,rfl,rfl,rfl,rfl,rfl⟩
     ·have:=uh hlen;have:=uh HL;unfold maxLen;omega
     ·have:=uh hlen;have:=uh HL;omega
     ·have:=(uh hXd).top (uh HB0);simp;omega
     intro v8 w8 hown hgrow _
     have hX2:Hid (Sn.Wr w0 w8 base v8 (l ++ (List.range 11).map fun j=>E k j % 256)):=(uh hXd).more (m:=11) (uh HB0) (World.grownBy_alloc _ _ _) hown (by simp) hgrow
     rw [←uh hl',List.append_assoc,←Sn.rows_more] at hX2
     clear hown hgrow hXd hD d0 d1 d2 d3 d4 d5 d6 d7 d8 d9 d10 tw hlen
     go_wp2
     go_roundw
     case rel=>exact ⟨k+1,by have:=uh HL;omega,by go_num,hX2⟩
     case measure=>simp [intOf];have:=uh HL;omega
    ·obtain rfl:k=32:=by omega
     have hge:¬((32:Nat):Int)<32:=by omega
     clear hlt hk
     go_upto_region 16 with fail
     go_wp2_with fail
     go_loopw [5,9] (fun v5 v9 wr=>∃k:Nat,k≤40∧v9=.int .i64 (k:Int)∧Hid (Sn.Wr w0 wr base v5 (Sn.head s ++ Sn.golds 4 g ++ (List.range 384).map c ++ Sn.rows 32 11 E ++ Sn.rows k 4 I))) (fun _ v9 _=>50 - (intOf v9).toNat)
     case atStart=>exact ⟨0,by omega,rfl,by simpa [Sn.rows] using hX⟩
     case round =>
      clear hX b5 hge hlen
      obtain ⟨k,hk,rfl,hX⟩:=hrel
      have hlen:Hid ((Sn.head s ++ Sn.golds 4 g ++ (List.range 384).map c ++ Sn.rows 32 11 E ++ Sn.rows k 4 I).length=758+k*4):=by show (Sn.head s ++ Sn.golds 4 g ++ (List.range 384).map c ++ Sn.rows 32 11 E ++ Sn.rows k 4 I).length=_;rw [List.length_append,Sn.len406,Sn.rows_len]
      have b6:=(uh hlists wr (uh hX).bel).1.eleven.2.2.2.2.2.2.1
      by_cases hlt:k<40
      ·have hlt':(k:Int)<40:=by omega
       have HL:=hide hlt
       obtain ⟨l,hl⟩:∃l,Sn.head s ++ Sn.golds 4 g ++ (List.range 384).map c ++ Sn.rows 32 11 E ++ Sn.rows k 4 I=l:=⟨_,rfl⟩
       rw [hl] at hX hlen
       have hl':=hide hl
       clear hl
       have hks:Hid (∀x,Below base w0 x→x.cell? ⟨B,6,none⟩=some (.slice (some ⟨gI,0,none⟩) 40 cI)∧x.cell? ⟨gI,k*4,none⟩=some (.int .i64 (I k 0))∧x.cell? ⟨gI,k*4+1,none⟩=some (.int .i64 (I k 1))∧x.cell? ⟨gI,k*4+2,none⟩=some (.int .i64 (I k 2))∧x.cell? ⟨gI,k*4+3,none⟩=some (.int .i64 (I k 3))):=fun x hx=>⟨(uh hlists x hx).1.eleven.2.2.2.2.2.2.1,(uh hlists x hx).2.its.row (uh HL)⟩
       have tw:∀j,IntKind.u8.wrap (I k j)=I k j % 256:=fun j=>Sn.wrap8 _
       clear hlt hk
       have hXd':Hid (Sn.Wr w0 wr.drew base u5 l):=(uh hX).on (uh HB0) (gd1 (World.grownBy.refl _ none))
       go_upto_region 19 with fail
       clear b6
       have hsrc0:∀j u,(#[.int .u8 (I k 0 % 256),.int .u8 (I k 1 % 256),.int .u8 (I k 2 % 256),.int .u8 (I k 3 % 256)]:Array Value).toList[j]?=some u→(wr.drew.alloc (.cells #[.int .u8 (I k 0 % 256),.int .u8 (I k 1 % 256),.int .u8 (I k 2 % 256),.int .u8 (I k 3 % 256)] 5)).cell? ((⟨wr.heap.size,0,none⟩:Addr).add j)=some u:=Sn.news wr.drew _ _ _ (by simp)
       have hsrc:=hide hsrc0
       clear hsrc0
       have hSb:=uh hks (wr.drew.alloc (.cells #[.int .u8 (I k 0 % 256),.int .u8 (I k 1 % 256),.int .u8 (I k 2 % 256),.int .u8 (I k 3 % 256)] 5)) ((uh hXd').on (uh HB0) (World.grownBy_alloc _ _ _)).bel
       have hS0:=uh hks wr.drew (uh hXd').bel
       clear hX
       refine wp_region_till (h:=31) (S:=fun x=>x.cell? ⟨B,6,none⟩=some (.slice (some ⟨gI,0,none⟩) 40 cI)∧x.cell? ⟨gI,k*4,none⟩=some (.int .i64 (I k 0))∧x.cell? ⟨gI,k*4+1,none⟩=some (.int .i64 (I k 1))∧x.cell? ⟨gI,k*4+2,none⟩=some (.int .i64 (I k 2))∧x.cell? ⟨gI,k*4+3,none⟩=some (.int .i64 (I k 3))) (by kernel_rfl) ?_
       refine wtk (i:=0) (v:=?_) [31] rfl (by kernel_rfl) (by kernel_rfl) (by kernel_rfl) (by kernel_rfl) (fun _ _ _ h=>h) hS0 (Or.inl ⟨by rfl,?_⟩) ?_
       rotate_left
       ·intro x hSx
        try dsimp only at hSx
        go_simp
        try with_reducible rfl
       simp only [Act.put]
       refine wtk (i:=1) (v:=?_) [31] rfl (by kernel_rfl) (by kernel_rfl) (by kernel_rfl) (by kernel_rfl) (fun _ _ _ h=>h) hS0 (Or.inl ⟨by rfl,?_⟩) ?_
       rotate_left
       ·intro x hSx
        try dsimp only at hSx
        go_simp
        try with_reducible rfl
       simp only [Act.put]
       refine wtk (i:=2) (v:=?_) [31] rfl (by kernel_rfl) (by kernel_rfl) (by kernel_rfl) (by kernel_rfl) (fun _ _ _ h=>h) hS0 (Or.inl ⟨by rfl,?_⟩) ?_
       rotate_left
       ·intro x hSx
        try dsimp only at hSx
        go_simp
        try with_reducible rfl
       simp only [Act.put]
       refine wtk (i:=3) (v:=?_) [31] rfl (by kernel_rfl) (by kernel_rfl) (by kernel_rfl) (by kernel_rfl) (fun _ _ _ h=>h) hS0 (Or.inl ⟨by rfl,?_⟩) ?_
       rotate_left
       ·intro x hSx
        try dsimp only at hSx
        go_simp
        try with_reducible rfl
       simp only [Act.put]
       refine wtk (i:=4) (v:=?_) [31] rfl (by kernel_rfl) (by kernel_rfl) (by kernel_rfl) (by kernel_rfl) (fun _ _ _ h=>h) hS0 (Or.inl ⟨by rfl,?_⟩) ?_
       rotate_left
       ·intro x hSx
        try dsimp only at hSx
        go_simp
        try with_reducible rfl
       simp only [Act.put]
       refine wtk (i:=5) (v:=?_) [31] rfl (by kernel_rfl) (by kernel_rfl) (by kernel_rfl) (by kernel_rfl) (fun _ _ _ h=>h) hS0 (Or.inl ⟨by rfl,?_⟩) ?_
       rotate_left
       ·intro x hSx
        try dsimp only at hSx
        go_simp
        try with_reducible rfl
       simp only [Act.put]
       refine wtk (i:=6) (v:=?_) [31] rfl (by kernel_rfl) (by kernel_rfl) (by kernel_rfl) (by kernel_rfl) (fun _ _ _ h=>h) hS0 (Or.inl ⟨by rfl,?_⟩) ?_
       rotate_left
       ·intro x hSx
        try dsimp only at hSx
        go_simp
        try with_reducible rfl
       simp only [Act.put]
       refine wtk (i:=7) (v:=?_) [31] rfl (by kernel_rfl) (by kernel_rfl) (by kernel_rfl) (by kernel_rfl) (fun _ _ _ h=>h) hS0 (Or.inl ⟨by rfl,?_⟩) ?_
       rotate_left
       ·intro x hSx
        try dsimp only at hSx
        go_simp
        try with_reducible rfl
       simp only [Act.put]
       refine wtk (i:=8) (v:=?_) [31] rfl (by kernel_rfl) (by kernel_rfl) (by kernel_rfl) (by kernel_rfl) (fun _ _ _ h=>h) hS0 (Or.inl ⟨by rfl,?_⟩) ?_
       rotate_left
       ·intro x hSx
        try dsimp only at hSx
        go_simp
        try with_reducible rfl
       simp only [Act.put]
       refine wtk (i:=9) (v:=?_) [31] rfl (by kernel_rfl) (by kernel_rfl) (by kernel_rfl) (by kernel_rfl) (fun _ _ _ h=>h) hS0 (Or.inl ⟨by rfl,?_⟩) ?_
       rotate_left
       ·intro x hSx
        try dsimp only at hSx
        go_simp
        try with_reducible rfl
       simp only [Act.put]
       refine wtk (i:=10) (v:=?_) [31] rfl (by kernel_rfl) (by kernel_rfl) (by kernel_rfl) (by kernel_rfl) (fun _ _ _ h=>h) hS0 (Or.inl ⟨by rfl,?_⟩) ?_
       rotate_left
       ·intro x hSx
        try dsimp only at hSx
        go_simp
        try with_reducible rfl
       simp only [Act.put]
       refine wtk (i:=11) (v:=?_) [31] rfl (by kernel_rfl) (by kernel_rfl) (by kernel_rfl) (by kernel_rfl) (fun _ _ _ h=>h) hS0 (Or.inl ⟨by rfl,?_⟩) ?_
       rotate_left
       ·intro x hSx
        try dsimp only at hSx
        go_simp
        try with_reducible rfl
       simp only [Act.put]
       refine wtk (i:=12) (v:=?_) [31] rfl (by kernel_rfl) (by kernel_rfl) (by kernel_rfl) (by kernel_rfl) (fun _ _ _ h=>h) hS0 (Or.inl ⟨by rfl,?_⟩) ?_
       rotate_left
       ·intro x hSx
        try dsimp only at hSx
        go_simp
        try with_reducible rfl
       simp only [Act.put]
       refine wtk (i:=13) (v:=?_) [31] rfl (by kernel_rfl) (by kernel_rfl) (by kernel_rfl) (by kernel_rfl) (fun _ _ _ h=>h) hS0 (Or.inl ⟨by rfl,?_⟩) ?_
       rotate_left
       ·intro x hSx
        try dsimp only at hSx
        go_simp
        try with_reducible rfl
       simp only [Act.put]
       refine wtk (i:=14) (v:=?_) [31] rfl (by kernel_rfl) (by kernel_rfl) (by kernel_rfl) (by kernel_rfl) (fun _ _ _ h=>h) hS0 (Or.inl ⟨by rfl,?_⟩) ?_
       rotate_left
       ·intro x hSx
        try dsimp only at hSx
        go_simp
        try with_reducible rfl
       simp only [Act.put]
       refine wtk (i:=15) (v:=?_) [31] rfl (by kernel_rfl) (by kernel_rfl) (by kernel_rfl) (by kernel_rfl) (fun _ _ _ h=>h) hS0 (Or.inl ⟨by rfl,?_⟩) ?_
       rotate_left
       ·intro x hSx
        try dsimp only at hSx
        go_simp
        try with_reducible rfl
       simp only [Act.put]
       refine wtk (i:=16) (v:=?_) [31] rfl (by kernel_rfl) (by kernel_rfl) (by kernel_rfl) (by kernel_rfl) (fun _ _ _ h=>h) hS0 (Or.inl ⟨by rfl,?_⟩) ?_
       rotate_left
       ·intro x hSx
        try dsimp only at hSx
        go_simp
        try with_reducible rfl
       simp only [Act.put]
       refine wtk (i:=17) (v:=?_) [31] rfl (by kernel_rfl) (by kernel_rfl) (by kernel_rfl) (by kernel_rfl) (fun _ _ _ h=>h) hS0 (Or.inl ⟨by rfl,?_⟩) ?_
       rotate_left
       ·intro x hSx
        try dsimp only at hSx
        go_simp
        try with_reducible rfl
       simp only [Act.put]
       refine wtk (i:=18) (v:=?_) [31] rfl (by kernel_rfl) (by kernel_rfl) (by kernel_rfl) (by kernel_rfl) (fun _ _ _ h=>h) hS0 (Or.inl ⟨by rfl,?_⟩) ?_
       rotate_left
       ·intro x hSx
        try dsimp only at hSx
        go_simp
        try with_reducible rfl
       simp only [Act.put]
       refine wtk (i:=19) (v:=?_) [31] rfl (by kernel_rfl) (by kernel_rfl) (by kernel_rfl) (by kernel_rfl) (fun _ _ _ h=>h) hS0 (Or.inl ⟨by rfl,?_⟩) ?_
       rotate_left
       ·intro x hSx
        try dsimp only at hSx
        go_simp
        try with_reducible rfl
       simp only [Act.put]
       refine wtk (i:=20) (v:=?_) [31] rfl (by kernel_rfl) (by kernel_rfl) (by kernel_rfl) (by kernel_rfl) (fun _ _ _ h=>h) hS0 (Or.inl ⟨by rfl,?_⟩) ?_
       rotate_left
       ·intro x hSx
        try dsimp only at hSx
        go_simp
        try with_reducible rfl
       simp only [Act.put]
       refine wtk (i:=21) (v:=?_) [31] rfl (by kernel_rfl) (by kernel_rfl) (by kernel_rfl) (by kernel_rfl) (fun _ _ _ h=>h) hS0 (Or.inl ⟨by rfl,?_⟩) ?_
       rotate_left
       ·intro x hSx
        try dsimp only at hSx
        go_simp
        try with_reducible rfl
       simp only [Act.put]
       refine wtk (i:=22) (v:=?_) [31] rfl (by kernel_rfl) (by kernel_rfl) (by kernel_rfl) (by kernel_rfl) (fun _ _ _ h=>h) hS0 (Or.inl ⟨by rfl,?_⟩) ?_
       rotate_left
       ·intro x hSx
        try dsimp only at hSx
        go_simp
        try with_reducible rfl
       simp only [Act.put]
       refine wtk (i:=23) (v:=?_) [31] rfl (by kernel_rfl) (by kernel_rfl) (by kernel_rfl) (by kernel_rfl) (fun _ _ _ h=>h) hS0 (Or.inl ⟨by rfl,?_⟩) ?_
       rotate_left
       ·intro x hSx
        try dsimp only at hSx
        go_simp
        try with_reducible rfl
       simp only [Act.put]
       refine wtk (i:=24) (v:=?_) [31] rfl (by kernel_rfl) (by kernel_rfl) (by kernel_rfl) (by kernel_rfl) (fun _ _ _ h=>h) hS0 (Or.inl ⟨by rfl,?_⟩) ?_
       rotate_left
       ·intro x hSx
        try dsimp only at hSx
        go_simp
        try with_reducible rfl
       simp only [Act.put]
       refine wtk (i:=25) (v:=?_) [31] rfl (by kernel_rfl) (by kernel_rfl) (by kernel_rfl) (by kernel_rfl) (fun _ _ _ h=>h) hS0 (Or.inl ⟨by rfl,?_⟩) ?_
       rotate_left
       ·intro x hSx
        try dsimp only at hSx
        go_simp
        try with_reducible rfl
       simp only [Act.put]
       refine wtk (i:=26) (v:=?_) [31] rfl (by kernel_rfl) (by kernel_rfl) (by kernel_rfl) (by kernel_rfl) (fun _ _ _ h=>h) hS0 (Or.inl ⟨by rfl,?_⟩) ?_
       rotate_left
       ·intro x hSx
        try dsimp only at hSx
        go_simp
        try with_reducible rfl
       simp only [Act.put]
       refine wtk (i:=27) (v:=?_) [31] rfl (by kernel_rfl) (by kernel_rfl) (by kernel_rfl) (by kernel_rfl) (fun _ _ _ h=>h) hS0 (Or.inl ⟨by rfl,?_⟩) ?_
       rotate_left
       ·intro x hSx
        try dsimp only at hSx
        go_simp
        try with_reducible rfl
       simp only [Act.put]
       refine wtk (i:=28) (v:=?_) [31] rfl (by kernel_rfl) (by kernel_rfl) (by kernel_rfl) (by kernel_rfl) (fun _ _ _ h=>h) hS0 (Or.inl ⟨by rfl,?_⟩) ?_
       rotate_left
       ·intro x hSx
        try dsimp only at hSx
        go_simp
        try with_reducible rfl
       simp only [Act.put]
       refine wto (j:=29) (by kernel_rfl) rfl (fun K hK=>?_)
       go_simp
       try go_simp
       refine hK.out _ _ (fun _=>hSb) ?_
       clear hK K
       refine wto (j:=30) (by kernel_rfl) rfl (fun K hK=>?_)
       refine Sn.wanted (by rfl) ?_
       refine wp_append_own _ _ _ 24 rfl base 5 i0 (.int .u8 0) 1 1 Tryz.underlying24 hi hz0 hz1 hz2 rfl (by decide) u5 l.length (l.map (Value.int .u8)) rfl ((uh hXd').own.alloc _) ⟨wr.heap.size,0,none⟩ 4 4 (#[.int .u8 (I k 0 % 256),.int .u8 (I k 1 % 256),.int .u8 (I k 2 % 256),.int .u8 (I k 3 % 256)]:Array Value).toList rfl rfl (uh hsrc) (by simp [Value.oneCell']) (by have:=uh hlen;have:=uh HL;unfold maxLen;omega) (by have:=uh hlen;have:=uh HL;omega) (by have:=(uh hXd').top (uh HB0);simp at this ⊢;omega) ?_
       intro v8 w8 hown hgrow _
       have hX2:Hid (Sn.Wr w0 w8 base v8 (l ++ (List.range 4).map fun j=>I k j % 256)):=(uh hXd').more (m:=4) (uh HB0) (World.grownBy_alloc _ _ _) hown (by simp) hgrow
       rw [←uh hl',List.append_assoc,←Sn.rows_more] at hX2
       have hSc:=uh hks w8 (uh hX2).bel
       clear hown hgrow hsrc
       refine hK.out _ _ (fun _=>hSc) ?_
       clear hK K
       refine wto (j:=31) (by kernel_rfl) rfl (fun K hK=>?_)
       go_simp
       refine hK.out _ _ (fun hx=>absurd (hx.symm.trans (by kernel_rfl)) Bool.false_ne_true) ?_
       clear hK K
       refine wpTill_done (by kernel_rfl) ?_ _
       go_wp2
       go_roundw
       case rel=>exact ⟨k+1,by have:=uh HL;omega,by go_num,hX2⟩
       case measure=>simp [intOf];have:=uh HL;omega
      ·obtain rfl:k=40:=by omega
       have hge:¬((40:Nat):Int)<40:=by omega
       have hfin:Hid (∀v,Sn.Wr w0 wr base v (Sn.bytes s g c E I)→Sn.Encodes w s g c E I (.returned (.tuple #[v,.int .i64 0])) wr):=fun v hv=>by
        have e1:=uh HB
        exact ⟨v,0,rfl,uh HC,fun h=>absurd rfl h,fun _=>hv.own.mono (by omega),below_grown (Sn.below_trans (none_below (uh hG0)) (hv.bel.mono (by omega)))⟩
       have hf:=hide (uh hfin _ (uh hX))
       clear hlt hk hX hfin
       go_wp2
       go_ret2
       exact uh hf

end Go.Proofs.YtldgbkjceildfaaGreat

namespace Go.Proofs.YtldgbkjceildfaaGreat

def YieldsCall (P:Program) (ops:Array Oper) (S:World→Prop) (o:Oper) (v:Value) (a:Act):Prop :=
 Region.wanted o (yielded ops a.tmps)=true∧∀w,S w→∃f args,(execOp a.eval o).run P w=.ok (.enter f args) w∧Calls P f args w fun e w'=>e=.returned v∧w'=w

theorem YieldsCall.of_same {P:Program} {ops:Array Oper} {S:World→Prop} {o:Oper} {v:Value} {a a':Act} (hy:YieldsCall P ops S o v a) (he:execOp a'.eval o=execOp a.eval o)
  (hw:Region.wanted o (yielded ops a'.tmps)=Region.wanted o (yielded ops a.tmps)):YieldsCall P ops S o v a':=by
 unfold YieldsCall at *
 rw [he,hw]
 exact hy

theorem YieldsCall.wpOp {P:Program} {ops:Array Oper} {Q:Exit→Act→World→Prop} {S:World→Prop} {i:Nat} {o:Oper} {v:Value} {a:Act} (hi:ops[i]?=some o) (hy:YieldsCall P ops S o v a)
  {K:Act→World→Prop} {w:World} (hS:S w) (h:K (a.put o.dst v) w):wpOp P ops Q i K a w:=by
 obtain ⟨hw,hv⟩:=hy
 obtain ⟨f,args,hr,hc⟩:=hv w hS
 unfold Go.wpOp
 simp only [hi,hw,if_true]
 refine .inl ?_
 unfold Oper.wp
 rw [hr]
 refine Calls.mono hc fun e w' he=>?_
 obtain ⟨rfl,rfl⟩:=he
 exact h

theorem wpOp_frame {P:Program} {ops:Array Oper} {Q:Exit→Act→World→Prop} {j:Nat} {oj:Oper} (hj:ops[j]?=some oj) {K:Act→World→Prop} {a:Act} {w:World} (h:wpOp P ops Q j K a w) :
  wpOp P ops Q j (fun b x=>(∃ds u,b=({ a with defers:=ds }:Act).put oj.dst u)∧K b x) a w:=by
 have one:∀u,∃ds u',a.put oj.dst u=({ a with defers:=ds }:Act).put oj.dst u':=fun u=>⟨a.defers,u,rfl⟩
 unfold wpOp at h ⊢
 simp only [hj] at h ⊢
 by_cases hw:Region.wanted oj (yielded ops a.tmps)=true
 ·rw [if_pos hw] at h ⊢
  refine h.imp (fun h=>?_) id
  unfold Oper.wp at h ⊢
  cases hr:(execOp a.eval oj).run P w with
  | halt x y =>
   rw [hr] at h
   cases x <;> exact h
  | ok n y =>
   rw [hr] at h
   cases n with
   | value u=>exact ⟨one u,h⟩
   | skip=>exact ⟨one _,h⟩
   | defer d=>exact ⟨⟨d :: a.defers,undef,rfl⟩,h⟩
   | enter f args=>exact Calls.mono h fun e z he=>by cases e <;> first | exact ⟨one _,he⟩ | exact he
   | row r args=>exact Rows.mono h fun u z he=>⟨one u,he⟩
   | _=>exact h
 ·rw [if_neg hw] at h ⊢
  exact ⟨one _,h⟩

theorem wpOp_putCall {P:Program} {ops:Array Oper} {Q:Exit→Act→World→Prop} {S:World→Prop} {j:Nat} {oi oj:Oper} {v:Value} (hj:ops[j]?=some oj) (hap:oi.apart ops oj=true)
  (hsi:∀cs b,oi.op≠.select cs b) (hsj:∀cs b,oj.op≠.select cs b)
  (hQ:∀c a w,Q (.panic c) (a.put oi.dst v) w→Q (.panic c) a w) {K:Act→World→Prop} {a:Act} {w:World}
  (hy:YieldsCall P ops S oi v a) (h:wpOp P ops Q j K (a.put oi.dst v) w) :
  wpOp P ops Q j (fun b x=>YieldsCall P ops S oi v b∧K (b.put oi.dst v) x) a w:=by
 have h0:YieldsIf P ops (fun _=>False) oi v a:=.inl ⟨hy.1,fun _ q=>q.elim⟩
 refine wpOp_mono (fun b x q=>?_) (wpOp_frame hj (wpOp_putIf hj hap hsi hsj hQ h0 h))
 obtain ⟨⟨ds,u,rfl⟩,_,hK⟩:=q
 have h3:=(Oper.apart_spec hap).2.2
 have hd:YieldsCall P ops S oi v { a with defers:=ds }:=hy.of_same rfl rfl
 exact ⟨hd.of_same (execOp_put oi hsi _ oj.dst u h3) (wanted_put oi _ oj.dst u h3),hK⟩

theorem wpTill_firstCall {P:Program} {ops:Array Oper} {Q:Exit→Act→World→Prop} {md:Region.Mode} {S:World→Prop} {i h:Nat} {oi:Oper} {v:Value} {ch:List Nat} (hi:ops[i]?=some oi) (hsel:∀(j:Nat) (o:Oper) cs b,ops[j]?=some o→o.op≠.select cs b)
    (hQ:∀c a w,Q (.panic c) (a.put oi.dst v) w→Q (.panic c) a w) (hh:h∈ch)
    (hch:∀c∈ch,∀o,ops[c]?=some o→∃e∈o.after,Region.binds md e=true∧(e.on=i∨e.on∈ch)) :
    ∀(n:Nat) (up:Array Bool) (a:Act) (w:World),
      (∀j oj,ops[j]?=some oj→j≠i→up.getD j true=false→(∀e∈oj.after,Region.binds md e=true→e.on≠i)→oi.apart ops oj=true) →
      i∈Region.ready md ops up→(∀c∈ch,up.getD c true=false)→YieldsCall P ops S oi v a→S w →
      wpTill P md ops Q S h n (up.setIfInBounds i true) (a.put oi.dst v) w→wpTill P md ops Q S h (n+1) up a w:=by
  have key:∀(up:Array Bool) (j:Nat),i∈Region.ready md ops up→(∀c∈ch,up.getD c true=false)→j∈Region.ready md ops up→j ∉ ch:=by
    intro up j hr hc hj hm
    obtain ⟨_,oj,hoj,hall⟩:=mem_ready.1 hj
    obtain ⟨e,he,hb,hon⟩:=hch j hm oj hoj
    have h1:=hall e he hb
    have h0:up.getD e.on true=false:=by
      rcases hon with hon | hon
      · rw [hon];exact (mem_ready.1 hr).1
      · exact hc _ hon
    rcases Nat.lt_or_ge e.on up.size with h' | h'
    · simp [h'] at h0 h1;rw [h0] at h1;cases h1
    · simp [Array.getElem?_eq_none h'] at h1
  intro n
  induction n with
  | zero =>
    intro up a w _ hr hc hy hS H
    refine ⟨fun g=>(by rw [g] at hr;cases hr),fun j hj=>?_⟩
    by_cases hji:j=i
    · subst hji;exact hy.wpOp hi hS ⟨fun _=>hS,H⟩
    · have:=ready_mono hj hji
      rw [H.1] at this
      cases this
  | succ n ih =>
    intro up a w hfree hr hc hy hS H
    refine ⟨fun g=>(by rw [g] at hr;cases hr),fun j hj=>?_⟩
    by_cases hji:j=i
    · subst hji;exact hy.wpOp hi hS ⟨fun _=>hS,H⟩
    · have h1:=H.2 j (ready_mono hj hji)
      have hjc:=key up j hr hc hj
      have hic:=key up i hr hc hr
      obtain ⟨hjun,oj,hoj,hall⟩:=mem_ready.1 hj
      have hnot:∀e∈oj.after,Region.binds md e=true→e.on≠i:=fun e he hb heq=>by
        have h1:=hall e he hb
        have h0:=(mem_ready.1 hr).1
        rw [heq] at h1
        rcases Nat.lt_or_ge i up.size with h' | h'
        · simp [h'] at h0 h1;rw [h0] at h1;cases h1
        · simp [Array.getElem?_eq_none h'] at h1
      have h2:=wpOp_putCall hoj (hfree j oj hoj hji hjun hnot) (fun cs b=>hsel i oi cs b hi) (fun cs b=>hsel j oj cs b hoj) hQ hy h1
      have hc':∀c∈ch,(up.setIfInBounds j true).getD c true=false:=fun c hm=>by
        rw [getD_set_ne true (show j≠c from fun e=>hjc (e ▸ hm))]
        exact hc c hm
      have hfree' : ∀ k ok, ops[k]? = some ok → k ≠ i → (up.setIfInBounds j true).getD k true = false →
          (∀e∈ok.after,Region.binds md e=true→e.on≠i)→oi.apart ops ok=true:=fun k ok hk hki hun hno=>by
        refine hfree k ok hk hki ?_ hno
        by_cases hjk:j=k
        · subst hjk;exact hjun
        · rw [getD_set_ne true hjk] at hun;exact hun
      refine wpOp_mono (fun b x h3=>?_) h2
      have hS':S x:=h3.2.1 (by
        rw [getD_set_ne true (show j≠h from fun e=>hjc (e ▸ hh)),getD_set_ne true (show i≠h from fun e=>hic (e ▸ hh))]
        exact hc h hh)
      refine ⟨fun _=>hS',ih (up.setIfInBounds j true) b x hfree' (ready_mono hr (Ne.symm hji)) hc' h3.1 hS' ?_⟩
      rw [Array.setIfInBounds_comm _ _ hji]
      exact h3.2.2

theorem wpTill_call {P:Program} {ops:Array Oper} {Q:Exit→Act→World→Prop} {md:Region.Mode} {S:World→Prop} {i h:Nat} {oi:Oper} {v:Value} {n:Nat} {up:Array Bool} {a:Act} {w:World} (ch:List Nat) (hi:ops[i]?=some oi)
  (hs:Region.noSelect ops=true) (hf:Region.free md ops up i=true) (hr:(Region.ready md ops up).contains i=true) (hw:Region.waits md ops up i h ch=true)
  (hQ:∀c a w,Q (.panic c) (a.put oi.dst v) w→Q (.panic c) a w) (hS:S w) (hy:YieldsCall P ops S oi v a)
  (H:wpTill P md ops Q S h n (up.setIfInBounds i true) (a.put oi.dst v) w):wpTill P md ops Q S h (n+1) up a w:=by
 obtain ⟨hh,hc,hch⟩:=Region.waits_spec hw
 exact wpTill_firstCall hi (Region.noSelect_spec hs) hQ hh hch n up a w (Region.free_spec hi hf) (by simpa using hr) hc hy hS H


open Go.RowKit

def trim (x:World) (k:Nat):World:={ x with heap:=x.heap.extract 0 k }

theorem trim_at (x:World) {k b:Nat} (hb:b<k):(trim x k).heap[b]?=x.heap[b]?:=by
 show (x.heap.extract 0 k)[b]?=x.heap[b]?
 rw [Array.getElem?_extract]
 split
 ·rw [Nat.zero_add]
 ·rename_i h
  rw [Array.getElem?_eq_none (by omega)]

theorem trim_size (x:World) {k:Nat} (hk:k≤x.heap.size):(trim x k).heap.size=k:=by
 show (x.heap.extract 0 k).size=k
 rw [Array.size_extract]
 omega

theorem trim_grown (x:World) {k:Nat} (hk:k≤x.heap.size):(trim x k).grownBy x none :=
 ⟨rfl,rfl,rfl,by rw [trim_size x hk];exact hk,fun b hb _=>(trim_at x (by rw [trim_size x hk] at hb;exact hb)).symm⟩

theorem grown_trim {v x:World} {k:Nat} (h:v.grownBy x none) (h1:v.heap.size≤k) (hk:k≤x.heap.size):v.grownBy (trim x k) none:=by
 obtain ⟨a,b,c,d,e⟩:=h
 exact ⟨a,b,c,by rw [trim_size x hk];exact h1,fun i hi hn=>(trim_at x (by omega)).trans (e i hi hn)⟩

theorem Lie.trim {x:World} {g k:Nat} {T:TypeId} {m:Nat} {F:Nat→Value} (h:Lie x g T m F) (hg:g<k):Lie (trim x k) g T m F:=by
 obtain ⟨M,G,⟨cur,hc,h1,h2⟩,h3,h4⟩:=h
 exact ⟨M,G,⟨cur,(trim_at x hg).trans hc,h1,h2⟩,h3,h4⟩


open Go.RowKit

set_option maxRecDepth 8000 in
set_option maxHeartbeats 6400000 in
theorem refAil8_any (s g c:Nat→Int) (E I:Nat→Nat→Int) (gC gE gI cC cE cI:Nat) (w:World) (hL:Gd.Lists w gC gE gI c E I) (hF:Ft.Fit c E I) :
  Calls Tryz.prog 48 #[.agg (Gd.world s gC gE gI cC cE cI g)] w (Gd.Worlds w s g c (Ft.ailE E I 32).1 (Ft.ailE E I 32).2):=by
 have hFm:=hide (fun m hm=>hF.ail m hm)
 clear hF
 obtain ⟨w0,hw0,hbox,hres,hg0,hsz⟩:=Gd.boxes w gC gE gI cC cE cI s g
 have ca':=hide (refTwin_any s g c E I gC gE gI cC cE cI w0 (hL.on hg0))
 obtain ⟨b0,b1,b2,b3,b4,b5,b6,b7,b8,b9,b10⟩:=hbox.eleven
 have hbx:=hide hbox
 have hrs:=hide hres
 have hg0':=hide hg0
 have hsz':=hide hsz
 have hfB:=hbox.free
 clear hL hbox hres hg0 hsz
 unfold Gd.world at hw0 ca' ⊢
 go_enter Tryz.func48,Tryz.ntmps48
 go_upto_region 1 with fail
 rw [←hw0]
 clear hw0
 obtain ⟨B,hB⟩:∃B,w.heap.size=B:=⟨_,rfl⟩
 rw [hB] at hbx hrs hsz' b0 b1 b2 b3 b4 b5 b6 b7 b8 b9 b10 ⊢
 have hB':=hide hB
 rw [hB] at hfB
 clear hB
 go_cut [] from 4 (fun wx=>∃g1 g2 g3 c1 c2 c3,Hid (Gd.Boxed w wx B g1 g2 g3 c1 c2 c3 s g c E I))
 case first =>
  go_wp2_with fail
  refine (uh ca').mono ?_
  rintro e w1 ⟨g1,g2,g3,c1,c2,c3,rfl,hcap,l1,l2,l3,n1,n2,n3,hL1,hg1⟩
  obtain ⟨y0,y1,y2,y3,y4,y5,y6,y7,y8,y9,y10⟩:=((uh hbx).on hg1).eleven
  have fB:=((uh hbx).on hg1).free
  have fin:Hid (Gd.Boxed w (w1.setCells B 0 (Gd.world s g1 g2 g3 c1 c2 c3 g).toList) B g1 g2 g3 c1 c2 c3 s g c E I):=by
   have r:=gss (g:=B) (Gd.world s g1 g2 g3 c1 c2 c3 g).toList 0 w1 (World.grownBy.refl _ _)
   have hB:=uh hB'
   have hs:=uh hsz'
   exact ⟨⟨((uh hbx).on hg1).whole s g g1 g2 g3 c1 c2 c3,⟨hL1.cells.grown r (by simp;omega),hL1.ents.grown r (by simp;omega),hL1.items.grown r (by simp;omega)⟩,by omega,by omega,by omega,n1,n2,n3⟩,hB,by omega,by omega,by omega,hcap,((uh hrs).on hg1).grown r (by simp),own_sets (by omega) _ 0 w1 (gtr (uh hg0') hg1)⟩
  unfold Gd.world at fin ⊢
  clear hcap l1 l2 l3 n1 n2 n3 hL1 hg1 b0 b1 b2 b3 b4 b5 b6 b7 b8 b9 b10 hfB ca'
  go_wp2_with fail
  go_meet
  exact ⟨g1,g2,g3,c1,c2,c3,fin⟩
 case rest =>
  obtain ⟨g1,g2,g3,c1,c2,c3,hX⟩:=hcut
  clear b0 b1 b2 b3 b4 b5 b6 b7 b8 b9 b10 hfB ca' hbx hrs hg0' hsz' hB'
  clear w0
  have b5:=(uh hX).hold.box.eleven.2.2.2.2.2.1
  go_wp2_with fail
  go_loopw [3] (fun vk wr=>∃(k h1 h2 h3 d1 d2 d3:Nat),k≤32∧vk=.int .i64 (k:Int)∧Hid (Gd.Boxed w wr B h1 h2 h3 d1 d2 d3 s g c (Ft.ailE E I k).1 (Ft.ailE E I k).2)) (fun vk _=>40 - (intOf vk).toNat)
  case atStart=>exact ⟨0,g1,g2,g3,c1,c2,c3,by omega,rfl,hX⟩
  case round =>
   clear hX b5
   obtain ⟨k,h1,h2,h3,d1,d2,d3,hk,rfl,hX⟩:=hrel
   by_cases hlt:k<32
   ·have hlt':(k:Int)<32:=by omega
    have HK:=hide hlt
    obtain ⟨b0,b1,b2,b3,b4,b5,b6,b7,b8,b9,b10⟩:=(uh hX).hold.box.eleven
    have hFk:=hide (uh hFm k hk)
    have hnx:Hid (Ft.ailE E I (k+1)=if (Ft.ailE E I k).1 k 0≠0 then (Ft.oneE (Ft.ailE E I k).1 k,Ft.oneI (Ft.ailE E I k).1 (Ft.ailE E I k).2 k) else Ft.ailE E I k):=rfl
    obtain ⟨P,hP⟩:∃P,Ft.ailE E I k=P:=⟨_,rfl⟩
    obtain ⟨E2,I2⟩:=P
    rw [hP] at hX hFk hnx
    have ct:=refThere8_any s g c E2 I2 h1 h2 h3 d1 d2 d3 (k:Int) wr (uh hX).hold.lists
    rw [Ft.there_at hlt] at ct
    unfold Gd.world at ct
    by_cases hz:E2 k 0=0
    ·rw [decide_eq_false (by simpa using hz)] at ct
     rw [if_neg (by simpa using hz)] at hnx
     have ct':=hide ct
     clear ct hz hP hlt hk
     go_wp2_with fail
     refine (uh ct').mono ?_
     rintro e wy ⟨rfl,hg⟩
     have hY:=hide ((uh hX).on hg)
     clear ct' b0 b1 b2 b3 b4 b5 b6 b7 b8 b9 b10 hg
     go_wp2
     go_roundw
     case rel=>exact ⟨k+1,h1,h2,h3,d1,d2,d3,by have:=uh HK;omega,by go_num,by rw [uh hnx];exact hY⟩
     case measure=>simp [intOf];have:=uh HK;omega
    ·rw [decide_eq_true hz] at ct
     rw [if_pos hz] at hnx
     have hFk2:Ft.Fit c E2 I2:=uh hFk
     have hT:=(hFk2.rows k hlt).taken hz
     have hs9:Ft.stunE E2 k k 9=E2 k 9:=Ft.stun_other E2 k 9 (by omega)
     have hs0:Ft.stunE E2 k k 0≠0:=by rw [Ft.stun_other E2 k 0 (by omega)];exact hz
     have hFs:=hide (hFk2.stun hlt hz)
     have hFp:Hid (0<E2 k 9→Ft.Fit c (Ft.poisE (Ft.stunE E2 k) k) I2):=fun hp=>(uh hFs).stat hlt hs0 (.inl rfl) (by rw [hs9];omega) (by rw [hs9];omega)
     have hp0:Hid (Ft.poisE (Ft.stunE E2 k) k k 0≠0):=by
      show Ft.poisE (Ft.stunE E2 k) k k 0≠0
      unfold Ft.poisE
      rw [Gd.set_other (by omega)]
      exact hs0
     have hth:Hid (Ft.there (Ft.poisE (Ft.stunE E2 k) k) (k:Int)=true∧(1:Int)≤1):=⟨(Ft.there_at hlt).trans (by simpa using uh hp0),by omega⟩
     have hhE:Hid (Ft.hE (Ft.poisE (Ft.stunE E2 k) k) (k:Int) 1=Ft.hurtE (Ft.poisE (Ft.stunE E2 k) k) k 1):=by
      show _=_
      unfold Ft.hE
      rw [if_pos (uh hth),Int.toNat_natCast]
     have hhI:Hid (Ft.hI (Ft.poisE (Ft.stunE E2 k) k) I2 (k:Int) 1=Ft.hurtI (Ft.poisE (Ft.stunE E2 k) k) I2 k 1):=by
      show _=_
      unfold Ft.hI
      rw [if_pos (uh hth),Int.toNat_natCast]
     have ct':=hide ct
     have t10:0≤E2 k 10:=by omega
     have t109:E2 k 10≤9:=by omega
     have t9:0≤E2 k 9:=by omega
     have t99:E2 k 9≤9:=by omega
     have HS9:=hide hs9
     clear ct hz hP hlt hk hT hFk hFk2 hs9 hs0 hp0 hth
     go_wp2_with fail
     refine (uh ct').mono ?_
     rintro e wy ⟨rfl,hg⟩
     have hY:=hide ((uh hX).on hg)
     clear ct' b0 b1 b2 b3 b4 b5 b6 b7 b8 b9 b10 hg hX
     have b5:=(uh hY).hold.box.eleven.2.2.2.2.2.1
     have u10:=((uh hY).hold.lists.own.ents.row (uh HK)).2.2.2.2.2.2.2.2.2.2
     have fE:=(uh hY).hold.lists.ents.free
     go_upto_if 23 with fail
     go_cut [] from 23 to 32 (fun wx=>Hid (Gd.Boxed w wx B h1 h2 h3 d1 d2 d3 s g c (Ft.stunE E2 k) I2))
     case first =>
      by_cases hp:0<E2 k 10
      ·have hst:Hid (Gd.Boxed w (wy.setCell ⟨h2,k*11+10,none⟩ (.int .i64 (E2 k 10 - 1))) B h1 h2 h3 d1 d2 d3 s g c (Ft.stunE E2 k) I2):=by
        show Gd.Boxed _ _ _ _ _ _ _ _ _ _ _ _ _ _
        unfold Ft.stunE
        rw [if_pos hp]
        exact (uh hY).stat k 10 (by omega) (E2 k 10 - 1)
       go_wp2_with fail
       go_meet
       exact hst
      ·have hst:Hid (Gd.Boxed w wy B h1 h2 h3 d1 d2 d3 s g c (Ft.stunE E2 k) I2):=by
        show Gd.Boxed _ _ _ _ _ _ _ _ _ _ _ _ _ _
        unfold Ft.stunE
        rw [if_neg hp]
        exact uh hY
       go_wp2_with fail
       go_meet
       exact hst
     case rest =>
      clear hY b5 u10 fE
      have hY:=hide (uh hcut)
      clear hcut
      have b5:=(uh hY).hold.box.eleven.2.2.2.2.2.1
      have u9:=((uh hY).hold.lists.own.ents.row (uh HK)).2.2.2.2.2.2.2.2.2.1
      rw [uh HS9] at u9
      have fE:=(uh hY).hold.lists.ents.free
      by_cases hp:0<E2 k 9
      ·have hn2:Hid (Ft.ailE E I (k+1)=(Ft.hurtE (Ft.poisE (Ft.stunE E2 k) k) k 1,Ft.hurtI (Ft.poisE (Ft.stunE E2 k) k) I2 k 1)):=by
        show _=_
        rw [uh hnx]
        unfold Ft.oneE Ft.oneI
        rw [if_pos hp,if_pos hp]
       have hst:Hid (Gd.Boxed w (wc.setCell ⟨h2,k*11+9,none⟩ (.int .i64 (E2 k 9 - 1))) B h1 h2 h3 d1 d2 d3 s g c (Ft.poisE (Ft.stunE E2 k) k) I2):=by
        have h:=(uh hY).stat k 9 (by omega) (E2 k 9 - 1)
        show Gd.Boxed _ _ _ _ _ _ _ _ _ _ _ _ _ _
        unfold Ft.poisE
        rw [uh HS9]
        exact h
       have hFq:=hide (uh hFp hp)
       clear hnx hFp
       go_upto_region 10 with fail
       generalize wc.setCell ⟨h2,k*11+9,none⟩ (.int .i64 (E2 k 9 - 1))=wz at hst ⊢
       clear hY b5 u9 fE
       have ch:=hide (refHurt8_any s g c (Ft.poisE (Ft.stunE E2 k) k) I2 h1 h2 h3 d1 d2 d3 (k:Int) 1 wz (uh hst).hold.lists (uh hFq))
       rw [uh hhE,uh hhI] at ch
       obtain ⟨b0,b1,b2,b3,b4,b5,b6,b7,b8,b9,b10⟩:=(uh hst).hold.box.eleven
       unfold Gd.world at ch
       go_wp2_with fail
       refine (uh ch).mono ?_
       rintro e w6 ⟨jC,jE,jI,dC,dE,dI,rfl,hcap,l1,l2,l3,n1,n2,n3,hL,hg⟩
       obtain ⟨y0,y1,y2,y3,y4,y5,y6,y7,y8,y9,y10⟩:=((uh hst).on hg).hold.box.eleven
       have fB:=((uh hst).on hg).hold.box.free
       have hZ:Hid (Gd.Boxed w (((((((((((w6.setCell ⟨B,0,none⟩ (.int .i64 (s 0))).setCell ⟨B,1,none⟩ (.int .i64 (s 1))).setCell ⟨B,2,none⟩ (.int .i64 (s 2))).setCell ⟨B,3,none⟩ (.int .i64 (s 3))).setCell ⟨B,4,none⟩ (.slice (some ⟨jC,0,none⟩) 384 dC)).setCell ⟨B,5,none⟩ (.slice (some ⟨jE,0,none⟩) 32 dE)).setCell ⟨B,6,none⟩ (.slice (some ⟨jI,0,none⟩) 40 dI)).setCell ⟨B,7,none⟩ (.int .i64 (g 0))).setCell ⟨B,8,none⟩ (.int .i64 (g 1))).setCell ⟨B,9,none⟩ (.int .i64 (g 2))).setCell ⟨B,10,none⟩ (.int .i64 (g 3))) B jC jE jI dC dE dI s g c (Ft.ailE E I (k+1)).1 (Ft.ailE E I (k+1)).2):=by
        show Gd.Boxed _ _ _ _ _ _ _ _ _ _ _ _ _ _
        rw [uh hn2]
        exact (uh hst).over (s':=s) (g':=g) (dC:=dC) (dI:=dI) hcap l1 l2 l3 n1 n2 n3 hL hg
       clear hcap l1 l2 l3 n1 n2 n3 hL hg ch b0 b1 b2 b3 b4 b5 b6 b7 b8 b9 b10 hst hn2
       unfold Gd.world
       go_wp2
       go_roundw
       case rel=>exact ⟨k+1,jC,jE,jI,dC,dE,dI,by have:=uh HK;omega,by go_num,hZ⟩
       case measure=>simp [intOf];have:=uh HK;omega
      ·have hn2:Hid (Ft.ailE E I (k+1)=(Ft.stunE E2 k,I2)):=by
        show _=_
        rw [uh hnx]
        unfold Ft.oneE Ft.oneI
        rw [if_neg hp,if_neg hp]
       clear hnx
       go_wp2
       go_roundw
       case rel=>exact ⟨k+1,h1,h2,h3,d1,d2,d3,by have:=uh HK;omega,by go_num,by rw [uh hn2];exact hY⟩
       case measure=>simp [intOf];have:=uh HK;omega
   ·obtain rfl:k=32:=by omega
    have hge:¬((32:Nat):Int)<32:=by omega
    clear hlt hk hFm
    obtain ⟨b0,b1,b2,b3,b4,b5,b6,b7,b8,b9,b10⟩:=(uh hX).hold.box.eleven
    have fz:=(uh hX).res.free
    obtain ⟨z0,z1,z2,z3,z4,z5,z6,z7,z8,z9,z10⟩:=Gd.res_cells (uh hX).res
    have hfin:=hide (fun vs=>(uh hX).worlds vs)
    go_wp2
    refine bodyPost_ret (v:=.agg (Gd.world s h1 h2 h3 d1 d2 d3 g)) (by simp [results,Tryz.results48,go_sem,Gd.world,z0,z1,z2,z3,z4,z5,z6,z7,z8,z9,z10]) rfl ?_
    exact uh hfin [_,_,_,_,_,_,_,_,_,_,_]

end Go.Proofs.YtldgbkjceildfaaGreat
