import Derived.Test.YtepppmepilffcaaGreatPw28
import Derived.Test.YtepppmepilffcaaGreatPw24
namespace Go.Proofs.YtepppmepilffcaaGreat
open Go.RowKit

theorem Sn.wanted {c a b:Prop} [Decidable c] (hc:c) (h:a):if c then a else b:=by
 rw [if_pos hc]
 exact h

set_option maxRecDepth 16000 in
set_option maxHeartbeats 12800000 in
theorem refEncode_any (s g c:Nat→Int) (E I:Nat→Nat→Int) (gC gE gI cC cE cI:Nat) (w:World) (hL:Gd.Lists w gC gE gI c E I) (hck:∀x,Gd.Lists x gC gE gI c E I→Calls Tryz.prog 11 #[.agg (Gd.world s gC gE gI cC cE cI g)] x (Sn.Told x s g c E I)) :
  Calls Tryz.prog 9 #[.agg (Gd.world s gC gE gI cC cE cI g)] w (Sn.Encodes w s g c E I):=by
 obtain ⟨wz,hwz⟩:∃wz,wz=w.alloc (.cells (Gd.world s gC gE gI cC cE cI g) 31):=⟨_,rfl⟩
 have hg0:w.grownBy wz none:=by rw [hwz];exact World.grownBy_alloc _ _ _
 have hO:Hid (Sn.Shown w wz w.heap.size gC gE gI cC cE cI s g c E I):=by
  refine ⟨?_,hL.on hg0,hg0⟩
  rw [hwz]
  exact (Arr.world (heap_alloc_new w _)).lie
 obtain ⟨i0,hi,hz0,hz1,hz2⟩:=info_parts info_byte
 have lE:=hide (And.intro hL.cells.lt (And.intro hL.ents.lt hL.items.lt))
 have cc:=hide hck
 have sz:Hid (wz.heap.size=w.heap.size+1):=by
  show wz.heap.size=_
  rw [hwz]
  simp
 clear hL hg0 hck
 unfold Gd.world at hwz cc ⊢
 go_enter Tryz.func9,Tryz.ntmps9
 go_upto_region 1 with fail
 rw [←hwz]
 clear hwz
 obtain ⟨B,hBe⟩:∃B,w.heap.size=B:=⟨_,rfl⟩
 have HBe:=hide hBe
 rw [hBe] at hO ⊢
 clear hBe
 obtain ⟨b0,b1,b2,b3,b4,b5,b6,b7,b8,b9,b10⟩:=(uh hO).box.eleven
 go_wp2_with fail
 refine (uh cc _ (uh hO).lists).mono ?_
 rintro e w0 ⟨r,rfl,hr,hg⟩
 have hO1:=hide ((uh hO).on hg)
 have HR:=hide hr
 have HS:Hid (w.heap.size+1≤w0.heap.size):=(show w.heap.size+1≤w0.heap.size by have:=hg.size;have:=uh sz;omega)
 clear hg hO cc b0 b1 b2 b3 b4 b5 b6 b7 b8 b9 b10 hr sz
 by_cases h0:r=0
 case neg =>
  have h0':(r != 0)=true:=by simp [h0]
  have hfin:Hid (Sn.Encodes w s g c E I (.returned (.tuple #[.slice none 0 0,.int .i64 r])) w0):=⟨_,r,rfl,uh HR,fun _=>rfl,fun h=>absurd h h0,(uh hO1).grown⟩
  clear h0
  go_wp2
  go_ret2
  exact uh hfin
 have h0':(r != 0)=false:=by simp [h0]
 have HC:Hid (Sn.Chk s g c E I 0):=by
  have e:=uh HR
  rw [h0] at e
  exact e
 clear h0 HR
 obtain ⟨base,hbase⟩:∃base,w0.heap.size=base:=⟨_,rfl⟩
 have HB0:Hid (base≤w0.heap.size):=(show base≤w0.heap.size by omega)
 have HB:Hid (w.heap.size+1≤base):=(show w.heap.size+1≤base by have:=uh HS;omega)
 have hlists:Hid (∀x,Below base w0 x→Lie x B 31 11 (Gd.box s gC gE gI cC cE cI g)∧Gd.Lists x gC gE gI c E I):=fun x hx=>by
  have:=uh HB
  have:=uh HBe
  obtain ⟨l1,l2,l3⟩:=uh lE
  exact ⟨(uh hO1).box.below hx (by omega),(uh hO1).lists.below hx (by omega) (by omega) (by omega)⟩
 have cN:=hide (fun (n:Nat) (x:Int) (v:Value) (l:List Int) (y:World) (hn:n≤8) (h:Sn.Bytes y base v l) (hb:base≤y.heap.size) (hl:l.length≤1000)=>refNum_any n base x v l y hn h hb hl)
 have hW1:Hid (Sn.Wr w0 w0.drew base (.slice none 0 0) []):=⟨World.ownsRow_nil _ _ _ _,below_drewN (Below.refl _ _) 1⟩
 clear HS hbase
 have hG0:=hide (uh hO1).grown
 go_upto_region 4 with fail
 have hk4:Hid (∀x,Below base w0 x→x.cell? ⟨B,0,none⟩=some (.int .i64 (s 0))∧x.cell? ⟨B,1,none⟩=some (.int .i64 (s 1))):=fun x hx=>⟨(uh hlists x hx).1.eleven.1,(uh hlists x hx).1.eleven.2.1⟩
 go_cut [5] from 15 to 23 (fun v3 wx=>Hid (Sn.Wr w0 wx base v3 (Sn.num 8 (s 0 % 18446744073709551616) ++ Sn.num 4 (s 1 % 18446744073709551616))))
 case first =>
  refine wp_region_till (h:=8) (S:=fun x=>x.cell? ⟨B,0,none⟩=some (.int .i64 (s 0))∧x.cell? ⟨B,1,none⟩=some (.int .i64 (s 1))) (by kernel_rfl) ?_
  have hS0:=uh hk4 _ (uh hW1).bel
  refine wtk (i:=0) (v:=?_) [8] rfl (by kernel_rfl) (by kernel_rfl) (by kernel_rfl) (by kernel_rfl) (fun _ _ _ h=>h) hS0 (Or.inl ⟨by rfl,?_⟩) ?_
  rotate_left
  ·intro x hSx
   try dsimp only at hSx
   go_simp
   try with_reducible rfl
  simp only [Act.put]
  refine wtk (i:=1) (v:=?_) [8] rfl (by kernel_rfl) (by kernel_rfl) (by kernel_rfl) (by kernel_rfl) (fun _ _ _ h=>h) hS0 (Or.inl ⟨by rfl,?_⟩) ?_
  rotate_left
  ·intro x hSx
   try dsimp only at hSx
   go_simp
   try with_reducible rfl
  simp only [Act.put]
  refine wtk (i:=2) (v:=?_) [8] rfl (by kernel_rfl) (by kernel_rfl) (by kernel_rfl) (by kernel_rfl) (fun _ _ _ h=>h) hS0 (Or.inl ⟨by rfl,?_⟩) ?_
  rotate_left
  ·intro x hSx
   try dsimp only at hSx
   go_simp
   try with_reducible rfl
  simp only [Act.put]
  refine wtk (i:=4) (v:=?_) [8] rfl (by kernel_rfl) (by kernel_rfl) (by kernel_rfl) (by kernel_rfl) (fun _ _ _ h=>h) hS0 (Or.inl ⟨by rfl,?_⟩) ?_
  rotate_left
  ·intro x hSx
   try dsimp only at hSx
   go_simp
   try with_reducible rfl
  simp only [Act.put]
  refine wtk (i:=5) (v:=?_) [8] rfl (by kernel_rfl) (by kernel_rfl) (by kernel_rfl) (by kernel_rfl) (fun _ _ _ h=>h) hS0 (Or.inl ⟨by rfl,?_⟩) ?_
  rotate_left
  ·intro x hSx
   try dsimp only at hSx
   go_simp
   try with_reducible rfl
  simp only [Act.put]
  refine wtk (i:=6) (v:=?_) [8] rfl (by kernel_rfl) (by kernel_rfl) (by kernel_rfl) (by kernel_rfl) (fun _ _ _ h=>h) hS0 (Or.inl ⟨by rfl,?_⟩) ?_
  rotate_left
  ·intro x hSx
   try dsimp only at hSx
   go_simp
   try with_reducible rfl
  simp only [Act.put]
  refine wto (j:=3) (by kernel_rfl) rfl (fun K hK=>?_)
  go_simp
  refine (uh cN 8 _ _ [] _ (by omega) (uh hW1).own ((uh hW1).top (uh HB0)) (by simp)).mono ?_
  rintro e w2 ⟨v2,rfl,hown,hbel⟩
  have hW2:=hide ((uh hW1).adds hown hbel)
  rw [List.nil_append,Sn.wrap64] at hW2
  have hS2:=uh hk4 _ (uh hW2).bel
  clear hown hbel hW1
  try go_simp
  refine hK.out _ _ (fun _=>hS2) ?_
  clear hK K
  refine wto (j:=7) (by kernel_rfl) rfl (fun K hK=>?_)
  go_simp
  refine (uh cN 4 _ _ _ _ (by omega) (uh hW2).own ((uh hW2).top (uh HB0)) (by rw [Sn.num_len];omega)).mono ?_
  rintro e w3 ⟨v3,rfl,hown,hbel⟩
  have hW3:=hide ((uh hW2).adds hown hbel)
  rw [Sn.wrap64] at hW3
  have hS3:=uh hk4 _ (uh hW3).bel
  clear hown hbel hW2
  try go_simp
  refine hK.out _ _ (fun _=>hS3) ?_
  clear hK K
  refine wto (j:=8) (by kernel_rfl) rfl (fun K hK=>?_)
  go_simp
  refine hK.out _ _ (fun hx=>absurd (hx.symm.trans (by kernel_rfl)) Bool.false_ne_true) ?_
  clear hK K
  refine wpTill_done (by kernel_rfl) ?_ _
  go_wp2_with fail
  go_meet
  exact hW3
 case rest =>
 have hW3:Hid (Sn.Wr w0 wc base u5 (Sn.num 8 (s 0 % 18446744073709551616) ++ Sn.num 4 (s 1 % 18446744073709551616))):=hcut
 clear hcut hW1 hk4
 obtain ⟨b0,b1,b2,b3,b4,b5,b6,b7,b8,b9,b10⟩:=(uh hlists wc (uh hW3).bel).1.eleven
 have t2:IntKind.u8.wrap (s 2)=s 2 % 256:=Sn.wrap8 _
 have t3:IntKind.u8.wrap (s 3)=s 3 % 256:=Sn.wrap8 _
 go_upto_region 5 with fail
 go_wp2_with (at_builtin;refine wpList_append_own _ rfl _ _ 26 rfl base 5 i0 (.int .u8 0) 1 1 Tryz.underlying26 hi hz0 hz1 hz2 rfl (by decide) _ _ _ rfl ((uh hW3).own.alloc _) ⟨wc.heap.size,0,none⟩ 2 2 [.int .u8 (s 2 % 256),.int .u8 (s 3 % 256)] rfl rfl (Sn.news wc #[.int .u8 (s 2 % 256),.int .u8 (s 3 % 256)] _ _ rfl) ?_ ?_ ?_ ?_ ?_)
 ·intro u hu
  simp only [List.mem_cons,List.not_mem_nil,or_false] at hu
  rcases hu with rfl | rfl <;> rfl
 ·simp [Sn.num_len];unfold maxLen;omega
 ·simp [Sn.num_len]
 ·have:=(uh hW3).top (uh HB0);simp;omega
 intro v4 w4 hown hgrow _
 have hW4:Hid (Sn.Wr w0 w4 base v4 (Sn.head s)):=(uh hW3).more (m:=2) (ns:=[s 2 % 256,s 3 % 256]) (uh HB0) (World.grownBy_alloc _ _ _) (by simpa using hown) rfl hgrow
 clear hown hgrow hW3 b0 b1 b2 b3 b4 b5 b6 b7 b8 b9 b10 t2 t3
 go_wp2_with fail
 go_loopw [5,6] (fun v5 v6 wr=>∃k:Nat,k≤4∧v6=.int .i64 (k:Int)∧Hid (Sn.Wr w0 wr base v5 (Sn.head s ++ Sn.golds k g))) (fun _ v6 _=>10 - (intOf v6).toNat)
 case atStart=>exact ⟨0,by omega,rfl,by simpa [Sn.golds] using hW4⟩
 case round =>
  clear hW4
  obtain ⟨k,hk,rfl,hX⟩:=hrel
  have hlen:Hid ((Sn.head s ++ Sn.golds k g).length=14+k*2):=by show (Sn.head s ++ Sn.golds k g).length=_;rw [List.length_append,Sn.head_len,Sn.golds_len]
  by_cases hlt:k<4
  ·have hlt':(k:Int)<4:=by omega
   have HL:=hide hlt
   have bk:wr.cell? ⟨B,7+k,none⟩=some (.int .i64 (g k)):=by
    rw [(uh hlists wr (uh hX).bel).1.cell (c:=7+k) (by omega),Gd.box_gold _ _ _ _ _ _ _ _ k hlt]
   clear hlt hk
   go_wp2_with fail
   refine (uh cN 2 _ _ _ _ (by omega) (uh hX).own ((uh hX).top (uh HB0)) (by have:=uh hlen;have:=uh HL;omega)).mono ?_
   rintro e w5 ⟨v5,rfl,hown,hbel⟩
   have hX2:=hide ((uh hX).adds hown hbel)
   rw [Sn.wrap64,List.append_assoc,←Sn.golds_more] at hX2
   clear hown hbel hX bk hlen
   go_wp2
   go_roundw
   case rel=>exact ⟨k+1,by have:=uh HL;omega,by go_num,hX2⟩
   case measure=>simp [intOf];have:=uh HL;omega
  ·obtain rfl:k=4:=by omega
   have hge:¬((4:Nat):Int)<4:=by omega
   clear hlt hk
   have b4:=(uh hlists wr (uh hX).bel).1.eleven.2.2.2.2.1
   go_upto_region 10 with fail
   go_wp2_with (at_builtin;refine wpList_append_own _ rfl _ _ 26 rfl base 5 i0 (.int .u8 0) 1 1 Tryz.underlying26 hi hz0 hz1 hz2 rfl (by decide) _ _ _ rfl (uh hX).own ⟨gC,0,none⟩ 384 cC (((List.range 384).map c).map (Value.int .u8)) rfl (by simp) (Sn.cells_src (uh hlists wr (uh hX).bel).2.cells) ?_ ?_ ?_ ?_ ?_)
   ·intro u hu
    obtain ⟨x,_,rfl⟩:=List.mem_map.1 hu
    rfl
   ·have:=Sn.head_len s;have:=Sn.golds_len g 4;unfold maxLen;omega
   ·have:=Sn.head_len s;have:=Sn.golds_len g 4;omega
   ·exact (uh hX).top (uh HB0)
   intro v6 w6 hown hgrow _
   have hW6:Hid (Sn.Wr w0 w6 base v6 (Sn.head s ++ Sn.golds 4 g ++ (List.range 384).map c)):=(uh hX).more (m:=384) (uh HB0) (World.grownBy.refl _ _) hown (by simp) hgrow
   clear hown hgrow hX b4 hlen hge
   go_upto_region 11 with fail
   go_wp2_with fail
   go_loopw [5,7,8] (fun v5 v7 v8 wr=>∃k:Nat,k≤32∧v7=.int .i64 (k:Int)∧Hid (Sn.Wr w0 wr base v5 (Sn.head s ++ Sn.golds 4 g ++ (List.range 384).map c ++ Sn.rows k 11 E))) (fun _ v7 _ _=>40 - (intOf v7).toNat)
   case atStart=>exact ⟨0,by omega,rfl,by simpa [Sn.rows] using hW6⟩
   case round =>
    clear hW6
    obtain ⟨k,hk,rfl,hX⟩:=hrel
    have hlen:Hid ((Sn.head s ++ Sn.golds 4 g ++ (List.range 384).map c ++ Sn.rows k 11 E).length=406+k*11):=by show (Sn.head s ++ Sn.golds 4 g ++ (List.range 384).map c ++ Sn.rows k 11 E).length=_;rw [List.length_append,Sn.len22,Sn.rows_len]
    have b5:=(uh hlists wr (uh hX).bel).1.eleven.2.2.2.2.2.1
    by_cases hlt:k<32
    ·have hlt':(k:Int)<32:=by omega
     have HL:=hide hlt
     obtain ⟨r0,r1,r2,r3,r4,r5,r6,r7,r8,r9,r10⟩:=(uh hlists wr (uh hX).bel).2.own.ents.row hlt
     clear hlt hk
     obtain ⟨l,hl⟩:∃l,Sn.head s ++ Sn.golds 4 g ++ (List.range 384).map c ++ Sn.rows k 11 E=l:=⟨_,rfl⟩
     rw [hl] at hX hlen
     have hl':=hide hl
     clear hl
     go_upto_region 15 with fail
     obtain ⟨wd,hwd⟩:∃wd,wd=wr.alloc (.cells (En.cells (E k)) 61):=⟨_,rfl⟩
     have hgd:wr.grownBy wd none:=by rw [hwd];exact World.grownBy_alloc _ _ _
     have hD:Hid (Lie wd wr.heap.size 61 11 (Ints (E k))):=by show Lie wd _ _ _ _;rw [hwd];exact Sn.born wr (E k) 61
     have hXd:=hide ((uh hX).on (uh HB0) hgd)
     unfold En.cells at hwd
     rw [←hwd]
     clear hwd hgd hX b5 r0 r1 r2 r3 r4 r5 r6 r7 r8 r9 r10
     obtain ⟨D,hDe⟩:∃D,wr.heap.size=D:=⟨_,rfl⟩
     rw [hDe] at hD ⊢
     clear hDe wr
     obtain ⟨d0,d1,d2,d3,d4,d5,d6,d7,d8,d9,d10⟩:=Sn.row (uh hD)
     have tw:∀j,IntKind.u8.wrap (E k j)=E k j % 256:=fun j=>Sn.wrap8 _
     go_wp2_with (at_builtin;refine wpList_append_own _ rfl _ _ 26 rfl base 5 i0 (.int .u8 0) 1 1 Tryz.underlying26 hi hz0 hz1 hz2 rfl (by decide) _ _ _ rfl ((uh hXd).own.alloc _) ⟨wd.heap.size,0,none⟩ 11 11 (#[.int .u8 (E k 0 % 256),.int .u8 (E k 1 % 256),.int .u8 (E k 2 % 256),.int .u8 (E k 3 % 256),.int .u8 (E k 4 % 256),.int .u8 (E k 5 % 256),.int .u8 (E k 6 % 256),.int .u8 (E k 7 % 256),.int .u8 (E k 8 % 256),.int .u8 (E k 9 % 256),.int .u8 (E k 10 % 256)]:Array Value).toList rfl rfl (Sn.news wd _ _ _ rfl) ?_ ?_ ?_ ?_ ?_)
     ·exact ⟨rfl,rfl,rfl,rfl,rfl,rfl,rfl,rfl,rfl,rfl,rfl⟩
     ·have:=uh hlen;have:=uh HL;unfold maxLen;omega
     ·have:=uh hlen;have:=uh HL;omega
     ·have:=(uh hXd).top (uh HB0);simp;omega
     intro v8 w8 hown hgrow _
     have hX2:Hid (Sn.Wr w0 w8 base v8 (l ++ (List.range 11).map fun j=>E k j % 256)):=(uh hXd).more (m:=11) (uh HB0) (World.grownBy_alloc _ _ _) hown (by simp) hgrow
     rw [←uh hl',List.append_assoc,←Sn.rows_more] at hX2
     clear hown hgrow hXd hD d0 d1 d2 d3 d4 d5 d6 d7 d8 d9 d10 tw hlen
     go_wp2
     go_roundw
     case rel=>exact ⟨k+1,by have:=uh HL;omega,by go_num,hX2⟩
     case measure=>simp [intOf];have:=uh HL;omega
    ·obtain rfl:k=32:=by omega
     have hge:¬((32:Nat):Int)<32:=by omega
     clear hlt hk
     go_upto_region 16 with fail
     go_wp2_with fail
     go_loopw [5,9] (fun v5 v9 wr=>∃k:Nat,k≤40∧v9=.int .i64 (k:Int)∧Hid (Sn.Wr w0 wr base v5 (Sn.head s ++ Sn.golds 4 g ++ (List.range 384).map c ++ Sn.rows 32 11 E ++ Sn.rows k 4 I))) (fun _ v9 _=>50 - (intOf v9).toNat)
     case atStart=>exact ⟨0,by omega,rfl,by simpa [Sn.rows] using hX⟩
     case round =>
      clear hX b5 hge hlen
      obtain ⟨k,hk,rfl,hX⟩:=hrel
      have hlen:Hid ((Sn.head s ++ Sn.golds 4 g ++ (List.range 384).map c ++ Sn.rows 32 11 E ++ Sn.rows k 4 I).length=758+k*4):=by show (Sn.head s ++ Sn.golds 4 g ++ (List.range 384).map c ++ Sn.rows 32 11 E ++ Sn.rows k 4 I).length=_;rw [List.length_append,Sn.len406,Sn.rows_len]
      have b6:=(uh hlists wr (uh hX).bel).1.eleven.2.2.2.2.2.2.1
      by_cases hlt:k<40
      ·have hlt':(k:Int)<40:=by omega
       have HL:=hide hlt
       obtain ⟨l,hl⟩:∃l,Sn.head s ++ Sn.golds 4 g ++ (List.range 384).map c ++ Sn.rows 32 11 E ++ Sn.rows k 4 I=l:=⟨_,rfl⟩
       rw [hl] at hX hlen
       have hl':=hide hl
       clear hl
       have hks:Hid (∀x,Below base w0 x→x.cell? ⟨B,6,none⟩=some (.slice (some ⟨gI,0,none⟩) 40 cI)∧x.cell? ⟨gI,k*4,none⟩=some (.int .i64 (I k 0))∧x.cell? ⟨gI,k*4+1,none⟩=some (.int .i64 (I k 1))∧x.cell? ⟨gI,k*4+2,none⟩=some (.int .i64 (I k 2))∧x.cell? ⟨gI,k*4+3,none⟩=some (.int .i64 (I k 3))):=fun x hx=>⟨(uh hlists x hx).1.eleven.2.2.2.2.2.2.1,(uh hlists x hx).2.its.row (uh HL)⟩
       have tw:∀j,IntKind.u8.wrap (I k j)=I k j % 256:=fun j=>Sn.wrap8 _
       clear hlt hk
       have hXd':Hid (Sn.Wr w0 wr.drew base u5 l):=(uh hX).on (uh HB0) (gd1 (World.grownBy.refl _ none))
       go_upto_region 19 with fail
       clear b6
       have hsrc0:∀j u,(#[.int .u8 (I k 0 % 256),.int .u8 (I k 1 % 256),.int .u8 (I k 2 % 256),.int .u8 (I k 3 % 256)]:Array Value).toList[j]?=some u→(wr.drew.alloc (.cells #[.int .u8 (I k 0 % 256),.int .u8 (I k 1 % 256),.int .u8 (I k 2 % 256),.int .u8 (I k 3 % 256)] 5)).cell? ((⟨wr.heap.size,0,none⟩:Addr).add j)=some u:=Sn.news wr.drew _ _ _ (by simp)
       have hsrc:=hide hsrc0
       clear hsrc0
       have hSb:=uh hks (wr.drew.alloc (.cells #[.int .u8 (I k 0 % 256),.int .u8 (I k 1 % 256),.int .u8 (I k 2 % 256),.int .u8 (I k 3 % 256)] 5)) ((uh hXd').on (uh HB0) (World.grownBy_alloc _ _ _)).bel
       have hS0:=uh hks wr.drew (uh hXd').bel
       clear hX
       refine wp_region_till (h:=31) (S:=fun x=>x.cell? ⟨B,6,none⟩=some (.slice (some ⟨gI,0,none⟩) 40 cI)∧x.cell? ⟨gI,k*4,none⟩=some (.int .i64 (I k 0))∧x.cell? ⟨gI,k*4+1,none⟩=some (.int .i64 (I k 1))∧x.cell? ⟨gI,k*4+2,none⟩=some (.int .i64 (I k 2))∧x.cell? ⟨gI,k*4+3,none⟩=some (.int .i64 (I k 3))) (by kernel_rfl) ?_
       refine wtk (i:=0) (v:=?_) [31] rfl (by kernel_rfl) (by kernel_rfl) (by kernel_rfl) (by kernel_rfl) (fun _ _ _ h=>h) hS0 (Or.inl ⟨by rfl,?_⟩) ?_
       rotate_left
       ·intro x hSx
        try dsimp only at hSx
        go_simp
        try with_reducible rfl
       simp only [Act.put]
       refine wtk (i:=1) (v:=?_) [31] rfl (by kernel_rfl) (by kernel_rfl) (by kernel_rfl) (by kernel_rfl) (fun _ _ _ h=>h) hS0 (Or.inl ⟨by rfl,?_⟩) ?_
       rotate_left
       ·intro x hSx
        try dsimp only at hSx
        go_simp
        try with_reducible rfl
       simp only [Act.put]
       refine wtk (i:=2) (v:=?_) [31] rfl (by kernel_rfl) (by kernel_rfl) (by kernel_rfl) (by kernel_rfl) (fun _ _ _ h=>h) hS0 (Or.inl ⟨by rfl,?_⟩) ?_
       rotate_left
       ·intro x hSx
        try dsimp only at hSx
        go_simp
        try with_reducible rfl
       simp only [Act.put]
       refine wtk (i:=3) (v:=?_) [31] rfl (by kernel_rfl) (by kernel_rfl) (by kernel_rfl) (by kernel_rfl) (fun _ _ _ h=>h) hS0 (Or.inl ⟨by rfl,?_⟩) ?_
       rotate_left
       ·intro x hSx
        try dsimp only at hSx
        go_simp
        try with_reducible rfl
       simp only [Act.put]
       refine wtk (i:=4) (v:=?_) [31] rfl (by kernel_rfl) (by kernel_rfl) (by kernel_rfl) (by kernel_rfl) (fun _ _ _ h=>h) hS0 (Or.inl ⟨by rfl,?_⟩) ?_
       rotate_left
       ·intro x hSx
        try dsimp only at hSx
        go_simp
        try with_reducible rfl
       simp only [Act.put]
       refine wtk (i:=5) (v:=?_) [31] rfl (by kernel_rfl) (by kernel_rfl) (by kernel_rfl) (by kernel_rfl) (fun _ _ _ h=>h) hS0 (Or.inl ⟨by rfl,?_⟩) ?_
       rotate_left
       ·intro x hSx
        try dsimp only at hSx
        go_simp
        try with_reducible rfl
       simp only [Act.put]
       refine wtk (i:=6) (v:=?_) [31] rfl (by kernel_rfl) (by kernel_rfl) (by kernel_rfl) (by kernel_rfl) (fun _ _ _ h=>h) hS0 (Or.inl ⟨by rfl,?_⟩) ?_
       rotate_left
       ·intro x hSx
        try dsimp only at hSx
        go_simp
        try with_reducible rfl
       simp only [Act.put]
       refine wtk (i:=7) (v:=?_) [31] rfl (by kernel_rfl) (by kernel_rfl) (by kernel_rfl) (by kernel_rfl) (fun _ _ _ h=>h) hS0 (Or.inl ⟨by rfl,?_⟩) ?_
       rotate_left
       ·intro x hSx
        try dsimp only at hSx
        go_simp
        try with_reducible rfl
       simp only [Act.put]
       refine wtk (i:=8) (v:=?_) [31] rfl (by kernel_rfl) (by kernel_rfl) (by kernel_rfl) (by kernel_rfl) (fun _ _ _ h=>h) hS0 (Or.inl ⟨by rfl,?_⟩) ?_
       rotate_left
       ·intro x hSx
        try dsimp only at hSx
        go_simp
        try with_reducible rfl
       simp only [Act.put]
       refine wtk (i:=9) (v:=?_) [31] rfl (by kernel_rfl) (by kernel_rfl) (by kernel_rfl) (by kernel_rfl) (fun _ _ _ h=>h) hS0 (Or.inl ⟨by rfl,?_⟩) ?_
       rotate_left
       ·intro x hSx
        try dsimp only at hSx
        go_simp
        try with_reducible rfl
       simp only [Act.put]
       refine wtk (i:=10) (v:=?_) [31] rfl (by kernel_rfl) (by kernel_rfl) (by kernel_rfl) (by kernel_rfl) (fun _ _ _ h=>h) hS0 (Or.inl ⟨by rfl,?_⟩) ?_
       rotate_left
       ·intro x hSx
        try dsimp only at hSx
        go_simp
        try with_reducible rfl
       simp only [Act.put]
       refine wtk (i:=11) (v:=?_) [31] rfl (by kernel_rfl) (by kernel_rfl) (by kernel_rfl) (by kernel_rfl) (fun _ _ _ h=>h) hS0 (Or.inl ⟨by rfl,?_⟩) ?_
       rotate_left
       ·intro x hSx
        try dsimp only at hSx
        go_simp
        try with_reducible rfl
       simp only [Act.put]
       refine wtk (i:=12) (v:=?_) [31] rfl (by kernel_rfl) (by kernel_rfl) (by kernel_rfl) (by kernel_rfl) (fun _ _ _ h=>h) hS0 (Or.inl ⟨by rfl,?_⟩) ?_
       rotate_left
       ·intro x hSx
        try dsimp only at hSx
        go_simp
        try with_reducible rfl
       simp only [Act.put]
       refine wtk (i:=13) (v:=?_) [31] rfl (by kernel_rfl) (by kernel_rfl) (by kernel_rfl) (by kernel_rfl) (fun _ _ _ h=>h) hS0 (Or.inl ⟨by rfl,?_⟩) ?_
       rotate_left
       ·intro x hSx
        try dsimp only at hSx
        go_simp
        try with_reducible rfl
       simp only [Act.put]
       refine wtk (i:=14) (v:=?_) [31] rfl (by kernel_rfl) (by kernel_rfl) (by kernel_rfl) (by kernel_rfl) (fun _ _ _ h=>h) hS0 (Or.inl ⟨by rfl,?_⟩) ?_
       rotate_left
       ·intro x hSx
        try dsimp only at hSx
        go_simp
        try with_reducible rfl
       simp only [Act.put]
       refine wtk (i:=15) (v:=?_) [31] rfl (by kernel_rfl) (by kernel_rfl) (by kernel_rfl) (by kernel_rfl) (fun _ _ _ h=>h) hS0 (Or.inl ⟨by rfl,?_⟩) ?_
       rotate_left
       ·intro x hSx
        try dsimp only at hSx
        go_simp
        try with_reducible rfl
       simp only [Act.put]
       refine wtk (i:=16) (v:=?_) [31] rfl (by kernel_rfl) (by kernel_rfl) (by kernel_rfl) (by kernel_rfl) (fun _ _ _ h=>h) hS0 (Or.inl ⟨by rfl,?_⟩) ?_
       rotate_left
       ·intro x hSx
        try dsimp only at hSx
        go_simp
        try with_reducible rfl
       simp only [Act.put]
       refine wtk (i:=17) (v:=?_) [31] rfl (by kernel_rfl) (by kernel_rfl) (by kernel_rfl) (by kernel_rfl) (fun _ _ _ h=>h) hS0 (Or.inl ⟨by rfl,?_⟩) ?_
       rotate_left
       ·intro x hSx
        try dsimp only at hSx
        go_simp
        try with_reducible rfl
       simp only [Act.put]
       refine wtk (i:=18) (v:=?_) [31] rfl (by kernel_rfl) (by kernel_rfl) (by kernel_rfl) (by kernel_rfl) (fun _ _ _ h=>h) hS0 (Or.inl ⟨by rfl,?_⟩) ?_
       rotate_left
       ·intro x hSx
        try dsimp only at hSx
        go_simp
        try with_reducible rfl
       simp only [Act.put]
       refine wtk (i:=19) (v:=?_) [31] rfl (by kernel_rfl) (by kernel_rfl) (by kernel_rfl) (by kernel_rfl) (fun _ _ _ h=>h) hS0 (Or.inl ⟨by rfl,?_⟩) ?_
       rotate_left
       ·intro x hSx
        try dsimp only at hSx
        go_simp
        try with_reducible rfl
       simp only [Act.put]
       refine wtk (i:=20) (v:=?_) [31] rfl (by kernel_rfl) (by kernel_rfl) (by kernel_rfl) (by kernel_rfl) (fun _ _ _ h=>h) hS0 (Or.inl ⟨by rfl,?_⟩) ?_
       rotate_left
       ·intro x hSx
        try dsimp only at hSx
        go_simp
        try with_reducible rfl
       simp only [Act.put]
       refine wtk (i:=21) (v:=?_) [31] rfl (by kernel_rfl) (by kernel_rfl) (by kernel_rfl) (by kernel_rfl) (fun _ _ _ h=>h) hS0 (Or.inl ⟨by rfl,?_⟩) ?_
       rotate_left
       ·intro x hSx
        try dsimp only at hSx
        go_simp
        try with_reducible rfl
       simp only [Act.put]
       refine wtk (i:=22) (v:=?_) [31] rfl (by kernel_rfl) (by kernel_rfl) (by kernel_rfl) (by kernel_rfl) (fun _ _ _ h=>h) hS0 (Or.inl ⟨by rfl,?_⟩) ?_
       rotate_left
       ·intro x hSx
        try dsimp only at hSx
        go_simp
        try with_reducible rfl
       simp only [Act.put]
       refine wtk (i:=23) (v:=?_) [31] rfl (by kernel_rfl) (by kernel_rfl) (by kernel_rfl) (by kernel_rfl) (fun _ _ _ h=>h) hS0 (Or.inl ⟨by rfl,?_⟩) ?_
       rotate_left
       ·intro x hSx
        try dsimp only at hSx
        go_simp
        try with_reducible rfl
       simp only [Act.put]
       refine wtk (i:=24) (v:=?_) [31] rfl (by kernel_rfl) (by kernel_rfl) (by kernel_rfl) (by kernel_rfl) (fun _ _ _ h=>h) hS0 (Or.inl ⟨by rfl,?_⟩) ?_
       rotate_left
       ·intro x hSx
        try dsimp only at hSx
        go_simp
        try with_reducible rfl
       simp only [Act.put]
       refine wtk (i:=25) (v:=?_) [31] rfl (by kernel_rfl) (by kernel_rfl) (by kernel_rfl) (by kernel_rfl) (fun _ _ _ h=>h) hS0 (Or.inl ⟨by rfl,?_⟩) ?_
       rotate_left
       ·intro x hSx
        try dsimp only at hSx
        go_simp
        try with_reducible rfl
       simp only [Act.put]
       refine wtk (i:=26) (v:=?_) [31] rfl (by kernel_rfl) (by kernel_rfl) (by kernel_rfl) (by kernel_rfl) (fun _ _ _ h=>h) hS0 (Or.inl ⟨by rfl,?_⟩) ?_
       rotate_left
       ·intro x hSx
        try dsimp only at hSx
        go_simp
        try with_reducible rfl
       simp only [Act.put]
       refine wtk (i:=27) (v:=?_) [31] rfl (by kernel_rfl) (by kernel_rfl) (by kernel_rfl) (by kernel_rfl) (fun _ _ _ h=>h) hS0 (Or.inl ⟨by rfl,?_⟩) ?_
       rotate_left
       ·intro x hSx
        try dsimp only at hSx
        go_simp
        try with_reducible rfl
       simp only [Act.put]
       refine wtk (i:=28) (v:=?_) [31] rfl (by kernel_rfl) (by kernel_rfl) (by kernel_rfl) (by kernel_rfl) (fun _ _ _ h=>h) hS0 (Or.inl ⟨by rfl,?_⟩) ?_
       rotate_left
       ·intro x hSx
        try dsimp only at hSx
        go_simp
        try with_reducible rfl
       simp only [Act.put]
       refine wto (j:=29) (by kernel_rfl) rfl (fun K hK=>?_)
       go_simp
       try go_simp
       refine hK.out _ _ (fun _=>hSb) ?_
       clear hK K
       refine wto (j:=30) (by kernel_rfl) rfl (fun K hK=>?_)
       refine Sn.wanted (by rfl) ?_
       refine wp_append_own _ _ _ 26 rfl base 5 i0 (.int .u8 0) 1 1 Tryz.underlying26 hi hz0 hz1 hz2 rfl (by decide) u5 l.length (l.map (Value.int .u8)) rfl ((uh hXd').own.alloc _) ⟨wr.heap.size,0,none⟩ 4 4 (#[.int .u8 (I k 0 % 256),.int .u8 (I k 1 % 256),.int .u8 (I k 2 % 256),.int .u8 (I k 3 % 256)]:Array Value).toList rfl rfl (uh hsrc) (by simp [Value.oneCell']) (by have:=uh hlen;have:=uh HL;unfold maxLen;omega) (by have:=uh hlen;have:=uh HL;omega) (by have:=(uh hXd').top (uh HB0);simp at this ⊢;omega) ?_
       intro v8 w8 hown hgrow _
       have hX2:Hid (Sn.Wr w0 w8 base v8 (l ++ (List.range 4).map fun j=>I k j % 256)):=(uh hXd').more (m:=4) (uh HB0) (World.grownBy_alloc _ _ _) hown (by simp) hgrow
       rw [←uh hl',List.append_assoc,←Sn.rows_more] at hX2
       have hSc:=uh hks w8 (uh hX2).bel
       clear hown hgrow hsrc
       refine hK.out _ _ (fun _=>hSc) ?_
       clear hK K
       refine wto (j:=31) (by kernel_rfl) rfl (fun K hK=>?_)
       go_simp
       refine hK.out _ _ (fun hx=>absurd (hx.symm.trans (by kernel_rfl)) Bool.false_ne_true) ?_
       clear hK K
       refine wpTill_done (by kernel_rfl) ?_ _
       go_wp2
       go_roundw
       case rel=>exact ⟨k+1,by have:=uh HL;omega,by go_num,hX2⟩
       case measure=>simp [intOf];have:=uh HL;omega
      ·obtain rfl:k=40:=by omega
       have hge:¬((40:Nat):Int)<40:=by omega
       have hfin:Hid (∀v,Sn.Wr w0 wr base v (Sn.bytes s g c E I)→Sn.Encodes w s g c E I (.returned (.tuple #[v,.int .i64 0])) wr):=fun v hv=>by
        have e1:=uh HB
        exact ⟨v,0,rfl,uh HC,fun h=>absurd rfl h,fun _=>hv.own.mono (by omega),below_grown (Sn.below_trans (none_below (uh hG0)) (hv.bel.mono (by omega)))⟩
       have hf:=hide (uh hfin _ (uh hX))
       clear hlt hk hX hfin
       go_wp2
       go_ret2
       exact uh hf


open Go.RowKit

theorem Sn.num_no {s g:Nat→Int} (h:¬(0≤s 1∧s 1<1073741824∧1≤s 2∧s 2≤3∧0≤s 3∧s 3≤2)):Sn.headB s g=false:=by
 unfold Sn.headB Sn.numB
 rw [decide_eq_false h,Bool.and_false]

def Sn.headC (q:Bool) (m n3 n4:Int):Int:=if q=true then (if m≤5 then (if n3=1∧n4=1 then 0 else 2) else 3) else 1

set_option maxRecDepth 16000 in
set_option maxHeartbeats 6400000 in
theorem refHead11_any (s g c:Nat→Int) (E I:Nat→Nat→Int) (gC gE gI cC cE cI:Nat) (w:World) (hL:Gd.Lists w gC gE gI c E I) :
  Calls Tryz.prog 30 #[.agg (Gd.world s gC gE gI cC cE cI g)] w (Says w (.int .i64 (Sn.headC (Sn.headB s g) (Sn.mx c 383) (Sn.cnt c 3 384) (Sn.cnt c 4 384)))):=by
 obtain ⟨w0,hw0⟩:∃w0,w0=w.alloc (.cells (Gd.world s gC gE gI cC cE cI g) 31):=⟨_,rfl⟩
 have hg0:w.grownBy w0 none:=by rw [hw0];exact World.grownBy_alloc _ _ _
 have hB:Hid (Lie w0 w.heap.size 31 11 (Gd.box s gC gE gI cC cE cI g)):=by show Lie w0 _ _ _ _;rw [hw0];exact (Arr.world (heap_alloc_new w _)).lie
 have hL0:=hide (hL.on hg0)
 have hgr:=hide hg0
 have hnum:=hide (fun h=>Sn.num_no (s:=s) (g:=g) h)
 obtain ⟨A,hA⟩:∃A,Sn.headC (Sn.headB s g) (Sn.mx c 383) (Sn.cnt c 3 384) (Sn.cnt c 4 384)=A:=⟨_,rfl⟩
 have hA1:Hid (Sn.headB s g=false→1=A):=fun h=>by rw [←hA,h];rfl
 have hA3:Hid (Sn.headB s g=true→5<Sn.mx c 383→3=A):=fun h h3=>by rw [←hA,h];unfold Sn.headC;rw [if_pos rfl,if_neg (Int.not_le.2 h3)]
 have hA2:Hid (Sn.headB s g=true→Sn.mx c 383≤5→¬(Sn.cnt c 3 384=1∧Sn.cnt c 4 384=1)→2=A):=fun h h3 h2=>by rw [←hA,h];unfold Sn.headC;rw [if_pos rfl,if_pos h3,if_neg h2]
 have hA0:Hid (Sn.headB s g=true→Sn.mx c 383≤5→(Sn.cnt c 3 384=1∧Sn.cnt c 4 384=1)→0=A):=fun h h3 h2=>by rw [←hA,h];unfold Sn.headC;rw [if_pos rfl,if_pos h3,if_pos h2]
 rw [hA]
 clear hL hg0 hA
 unfold Gd.world at hw0 ⊢
 go_enter Tryz.func30,Tryz.ntmps30
 go_upto_region 1 with fail
 rw [←hw0]
 clear hw0
 obtain ⟨B,hBe⟩:∃B,w.heap.size=B:=⟨_,rfl⟩
 rw [hBe] at hB ⊢
 clear hBe
 obtain ⟨b0,b1,b2,b3,b4,b5,b6,b7,b8,b9,b10⟩:=(uh hB).eleven
 by_cases n0:s 1<0
 ·have hf:=hide (uh hA1 (uh hnum (by omega)))
  go_wp2
  go_ret
  exact ⟨rti (uh hf),uh hgr⟩
 by_cases n1:s 1≥1073741824
 ·have hf:=hide (uh hA1 (uh hnum (by omega)))
  go_wp2
  go_ret
  exact ⟨rti (uh hf),uh hgr⟩
 by_cases n2:s 2<1
 ·have hf:=hide (uh hA1 (uh hnum (by omega)))
  go_wp2
  go_ret
  exact ⟨rti (uh hf),uh hgr⟩
 by_cases n3:s 2 > 3
 ·have hf:=hide (uh hA1 (uh hnum (by omega)))
  go_wp2
  go_ret
  exact ⟨rti (uh hf),uh hgr⟩
 by_cases n4:s 3<0
 ·have hf:=hide (uh hA1 (uh hnum (by omega)))
  go_wp2
  go_ret
  exact ⟨rti (uh hf),uh hgr⟩
 by_cases n5:s 3 > 2
 ·have hf:=hide (uh hA1 (uh hnum (by omega)))
  go_wp2
  go_ret
  exact ⟨rti (uh hf),uh hgr⟩
 have hN:Hid (Sn.numB s=true):=by
  show Sn.numB s=true
  unfold Sn.numB
  rw [decide_eq_true_eq]
  omega
 go_wp2_with fail
 clear n0 n1 n2 n3 n4 n5
 go_loop [3] (fun v3=>∃t:Nat,t≤4∧v3=.int .i64 (t:Int)∧Hid (∀j,j<t→Sn.goldB g j=true)) (fun v3=>10 - (intOf v3).toNat)
 case atStart=>exact ⟨0,by omega,rfl,fun j hj=>absurd hj (by omega)⟩
 case round =>
  obtain ⟨t,ht,rfl,hall⟩:=hrel
  by_cases hlt:t<4
  ·have hlt':(t:Int)<4:=by omega
   have HL:=hide hlt
   have bt:w0.cell? ⟨B,7+t,none⟩=some (.int .i64 (g t)):=by
    rw [(uh hB).cell (c:=7+t) (by omega),Gd.box_gold _ _ _ _ _ _ _ _ t hlt]
   have hbad:Hid (¬(0≤g t∧g t≤999)→1=A):=fun h=>uh hA1 (by
    unfold Sn.headB
    rw [Sn.goldsB_no (t:=t) (by unfold Sn.goldB;rw [decide_eq_false h]) (uh HL),Bool.false_and])
   clear hlt ht
   by_cases k1:g t<0
   ·have hf:=hide (uh hbad (by omega))
    go_wp2
    go_ret
    exact ⟨rti (uh hf),uh hgr⟩
   ·by_cases k2:g t > 999
    ·have hf:=hide (uh hbad (by omega))
     go_wp2
     go_ret
     exact ⟨rti (uh hf),uh hgr⟩
    ·have hq:Hid (Sn.goldB g t=true):=by
      show Sn.goldB g t=true
      unfold Sn.goldB
      rw [decide_eq_true_eq]
      omega
     go_wp2
     go_round
     case rel=>exact ⟨t+1,by have:=uh HL;omega,by go_num,fun j hj=>by
      by_cases e:j=t
      ·rw [e];exact uh hq
      ·exact uh hall j (by omega)⟩
     case measure=>simp [intOf];have:=uh HL;omega
  ·obtain rfl:t=4:=by omega
   have hge:¬((4:Nat):Int)<4:=by omega
   have hH:Hid (Sn.headB s g=true):=by
    show Sn.headB s g=true
    unfold Sn.headB
    rw [Sn.goldsB_of (uh hall),uh hN]
    rfl
   clear hlt ht
   go_wp2_with fail
   go_loop [4,5,6] (fun v4 v5 v6=>∃i:Nat,i≤384∧v4=.int .i64 (Sn.cnt c 3 i)∧v5=.int .i64 (Sn.cnt c 4 i)∧v6=.int .i64 (i:Int)∧Hid (∀j,j<i→c j≤5)) (fun _ _ v6=>400 - (intOf v6).toNat)
   case atStart=>exact ⟨0,by omega,rfl,rfl,rfl,fun j hj=>absurd hj (by omega)⟩
   case round =>
    obtain ⟨i,hi,rfl,rfl,rfl,h5⟩:=hrel
    by_cases hlt:i<384
    ·have hlt':(i:Int)<384:=by omega
     have HL:=hide hlt
     have u0:w0.cell? ⟨gC,i,none⟩=some (.int .u8 (c i)):=(uh hL0).cells.cell hlt
     have q3:=Sn.cnt_bound c 3 i
     have q4:=Sn.cnt_bound c 4 i
     obtain ⟨X,hX⟩:∃X,Sn.cnt c 3 i=X:=⟨_,rfl⟩
     obtain ⟨Y,hY⟩:∃Y,Sn.cnt c 4 i=Y:=⟨_,rfl⟩
     have hn3:Hid (Sn.cnt c 3 (i+1)=X+if c i=3 then 1 else 0):=by
      show Sn.cnt c 3 (i+1)=_
      rw [←hX]
      rfl
     have hn4:Hid (Sn.cnt c 4 (i+1)=Y+if c i=4 then 1 else 0):=by
      show Sn.cnt c 4 (i+1)=_
      rw [←hY]
      rfl
     rw [hX] at q3 ⊢
     rw [hY] at q4 ⊢
     clear hlt hi hX hY
     by_cases k5:c i > 5
     ·have hf:=hide (uh hA3 (uh hH) (Int.not_le.1 fun h=>by
       have:=Sn.mx_le.1 h i (by have:=uh HL;omega)
       omega))
      go_wp2
      go_ret
      exact ⟨rti (uh hf),uh hgr⟩
     ·have h5':Hid (∀j,j<i+1→c j≤5):=fun j hj=>by
       by_cases e:j=i
       ·rw [e];omega
       ·exact uh h5 j (by omega)
      by_cases k3:c i=3
      ·rw [if_pos k3] at hn3
       rw [if_neg (by omega)] at hn4
       rw [k3] at u0 k5
       clear k3
       go_wp2
       go_round
       case rel=>exact ⟨i+1,by have:=uh HL;omega,by rw [uh hn3],by rw [uh hn4];simp,by go_num,h5'⟩
       case measure=>simp [intOf];have:=uh HL;omega
      ·have k3':(c i == 3)=false:=by simp [k3]
       rw [if_neg k3] at hn3
       by_cases k4:c i=4
       ·rw [if_pos k4] at hn4
        rw [k4] at u0 k5 k3'
        clear k3 k4
        go_wp2
        go_round
        case rel=>exact ⟨i+1,by have:=uh HL;omega,by rw [uh hn3];simp,by rw [uh hn4],by go_num,h5'⟩
        case measure=>simp [intOf];have:=uh HL;omega
       ·have k4':(c i == 4)=false:=by simp [k4]
        rw [if_neg k4] at hn4
        clear k3 k4
        go_wp2
        go_round
        case rel=>exact ⟨i+1,by have:=uh HL;omega,by rw [uh hn3];simp,by rw [uh hn4];simp,by go_num,h5'⟩
        case measure=>simp [intOf];have:=uh HL;omega
    ·have hie:i=384:=by omega
     have hge:¬(i:Int)<384:=by omega
     have hm:Hid (Sn.mx c 383≤5):=Sn.mx_le.2 fun j hj=>uh h5 j (by omega)
     obtain ⟨X,hX⟩:∃X,Sn.cnt c 3 i=X:=⟨_,rfl⟩
     obtain ⟨Y,hY⟩:∃Y,Sn.cnt c 4 i=Y:=⟨_,rfl⟩
     have hXY:Hid (Sn.cnt c 3 384=X∧Sn.cnt c 4 384=Y):=by
      rw [←hX,←hY,hie]
      exact ⟨rfl,rfl⟩
     rw [hX,hY]
     clear hlt hi hX hY hie
     by_cases x1:X=1
     ·by_cases y1:Y=1
      ·have hf:=hide (uh hA0 (uh hH) (uh hm) ⟨(uh hXY).1.trans x1,(uh hXY).2.trans y1⟩)
       have x1':(X != 1)=false:=by simp [x1]
       have y1':(Y != 1)=false:=by simp [y1]
       clear x1 y1
       go_wp2
       go_ret
       exact ⟨rti (uh hf),uh hgr⟩
      ·have hf:=hide (uh hA2 (uh hH) (uh hm) (fun h=>y1 ((uh hXY).2.symm.trans h.2)))
       have x1':(X != 1)=false:=by simp [x1]
       have y1':(Y != 1)=true:=by simp [y1]
       clear x1 y1
       go_wp2
       go_ret
       exact ⟨rti (uh hf),uh hgr⟩
     ·have hf:=hide (uh hA2 (uh hH) (uh hm) (fun h=>x1 ((uh hXY).1.symm.trans h.1)))
      have x1':(X != 1)=true:=by simp [x1]
      clear x1
      go_wp2
      go_ret
      exact ⟨rti (uh hf),uh hgr⟩

end Go.Proofs.YtepppmepilffcaaGreat
