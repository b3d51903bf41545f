import Derived.Test.YtepppmepilffcaaGreatPart33
import Derived.Test.YtepppmepilffcaaGreatPart41
namespace Go.Proofs.YtepppmepilffcaaGreat
open Go.RowKit

theorem Sn.wanted {c a b:Prop} [Decidable c] (hc:c) (h:a):if c then a else b:=by
 rw [if_pos hc]
 exact h

set_option maxRecDepth 16000 in
set_option maxHeartbeats 12800000 in
theorem refEncode_any (s g c:Nat→Int) (E I:Nat→Nat→Int) (gC gE gI cC cE cI:Nat) (w:World) (hL:Gd.Lists w gC gE gI c E I) (hck:∀x,Gd.Lists x gC gE gI c E I→Calls Tryz.prog 11 #[.agg (Gd.world s gC gE gI cC cE cI g)] x (Sn.Told x s g c E I)) :
  Calls Tryz.prog 9 #[.agg (Gd.world s gC gE gI cC cE cI g)] w (Sn.Encodes w s g c E I):=by
 obtain ⟨wz,hwz⟩:∃wz,wz=w.alloc (.cells (Gd.world s gC gE gI cC cE cI g) 31):=⟨_,rfl⟩
 have hg0:w.grownBy wz none:=by rw [hwz];exact World.grownBy_alloc _ _ _
 have hO:Hid (Sn.Shown w wz w.heap.size gC gE gI cC cE cI s g c E I):=by
  refine ⟨?_,hL.on hg0,hg0⟩
  rw [hwz]
  exact (Arr.world (heap_alloc_new w _)).lie
 obtain ⟨i0,hi,hz0,hz1,hz2⟩:=info_parts info_byte
 have lE:=hide (And.intro hL.cells.lt (And.intro hL.ents.lt hL.items.lt))
 have cc:=hide hck
 have sz:Hid (wz.heap.size=w.heap.size+1):=by
  show wz.heap.size=_
  rw [hwz]
  simp
 clear hL hg0 hck
 unfold Gd.world at hwz cc ⊢
 go_enter Tryz.func9,Tryz.ntmps9
 go_upto_region 1 with fail
 rw [←hwz]
 clear hwz
 obtain ⟨B,hBe⟩:∃B,w.heap.size=B:=⟨_,rfl⟩
 have HBe:=hide hBe
 rw [hBe] at hO ⊢
 clear hBe
 obtain ⟨b0,b1,b2,b3,b4,b5,b6,b7,b8,b9,b10⟩:=(uh hO).box.eleven
 go_wp2_with fail
 refine (uh cc _ (uh hO).lists).mono ?_
 rintro e w0 ⟨r,rfl,hr,hg⟩
 have hO1:=hide ((uh hO).on hg)
 have HR:=hide hr
 have HS:Hid (w.heap.size+1≤w0.heap.size):=(show w.heap.size+1≤w0.heap.size by have:=hg.size;have:=uh sz;omega)
 clear hg hO cc b0 b1 b2 b3 b4 b5 b6 b7 b8 b9 b10 hr sz
 by_cases h0:r=0
 case neg =>
  have h0':(r != 0)=true:=by simp [h0]
  have hfin:Hid (Sn.Encodes w s g c E I (.returned (.tuple #[.slice none 0 0,.int .i64 r])) w0):=⟨_,r,rfl,uh HR,fun _=>rfl,fun h=>absurd h h0,(uh hO1).grown⟩
  clear h0
  go_wp2
  go_ret2
  exact uh hfin
 have h0':(r != 0)=false:=by simp [h0]
 have HC:Hid (Sn.Chk s g c E I 0):=by
  have e:=uh HR
  rw [h0] at e
  exact e
 clear h0 HR
 obtain ⟨base,hbase⟩:∃base,w0.heap.size=base:=⟨_,rfl⟩
 have HB0:Hid (base≤w0.heap.size):=(show base≤w0.heap.size by omega)
 have HB:Hid (w.heap.size+1≤base):=(show w.heap.size+1≤base by have:=uh HS;omega)
 have hlists:Hid (∀x,Below base w0 x→Lie x B 31 11 (Gd.box s gC gE gI cC cE cI g)∧Gd.Lists x gC gE gI c E I):=fun x hx=>by
  have:=uh HB
  have:=uh HBe
  obtain ⟨l1,l2,l3⟩:=uh lE
  exact ⟨(uh hO1).box.below hx (by omega),(uh hO1).lists.below hx (by omega) (by omega) (by omega)⟩
 have cN:=hide (fun (n:Nat) (x:Int) (v:Value) (l:List Int) (y:World) (hn:n≤8) (h:Sn.Bytes y base v l) (hb:base≤y.heap.size) (hl:l.length≤1000)=>refNum_any n base x v l y hn h hb hl)
 have hW1:Hid (Sn.Wr w0 w0.drew base (.slice none 0 0) []):=⟨World.ownsRow_nil _ _ _ _,below_drewN (Below.refl _ _) 1⟩
 clear HS hbase
 have hG0:=hide (uh hO1).grown
 go_upto_region 4 with fail
 have hk4:Hid (∀x,Below base w0 x→x.cell? ⟨B,0,none⟩=some (.int .i64 (s 0))∧x.cell? ⟨B,1,none⟩=some (.int .i64 (s 1))):=fun x hx=>⟨(uh hlists x hx).1.eleven.1,(uh hlists x hx).1.eleven.2.1⟩
 go_cut [5] from 15 to 23 (fun v3 wx=>Hid (Sn.Wr w0 wx base v3 (Sn.num 8 (s 0 % 18446744073709551616) ++ Sn.num 4 (s 1 % 18446744073709551616))))
 case first =>
  refine wp_region_till (h:=8) (S:=fun x=>x.cell? ⟨B,0,none⟩=some (.int .i64 (s 0))∧x.cell? ⟨B,1,none⟩=some (.int .i64 (s 1))) (by kernel_rfl) ?_
  have hS0:=uh hk4 _ (uh hW1).bel
  refine wtk (i:=0) (v:=?_) [8] rfl (by kernel_rfl) (by kernel_rfl) (by kernel_rfl) (by kernel_rfl) (fun _ _ _ h=>h) hS0 (Or.inl ⟨by rfl,?_⟩) ?_
  rotate_left
  ·intro x hSx
   try dsimp only at hSx
   go_simp
   try with_reducible rfl
  simp only [Act.put]
  refine wtk (i:=1) (v:=?_) [8] rfl (by kernel_rfl) (by kernel_rfl) (by kernel_rfl) (by kernel_rfl) (fun _ _ _ h=>h) hS0 (Or.inl ⟨by rfl,?_⟩) ?_
  rotate_left
  ·intro x hSx
   try dsimp only at hSx
   go_simp
   try with_reducible rfl
  simp only [Act.put]
  refine wtk (i:=2) (v:=?_) [8] rfl (by kernel_rfl) (by kernel_rfl) (by kernel_rfl) (by kernel_rfl) (fun _ _ _ h=>h) hS0 (Or.inl ⟨by rfl,?_⟩) ?_
  rotate_left
  ·intro x hSx
   try dsimp only at hSx
   go_simp
   try with_reducible rfl
  simp only [Act.put]
  refine wtk (i:=4) (v:=?_) [8] rfl (by kernel_rfl) (by kernel_rfl) (by kernel_rfl) (by kernel_rfl) (fun _ _ _ h=>h) hS0 (Or.inl ⟨by rfl,?_⟩) ?_
  rotate_left
  ·intro x hSx
   try dsimp only at hSx
   go_simp
   try with_reducible rfl
  simp only [Act.put]
  refine wtk (i:=5) (v:=?_) [8] rfl (by kernel_rfl) (by kernel_rfl) (by kernel_rfl) (by kernel_rfl) (fun _ _ _ h=>h) hS0 (Or.inl ⟨by rfl,?_⟩) ?_
  rotate_left
  ·intro x hSx
   try dsimp only at hSx
   go_simp
   try with_reducible rfl
  simp only [Act.put]
  refine wtk (i:=6) (v:=?_) [8] rfl (by kernel_rfl) (by kernel_rfl) (by kernel_rfl) (by kernel_rfl) (fun _ _ _ h=>h) hS0 (Or.inl ⟨by rfl,?_⟩) ?_
  rotate_left
  ·intro x hSx
   try dsimp only at hSx
   go_simp
   try with_reducible rfl
  simp only [Act.put]
  refine wto (j:=3) (by kernel_rfl) rfl (fun K hK=>?_)
  go_simp
  refine (uh cN 8 _ _ [] _ (by omega) (uh hW1).own ((uh hW1).top (uh HB0)) (by simp)).mono ?_
  rintro e w2 ⟨v2,rfl,hown,hbel⟩
  have hW2:=hide ((uh hW1).adds hown hbel)
  rw [List.nil_append,Sn.wrap64] at hW2
  have hS2:=uh hk4 _ (uh hW2).bel
  clear hown hbel hW1
  try go_simp
  refine hK.out _ _ (fun _=>hS2) ?_
  clear hK K
  refine wto (j:=7) (by kernel_rfl) rfl (fun K hK=>?_)
  go_simp
  refine (uh cN 4 _ _ _ _ (by omega) (uh hW2).own ((uh hW2).top (uh HB0)) (by rw [Sn.num_len];omega)).mono ?_
  rintro e w3 ⟨v3,rfl,hown,hbel⟩
  have hW3:=hide ((uh hW2).adds hown hbel)
  rw [Sn.wrap64] at hW3
  have hS3:=uh hk4 _ (uh hW3).bel
  clear hown hbel hW2
  try go_simp
  refine hK.out _ _ (fun _=>hS3) ?_
  clear hK K
  refine wto (j:=8) (by kernel_rfl) rfl (fun K hK=>?_)
  go_simp
  refine hK.out _ _ (fun hx=>absurd (hx.symm.trans (by kernel_rfl)) Bool.false_ne_true) ?_
  clear hK K
  refine wpTill_done (by kernel_rfl) ?_ _
  go_wp2_with fail
  go_meet
  exact hW3
 case rest =>
 have hW3:Hid (Sn.Wr w0 wc base u5 (Sn.num 8 (s 0 % 18446744073709551616) ++ Sn.num 4 (s 1 % 18446744073709551616))):=hcut
 clear hcut hW1 hk4
 obtain ⟨b0,b1,b2,b3,b4,b5,b6,b7,b8,b9,b10⟩:=(uh hlists wc (uh hW3).bel).1.eleven
 have t2:IntKind.u8.wrap (s 2)=s 2 % 256:=Sn.wrap8 _
 have t3:IntKind.u8.wrap (s 3)=s 3 % 256:=Sn.wrap8 _
 go_upto_region 5 with fail
 go_wp2_with (at_builtin;refine wpList_append_own _ rfl _ _ 26 rfl base 5 i0 (.int .u8 0) 1 1 Tryz.underlying26 hi hz0 hz1 hz2 rfl (by decide) _ _ _ rfl ((uh hW3).own.alloc _) ⟨wc.heap.size,0,none⟩ 2 2 [.int .u8 (s 2 % 256),.int .u8 (s 3 % 256)] rfl rfl (Sn.news wc #[.int .u8 (s 2 % 256),.int .u8 (s 3 % 256)] _ _ rfl) ?_ ?_ ?_ ?_ ?_)
 ·intro u hu
  simp only [List.mem_cons,List.not_mem_nil,or_false] at hu
  rcases hu with rfl | rfl <;> rfl
 ·simp [Sn.num_len];unfold maxLen;omega
 ·simp [Sn.num_len]
 ·have:=(uh hW3).top (uh HB0);simp;omega
 intro v4 w4 hown hgrow _
 have hW4:Hid (Sn.Wr w0 w4 base v4 (Sn.head s)):=(uh hW3).more (m:=2) (ns:=[s 2 % 256,s 3 % 256]) (uh HB0) (World.grownBy_alloc _ _ _) (by simpa using hown) rfl hgrow
 clear hown hgrow hW3 b0 b1 b2 b3 b4 b5 b6 b7 b8 b9 b10 t2 t3
 go_wp2_with fail
 go_loopw [5,6] (fun v5 v6 wr=>∃k:Nat,k≤4∧v6=.int .i64 (k:Int)∧Hid (Sn.Wr w0 wr base v5 (Sn.head s ++ Sn.golds k g))) (fun _ v6 _=>10 - (intOf v6).toNat)
 case atStart=>exact ⟨0,by omega,rfl,by simpa [Sn.golds] using hW4⟩
 case round =>
  clear hW4
  obtain ⟨k,hk,rfl,hX⟩:=hrel
  have hlen:Hid ((Sn.head s ++ Sn.golds k g).length=14+k*2):=by show (Sn.head s ++ Sn.golds k g).length=_;rw [List.length_append,Sn.head_len,Sn.golds_len]
  by_cases hlt:k<4
  ·have hlt':(k:Int)<4:=by omega
   have HL:=hide hlt
   have bk:wr.cell? ⟨B,7+k,none⟩=some (.int .i64 (g k)):=by
    rw [(uh hlists wr (uh hX).bel).1.cell (c:=7+k) (by omega),Gd.box_gold _ _ _ _ _ _ _ _ k hlt]
   clear hlt hk
   go_wp2_with fail
   refine (uh cN 2 _ _ _ _ (by omega) (uh hX).own ((uh hX).top (uh HB0)) (by have:=uh hlen;have:=uh HL;omega)).mono ?_
   rintro e w5 ⟨v5,rfl,hown,hbel⟩
   have hX2:=hide ((uh hX).adds hown hbel)
   rw [Sn.wrap64,List.append_assoc,←Sn.golds_more] at hX2
   clear hown hbel hX bk hlen
   go_wp2
   go_roundw
   case rel=>exact ⟨k+1,by have:=uh HL;omega,by go_num,hX2⟩
   case measure=>simp [intOf];have:=uh HL;omega
  ·obtain rfl:k=4:=by omega
   have hge:¬((4:Nat):Int)<4:=by omega
   clear hlt hk
   have b4:=(uh hlists wr (uh hX).bel).1.eleven.2.2.2.2.1
   go_upto_region 10 with fail
   go_wp2_with (at_builtin;refine wpList_append_own _ rfl _ _ 26 rfl base 5 i0 (.int .u8 0) 1 1 Tryz.underlying26 hi hz0 hz1 hz2 rfl (by decide) _ _ _ rfl (uh hX).own ⟨gC,0,none⟩ 384 cC (((List.range 384).map c).map (Value.int .u8)) rfl (by simp) (Sn.cells_src (uh hlists wr (uh hX).bel).2.cells) ?_ ?_ ?_ ?_ ?_)
   ·intro u hu
    obtain ⟨x,_,rfl⟩:=List.mem_map.1 hu
    rfl
   ·have:=Sn.head_len s;have:=Sn.golds_len g 4;unfold maxLen;omega
   ·have:=Sn.head_len s;have:=Sn.golds_len g 4;omega
   ·exact (uh hX).top (uh HB0)
   intro v6 w6 hown hgrow _
   have hW6:Hid (Sn.Wr w0 w6 base v6 (Sn.head s ++ Sn.golds 4 g ++ (List.range 384).map c)):=(uh hX).more (m:=384) (uh HB0) (World.grownBy.refl _ _) hown (by simp) hgrow
   clear hown hgrow hX b4 hlen hge
   go_upto_region 11 with fail
   go_wp2_with fail
   go_loopw [5,7,8] (fun v5 v7 v8 wr=>∃k:Nat,k≤32∧v7=.int .i64 (k:Int)∧Hid (Sn.Wr w0 wr base v5 (Sn.head s ++ Sn.golds 4 g ++ (List.range 384).map c ++ Sn.rows k 11 E))) (fun _ v7 _ _=>40 - (intOf v7).toNat)
   case atStart=>exact ⟨0,by omega,rfl,by simpa [Sn.rows] using hW6⟩
   case round =>
    clear hW6
    obtain ⟨k,hk,rfl,hX⟩:=hrel
    have hlen:Hid ((Sn.head s ++ Sn.golds 4 g ++ (List.range 384).map c ++ Sn.rows k 11 E).length=406+k*11):=by show (Sn.head s ++ Sn.golds 4 g ++ (List.range 384).map c ++ Sn.rows k 11 E).length=_;rw [List.length_append,Sn.len22,Sn.rows_len]
    have b5:=(uh hlists wr (uh hX).bel).1.eleven.2.2.2.2.2.1
    by_cases hlt:k<32
    ·have hlt':(k:Int)<32:=by omega
     have HL:=hide hlt
     obtain ⟨r0,r1,r2,r3,r4,r5,r6,r7,r8,r9,r10⟩:=(uh hlists wr (uh hX).bel).2.own.ents.row hlt
     clear hlt hk
     obtain ⟨l,hl⟩:∃l,Sn.head s ++ Sn.golds 4 g ++ (List.range 384).map c ++ Sn.rows k 11 E=l:=⟨_,rfl⟩
     rw [hl] at hX hlen
     have hl':=hide hl
     clear hl
     go_upto_region 15 with fail
     obtain ⟨wd,hwd⟩:∃wd,wd=wr.alloc (.cells (En.cells (E k)) 61):=⟨_,rfl⟩
     have hgd:wr.grownBy wd none:=by rw [hwd];exact World.grownBy_alloc _ _ _
     have hD:Hid (Lie wd wr.heap.size 61 11 (Ints (E k))):=by show Lie wd _ _ _ _;rw [hwd];exact Sn.born wr (E k) 61
     have hXd:=hide ((uh hX).on (uh HB0) hgd)
     unfold En.cells at hwd
     rw [←hwd]
     clear hwd hgd hX b5 r0 r1 r2 r3 r4 r5 r6 r7 r8 r9 r10
     obtain ⟨D,hDe⟩:∃D,wr.heap.size=D:=⟨_,rfl⟩
     rw [hDe] at hD ⊢
     clear hDe wr
     obtain ⟨d0,d1,d2,d3,d4,d5,d6,d7,d8,d9,d10⟩:=Sn.row (uh hD)
     have tw:∀j,IntKind.u8.wrap (E k j)=E k j % 256:=fun j=>Sn.wrap8 _
     go_wp2_with (at_builtin;refine wpList_append_own _ rfl _ _ 26 rfl base 5 i0 (.int .u8 0) 1 1 Tryz.underlying26 hi hz0 hz1 hz2 rfl (by decide) _ _ _ rfl ((uh hXd).own.alloc _) ⟨wd.heap.size,0,none⟩ 11 11 (#[.int .u8 (E k 0 % 256),.int .u8 (E k 1 % 256),.int .u8 (E k 2 % 256),.int .u8 (E k 3 % 256),.int .u8 (E k 4 % 256),.int .u8 (E k 5 % 256),.int .u8 (E k 6 % 256),.int .u8 (E k 7 % 256),.int .u8 (E k 8 % 256),.int .u8 (E k 9 % 256),.int .u8 (E k 10 % 256)]:Array Value).toList rfl rfl (Sn.news wd _ _ _ rfl) ?_ ?_ ?_ ?_ ?_)
     ·exact ⟨rfl,rfl,rfl,rfl,rfl,rfl,rfl,rfl,rfl,rfl,rfl⟩
     ·have:=uh hlen;have:=uh HL;unfold maxLen;omega
     ·have:=uh hlen;have:=uh HL;omega
     ·have:=(uh hXd).top (uh HB0);simp;omega
     intro v8 w8 hown hgrow _
     have hX2:Hid (Sn.Wr w0 w8 base v8 (l ++ (List.range 11).map fun j=>E k j % 256)):=(uh hXd).more (m:=11) (uh HB0) (World.grownBy_alloc _ _ _) hown (by simp) hgrow
     rw [←uh hl',List.append_assoc,←Sn.rows_more] at hX2
     clear hown hgrow hXd hD d0 d1 d2 d3 d4 d5 d6 d7 d8 d9 d10 tw hlen
     go_wp2
     go_roundw
     case rel=>exact ⟨k+1,by have:=uh HL;omega,by go_num,hX2⟩
     case measure=>simp [intOf];have:=uh HL;omega
    ·obtain rfl:k=32:=by omega
     have hge:¬((32:Nat):Int)<32:=by omega
     clear hlt hk
     go_upto_region 16 with fail
     go_wp2_with fail
     go_loopw [5,9] (fun v5 v9 wr=>∃k:Nat,k≤40∧v9=.int .i64 (k:Int)∧Hid (Sn.Wr w0 wr base v5 (Sn.head s ++ Sn.golds 4 g ++ (List.range 384).map c ++ Sn.rows 32 11 E ++ Sn.rows k 4 I))) (fun _ v9 _=>50 - (intOf v9).toNat)
     case atStart=>exact ⟨0,by omega,rfl,by simpa [Sn.rows] using hX⟩
     case round =>
      clear hX b5 hge hlen
      obtain ⟨k,hk,rfl,hX⟩:=hrel
      have hlen:Hid ((Sn.head s ++ Sn.golds 4 g ++ (List.range 384).map c ++ Sn.rows 32 11 E ++ Sn.rows k 4 I).length=758+k*4):=by show (Sn.head s ++ Sn.golds 4 g ++ (List.range 384).map c ++ Sn.rows 32 11 E ++ Sn.rows k 4 I).length=_;rw [List.length_append,Sn.len406,Sn.rows_len]
      have b6:=(uh hlists wr (uh hX).bel).1.eleven.2.2.2.2.2.2.1
      by_cases hlt:k<40
      ·have hlt':(k:Int)<40:=by omega
       have HL:=hide hlt
       obtain ⟨l,hl⟩:∃l,Sn.head s ++ Sn.golds 4 g ++ (List.range 384).map c ++ Sn.rows 32 11 E ++ Sn.rows k 4 I=l:=⟨_,rfl⟩
       rw [hl] at hX hlen
       have hl':=hide hl
       clear hl
       have hks:Hid (∀x,Below base w0 x→x.cell? ⟨B,6,none⟩=some (.slice (some ⟨gI,0,none⟩) 40 cI)∧x.cell? ⟨gI,k*4,none⟩=some (.int .i64 (I k 0))∧x.cell? ⟨gI,k*4+1,none⟩=some (.int .i64 (I k 1))∧x.cell? ⟨gI,k*4+2,none⟩=some (.int .i64 (I k 2))∧x.cell? ⟨gI,k*4+3,none⟩=some (.int .i64 (I k 3))):=fun x hx=>⟨(uh hlists x hx).1.eleven.2.2.2.2.2.2.1,(uh hlists x hx).2.its.row (uh HL)⟩
       have tw:∀j,IntKind.u8.wrap (I k j)=I k j % 256:=fun j=>Sn.wrap8 _
       clear hlt hk
       have hXd':Hid (Sn.Wr w0 wr.drew base u5 l):=(uh hX).on (uh HB0) (gd1 (World.grownBy.refl _ none))
       go_upto_region 19 with fail
       clear b6
       have hsrc0:∀j u,(#[.int .u8 (I k 0 % 256),.int .u8 (I k 1 % 256),.int .u8 (I k 2 % 256),.int .u8 (I k 3 % 256)]:Array Value).toList[j]?=some u→(wr.drew.alloc (.cells #[.int .u8 (I k 0 % 256),.int .u8 (I k 1 % 256),.int .u8 (I k 2 % 256),.int .u8 (I k 3 % 256)] 5)).cell? ((⟨wr.heap.size,0,none⟩:Addr).add j)=some u:=Sn.news wr.drew _ _ _ (by simp)
       have hsrc:=hide hsrc0
       clear hsrc0
       have hSb:=uh hks (wr.drew.alloc (.cells #[.int .u8 (I k 0 % 256),.int .u8 (I k 1 % 256),.int .u8 (I k 2 % 256),.int .u8 (I k 3 % 256)] 5)) ((uh hXd').on (uh HB0) (World.grownBy_alloc _ _ _)).bel
       have hS0:=uh hks wr.drew (uh hXd').bel
       clear hX
       refine wp_region_till (h:=31) (S:=fun x=>x.cell? ⟨B,6,none⟩=some (.slice (some ⟨gI,0,none⟩) 40 cI)∧x.cell? ⟨gI,k*4,none⟩=some (.int .i64 (I k 0))∧x.cell? ⟨gI,k*4+1,none⟩=some (.int .i64 (I k 1))∧x.cell? ⟨gI,k*4+2,none⟩=some (.int .i64 (I k 2))∧x.cell? ⟨gI,k*4+3,none⟩=some (.int .i64 (I k 3))) (by kernel_rfl) ?_
       refine wtk (i:=0) (v:=?_) [31] rfl (by kernel_rfl) (by kernel_rfl) (by kernel_rfl) (by kernel_rfl) (fun _ _ _ h=>h) hS0 (Or.inl ⟨by rfl,?_⟩) ?_
       rotate_left
       ·intro x hSx
        try dsimp only at hSx
        go_simp
        try with_reducible rfl
       simp only [Act.put]
       refine wtk (i:=1) (v:=?_) [31] rfl (by kernel_rfl) (by kernel_rfl) (by kernel_rfl) (by kernel_rfl) (fun _ _ _ h=>h) hS0 (Or.inl ⟨by rfl,?_⟩) ?_
       rotate_left
       ·intro x hSx
        try dsimp only at hSx
        go_simp
        try with_reducible rfl
       simp only [Act.put]
       refine wtk (i:=2) (v:=?_) [31] rfl (by kernel_rfl) (by kernel_rfl) (by kernel_rfl) (by kernel_rfl) (fun _ _ _ h=>h) hS0 (Or.inl ⟨by rfl,?_⟩) ?_
       rotate_left
       ·intro x hSx
        try dsimp only at hSx
        go_simp
        try with_reducible rfl
       simp only [Act.put]
       refine wtk (i:=3) (v:=?_) [31] rfl (by kernel_rfl) (by kernel_rfl) (by kernel_rfl) (by kernel_rfl) (fun _ _ _ h=>h) hS0 (Or.inl ⟨by rfl,?_⟩) ?_
       rotate_left
       ·intro x hSx
        try dsimp only at hSx
        go_simp
        try with_reducible rfl
       simp only [Act.put]
       refine wtk (i:=4) (v:=?_) [31] rfl (by kernel_rfl) (by kernel_rfl) (by kernel_rfl) (by kernel_rfl) (fun _ _ _ h=>h) hS0 (Or.inl ⟨by rfl,?_⟩) ?_
       rotate_left
       ·intro x hSx
        try dsimp only at hSx
        go_simp
        try with_reducible rfl
       simp only [Act.put]
       refine wtk (i:=5) (v:=?_) [31] rfl (by kernel_rfl) (by kernel_rfl) (by kernel_rfl) (by kernel_rfl) (fun _ _ _ h=>h) hS0 (Or.inl ⟨by rfl,?_⟩) ?_
       rotate_left
       ·intro x hSx
        try dsimp only at hSx
        go_simp
        try with_reducible rfl
       simp only [Act.put]
       refine wtk (i:=6) (v:=?_) [31] rfl (by kernel_rfl) (by kernel_rfl) (by kernel_rfl) (by kernel_rfl) (fun _ _ _ h=>h) hS0 (Or.inl ⟨by rfl,?_⟩) ?_
       rotate_left
       ·intro x hSx
        try dsimp only at hSx
        go_simp
        try with_reducible rfl
       simp only [Act.put]
       refine wtk (i:=7) (v:=?_) [31] rfl (by kernel_rfl) (by kernel_rfl) (by kernel_rfl) (by kernel_rfl) (fun _ _ _ h=>h) hS0 (Or.inl ⟨by rfl,?_⟩) ?_
       rotate_left
       ·intro x hSx
        try dsimp only at hSx
        go_simp
        try with_reducible rfl
       simp only [Act.put]
       refine wtk (i:=8) (v:=?_) [31] rfl (by kernel_rfl) (by kernel_rfl) (by kernel_rfl) (by kernel_rfl) (fun _ _ _ h=>h) hS0 (Or.inl ⟨by rfl,?_⟩) ?_
       rotate_left
       ·intro x hSx
        try dsimp only at hSx
        go_simp
        try with_reducible rfl
       simp only [Act.put]
       refine wtk (i:=9) (v:=?_) [31] rfl (by kernel_rfl) (by kernel_rfl) (by kernel_rfl) (by kernel_rfl) (fun _ _ _ h=>h) hS0 (Or.inl ⟨by rfl,?_⟩) ?_
       rotate_left
       ·intro x hSx
        try dsimp only at hSx
        go_simp
        try with_reducible rfl
       simp only [Act.put]
       refine wtk (i:=10) (v:=?_) [31] rfl (by kernel_rfl) (by kernel_rfl) (by kernel_rfl) (by kernel_rfl) (fun _ _ _ h=>h) hS0 (Or.inl ⟨by rfl,?_⟩) ?_
       rotate_left
       ·intro x hSx
        try dsimp only at hSx
        go_simp
        try with_reducible rfl
       simp only [Act.put]
       refine wtk (i:=11) (v:=?_) [31] rfl (by kernel_rfl) (by kernel_rfl) (by kernel_rfl) (by kernel_rfl) (fun _ _ _ h=>h) hS0 (Or.inl ⟨by rfl,?_⟩) ?_
       rotate_left
       ·intro x hSx
        try dsimp only at hSx
        go_simp
        try with_reducible rfl
       simp only [Act.put]
       refine wtk (i:=12) (v:=?_) [31] rfl (by kernel_rfl) (by kernel_rfl) (by kernel_rfl) (by kernel_rfl) (fun _ _ _ h=>h) hS0 (Or.inl ⟨by rfl,?_⟩) ?_
       rotate_left
       ·intro x hSx
        try dsimp only at hSx
        go_simp
        try with_reducible rfl
       simp only [Act.put]
       refine wtk (i:=13) (v:=?_) [31] rfl (by kernel_rfl) (by kernel_rfl) (by kernel_rfl) (by kernel_rfl) (fun _ _ _ h=>h) hS0 (Or.inl ⟨by rfl,?_⟩) ?_
       rotate_left
       ·intro x hSx
        try dsimp only at hSx
        go_simp
        try with_reducible rfl
       simp only [Act.put]
       refine wtk (i:=14) (v:=?_) [31] rfl (by kernel_rfl) (by kernel_rfl) (by kernel_rfl) (by kernel_rfl) (fun _ _ _ h=>h) hS0 (Or.inl ⟨by rfl,?_⟩) ?_
       rotate_left
       ·intro x hSx
        try dsimp only at hSx
        go_simp
        try with_reducible rfl
       simp only [Act.put]
       refine wtk (i:=15) (v:=?_) [31] rfl (by kernel_rfl) (by kernel_rfl) (by kernel_rfl) (by kernel_rfl) (fun _ _ _ h=>h) hS0 (Or.inl ⟨by rfl,?_⟩) ?_
       rotate_left
       ·intro x hSx
        try dsimp only at hSx
        go_simp
        try with_reducible rfl
       simp only [Act.put]
       refine wtk (i:=16) (v:=?_) [31] rfl (by kernel_rfl) (by kernel_rfl) (by kernel_rfl) (by kernel_rfl) (fun _ _ _ h=>h) hS0 (Or.inl ⟨by rfl,?_⟩) ?_
       rotate_left
       ·intro x hSx
        try dsimp only at hSx
        go_simp
        try with_reducible rfl
       simp only [Act.put]
       refine wtk (i:=17) (v:=?_) [31] rfl (by kernel_rfl) (by kernel_rfl) (by kernel_rfl) (by kernel_rfl) (fun _ _ _ h=>h) hS0 (Or.inl ⟨by rfl,?_⟩) ?_
       rotate_left
       ·intro x hSx
        try dsimp only at hSx
        go_simp
        try with_reducible rfl
       simp only [Act.put]
       refine wtk (i:=18) (v:=?_) [31] rfl (by kernel_rfl) (by kernel_rfl) (by kernel_rfl) (by kernel_rfl) (fun _ _ _ h=>h) hS0 (Or.inl ⟨by rfl,?_⟩) ?_
       rotate_left
       ·intro x hSx
        try dsimp only at hSx
        go_simp
        try with_reducible rfl
       simp only [Act.put]
       refine wtk (i:=19) (v:=?_) [31] rfl (by kernel_rfl) (by kernel_rfl) (by kernel_rfl) (by kernel_rfl) (fun _ _ _ h=>h) hS0 (Or.inl ⟨by rfl,?_⟩) ?_
       rotate_left
       ·intro x hSx
        try dsimp only at hSx
        go_simp
        try with_reducible rfl
       simp only [Act.put]
       refine wtk (i:=20) (v:=?_) [31] rfl (by kernel_rfl) (by kernel_rfl) (by kernel_rfl) (by kernel_rfl) (fun _ _ _ h=>h) hS0 (Or.inl ⟨by rfl,?_⟩) ?_
       rotate_left
       ·intro x hSx
        try dsimp only at hSx
        go_simp
        try with_reducible rfl
       simp only [Act.put]
       refine wtk (i:=21) (v:=?_) [31] rfl (by kernel_rfl) (by kernel_rfl) (by kernel_rfl) (by kernel_rfl) (fun _ _ _ h=>h) hS0 (Or.inl ⟨by rfl,?_⟩) ?_
       rotate_left
       ·intro x hSx
        try dsimp only at hSx
        go_simp
        try with_reducible rfl
       simp only [Act.put]
       refine wtk (i:=22) (v:=?_) [31] rfl (by kernel_rfl) (by kernel_rfl) (by kernel_rfl) (by kernel_rfl) (fun _ _ _ h=>h) hS0 (Or.inl ⟨by rfl,?_⟩) ?_
       rotate_left
       ·intro x hSx
        try dsimp only at hSx
        go_simp
        try with_reducible rfl
       simp only [Act.put]
       refine wtk (i:=23) (v:=?_) [31] rfl (by kernel_rfl) (by kernel_rfl) (by kernel_rfl) (by kernel_rfl) (fun _ _ _ h=>h) hS0 (Or.inl ⟨by rfl,?_⟩) ?_
       rotate_left
       ·intro x hSx
        try dsimp only at hSx
        go_simp
        try with_reducible rfl
       simp only [Act.put]
       refine wtk (i:=24) (v:=?_) [31] rfl (by kernel_rfl) (by kernel_rfl) (by kernel_rfl) (by kernel_rfl) (fun _ _ _ h=>h) hS0 (Or.inl ⟨by rfl,?_⟩) ?_
       rotate_left
       ·intro x hSx
        try dsimp only at hSx
        go_simp
        try with_reducible rfl
       simp only [Act.put]
       refine wtk (i:=25) (v:=?_) [31] rfl (by kernel_rfl) (by kernel_rfl) (by kernel_rfl) (by kernel_rfl) (fun _ _ _ h=>h) hS0 (Or.inl ⟨by rfl,?_⟩) ?_
       rotate_left
       ·intro x hSx
        try dsimp only at hSx
        go_simp
        try with_reducible rfl
       simp only [Act.put]
       refine wtk (i:=26) (v:=?_) [31] rfl (by kernel_rfl) (by kernel_rfl) (by kernel_rfl) (by kernel_rfl) (fun _ _ _ h=>h) hS0 (Or.inl ⟨by rfl,?_⟩) ?_
       rotate_left
       ·intro x hSx
        try dsimp only at hSx
        go_simp
        try with_reducible rfl
       simp only [Act.put]
       refine wtk (i:=27) (v:=?_) [31] rfl (by kernel_rfl) (by kernel_rfl) (by kernel_rfl) (by kernel_rfl) (fun _ _ _ h=>h) hS0 (Or.inl ⟨by rfl,?_⟩) ?_
       rotate_left
       ·intro x hSx
        try dsimp only at hSx
        go_simp
        try with_reducible rfl
       simp only [Act.put]
       refine wtk (i:=28) (v:=?_) [31] rfl (by kernel_rfl) (by kernel_rfl) (by kernel_rfl) (by kernel_rfl) (fun _ _ _ h=>h) hS0 (Or.inl ⟨by rfl,?_⟩) ?_
       rotate_left
       ·intro x hSx
        try dsimp only at hSx
        go_simp
        try with_reducible rfl
       simp only [Act.put]
       refine wto (j:=29) (by kernel_rfl) rfl (fun K hK=>?_)
       go_simp
       try go_simp
       refine hK.out _ _ (fun _=>hSb) ?_
       clear hK K
       refine wto (j:=30) (by kernel_rfl) rfl (fun K hK=>?_)
       refine Sn.wanted (by rfl) ?_
       refine wp_append_own _ _ _ 26 rfl base 5 i0 (.int .u8 0) 1 1 Tryz.underlying26 hi hz0 hz1 hz2 rfl (by decide) u5 l.length (l.map (Value.int .u8)) rfl ((uh hXd').own.alloc _) ⟨wr.heap.size,0,none⟩ 4 4 (#[.int .u8 (I k 0 % 256),.int .u8 (I k 1 % 256),.int .u8 (I k 2 % 256),.int .u8 (I k 3 % 256)]:Array Value).toList rfl rfl (uh hsrc) (by simp [Value.oneCell']) (by have:=uh hlen;have:=uh HL;unfold maxLen;omega) (by have:=uh hlen;have:=uh HL;omega) (by have:=(uh hXd').top (uh HB0);simp at this ⊢;omega) ?_
       intro v8 w8 hown hgrow _
       have hX2:Hid (Sn.Wr w0 w8 base v8 (l ++ (List.range 4).map fun j=>I k j % 256)):=(uh hXd').more (m:=4) (uh HB0) (World.grownBy_alloc _ _ _) hown (by simp) hgrow
       rw [←uh hl',List.append_assoc,←Sn.rows_more] at hX2
       have hSc:=uh hks w8 (uh hX2).bel
       clear hown hgrow hsrc
       refine hK.out _ _ (fun _=>hSc) ?_
       clear hK K
       refine wto (j:=31) (by kernel_rfl) rfl (fun K hK=>?_)
       go_simp
       refine hK.out _ _ (fun hx=>absurd (hx.symm.trans (by kernel_rfl)) Bool.false_ne_true) ?_
       clear hK K
       refine wpTill_done (by kernel_rfl) ?_ _
       go_wp2
       go_roundw
       case rel=>exact ⟨k+1,by have:=uh HL;omega,by go_num,hX2⟩
       case measure=>simp [intOf];have:=uh HL;omega
      ·obtain rfl:k=40:=by omega
       have hge:¬((40:Nat):Int)<40:=by omega
       have hfin:Hid (∀v,Sn.Wr w0 wr base v (Sn.bytes s g c E I)→Sn.Encodes w s g c E I (.returned (.tuple #[v,.int .i64 0])) wr):=fun v hv=>by
        have e1:=uh HB
        exact ⟨v,0,rfl,uh HC,fun h=>absurd rfl h,fun _=>hv.own.mono (by omega),below_grown (Sn.below_trans (none_below (uh hG0)) (hv.bel.mono (by omega)))⟩
       have hf:=hide (uh hfin _ (uh hX))
       clear hlt hk hX hfin
       go_wp2
       go_ret2
       exact uh hf


open Go.RowKit

theorem Sn.decode_back (s g c:Nat→Int) (E I:Nat→Nat→Int) (base:Nat) (v:Value) (w:World) (hG:Cr.Good ⟨s,g,c,E,I⟩) (a0:-9223372036854775808≤s 0∧s 0<9223372036854775808) (a1:0≤s 1) (a2:s 1<1073741824) (hB:Sn.Bytes w base v (Sn.bytes s g c E I)) :
  ∃G cap,v=.slice (some ⟨G,0,none⟩) 918 cap∧Calls Tryz.prog 17 #[.slice (some ⟨G,0,none⟩) 918 cap] w fun e w'=>∃u,e=.returned (.tuple #[u,.int .i64 0])∧Gd.Worlds w s g c E I (.returned u) w':=by
 obtain ⟨G,cap,rfl,h1,h2,hS⟩:=hB.src (Sn.bytes_len _ _ _ _ _) (Sn.bytes_byte s g c E I hG.sane.fit.cells)
 refine ⟨G,cap,rfl,?_⟩
 have hsm:=Sn.small hG.sane
 have f1:1≤s 2:=hG.f1
 have f3:s 2≤3:=hG.f3
 have s0:0≤s 3:=hG.s0
 have s2:s 3≤2:=hG.s2
 obtain ⟨q1,q2,q3,q4,q5⟩:=Sn.back (s:=s) (g:=g) (c:=c) (E:=E) (I:=I) a0 (by omega) (by omega) (by omega) (fun t ht=>by have:=hG.gold t ht;show 0≤g t∧g t<65536;have h:0≤g t∧g t≤999:=this;omega) hsm.1 hsm.2
 refine (decode_any G cap _ s g c E I w hS h1 h2 q1 q2 q3 q4 q5 hG.sane.fit.cells).mono ?_
 rintro e w' ⟨r,hr,⟨h0,_⟩ | ⟨_,u,rfl,hu⟩⟩
 ·exact absurd ((Sn.chk_good hG a1 a2).one hr) h0
 ·exact ⟨u,rfl,hu⟩

theorem Cr.IsNew.head {seed:Int} {T:Cr.W} (h:Cr.IsNew seed T):T.s 0=seed∧T.s 1=0:=by
 obtain ⟨c,es,is,_,rfl⟩:=h
 exact ⟨rfl,rfl⟩

set_option maxRecDepth 8000 in
set_option maxHeartbeats 6400000 in
theorem known11_any (w:World):Calls Tryz.prog 5 #[] w (Says w (.bool true)):=by
 have cn:=hide (refNew_any 1 w)
 go_enter Tryz.func5,Tryz.ntmps5
 go_wp2_with fail
 refine (uh cn).mono ?_
 rintro e w1 ⟨⟨s,g,c,E,I⟩,hN,gC,gE,gI,cC,cE,cI,rfl,hcE,l1,l2,l3,n1,n2,n3,hL,hg1⟩
 have hGo:=hide hN.good
 have hHd:=hide hN.head
 obtain ⟨w2,hw2⟩:∃w2,w2=w1.alloc (.cells (Gd.world s gC gE gI cC cE cI g) 31):=⟨_,rfl⟩
 have hg2:w1.grownBy w2 none:=by rw [hw2];exact World.grownBy_alloc _ _ _
 have hB:Hid (Lie w2 w1.heap.size 31 11 (Gd.box s gC gE gI cC cE cI g)):=by show Lie w2 _ _ _ _;rw [hw2];exact (Arr.world (heap_alloc_new w1 _)).lie
 have HG2:=hide (gtr hg1 hg2)
 have HL2:=hide (hL.on hg2)
 have ce:=hide (encode_any s g c E I gC gE gI cC cE cI w2 (uh HL2) (uh hGo).sane.fit.cells hcE)
 clear cn hcE l1 l2 l3 n1 n2 n3 hL hg1 hg2 hN
 unfold Gd.world at hw2 ce ⊢
 dsimp only
 go_upto_region 2 with fail
 rw [←hw2]
 clear hw2
 obtain ⟨B,hBe⟩:∃B,w1.heap.size=B:=⟨_,rfl⟩
 rw [hBe] at hB ⊢
 clear hBe w1
 obtain ⟨b0,b1,b2,b3,b4,b5,b6,b7,b8,b9,b10⟩:=(uh hB).eleven
 go_wp2_with fail
 refine (uh ce).mono ?_
 rintro e w3 ⟨v,r,rfl,hr,-,hown,hg3⟩
 obtain rfl:r=0:=(Sn.chk_good (uh hGo) (by have:s 1=0:=(uh hHd).2;omega) (by have:s 1=0:=(uh hHd).2;omega)).one hr
 obtain ⟨G,cap,rfl,cd⟩:=Sn.decode_back s g c E I _ v w3 (uh hGo) (by have:s 0=1:=(uh hHd).1;omega) (by have:s 1=0:=(uh hHd).2;omega) (by have:s 1=0:=(uh hHd).2;omega) (hown rfl)
 have cd':=hide cd
 have HG3:=hide (gtr (uh HG2) hg3)
 have HL3:=hide ((uh HL2).on hg3)
 have hB3:=hide ((uh hB).on hg3)
 clear hr hown hg3 cd ce HG2 HL2 hB b0 b1 b2 b3 b4 b5 b6 b7 b8 b9 b10 w2
 go_wp2_with fail
 refine (uh cd').mono ?_
 rintro e w4 ⟨u,rfl,jC,jE,jI,dC,dE,dI,hu,hdE,m1,m2,m3,p1,p2,p3,hM,hg4⟩
 obtain rfl:u=.agg (Gd.world s jC jE jI dC dE dI g):=by simpa using hu
 obtain ⟨w5,hw5⟩:∃w5,w5=w4.alloc (.cells (Gd.world s jC jE jI dC dE dI g) 31):=⟨_,rfl⟩
 have hg5:w4.grownBy w5 none:=by rw [hw5];exact World.grownBy_alloc _ _ _
 have hD:Hid (Lie w5 w4.heap.size 31 11 (Gd.box s jC jE jI dC dE dI g)):=by show Lie w5 _ _ _ _;rw [hw5];exact (Arr.world (heap_alloc_new w4 _)).lie
 have HG5:=hide (gtr (uh HG3) (gtr hg4 hg5))
 have hB5:=hide ((uh hB3).on (gtr hg4 hg5))
 have cs:=hide (same7_any s g c E I jC jE jI dC dE dI gC gE gI cC cE cI w5 (hM.on hg5) ((uh HL3).on (gtr hg4 hg5)))
 clear cd' hu hdE m1 m2 m3 p1 p2 p3 hM hg4 hg5 HG3 HL3 hB3
 unfold Gd.world at hw5 cs ⊢
 go_upto_region 4 with fail
 rw [←hw5]
 clear hw5
 obtain ⟨D,hDe⟩:∃D,w4.heap.size=D:=⟨_,rfl⟩
 rw [hDe] at hD ⊢
 clear hDe
 clear w3 w4
 obtain ⟨b0,b1,b2,b3,b4,b5,b6,b7,b8,b9,b10⟩:=(uh hB5).eleven
 obtain ⟨y0,y1,y2,y3,y4,y5,y6,y7,y8,y9,y10⟩:=(uh hD).eleven
 go_wp2_with fail
 refine (uh cs).mono ?_
 rintro e w6 ⟨rfl,hg6⟩
 have hgf:=hide (gtr (uh HG5) hg6)
 clear hg6 cs b0 b1 b2 b3 b4 b5 b6 b7 b8 b9 b10 y0 y1 y2 y3 y4 y5 y6 y7 y8 y9 y10 hB5 hD HG5
 go_wp2
 go_ret
 exact ⟨rfl,uh hgf⟩


open Go.RowKit

def Sn.Writes (w:World) (l:List Int) (e:Ending) (w':World):Prop:=∃v,e=.returned (.tuple #[v,.int .i64 0])∧Sn.Bytes w' w.heap.size v l∧w.grownBy w' none

theorem Sn.refEncode_good (s g c:Nat→Int) (E I:Nat→Nat→Int) (gC gE gI cC cE cI:Nat) (w:World) (hL:Gd.Lists w gC gE gI c E I) (hG:Cr.Good ⟨s,g,c,E,I⟩) (hcE:32≤cE) (a1:0≤s 1) (a2:s 1<1073741824) :
  Calls Tryz.prog 9 #[.agg (Gd.world s gC gE gI cC cE cI g)] w (Sn.Writes w (Sn.bytes s g c E I)):=by
 refine (refEncode_any s g c E I gC gE gI cC cE cI w hL (fun x hx=>(snapCheck_any s g c E I gC gE gI cC cE cI x hx hG hcE a1 a2).mono ?_)).mono ?_
 ·rintro e w' ⟨rfl,hg⟩
  exact ⟨0,rfl,Sn.chk_good hG a1 a2,hg⟩
 ·rintro e w' ⟨v,r,rfl,hr,-,hown,hg⟩
  obtain rfl:r=0:=(Sn.chk_good hG a1 a2).one hr
  exact ⟨v,rfl,hown rfl,hg⟩

end Go.Proofs.YtepppmepilffcaaGreat

namespace Go.Proofs.YtepppmepilffcaaGreat
open Go.RowKit Go.ChangeShapes Go.WideShapes

theorem Cr.wf_bound {n:Int} (h:(Lit.int .i64 n).wf=true):-9223372036854775808≤n∧n≤9223372036854775807:=by
 simp only [Lit.wf,Bool.and_eq_true,decide_eq_true_eq,show IntKind.i64.min=-9223372036854775808 from by decide,show IntKind.i64.max=9223372036854775807 from by decide] at h
 exact h

theorem open_row {H:Type} {enc:TypeId × Value→H} {w:World} {base:Nat} {sp:Nat→Bool} {held:Bool} {fuel:Nat} {a:Option Addr} {len cap:Nat} {x:DataW H × List MemPlace} (h:DataW.trod enc Tryz.prog w base sp held fuel 47 [.slice a len cap]=some x):∃z,len≤maxLen∧Cr.Nums w a len z:=by
 rcases Go.Deep.open_slice Tryz.underlying47 h with ⟨hcs,_⟩ | ⟨a',len',cap',m,n,D,Pl,hcs,_,hl,hm,hmm,_,hx⟩
 ·simp only [List.cons.injEq,Value.slice.injEq,and_true] at hcs
  obtain ⟨rfl,rfl,rfl⟩:=hcs
  exact ⟨fun _=>0,Nat.zero_le _,fun i hi=>absurd hi (Nat.not_lt_zero i)⟩
 ·simp only [List.cons.injEq,Value.slice.injEq,and_true] at hcs
  obtain ⟨rfl,rfl,rfl⟩:=hcs
  have hc1:Tryz.prog.cellsOf 3=1:=by kernel_rfl
  rw [hc1] at hx
  have hlm:len≤m:=by rw [hmm];split <;> omega
  obtain ⟨z,hz⟩:∃z:Nat→Int,∀i,i<len→w.cell? (a'.add (i*1))=some (.int .i64 (z i))∧(Lit.int .i64 (z i)).wf=true:=by
   refine Go.Deep.choose_lt (α:=Int) (p:=fun i e=>w.cell? (a'.add (i*1))=some (.int .i64 e)∧(Lit.int .i64 e).wf=true) fun i hi=>?_
   obtain ⟨cs',h1,h2⟩:=hx i (by omega)
   obtain ⟨_,hlen,hcell⟩:=World.cells?_some h1
   obtain ⟨e,rfl,_,hw⟩:=DataW.trod_int Tryz.underlying3 h2
   have h0:=hcell 0 (by omega)
   exact ⟨e,by simpa [Addr.add] using h0,hw⟩
  refine ⟨z,Nat.le_trans hl hm,fun i hi=>?_⟩
  obtain ⟨b,off,spot⟩:=a'
  have hc0:=(hz i hi).1
  have hspot:spot=none:=by simpa [Addr.add] using World.cell?_spot (hz 0 (by omega)).1
  subst hspot
  rw [add_plain,Nat.mul_one] at hc0
  have hb:=Go.block_lt_of_cell hc0
  exact ⟨b,off,rfl,hb,hc0,Cr.wf_bound (hz i hi).2⟩

def Cr.Came (w:World) (a:Option Addr) (len:Nat) (V:Nat→Option Addr × Nat × Nat) (z:Nat→Nat→Int):Prop :=
 len≤maxLen∧∀i,i<len→∃b o,a=some ⟨b,o,none⟩∧b<w.heap.size∧w.cell? ⟨b,o+i,none⟩=some (.slice (V i).1 (V i).2.1 (V i).2.2)∧(V i).2.1≤maxLen∧Cr.Nums w (V i).1 (V i).2.1 (z i)

theorem Cr.Came.on {w w':World} {a:Option Addr} {len:Nat} {V:Nat→Option Addr × Nat × Nat} {z:Nat→Nat→Int} (h:Cr.Came w a len V z) (hg:w.grownBy w' none):Cr.Came w' a len V z :=
 ⟨h.1,fun i hi=>by
  obtain ⟨b,o,ha,hb,hc,hn,hz⟩:=h.2 i hi
  exact ⟨b,o,ha,Nat.lt_of_lt_of_le hb hg.size,(gce hg b _ hb (by simp)).trans hc,hn,hz.on hg⟩⟩

theorem open_rows {H:Type} {enc:TypeId × Value→H} {w:World} {base:Nat} {sp:Nat→Bool} {held:Bool} {fuel:Nat} {a:Option Addr} {len cap:Nat} {x:DataW H × List MemPlace} (h:DataW.trod enc Tryz.prog w base sp held fuel 22 [.slice a len cap]=some x):∃V z,Cr.Came w a len V z:=by
 rcases Go.Deep.open_slice Tryz.underlying22 h with ⟨hcs,_⟩ | ⟨a',len',cap',m,n,D,Pl,hcs,_,hl,hm,hmm,_,hx⟩
 ·simp only [List.cons.injEq,Value.slice.injEq,and_true] at hcs
  obtain ⟨rfl,rfl,rfl⟩:=hcs
  exact ⟨fun _=>(none,0,0),fun _ _=>0,Nat.zero_le _,fun i hi=>absurd hi (Nat.not_lt_zero i)⟩
 ·simp only [List.cons.injEq,Value.slice.injEq,and_true] at hcs
  obtain ⟨rfl,rfl,rfl⟩:=hcs
  have hc1:Tryz.prog.cellsOf 47=1:=by kernel_rfl
  rw [hc1] at hx
  have hlm:len≤m:=by rw [hmm];split <;> omega
  obtain ⟨q,hq⟩:∃q:Nat→(Option Addr × Nat × Nat) × (Nat→Int),∀i,i<len→w.cell? (a'.add (i*1))=some (.slice (q i).1.1 (q i).1.2.1 (q i).1.2.2)∧(q i).1.2.1≤maxLen∧Cr.Nums w (q i).1.1 (q i).1.2.1 (q i).2:=by
   refine Go.Deep.choose_lt (α:=(Option Addr × Nat × Nat) × (Nat→Int)) (p:=fun i e=>w.cell? (a'.add (i*1))=some (.slice e.1.1 e.1.2.1 e.1.2.2)∧e.1.2.1≤maxLen∧Cr.Nums w e.1.1 e.1.2.1 e.2) fun i hi=>?_
   obtain ⟨cs',h1,h2⟩:=hx i (by omega)
   obtain ⟨_,hlen,hcell⟩:=World.cells?_some h1
   have h0:=hcell 0 (by omega)
   obtain ⟨r,l,k,rfl⟩:∃r l k,cs'=[.slice r l k]:=by
    rcases Go.Deep.open_slice Tryz.underlying47 h2 with ⟨hcs,_⟩ | ⟨a2,len2,cap2,_,_,_,_,hcs,_⟩
    ·exact ⟨none,0,0,hcs⟩
    ·exact ⟨some a2,len2,cap2,hcs⟩
   obtain ⟨z,hz1,hz2⟩:=open_row h2
   exact ⟨((r,l,k),z),by simpa [Addr.add] using h0,hz1,hz2⟩
  refine ⟨fun i=>(q i).1,fun i=>(q i).2,Nat.le_trans hl hm,fun i hi=>?_⟩
  obtain ⟨b,off,spot⟩:=a'
  have hc0:=(hq i hi).1
  have hspot:spot=none:=by simpa [Addr.add] using World.cell?_spot (hq 0 (by omega)).1
  subst hspot
  rw [add_plain,Nat.mul_one] at hc0
  exact ⟨b,off,rfl,Go.block_lt_of_cell hc0,hc0,(hq i hi).2.1,(hq i hi).2.2⟩

end Go.Proofs.YtepppmepilffcaaGreat
