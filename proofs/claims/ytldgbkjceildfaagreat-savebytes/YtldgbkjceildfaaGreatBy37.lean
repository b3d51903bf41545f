import Derived.Test.YtldgbkjceildfaaGreatBy36
namespace Go.Proofs.YtldgbkjceildfaaGreat
open Go.RowKit

def Sn.Rds (l:List Int) (r:Int):Prop :=
 if l.length<918 then r=7 else if l.length=918 then Sn.Chk (Sn.rs (Sn.fn l)) (Sn.rg (Sn.fn l)) (Sn.rc (Sn.fn l)) (Sn.rE (Sn.fn l)) (Sn.rI (Sn.fn l)) r else r=8

theorem Sn.Rds.one {l:List Int} {r r':Int} (h:Sn.Rds l r) (h':Sn.Rds l r'):r=r':=by
 unfold Sn.Rds at h h';split at h
 ·rename_i h1;rw [if_pos h1] at h';omega
 ·rename_i h1;rw [if_neg h1] at h';split at h
  ·rename_i h2;rw [if_pos h2] at h';exact h'.one h
  ·rename_i h2;rw [if_neg h2] at h';omega

def Sn.Reads (w:World) (l:List Int) (e:Ending) (w':World):Prop :=
 ∃r,Sn.Rds l r∧((r≠0∧e=.returned (.tuple #[.agg Sn.void,.int .i64 r])∧w.grownBy w' none) ∨
  (r=0∧l.length=918∧∃v,e=.returned (.tuple #[v,.int .i64 0])∧Gd.Worlds w (Sn.rs (Sn.fn l)) (Sn.rg (Sn.fn l)) (Sn.rc (Sn.fn l)) (Sn.rE (Sn.fn l)) (Sn.rI (Sn.fn l)) (.returned v) w'))

theorem Sn.reads_short {w w':World} {l:List Int} {n:Nat} {e:Ending} (hl:l.length=n) (hn:n≠918) (h:e=.returned (.tuple #[.agg Sn.void,.int .i64 (if n<918 then 7 else 8)])∧w.grownBy w' none):Sn.Reads w l e w':=by
 obtain ⟨rfl,hg⟩:=h;refine ⟨if n<918 then 7 else 8,?_,.inl ⟨by split <;> decide,rfl,hg⟩⟩;unfold Sn.Rds;rw [hl];split
 ·rfl
 ·first | rfl | rw [if_neg hn]

theorem Sn.reads_all {w w':World} {l:List Int} {e:Ending} (hl:l.length=918) (h:Sn.Decodes w (Sn.rs (Sn.fn l)) (Sn.rg (Sn.fn l)) (Sn.rc (Sn.fn l)) (Sn.rE (Sn.fn l)) (Sn.rI (Sn.fn l)) e w'):Sn.Reads w l e w':=by
 obtain ⟨r,hr,h⟩:=h;refine ⟨r,?_,?_⟩
 ·unfold Sn.Rds;rw [if_neg (by omega),if_pos hl];exact hr
 ·rcases h with ⟨h1,h2,h3⟩|⟨h1,h2⟩
  ·exact .inl ⟨h1,h2,h3⟩
  ·exact .inr ⟨h1,hl,h2⟩

section
variable {w x:World} {G n cap:Nat} {l:List Int}

end


open Go.RowKit

def Sv.camp (s:Nat→Int) (gC gE gI cC cE cI:Nat) (g:Nat→Int) (t:Nat→Bool):Array Value :=
 #[.int .i64 (s 0),.int .i64 (s 1),.int .i64 (s 2),.int .i64 (s 3),.slice (some ⟨gC,0,none⟩) 384 cC,.slice (some ⟨gE,0,none⟩) 32 cE,.slice (some ⟨gI,0,none⟩) 40 cI,.int .i64 (g 0),.int .i64 (g 1),.int .i64 (g 2),.int .i64 (g 3),.bool (t 0),.bool (t 1),.bool (t 2),.bool (t 3)]

def Sv.box (s:Nat→Int) (gC gE gI cC cE cI:Nat) (g:Nat→Int) (t:Nat→Bool) (j:Nat):Value:=if j<11 then Gd.box s gC gE gI cC cE cI g j else .bool (t (j - 11))

theorem Sv.camp_at (s:Nat→Int) (gC gE gI cC cE cI:Nat) (g:Nat→Int) (t:Nat→Bool) (j:Nat) (hj:j<15):(Sv.camp s gC gE gI cC cE cI g t)[j]?=some (Sv.box s gC gE gI cC cE cI g t j):=by
 rcases (show j=0∨j=1∨j=2∨j=3∨j=4∨j=5∨j=6∨j=7∨j=8∨j=9∨j=10∨j=11∨j=12∨j=13∨j=14 by omega) with rfl|rfl|rfl|rfl|rfl|rfl|rfl|rfl|rfl|rfl|rfl|rfl|rfl|rfl|rfl <;> rfl

theorem Sv.camp_lie {w:World} {B:Nat} {s:Nat→Int} {gC gE gI cC cE cI:Nat} {g:Nat→Int} {t:Nat→Bool} (h:w.heap[B]?=some (.cells (Sv.camp s gC gE gI cC cE cI g t) 33 (0,0))):Lie w B 33 15 (Sv.box s gC gE gI cC cE cI g t) :=
 Arr.lie (m:=15) ⟨_,h,rfl,fun i hi=>Sv.camp_at s gC gE gI cC cE cI g t i hi⟩

theorem Sv.fifteen {x:World} {B:Nat} {s:Nat→Int} {gC gE gI cC cE cI:Nat} {g:Nat→Int} {t:Nat→Bool} (h:Lie x B 33 15 (Sv.box s gC gE gI cC cE cI g t)) :
  (x.cell? ⟨B,0,none⟩=some (.int .i64 (s 0))∧x.cell? ⟨B,1,none⟩=some (.int .i64 (s 1))∧x.cell? ⟨B,2,none⟩=some (.int .i64 (s 2))∧x.cell? ⟨B,3,none⟩=some (.int .i64 (s 3))∧x.cell? ⟨B,4,none⟩=some (.slice (some ⟨gC,0,none⟩) 384 cC)∧x.cell? ⟨B,5,none⟩=some (.slice (some ⟨gE,0,none⟩) 32 cE)∧x.cell? ⟨B,6,none⟩=some (.slice (some ⟨gI,0,none⟩) 40 cI)∧x.cell? ⟨B,7,none⟩=some (.int .i64 (g 0))∧x.cell? ⟨B,8,none⟩=some (.int .i64 (g 1))∧x.cell? ⟨B,9,none⟩=some (.int .i64 (g 2))∧x.cell? ⟨B,10,none⟩=some (.int .i64 (g 3))) ∧
  x.cell? ⟨B,11,none⟩=some (.bool (t 0))∧x.cell? ⟨B,12,none⟩=some (.bool (t 1))∧x.cell? ⟨B,13,none⟩=some (.bool (t 2))∧x.cell? ⟨B,14,none⟩=some (.bool (t 3)) :=
 ⟨⟨h.cell (c:=0) (by omega),h.cell (c:=1) (by omega),h.cell (c:=2) (by omega),h.cell (c:=3) (by omega),h.cell (c:=4) (by omega),h.cell (c:=5) (by omega),h.cell (c:=6) (by omega),h.cell (c:=7) (by omega),h.cell (c:=8) (by omega),h.cell (c:=9) (by omega),h.cell (c:=10) (by omega)⟩,h.cell (c:=11) (by omega),h.cell (c:=12) (by omega),h.cell (c:=13) (by omega),h.cell (c:=14) (by omega)⟩

def Sv.bit (b:Bool) (v:Int):Int:=if b=true then v else 0
def Sv.seats (t:Nat→Bool):Nat→Int
 | 0=>0
 | i+1=>Sv.seats t i+Sv.bit (t i) (2 ^ i)

theorem Sv.seats_low (t:Nat→Bool):∀i,0≤Sv.seats t i∧Sv.seats t i<2 ^ i
 | 0=>⟨Int.le_refl _,by show (0:Int)<2 ^ 0;decide⟩
 | i+1=>by
  have h:=Sv.seats_low t i;unfold Sv.seats Sv.bit;rw [Int.pow_succ];split <;> omega

def Sv.Encodes (w:World) (s g c:Nat→Int) (E I:Nat→Nat→Int) (t:Nat→Bool) (e:Ending) (w':World):Prop :=
 ∃r,Sn.Chk s g c E I r∧((r≠0∧e=.returned (.tuple #[.slice none 0 0,.int .i64 r])∧w.grownBy w' none) ∨
  (r=0∧∃G cap,e=.returned (.tuple #[.slice (some ⟨G,0,none⟩) 919 cap,.int .i64 0])∧Sn.Buf w w' G 919 cap (Sv.seats t 4 :: Sn.bytes s g c E I)))

theorem make1:∃Z:Array Value,(∀w:World,(Instr.makeSlice 24 (.int .i64 1) (.int .i64 919)).run Tryz.prog w=.ok (.slice (some ⟨w.heap.size,0,none⟩) 1 919) (w.alloc (.cells Z 5)))∧∀w x:World,w.heap.size≤x.heap.size→w.grownBy x none→Sn.Buf w (x.alloc (.cells Z 5)) x.heap.size 1 919 [0]:=by
 obtain ⟨i0,hi,hz0,hz1,hz2⟩:=info_parts info_byte;refine ⟨madeCells #[Value.int .u8 0] 919,fun w=>?_,fun w x hs hg=>?_⟩
 ·have hr:=run_make (P:=Tryz.prog) w 24 5 i0 _ Tryz.underlying24 hi hz0 .i64 .i64 (1:Nat) (919:Nat) (by omega) (by omega) (by rw [hz2];decide) (by decide);rw [hz1] at hr;exact hr
 ·refine ⟨⟨rfl,.inr ⟨x.heap.size,919,madeCells #[Value.int .u8 0] 919,rfl,hs,heap_alloc_new x _,by decide,by unfold maxLen;omega,by rw [size_madeCells],?_⟩⟩,fun b hb=>?_,gtr hg (World.grownBy_alloc _ _ _)⟩
  ·rw [toList_madeCells_one];rfl
  ·simp only [List.mem_singleton] at hb;omega

theorem Sv.or_seat (t:Nat→Bool) {i:Nat} (hi:i<4) (h:t i=true):bits BinOp.or IntKind.u8 (Sv.seats t i) (2 ^ i % 256)=Sv.seats t (i+1):=by
 obtain ⟨q0,q1⟩:=Sv.seats_low t i;show _=Sv.seats t i+Sv.bit (t i) (2 ^ i);unfold Sv.bit;rw [if_pos h];generalize Sv.seats t i=v at q0 q1 ⊢;rcases (show i=0∨i=1∨i=2∨i=3 by omega) with rfl|rfl|rfl|rfl
 ·obtain rfl:v=0:=by omega
  decide
 ·rcases (show v=0∨v=1 by omega) with rfl|rfl <;> decide
 ·rcases (show v=0∨v=1∨v=2∨v=3 by omega) with rfl|rfl|rfl|rfl <;> decide
 ·rcases (show v=0∨v=1∨v=2∨v=3∨v=4∨v=5∨v=6∨v=7 by omega) with rfl|rfl|rfl|rfl|rfl|rfl|rfl|rfl <;> decide

theorem Sv.no_seat (t:Nat→Bool) {i:Nat} (h:t i=false):Sv.seats t (i+1)=Sv.seats t i:=by
 show Sv.seats t i+Sv.bit (t i) (2 ^ i)=_;unfold Sv.bit;rw [h,if_neg (by decide)];omega

theorem Sv.seats_top (t:Nat→Bool) {i:Nat} (hi:i<5):Sv.seats t i≤15:=by
 have h:=(Sv.seats_low t i).2;rcases (show i=0∨i=1∨i=2∨i=3∨i=4 by omega) with rfl|rfl|rfl|rfl|rfl <;> omega

theorem Sn.Buf.past {w x y:World} {B:Nat→Prop} {G n cap:Nat} {l:List Int} (h:Sn.Buf w x G n cap l) (ht:Turn B x y) (hB:¬B G) (hl:∀k,B k→w.heap.size≤k):Sn.Buf w y G n cap l :=
 ⟨owns_turned h.own ht (fun k e=>by simp only [Value.ownBlock,Option.some.injEq] at e;rw [←e];exact hB),h.byte,(((Turn.new (B:=fun _=>False) h.grown).trans (C:=B) ht (fun i hi q=>absurd (hl i q) (by omega)))).grownBy⟩

theorem Sv.run_seat (t:Nat→Bool) {i:Nat} (hi:i<4) (w:World):(Instr.index 31 (.agg #[.bool (t 0),.bool (t 1),.bool (t 2),.bool (t 3)]) (.int .i64 (i:Int))).run Tryz.prog w=.ok (.bool (t i)) w:=by
 rcases (show i=0∨i=1∨i=2∨i=3 by omega) with rfl|rfl|rfl|rfl <;> simp [Instr.index,run_underlying Tryz.underlying31,asIntOf,go_sem]

set_option maxRecDepth 16000 in
set_option maxHeartbeats 6400000 in
theorem svEncode_any (s g c:Nat→Int) (E I:Nat→Nat→Int) (t:Nat→Bool) (gC gE gI cC cE cI:Nat) (w:World) (hL:Gd.Lists w gC gE gI c E I) (hc:∀i,0≤c i∧c i≤255) (hcE:32≤cE) :
  Calls Tryz.prog 9 #[.agg (Sv.camp s gC gE gI cC cE cI g t)] w (Sv.Encodes w s g c E I t):=by
 obtain ⟨w0,hw0⟩:∃w0,w0=w.alloc (.cells (Sv.camp s gC gE gI cC cE cI g t) 33):=⟨_,rfl⟩;have hg0:w.grownBy w0 none:=by rw [hw0];exact World.grownBy_alloc _ _ _
 have hB:Hid (Lie w0 w.heap.size 33 15 (Sv.box s gC gE gI cC cE cI g t)):=by
  show Lie w0 _ _ _ _;rw [hw0];exact Sv.camp_lie (heap_alloc_new w _)
 have ce:=hide (encode_any s g c E I gC gE gI cC cE cI w0 (hL.on hg0) hc hcE);have hby:=hide (Sn.bytes_byte s g c E I hc);have hbl:=hide (Sn.bytes_len s g c E I);obtain ⟨l,hl⟩:∃l,Sn.bytes s g c E I=l:=⟨_,rfl⟩;have hD1:Hid (∀r x,Sn.Chk s g c E I r→r≠0→w.grownBy x none→Sv.Encodes w s g c E I t (.returned (.tuple #[.slice none 0 0,.int .i64 r])) x):=fun r x h1 h2 h3=>⟨r,h1,.inl ⟨h2,rfl,h3⟩⟩;have hD0:Hid (∀G cap x,Sn.Chk s g c E I 0→Sn.Buf w x G 919 cap (Sv.seats t 4 :: l)→Sv.Encodes w s g c E I t (.returned (.tuple #[.slice (some ⟨G,0,none⟩) 919 cap,.int .i64 0])) x):=fun G cap x h1 h2=>⟨0,h1,.inr ⟨rfl,G,cap,rfl,by rw [hl];exact h2⟩⟩;obtain ⟨D,hD⟩:∃D,Sv.Encodes w s g c E I t=D:=⟨_,rfl⟩;rw [hD] at hD1 hD0 ⊢;have HG:=hide hg0;have HL:=hide hl;clear hg0 hL hc hcE hD hl;unfold Sv.camp at hw0 ⊢;unfold Gd.world at ce;go_enter Tryz.func9,Tryz.ntmps9;go_upto_region 1 with fail;rw [←hw0];clear hw0;obtain ⟨B,hBe⟩:∃B,w.heap.size=B:=⟨_,rfl⟩;rw [hBe] at hB ⊢;clear hBe;obtain ⟨⟨b0,b1,b2,b3,b4,b5,b6,b7,b8,b9,b10⟩,b11,b12,b13,b14⟩:=Sv.fifteen (uh hB);go_wp2_with fail;refine (uh ce).mono ?_;rintro e w1 ⟨v,r,rfl,hr,-,hown,hg1⟩;have HR:=hide hr;have HB1:=hide ((uh hB).on hg1);have HG1:=hide (gtr (uh HG) hg1);by_cases h0:r=0
 ·subst h0;obtain ⟨g0,k0,rfl,hbuf⟩:=Sn.Bytes.buf (w:=w) (hown rfl) (uh hby) (by have:=uh hbl;omega) (uh HG).size (uh HG1);rw [uh hbl,uh HL] at hbuf;rw [uh hbl];have hlt0:g0<w1.heap.size:=(hbuf.own.lt g0 rfl).2;have hW:=hide hbuf;clear hown hr hg1 ce b0 b1 b2 b3 b4 b5 b6 b7 b8 b9 b10 b11 b12 b13 b14 hB HG hbuf;obtain ⟨-,b11,b12,b13,b14⟩:=Sv.fifteen (uh HB1);obtain ⟨Z,hmk,hZ⟩:=make1;have hX:=hide (hZ w w1 (uh HG1).size (uh HG1));have hmk1:=hmk w1;clear hZ hmk;obtain ⟨G,hG⟩:∃G,w1.heap.size=G:=⟨_,rfl⟩;have hGw:Hid (w.heap.size≤G):=(show w.heap.size≤G by rw [←hG];exact (uh HG1).size);rw [hG] at hmk1 hX hlt0;clear hG;obtain ⟨x0,hx0⟩:∃x,w1.alloc (.cells Z 5)=x:=⟨_,rfl⟩;rw [hx0] at hX hmk1;have hg0:w1.grownBy x0 none:=by rw [←hx0];exact World.grownBy_alloc _ _ _
  obtain ⟨-,c11,c12,c13,c14⟩:=Sv.fifteen ((uh HB1).on hg0);have hW0:=hide ((uh hW).on hg0);have hlen:Hid (l.length=918):=by show _=_;rw [←uh HL];exact uh hbl
  have hlt0':=hide hlt0;clear hx0 hg0 hW hlt0 hby hbl HL;go_wp2_with fail
  go_loopw [21] (fun vi wr=>∃i:Nat,i≤4∧vi=.int .i64 (i:Int)∧Hid (Sn.Buf w wr G 1 919 [Sv.seats t i]∧Turn (fun k=>k=G) x0 wr)) (fun vi _=>10 - (intOf vi).toNat)
  case atStart=>exact ⟨0,by omega,rfl,uh hX,Turn.refl _ _⟩
  case round =>
   clear hX;obtain ⟨i,hi,rfl,hX⟩:=hrel;by_cases hlt:i<4
   ·have HL:=hide hlt;have u0:wr.cell? ⟨G,0,none⟩=some (.int .u8 (Sv.seats t i)):=(uh hX).1.cell (k:=0) (by omega);have f0:=(uh hX).1.free;have hix:=Sv.run_seat t hlt;have hlt':(i:Int)<4:=by omega
    have hl0:(0:Int)≤(i:Int):=by omega
    cases htb:t i with
    | true =>
     have hor:=Sv.or_seat t hlt htb;have hn:=hide (And.intro ((uh hX).1.turn 0 (Sv.seats t (i+1)) (Sv.seats_low t _).1 (by have:=Sv.seats_top t (i:=i+1) (by omega);omega)) ((uh hX).2.store G 0 (.int .u8 (Sv.seats t (i+1))) rfl));rw [htb] at hix;clear hlt hi hX htb;go_wp2_with fail
     go_region
     all_goals (
      go_wp2;go_roundw;case rel=>exact ⟨i+1,by have:=uh HL;omega,by go_num,(uh hn).1.on (gd1 (World.grownBy.refl _ none)),(uh hn).2.drew 1⟩
      case measure=>simp [intOf];have:=uh HL;omega)
    | false =>
     have hor:=Sv.no_seat t htb;rw [htb] at hix;rw [←hor] at hX;clear hlt hi htb hor;go_wp2;go_roundw;case rel=>exact ⟨i+1,by have:=uh HL;omega,by go_num,hX⟩
     case measure=>simp [intOf];have:=uh HL;omega
   ·obtain rfl:i=4:=by omega
    have hge:¬((4:Nat):Int)<4:=by omega
    have hsrc:=hide ((uh hW0).past (uh hX).2 (by have:=uh hlt0';omega) (fun k q=>by have:=uh hGw;omega)).src;have hmore:=hide (fun z v' hown hg=>(uh hX).1.more (z:=z) (v':=v') (lm:=l) hown hg (uh hW0).byte (by omega));have hown:=hide (uh hX).1.own;have hsz:=hide (uh hX).1.grown.size;have hr0:=hide (uh HR);have hd:=hide (fun G cap x=>uh hD0 G cap x (uh HR));have hl9:=uh hlen;obtain ⟨sv,hsv⟩:∃sv,Sv.seats t 4=sv:=⟨_,rfl⟩;rw [hsv] at hown hmore hd;rw [show 1+l.length=919 by omega] at hmore;clear hX hlt hi hsv;go_wp2_with (at_builtin;refine wpList_append_wide rfl _ _ rfl w.heap.size _ 1 _ rfl (uh hown) _ l rfl (uh hsrc) (by omega) (uh hsz) ?_);intro v1 wm hown1 hgrow _;obtain ⟨G1,c1,rfl,hB1⟩:=uh hmore wm v1 hown1 hgrow;have hB2:=hide hB1;clear hown1 hgrow hmore hB1;have hfin:=hide (uh hd G1 c1 wm (uh hB2));go_wp2;first | exact uh hfin | (go_ret2;exact uh hfin)
 ·have h0':(r != 0)=true:=by simp [h0]
  have hfin:=hide (uh hD1 r w1 hr h0 (uh HG1));clear hr h0 hown hg1 ce b0 b1 b2 b3 b4 b5 b6 b7 b8 b9 b10 b11 b12 b13 b14 hB HB1 HG HG1 HR;go_wp2;first | exact uh hfin | (go_ret2;exact uh hfin)

end Go.Proofs.YtldgbkjceildfaaGreat
