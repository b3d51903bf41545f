import Derived.Test.YtepppmepilffcaaGreatPw11
import Derived.Laws.BytesArg
import Derived.ChangeKeysEq
namespace Go.Proofs.YtepppmepilffcaaGreat
open Go.RowKit

def Gd.text (c:Nat→Int):ByteArray:=strOfNums ((List.range 384).map c)

theorem Lie.text {w:World} {G cap:Nat} {c:Nat→Int} (h:Lie w G 5 384 (Byts c)):(convert 26 9 (.slice (some ⟨G,0,none⟩) 384 cap)).run Tryz.prog w=.ok (.string (Gd.text c)) w:=by
 refine run_convert_bytes_arg w 26 5 Tryz.underlying26 Tryz.underlying5 G 0 384 cap ((List.range 384).map c) (by simp) (fun i hi=>?_) 9 Tryz.underlying9
 rw [Nat.zero_add,h.cell hi]
 show some (Value.int .u8 (c i))=_
 simp [List.getD,List.getElem?_map,List.getElem?_range hi]

theorem run_eq_gold (a b c d:Int) (w:World):(Op.equalIn 10000 29 (.agg #[.int .i64 a,.int .i64 b,.int .i64 c,.int .i64 d]) (.agg #[.int .i64 a,.int .i64 b,.int .i64 c,.int .i64 d])).run Tryz.prog w=.ok true w:=by
 obtain ⟨i0,hi,_,_,_⟩:=info_parts info_int
 have hc:Tryz.prog.cellsOf 3=1:=by kernel_rfl
 have h:=run_equalIn_array (P:=Tryz.prog) (w:=w) 9999 #[.int .i64 a,.int .i64 b,.int .i64 c,.int .i64 d] #[.int .i64 a,.int .i64 b,.int .i64 c,.int .i64 d] Tryz.underlying29 hi
 have hr:(Op.eqItems 9999 3 (Tryz.prog.cellsOf 3) #[Value.int .i64 a,.int .i64 b,.int .i64 c,.int .i64 d] #[.int .i64 a,.int .i64 b,.int .i64 c,.int .i64 d] (List.range 4)).run Tryz.prog w=.ok true w:=by
  rw [hc]
  simp [List.range,List.range.loop,Op.eqItems,go_sem]
 rw [hr] at h
 exact h

set_option maxRecDepth 8000 in
set_option maxHeartbeats 6400000 in
theorem same7_any (s g c:Nat→Int) (E I:Nat→Nat→Int) (gC gE gI cC cE cI hC hE hI dC dE dI:Nat) (w:World) (hL:Gd.Lists w gC gE gI c E I) (hL2:Gd.Lists w hC hE hI c E I) :
  Calls Tryz.prog 14 #[.agg (Gd.world s gC gE gI cC cE cI g),.agg (Gd.world s hC hE hI dC dE dI g)] w (Says w (.bool true)):=by
 obtain ⟨W,hW⟩:∃W,W=(w.alloc (.cells (Gd.world s gC gE gI cC cE cI g) 31)).alloc (.cells (Gd.world s hC hE hI dC dE dI g) 31):=⟨_,rfl⟩
 have hg:w.grownBy W none:=by rw [hW];exact gal (World.grownBy_alloc _ _ _) _
 have x1:Lie W w.heap.size 31 11 (Gd.box s gC gE gI cC cE cI g):=by
  rw [hW]
  exact ((Arr.world (heap_alloc_new w _)).alloc _).lie
 have x2:Lie W (w.heap.size+1) 31 11 (Gd.box s hC hE hI dC dE dI g):=by
  rw [hW]
  have h:=heap_alloc_new (w.alloc (.cells (Gd.world s gC gE gI cC cE cI g) 31)) (.cells (Gd.world s hC hE hI dC dE dI g) 31)
  rw [show (w.alloc (.cells (Gd.world s gC gE gI cC cE cI g) 31)).heap.size=w.heap.size+1 by simp] at h
  exact (Arr.world h).lie
 obtain ⟨B,hB⟩:∃B,w.heap.size=B:=⟨_,rfl⟩
 rw [hB] at x1 x2
 have x1':=hide x1
 have x2':=hide x2
 have hL':=hide (hL.on hg)
 have hL2':=hide (hL2.on hg)
 have hg':=hide hg
 have t1:=(uh hL').cells.text (cap:=cC)
 have t2:=(uh hL2').cells.text (cap:=dC)
 obtain ⟨T,hT⟩:∃T,T=Gd.text c:=⟨_,rfl⟩
 rw [←hT] at t1 t2
 obtain ⟨a0,a1,a2,a3,a4,a5,a6,a7,a8,a9,a10⟩:=x1.eleven
 obtain ⟨b0,b1,b2,b3,b4,b5,b6,b7,b8,b9,b10⟩:=x2.eleven
 have keep:Hid (∀x,W.grownBy x none→(x.cell? ⟨B,5,none⟩=some (.slice (some ⟨gE,0,none⟩) 32 cE)∧x.cell? ⟨B,6,none⟩=some (.slice (some ⟨gI,0,none⟩) 40 cI)∧x.cell? ⟨B+1,5,none⟩=some (.slice (some ⟨hE,0,none⟩) 32 dE)∧x.cell? ⟨B+1,6,none⟩=some (.slice (some ⟨hI,0,none⟩) 40 dI))):=fun x h =>
  ⟨((uh x1').on h).eleven.2.2.2.2.2.1,((uh x1').on h).eleven.2.2.2.2.2.2.1,((uh x2').on h).eleven.2.2.2.2.2.1,((uh x2').on h).eleven.2.2.2.2.2.2.1⟩
 have hgold:=fun wx=>run_eq_gold (g 0) (g 1) (g 2) (g 3) wx
 clear hL hL2 hg hT x1 x2
 unfold Gd.world at hW ⊢
 go_enter Tryz.func14,Tryz.ntmps14
 go_upto_region 1 with fail
 rw [←hW]
 clear hW hB
 go_wp2_with fail
 go_loopw [5] (fun vi wr=>∃k:Nat,k≤32∧vi=.int .i64 (k:Int)∧W.grownBy wr none) (fun vi _=>200 - (intOf vi).toNat)
 case atStart=>exact ⟨0,by omega,rfl,World.grownBy.refl _ _⟩
 case round =>
  clear hgold t1 t2 a0 a1 a2 a3 a4 a5 a6 a7 a8 a9 a10 b0 b1 b2 b3 b4 b5 b6 b7 b8 b9 b10
  obtain ⟨k,hk,rfl,hgr⟩:=hrel
  have hgr':=hide hgr
  obtain ⟨k1,k2,k3,k4⟩:=uh keep wr hgr
  clear hgr
  by_cases hlt:k<32
  ·have hlt':(k:Int)<32:=by omega
   obtain ⟨u0,u1,u2,u3,u4,u5,u6,u7,u8,u9,u10⟩:=((uh hL').on (uh hgr')).own.ents.row hlt
   obtain ⟨s0,s1,s2,s3,s4,s5,s6,s7,s8,s9,s10⟩:=((uh hL2').on (uh hgr')).own.ents.row hlt
   have hdr:Hid (∀m,W.grownBy (wr.drewN m) none):=fun m=>gdw (uh hgr') m
   have HL:=hide hlt
   clear hlt
   go_wp2_with fail
   go_quiet (fail)
   go_wp2
   go_roundw
   case rel=>exact ⟨k+1,by have:=uh HL;omega,by go_num,uh hdr _⟩
   case measure=>simp [intOf];omega
  ·have hge:¬(k:Int)<32:=by omega
   clear hlt
   go_wp2_with fail
   go_loopw [6] (fun vi wr=>∃k:Nat,k≤40∧vi=.int .i64 (k:Int)∧W.grownBy wr none) (fun vi _=>200 - (intOf vi).toNat)
   case atStart=>exact ⟨0,by omega,rfl,uh hgr'⟩
   case round =>
    clear k1 k2 k3 k4 hge hgr'
    obtain ⟨k,hk,rfl,hgr⟩:=hrel
    have hgr':=hide hgr
    obtain ⟨k1,k2,k3,k4⟩:=uh keep wr hgr
    clear hgr
    by_cases hlt:k<40
    ·have hlt':(k:Int)<40:=by omega
     obtain ⟨u0,u1,u2,u3⟩:=((uh hL').on (uh hgr')).its.row hlt
     obtain ⟨s0,s1,s2,s3⟩:=((uh hL2').on (uh hgr')).its.row hlt
     have hdr:Hid (∀m,W.grownBy (wr.drewN m) none):=fun m=>gdw (uh hgr') m
     have HL:=hide hlt
     clear hlt
     go_wp2_with fail
     go_quiet (fail)
     go_wp2
     go_roundw
     case rel=>exact ⟨k+1,by have:=uh HL;omega,by go_num,uh hdr _⟩
     case measure=>simp [intOf];omega
    ·have hge:¬(k:Int)<40:=by omega
     have hfin:=hide (gtr (uh hg') (uh hgr'))
     go_wp2
     go_ret
     exact ⟨rfl,uh hfin⟩

end Go.Proofs.YtepppmepilffcaaGreat

namespace Go.Proofs.YtepppmepilffcaaGreat

def Sn.bt (v:Int) (k:Nat):Int:=v / 256 ^ k % 256

def Sn.num (n:Nat) (v:Int):List Int:=(List.range n).map fun j=>Sn.bt v (n - 1 - j)

def Sn.be (l:List Int):Int:=l.foldl (fun a b=>a*256+b) 0

theorem Sn.be_more (l:List Int) (b:Int):Sn.be (l ++ [b])=Sn.be l*256+b:=by
 unfold Sn.be
 rw [List.foldl_append]
 rfl

theorem Sn.num_len (n:Nat) (v:Int):(Sn.num n v).length=n:=by simp [Sn.num]

theorem Sn.bt_down (v:Int) (k:Nat):Sn.bt v (k+1)=Sn.bt (v / 256) k:=by
 unfold Sn.bt
 rw [Int.pow_succ,Int.mul_comm,Int.ediv_ediv_of_nonneg (by omega)]

theorem Sn.num_more (n:Nat) (v:Int):Sn.num (n+1) v=Sn.num n (v / 256) ++ [v % 256]:=by
 unfold Sn.num
 rw [List.range_succ,List.map_append]
 congr 1
 ·refine List.map_congr_left fun j hj=>?_
  have hj':j<n:=List.mem_range.1 hj
  rw [show n+1 - 1 - j=(n - 1 - j)+1 by omega,Sn.bt_down]
 ·simp [Sn.bt]

theorem Sn.be_num:∀(n:Nat) (v:Int),0≤v→v<256 ^ n→Sn.be (Sn.num n v)=v
 | 0,v,h0,h1=>by
  have:v<1:=by simpa using h1
  have hv:v=0:=by omega
  subst hv
  rfl
 | n+1,v,h0,h1=>by
  have hlt:v / 256<256 ^ n:=by
   rw [Int.pow_succ] at h1
   exact Int.ediv_lt_of_lt_mul (by omega) h1
  rw [Sn.num_more,Sn.be_more,Sn.be_num n (v / 256) (by omega) hlt]
  omega

theorem Sn.num_byte (n:Nat) (v:Int):∀b∈Sn.num n v,0≤b∧b≤255:=by
 intro b hb
 unfold Sn.num at hb
 obtain ⟨j,_,rfl⟩:=List.mem_map.1 hb
 unfold Sn.bt
 omega

def Sn.rows (k m:Nat) (f:Nat→Nat→Int):List Int:=(List.range k).flatMap fun i=>(List.range m).map fun j=>f i j % 256

theorem Sn.rows_more (k m:Nat) (f:Nat→Nat→Int):Sn.rows (k+1) m f=Sn.rows k m f ++ (List.range m).map fun j=>f k j % 256:=by
 unfold Sn.rows
 rw [List.range_succ,List.flatMap_append]
 simp

theorem Sn.rows_len (m:Nat) (f:Nat→Nat→Int):∀k,(Sn.rows k m f).length=k*m
 | 0=>by simp [Sn.rows]
 | k+1=>by
  rw [Sn.rows_more,List.length_append,Sn.rows_len m f k]
  simp [Nat.succ_mul]

theorem Sn.rows_at {m:Nat} {f:Nat→Nat→Int}:∀{k i j:Nat},i<k→j<m→(Sn.rows k m f)[i*m+j]?=some (f i j % 256)
 | 0,_,_,h,_=>absurd h (by omega)
 | k+1,i,j,hi,hj=>by
  rw [Sn.rows_more]
  by_cases e:i<k
  ·have hlt:i*m+j<k*m:=by
    have:(i+1)*m≤k*m:=Nat.mul_le_mul_right m e
    rw [Nat.succ_mul] at this
    omega
   rw [List.getElem?_append_left (by rw [Sn.rows_len];exact hlt),Sn.rows_at e hj]
  ·obtain rfl:i=k:=by omega
   rw [List.getElem?_append_right (by rw [Sn.rows_len];omega),Sn.rows_len,show i*m+j - i*m=j by omega,List.getElem?_map,List.getElem?_range hj]
   rfl

theorem Sn.rows_byte (k m:Nat) (f:Nat→Nat→Int):∀b∈Sn.rows k m f,0≤b∧b≤255:=by
 intro b hb
 unfold Sn.rows at hb
 obtain ⟨i,_,hb⟩:=List.mem_flatMap.1 hb
 obtain ⟨j,_,rfl⟩:=List.mem_map.1 hb
 omega

def Sn.golds (k:Nat) (g:Nat→Int):List Int:=(List.range k).flatMap fun t=>Sn.num 2 (g t % 18446744073709551616)

theorem Sn.golds_more (k:Nat) (g:Nat→Int):Sn.golds (k+1) g=Sn.golds k g ++ Sn.num 2 (g k % 18446744073709551616):=by
 unfold Sn.golds
 rw [List.range_succ,List.flatMap_append]
 simp

theorem Sn.golds_len (g:Nat→Int):∀k,(Sn.golds k g).length=k*2
 | 0=>by simp [Sn.golds]
 | k+1=>by
  rw [Sn.golds_more,List.length_append,Sn.golds_len g k,Sn.num_len]
  omega

def Sn.head (s:Nat→Int):List Int:=Sn.num 8 (s 0 % 18446744073709551616) ++ Sn.num 4 (s 1 % 18446744073709551616) ++ [s 2 % 256,s 3 % 256]

theorem Sn.head_len (s:Nat→Int):(Sn.head s).length=14:=by
 unfold Sn.head
 simp [Sn.num_len]

def Sn.bytes (s g c:Nat→Int) (E I:Nat→Nat→Int):List Int:=Sn.head s ++ Sn.golds 4 g ++ (List.range 384).map c ++ Sn.rows 32 11 E ++ Sn.rows 40 4 I

theorem Sn.bytes_len (s g c:Nat→Int) (E I:Nat→Nat→Int):(Sn.bytes s g c E I).length=918:=by
 unfold Sn.bytes
 simp only [List.length_append,Sn.head_len,Sn.golds_len,Sn.rows_len,List.length_map,List.length_range]

theorem Sn.golds_byte (k:Nat) (g:Nat→Int):∀b∈Sn.golds k g,0≤b∧b≤255:=by
 intro b hb
 unfold Sn.golds at hb
 obtain ⟨i,_,hb⟩:=List.mem_flatMap.1 hb
 exact Sn.num_byte _ _ b hb

theorem Sn.head_byte (s:Nat→Int):∀b∈Sn.head s,0≤b∧b≤255:=by
 intro b hb
 unfold Sn.head at hb
 simp only [List.mem_append,List.mem_cons,List.not_mem_nil,or_false] at hb
 rcases hb with (hb | hb) | rfl | rfl
 ·exact Sn.num_byte _ _ b hb
 ·exact Sn.num_byte _ _ b hb
 ·omega
 ·omega

theorem Sn.bytes_byte (s g c:Nat→Int) (E I:Nat→Nat→Int) (hc:∀i,0≤c i∧c i≤255):∀b∈Sn.bytes s g c E I,0≤b∧b≤255:=by
 intro b hb
 unfold Sn.bytes at hb
 simp only [List.mem_append] at hb
 rcases hb with (((hb | hb) | hb) | hb) | hb
 ·exact Sn.head_byte _ b hb
 ·exact Sn.golds_byte _ _ b hb
 ·obtain ⟨i,_,rfl⟩:=List.mem_map.1 hb
  exact hc i
 ·exact Sn.rows_byte _ _ _ b hb
 ·exact Sn.rows_byte _ _ _ b hb

theorem Sn.len14 (s g:Nat→Int):(Sn.head s ++ Sn.golds 4 g).length=22:=by rw [List.length_append,Sn.head_len,Sn.golds_len]

theorem Sn.len22 (s g c:Nat→Int):(Sn.head s ++ Sn.golds 4 g ++ (List.range 384).map c).length=406:=by rw [List.length_append,Sn.len14,List.length_map,List.length_range]

theorem Sn.len406 (s g c:Nat→Int) (E:Nat→Nat→Int):(Sn.head s ++ Sn.golds 4 g ++ (List.range 384).map c ++ Sn.rows 32 11 E).length=758:=by rw [List.length_append,Sn.len22,Sn.rows_len]

theorem Sn.bytes_item (s g c:Nat→Int) (E I:Nat→Nat→Int) {i j:Nat} (hi:i<40) (hj:j<4):(Sn.bytes s g c E I)[758+(i*4+j)]?=some (I i j % 256):=by
 unfold Sn.bytes
 rw [List.getElem?_append_right (by rw [Sn.len406];omega),Sn.len406,show 758+(i*4+j) - 758=i*4+j by omega]
 exact Sn.rows_at hi hj

theorem Sn.bytes_ent (s g c:Nat→Int) (E I:Nat→Nat→Int) {i j:Nat} (hi:i<32) (hj:j<11):(Sn.bytes s g c E I)[406+(i*11+j)]?=some (E i j % 256):=by
 unfold Sn.bytes
 have hlt:i*11+j<352:=by omega
 rw [List.getElem?_append_left (by rw [Sn.len406];omega),List.getElem?_append_right (by rw [Sn.len22];omega),Sn.len22,show 406+(i*11+j) - 406=i*11+j by omega]
 exact Sn.rows_at hi hj

theorem Sn.bytes_low (s g c:Nat→Int) (E I:Nat→Nat→Int) {k:Nat} (hk:k<406):(Sn.bytes s g c E I)[k]?=(Sn.head s ++ Sn.golds 4 g ++ (List.range 384).map c)[k]?:=by
 unfold Sn.bytes
 rw [List.getElem?_append_left (by rw [Sn.len406];omega),List.getElem?_append_left (by rw [Sn.len22];omega)]

theorem Sn.bytes_cell (s g c:Nat→Int) (E I:Nat→Nat→Int) {i:Nat} (hi:i<384):(Sn.bytes s g c E I)[22+i]?=some (c i):=by
 rw [Sn.bytes_low s g c E I (by omega),List.getElem?_append_right (by rw [Sn.len14];omega),Sn.len14,show 22+i - 22=i by omega,List.getElem?_map,List.getElem?_range hi]
 rfl

theorem Sn.bytes_gold (s g c:Nat→Int) (E I:Nat→Nat→Int) {t j:Nat} (ht:t<4) (hj:j<2):(Sn.bytes s g c E I)[14+2*t+j]?=(Sn.num 2 (g t % 18446744073709551616))[j]?:=by
 rw [Sn.bytes_low s g c E I (by omega),List.getElem?_append_left (by rw [Sn.len14];omega),List.getElem?_append_right (by rw [Sn.head_len];omega),Sn.head_len,show 14+2*t+j - 14=2*t+j by omega]
 have hg:∀k,t<k→(Sn.golds k g)[2*t+j]?=(Sn.num 2 (g t % 18446744073709551616))[j]?:=by
  intro k
  induction k with
  | zero=>intro h;omega
  | succ k ih =>
   intro h
   rw [Sn.golds_more]
   by_cases e:t<k
   ·rw [List.getElem?_append_left (by rw [Sn.golds_len];omega),ih e]
   ·obtain rfl:t=k:=by omega
    rw [List.getElem?_append_right (by rw [Sn.golds_len];omega),Sn.golds_len,show 2*t+j - t*2=j by omega]
 exact hg 4 ht

theorem Sn.bytes_head (s g c:Nat→Int) (E I:Nat→Nat→Int) {k:Nat} (hk:k<14):(Sn.bytes s g c E I)[k]?=(Sn.head s)[k]?:=by
 rw [Sn.bytes_low s g c E I (by omega),List.getElem?_append_left (by rw [Sn.len14];omega),List.getElem?_append_left (by rw [Sn.head_len];omega)]

def Sn.cut (F:Nat→Int) (at_ n:Nat):List Int:=(List.range n).map fun j=>F (at_+j)

theorem Sn.cut_more (F:Nat→Int) (at_ n:Nat):Sn.cut F at_ (n+1)=Sn.cut F at_ n ++ [F (at_+n)]:=by
 unfold Sn.cut
 rw [List.range_succ,List.map_append]
 rfl

theorem Sn.cut_is {F:Nat→Int} {at_ n:Nat} {l:List Int} (hl:l.length=n) (h:∀j,j<n→some (F (at_+j))=l[j]?):Sn.cut F at_ n=l:=by
 refine List.ext_getElem? fun j=>?_
 unfold Sn.cut
 rw [List.getElem?_map]
 by_cases hj:j<n
 ·rw [List.getElem?_range hj]
  exact h j hj
 ·rw [List.getElem?_eq_none (by simp;omega),List.getElem?_eq_none (by omega)]
  rfl

theorem Sn.be_bound:∀(n:Nat) (F:Nat→Int) (at_:Nat),(∀j,j<n→0≤F (at_+j)∧F (at_+j)≤255)→0≤Sn.be (Sn.cut F at_ n)∧Sn.be (Sn.cut F at_ n)<256 ^ n
 | 0,F,a,_=>by simp [Sn.cut,Sn.be]
 | n+1,F,a,h=>by
  obtain ⟨h0,h1⟩:=Sn.be_bound n F a (fun j hj=>h j (by omega))
  have hb:=h n (by omega)
  rw [Sn.cut_more,Sn.be_more,Int.pow_succ]
  omega

def Sn.rs (F:Nat→Int):Nat→Int
 | 0=>if Sn.be (Sn.cut F 0 8)<9223372036854775808 then Sn.be (Sn.cut F 0 8) else Sn.be (Sn.cut F 0 8) - 18446744073709551616
 | 1=>Sn.be (Sn.cut F 8 4)
 | 2=>F 12
 | _=>F 13

def Sn.rg (F:Nat→Int) (t:Nat):Int:=Sn.be (Sn.cut F (14+2*t) 2)
def Sn.rc (F:Nat→Int) (i:Nat):Int:=F (22+i)
def Sn.rE (F:Nat→Int) (i j:Nat):Int:=F (406+(i*11+j))
def Sn.rI (F:Nat→Int) (i j:Nat):Int:=F (758+(i*4+j))

def Sn.fn (l:List Int) (k:Nat):Int:=l[k]?.getD 0

theorem Sn.fn_at {l:List Int} {k:Nat} (hk:k<l.length):l[k]?=some (Sn.fn l k):=by
 unfold Sn.fn
 rw [List.getElem?_eq_getElem hk]
 rfl

theorem Sn.back {s g c:Nat→Int} {E I:Nat→Nat→Int} (h0:-9223372036854775808≤s 0∧s 0<9223372036854775808) (h1:0≤s 1∧s 1<4294967296) (h2:0≤s 2∧s 2≤255) (h3:0≤s 3∧s 3≤255) (hg:∀t,t<4→0≤g t∧g t<65536) (hE:∀i j,i<32→j<11→0≤E i j∧E i j≤255) (hI:∀i j,i<40→j<4→0≤I i j∧I i j≤255) :
  (∀k,k<4→Sn.rs (Sn.fn (Sn.bytes s g c E I)) k=s k)∧(∀t,t<4→Sn.rg (Sn.fn (Sn.bytes s g c E I)) t=g t)∧(∀i,i<384→Sn.rc (Sn.fn (Sn.bytes s g c E I)) i=c i)∧(∀i j,i<32→j<11→Sn.rE (Sn.fn (Sn.bytes s g c E I)) i j=E i j)∧(∀i j,i<40→j<4→Sn.rI (Sn.fn (Sn.bytes s g c E I)) i j=I i j):=by
 have hl:=Sn.bytes_len s g c E I
 have hf:∀k,k<918→some (Sn.fn (Sn.bytes s g c E I) k)=(Sn.bytes s g c E I)[k]?:=fun k hk=>(Sn.fn_at (by rw [hl];exact hk)).symm
 have hh:∀k,k<14→some (Sn.fn (Sn.bytes s g c E I) k)=(Sn.head s)[k]?:=fun k hk=>by rw [hf k (by omega),Sn.bytes_head s g c E I hk]
 have l8:∀v,(Sn.num 8 v).length=8:=Sn.num_len 8
 have l4:∀v,(Sn.num 4 v).length=4:=Sn.num_len 4
 refine ⟨fun k hk=>?_,fun t ht=>?_,fun i hi=>?_,fun i j hi hj=>?_,fun i j hi hj=>?_⟩
 ·rcases (show k=0∨k=1∨k=2∨k=3 by omega) with rfl | rfl | rfl | rfl
  ·have e:Sn.cut (Sn.fn (Sn.bytes s g c E I)) 0 8=Sn.num 8 (s 0 % 18446744073709551616):=Sn.cut_is (Sn.num_len _ _) fun j hj=>by
    rw [Nat.zero_add,hh j (by omega)]
    unfold Sn.head
    rw [List.getElem?_append_left (by simp [l8,l4];omega),List.getElem?_append_left (by rw [l8];exact hj)]
   show (if Sn.be (Sn.cut _ 0 8)<9223372036854775808 then _ else _)=_
   rw [e,Sn.be_num 8 _ (by omega) (by omega)]
   split <;> omega
  ·have e:Sn.cut (Sn.fn (Sn.bytes s g c E I)) 8 4=Sn.num 4 (s 1 % 18446744073709551616):=Sn.cut_is (Sn.num_len _ _) fun j hj=>by
    rw [hh (8+j) (by omega)]
    unfold Sn.head
    rw [List.getElem?_append_left (by simp [l8,l4];omega),List.getElem?_append_right (by rw [l8];omega),l8,show 8+j - 8=j by omega]
   show Sn.be (Sn.cut _ 8 4)=_
   rw [e,Sn.be_num 4 _ (by omega) (by omega)]
   omega
  ·have e:=hh 12 (by omega)
   unfold Sn.head at e
   rw [List.getElem?_append_right (by simp [l8,l4])] at e
   simp [l8,l4] at e
   show Sn.fn _ 12=_
   rw [e]
   omega
  ·have e:=hh 13 (by omega)
   unfold Sn.head at e
   rw [List.getElem?_append_right (by simp [l8,l4])] at e
   simp [l8,l4] at e
   show Sn.fn _ 13=_
   rw [e]
   omega
 ·have e:Sn.cut (Sn.fn (Sn.bytes s g c E I)) (14+2*t) 2=Sn.num 2 (g t % 18446744073709551616):=Sn.cut_is (Sn.num_len _ _) fun j hj=>by
   rw [hf _ (by omega),Sn.bytes_gold s g c E I ht hj]
  have hgt:=hg t ht
  show Sn.be (Sn.cut _ (14+2*t) 2)=_
  rw [e,Sn.be_num 2 _ (by omega) (by omega)]
  omega
 ·have e:=hf (22+i) (by omega)
  rw [Sn.bytes_cell s g c E I hi] at e
  exact Option.some.inj e
 ·have e:=hf (406+(i*11+j)) (by omega)
  rw [Sn.bytes_ent s g c E I hi hj] at e
  have:=hE i j hi hj
  have e':=Option.some.inj e
  show Sn.fn _ _=_
  rw [e']
  omega
 ·have e:=hf (758+(i*4+j)) (by omega)
  rw [Sn.bytes_item s g c E I hi hj] at e
  have:=hI i j hi hj
  have e':=Option.some.inj e
  show Sn.fn _ _=_
  rw [e']
  omega


open Go.RowKit

def Sn.Bytes (w:World) (base:Nat) (v:Value) (l:List Int):Prop:=w.ownsRow base 5 1 v l.length (l.map (Value.int .u8))

theorem Sn.Bytes.lt {w:World} {base:Nat} {v:Value} {l:List Int} (h:Sn.Bytes w base v l):∀k,v.ownBlock=some k→base≤k∧k<w.heap.size:=World.ownsRow.lt h

theorem Sn.Bytes.on {w w':World} {base:Nat} {v:Value} {l:List Int} (h:Sn.Bytes w base v l) (hg:w.grownBy w' none):Sn.Bytes w' base v l:=World.ownsRow.kept h hg (by cases v.ownBlock <;> simp)

theorem Sn.below {w w':World} {base:Nat} {r:Option Nat} (h:w.grownBy w' r) (hr:∀k,r=some k→base≤k) (hb:base≤w.heap.size):Below base w w' :=
 ⟨h.os,h.tape,h.output,h.size,fun i hi=>h.block i (by omega) (fun e=>by have:=hr i e.symm;omega)⟩

theorem Sn.below_trans {a b c:World} {base:Nat} (h:Below base a b) (k:Below base b c):Below base a c :=
 ⟨k.os.trans h.os,k.tape.trans h.tape,k.output.trans h.output,Nat.le_trans h.size k.size,fun i hi=>(k.block i hi).trans (h.block i hi)⟩

theorem Sn.bt_two (x:Int) (L:Nat):x / 2 ^ (8*L) % 256=Sn.bt x L:=by
 unfold Sn.bt
 rw [Int.pow_mul]
 rfl

theorem Sn.snoc {w:World} {base m:Nat} {v:Value} {l:List Int} {f:Nat→Int} (h:w.ownsRow base 5 1 v (l.length+m+1) (List.map (Value.int .u8) l ++ (List.map (Value.int .u8 ∘ f) (List.range m) ++ [Value.int .u8 (f m)]))):Sn.Bytes w base v (l ++ (List.range (m+1)).map f):=by
 unfold Sn.Bytes
 rw [List.range_succ]
 simpa [Nat.add_assoc] using h

def Sn.Adds (w:World) (base:Nat) (l:List Int) (e:Ending) (w':World):Prop:=∃v,e=.returned v∧Sn.Bytes w' base v l∧Below base w w'

set_option maxRecDepth 8000 in
set_option maxHeartbeats 1600000 in
theorem withNumber_any (n base:Nat) (x:Int) (v:Value) (l:List Int) (w:World) (hn:n≤8) (h:Sn.Bytes w base v l) (hb:base≤w.heap.size) (hl:l.length≤1000) :
  Calls Tryz.prog 58 #[v,.int .i64 (n:Int),.int .u64 x] w (Sn.Adds w base (l ++ Sn.num n x)):=by
 have hH:Hid (Sn.Bytes w base v l):=h
 have hB:=hide hb
 have hN:=hide hn
 have hLl:=hide hl
 obtain ⟨i0,hi,hz0,hz1,hz2⟩:=info_parts info_byte
 have hs1:IntKind.i64.wrap ((n:Int) - 1)=(n:Int) - 1:=by rw [IntKind.wrap_i64];omega
 clear h hb hn hl
 go_enter Tryz.func58,Tryz.ntmps58
 go_wp2_with fail
 go_loopw [0,7] (fun v0 v7 wr=>∃m:Nat,m≤n∧v7=.int .i64 ((n:Int) - 1 - (m:Int))∧Hid (Sn.Bytes wr base v0 (l ++ (List.range m).map fun j=>Sn.bt x (n - 1 - j))∧Below base w wr)) (fun _ v7 _=>(intOf v7+1).toNat)
 case atStart=>exact ⟨0,by omega,by simp,by simpa using uh hH,Below.refl _ _⟩
 case round =>
  obtain ⟨m,hm,rfl,hX⟩:=hrel
  clear hH hs1
  by_cases hlt:m<n
  ·obtain ⟨L,hL⟩:∃L:Nat,L=n - 1 - m:=⟨_,rfl⟩
   have hLe:(n:Int) - 1 - (m:Int)=(L:Int):=by omega
   have hL8:(L:Int)<8:=by have:=uh hN;omega
   have hmul:IntKind.i64.wrap (8*(L:Int))=8*(L:Int):=by rw [IntKind.wrap_i64];omega
   have hge:(L:Int)≥0:=by omega
   have hs1:IntKind.i64.wrap ((L:Int) - 1)=(L:Int) - 1:=by rw [IntKind.wrap_i64];omega
   have hbt:Hid (x / 2 ^ (8*L) % 256=Sn.bt x (n - 1 - m)):=by
    show x / 2 ^ (8*L) % 256=_
    rw [←hL]
    exact Sn.bt_two x L
   have HM:=hide hm
   have HLT:=hide hlt
   have HL:=hide hLe
   rw [hLe]
   clear hm hlt hLe hL
   go_wp2_with (at_builtin;refine wpList_append_own _ rfl _ _ 26 rfl base 5 i0 (.int .u8 0) 1 1 Tryz.underlying26 hi hz0 hz1 hz2 rfl (by decide) _ _ _ rfl ((uh hX).1.alloc _) ⟨wr.heap.size,0,none⟩ 1 1 [.int .u8 (x / 2 ^ (8*L) % 256)] rfl rfl ?_ ?_ ?_ ?_ ?_ ?_)
   ·exact one_at _ _ _ _ rfl
   ·intro u hu;simp at hu;subst hu;rfl
   ·have:=uh hLl;have:=uh HM;have:=uh hN;simp;unfold maxLen;omega
   ·have:=uh hLl;have:=uh HM;have:=uh hN;simp;omega
   ·have:=(uh hX).2.size;have:=uh hB;simp;omega
   intro v' w1 hown' hgrow _
   have hX2:Hid (Sn.Bytes w1 base v' (l ++ (List.range (m+1)).map fun j=>Sn.bt x (n - 1 - j))∧Below base w w1):=by
    refine ⟨?_,?_⟩
    ·rw [uh hbt] at hown'
     exact Sn.snoc hown'
    ·have hb1:Below base wr (wr.alloc (.cells #[.int .u8 (x / 2 ^ (8*L) % 256)] 5)):=Sn.below (World.grownBy_alloc wr _ none) (fun k e=>by cases e) (Nat.le_trans (uh hB) (uh hX).2.size)
     have hb2:=Sn.below hgrow (fun k e=>((uh hX).1.lt k e).1) (Nat.le_trans (Nat.le_trans (uh hB) (uh hX).2.size) hb1.size)
     exact (uh hX).2.trans (hb1.trans hb2)
   clear hown' hgrow hX
   go_wp2
   go_roundw
   case rel=>exact ⟨m+1,by have:=uh HLT;omega,by have:=uh HL;rw [show (L:Int) - 1=(n:Int) - 1 - ((m+1:Nat):Int) by omega],hX2⟩
   case measure=>simp [intOf]
  ·obtain rfl:m=n:=by omega
   have hge:¬((m:Int) - 1 - (m:Int))≥0:=by omega
   have hfin:Hid (Sn.Adds w base (l ++ Sn.num m x)=Sn.Adds w base (l ++ (List.range m).map fun j=>Sn.bt x (m - 1 - j))):=rfl
   clear hlt hm
   go_wp2
   go_ret
   rw [uh hfin]
   exact ⟨_,rfl,(uh hX).1,(uh hX).2⟩

set_option maxRecDepth 8000 in
set_option maxHeartbeats 1600000 in
theorem refNum_any (n base:Nat) (x:Int) (v:Value) (l:List Int) (w:World) (hn:n≤8) (h:Sn.Bytes w base v l) (hb:base≤w.heap.size) (hl:l.length≤1000) :
  Calls Tryz.prog 24 #[v,.int .i64 (n:Int),.int .u64 x] w (Sn.Adds w base (l ++ Sn.num n x)):=by
 have hH:Hid (Sn.Bytes w base v l):=h
 have hB:=hide hb
 have hN:=hide hn
 have hLl:=hide hl
 obtain ⟨i0,hi,hz0,hz1,hz2⟩:=info_parts info_byte
 have hs1:IntKind.i64.wrap ((n:Int) - 1)=(n:Int) - 1:=by rw [IntKind.wrap_i64];omega
 clear h hb hn hl
 go_enter Tryz.func24,Tryz.ntmps24
 go_wp2_with fail
 go_loopw [0,7] (fun v0 v7 wr=>∃m:Nat,m≤n∧v7=.int .i64 ((n:Int) - 1 - (m:Int))∧Hid (Sn.Bytes wr base v0 (l ++ (List.range m).map fun j=>Sn.bt x (n - 1 - j))∧Below base w wr)) (fun _ v7 _=>(intOf v7+1).toNat)
 case atStart=>exact ⟨0,by omega,by simp,by simpa using uh hH,Below.refl _ _⟩
 case round =>
  obtain ⟨m,hm,rfl,hX⟩:=hrel
  clear hH hs1
  by_cases hlt:m<n
  ·obtain ⟨L,hL⟩:∃L:Nat,L=n - 1 - m:=⟨_,rfl⟩
   have hLe:(n:Int) - 1 - (m:Int)=(L:Int):=by omega
   have hL8:(L:Int)<8:=by have:=uh hN;omega
   have hmul:IntKind.i64.wrap (8*(L:Int))=8*(L:Int):=by rw [IntKind.wrap_i64];omega
   have hge:(L:Int)≥0:=by omega
   have hs1:IntKind.i64.wrap ((L:Int) - 1)=(L:Int) - 1:=by rw [IntKind.wrap_i64];omega
   have hbt:Hid (x / 2 ^ (8*L) % 256=Sn.bt x (n - 1 - m)):=by
    show x / 2 ^ (8*L) % 256=_
    rw [←hL]
    exact Sn.bt_two x L
   have HM:=hide hm
   have HLT:=hide hlt
   have HL:=hide hLe
   rw [hLe]
   clear hm hlt hLe hL
   go_wp2_with (at_builtin;refine wpList_append_own _ rfl _ _ 26 rfl base 5 i0 (.int .u8 0) 1 1 Tryz.underlying26 hi hz0 hz1 hz2 rfl (by decide) _ _ _ rfl ((uh hX).1.alloc _) ⟨wr.heap.size,0,none⟩ 1 1 [.int .u8 (x / 2 ^ (8*L) % 256)] rfl rfl ?_ ?_ ?_ ?_ ?_ ?_)
   ·exact one_at _ _ _ _ rfl
   ·intro u hu;simp at hu;subst hu;rfl
   ·have:=uh hLl;have:=uh HM;have:=uh hN;simp;unfold maxLen;omega
   ·have:=uh hLl;have:=uh HM;have:=uh hN;simp;omega
   ·have:=(uh hX).2.size;have:=uh hB;simp;omega
   intro v' w1 hown' hgrow _
   have hX2:Hid (Sn.Bytes w1 base v' (l ++ (List.range (m+1)).map fun j=>Sn.bt x (n - 1 - j))∧Below base w w1):=by
    refine ⟨?_,?_⟩
    ·rw [uh hbt] at hown'
     exact Sn.snoc hown'
    ·have hb1:Below base wr (wr.alloc (.cells #[.int .u8 (x / 2 ^ (8*L) % 256)] 5)):=Sn.below (World.grownBy_alloc wr _ none) (fun k e=>by cases e) (Nat.le_trans (uh hB) (uh hX).2.size)
     have hb2:=Sn.below hgrow (fun k e=>((uh hX).1.lt k e).1) (Nat.le_trans (Nat.le_trans (uh hB) (uh hX).2.size) hb1.size)
     exact (uh hX).2.trans (hb1.trans hb2)
   clear hown' hgrow hX
   go_wp2
   go_roundw
   case rel=>exact ⟨m+1,by have:=uh HLT;omega,by have:=uh HL;rw [show (L:Int) - 1=(n:Int) - 1 - ((m+1:Nat):Int) by omega],hX2⟩
   case measure=>simp [intOf]
  ·obtain rfl:m=n:=by omega
   have hge:¬((m:Int) - 1 - (m:Int))≥0:=by omega
   have hfin:Hid (Sn.Adds w base (l ++ Sn.num m x)=Sn.Adds w base (l ++ (List.range m).map fun j=>Sn.bt x (m - 1 - j))):=rfl
   clear hlt hm
   go_wp2
   go_ret
   rw [uh hfin]
   exact ⟨_,rfl,(uh hX).1,(uh hX).2⟩

end Go.Proofs.YtepppmepilffcaaGreat
