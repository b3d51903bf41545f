import Derived.Test.YtldgbkjceildfaaGreatBy22
import Derived.Deep.Fields
namespace Go.Proofs.YtldgbkjceildfaaGreat

def Sn.bt (v:Int) (k:Nat):Int:=v / 256 ^ k % 256

def Sn.num (n:Nat) (v:Int):List Int:=(List.range n).map fun j=>Sn.bt v (n - 1 - j)

def Sn.be (l:List Int):Int:=l.foldl (fun a b=>a*256+b) 0

theorem Sn.be_more (l:List Int) (b:Int):Sn.be (l ++ [b])=Sn.be l*256+b:=by
 unfold Sn.be;rw [List.foldl_append];rfl

theorem Sn.num_len (n:Nat) (v:Int):(Sn.num n v).length=n:=by simp [Sn.num]

theorem Sn.bt_down (v:Int) (k:Nat):Sn.bt v (k+1)=Sn.bt (v / 256) k:=by
 unfold Sn.bt;rw [Int.pow_succ,Int.mul_comm,Int.ediv_ediv_of_nonneg (by omega)]

theorem Sn.num_more (n:Nat) (v:Int):Sn.num (n+1) v=Sn.num n (v / 256) ++ [v % 256]:=by
 unfold Sn.num;rw [List.range_succ,List.map_append];congr 1
 ·refine List.map_congr_left fun j hj=>?_;have hj':j<n:=List.mem_range.1 hj;rw [show n+1 - 1 - j=(n - 1 - j)+1 by omega,Sn.bt_down]
 ·simp [Sn.bt]

theorem Sn.be_num:∀(n:Nat) (v:Int),0≤v→v<256 ^ n→Sn.be (Sn.num n v)=v
 | 0,v,h0,h1=>by
  have:v<1:=by simpa using h1
  have hv:v=0:=by omega
  subst hv;rfl
 | n+1,v,h0,h1=>by
  have hlt:v / 256<256 ^ n:=by
   rw [Int.pow_succ] at h1;exact Int.ediv_lt_of_lt_mul (by omega) h1
  rw [Sn.num_more,Sn.be_more,Sn.be_num n (v / 256) (by omega) hlt];omega

theorem Sn.num_byte (n:Nat) (v:Int):∀b∈Sn.num n v,0≤b∧b≤255:=by
 intro b hb;unfold Sn.num at hb;obtain ⟨j,_,rfl⟩:=List.mem_map.1 hb;unfold Sn.bt;omega

def Sn.rows (k m:Nat) (f:Nat→Nat→Int):List Int:=(List.range k).flatMap fun i=>(List.range m).map fun j=>f i j % 256

theorem Sn.rows_more (k m:Nat) (f:Nat→Nat→Int):Sn.rows (k+1) m f=Sn.rows k m f ++ (List.range m).map fun j=>f k j % 256:=by
 unfold Sn.rows;rw [List.range_succ,List.flatMap_append];simp

theorem Sn.rows_len (m:Nat) (f:Nat→Nat→Int):∀k,(Sn.rows k m f).length=k*m
 | 0=>by simp [Sn.rows]
 | k+1=>by
  rw [Sn.rows_more,List.length_append,Sn.rows_len m f k];simp [Nat.succ_mul]

theorem Sn.rows_at {m:Nat} {f:Nat→Nat→Int}:∀{k i j:Nat},i<k→j<m→(Sn.rows k m f)[i*m+j]?=some (f i j % 256)
 | 0,_,_,h,_=>absurd h (by omega)
 | k+1,i,j,hi,hj=>by
  rw [Sn.rows_more];by_cases e:i<k
  ·have hlt:i*m+j<k*m:=by
    have:(i+1)*m≤k*m:=Nat.mul_le_mul_right m e;rw [Nat.succ_mul] at this;omega
   rw [List.getElem?_append_left (by rw [Sn.rows_len];exact hlt),Sn.rows_at e hj]
  ·obtain rfl:i=k:=by omega
   rw [List.getElem?_append_right (by rw [Sn.rows_len];omega),Sn.rows_len,show i*m+j - i*m=j by omega,List.getElem?_map,List.getElem?_range hj];rfl

theorem Sn.rows_byte (k m:Nat) (f:Nat→Nat→Int):∀b∈Sn.rows k m f,0≤b∧b≤255:=by
 intro b hb;unfold Sn.rows at hb;obtain ⟨i,_,hb⟩:=List.mem_flatMap.1 hb;obtain ⟨j,_,rfl⟩:=List.mem_map.1 hb;omega

def Sn.golds (k:Nat) (g:Nat→Int):List Int:=(List.range k).flatMap fun t=>Sn.num 2 (g t % 18446744073709551616)

theorem Sn.golds_more (k:Nat) (g:Nat→Int):Sn.golds (k+1) g=Sn.golds k g ++ Sn.num 2 (g k % 18446744073709551616):=by
 unfold Sn.golds;rw [List.range_succ,List.flatMap_append];simp

theorem Sn.golds_len (g:Nat→Int):∀k,(Sn.golds k g).length=k*2
 | 0=>by simp [Sn.golds]
 | k+1=>by
  rw [Sn.golds_more,List.length_append,Sn.golds_len g k,Sn.num_len];omega

def Sn.head (s:Nat→Int):List Int:=Sn.num 8 (s 0 % 18446744073709551616) ++ Sn.num 4 (s 1 % 18446744073709551616) ++ [s 2 % 256,s 3 % 256]

theorem Sn.head_len (s:Nat→Int):(Sn.head s).length=14:=by
 unfold Sn.head;simp [Sn.num_len]

def Sn.bytes (s g c:Nat→Int) (E I:Nat→Nat→Int):List Int:=Sn.head s ++ Sn.golds 4 g ++ (List.range 384).map c ++ Sn.rows 32 11 E ++ Sn.rows 40 4 I

theorem Sn.bytes_len (s g c:Nat→Int) (E I:Nat→Nat→Int):(Sn.bytes s g c E I).length=918:=by
 unfold Sn.bytes;simp only [List.length_append,Sn.head_len,Sn.golds_len,Sn.rows_len,List.length_map,List.length_range]

theorem Sn.golds_byte (k:Nat) (g:Nat→Int):∀b∈Sn.golds k g,0≤b∧b≤255:=by
 intro b hb;unfold Sn.golds at hb;obtain ⟨i,_,hb⟩:=List.mem_flatMap.1 hb;exact Sn.num_byte _ _ b hb

theorem Sn.head_byte (s:Nat→Int):∀b∈Sn.head s,0≤b∧b≤255:=by
 intro b hb;unfold Sn.head at hb;simp only [List.mem_append,List.mem_cons,List.not_mem_nil,or_false] at hb;rcases hb with (hb|hb)|rfl|rfl
 ·exact Sn.num_byte _ _ b hb
 ·exact Sn.num_byte _ _ b hb
 ·omega
 ·omega

theorem Sn.bytes_byte (s g c:Nat→Int) (E I:Nat→Nat→Int) (hc:∀i,0≤c i∧c i≤255):∀b∈Sn.bytes s g c E I,0≤b∧b≤255:=by
 intro b hb;unfold Sn.bytes at hb;simp only [List.mem_append] at hb;rcases hb with (((hb|hb)|hb)|hb)|hb
 ·exact Sn.head_byte _ b hb
 ·exact Sn.golds_byte _ _ b hb
 ·obtain ⟨i,_,rfl⟩:=List.mem_map.1 hb;exact hc i
 ·exact Sn.rows_byte _ _ _ b hb
 ·exact Sn.rows_byte _ _ _ b hb

theorem Sn.len14 (s g:Nat→Int):(Sn.head s ++ Sn.golds 4 g).length=22:=by rw [List.length_append,Sn.head_len,Sn.golds_len]

theorem Sn.len22 (s g c:Nat→Int):(Sn.head s ++ Sn.golds 4 g ++ (List.range 384).map c).length=406:=by rw [List.length_append,Sn.len14,List.length_map,List.length_range]

theorem Sn.len406 (s g c:Nat→Int) (E:Nat→Nat→Int):(Sn.head s ++ Sn.golds 4 g ++ (List.range 384).map c ++ Sn.rows 32 11 E).length=758:=by rw [List.length_append,Sn.len22,Sn.rows_len]

theorem Sn.bytes_item (s g c:Nat→Int) (E I:Nat→Nat→Int) {i j:Nat} (hi:i<40) (hj:j<4):(Sn.bytes s g c E I)[758+(i*4+j)]?=some (I i j % 256):=by
 unfold Sn.bytes;rw [List.getElem?_append_right (by rw [Sn.len406];omega),Sn.len406,show 758+(i*4+j) - 758=i*4+j by omega];exact Sn.rows_at hi hj

theorem Sn.bytes_ent (s g c:Nat→Int) (E I:Nat→Nat→Int) {i j:Nat} (hi:i<32) (hj:j<11):(Sn.bytes s g c E I)[406+(i*11+j)]?=some (E i j % 256):=by
 unfold Sn.bytes;have hlt:i*11+j<352:=by omega
 rw [List.getElem?_append_left (by rw [Sn.len406];omega),List.getElem?_append_right (by rw [Sn.len22];omega),Sn.len22,show 406+(i*11+j) - 406=i*11+j by omega];exact Sn.rows_at hi hj

theorem Sn.bytes_low (s g c:Nat→Int) (E I:Nat→Nat→Int) {k:Nat} (hk:k<406):(Sn.bytes s g c E I)[k]?=(Sn.head s ++ Sn.golds 4 g ++ (List.range 384).map c)[k]?:=by
 unfold Sn.bytes;rw [List.getElem?_append_left (by rw [Sn.len406];omega),List.getElem?_append_left (by rw [Sn.len22];omega)]

theorem Sn.bytes_cell (s g c:Nat→Int) (E I:Nat→Nat→Int) {i:Nat} (hi:i<384):(Sn.bytes s g c E I)[22+i]?=some (c i):=by
 rw [Sn.bytes_low s g c E I (by omega),List.getElem?_append_right (by rw [Sn.len14];omega),Sn.len14,show 22+i - 22=i by omega,List.getElem?_map,List.getElem?_range hi];rfl

theorem Sn.bytes_gold (s g c:Nat→Int) (E I:Nat→Nat→Int) {t j:Nat} (ht:t<4) (hj:j<2):(Sn.bytes s g c E I)[14+2*t+j]?=(Sn.num 2 (g t % 18446744073709551616))[j]?:=by
 rw [Sn.bytes_low s g c E I (by omega),List.getElem?_append_left (by rw [Sn.len14];omega),List.getElem?_append_right (by rw [Sn.head_len];omega),Sn.head_len,show 14+2*t+j - 14=2*t+j by omega];have hg:∀k,t<k→(Sn.golds k g)[2*t+j]?=(Sn.num 2 (g t % 18446744073709551616))[j]?:=by
  intro k;induction k with
  | zero=>intro h;omega
  | succ k ih =>
   intro h;rw [Sn.golds_more];by_cases e:t<k
   ·rw [List.getElem?_append_left (by rw [Sn.golds_len];omega),ih e]
   ·obtain rfl:t=k:=by omega
    rw [List.getElem?_append_right (by rw [Sn.golds_len];omega),Sn.golds_len,show 2*t+j - t*2=j by omega]
 exact hg 4 ht

theorem Sn.bytes_head (s g c:Nat→Int) (E I:Nat→Nat→Int) {k:Nat} (hk:k<14):(Sn.bytes s g c E I)[k]?=(Sn.head s)[k]?:=by
 rw [Sn.bytes_low s g c E I (by omega),List.getElem?_append_left (by rw [Sn.len14];omega),List.getElem?_append_left (by rw [Sn.head_len];omega)]

def Sn.cut (F:Nat→Int) (at_ n:Nat):List Int:=(List.range n).map fun j=>F (at_+j)

theorem Sn.cut_more (F:Nat→Int) (at_ n:Nat):Sn.cut F at_ (n+1)=Sn.cut F at_ n ++ [F (at_+n)]:=by
 unfold Sn.cut;rw [List.range_succ,List.map_append];rfl

theorem Sn.cut_is {F:Nat→Int} {at_ n:Nat} {l:List Int} (hl:l.length=n) (h:∀j,j<n→some (F (at_+j))=l[j]?):Sn.cut F at_ n=l:=by
 refine List.ext_getElem? fun j=>?_;unfold Sn.cut;rw [List.getElem?_map];by_cases hj:j<n
 ·rw [List.getElem?_range hj];exact h j hj
 ·rw [List.getElem?_eq_none (by simp;omega),List.getElem?_eq_none (by omega)];rfl

theorem Sn.be_bound:∀(n:Nat) (F:Nat→Int) (at_:Nat),(∀j,j<n→0≤F (at_+j)∧F (at_+j)≤255)→0≤Sn.be (Sn.cut F at_ n)∧Sn.be (Sn.cut F at_ n)<256 ^ n
 | 0,F,a,_=>by simp [Sn.cut,Sn.be]
 | n+1,F,a,h=>by
  obtain ⟨h0,h1⟩:=Sn.be_bound n F a (fun j hj=>h j (by omega));have hb:=h n (by omega);rw [Sn.cut_more,Sn.be_more,Int.pow_succ];omega

def Sn.rs (F:Nat→Int):Nat→Int
 | 0=>if Sn.be (Sn.cut F 0 8)<9223372036854775808 then Sn.be (Sn.cut F 0 8) else Sn.be (Sn.cut F 0 8) - 18446744073709551616
 | 1=>Sn.be (Sn.cut F 8 4)
 | 2=>F 12
 | _=>F 13

def Sn.rg (F:Nat→Int) (t:Nat):Int:=Sn.be (Sn.cut F (14+2*t) 2)
def Sn.rc (F:Nat→Int) (i:Nat):Int:=F (22+i)
def Sn.rE (F:Nat→Int) (i j:Nat):Int:=F (406+(i*11+j))
def Sn.rI (F:Nat→Int) (i j:Nat):Int:=F (758+(i*4+j))

def Sn.fn (l:List Int) (k:Nat):Int:=l[k]?.getD 0

theorem Sn.fn_at {l:List Int} {k:Nat} (hk:k<l.length):l[k]?=some (Sn.fn l k):=by
 unfold Sn.fn;rw [List.getElem?_eq_getElem hk];rfl

theorem Sn.back {s g c:Nat→Int} {E I:Nat→Nat→Int} (h0:-9223372036854775808≤s 0∧s 0<9223372036854775808) (h1:0≤s 1∧s 1<4294967296) (h2:0≤s 2∧s 2≤255) (h3:0≤s 3∧s 3≤255) (hg:∀t,t<4→0≤g t∧g t<65536) (hE:∀i j,i<32→j<11→0≤E i j∧E i j≤255) (hI:∀i j,i<40→j<4→0≤I i j∧I i j≤255) :
  (∀k,k<4→Sn.rs (Sn.fn (Sn.bytes s g c E I)) k=s k)∧(∀t,t<4→Sn.rg (Sn.fn (Sn.bytes s g c E I)) t=g t)∧(∀i,i<384→Sn.rc (Sn.fn (Sn.bytes s g c E I)) i=c i)∧(∀i j,i<32→j<11→Sn.rE (Sn.fn (Sn.bytes s g c E I)) i j=E i j)∧(∀i j,i<40→j<4→Sn.rI (Sn.fn (Sn.bytes s g c E I)) i j=I i j):=by
 have hl:=Sn.bytes_len s g c E I;have hf:∀k,k<918→some (Sn.fn (Sn.bytes s g c E I) k)=(Sn.bytes s g c E I)[k]?:=fun k hk=>(Sn.fn_at (by rw [hl];exact hk)).symm;have hh:∀k,k<14→some (Sn.fn (Sn.bytes s g c E I) k)=(Sn.head s)[k]?:=fun k hk=>by rw [hf k (by omega),Sn.bytes_head s g c E I hk]
 have l8:∀v,(Sn.num 8 v).length=8:=Sn.num_len 8;have l4:∀v,(Sn.num 4 v).length=4:=Sn.num_len 4;refine ⟨fun k hk=>?_,fun t ht=>?_,fun i hi=>?_,fun i j hi hj=>?_,fun i j hi hj=>?_⟩
 ·rcases (show k=0∨k=1∨k=2∨k=3 by omega) with rfl|rfl|rfl|rfl
  ·have e:Sn.cut (Sn.fn (Sn.bytes s g c E I)) 0 8=Sn.num 8 (s 0 % 18446744073709551616):=Sn.cut_is (Sn.num_len _ _) fun j hj=>by
    rw [Nat.zero_add,hh j (by omega)];unfold Sn.head;rw [List.getElem?_append_left (by simp [l8,l4];omega),List.getElem?_append_left (by rw [l8];exact hj)]
   show (if Sn.be (Sn.cut _ 0 8)<9223372036854775808 then _ else _)=_;rw [e,Sn.be_num 8 _ (by omega) (by omega)];split <;> omega
  ·have e:Sn.cut (Sn.fn (Sn.bytes s g c E I)) 8 4=Sn.num 4 (s 1 % 18446744073709551616):=Sn.cut_is (Sn.num_len _ _) fun j hj=>by
    rw [hh (8+j) (by omega)];unfold Sn.head;rw [List.getElem?_append_left (by simp [l8,l4];omega),List.getElem?_append_right (by rw [l8];omega),l8,show 8+j - 8=j by omega]
   show Sn.be (Sn.cut _ 8 4)=_;rw [e,Sn.be_num 4 _ (by omega) (by omega)];omega
  ·have e:=hh 12 (by omega);unfold Sn.head at e;rw [List.getElem?_append_right (by simp [l8,l4])] at e;simp [l8,l4] at e;show Sn.fn _ 12=_;rw [e];omega
  ·have e:=hh 13 (by omega);unfold Sn.head at e;rw [List.getElem?_append_right (by simp [l8,l4])] at e;simp [l8,l4] at e;show Sn.fn _ 13=_;rw [e];omega
 ·have e:Sn.cut (Sn.fn (Sn.bytes s g c E I)) (14+2*t) 2=Sn.num 2 (g t % 18446744073709551616):=Sn.cut_is (Sn.num_len _ _) fun j hj=>by
   rw [hf _ (by omega),Sn.bytes_gold s g c E I ht hj]
  have hgt:=hg t ht;show Sn.be (Sn.cut _ (14+2*t) 2)=_;rw [e,Sn.be_num 2 _ (by omega) (by omega)];omega
 ·have e:=hf (22+i) (by omega);rw [Sn.bytes_cell s g c E I hi] at e;exact Option.some.inj e
 ·have e:=hf (406+(i*11+j)) (by omega);rw [Sn.bytes_ent s g c E I hi hj] at e;have:=hE i j hi hj;have e':=Option.some.inj e;show Sn.fn _ _=_;rw [e'];omega
 ·have e:=hf (758+(i*4+j)) (by omega);rw [Sn.bytes_item s g c E I hi hj] at e;have:=hI i j hi hj;have e':=Option.some.inj e;show Sn.fn _ _=_;rw [e'];omega


open Go.RowKit

def Md.Takes (c:Nat→Int) (x y hx hy r b a:Int):Prop:=r≤1536∧Gr.Sees 384 c x y hx hy∧(a<0∨r<b)

def Md.Seen (c:Nat→Int) (E:Nat→Nat→Int) (x y:Int):Nat→Int→Int→Prop
  | 0,b,a=>b=0∧a=-1
  | t + 1, b, a => ∃ b0 a0, Md.Seen c E x y t b0 a0 ∧
      ((Gd.hero E (t : Int) < 0 ∧ b = b0 ∧ a = a0) ∨
       ∃ (h : Nat) (r : Int), Gd.hero E (t : Int) = (h : Int) ∧ Fx.isRoot (((E h 3 - x) * (E h 3 - x) + (E h 4 - y) * (E h 4 - y)) * 65536) r ∧
         ((Md.Takes c x y (E h 3) (E h 4) r b0 a0∧b=r∧a=(h:Int))∨(¬Md.Takes c x y (E h 3) (E h 4) r b0 a0∧b=b0∧a=a0)))

def Md.stray (s c:Nat→Int) (E:Nat→Nat→Int) (k:Nat):Int :=
 if (1≤Dc.die 8 (s 0) [s 1,(k:Int),90]∧Dc.die 8 (s 0) [s 1,(k:Int),90]≤4)∧Gr.walkB (Gr.at 384 c (E k 3+(Fx.way (Dc.die 8 (s 0) [s 1,(k:Int),90])).1) (E k 4+(Fx.way (Dc.die 8 (s 0) [s 1,(k:Int),90])).2))=true∧En.first (En.atQ E (E k 3+(Fx.way (Dc.die 8 (s 0) [s 1,(k:Int),90])).1) (E k 4+(Fx.way (Dc.die 8 (s 0) [s 1,(k:Int),90])).2)) 32<0
 then Dc.die 8 (s 0) [s 1,(k:Int),90] else 0

def Md.monsterAt (s c:Nat→Int) (E:Nat→Nat→Int) (k:Nat) (v:Int):Prop :=
  ∃b a,Md.Seen c E (E k 3) (E k 4) 4 b a ∧
    ((a < 0 ∧ v = Md.stray s c E k) ∨
     ∃ h : Nat, a = (h : Int) ∧
       if 0 < Nv.beside (E h 3 - E k 3) (E h 4 - E k 4) then v = Nv.beside (E h 3 - E k 3) (E h 4 - E k 4)
       else Nv.IsToward c (fun _=>E h 4*24+E h 3) 1 E 32 (E k 3) (E k 4) v)

def Md.IsMonster (s c:Nat→Int) (E:Nat→Nat→Int) (row v:Int):Prop :=
 if (row<0∨32≤row)∨E row.toNat 0=0∨E row.toNat 0=1 then v=0 else Md.monsterAt s c E row.toNat v


open Go.RowKit

theorem Own.of_append {w:World} {base n:Nat} {v:Value} {E:Nat→Nat→Int} (h:w.ownsRow base 70 11 v n (En.list n E)) (hv:v≠.slice none 0 0) (hn:n≤32) :
  ∃g cap,v=.slice (some ⟨g,0,none⟩) n cap∧base≤g∧n≤cap∧cap≤maxLen∧Own w g n E:=by
 rcases h.2 with ⟨h',_⟩|⟨g,cap,cur,rfl,hb,hg,hnc,hcm,hcs,htake⟩
 ·exact absurd h' hv
 ·exact ⟨g,cap,rfl,hb,hnc,hcm,Own.of_owns h hn (fun c hc=>En.list_at hc)⟩

theorem En.flat_src {w w':World} {b n:Nat} {E:Nat→Nat→Int} (h:Ents w b n E) (hg:w.grownBy w' none):∀j v,(En.list n E)[j]?=some v→w'.cell? ((⟨b,0,none⟩:Addr).add j)=some v:=(h.on hg).src

set_option maxHeartbeats 1600000 in
theorem refFree_in (b n c k:Nat) (E:Nat→Nat→Int) (w:World) (hE:Ents w b n E) (hk:k<n) :
  Calls Tryz.prog 84 #[.slice (some ⟨b,0,none⟩) n c,.int .i64 (k:Int)] w (Lists w n (En.put E k (En.hole (E k 1)))):=by
 have hn:=hE.1;have hk':(k:Int)<(n:Int):=by omega
 have hE':=hide hE;have HK:=hide hk;obtain ⟨i0,hi,hz0,hz1,hz2⟩:=info_parts info_ent;have hst:Hid (∀(x:World) (g:Nat),Own x g n E→Own (x.setCells g (k*11) (En.cells (En.hole (E k 1))).toList) g n (En.put E k (En.hole (E k 1)))):=fun x g h=>h.store k _;have hgs:Hid (∀(x:World) (g:Nat),w.grownBy x none→w.heap.size≤g→w.grownBy (x.setCells g (k*11) (En.cells (En.hole (E k 1))).toList) none):=fun x g h hg=>own_sets hg _ _ x h;clear hE;go_enter Tryz.func84,Tryz.ntmps84;go_wp2_with (at_builtin;refine wpList_append_own _ rfl _ _ 26 rfl w.heap.size 70 i0 (.agg #[.int .i64 0,.int .i64 0,.int .i64 0,.int .i64 0,.int .i64 0,.int .i64 0,.int .i64 0,.int .i64 0,.int .i64 0,.int .i64 0,.int .i64 0]) 11 88 Tryz.underlying26 hi hz0 hz1 hz2 rfl (by decide) _ 0 [] rfl (World.ownsRow_made _ _ _ (Nat.le_refl _) (by decide) (by simp)) ⟨b,0,none⟩ n c (En.list n E) rfl (En.list_len n E) (En.flat_src (uh hE') (World.grownBy_alloc _ _ _)) En.list_one ?c4 ?c5 ?c6 ?_);case c4=>unfold maxLen;omega
 case c5=>omega
 case c6=>simp
 intro v' w1 hown hgrow hnil;obtain ⟨g,cap,rfl,hlo,hnc,hcm,hown1⟩:=Own.of_append hown hnil hn;have hgr1:=hide (gow (World.grownBy_alloc w (.cells #[] 70) none) hgrow (by intro m hm;simp [Value.ownBlock] at hm;omega));have hcapf:=hide (And.intro hlo (And.intro hnc hcm));obtain ⟨u0,u1,u2,u3,u4,u5,u6,u7,u8,u9,u10⟩:=hown1.ents.row hk;have f:=fun i=>hown1.free i;have s1:w1.cell? ⟨b,k*11+1,none⟩=some (.int .i64 (E k 1)):=((uh hE').on (uh hgr1)).2.2 k 1 hk (by omega);have hown1':=hide hown1;clear hown hgrow hnil hlo hnc hcm hown1 hi hz0 hz1 hz2;go_wp2;go_ret;exact ⟨g,cap,rfl,(uh hcapf).1,(uh hcapf).2.1,(uh hcapf).2.2,uh hst _ _ (uh hown1'),uh hgs _ _ (uh hgr1) (uh hcapf).1⟩

set_option maxHeartbeats 1600000 in
theorem refSpawn_full (b n c:Nat) (E:Nat→Nat→Int) (e:Nat→Int) (w:World) (hE:Ents w b n E) (hk:1≤e 0∧e 0≤4) (hf:∀j,j<n→En.freeQ E j=false) :
  Calls Tryz.prog 68 #[.slice (some ⟨b,0,none⟩) n c,.agg (En.cells e)] w (Says w (.tuple #[.slice none 0 0,.int .i64 0,.int .i64 5])):=by
 have hn:=hE.1;have hg:=hide (World.grownBy_alloc w (.cells (En.cells e) 70) none);have hE':=hide (hE.on (uh hg));have hf':=hide hf;obtain ⟨W,hW⟩:∃W,W=w.alloc (.cells (En.cells e) 70):=⟨_,rfl⟩;rw [←hW] at hg hE';obtain ⟨k1,k2⟩:=hk;have k3:¬e 0<1:=by omega
 have k4:¬4<e 0:=by omega
 have hW':=hide hW;clear hE hf hW;unfold En.cells at hW' ⊢;go_enter Tryz.func68,Tryz.ntmps68;go_wp2_with fail;rw [←uh hW'];clear hW' k1 k2 k3 k4
 go_loop [7] (fun i=>∃k:Nat,k≤n∧i=.int .i64 (k:Int)) (fun i=>40 - (intOf i).toNat)
 case atStart=>exact ⟨0,by omega,rfl⟩
 case round =>
  obtain ⟨k,hk,rfl⟩:=hrel;by_cases hlt:k<n
  ·obtain ⟨u0,_⟩:=(uh hE').row hlt;have hlt':(k:Int)<(n:Int):=by omega
   have h32:(k:Int)<32:=by omega
   have hz:(E k 0 == 0)=false:=by have:=uh hf' k hlt;simpa [En.freeQ] using this
   have HL:=hide hlt;clear hlt;go_wp2;go_round;case rel=>exact ⟨k+1,by have:=uh HL;omega,by go_num⟩
   case measure=>simp [intOf];omega
  ·have hge:¬(k:Int)<(n:Int):=by omega
   go_wp2
   go_ret3
   exact ⟨rfl,uh hg⟩

set_option maxRecDepth 8000 in
set_option maxHeartbeats 4000000 in
theorem refSpawn_some (b n c r:Nat) (E:Nat→Nat→Int) (e:Nat→Int) (w:World) (hE:Ents w b n E) (hk:1≤e 0∧e 0≤4) (hr:r<n) (hq:E r 0=0) (hf:∀j,j<r→En.freeQ E j=false) (hG:En.Gens n E) :
  Calls Tryz.prog 68 #[.slice (some ⟨b,0,none⟩) n c,.agg (En.cells e)] w (Spawns w n (En.put E r (En.gen e ((E r 1+1) % 256))) r):=by
 have hn:=hE.1;have hg:=hide (World.grownBy_alloc w (.cells (En.cells e) 70) none);have hE':=hide (hE.on (uh hg));have hbox:=hide (Arr.lit (heap_alloc_new w (.cells (En.cells e) 70)));have hf':=hide hf;obtain ⟨g0,g1⟩:=hG r hr;obtain ⟨W,hW⟩:∃W,W=w.alloc (.cells (En.cells e) 70):=⟨_,rfl⟩;have hWs:Hid (W.heap.size=w.heap.size+1):=by rw [hW];simp [Hid]
 rw [←hW] at hg hE' hbox;obtain ⟨k1,k2⟩:=hk;have k3:¬e 0<1:=by omega
 have k4:¬4<e 0:=by omega
 have hW':=hide hW;have hbw:=hide hE.2.1;obtain ⟨i0,hi,hz0,hz1,hz2⟩:=info_parts info_ent;obtain ⟨G2,hG2⟩:∃G2,G2=(E r 1+1) % 256:=⟨_,rfl⟩;have hst:Hid (∀(x:World) (g:Nat),Own x g n E→Own (x.setCells g (r*11) (En.cells (En.gen e G2)).toList) g n (En.put E r (En.gen e G2))):=fun x g h=>h.store r _;have hgs:Hid (∀(x:World) (g:Nat),w.grownBy x none→w.heap.size≤g→w.grownBy (x.setCells g (r*11) (En.cells (En.gen e G2)).toList) none):=fun x g h hg=>own_sets hg _ _ x h;obtain ⟨F,hF⟩:∃F,F=En.put E r (En.gen e G2):=⟨_,rfl⟩;rw [←hF] at hst;rw [←hG2,←hF];have hG2':=hide hG2;have hq':=hide hq;clear hE hf hW hG hF hG2 hq;unfold En.cells at hW' hbox ⊢;go_enter Tryz.func68,Tryz.ntmps68;go_wp2_with fail;rw [←uh hW'];clear hW' k1 k2 k3 k4
 go_loop [7] (fun i=>∃k:Nat,k≤r∧i=.int .i64 (k:Int)) (fun i=>40 - (intOf i).toNat)
 case atStart=>exact ⟨0,by omega,rfl⟩
 case round =>
  obtain ⟨k,hk,rfl⟩:=hrel;by_cases hlt:k<r
  ·obtain ⟨u0,_⟩:=(uh hE').row (k:=k) (by omega);have hlt':(k:Int)<(n:Int):=by omega
   have h32:(k:Int)<32:=by omega
   have hz:(E k 0 == 0)=false:=by have:=uh hf' k hlt;simpa [En.freeQ] using this
   have HL:=hide hlt;clear hlt;go_wp2;go_round;case rel=>exact ⟨k+1,by have:=uh HL;omega,by go_num⟩
   case measure=>simp [intOf];omega
  ·obtain rfl:k=r:=by omega
   obtain ⟨u0,u1,_⟩:=(uh hE').row hr;rw [uh hq'] at u0;have hlt':(k:Int)<(n:Int):=by omega
   have h32:(k:Int)<32:=by omega
   go_wp2_with (at_builtin;refine wpList_append_own _ rfl _ _ 26 rfl W.heap.size 70 i0 (.agg #[.int .i64 0,.int .i64 0,.int .i64 0,.int .i64 0,.int .i64 0,.int .i64 0,.int .i64 0,.int .i64 0,.int .i64 0,.int .i64 0,.int .i64 0]) 11 88 Tryz.underlying26 hi hz0 hz1 hz2 rfl (by decide) _ 0 [] rfl (World.ownsRow_made _ _ _ (Nat.le_refl _) (by decide) (by simp)) ⟨b,0,none⟩ n c (En.list n E) rfl (En.list_len n E) (En.flat_src (uh hE') (World.grownBy_alloc _ _ _)) En.list_one ?c4 ?c5 ?c6 ?_);case c4=>unfold maxLen;omega
   case c5=>omega
   try (case c6=>simp)
   intro v' w1 hown hgrow hnil;obtain ⟨g,cap,rfl,hlo,hnc,hcm,hown1⟩:=Own.of_append hown hnil hn;have hgW:=gow (World.grownBy_alloc W (.cells #[] 70) none) hgrow (by intro m hm;simp [Value.ownBlock] at hm;omega);have hgr1:=hide (gtr (uh hg) hgW);have hbox1:=hide ((uh hbox).grown hgW (by simp));have hlo':w.heap.size<g:=by have:=uh hWs;omega
   have hcapf:=hide (And.intro hlo' (And.intro hnc hcm));have hs1:w1.cell? ⟨b,k*11+1,none⟩=some (.int .i64 (E k 1)):=((uh hE').on hgW).2.2 k 1 hr (by omega);have hz:=fun j (hj:j<11)=>(uh hbox1).cell (i:=j) hj;have z0:=hz 0 (by omega);have z1:=hz 1 (by omega);have z2:=hz 2 (by omega);have z3:=hz 3 (by omega);have z4:=hz 4 (by omega);have z5:=hz 5 (by omega);have z6:=hz 6 (by omega);have z7:=hz 7 (by omega);have z8:=hz 8 (by omega);have z9:=hz 9 (by omega);have z10:=hz 10 (by omega);simp only [List.getElem?_toArray,List.getElem?_cons_zero,List.getElem?_cons_succ,Option.getD_some] at z0 z1 z2 z3 z4 z5 z6 z7 z8 z9 z10;have zf:=(uh hbox1).free 1;have hown1':=hide hown1;clear hown hgrow hnil hlo hnc hcm hown1 hi hz0 hz1 hz2 hgW hz u0 u1;obtain ⟨w2,hw2⟩:∃w2,w2=w1.setCell ⟨w.heap.size,1,none⟩ (.int .i64 G2):=⟨_,rfl⟩;have hown2:Hid (Own w2 g n E):=by
    have hne:w.heap.size≠g:=by omega
    obtain ⟨hn',m,F',hA,hm,hF'⟩:=uh hown1';obtain ⟨cur,q1,q2,q3⟩:=hA;rw [hw2];exact ⟨hn',m,F',⟨cur,(heap_setCell_other w1 ⟨w.heap.size,1,none⟩ g _ hne.symm).trans q1,q2,q3⟩,hm,hF'⟩
   have hgr2:Hid (w.grownBy w2 none):=by rw [hw2];exact gsr (uh hgr1) ⟨w.heap.size,1,none⟩ (Nat.le_refl _) _
   obtain ⟨t0,t1,t2,t3,t4,t5,t6,t7,t8,t9,t10⟩:=(uh hown2).ents.row hr;have f:=fun i=>(uh hown2).free i;have hb2:=(uh hbox1).store 1 (.int .i64 G2);rw [←hw2] at hb2;have y0:w2.cell? ⟨w.heap.size,0,none⟩=some (.int .i64 (e 0)):=hb2.cell (i:=0) (by show 0<11;omega);have y1:w2.cell? ⟨w.heap.size,1,none⟩=some (.int .i64 G2):=hb2.cell (i:=1) (by show 1<11;omega);have y2:w2.cell? ⟨w.heap.size,2,none⟩=some (.int .i64 (e 2)):=hb2.cell (i:=2) (by show 2<11;omega);have y3:w2.cell? ⟨w.heap.size,3,none⟩=some (.int .i64 (e 3)):=hb2.cell (i:=3) (by show 3<11;omega);have y4:w2.cell? ⟨w.heap.size,4,none⟩=some (.int .i64 (e 4)):=hb2.cell (i:=4) (by show 4<11;omega);have y5:w2.cell? ⟨w.heap.size,5,none⟩=some (.int .i64 (e 5)):=hb2.cell (i:=5) (by show 5<11;omega);have y6:w2.cell? ⟨w.heap.size,6,none⟩=some (.int .i64 (e 6)):=hb2.cell (i:=6) (by show 6<11;omega);have y7:w2.cell? ⟨w.heap.size,7,none⟩=some (.int .i64 (e 7)):=hb2.cell (i:=7) (by show 7<11;omega);have y8:w2.cell? ⟨w.heap.size,8,none⟩=some (.int .i64 (e 8)):=hb2.cell (i:=8) (by show 8<11;omega);have y9:w2.cell? ⟨w.heap.size,9,none⟩=some (.int .i64 (e 9)):=hb2.cell (i:=9) (by show 9<11;omega);have y10:w2.cell? ⟨w.heap.size,10,none⟩=some (.int .i64 (e 10)):=hb2.cell (i:=10) (by show 10<11;omega);have hw2':=hide hw2;clear hb2;clear hw2;go_upto_region 9 with fail;rw [←uh hG2',←uh hw2'];clear hs1 z0 z1 z2 z3 z4 z5 z6 z7 z8 z9 z10 zf hw2';go_wp2
   go_ret3
   exact ⟨g,cap,rfl,Nat.le_of_lt (uh hcapf).1,(uh hcapf).2.1,(uh hcapf).2.2,uh hst _ _ (uh hown2),uh hgs _ _ (uh hgr2) (Nat.le_of_lt (uh hcapf).1)⟩


open Go.RowKit

def En.upd (e:Nat→Int) (j:Nat) (v:Int):Nat→Int:=fun l=>if l=j then v else e l

theorem En.upd_same (e:Nat→Int) (j:Nat) (v:Int):En.upd e j v j=v:=if_pos rfl
theorem En.upd_other {e:Nat→Int} {j l:Nat} {v:Int} (h:l≠j):En.upd e j v l=e l:=if_neg h

theorem Lie.upd {x:World} {Q:Nat} {T:TypeId} {e:Nat→Int} (h:Lie x Q T 11 (Ints e)) (j:Nat) (v:Int):Lie (x.setCell ⟨Q,j,none⟩ (.int .i64 v)) Q T 11 (Ints (En.upd e j v)):=by
 refine (h.store j (.int .i64 v)).congr fun l _=>?_;unfold Ints En.upd;split <;> rfl

theorem Lie.ent {x:World} {Q:Nat} {T:TypeId} {e:Nat→Int} (h:Lie x Q T 11 (Ints e)):x.cell? ⟨Q,0,none⟩=some (.int .i64 (e 0))∧x.cell? ⟨Q,1,none⟩=some (.int .i64 (e 1))∧x.cell? ⟨Q,2,none⟩=some (.int .i64 (e 2))∧x.cell? ⟨Q,3,none⟩=some (.int .i64 (e 3))∧x.cell? ⟨Q,4,none⟩=some (.int .i64 (e 4))∧x.cell? ⟨Q,5,none⟩=some (.int .i64 (e 5))∧x.cell? ⟨Q,6,none⟩=some (.int .i64 (e 6))∧x.cell? ⟨Q,7,none⟩=some (.int .i64 (e 7))∧x.cell? ⟨Q,8,none⟩=some (.int .i64 (e 8))∧x.cell? ⟨Q,9,none⟩=some (.int .i64 (e 9))∧x.cell? ⟨Q,10,none⟩=some (.int .i64 (e 10)) :=
 ⟨h.cell (by omega),h.cell (by omega),h.cell (by omega),h.cell (by omega),h.cell (by omega),h.cell (by omega),h.cell (by omega),h.cell (by omega),h.cell (by omega),h.cell (by omega),h.cell (by omega)⟩

theorem Lie.born (x:World) (e:Nat→Int) (T:TypeId):Lie (x.alloc (.cells (En.cells e) T)) x.heap.size T 11 (Ints e) :=
 Lie.congr (m:=11) (Arr.lit (heap_alloc_new x (.cells (En.cells e) T))).lie fun j hj=>by
  rcases (show j=0∨j=1∨j=2∨j=3∨j=4∨j=5∨j=6∨j=7∨j=8∨j=9∨j=10 by omega) with rfl|rfl|rfl|rfl|rfl|rfl|rfl|rfl|rfl|rfl|rfl <;> rfl

def Ft.Born (E:Nat→Nat→Int):Prop:=∀k,k<32→E k 0≠0→E k 6=En.stats (E k 0) 6∧E k 7=En.stats (E k 0) 7∧E k 8=En.stats (E k 0) 8

theorem Ft.Born.put {E:Nat→Nat→Int} (h:Ft.Born E) {r:Nat} {e:Nat→Int} (he:e 6=En.stats (e 0) 6∧e 7=En.stats (e 0) 7∧e 8=En.stats (e 0) 8):Ft.Born (En.put E r e):=fun k hk h0=>by
 by_cases x:k=r
 ·rw [x,En.put_same];exact he
 ·rw [En.put_other x] at h0 ⊢;exact h k hk h0


open Go.RowKit

structure Ft.Stands (c:Nat→Int) (E:Nat→Nat→Int):Prop where
 on:∀k,k<32→E k 0≠0→0≤E k 3∧E k 3<24∧0≤E k 4∧E k 4<16∧Gr.walkB (c (E k 4*24+E k 3).toNat)=true
 apart:∀j k,j<32→k<32→E j 0≠0→E k 0≠0→E j 3=E k 3→E j 4=E k 4→j=k

structure Ft.Set (c:Nat→Int) (E:Nat→Nat→Int):Prop where
 born:Ft.Born E
 stands:Ft.Stands c E

def Ft.Room (c:Nat→Int) (E:Nat→Nat→Int) (q:Nat):Prop:=Gr.walkB (c q)=true∧En.first (En.atQ E ((q:Int) % 24) ((q:Int) / 24)) 32<0

theorem Ft.cell_num {q:Nat} (hq:q<384):0≤(q:Int) % 24∧(q:Int) % 24<24∧0≤(q:Int) / 24∧(q:Int) / 24<16∧((q:Int) / 24*24+(q:Int) % 24).toNat=q:=by omega

theorem Ft.room_none {E:Nat→Nat→Int} {x y:Int} (h:En.first (En.atQ E x y) 32<0):∀j,j<32→E j 0≠0→¬(E j 3=x∧E j 4=y):=by
 rcases En.first_cases (En.atQ E x y) 32 with ⟨_,hno⟩|⟨k,_,he,_⟩
 ·intro j hj h0 hxy;have:=hno j hj;simp [En.atQ,h0,hxy.1,hxy.2] at this
 ·omega

theorem Ft.Set.put {c:Nat→Int} {E:Nat→Nat→Int} (h:Ft.Set c E) {r q:Nat} {e:Nat→Int} {gn:Int} (_h0:E r 0=0) (hq:q<384) (hr:Ft.Room c E q) (hx:e 3=(q:Int) % 24) (hy:e 4=(q:Int) / 24) (he:e 6=En.stats (e 0) 6∧e 7=En.stats (e 0) 7∧e 8=En.stats (e 0) 8):Ft.Set c (En.put E r (En.gen e gn)):=by
 obtain ⟨n1,n2,n3,n4,n5⟩:=Ft.cell_num hq;have hno:=Ft.room_none hr.2;have e3:En.gen e gn 3=(q:Int) % 24:=hx;have e4:En.gen e gn 4=(q:Int) / 24:=hy;refine ⟨h.born.put he,⟨fun k hk k0=>?_,fun j k hj hk j0 k0 hx' hy'=>?_⟩⟩
 ·by_cases e':k=r
  ·subst e';rw [En.put_same,e3,e4,n5];exact ⟨n1,n2,n3,n4,hr.1⟩
  ·rw [En.put_other e'] at k0 ⊢;exact h.stands.on k hk k0
 ·by_cases ej:j=r
  ·by_cases ek:k=r
   ·omega
   ·subst ej;rw [En.put_same,En.put_other ek,e3] at hx';rw [En.put_same,En.put_other ek,e4] at hy';rw [En.put_other ek] at k0;exact absurd ⟨hx'.symm,hy'.symm⟩ (hno k hk k0)
  ·by_cases ek:k=r
   ·subst ek;rw [En.put_same,En.put_other ej,e3] at hx';rw [En.put_same,En.put_other ej,e4] at hy';rw [En.put_other ej] at j0;exact absurd ⟨hx',hy'⟩ (hno j hj j0)
   ·rw [En.put_other ej,En.put_other ek] at hx' hy';rw [En.put_other ej] at j0;rw [En.put_other ek] at k0;exact h.stands.apart j k hj hk j0 k0 hx' hy'


open Go.RowKit

theorem Nv.reach_walk {f t:Nat→Int} {tlen blen:Nat} {g:Nat→Bool} {F:Nat→Int} (h:Gr.IsField (fun i=>Gr.openB f blen g i=true) (Gr.tgt f t tlen) F) {p:Nat} (hp:p<384) (h0:0≤F p):Gr.walkB (f p)=true:=by
 by_cases e:F p=0
 ·exact ((h.zero p hp).1 e).1
 ·have ho:=(h.back p hp (by omega)).1;by_cases hw:Gr.walkB (f p)=true
  ·exact hw
  ·rw [Bool.not_eq_true] at hw;rw [Gr.open_no hw] at ho;cases ho

theorem Nv.Floor.all {cs:Nat→Int} (hf:Nv.Floor cs) {H:Nat→Int} {b:Nat} (hb:b<384) (hcb:cs b≠0) (h:Gr.IsField (fun i=>Gr.openB cs 0 (fun _=>false) i=true) (Gr.tgt cs (fun _=>(b:Int)) 1) H) (i:Nat) (hi:i<384) (hci:cs i≠0):0≤H i:=by
 have hw:∀j,cs j≠0→Gr.walkB (cs j)=true:=fun j hj=>(Gn.walk_nz (hf.five j)).2 hj;refine hf.hang (fun j=>0≤H j) ?_ b hb hcb ?_ i hi hci
 ·intro j e hj he hP hn hc;exact (h.fwd j hj hP e he hn (by show Gr.openB cs 0 (fun _=>false) _=true;exact Gr.open_past (hw _ hc) (by omega))).1
 ·have:H b=0:=(h.zero b hb).2 ⟨hw b hcb,0,by omega,rfl⟩;show 0≤H b;omega

theorem Md.at_stand {c:Nat→Int} {E:Nat→Nat→Int} (hS:Ft.Stands c E) {k:Nat} (hk:k<32) (k0:E k 0≠0):Gr.walkB (Gr.at 384 c (E k 3) (E k 4))=true:=by
 obtain ⟨a1,a2,a3,a4,a5⟩:=hS.on k hk k0;unfold Gr.at;rw [if_pos ⟨(Gr.inB_iff _ _).2 (by omega),by omega⟩];exact a5


open Go.RowKit

theorem Md.fine_of {c:Nat→Int} {E I:Nat→Nat→Int} (hF:Ft.Fit c E I) (hS:Ft.Set c E):Md.Fine E:=fun k hk k0=>by
 obtain ⟨a,b,d,e,_⟩:=hS.stands.on k hk k0;have ht:=(hF.rows k hk).taken k0;exact ⟨a,b,d,e,by omega,by omega⟩

theorem Md.good_fit {c:Nat→Int} {E I:Nat→Nat→Int} (hF:Ft.Fit c E I) (hS:Ft.Set c E):Md.Good c E I :=
 Md.good_of (Md.fine_of hF hS) (fun k hk=>⟨⟨(hF.rows k hk).1,(hF.rows k hk).2.1⟩,fun k0=>by
  rcases (hF.rows k hk).2.2 with hz|ht
  ·exact ⟨hz 3 (by omega) (by omega),hz 4 (by omega) (by omega)⟩
  ·omega⟩) hF.ok


open Go.RowKit

def Cr.Less (E F:Nat→Nat→Int):Prop:=∀k,k<32→F k 0=0∨(F k 0=E k 0∧F k 2=E k 2∧F k 3=E k 3∧F k 4=E k 4∧F k 6=E k 6∧F k 7=E k 7∧F k 8=E k 8)

theorem Cr.Less.refl (E:Nat→Nat→Int):Cr.Less E E:=fun _ _=>.inr ⟨rfl,rfl,rfl,rfl,rfl,rfl,rfl⟩

theorem Cr.Less.trans {E F G:Nat→Nat→Int} (h:Cr.Less E F) (h':Cr.Less F G):Cr.Less E G:=fun k hk=>by
 rcases h' k hk with h0|⟨g0,g2,g3,g4,g6,g7,g8⟩
 ·exact .inl h0
 ·rcases h k hk with f0|⟨f0,f2,f3,f4,f6,f7,f8⟩
  ·exact .inl (g0.trans f0)
  ·exact .inr ⟨g0.trans f0,g2.trans f2,g3.trans f3,g4.trans f4,g6.trans f6,g7.trans f7,g8.trans f8⟩

theorem Cr.Less.hole (E:Nat→Nat→Int) (k:Nat) (n:Int):Cr.Less E (En.put E k (En.hole n)):=fun i hi=>by
 by_cases e:i=k
 ·rw [e,En.put_same];exact .inl rfl
 ·rw [En.put_other e];exact Cr.Less.refl E i hi

theorem Cr.Less.set (E:Nat→Nat→Int) (k j:Nat) (v:Int) (hj:j=5∨j=9∨j=10):Cr.Less E (Gd.set E k j v):=fun i _=>by
 have h:∀l,l≠5→l≠9→l≠10→Gd.set E k j v i l=E i l:=fun l h5 h9 h10=>if_neg (by omega);exact .inr ⟨h 0 (by omega) (by omega) (by omega),h 2 (by omega) (by omega) (by omega),h 3 (by omega) (by omega) (by omega),h 4 (by omega) (by omega) (by omega),h 6 (by omega) (by omega) (by omega),h 7 (by omega) (by omega) (by omega),h 8 (by omega) (by omega) (by omega)⟩

theorem Cr.Less.hurt (E:Nat→Nat→Int) (k:Nat) (n:Int):Cr.Less E (Ft.hurtE E k n):=by
 unfold Ft.hurtE;split
 ·exact Cr.Less.set E k 5 _ (.inl rfl)
 ·exact Cr.Less.hole E k _

theorem Cr.Less.leave (s:Nat→Int) (E:Nat→Nat→Int) (f t:Nat):Cr.Less E (Ft.leaveE s E f t):=by
 unfold Ft.leaveE;split
 ·exact Cr.Less.set E t 9 _ (.inr (.inl rfl))
 ·split
  ·exact Cr.Less.set E t 10 _ (.inr (.inr rfl))
  ·exact Cr.Less.refl E

theorem Cr.Less.hit (s:Nat→Int) (E I:Nat→Nat→Int) (f t:Int):Cr.Less E (Ft.hitE s E I f t):=by
 unfold Ft.hitE;split
 ·unfold Ft.blowE;split
  ·exact (Cr.Less.hurt E _ _).trans (Cr.Less.leave s _ _ _)
  ·exact Cr.Less.hurt E _ _
 ·exact Cr.Less.refl E

theorem Cr.Less.one (E:Nat→Nat→Int) (k:Nat):Cr.Less E (Ft.oneE E k):=by
 have hst:Cr.Less E (Ft.stunE E k):=by
  unfold Ft.stunE;split
  ·exact Cr.Less.set E k 10 _ (.inr (.inr rfl))
  ·exact Cr.Less.refl E
 unfold Ft.oneE;split
 ·exact (hst.trans (Cr.Less.set _ k 9 _ (.inr (.inl rfl)))).trans (Cr.Less.hurt _ _ _)
 ·exact hst

theorem Cr.Less.ail (E I:Nat→Nat→Int):∀n,Cr.Less E (Ft.ailE E I n).1
 | 0=>Cr.Less.refl E
 | n+1=>by
  unfold Ft.ailE;split
  ·exact (Cr.Less.ail E I n).trans (Cr.Less.one _ _)
  ·exact Cr.Less.ail E I n

theorem Cr.Less.next (E I:Nat→Nat→Int) (seat input:Int):Cr.Less E (Gd.nextE E I seat input):=by
 unfold Gd.nextE;split
 ·unfold Gd.entsOf;split
  ·exact (Cr.Less.set E _ 5 _ (.inl rfl)).trans (Cr.Less.set _ _ 9 _ (.inr (.inl rfl)))
  ·exact Cr.Less.refl E
 ·exact Cr.Less.refl E

structure Cr.Seats (E:Nat→Nat→Int):Prop where
 seat:∀k,k<32→E k 0=1→0≤E k 2∧E k 2<4
 one:∀j k,j<32→k<32→E j 0=1→E k 0=1→E j 2=E k 2→j=k
 none:∀k,k<32→E k 0≠0→E k 0≠1→E k 2=0

structure Cr.Sane (c:Nat→Int) (E I:Nat→Nat→Int):Prop where
 fit:Ft.Fit c E I
 set:Ft.Set c E
 seats:Cr.Seats E

theorem Cr.Less.seats {E F:Nat→Nat→Int} (h:Cr.Less E F) (hs:Cr.Seats E):Cr.Seats F:=by
 refine ⟨fun k hk k1=>?_,fun j k hj hk j1 k1 he=>?_,fun k hk k0 k1=>?_⟩
 ·rcases h k hk with h0|⟨f0,f2,_⟩
  ·omega
  ·rw [f2];exact hs.seat k hk (by omega)
 ·rcases h j hj with h0|⟨f0,f2,_⟩
  ·omega
  ·rcases h k hk with h0'|⟨g0,g2,_⟩
   ·omega
   ·exact hs.one j k hj hk (by omega) (by omega) (by omega)
 ·rcases h k hk with h0|⟨f0,f2,_⟩
  ·omega
  ·rw [f2];exact hs.none k hk (by omega) (by omega)

theorem Cr.Less.sets {c:Nat→Int} {E F:Nat→Nat→Int} (h:Cr.Less E F) (hs:Ft.Set c E):Ft.Set c F:=by
 refine ⟨fun k hk k0=>?_,⟨fun k hk k0=>?_,fun j k hj hk j0 k0 hx hy=>?_⟩⟩
 ·rcases h k hk with h0|⟨f0,_,_,_,f6,f7,f8⟩
  ·exact absurd h0 k0
  ·rw [f0,f6,f7,f8];exact hs.born k hk (by omega)
 ·rcases h k hk with h0|⟨f0,_,f3,f4,_⟩
  ·exact absurd h0 k0
  ·rw [f3,f4];exact hs.stands.on k hk (by omega)
 ·rcases h j hj with h0|⟨f0,_,f3,f4,_⟩
  ·exact absurd h0 j0
  ·rcases h k hk with h0'|⟨g0,_,g3,g4,_⟩
   ·exact absurd h0' k0
   ·exact hs.stands.apart j k hj hk (by omega) (by omega) (by omega) (by omega)

theorem Cr.Sane.less {c:Nat→Int} {E F I J:Nat→Nat→Int} (h:Cr.Sane c E I) (hl:Cr.Less E F) (hF:Ft.Fit c F J):Cr.Sane c F J :=
 ⟨hF,hl.sets h.set,hl.seats h.seats⟩

theorem Cr.Sane.hit {c:Nat→Int} {E I:Nat→Nat→Int} (h:Cr.Sane c E I) (s:Nat→Int) (f t:Int):Cr.Sane c (Ft.hitE s E I f t) (Ft.hitI s E I f t) :=
 h.less (Cr.Less.hit s E I f t) (h.fit.hit s f t)

theorem Cr.Sane.good {c:Nat→Int} {E I:Nat→Nat→Int} (h:Cr.Sane c E I):Md.Good c E I:=Md.good_fit h.fit h.set

def Cr.Gold (g:Nat→Int):Prop:=∀t,t<4→0≤g t∧g t≤999

theorem Cr.Sane.fine {c g:Nat→Int} {E I:Nat→Nat→Int} (h:Cr.Sane c E I) (hg:Cr.Gold g):Gd.Fine c g E I :=
 ⟨h.fit.cells,hg,fun k hk=>by
  rcases (h.fit.rows k hk).2.2 with hz|ht
  ·rw [hz 5 (by omega) (by omega)];omega
  ·omega,h.fit.ok⟩

def Cr.go (E:Nat→Nat→Int) (k:Nat) (x y:Int):Nat→Nat→Int:=Gd.set (Gd.set E k 3 x) k 4 y

theorem Cr.go_row (E:Nat→Nat→Int) {k i:Nat} (x y:Int) (h:i≠k):Cr.go E k x y i=E i:=by
 unfold Cr.go;rw [Ft.set_row _ _ _ _ _ h,Ft.set_row _ _ _ _ _ h]

theorem Cr.go_at (E:Nat→Nat→Int) (k:Nat) (x y:Int) (j:Nat):Cr.go E k x y k j=if j=4 then y else if j=3 then x else E k j:=by
 unfold Cr.go Gd.set;by_cases h4:j=4
 ·rw [if_pos ⟨rfl,h4⟩,if_pos h4]
 ·rw [if_neg (fun h=>h4 h.2),if_neg h4];by_cases h3:j=3
  ·rw [if_pos ⟨rfl,h3⟩,if_pos h3]
  ·rw [if_neg (fun h=>h3 h.2),if_neg h3]

theorem Cr.Sane.go {c:Nat→Int} {E I:Nat→Nat→Int} (h:Cr.Sane c E I) {k:Nat} (hk:k<32) (k0:E k 0≠0) {x y:Int} (hin:Gr.inB x y=true) (hw:Gr.walkB (Gr.at 384 c x y)=true) (hno:En.first (En.atQ E x y) 32<0):Cr.Sane c (Cr.go E k x y) I:=by
 have hb:=(Gr.inB_iff _ _).1 hin;have hno':=Ft.room_none hno;have e:∀j,j≠3→j≠4→Cr.go E k x y k j=E k j:=fun j h3 h4=>by rw [Cr.go_at,if_neg h4,if_neg h3]
 have e3:Cr.go E k x y k 3=x:=by rw [Cr.go_at,if_neg (by omega),if_pos rfl]
 have e4:Cr.go E k x y k 4=y:=by rw [Cr.go_at,if_pos rfl]
 have hw':Gr.walkB (c (y*24+x).toNat)=true:=by
  unfold Gr.at at hw
  rwa [if_pos ⟨hin,by omega⟩] at hw
 refine ⟨⟨h.fit.cells,h.fit.ok,fun i hi=>?_⟩,⟨fun i hi i0=>?_,⟨fun i hi i0=>?_,fun i j hi hj i0 j0 hx hy=>?_⟩⟩,⟨fun i hi i1=>?_,fun i j hi hj i1 j1 he=>?_,fun i hi i0 i1=>?_⟩⟩
 ·by_cases x':i=k
  ·rw [x'];have ht:=(h.fit.rows k hk).taken k0;refine ⟨by rw [e 1 (by omega) (by omega)];exact (h.fit.rows k hk).1,by rw [e 1 (by omega) (by omega)];exact (h.fit.rows k hk).2.1,.inr ?_⟩;rw [e 0 (by omega) (by omega),e 5 (by omega) (by omega),e 6 (by omega) (by omega),e 7 (by omega) (by omega),e 8 (by omega) (by omega),e 9 (by omega) (by omega),e 10 (by omega) (by omega)];exact ht
  ·rw [Cr.go_row E x y x'];exact h.fit.rows i hi
 ·by_cases x':i=k
  ·rw [x',e 0 (by omega) (by omega),e 6 (by omega) (by omega),e 7 (by omega) (by omega),e 8 (by omega) (by omega)];exact h.set.born k hk k0
  ·rw [Cr.go_row E x y x'] at i0 ⊢;exact h.set.born i hi i0
 ·by_cases x':i=k
  ·rw [x',e3,e4];exact ⟨hb.1,hb.2.1,hb.2.2.1,hb.2.2.2,hw'⟩
  ·rw [Cr.go_row E x y x'] at i0 ⊢;exact h.set.stands.on i hi i0
 ·by_cases xi:i=k
  ·by_cases xj:j=k
   ·omega
   ·subst xi;rw [e3,Cr.go_row E x y xj] at hx;rw [e4,Cr.go_row E x y xj] at hy;rw [Cr.go_row E x y xj] at j0;exact absurd ⟨hx.symm,hy.symm⟩ (hno' j hj j0)
  ·by_cases xj:j=k
   ·subst xj;rw [e3,Cr.go_row E x y xi] at hx;rw [e4,Cr.go_row E x y xi] at hy;rw [Cr.go_row E x y xi] at i0;exact absurd ⟨hx,hy⟩ (hno' i hi i0)
   ·rw [Cr.go_row E x y xi] at i0 hx hy;rw [Cr.go_row E x y xj] at j0 hx hy;exact h.set.stands.apart i j hi hj i0 j0 hx hy
 ·by_cases x':i=k
  ·rw [x',e 0 (by omega) (by omega)] at i1;rw [x',e 2 (by omega) (by omega)];exact h.seats.seat k hk i1
  ·rw [Cr.go_row E x y x'] at i1 ⊢;exact h.seats.seat i hi i1
 ·have f0:∀i,Cr.go E k x y i 0=E i 0:=fun i=>by
   by_cases x':i=k
   ·rw [x',e 0 (by omega) (by omega)]
   ·rw [Cr.go_row E x y x']
  have f2:∀i,Cr.go E k x y i 2=E i 2:=fun i=>by
   by_cases x':i=k
   ·rw [x',e 2 (by omega) (by omega)]
   ·rw [Cr.go_row E x y x']
  rw [f0] at i1 j1;rw [f2,f2] at he;exact h.seats.one i j hi hj i1 j1 he
 ·by_cases x':i=k
  ·rw [x',e 0 (by omega) (by omega)] at i0 i1;rw [x',e 2 (by omega) (by omega)];exact h.seats.none k hk i0 i1
  ·rw [Cr.go_row E x y x'] at i0 i1 ⊢;exact h.seats.none i hi i0 i1

def Cr.who (E:Nat→Nat→Int) (k:Nat) (d:Int):Int:=En.first (En.atQ E (E k 3+(Fx.way d).1) (E k 4+(Fx.way d).2)) 32

def Cr.act (s c:Nat→Int) (E I:Nat→Nat→Int) (k:Nat) (d:Int) (foe:Bool):(Nat→Nat→Int) × (Nat→Nat→Int) :=
 if d<1∨4<d then (E,I)
 else if 0≤Cr.who E k d then (if decide (E (Cr.who E k d).toNat 0=1)=foe then (Ft.hitE s E I (k:Int) (Cr.who E k d),Ft.hitI s E I (k:Int) (Cr.who E k d)) else (E,I))
 else if Gr.walkB (Gr.at 384 c (E k 3+(Fx.way d).1) (E k 4+(Fx.way d).2))=true then (Cr.go E k (E k 3+(Fx.way d).1) (E k 4+(Fx.way d).2),I) else (E,I)

theorem Cr.walk_in {c:Nat→Int} {x y:Int} (h:Gr.walkB (Gr.at 384 c x y)=true):Gr.inB x y=true:=by
 by_cases hi:Gr.inB x y=true
 ·exact hi
 ·unfold Gr.at at h;rw [if_neg (fun hh=>hi hh.1)] at h;cases h

theorem Cr.Sane.act {s c:Nat→Int} {E I:Nat→Nat→Int} (h:Cr.Sane c E I) {k:Nat} (hk:k<32) (k0:E k 0≠0) (d:Int) (foe:Bool):Cr.Sane c (Cr.act s c E I k d foe).1 (Cr.act s c E I k d foe).2:=by
 unfold Cr.act;split
 ·exact h
 ·split
  ·split
   ·exact h.hit s _ _
   ·exact h
  ·split
   ·rename_i _ hn hw;exact h.go hk k0 (Cr.walk_in hw) hw (by unfold Cr.who at hn;omega)
   ·exact h

def Cr.join (E:Nat→Nat→Int) (e:Nat→Int):Nat→Nat→Int:=if 0≤En.first (En.freeQ E) 32 then En.put E (En.first (En.freeQ E) 32).toNat (En.gen e ((E (En.first (En.freeQ E) 32).toNat 1+1) % 256)) else E

def Cr.one (kd st:Int) (q:Nat):Nat→Int:=En.upd (En.upd (En.upd (En.stats kd) 2 st) 3 ((q:Int) % 24)) 4 ((q:Int) / 24)

theorem Cr.join_cases (E:Nat→Nat→Int) (e:Nat→Int):Cr.join E e=E∨∃f:Nat,f<32∧E f 0=0∧(∀j,j<f→E j 0≠0)∧Cr.join E e=En.put E f (En.gen e ((E f 1+1) % 256)):=by
 unfold Cr.join;rcases En.first_cases (En.freeQ E) 32 with ⟨he,_⟩|⟨f,hf,he,hq,hno⟩
 ·rw [he,if_neg (by omega)];exact .inl rfl
 ·rw [he,if_pos (by omega),Int.toNat_natCast];exact .inr ⟨f,hf,by simpa [En.freeQ] using hq,fun j hj=>by simpa [En.freeQ] using hno j hj,rfl⟩


open Go.RowKit

theorem Md.ok_none (c:Nat→Int):Gd.Ok c 40 (fun _ _=>0):=⟨fun _ _=>.inl ⟨rfl,rfl,rfl,rfl⟩,fun _ _ _ _ _ h=>absurd rfl h⟩

theorem Md.way_some {d:Nat} (h1:1≤d) (h4:d≤4) (x y:Int):¬(x+(Fx.way (d:Int)).1=x∧y+(Fx.way (d:Int)).2=y):=by
 rcases (show d=1∨d=2∨d=3∨d=4 by omega) with rfl|rfl|rfl|rfl
 ·show ¬(x+0=x∧y+(-1)=y);omega
 ·show ¬(x+1=x∧y+0=y);omega
 ·show ¬(x+0=x∧y+1=y);omega
 ·show ¬(x+(-1)=x∧y+0=y);omega

theorem Md.num_cell {m:Nat} (h:m<384):Nv.num ((m:Int) % 24) ((m:Int) / 24)=(m:Int):=by
 unfold Nv.num;rw [if_pos ((Gr.inB_iff _ _).2 (by omega))];omega

theorem Md.set_at (E:Nat→Nat→Int) (k j:Nat) (v:Int):Gd.set E k j v k j=v:=if_pos ⟨rfl,rfl⟩

theorem Md.set_else (E:Nat→Nat→Int) (k j:Nat) (v:Int) {i l:Nat} (h:¬(i=k∧l=j)):Gd.set E k j v i l=E i l:=if_neg h


open Go.RowKit

namespace Gn

theorem nodup_inj {l:List Nat} (h:l.Nodup) {i j:Nat} (hi:i<l.length) (hj:j<l.length) (e:l[i]=l[j]):i=j:=by
 rcases Nat.lt_trichotomy i j with g|g|g
 ·exact absurd e (List.pairwise_iff_getElem.1 h i j hi hj g)
 ·exact g
 ·exact absurd e.symm (List.pairwise_iff_getElem.1 h j i hj hi g)

theorem erase_mem {l:List Nat} {n x:Nat} (hl:l.Nodup) (hn:n<l.length) (h:x∈l.eraseIdx n):x≠l[n]?.getD 0:=by
 intro e;rw [List.getElem?_eq_getElem hn] at e;obtain ⟨i,hi,hx⟩:=List.getElem_of_mem h;have hle:(l.eraseIdx n).length=l.length - 1:=by rw [List.length_eraseIdx,if_pos hn]
 rw [List.getElem_eraseIdx] at hx;rw [e] at hx;simp only [Option.getD_some] at hx;split at hx
 ·have:=nodup_inj hl _ _ hx;omega
 ·have:=nodup_inj hl _ _ hx;omega

theorem pick_lt {d:Dice} (hd:Fair d) (a:Int) {l:List Nat} (hl:l.length≠0):(d a 0 (l.length:Int)).toNat<l.length:=by
 have:=hd a 0 (l.length:Int) (by omega);omega

theorem pick_mem {l:List Nat} {n:Nat} (hn:n<l.length):l[n]?.getD 0∈l:=by
 rw [List.getElem?_eq_getElem hn];exact List.getElem_mem hn

theorem mons_all {d:Dice} (hd:Fair d) (f:Int) (h1:1≤f):∀(m k:Nat) (l:List Nat) (p:Int × Nat),p∈mons d f m k l→p.2∈l∧2≤p.1∧p.1≤4
 | 0,_,_,_,h=>by cases h
 | m+1,k,l,p,h=>by
  unfold mons at h;split at h
  ·cases h
  ·rename_i hl;have hn:=pick_lt hd (7+(k:Int)) hl;rcases List.mem_cons.1 h with rfl|h
   ·refine ⟨pick_mem hn,?_⟩;have hM:1≤(if 3<f+1 then (3:Int) else f+1)∧(if 3<f+1 then (3:Int) else f+1)≤3:=by split <;> omega
    have:=hd (16+(k:Int)) 1 (if 3<f+1 then 3 else f+1) hM.1;show 2≤kind d f k∧kind d f k≤4;unfold kind;omega
   ·have ih:=mons_all hd f h1 m (k+1) _ p h;exact ⟨List.mem_of_mem_eraseIdx ih.1,ih.2⟩

theorem those_nodupS (p:Nat→Bool) (n:Nat):(those p n).Nodup:=List.Nodup.sublist List.filter_sublist List.nodup_range

theorem those_mem {p:Nat→Bool} {n i:Nat} (h:i∈those p n):i<n∧p i=true:=by
 have:=List.mem_filter.1 h;exact ⟨List.mem_range.1 this.1,this.2⟩

theorem ents_at {d:Dice} (hd:Fair d) {f:Int} (h1:1≤f) {c F:Nat→Int} {i:Nat} {p:Int × Nat} (h:(ents d f c F)[i]?=some p):2≤p.1∧p.1≤4∧p.2<384∧c p.2=1∧4≤F p.2:=by
 have hm:=List.mem_of_getElem? h;obtain ⟨h2,h3,h4⟩:=mons_all hd f h1 _ _ _ p hm;obtain ⟨h5,h6⟩:=List.mem_filter.1 h2;obtain ⟨h7,h8⟩:=those_mem h5;refine ⟨h3,h4,h7,by simpa using h8,?_⟩;unfold afar at h6;simp at h6;exact h6

theorem pair_at {α:Type} {R:α→α→Prop} {l:List α} (h:l.Pairwise R) {i j:Nat} {p q:α} (hij:i<j) (hp:l[i]?=some p) (hq:l[j]?=some q):R p q:=by
 obtain ⟨h1,rfl⟩:=List.getElem?_eq_some_iff.1 hp;obtain ⟨h2,rfl⟩:=List.getElem?_eq_some_iff.1 hq;exact List.pairwise_iff_getElem.1 h i j h1 h2 hij

theorem lie_all {d:Dice} (hd:Fair d):∀(m k:Nat) (l:List Nat) (p:Itm),p∈lie d m k l→∃(K:Int) (cl:Nat),p=(K,1,(cl:Int) % 24,(cl:Int) / 24)∧cl∈l∧1≤K∧K≤4
 | 0,_,_,_,h=>by cases h
 | m+1,k,l,p,h=>by
  unfold lie at h;split at h
  ·cases h
  ·rename_i hl;have hn:=pick_lt hd (40+(k:Int)) hl;rcases List.mem_cons.1 h with rfl|h
   ·have:=hd (40+(k:Int)) 1 4 (by omega);exact ⟨_,_,rfl,pick_mem hn,by omega,by omega⟩
   ·obtain ⟨K,cl,he,hc,hk⟩:=lie_all hd m (k+1) _ p h;exact ⟨K,cl,he,List.mem_of_mem_eraseIdx hc,hk⟩

theorem lie_apart {d:Dice} (hd:Fair d):∀(m k:Nat) (l:List Nat),l.Nodup→(lie d m k l).Pairwise (fun p q=>¬(p.2.2.1=q.2.2.1∧p.2.2.2=q.2.2.2))
 | 0,_,_,_=>List.Pairwise.nil
 | m+1,k,l,hl=>by
  unfold lie;split
  ·exact List.Pairwise.nil
  ·rename_i h0;have hn:=pick_lt hd (40+(k:Int)) h0;refine List.Pairwise.cons (fun q hq=>?_) (lie_apart hd m (k+1) _ (hl.sublist (List.eraseIdx_sublist l _)));obtain ⟨K,cl,rfl,hc,_⟩:=lie_all hd m (k+1) _ q hq;have:=erase_mem hl hn hc;rintro ⟨e1,e2⟩;simp only at e1 e2;omega

def lying (d:Dice) (c:Nat→Int):Nat:=(lie d 4 0 (those (fun i=>c i == 1) 384)).length

theorem items_lie {d:Dice} (hd:Fair d) {c:Nat→Int} {i:Nat} {p:Itm} (hi:i<lying d c) (h:(items d c)[i]?=some p):∃(K:Int) (cl:Nat),p=(K,1,(cl:Int) % 24,(cl:Int) / 24)∧cl<384∧c cl=1∧1≤K∧K≤4:=by
 unfold items at h;rw [List.getElem?_append_left hi] at h;obtain ⟨K,cl,he,hc,hk⟩:=lie_all hd _ _ _ p (List.mem_of_getElem? h);obtain ⟨h7,h8⟩:=those_mem hc;exact ⟨K,cl,he,h7,by simpa using h8,hk⟩

theorem items_apart {d:Dice} (hd:Fair d) {c:Nat→Int} {i j:Nat} {p q:Itm} (hij:i<j) (hj:j<lying d c) (hp:(items d c)[i]?=some p) (hq:(items d c)[j]?=some q):¬(p.2.2.1=q.2.2.1∧p.2.2.2=q.2.2.2):=by
 unfold items at hp hq;rw [List.getElem?_append_left (by unfold lying at hj;omega)] at hp;rw [List.getElem?_append_left hj] at hq;exact pair_at (lie_apart hd 4 0 _ (those_nodupS _ _)) hij hp hq

theorem items_len (d:Dice) (c:Nat→Int):(items d c).length=lying d c+(if Gr.find 384 c 5<0 then 0 else 3)∧lying d c≤4:=by
 unfold items lying;rw [List.length_append];refine ⟨?_,lie_len d 4 0 _⟩;split <;> rfl

theorem flat_at (es:List (Int × Nat)):∀(i j:Nat) (p:Int × Nat),es[i]?=some p→j<11→(flat es)[i*11+j]?=(entCells p)[j]?:=by
 induction es with
 | nil=>intro i j p h;simp at h
 | cons q es ih =>
  intro i j p h hj;have hf:flat (q :: es)=entCells q ++ flat es:=rfl;have hq:(entCells q).length=11:=rfl;rw [hf];cases i with
  | zero =>
   simp only [List.getElem?_cons_zero,Option.some.injEq] at h;rw [List.getElem?_append_left (by omega),h];congr 1;omega
  | succ i =>
   rw [List.getElem?_cons_succ] at h;rw [List.getElem?_append_right (by omega),hq,show (i+1)*11+j - 11=i*11+j by omega];exact ih i j p h hj

theorem flatI_at (es:List Itm):∀(i j:Nat) (p:Itm),es[i]?=some p→j<4→(flatI es)[i*4+j]?=(itemCells p)[j]?:=by
 induction es with
 | nil=>intro i j p h;simp at h
 | cons q es ih =>
  intro i j p h hj;have hf:flatI (q :: es)=itemCells q ++ flatI es:=rfl;have hq:(itemCells q).length=4:=rfl;rw [hf];cases i with
  | zero =>
   simp only [List.getElem?_cons_zero,Option.some.injEq] at h;rw [List.getElem?_append_left (by omega),h];congr 1;omega
  | succ i =>
   rw [List.getElem?_cons_succ] at h;rw [List.getElem?_append_right (by omega),hq,show (i+1)*4+j - 4=i*4+j by omega];exact ih i j p h hj

end Gn

theorem ents_cells {w:World} {b nE cE:Nat} {aE:Option Addr} {es:List (Int × Nat)} (h:w.ownsRow b 70 11 (.slice aE nE cE) nE (Gn.flat es)) {i:Nat} {p:Int × Nat} (hp:es[i]?=some p) (hi:i<nE) :
  ∃g,aE=some ⟨g,0,none⟩∧g<w.heap.size∧∀j,j<11→w.cell? ⟨g,i*11+j,none⟩=(Gn.entCells p)[j]?:=by
 rcases h.2 with ⟨h',h0⟩|⟨g,cap,cur,h',_,hg,_⟩
 ·omega
 ·simp only [Value.slice.injEq] at h';obtain ⟨rfl,_,rfl⟩:=h';refine ⟨g,rfl,lt_of_block hg,fun j hj=>?_⟩;rw [h.cellAt (i*11+j) (by omega)];exact Gn.flat_at es i j p hp hj

theorem items_cells {w:World} {b nE cE:Nat} {aE:Option Addr} {es:List Gn.Itm} (h:w.ownsRow b 72 4 (.slice aE nE cE) nE (Gn.flatI es)) {i:Nat} {p:Gn.Itm} (hp:es[i]?=some p) (hi:i<nE) :
  ∃g,aE=some ⟨g,0,none⟩∧g<w.heap.size∧∀j,j<4→w.cell? ⟨g,i*4+j,none⟩=(Gn.itemCells p)[j]?:=by
 rcases h.2 with ⟨h',h0⟩|⟨g,cap,cur,h',_,hg,_⟩
 ·omega
 ·simp only [Value.slice.injEq] at h';obtain ⟨rfl,_,rfl⟩:=h';refine ⟨g,rfl,lt_of_block hg,fun j hj=>?_⟩;rw [h.cellAt (i*4+j) (by omega)];exact Gn.flatI_at es i j p hp hj

end Go.Proofs.YtldgbkjceildfaaGreat
