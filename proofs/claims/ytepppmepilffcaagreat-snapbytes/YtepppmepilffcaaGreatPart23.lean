import Derived.Test.YtepppmepilffcaaGreatPart22
namespace Go.Proofs.YtepppmepilffcaaGreat

def Sn.bt (v:Int) (k:Nat):Int:=v / 256 ^ k % 256

def Sn.num (n:Nat) (v:Int):List Int:=(List.range n).map fun j=>Sn.bt v (n - 1 - j)

def Sn.be (l:List Int):Int:=l.foldl (fun a b=>a*256+b) 0

theorem Sn.be_more (l:List Int) (b:Int):Sn.be (l ++ [b])=Sn.be l*256+b:=by
 unfold Sn.be
 rw [List.foldl_append]
 rfl

theorem Sn.num_len (n:Nat) (v:Int):(Sn.num n v).length=n:=by simp [Sn.num]

theorem Sn.bt_down (v:Int) (k:Nat):Sn.bt v (k+1)=Sn.bt (v / 256) k:=by
 unfold Sn.bt
 rw [Int.pow_succ,Int.mul_comm,Int.ediv_ediv_of_nonneg (by omega)]

theorem Sn.num_more (n:Nat) (v:Int):Sn.num (n+1) v=Sn.num n (v / 256) ++ [v % 256]:=by
 unfold Sn.num
 rw [List.range_succ,List.map_append]
 congr 1
 ·refine List.map_congr_left fun j hj=>?_
  have hj':j<n:=List.mem_range.1 hj
  rw [show n+1 - 1 - j=(n - 1 - j)+1 by omega,Sn.bt_down]
 ·simp [Sn.bt]

theorem Sn.be_num:∀(n:Nat) (v:Int),0≤v→v<256 ^ n→Sn.be (Sn.num n v)=v
 | 0,v,h0,h1=>by
  have:v<1:=by simpa using h1
  have hv:v=0:=by omega
  subst hv
  rfl
 | n+1,v,h0,h1=>by
  have hlt:v / 256<256 ^ n:=by
   rw [Int.pow_succ] at h1
   exact Int.ediv_lt_of_lt_mul (by omega) h1
  rw [Sn.num_more,Sn.be_more,Sn.be_num n (v / 256) (by omega) hlt]
  omega

theorem Sn.num_byte (n:Nat) (v:Int):∀b∈Sn.num n v,0≤b∧b≤255:=by
 intro b hb
 unfold Sn.num at hb
 obtain ⟨j,_,rfl⟩:=List.mem_map.1 hb
 unfold Sn.bt
 omega

def Sn.rows (k m:Nat) (f:Nat→Nat→Int):List Int:=(List.range k).flatMap fun i=>(List.range m).map fun j=>f i j % 256

theorem Sn.rows_more (k m:Nat) (f:Nat→Nat→Int):Sn.rows (k+1) m f=Sn.rows k m f ++ (List.range m).map fun j=>f k j % 256:=by
 unfold Sn.rows
 rw [List.range_succ,List.flatMap_append]
 simp

theorem Sn.rows_len (m:Nat) (f:Nat→Nat→Int):∀k,(Sn.rows k m f).length=k*m
 | 0=>by simp [Sn.rows]
 | k+1=>by
  rw [Sn.rows_more,List.length_append,Sn.rows_len m f k]
  simp [Nat.succ_mul]

theorem Sn.rows_at {m:Nat} {f:Nat→Nat→Int}:∀{k i j:Nat},i<k→j<m→(Sn.rows k m f)[i*m+j]?=some (f i j % 256)
 | 0,_,_,h,_=>absurd h (by omega)
 | k+1,i,j,hi,hj=>by
  rw [Sn.rows_more]
  by_cases e:i<k
  ·have hlt:i*m+j<k*m:=by
    have:(i+1)*m≤k*m:=Nat.mul_le_mul_right m e
    rw [Nat.succ_mul] at this
    omega
   rw [List.getElem?_append_left (by rw [Sn.rows_len];exact hlt),Sn.rows_at e hj]
  ·obtain rfl:i=k:=by omega
   rw [List.getElem?_append_right (by rw [Sn.rows_len];omega),Sn.rows_len,show i*m+j - i*m=j by omega,List.getElem?_map,List.getElem?_range hj]
   rfl

theorem Sn.rows_byte (k m:Nat) (f:Nat→Nat→Int):∀b∈Sn.rows k m f,0≤b∧b≤255:=by
 intro b hb
 unfold Sn.rows at hb
 obtain ⟨i,_,hb⟩:=List.mem_flatMap.1 hb
 obtain ⟨j,_,rfl⟩:=List.mem_map.1 hb
 omega

def Sn.golds (k:Nat) (g:Nat→Int):List Int:=(List.range k).flatMap fun t=>Sn.num 2 (g t % 18446744073709551616)

theorem Sn.golds_more (k:Nat) (g:Nat→Int):Sn.golds (k+1) g=Sn.golds k g ++ Sn.num 2 (g k % 18446744073709551616):=by
 unfold Sn.golds
 rw [List.range_succ,List.flatMap_append]
 simp

theorem Sn.golds_len (g:Nat→Int):∀k,(Sn.golds k g).length=k*2
 | 0=>by simp [Sn.golds]
 | k+1=>by
  rw [Sn.golds_more,List.length_append,Sn.golds_len g k,Sn.num_len]
  omega

def Sn.head (s:Nat→Int):List Int:=Sn.num 8 (s 0 % 18446744073709551616) ++ Sn.num 4 (s 1 % 18446744073709551616) ++ [s 2 % 256,s 3 % 256]

theorem Sn.head_len (s:Nat→Int):(Sn.head s).length=14:=by
 unfold Sn.head
 simp [Sn.num_len]

def Sn.bytes (s g c:Nat→Int) (E I:Nat→Nat→Int):List Int:=Sn.head s ++ Sn.golds 4 g ++ (List.range 384).map c ++ Sn.rows 32 11 E ++ Sn.rows 40 4 I

theorem Sn.bytes_len (s g c:Nat→Int) (E I:Nat→Nat→Int):(Sn.bytes s g c E I).length=918:=by
 unfold Sn.bytes
 simp only [List.length_append,Sn.head_len,Sn.golds_len,Sn.rows_len,List.length_map,List.length_range]

theorem Sn.golds_byte (k:Nat) (g:Nat→Int):∀b∈Sn.golds k g,0≤b∧b≤255:=by
 intro b hb
 unfold Sn.golds at hb
 obtain ⟨i,_,hb⟩:=List.mem_flatMap.1 hb
 exact Sn.num_byte _ _ b hb

theorem Sn.head_byte (s:Nat→Int):∀b∈Sn.head s,0≤b∧b≤255:=by
 intro b hb
 unfold Sn.head at hb
 simp only [List.mem_append,List.mem_cons,List.not_mem_nil,or_false] at hb
 rcases hb with (hb | hb) | rfl | rfl
 ·exact Sn.num_byte _ _ b hb
 ·exact Sn.num_byte _ _ b hb
 ·omega
 ·omega

theorem Sn.bytes_byte (s g c:Nat→Int) (E I:Nat→Nat→Int) (hc:∀i,0≤c i∧c i≤255):∀b∈Sn.bytes s g c E I,0≤b∧b≤255:=by
 intro b hb
 unfold Sn.bytes at hb
 simp only [List.mem_append] at hb
 rcases hb with (((hb | hb) | hb) | hb) | hb
 ·exact Sn.head_byte _ b hb
 ·exact Sn.golds_byte _ _ b hb
 ·obtain ⟨i,_,rfl⟩:=List.mem_map.1 hb
  exact hc i
 ·exact Sn.rows_byte _ _ _ b hb
 ·exact Sn.rows_byte _ _ _ b hb

theorem Sn.len14 (s g:Nat→Int):(Sn.head s ++ Sn.golds 4 g).length=22:=by rw [List.length_append,Sn.head_len,Sn.golds_len]

theorem Sn.len22 (s g c:Nat→Int):(Sn.head s ++ Sn.golds 4 g ++ (List.range 384).map c).length=406:=by rw [List.length_append,Sn.len14,List.length_map,List.length_range]

theorem Sn.len406 (s g c:Nat→Int) (E:Nat→Nat→Int):(Sn.head s ++ Sn.golds 4 g ++ (List.range 384).map c ++ Sn.rows 32 11 E).length=758:=by rw [List.length_append,Sn.len22,Sn.rows_len]

theorem Sn.bytes_item (s g c:Nat→Int) (E I:Nat→Nat→Int) {i j:Nat} (hi:i<40) (hj:j<4):(Sn.bytes s g c E I)[758+(i*4+j)]?=some (I i j % 256):=by
 unfold Sn.bytes
 rw [List.getElem?_append_right (by rw [Sn.len406];omega),Sn.len406,show 758+(i*4+j) - 758=i*4+j by omega]
 exact Sn.rows_at hi hj

theorem Sn.bytes_ent (s g c:Nat→Int) (E I:Nat→Nat→Int) {i j:Nat} (hi:i<32) (hj:j<11):(Sn.bytes s g c E I)[406+(i*11+j)]?=some (E i j % 256):=by
 unfold Sn.bytes
 have hlt:i*11+j<352:=by omega
 rw [List.getElem?_append_left (by rw [Sn.len406];omega),List.getElem?_append_right (by rw [Sn.len22];omega),Sn.len22,show 406+(i*11+j) - 406=i*11+j by omega]
 exact Sn.rows_at hi hj

theorem Sn.bytes_low (s g c:Nat→Int) (E I:Nat→Nat→Int) {k:Nat} (hk:k<406):(Sn.bytes s g c E I)[k]?=(Sn.head s ++ Sn.golds 4 g ++ (List.range 384).map c)[k]?:=by
 unfold Sn.bytes
 rw [List.getElem?_append_left (by rw [Sn.len406];omega),List.getElem?_append_left (by rw [Sn.len22];omega)]

theorem Sn.bytes_cell (s g c:Nat→Int) (E I:Nat→Nat→Int) {i:Nat} (hi:i<384):(Sn.bytes s g c E I)[22+i]?=some (c i):=by
 rw [Sn.bytes_low s g c E I (by omega),List.getElem?_append_right (by rw [Sn.len14];omega),Sn.len14,show 22+i - 22=i by omega,List.getElem?_map,List.getElem?_range hi]
 rfl

theorem Sn.bytes_gold (s g c:Nat→Int) (E I:Nat→Nat→Int) {t j:Nat} (ht:t<4) (hj:j<2):(Sn.bytes s g c E I)[14+2*t+j]?=(Sn.num 2 (g t % 18446744073709551616))[j]?:=by
 rw [Sn.bytes_low s g c E I (by omega),List.getElem?_append_left (by rw [Sn.len14];omega),List.getElem?_append_right (by rw [Sn.head_len];omega),Sn.head_len,show 14+2*t+j - 14=2*t+j by omega]
 have hg:∀k,t<k→(Sn.golds k g)[2*t+j]?=(Sn.num 2 (g t % 18446744073709551616))[j]?:=by
  intro k
  induction k with
  | zero=>intro h;omega
  | succ k ih =>
   intro h
   rw [Sn.golds_more]
   by_cases e:t<k
   ·rw [List.getElem?_append_left (by rw [Sn.golds_len];omega),ih e]
   ·obtain rfl:t=k:=by omega
    rw [List.getElem?_append_right (by rw [Sn.golds_len];omega),Sn.golds_len,show 2*t+j - t*2=j by omega]
 exact hg 4 ht

theorem Sn.bytes_head (s g c:Nat→Int) (E I:Nat→Nat→Int) {k:Nat} (hk:k<14):(Sn.bytes s g c E I)[k]?=(Sn.head s)[k]?:=by
 rw [Sn.bytes_low s g c E I (by omega),List.getElem?_append_left (by rw [Sn.len14];omega),List.getElem?_append_left (by rw [Sn.head_len];omega)]

def Sn.cut (F:Nat→Int) (at_ n:Nat):List Int:=(List.range n).map fun j=>F (at_+j)

theorem Sn.cut_more (F:Nat→Int) (at_ n:Nat):Sn.cut F at_ (n+1)=Sn.cut F at_ n ++ [F (at_+n)]:=by
 unfold Sn.cut
 rw [List.range_succ,List.map_append]
 rfl

theorem Sn.cut_is {F:Nat→Int} {at_ n:Nat} {l:List Int} (hl:l.length=n) (h:∀j,j<n→some (F (at_+j))=l[j]?):Sn.cut F at_ n=l:=by
 refine List.ext_getElem? fun j=>?_
 unfold Sn.cut
 rw [List.getElem?_map]
 by_cases hj:j<n
 ·rw [List.getElem?_range hj]
  exact h j hj
 ·rw [List.getElem?_eq_none (by simp;omega),List.getElem?_eq_none (by omega)]
  rfl

theorem Sn.be_bound:∀(n:Nat) (F:Nat→Int) (at_:Nat),(∀j,j<n→0≤F (at_+j)∧F (at_+j)≤255)→0≤Sn.be (Sn.cut F at_ n)∧Sn.be (Sn.cut F at_ n)<256 ^ n
 | 0,F,a,_=>by simp [Sn.cut,Sn.be]
 | n+1,F,a,h=>by
  obtain ⟨h0,h1⟩:=Sn.be_bound n F a (fun j hj=>h j (by omega))
  have hb:=h n (by omega)
  rw [Sn.cut_more,Sn.be_more,Int.pow_succ]
  omega

def Sn.rs (F:Nat→Int):Nat→Int
 | 0=>if Sn.be (Sn.cut F 0 8)<9223372036854775808 then Sn.be (Sn.cut F 0 8) else Sn.be (Sn.cut F 0 8) - 18446744073709551616
 | 1=>Sn.be (Sn.cut F 8 4)
 | 2=>F 12
 | _=>F 13

def Sn.rg (F:Nat→Int) (t:Nat):Int:=Sn.be (Sn.cut F (14+2*t) 2)
def Sn.rc (F:Nat→Int) (i:Nat):Int:=F (22+i)
def Sn.rE (F:Nat→Int) (i j:Nat):Int:=F (406+(i*11+j))
def Sn.rI (F:Nat→Int) (i j:Nat):Int:=F (758+(i*4+j))

def Sn.fn (l:List Int) (k:Nat):Int:=l[k]?.getD 0

theorem Sn.fn_at {l:List Int} {k:Nat} (hk:k<l.length):l[k]?=some (Sn.fn l k):=by
 unfold Sn.fn
 rw [List.getElem?_eq_getElem hk]
 rfl

theorem Sn.back {s g c:Nat→Int} {E I:Nat→Nat→Int} (h0:-9223372036854775808≤s 0∧s 0<9223372036854775808) (h1:0≤s 1∧s 1<4294967296) (h2:0≤s 2∧s 2≤255) (h3:0≤s 3∧s 3≤255) (hg:∀t,t<4→0≤g t∧g t<65536) (hE:∀i j,i<32→j<11→0≤E i j∧E i j≤255) (hI:∀i j,i<40→j<4→0≤I i j∧I i j≤255) :
  (∀k,k<4→Sn.rs (Sn.fn (Sn.bytes s g c E I)) k=s k)∧(∀t,t<4→Sn.rg (Sn.fn (Sn.bytes s g c E I)) t=g t)∧(∀i,i<384→Sn.rc (Sn.fn (Sn.bytes s g c E I)) i=c i)∧(∀i j,i<32→j<11→Sn.rE (Sn.fn (Sn.bytes s g c E I)) i j=E i j)∧(∀i j,i<40→j<4→Sn.rI (Sn.fn (Sn.bytes s g c E I)) i j=I i j):=by
 have hl:=Sn.bytes_len s g c E I
 have hf:∀k,k<918→some (Sn.fn (Sn.bytes s g c E I) k)=(Sn.bytes s g c E I)[k]?:=fun k hk=>(Sn.fn_at (by rw [hl];exact hk)).symm
 have hh:∀k,k<14→some (Sn.fn (Sn.bytes s g c E I) k)=(Sn.head s)[k]?:=fun k hk=>by rw [hf k (by omega),Sn.bytes_head s g c E I hk]
 have l8:∀v,(Sn.num 8 v).length=8:=Sn.num_len 8
 have l4:∀v,(Sn.num 4 v).length=4:=Sn.num_len 4
 refine ⟨fun k hk=>?_,fun t ht=>?_,fun i hi=>?_,fun i j hi hj=>?_,fun i j hi hj=>?_⟩
 ·rcases (show k=0∨k=1∨k=2∨k=3 by omega) with rfl | rfl | rfl | rfl
  ·have e:Sn.cut (Sn.fn (Sn.bytes s g c E I)) 0 8=Sn.num 8 (s 0 % 18446744073709551616):=Sn.cut_is (Sn.num_len _ _) fun j hj=>by
    rw [Nat.zero_add,hh j (by omega)]
    unfold Sn.head
    rw [List.getElem?_append_left (by simp [l8,l4];omega),List.getElem?_append_left (by rw [l8];exact hj)]
   show (if Sn.be (Sn.cut _ 0 8)<9223372036854775808 then _ else _)=_
   rw [e,Sn.be_num 8 _ (by omega) (by omega)]
   split <;> omega
  ·have e:Sn.cut (Sn.fn (Sn.bytes s g c E I)) 8 4=Sn.num 4 (s 1 % 18446744073709551616):=Sn.cut_is (Sn.num_len _ _) fun j hj=>by
    rw [hh (8+j) (by omega)]
    unfold Sn.head
    rw [List.getElem?_append_left (by simp [l8,l4];omega),List.getElem?_append_right (by rw [l8];omega),l8,show 8+j - 8=j by omega]
   show Sn.be (Sn.cut _ 8 4)=_
   rw [e,Sn.be_num 4 _ (by omega) (by omega)]
   omega
  ·have e:=hh 12 (by omega)
   unfold Sn.head at e
   rw [List.getElem?_append_right (by simp [l8,l4])] at e
   simp [l8,l4] at e
   show Sn.fn _ 12=_
   rw [e]
   omega
  ·have e:=hh 13 (by omega)
   unfold Sn.head at e
   rw [List.getElem?_append_right (by simp [l8,l4])] at e
   simp [l8,l4] at e
   show Sn.fn _ 13=_
   rw [e]
   omega
 ·have e:Sn.cut (Sn.fn (Sn.bytes s g c E I)) (14+2*t) 2=Sn.num 2 (g t % 18446744073709551616):=Sn.cut_is (Sn.num_len _ _) fun j hj=>by
   rw [hf _ (by omega),Sn.bytes_gold s g c E I ht hj]
  have hgt:=hg t ht
  show Sn.be (Sn.cut _ (14+2*t) 2)=_
  rw [e,Sn.be_num 2 _ (by omega) (by omega)]
  omega
 ·have e:=hf (22+i) (by omega)
  rw [Sn.bytes_cell s g c E I hi] at e
  exact Option.some.inj e
 ·have e:=hf (406+(i*11+j)) (by omega)
  rw [Sn.bytes_ent s g c E I hi hj] at e
  have:=hE i j hi hj
  have e':=Option.some.inj e
  show Sn.fn _ _=_
  rw [e']
  omega
 ·have e:=hf (758+(i*4+j)) (by omega)
  rw [Sn.bytes_item s g c E I hi hj] at e
  have:=hI i j hi hj
  have e':=Option.some.inj e
  show Sn.fn _ _=_
  rw [e']
  omega


open Go.RowKit

def Cr.Less (E F:Nat→Nat→Int):Prop:=∀k,k<32→F k 0=0∨(F k 0=E k 0∧F k 2=E k 2∧F k 3=E k 3∧F k 4=E k 4∧F k 6=E k 6∧F k 7=E k 7∧F k 8=E k 8)

theorem Cr.Less.refl (E:Nat→Nat→Int):Cr.Less E E:=fun _ _=>.inr ⟨rfl,rfl,rfl,rfl,rfl,rfl,rfl⟩

theorem Cr.Less.trans {E F G:Nat→Nat→Int} (h:Cr.Less E F) (h':Cr.Less F G):Cr.Less E G:=fun k hk=>by
 rcases h' k hk with h0 | ⟨g0,g2,g3,g4,g6,g7,g8⟩
 ·exact .inl h0
 ·rcases h k hk with f0 | ⟨f0,f2,f3,f4,f6,f7,f8⟩
  ·exact .inl (g0.trans f0)
  ·exact .inr ⟨g0.trans f0,g2.trans f2,g3.trans f3,g4.trans f4,g6.trans f6,g7.trans f7,g8.trans f8⟩

theorem Cr.Less.hole (E:Nat→Nat→Int) (k:Nat) (n:Int):Cr.Less E (En.put E k (En.hole n)):=fun i hi=>by
 by_cases e:i=k
 ·rw [e,En.put_same]
  exact .inl rfl
 ·rw [En.put_other e]
  exact Cr.Less.refl E i hi

theorem Cr.Less.set (E:Nat→Nat→Int) (k j:Nat) (v:Int) (hj:j=5∨j=9∨j=10):Cr.Less E (Gd.set E k j v):=fun i _=>by
 have h:∀l,l≠5→l≠9→l≠10→Gd.set E k j v i l=E i l:=fun l h5 h9 h10=>if_neg (by omega)
 exact .inr ⟨h 0 (by omega) (by omega) (by omega),h 2 (by omega) (by omega) (by omega),h 3 (by omega) (by omega) (by omega),h 4 (by omega) (by omega) (by omega),h 6 (by omega) (by omega) (by omega),h 7 (by omega) (by omega) (by omega),h 8 (by omega) (by omega) (by omega)⟩

theorem Cr.Less.hurt (E:Nat→Nat→Int) (k:Nat) (n:Int):Cr.Less E (Ft.hurtE E k n):=by
 unfold Ft.hurtE
 split
 ·exact Cr.Less.set E k 5 _ (.inl rfl)
 ·exact Cr.Less.hole E k _

theorem Cr.Less.leave (s:Nat→Int) (E:Nat→Nat→Int) (f t:Nat):Cr.Less E (Ft.leaveE s E f t):=by
 unfold Ft.leaveE
 split
 ·exact Cr.Less.set E t 9 _ (.inr (.inl rfl))
 ·split
  ·exact Cr.Less.set E t 10 _ (.inr (.inr rfl))
  ·exact Cr.Less.refl E

theorem Cr.Less.hit (s:Nat→Int) (E I:Nat→Nat→Int) (f t:Int):Cr.Less E (Ft.hitE s E I f t):=by
 unfold Ft.hitE
 split
 ·unfold Ft.blowE
  split
  ·exact (Cr.Less.hurt E _ _).trans (Cr.Less.leave s _ _ _)
  ·exact Cr.Less.hurt E _ _
 ·exact Cr.Less.refl E

theorem Cr.Less.one (E:Nat→Nat→Int) (k:Nat):Cr.Less E (Ft.oneE E k):=by
 have hst:Cr.Less E (Ft.stunE E k):=by
  unfold Ft.stunE
  split
  ·exact Cr.Less.set E k 10 _ (.inr (.inr rfl))
  ·exact Cr.Less.refl E
 unfold Ft.oneE
 split
 ·exact (hst.trans (Cr.Less.set _ k 9 _ (.inr (.inl rfl)))).trans (Cr.Less.hurt _ _ _)
 ·exact hst

theorem Cr.Less.ail (E I:Nat→Nat→Int):∀n,Cr.Less E (Ft.ailE E I n).1
 | 0=>Cr.Less.refl E
 | n+1=>by
  unfold Ft.ailE
  split
  ·exact (Cr.Less.ail E I n).trans (Cr.Less.one _ _)
  ·exact Cr.Less.ail E I n

theorem Cr.Less.next (E I:Nat→Nat→Int) (seat input:Int):Cr.Less E (Gd.nextE E I seat input):=by
 unfold Gd.nextE
 split
 ·unfold Gd.entsOf
  split
  ·exact (Cr.Less.set E _ 5 _ (.inl rfl)).trans (Cr.Less.set _ _ 9 _ (.inr (.inl rfl)))
  ·exact Cr.Less.refl E
 ·exact Cr.Less.refl E

structure Cr.Seats (E:Nat→Nat→Int):Prop where
 seat:∀k,k<32→E k 0=1→0≤E k 2∧E k 2<4
 one:∀j k,j<32→k<32→E j 0=1→E k 0=1→E j 2=E k 2→j=k
 none:∀k,k<32→E k 0≠0→E k 0≠1→E k 2=0

structure Cr.Sane (c:Nat→Int) (E I:Nat→Nat→Int):Prop where
 fit:Ft.Fit c E I
 set:Ft.Set c E
 seats:Cr.Seats E

theorem Cr.Less.seats {E F:Nat→Nat→Int} (h:Cr.Less E F) (hs:Cr.Seats E):Cr.Seats F:=by
 refine ⟨fun k hk k1=>?_,fun j k hj hk j1 k1 he=>?_,fun k hk k0 k1=>?_⟩
 ·rcases h k hk with h0 | ⟨f0,f2,_⟩
  ·omega
  ·rw [f2];exact hs.seat k hk (by omega)
 ·rcases h j hj with h0 | ⟨f0,f2,_⟩
  ·omega
  ·rcases h k hk with h0' | ⟨g0,g2,_⟩
   ·omega
   ·exact hs.one j k hj hk (by omega) (by omega) (by omega)
 ·rcases h k hk with h0 | ⟨f0,f2,_⟩
  ·omega
  ·rw [f2];exact hs.none k hk (by omega) (by omega)

theorem Cr.Less.sets {c:Nat→Int} {E F:Nat→Nat→Int} (h:Cr.Less E F) (hs:Ft.Set c E):Ft.Set c F:=by
 refine ⟨fun k hk k0=>?_,⟨fun k hk k0=>?_,fun j k hj hk j0 k0 hx hy=>?_⟩⟩
 ·rcases h k hk with h0 | ⟨f0,_,_,_,f6,f7,f8⟩
  ·exact absurd h0 k0
  ·rw [f0,f6,f7,f8];exact hs.born k hk (by omega)
 ·rcases h k hk with h0 | ⟨f0,_,f3,f4,_⟩
  ·exact absurd h0 k0
  ·rw [f3,f4];exact hs.stands.on k hk (by omega)
 ·rcases h j hj with h0 | ⟨f0,_,f3,f4,_⟩
  ·exact absurd h0 j0
  ·rcases h k hk with h0' | ⟨g0,_,g3,g4,_⟩
   ·exact absurd h0' k0
   ·exact hs.stands.apart j k hj hk (by omega) (by omega) (by omega) (by omega)

theorem Cr.Sane.less {c:Nat→Int} {E F I J:Nat→Nat→Int} (h:Cr.Sane c E I) (hl:Cr.Less E F) (hF:Ft.Fit c F J):Cr.Sane c F J :=
 ⟨hF,hl.sets h.set,hl.seats h.seats⟩

theorem Cr.Sane.hit {c:Nat→Int} {E I:Nat→Nat→Int} (h:Cr.Sane c E I) (s:Nat→Int) (f t:Int):Cr.Sane c (Ft.hitE s E I f t) (Ft.hitI s E I f t) :=
 h.less (Cr.Less.hit s E I f t) (h.fit.hit s f t)

theorem Cr.Sane.good {c:Nat→Int} {E I:Nat→Nat→Int} (h:Cr.Sane c E I):Md.Good c E I:=Md.good_fit h.fit h.set

def Cr.Gold (g:Nat→Int):Prop:=∀t,t<4→0≤g t∧g t≤999

theorem Cr.Sane.fine {c g:Nat→Int} {E I:Nat→Nat→Int} (h:Cr.Sane c E I) (hg:Cr.Gold g):Gd.Fine c g E I :=
 ⟨h.fit.cells,hg,fun k hk=>by
  rcases (h.fit.rows k hk).2.2 with hz | ht
  ·rw [hz 5 (by omega) (by omega)];omega
  ·omega,h.fit.ok⟩

def Cr.go (E:Nat→Nat→Int) (k:Nat) (x y:Int):Nat→Nat→Int:=Gd.set (Gd.set E k 3 x) k 4 y

theorem Cr.go_row (E:Nat→Nat→Int) {k i:Nat} (x y:Int) (h:i≠k):Cr.go E k x y i=E i:=by
 unfold Cr.go
 rw [Ft.set_row _ _ _ _ _ h,Ft.set_row _ _ _ _ _ h]

theorem Cr.go_at (E:Nat→Nat→Int) (k:Nat) (x y:Int) (j:Nat):Cr.go E k x y k j=if j=4 then y else if j=3 then x else E k j:=by
 unfold Cr.go Gd.set
 by_cases h4:j=4
 ·rw [if_pos ⟨rfl,h4⟩,if_pos h4]
 ·rw [if_neg (fun h=>h4 h.2),if_neg h4]
  by_cases h3:j=3
  ·rw [if_pos ⟨rfl,h3⟩,if_pos h3]
  ·rw [if_neg (fun h=>h3 h.2),if_neg h3]

theorem Cr.Sane.go {c:Nat→Int} {E I:Nat→Nat→Int} (h:Cr.Sane c E I) {k:Nat} (hk:k<32) (k0:E k 0≠0) {x y:Int} (hin:Gr.inB x y=true) (hw:Gr.walkB (Gr.at 384 c x y)=true) (hno:En.first (En.atQ E x y) 32<0):Cr.Sane c (Cr.go E k x y) I:=by
 have hb:=(Gr.inB_iff _ _).1 hin
 have hno':=Ft.room_none hno
 have e:∀j,j≠3→j≠4→Cr.go E k x y k j=E k j:=fun j h3 h4=>by rw [Cr.go_at,if_neg h4,if_neg h3]
 have e3:Cr.go E k x y k 3=x:=by rw [Cr.go_at,if_neg (by omega),if_pos rfl]
 have e4:Cr.go E k x y k 4=y:=by rw [Cr.go_at,if_pos rfl]
 have hw':Gr.walkB (c (y*24+x).toNat)=true:=by
  unfold Gr.at at hw
  rwa [if_pos ⟨hin,by omega⟩] at hw
 refine ⟨⟨h.fit.cells,h.fit.ok,fun i hi=>?_⟩,⟨fun i hi i0=>?_,⟨fun i hi i0=>?_,fun i j hi hj i0 j0 hx hy=>?_⟩⟩,⟨fun i hi i1=>?_,fun i j hi hj i1 j1 he=>?_,fun i hi i0 i1=>?_⟩⟩
 ·by_cases x':i=k
  ·rw [x']
   have ht:=(h.fit.rows k hk).taken k0
   refine ⟨by rw [e 1 (by omega) (by omega)];exact (h.fit.rows k hk).1,by rw [e 1 (by omega) (by omega)];exact (h.fit.rows k hk).2.1,.inr ?_⟩
   rw [e 0 (by omega) (by omega),e 5 (by omega) (by omega),e 6 (by omega) (by omega),e 7 (by omega) (by omega),e 8 (by omega) (by omega),e 9 (by omega) (by omega),e 10 (by omega) (by omega)]
   exact ht
  ·rw [Cr.go_row E x y x'];exact h.fit.rows i hi
 ·by_cases x':i=k
  ·rw [x',e 0 (by omega) (by omega),e 6 (by omega) (by omega),e 7 (by omega) (by omega),e 8 (by omega) (by omega)]
   exact h.set.born k hk k0
  ·rw [Cr.go_row E x y x'] at i0 ⊢;exact h.set.born i hi i0
 ·by_cases x':i=k
  ·rw [x',e3,e4]
   exact ⟨hb.1,hb.2.1,hb.2.2.1,hb.2.2.2,hw'⟩
  ·rw [Cr.go_row E x y x'] at i0 ⊢;exact h.set.stands.on i hi i0
 ·by_cases xi:i=k
  ·by_cases xj:j=k
   ·omega
   ·subst xi
    rw [e3,Cr.go_row E x y xj] at hx
    rw [e4,Cr.go_row E x y xj] at hy
    rw [Cr.go_row E x y xj] at j0
    exact absurd ⟨hx.symm,hy.symm⟩ (hno' j hj j0)
  ·by_cases xj:j=k
   ·subst xj
    rw [e3,Cr.go_row E x y xi] at hx
    rw [e4,Cr.go_row E x y xi] at hy
    rw [Cr.go_row E x y xi] at i0
    exact absurd ⟨hx,hy⟩ (hno' i hi i0)
   ·rw [Cr.go_row E x y xi] at i0 hx hy
    rw [Cr.go_row E x y xj] at j0 hx hy
    exact h.set.stands.apart i j hi hj i0 j0 hx hy
 ·by_cases x':i=k
  ·rw [x',e 0 (by omega) (by omega)] at i1
   rw [x',e 2 (by omega) (by omega)]
   exact h.seats.seat k hk i1
  ·rw [Cr.go_row E x y x'] at i1 ⊢;exact h.seats.seat i hi i1
 ·have f0:∀i,Cr.go E k x y i 0=E i 0:=fun i=>by
   by_cases x':i=k
   ·rw [x',e 0 (by omega) (by omega)]
   ·rw [Cr.go_row E x y x']
  have f2:∀i,Cr.go E k x y i 2=E i 2:=fun i=>by
   by_cases x':i=k
   ·rw [x',e 2 (by omega) (by omega)]
   ·rw [Cr.go_row E x y x']
  rw [f0] at i1 j1
  rw [f2,f2] at he
  exact h.seats.one i j hi hj i1 j1 he
 ·by_cases x':i=k
  ·rw [x',e 0 (by omega) (by omega)] at i0 i1
   rw [x',e 2 (by omega) (by omega)]
   exact h.seats.none k hk i0 i1
  ·rw [Cr.go_row E x y x'] at i0 i1 ⊢;exact h.seats.none i hi i0 i1

def Cr.who (E:Nat→Nat→Int) (k:Nat) (d:Int):Int:=En.first (En.atQ E (E k 3+(Fx.way d).1) (E k 4+(Fx.way d).2)) 32

def Cr.act (s c:Nat→Int) (E I:Nat→Nat→Int) (k:Nat) (d:Int) (foe:Bool):(Nat→Nat→Int) × (Nat→Nat→Int) :=
 if d<1∨4<d then (E,I)
 else if 0≤Cr.who E k d then (if decide (E (Cr.who E k d).toNat 0=1)=foe then (Ft.hitE s E I (k:Int) (Cr.who E k d),Ft.hitI s E I (k:Int) (Cr.who E k d)) else (E,I))
 else if Gr.walkB (Gr.at 384 c (E k 3+(Fx.way d).1) (E k 4+(Fx.way d).2))=true then (Cr.go E k (E k 3+(Fx.way d).1) (E k 4+(Fx.way d).2),I) else (E,I)

theorem Cr.walk_in {c:Nat→Int} {x y:Int} (h:Gr.walkB (Gr.at 384 c x y)=true):Gr.inB x y=true:=by
 by_cases hi:Gr.inB x y=true
 ·exact hi
 ·unfold Gr.at at h
  rw [if_neg (fun hh=>hi hh.1)] at h
  cases h

theorem Cr.Sane.act {s c:Nat→Int} {E I:Nat→Nat→Int} (h:Cr.Sane c E I) {k:Nat} (hk:k<32) (k0:E k 0≠0) (d:Int) (foe:Bool):Cr.Sane c (Cr.act s c E I k d foe).1 (Cr.act s c E I k d foe).2:=by
 unfold Cr.act
 split
 ·exact h
 ·split
  ·split
   ·exact h.hit s _ _
   ·exact h
  ·split
   ·rename_i _ hn hw
    exact h.go hk k0 (Cr.walk_in hw) hw (by unfold Cr.who at hn;omega)
   ·exact h

def Cr.join (E:Nat→Nat→Int) (e:Nat→Int):Nat→Nat→Int:=if 0≤En.first (En.freeQ E) 32 then En.put E (En.first (En.freeQ E) 32).toNat (En.gen e ((E (En.first (En.freeQ E) 32).toNat 1+1) % 256)) else E

def Cr.one (kd st:Int) (q:Nat):Nat→Int:=En.upd (En.upd (En.upd (En.stats kd) 2 st) 3 ((q:Int) % 24)) 4 ((q:Int) / 24)

theorem Cr.join_cases (E:Nat→Nat→Int) (e:Nat→Int):Cr.join E e=E∨∃f:Nat,f<32∧E f 0=0∧(∀j,j<f→E j 0≠0)∧Cr.join E e=En.put E f (En.gen e ((E f 1+1) % 256)):=by
 unfold Cr.join
 rcases En.first_cases (En.freeQ E) 32 with ⟨he,_⟩ | ⟨f,hf,he,hq,hno⟩
 ·rw [he,if_neg (by omega)];exact .inl rfl
 ·rw [he,if_pos (by omega),Int.toNat_natCast]
  exact .inr ⟨f,hf,by simpa [En.freeQ] using hq,fun j hj=>by simpa [En.freeQ] using hno j hj,rfl⟩


open Go.RowKit

theorem Md.ok_none (c:Nat→Int):Gd.Ok c 40 (fun _ _=>0):=⟨fun _ _=>.inl ⟨rfl,rfl,rfl,rfl⟩,fun _ _ _ _ _ h=>absurd rfl h⟩

theorem Md.way_some {d:Nat} (h1:1≤d) (h4:d≤4) (x y:Int):¬(x+(Fx.way (d:Int)).1=x∧y+(Fx.way (d:Int)).2=y):=by
 rcases (show d=1∨d=2∨d=3∨d=4 by omega) with rfl | rfl | rfl | rfl
 ·show ¬(x+0=x∧y+(-1)=y);omega
 ·show ¬(x+1=x∧y+0=y);omega
 ·show ¬(x+0=x∧y+1=y);omega
 ·show ¬(x+(-1)=x∧y+0=y);omega

theorem Md.num_cell {m:Nat} (h:m<384):Nv.num ((m:Int) % 24) ((m:Int) / 24)=(m:Int):=by
 unfold Nv.num
 rw [if_pos ((Gr.inB_iff _ _).2 (by omega))]
 omega

theorem Md.set_at (E:Nat→Nat→Int) (k j:Nat) (v:Int):Gd.set E k j v k j=v:=if_pos ⟨rfl,rfl⟩

theorem Md.set_else (E:Nat→Nat→Int) (k j:Nat) (v:Int) {i l:Nat} (h:¬(i=k∧l=j)):Gd.set E k j v i l=E i l:=if_neg h

end Go.Proofs.YtepppmepilffcaaGreat
