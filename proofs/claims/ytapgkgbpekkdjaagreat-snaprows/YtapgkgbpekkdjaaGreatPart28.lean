import Derived.Test.YtapgkgbpekkdjaaGreatPart24
import Derived.Test.YtapgkgbpekkdjaaGreatPart27
namespace Go.Proofs.YtapgkgbpekkdjaaGreat

def Sn.bt (v:Int) (k:Nat):Int:=v / 256 ^ k % 256

def Sn.num (n:Nat) (v:Int):List Int:=(List.range n).map fun j=>Sn.bt v (n - 1 - j)

def Sn.be (l:List Int):Int:=l.foldl (fun a b=>a*256+b) 0

theorem Sn.be_more (l:List Int) (b:Int):Sn.be (l ++ [b])=Sn.be l*256+b:=by
 unfold Sn.be
 rw [List.foldl_append]
 rfl

theorem Sn.num_len (n:Nat) (v:Int):(Sn.num n v).length=n:=by simp [Sn.num]

theorem Sn.bt_down (v:Int) (k:Nat):Sn.bt v (k+1)=Sn.bt (v / 256) k:=by
 unfold Sn.bt
 rw [Int.pow_succ,Int.mul_comm,Int.ediv_ediv_of_nonneg (by omega)]

theorem Sn.num_more (n:Nat) (v:Int):Sn.num (n+1) v=Sn.num n (v / 256) ++ [v % 256]:=by
 unfold Sn.num
 rw [List.range_succ,List.map_append]
 congr 1
 ·refine List.map_congr_left fun j hj=>?_
  have hj':j<n:=List.mem_range.1 hj
  rw [show n+1 - 1 - j=(n - 1 - j)+1 by omega,Sn.bt_down]
 ·simp [Sn.bt]

theorem Sn.be_num:∀(n:Nat) (v:Int),0≤v→v<256 ^ n→Sn.be (Sn.num n v)=v
 | 0,v,h0,h1=>by
  have:v<1:=by simpa using h1
  have hv:v=0:=by omega
  subst hv
  rfl
 | n+1,v,h0,h1=>by
  have hlt:v / 256<256 ^ n:=by
   rw [Int.pow_succ] at h1
   exact Int.ediv_lt_of_lt_mul (by omega) h1
  rw [Sn.num_more,Sn.be_more,Sn.be_num n (v / 256) (by omega) hlt]
  omega

theorem Sn.num_byte (n:Nat) (v:Int):∀b∈Sn.num n v,0≤b∧b≤255:=by
 intro b hb
 unfold Sn.num at hb
 obtain ⟨j,_,rfl⟩:=List.mem_map.1 hb
 unfold Sn.bt
 omega

def Sn.rows (k m:Nat) (f:Nat→Nat→Int):List Int:=(List.range k).flatMap fun i=>(List.range m).map fun j=>f i j % 256

theorem Sn.rows_more (k m:Nat) (f:Nat→Nat→Int):Sn.rows (k+1) m f=Sn.rows k m f ++ (List.range m).map fun j=>f k j % 256:=by
 unfold Sn.rows
 rw [List.range_succ,List.flatMap_append]
 simp

theorem Sn.rows_len (m:Nat) (f:Nat→Nat→Int):∀k,(Sn.rows k m f).length=k*m
 | 0=>by simp [Sn.rows]
 | k+1=>by
  rw [Sn.rows_more,List.length_append,Sn.rows_len m f k]
  simp [Nat.succ_mul]

theorem Sn.rows_at {m:Nat} {f:Nat→Nat→Int}:∀{k i j:Nat},i<k→j<m→(Sn.rows k m f)[i*m+j]?=some (f i j % 256)
 | 0,_,_,h,_=>absurd h (by omega)
 | k+1,i,j,hi,hj=>by
  rw [Sn.rows_more]
  by_cases e:i<k
  ·have hlt:i*m+j<k*m:=by
    have:(i+1)*m≤k*m:=Nat.mul_le_mul_right m e
    rw [Nat.succ_mul] at this
    omega
   rw [List.getElem?_append_left (by rw [Sn.rows_len];exact hlt),Sn.rows_at e hj]
  ·obtain rfl:i=k:=by omega
   rw [List.getElem?_append_right (by rw [Sn.rows_len];omega),Sn.rows_len,show i*m+j - i*m=j by omega,List.getElem?_map,List.getElem?_range hj]
   rfl

theorem Sn.rows_byte (k m:Nat) (f:Nat→Nat→Int):∀b∈Sn.rows k m f,0≤b∧b≤255:=by
 intro b hb
 unfold Sn.rows at hb
 obtain ⟨i,_,hb⟩:=List.mem_flatMap.1 hb
 obtain ⟨j,_,rfl⟩:=List.mem_map.1 hb
 omega

def Sn.golds (k:Nat) (g:Nat→Int):List Int:=(List.range k).flatMap fun t=>Sn.num 2 (g t % 18446744073709551616)

theorem Sn.golds_more (k:Nat) (g:Nat→Int):Sn.golds (k+1) g=Sn.golds k g ++ Sn.num 2 (g k % 18446744073709551616):=by
 unfold Sn.golds
 rw [List.range_succ,List.flatMap_append]
 simp

theorem Sn.golds_len (g:Nat→Int):∀k,(Sn.golds k g).length=k*2
 | 0=>by simp [Sn.golds]
 | k+1=>by
  rw [Sn.golds_more,List.length_append,Sn.golds_len g k,Sn.num_len]
  omega

def Sn.head (s:Nat→Int):List Int:=Sn.num 8 (s 0 % 18446744073709551616) ++ Sn.num 4 (s 1 % 18446744073709551616) ++ [s 2 % 256,s 3 % 256]

theorem Sn.head_len (s:Nat→Int):(Sn.head s).length=14:=by
 unfold Sn.head
 simp [Sn.num_len]

def Sn.bytes (s g c:Nat→Int) (E I:Nat→Nat→Int):List Int:=Sn.head s ++ Sn.golds 4 g ++ (List.range 384).map c ++ Sn.rows 32 11 E ++ Sn.rows 40 4 I

theorem Sn.bytes_len (s g c:Nat→Int) (E I:Nat→Nat→Int):(Sn.bytes s g c E I).length=918:=by
 unfold Sn.bytes
 simp only [List.length_append,Sn.head_len,Sn.golds_len,Sn.rows_len,List.length_map,List.length_range]

theorem Sn.golds_byte (k:Nat) (g:Nat→Int):∀b∈Sn.golds k g,0≤b∧b≤255:=by
 intro b hb
 unfold Sn.golds at hb
 obtain ⟨i,_,hb⟩:=List.mem_flatMap.1 hb
 exact Sn.num_byte _ _ b hb

theorem Sn.head_byte (s:Nat→Int):∀b∈Sn.head s,0≤b∧b≤255:=by
 intro b hb
 unfold Sn.head at hb
 simp only [List.mem_append,List.mem_cons,List.not_mem_nil,or_false] at hb
 rcases hb with (hb | hb) | rfl | rfl
 ·exact Sn.num_byte _ _ b hb
 ·exact Sn.num_byte _ _ b hb
 ·omega
 ·omega

theorem Sn.bytes_byte (s g c:Nat→Int) (E I:Nat→Nat→Int) (hc:∀i,0≤c i∧c i≤255):∀b∈Sn.bytes s g c E I,0≤b∧b≤255:=by
 intro b hb
 unfold Sn.bytes at hb
 simp only [List.mem_append] at hb
 rcases hb with (((hb | hb) | hb) | hb) | hb
 ·exact Sn.head_byte _ b hb
 ·exact Sn.golds_byte _ _ b hb
 ·obtain ⟨i,_,rfl⟩:=List.mem_map.1 hb
  exact hc i
 ·exact Sn.rows_byte _ _ _ b hb
 ·exact Sn.rows_byte _ _ _ b hb

theorem Sn.len14 (s g:Nat→Int):(Sn.head s ++ Sn.golds 4 g).length=22:=by rw [List.length_append,Sn.head_len,Sn.golds_len]

theorem Sn.len22 (s g c:Nat→Int):(Sn.head s ++ Sn.golds 4 g ++ (List.range 384).map c).length=406:=by rw [List.length_append,Sn.len14,List.length_map,List.length_range]

theorem Sn.len406 (s g c:Nat→Int) (E:Nat→Nat→Int):(Sn.head s ++ Sn.golds 4 g ++ (List.range 384).map c ++ Sn.rows 32 11 E).length=758:=by rw [List.length_append,Sn.len22,Sn.rows_len]

theorem Sn.bytes_item (s g c:Nat→Int) (E I:Nat→Nat→Int) {i j:Nat} (hi:i<40) (hj:j<4):(Sn.bytes s g c E I)[758+(i*4+j)]?=some (I i j % 256):=by
 unfold Sn.bytes
 rw [List.getElem?_append_right (by rw [Sn.len406];omega),Sn.len406,show 758+(i*4+j) - 758=i*4+j by omega]
 exact Sn.rows_at hi hj

theorem Sn.bytes_ent (s g c:Nat→Int) (E I:Nat→Nat→Int) {i j:Nat} (hi:i<32) (hj:j<11):(Sn.bytes s g c E I)[406+(i*11+j)]?=some (E i j % 256):=by
 unfold Sn.bytes
 have hlt:i*11+j<352:=by omega
 rw [List.getElem?_append_left (by rw [Sn.len406];omega),List.getElem?_append_right (by rw [Sn.len22];omega),Sn.len22,show 406+(i*11+j) - 406=i*11+j by omega]
 exact Sn.rows_at hi hj

theorem Sn.bytes_low (s g c:Nat→Int) (E I:Nat→Nat→Int) {k:Nat} (hk:k<406):(Sn.bytes s g c E I)[k]?=(Sn.head s ++ Sn.golds 4 g ++ (List.range 384).map c)[k]?:=by
 unfold Sn.bytes
 rw [List.getElem?_append_left (by rw [Sn.len406];omega),List.getElem?_append_left (by rw [Sn.len22];omega)]

theorem Sn.bytes_cell (s g c:Nat→Int) (E I:Nat→Nat→Int) {i:Nat} (hi:i<384):(Sn.bytes s g c E I)[22+i]?=some (c i):=by
 rw [Sn.bytes_low s g c E I (by omega),List.getElem?_append_right (by rw [Sn.len14];omega),Sn.len14,show 22+i - 22=i by omega,List.getElem?_map,List.getElem?_range hi]
 rfl

theorem Sn.bytes_gold (s g c:Nat→Int) (E I:Nat→Nat→Int) {t j:Nat} (ht:t<4) (hj:j<2):(Sn.bytes s g c E I)[14+2*t+j]?=(Sn.num 2 (g t % 18446744073709551616))[j]?:=by
 rw [Sn.bytes_low s g c E I (by omega),List.getElem?_append_left (by rw [Sn.len14];omega),List.getElem?_append_right (by rw [Sn.head_len];omega),Sn.head_len,show 14+2*t+j - 14=2*t+j by omega]
 have hg:∀k,t<k→(Sn.golds k g)[2*t+j]?=(Sn.num 2 (g t % 18446744073709551616))[j]?:=by
  intro k
  induction k with
  | zero=>intro h;omega
  | succ k ih =>
   intro h
   rw [Sn.golds_more]
   by_cases e:t<k
   ·rw [List.getElem?_append_left (by rw [Sn.golds_len];omega),ih e]
   ·obtain rfl:t=k:=by omega
    rw [List.getElem?_append_right (by rw [Sn.golds_len];omega),Sn.golds_len,show 2*t+j - t*2=j by omega]
 exact hg 4 ht

theorem Sn.bytes_head (s g c:Nat→Int) (E I:Nat→Nat→Int) {k:Nat} (hk:k<14):(Sn.bytes s g c E I)[k]?=(Sn.head s)[k]?:=by
 rw [Sn.bytes_low s g c E I (by omega),List.getElem?_append_left (by rw [Sn.len14];omega),List.getElem?_append_left (by rw [Sn.head_len];omega)]

def Sn.cut (F:Nat→Int) (at_ n:Nat):List Int:=(List.range n).map fun j=>F (at_+j)

theorem Sn.cut_more (F:Nat→Int) (at_ n:Nat):Sn.cut F at_ (n+1)=Sn.cut F at_ n ++ [F (at_+n)]:=by
 unfold Sn.cut
 rw [List.range_succ,List.map_append]
 rfl

theorem Sn.cut_is {F:Nat→Int} {at_ n:Nat} {l:List Int} (hl:l.length=n) (h:∀j,j<n→some (F (at_+j))=l[j]?):Sn.cut F at_ n=l:=by
 refine List.ext_getElem? fun j=>?_
 unfold Sn.cut
 rw [List.getElem?_map]
 by_cases hj:j<n
 ·rw [List.getElem?_range hj]
  exact h j hj
 ·rw [List.getElem?_eq_none (by simp;omega),List.getElem?_eq_none (by omega)]
  rfl

theorem Sn.be_bound:∀(n:Nat) (F:Nat→Int) (at_:Nat),(∀j,j<n→0≤F (at_+j)∧F (at_+j)≤255)→0≤Sn.be (Sn.cut F at_ n)∧Sn.be (Sn.cut F at_ n)<256 ^ n
 | 0,F,a,_=>by simp [Sn.cut,Sn.be]
 | n+1,F,a,h=>by
  obtain ⟨h0,h1⟩:=Sn.be_bound n F a (fun j hj=>h j (by omega))
  have hb:=h n (by omega)
  rw [Sn.cut_more,Sn.be_more,Int.pow_succ]
  omega

def Sn.rs (F:Nat→Int):Nat→Int
 | 0=>if Sn.be (Sn.cut F 0 8)<9223372036854775808 then Sn.be (Sn.cut F 0 8) else Sn.be (Sn.cut F 0 8) - 18446744073709551616
 | 1=>Sn.be (Sn.cut F 8 4)
 | 2=>F 12
 | _=>F 13

def Sn.rg (F:Nat→Int) (t:Nat):Int:=Sn.be (Sn.cut F (14+2*t) 2)
def Sn.rc (F:Nat→Int) (i:Nat):Int:=F (22+i)
def Sn.rE (F:Nat→Int) (i j:Nat):Int:=F (406+(i*11+j))
def Sn.rI (F:Nat→Int) (i j:Nat):Int:=F (758+(i*4+j))

def Sn.fn (l:List Int) (k:Nat):Int:=l[k]?.getD 0

theorem Sn.fn_at {l:List Int} {k:Nat} (hk:k<l.length):l[k]?=some (Sn.fn l k):=by
 unfold Sn.fn
 rw [List.getElem?_eq_getElem hk]
 rfl

theorem Sn.back {s g c:Nat→Int} {E I:Nat→Nat→Int} (h0:-9223372036854775808≤s 0∧s 0<9223372036854775808) (h1:0≤s 1∧s 1<4294967296) (h2:0≤s 2∧s 2≤255) (h3:0≤s 3∧s 3≤255) (hg:∀t,t<4→0≤g t∧g t<65536) (hE:∀i j,i<32→j<11→0≤E i j∧E i j≤255) (hI:∀i j,i<40→j<4→0≤I i j∧I i j≤255) :
  (∀k,k<4→Sn.rs (Sn.fn (Sn.bytes s g c E I)) k=s k)∧(∀t,t<4→Sn.rg (Sn.fn (Sn.bytes s g c E I)) t=g t)∧(∀i,i<384→Sn.rc (Sn.fn (Sn.bytes s g c E I)) i=c i)∧(∀i j,i<32→j<11→Sn.rE (Sn.fn (Sn.bytes s g c E I)) i j=E i j)∧(∀i j,i<40→j<4→Sn.rI (Sn.fn (Sn.bytes s g c E I)) i j=I i j):=by
 have hl:=Sn.bytes_len s g c E I
 have hf:∀k,k<918→some (Sn.fn (Sn.bytes s g c E I) k)=(Sn.bytes s g c E I)[k]?:=fun k hk=>(Sn.fn_at (by rw [hl];exact hk)).symm
 have hh:∀k,k<14→some (Sn.fn (Sn.bytes s g c E I) k)=(Sn.head s)[k]?:=fun k hk=>by rw [hf k (by omega),Sn.bytes_head s g c E I hk]
 have l8:∀v,(Sn.num 8 v).length=8:=Sn.num_len 8
 have l4:∀v,(Sn.num 4 v).length=4:=Sn.num_len 4
 refine ⟨fun k hk=>?_,fun t ht=>?_,fun i hi=>?_,fun i j hi hj=>?_,fun i j hi hj=>?_⟩
 ·rcases (show k=0∨k=1∨k=2∨k=3 by omega) with rfl | rfl | rfl | rfl
  ·have e:Sn.cut (Sn.fn (Sn.bytes s g c E I)) 0 8=Sn.num 8 (s 0 % 18446744073709551616):=Sn.cut_is (Sn.num_len _ _) fun j hj=>by
    rw [Nat.zero_add,hh j (by omega)]
    unfold Sn.head
    rw [List.getElem?_append_left (by simp [l8,l4];omega),List.getElem?_append_left (by rw [l8];exact hj)]
   show (if Sn.be (Sn.cut _ 0 8)<9223372036854775808 then _ else _)=_
   rw [e,Sn.be_num 8 _ (by omega) (by omega)]
   split <;> omega
  ·have e:Sn.cut (Sn.fn (Sn.bytes s g c E I)) 8 4=Sn.num 4 (s 1 % 18446744073709551616):=Sn.cut_is (Sn.num_len _ _) fun j hj=>by
    rw [hh (8+j) (by omega)]
    unfold Sn.head
    rw [List.getElem?_append_left (by simp [l8,l4];omega),List.getElem?_append_right (by rw [l8];omega),l8,show 8+j - 8=j by omega]
   show Sn.be (Sn.cut _ 8 4)=_
   rw [e,Sn.be_num 4 _ (by omega) (by omega)]
   omega
  ·have e:=hh 12 (by omega)
   unfold Sn.head at e
   rw [List.getElem?_append_right (by simp [l8,l4])] at e
   simp [l8,l4] at e
   show Sn.fn _ 12=_
   rw [e]
   omega
  ·have e:=hh 13 (by omega)
   unfold Sn.head at e
   rw [List.getElem?_append_right (by simp [l8,l4])] at e
   simp [l8,l4] at e
   show Sn.fn _ 13=_
   rw [e]
   omega
 ·have e:Sn.cut (Sn.fn (Sn.bytes s g c E I)) (14+2*t) 2=Sn.num 2 (g t % 18446744073709551616):=Sn.cut_is (Sn.num_len _ _) fun j hj=>by
   rw [hf _ (by omega),Sn.bytes_gold s g c E I ht hj]
  have hgt:=hg t ht
  show Sn.be (Sn.cut _ (14+2*t) 2)=_
  rw [e,Sn.be_num 2 _ (by omega) (by omega)]
  omega
 ·have e:=hf (22+i) (by omega)
  rw [Sn.bytes_cell s g c E I hi] at e
  exact Option.some.inj e
 ·have e:=hf (406+(i*11+j)) (by omega)
  rw [Sn.bytes_ent s g c E I hi hj] at e
  have:=hE i j hi hj
  have e':=Option.some.inj e
  show Sn.fn _ _=_
  rw [e']
  omega
 ·have e:=hf (758+(i*4+j)) (by omega)
  rw [Sn.bytes_item s g c E I hi hj] at e
  have:=hI i j hi hj
  have e':=Option.some.inj e
  show Sn.fn _ _=_
  rw [e']
  omega

end Go.Proofs.YtapgkgbpekkdjaaGreat

namespace Go.Proofs.YtapgkgbpekkdjaaGreat

theorem Sn.ent_sane {c:Nat→Int} {E I:Nat→Nat→Int} (hS:Cr.Sane c E I) {k:Nat} (hk:k<32):Sn.entC c E k=0:=by
 have hr:=hS.fit.rows k hk
 have g0:=hr.1
 have g1:=hr.2.1
 unfold Sn.entC
 by_cases h0:E k 0=0
 ·have hz:∀j,j≠1→j<11→E k j=0:=fun j j1 hj=>by
   rcases hr.2.2 with hz | ht
   ·exact hz j hj j1
   ·omega
  have hf:Sn.freeB (E k)=true:=by
   unfold Sn.freeB
   rw [decide_eq_true_eq]
   exact ⟨hz 2 (by omega) (by omega),hz 3 (by omega) (by omega),hz 4 (by omega) (by omega),hz 5 (by omega) (by omega),hz 6 (by omega) (by omega),hz 7 (by omega) (by omega),hz 8 (by omega) (by omega),hz 9 (by omega) (by omega),hz 10 (by omega) (by omega)⟩
  rw [if_pos (by omega),if_pos ⟨g0,g1⟩,if_pos h0,if_pos hf]
 ·have ht:=hr.taken h0
  have hbo:=hS.set.born k hk h0
  obtain ⟨p1,p2,p3,p4,p5⟩:=hS.set.stands.on k hk h0
  have h1:Sn.soundB (E k)=true:=by
   unfold Sn.soundB
   rw [decide_eq_true_eq]
   exact ⟨hbo.1,hbo.2.1,hbo.2.2,by omega,by omega,by omega,by omega,by omega,by omega⟩
  have h2:Sn.aloneB c E k=true:=by
   unfold Sn.aloneB
   have hat:Gr.at 384 c (E k 3) (E k 4)=c (E k 4*24+E k 3).toNat:=Gr.at_in ((Gr.inB_iff _ _).2 (by omega)) (by omega)
   rw [hat,p5,Bool.true_and,decide_eq_true_eq]
   exact En.first_none fun j hj=>by
    by_cases e:E j 0=0
    ·simp [En.atQ,e]
    ·by_cases x3:E j 3=E k 3
     ·by_cases x4:E j 4=E k 4
      ·have:=hS.set.stands.apart j k (by omega) hk e h0 x3 x4
       omega
      ·simp [En.atQ,x4]
     ·simp [En.atQ,x3]
  have h3:Sn.seatedB E k=true:=by
   unfold Sn.seatedB
   by_cases k1:E k 0=1
   ·rw [if_pos k1,decide_eq_true_eq]
    have hs:=hS.seats.seat k hk k1
    refine ⟨by omega,by omega,En.first_none fun j hj=>?_⟩
    by_cases e:E j 0=1
    ·by_cases x:E j 2=E k 2
     ·have:=hS.seats.one j k (by omega) hk e k1 x
      omega
     ·simp [En.heroQ,x]
    ·simp [En.heroQ,e]
   ·rw [if_neg k1,decide_eq_true_eq]
    exact hS.seats.none k hk h0 k1
  rw [if_pos (by omega),if_pos ⟨g0,g1⟩,if_neg h0,if_pos ⟨h1,h2,h3⟩]

theorem Sn.head_good {s g c:Nat→Int} {E I:Nat→Nat→Int} (hG:Cr.Good ⟨s,g,c,E,I⟩) (a1:0≤s 1) (a2:s 1<1073741824):Sn.headB s g=true:=by
 have f1:1≤s 2:=hG.f1
 have f3:s 2≤3:=hG.f3
 have s0:0≤s 3:=hG.s0
 have s2:s 3≤2:=hG.s2
 unfold Sn.headB Sn.numB
 rw [Bool.and_eq_true,decide_eq_true_eq]
 refine ⟨Sn.goldsB_of fun t ht=>?_,⟨a1,a2,f1,f3,s0,s2⟩⟩
 unfold Sn.goldB
 rw [decide_eq_true_eq]
 exact hG.gold t ht

theorem Sn.chk_good {s g c:Nat→Int} {E I:Nat→Nat→Int} (hG:Cr.Good ⟨s,g,c,E,I⟩) (a1:0≤s 1) (a2:s 1<1073741824):Sn.Chk s g c E I 0:=by
 obtain ⟨u,hu,hfu,hcu,hu1⟩:=Cr.up_stair hG.floor
 obtain ⟨u',d,hu'',hd,h3,h4⟩:=hG.floor.stairs
 unfold Sn.Chk
 rw [if_pos (Sn.head_good hG a1 a2),if_pos (Sn.mx_le.2 fun i _=>(hG.floor.five i).2),if_pos ⟨Sn.cnt_one hcu hu (fun i _ e=>hu1 i e),Sn.cnt_one ((h4 d).2 rfl) hd (fun i _ e=>(h4 i).1 e)⟩,if_pos (Sn.rowC_zero fun k hk=>Sn.ent_sane hG.sane hk)]
 exact .inl ⟨rfl,hG.sane.fit.ok⟩

end Go.Proofs.YtapgkgbpekkdjaaGreat
