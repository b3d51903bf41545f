import Derived.Test.YtbanjoflgoiegabGreatPf11
import Derived.Deep.Quiet
import Derived.Deep.QuietTactic
namespace Go.Proofs.YtbanjoflgoiegabGreat
open Go.RowKit

theorem isFree_any (e:Nat→Int) (w:World):Calls Tryz.prog 88 #[.agg (En.cells e)] w (Says w (.bool (decide (e 0=0)))):=by
 unfold En.cells
 go_enter Tryz.func88,Tryz.ntmps88
 go_wp2
 go_ret
 exact ⟨rfl,World.grownBy_alloc _ _ _⟩

theorem slice_ents (a:Option Addr) (len cap k:Nat) (w:World) (hk:k≤cap) :
  (Instr.slice 24 (.slice a len cap) none (some (.int .i64 (k:Int))) none).run Tryz.prog w=.ok (.slice a k cap) w:=by
 have hs:(sizeOf (Tryz.prog.elem 24)).run Tryz.prog w=.ok 11 w:=by kernel_rfl
 rw [run_slice_h w 24 a len cap (by kernel_rfl) .i64 (k:Int) (by omega) (by omega),hs]
 have e:a.map (fun x=>x.add (0*11))=a:=by
  cases a with
  | none=>rfl
  | some x=>simp [Addr.add]
 simp only [Result.andThen,sliced,e,Int.toNat_natCast,Nat.sub_zero,ite_self]

theorem rows_any (a:Option Addr) (n c:Nat) (w:World) (hn:n≤32) (hc:n≤c) :
  Calls Tryz.prog 87 #[.slice a n c] w fun e w'=>e=.returned (.slice a n c)∧w'=w:=by
 have hs:=fun wx=>slice_ents a n c n wx hc
 have hm:min (n:Int) 32=(n:Int):=by omega
 go_enter Tryz.func87,Tryz.ntmps87
 go_wp2
 go_ret
 exact ⟨rfl,rfl⟩

def En.isRow (n:Nat) (row:Int):Bool:=decide (0≤row∧row<n)

theorem isRow_any (a:Option Addr) (n c:Nat) (row:Int) (w:World) (hn:n≤32) (hc:n≤c) :
  Calls Tryz.prog 115 #[.slice a n c,.int .i64 row] w fun e w'=>e=.returned (.bool (En.isRow n row))∧w'=w:=by
 have hn':(n:Int)≤32:=by omega
 by_cases h:0≤row
 ·by_cases h2:row<(n:Int)
  ·have hd:Hid (En.isRow n row=true):=decide_eq_true (show 0≤row∧row<(n:Int) from ⟨h,h2⟩)
   go_enter Tryz.func115,Tryz.ntmps115
   go_wp2_with (go_at_call 87;refine (rows_any _ _ _ _ hn hc).mono ?_;rintro e w' ⟨rfl,hw⟩;subst w')
   go_ret
   exact ⟨ret_bool (uh hd).symm,rfl⟩
  ·have hd:Hid (En.isRow n row=false):=decide_eq_false (show ¬(0≤row∧row<(n:Int)) by omega)
   go_enter Tryz.func115,Tryz.ntmps115
   go_wp2_with (go_at_call 87;refine (rows_any _ _ _ _ hn hc).mono ?_;rintro e w' ⟨rfl,hw⟩;subst w')
   go_ret
   exact ⟨ret_bool ((decide_eq_false (show ¬row<(n:Int) by omega)).trans (uh hd).symm),rfl⟩
 ·have hd:Hid (En.isRow n row=false):=decide_eq_false (show ¬(0≤row∧row<(n:Int)) by omega)
  go_enter Tryz.func115,Tryz.ntmps115
  go_wp2
  go_ret
  exact ⟨ret_bool (uh hd).symm,rfl⟩

def En.id (n:Nat) (E:Nat→Nat→Int) (row:Int):Int:=if 0≤row∧row<n∧E row.toNat 0≠0 then row+32*E row.toNat 1 else -1

theorem En.id_at {n:Nat} {E:Nat→Nat→Int} {k:Nat} (hk:k<n) (h:E k 0≠0):En.id n E (k:Int)=(k:Int)+32*E k 1:=by
 unfold En.id
 rw [Int.toNat_natCast,if_pos ⟨by omega,by omega,h⟩]

theorem En.id_free {n:Nat} {E:Nat→Nat→Int} {k:Nat} (h:E k 0=0):En.id n E (k:Int)=-1:=by
 unfold En.id
 rw [Int.toNat_natCast,if_neg (by rintro ⟨_,_,h'⟩;exact h' h)]

theorem En.id_out {n:Nat} {E:Nat→Nat→Int} {row:Int} (h:¬(0≤row∧row<n)):En.id n E row=-1:=by
 unfold En.id
 rw [if_neg (by rintro ⟨h1,h2,_⟩;exact h ⟨h1,h2⟩)]

def En.Gens (n:Nat) (E:Nat→Nat→Int):Prop:=∀i,i<n→0≤E i 1∧E i 1≤255

set_option maxHeartbeats 800000 in
theorem id_any (b n c:Nat) (E:Nat→Nat→Int) (row:Int) (w:World) (hE:Ents w b n E) (hc:n≤c) (hG:En.Gens n E) :
  Calls Tryz.prog 98 #[.slice (some ⟨b,0,none⟩) n c,.int .i64 row] w (Says w (.int .i64 (En.id n E row))):=by
 have hn:=hE.1
 have cr:∀x:World,Calls Tryz.prog 115 #[.slice (some ⟨b,0,none⟩) n c,.int .i64 row] x fun e w'=>e=.returned (.bool (En.isRow n row))∧w'=x:=fun x=>isRow_any _ n c row x hn hc
 by_cases h:0≤row∧row<(n:Int)
 ·obtain ⟨k,rfl⟩:∃k:Nat,row=(k:Int):=⟨row.toNat,by omega⟩
  have hk:k<n:=by omega
  have hk':(k:Int)<(n:Int):=by omega
  have hk32:(k:Int)<32:=by omega
  obtain ⟨g0,g1⟩:=hG k hk
  have hd:En.isRow n (k:Int)=true:=decide_eq_true h
  rw [hd] at cr
  have u:∀j,j<11→w.cell? ⟨b,k*11+j,none⟩=some (.int .i64 (E k j)):=fun j hj=>hE.2.2 k j hk hj
  have u0:=u 0 (by omega)
  rw [Nat.add_zero] at u0
  have u1:=u 1 (by omega)
  have u2:=u 2 (by omega)
  have u3:=u 3 (by omega)
  have u4:=u 4 (by omega)
  have u5:=u 5 (by omega)
  have u6:=u 6 (by omega)
  have u7:=u 7 (by omega)
  have u8:=u 8 (by omega)
  have u9:=u 9 (by omega)
  have u10:=u 10 (by omega)
  have hE':=hide hE
  have cf:=hide (isFree_any (E k) w)
  have keep:Hid (∀x,w.grownBy x none→x.cell? ⟨b,k*11+1,none⟩=some (.int .i64 (E k 1))):=fun x hg=>(hE.on hg).2.2 k 1 hk (by omega)
  clear hE hG hd u h
  by_cases hf:E k 0=0
  ·have he:=hide (En.id_free (n:=n) hf)
   have hfd:=hide (decide_eq_true hf)
   clear hf
   go_enter Tryz.func98,Tryz.ntmps98
   go_wp2_with (go_at_call 115;refine (cr _).mono ?_;rintro e w' ⟨rfl,hw⟩;subst w')
   refine (uh cf).mono ?_
   rintro e w1 ⟨rfl,hg⟩
   rw [uh hfd]
   have hg':=hide hg
   clear u0 u1 u2 u3 u4 u5 u6 u7 u8 u9 u10 hg
   go_wp2
   go_ret
   exact ⟨rti (uh he).symm,uh hg'⟩
  ·have he:=hide (En.id_at hk hf)
   have hfd:=hide (decide_eq_false hf)
   clear hf
   go_enter Tryz.func98,Tryz.ntmps98
   go_wp2_with (go_at_call 115;refine (cr _).mono ?_;rintro e w' ⟨rfl,hw⟩;subst w')
   refine (uh cf).mono ?_
   rintro e w1 ⟨rfl,hg⟩
   rw [uh hfd]
   have u:=uh keep w1 hg
   have hg':=hide hg
   clear u0 u1 u2 u3 u4 u5 u6 u7 u8 u9 u10 hg
   go_wp2
   go_ret
   exact ⟨rti (uh he).symm,uh hg'⟩
 ·have he:=hide (En.id_out (E:=E) h)
  have hd:En.isRow n row=false:=decide_eq_false h
  rw [hd] at cr
  clear hE hG hd h
  go_enter Tryz.func98,Tryz.ntmps98
  go_wp2_with (go_at_call 115;refine (cr _).mono ?_;rintro e w' ⟨rfl,hw⟩;subst w')
  go_ret
  exact ⟨rti (uh he).symm,World.grownBy.refl _ _⟩


open Go.RowKit

def En.firstFrom (q:Nat→Bool):Nat→Nat→Int
 | 0,_=>-1
 | m+1,k=>if q k=true then (k:Int) else En.firstFrom q m (k+1)

def En.first (q:Nat→Bool) (n:Nat):Int:=En.firstFrom q n 0

theorem En.from_hit {q:Nat→Bool}:∀(m k i:Nat),(∀j,i≤j→j<k→q j=false)→q k=true→i≤k→k<i+m→En.firstFrom q m i=(k:Int)
  | 0,k,i,_,_,h1,h2=>by omega
  | m + 1, k, i, hno, hk, h1, h2 => by
      unfold En.firstFrom
      by_cases e:i=k
      · rw [e,if_pos hk]
      · rw [if_neg (by rw [hno i (Nat.le_refl _) (by omega)];simp),En.from_hit m k (i+1) (fun j hj1 hj2=>hno j (by omega) hj2) hk (by omega) (by omega)]

theorem En.from_none {q:Nat→Bool}:∀(m i:Nat),(∀j,i≤j→j<i+m→q j=false)→En.firstFrom q m i=-1
  | 0,_,_=>rfl
  | m + 1, i, hno => by
      unfold En.firstFrom
      rw [if_neg (by rw [hno i (Nat.le_refl _) (by omega)];simp),En.from_none m (i+1) (fun j hj1 hj2=>hno j (by omega) (by omega))]

theorem En.first_hit {q:Nat→Bool} {n k:Nat} (hno:∀j,j<k→q j=false) (hk:q k=true) (hn:k<n):En.first q n=(k:Int) :=
 En.from_hit n k 0 (fun j _ h=>hno j h) hk (by omega) (by omega)

theorem En.first_none {q:Nat→Bool} {n:Nat} (hno:∀j,j<n→q j=false):En.first q n=-1 :=
 En.from_none n 0 (fun j _ h=>hno j (by omega))

theorem En.first_cases (q:Nat→Bool) (n:Nat):(En.first q n=-1∧∀j,j<n→q j=false)∨∃k,k<n∧En.first q n=(k:Int)∧q k=true∧∀j,j<k→q j=false:=by
 induction n with
 | zero=>exact .inl ⟨rfl,fun j h=>by omega⟩
 | succ n ih =>
  rcases ih with ⟨_,hno⟩ | ⟨k,hk,_,hq,hno⟩
  ·by_cases hq:q n=true
   ·exact .inr ⟨n,by omega,En.first_hit hno hq (by omega),hq,hno⟩
   ·have h:∀j,j<n+1→q j=false:=fun j hj=>by
     by_cases e:j=n
     ·rw [e];simpa using hq
     ·exact hno j (by omega)
    exact .inl ⟨En.first_none h,h⟩
  ·exact .inr ⟨k,by omega,En.first_hit hno hq (by omega),hq,hno⟩

theorem En.first_congr {q r:Nat→Bool} {n:Nat} (h:∀j,j<n→q j=r j):En.first q n=En.first r n:=by
 rcases En.first_cases q n with ⟨h1,hno⟩ | ⟨k,hk,h1,hq,hno⟩
 ·rw [h1,En.first_none (fun j hj=>(h j hj).symm.trans (hno j hj))]
 ·rw [h1,En.first_hit (fun j hj=>(h j (by omega)).symm.trans (hno j hj)) ((h k hk).symm.trans hq) hk]

def En.freeQ (E:Nat→Nat→Int):Nat→Bool:=fun i=>decide (E i 0=0)
def En.atQ (E:Nat→Nat→Int) (x y:Int):Nat→Bool:=fun i=>!(decide (E i 0=0)) && (decide (E i 3=x) && decide (E i 4=y))
def En.heroQ (E:Nat→Nat→Int) (s:Int):Nat→Bool:=fun i=>decide (E i 0=1) && decide (E i 2=s)
def En.ofQ (E:Nat→Nat→Int) (id:Int):Nat→Bool:=fun i=>!(decide (E i 0=0)) && decide ((i:Int)+32*E i 1=id)

theorem Ents.row {w:World} {b n:Nat} {E:Nat→Nat→Int} (h:Ents w b n E) {k:Nat} (hk:k<n) :
  w.cell? ⟨b,k*11,none⟩=some (.int .i64 (E k 0))∧w.cell? ⟨b,k*11+1,none⟩=some (.int .i64 (E k 1))∧w.cell? ⟨b,k*11+2,none⟩=some (.int .i64 (E k 2))∧w.cell? ⟨b,k*11+3,none⟩=some (.int .i64 (E k 3)) ∧
  w.cell? ⟨b,k*11+4,none⟩=some (.int .i64 (E k 4))∧w.cell? ⟨b,k*11+5,none⟩=some (.int .i64 (E k 5))∧w.cell? ⟨b,k*11+6,none⟩=some (.int .i64 (E k 6))∧w.cell? ⟨b,k*11+7,none⟩=some (.int .i64 (E k 7)) ∧
  w.cell? ⟨b,k*11+8,none⟩=some (.int .i64 (E k 8))∧w.cell? ⟨b,k*11+9,none⟩=some (.int .i64 (E k 9))∧w.cell? ⟨b,k*11+10,none⟩=some (.int .i64 (E k 10)) :=
 ⟨h.2.2 k 0 hk (by omega),h.2.2 k 1 hk (by omega),h.2.2 k 2 hk (by omega),h.2.2 k 3 hk (by omega),h.2.2 k 4 hk (by omega),h.2.2 k 5 hk (by omega),h.2.2 k 6 hk (by omega),h.2.2 k 7 hk (by omega),h.2.2 k 8 hk (by omega),h.2.2 k 9 hk (by omega),h.2.2 k 10 hk (by omega)⟩

theorem atC_any (b n c p0 p1 p2 k:Nat) (E:Nat→Nat→Int) (x y:Int) (w:World) (hE:Ents w b n E) (hk:k<n) (hp0:w.cell? ⟨p0,0,none⟩=some (.slice (some ⟨b,0,none⟩) n c)) (hp1:w.cell? ⟨p1,0,none⟩=some (.int .i64 x)) (hp2:w.cell? ⟨p2,0,none⟩=some (.int .i64 y)) :
  Calls Tryz.prog 92 #[.int .i64 (k:Int),.pointer (some ⟨p0,0,none⟩),.pointer (some ⟨p1,0,none⟩),.pointer (some ⟨p2,0,none⟩)] w (Says w (.bool (decide (E k 3=x) && decide (E k 4=y)))):=by
 obtain ⟨_,_,_,u3,u4,_⟩:=hE.row hk
 have hk':(k:Int)<(n:Int):=by omega
 have hdr:Hid (∀m,w.grownBy (w.drewN m) none):=fun m=>gdw (World.grownBy.refl _ _) m
 clear hE
 by_cases h3:E k 3=x
 ·by_cases h4:E k 4=y
  ·have hd:=hide (show (decide (E k 3=x) && decide (E k 4=y))=true by simp [h3,h4])
   rw [h3] at u3
   rw [h4] at u4
   clear h3 h4
   go_enter Tryz.func92,Tryz.ntmps92
   go_wp2_with fail
   go_quiet (fail)
   go_wp2
   go_ret
   exact ⟨ret_bool (uh hd).symm,uh hdr _⟩
  ·have hd:=hide (show (decide (E k 3=x) && decide (E k 4=y))=false by simp [h4])
   rw [h3] at u3
   clear h3
   go_enter Tryz.func92,Tryz.ntmps92
   go_wp2_with fail
   go_quiet (fail)
   go_wp2
   go_ret
   exact ⟨ret_bool (uh hd).symm,uh hdr _⟩
 ·have hd:=hide (show (decide (E k 3=x) && decide (E k 4=y))=false by simp [h3])
  go_enter Tryz.func92,Tryz.ntmps92
  go_wp2_with fail
  go_quiet (fail)
  go_wp2
  go_ret
  exact ⟨ret_bool (uh hd).symm,uh hdr _⟩

theorem heroC_any (b n c p0 p1 k:Nat) (E:Nat→Nat→Int) (seat:Int) (w:World) (hE:Ents w b n E) (hk:k<n) (hp0:w.cell? ⟨p0,0,none⟩=some (.slice (some ⟨b,0,none⟩) n c)) (hp1:w.cell? ⟨p1,0,none⟩=some (.int .i64 seat)) :
  Calls Tryz.prog 63 #[.int .i64 (k:Int),.pointer (some ⟨p0,0,none⟩),.pointer (some ⟨p1,0,none⟩)] w (Says w (.bool (decide (E k 0=1) && decide (E k 2=seat)))):=by
 obtain ⟨u0,_,u2,_⟩:=hE.row hk
 have hk':(k:Int)<(n:Int):=by omega
 have hdr:Hid (∀m,w.grownBy (w.drewN m) none):=fun m=>gdw (World.grownBy.refl _ _) m
 clear hE
 by_cases h1:E k 0=1
 ·have hd:=hide (decide_eq_true h1)
  have h1':(E k 0 == 1)=true:=by simp [h1]
  clear h1
  go_enter Tryz.func63,Tryz.ntmps63
  go_wp2_with fail
  go_quiet (fail)
  go_wp2
  go_ret
  exact ⟨ret_bool (by rw [uh hd,Bool.true_and];rfl),uh hdr _⟩
 ·have hd:=hide (decide_eq_false h1)
  have h1':(E k 0 == 1)=false:=by simp [h1]
  clear h1
  go_enter Tryz.func63,Tryz.ntmps63
  go_wp2_with fail
  go_quiet (fail)
  go_wp2
  go_ret
  exact ⟨ret_bool (by rw [uh hd];simp),uh hdr _⟩

end Go.Proofs.YtbanjoflgoiegabGreat

namespace Go.Proofs.YtbanjoflgoiegabGreat

namespace Gd

def row (k w a b:Int):Nat→Int
 | 0=>k
 | 1=>w
 | 2=>a
 | 3=>b
 | _=>0

def gone:Nat→Int:=fun _=>0

def inQ (I:Nat→Nat→Int) (w a b:Int):Nat→Bool:=fun i=>decide (I i 1=w) && (decide (I i 2=a) && decide (I i 3=b))

def find (I:Nat→Nat→Int) (n:Nat) (w a b:Int):Int:=En.first (inQ I w a b) n

def slot (I:Nat→Nat→Int) (n:Nat) (seat:Int):Int:=En.first (fun b=>decide (find I n 2 seat (b:Int)<0)) 4

def hasQ (I:Nat→Nat→Int) (n:Nat) (seat lo hi:Int):Nat→Bool:=fun b=>decide (0≤find I n 2 seat (b:Int)) && (decide (lo≤I (find I n 2 seat (b:Int)).toNat 0) && decide (I (find I n 2 seat (b:Int)).toNat 0≤hi))

def has (I:Nat→Nat→Int) (n:Nat) (seat lo hi:Int):Int:=if 0≤En.first (hasQ I n seat lo hi) 4 then find I n 2 seat (En.first (hasQ I n seat lo hi) 4) else -1

def ware (I:Nat→Nat→Int) (n:Nat):Int:=if 0≤En.first (fun k=>decide (0≤find I n 4 (k:Int) 0)) 3 then find I n 4 (En.first (fun k=>decide (0≤find I n 4 (k:Int) 0)) 3) 0 else -1

theorem find_cases (I:Nat→Nat→Int) (n:Nat) (w a b:Int):(find I n w a b=-1∧∀j,j<n→¬(I j 1=w∧I j 2=a∧I j 3=b))∨∃k:Nat,k<n∧find I n w a b=(k:Int)∧I k 1=w∧I k 2=a∧I k 3=b∧∀j,j<k→¬(I j 1=w∧I j 2=a∧I j 3=b):=by
 have conv:∀j,inQ I w a b j=false→¬(I j 1=w∧I j 2=a∧I j 3=b):=fun j h ⟨h1,h2,h3⟩=>by simp [inQ,h1,h2,h3] at h
 rcases En.first_cases (inQ I w a b) n with ⟨h,hno⟩ | ⟨k,hk,h,hq,hno⟩
 ·exact .inl ⟨h,fun j hj=>conv j (hno j hj)⟩
 ·simp only [inQ,Bool.and_eq_true,decide_eq_true_eq] at hq
  exact .inr ⟨k,hk,h,hq.1,hq.2.1,hq.2.2,fun j hj=>conv j (hno j hj)⟩

theorem find_neg {I:Nat→Nat→Int} {n:Nat} {w a b:Int} (h:find I n w a b<0):find I n w a b=-1∧∀j,j<n→¬(I j 1=w∧I j 2=a∧I j 3=b):=by
 rcases find_cases I n w a b with h' | ⟨k,_,h',_⟩
 ·exact h'
 ·omega

theorem find_pos {I:Nat→Nat→Int} {n:Nat} {w a b:Int} (h:0≤find I n w a b):∃k:Nat,k<n∧find I n w a b=(k:Int)∧I k 1=w∧I k 2=a∧I k 3=b:=by
 rcases find_cases I n w a b with ⟨h',_⟩ | ⟨k,hk,h',h1,h2,h3,_⟩
 ·omega
 ·exact ⟨k,hk,h',h1,h2,h3⟩

theorem slot_pos {I:Nat→Nat→Int} {n:Nat} {seat:Int} (h:0≤slot I n seat):slot I n seat<4∧∀j,j<n→¬(I j 1=2∧I j 2=seat∧I j 3=slot I n seat):=by
 unfold slot at *
 rcases En.first_cases (fun b=>decide (find I n 2 seat (b:Int)<0)) 4 with ⟨h',_⟩ | ⟨k,hk,h',hq,_⟩
 ·omega
 ·rw [h']
  exact ⟨by omega,(find_neg (by simpa using hq)).2⟩

theorem has_pos {I:Nat→Nat→Int} {n:Nat} {seat lo hi:Int} (h:0≤has I n seat lo hi):∃k:Nat,k<n∧has I n seat lo hi=(k:Int)∧I k 1=2∧I k 2=seat∧0≤I k 3∧I k 3<4∧lo≤I k 0∧I k 0≤hi:=by
 unfold has at *
 rcases En.first_cases (hasQ I n seat lo hi) 4 with ⟨h',_⟩ | ⟨b,hb,h',hq,_⟩
 ·rw [if_neg (by omega)] at h;omega
 ·rw [if_pos (by omega),h'] at *
  simp only [hasQ,Bool.and_eq_true,decide_eq_true_eq] at hq
  obtain ⟨k,hk,e,h1,h2,h3⟩:=find_pos hq.1
  rw [e,Int.toNat_natCast] at hq
  exact ⟨k,hk,e,h1,h2,by omega,by omega,hq.2.1,hq.2.2⟩

theorem ware_pos {I:Nat→Nat→Int} {n:Nat} (h:0≤ware I n):∃k:Nat,k<n∧ware I n=(k:Int)∧I k 1=4:=by
 unfold ware at *
 rcases En.first_cases (fun k=>decide (0≤find I n 4 (k:Int) 0)) 3 with ⟨h',_⟩ | ⟨b,hb,h',hq,_⟩
 ·rw [if_neg (by omega)] at h;omega
 ·rw [if_pos (by omega)] at h ⊢
  obtain ⟨k,hk,e,h1,_⟩:=find_pos h
  exact ⟨k,hk,e,h1⟩

def Zero (r:Nat→Int):Prop:=r 0=0∧r 1=0∧r 2=0∧r 3=0

def Placed (c:Nat→Int) (r:Nat→Int):Prop:=1≤r 0∧r 0≤4 ∧
  ((r 1 = 1 ∧ Gr.inB (r 2) (r 3) = true ∧ Gr.walkB (Gr.at 384 c (r 2) (r 3)) = true) ∨
   (r 1 = 2 ∧ 0 ≤ r 2 ∧ r 2 < 4 ∧ 0 ≤ r 3 ∧ r 3 < 4 ∧ r 0 ≠ 4) ∨
   (r 1 = 3 ∧ 0 ≤ r 2 ∧ r 2 < 4 ∧ (r 0 = 2 ∧ r 3 = 0 ∨ r 0 = 3 ∧ r 3 = 1)) ∨
   (r 1=4∧0≤r 2∧r 2<3∧r 3=0∧r 0≠4))

def Share (r s:Nat→Int):Prop:=r 1=s 1∧r 2=s 2∧r 3=s 3

structure Ok (c:Nat→Int) (n:Nat) (I:Nat→Nat→Int):Prop where
 each:∀i,i<n→Zero (I i)∨Placed c (I i)
 one:∀i k,i<n→k<n→i≠k→I i 1≠0→¬Share (I k) (I i)

theorem Placed.where_ne {c r:Nat→Int} (h:Placed c r):r 1≠0:=by
 obtain ⟨_,_,h | h | h | h⟩:=h <;> omega

theorem Ok.put {c:Nat→Int} {n:Nat} {I:Nat→Nat→Int} (h:Ok c n I) {i:Nat} {r:Nat→Int} (hr:Zero r∨(Placed c r∧∀k,k<n→k≠i→¬Share (I k) r)):Ok c n (En.put I i r):=by
 refine ⟨fun k hk=>?_,fun j k hj hk hjk hw hs=>?_⟩
 ·by_cases e:k=i
  ·rw [e,En.put_same]
   exact hr.imp id And.left
  ·rw [En.put_other e];exact h.each k hk
 ·by_cases ej:j=i
  ·rw [ej,En.put_same] at hw hs
   rw [En.put_other (by omega)] at hs
   rcases hr with hz | ⟨_,hno⟩
   ·exact hw hz.2.1
   ·exact hno k hk (by omega) hs
  ·rw [En.put_other ej] at hw hs
   by_cases ek:k=i
   ·rw [ek,En.put_same] at hs
    rcases hr with hz | ⟨_,hno⟩
    ·exact hw (by rw [←hs.1];exact hz.2.1)
    ·exact hno j hj ej ⟨hs.1.symm,hs.2.1.symm,hs.2.2.symm⟩
   ·rw [En.put_other ek] at hs
    exact h.one j k hj hk hjk hw hs

theorem Ok.swap {c:Nat→Int} {n:Nat} {I:Nat→Nat→Int} (h:Ok c n I) {i j:Nat} (hij:i≠j) {r s:Nat→Int} (hi:i<n) (hj:j<n) (hwi:I i 1≠0) (hwj:I j 1≠0) (hr:Placed c r) (hs:Placed c s) (ri:Share r (I j)) (sj:Share s (I i)):Ok c n (En.put (En.put I j s) i r):=by
 have at_i:En.put (En.put I j s) i r i=r:=En.put_same _ _ _
 have at_j:En.put (En.put I j s) i r j=s:=by rw [En.put_other (by omega),En.put_same]
 have at_k:∀k,k≠i→k≠j→En.put (En.put I j s) i r k=I k:=fun k h1 h2=>by rw [En.put_other h1,En.put_other h2]
 have tr:∀{a b d:Nat→Int},Share a b→Share b d→Share a d:=fun h1 h2=>⟨h1.1.trans h2.1,h1.2.1.trans h2.2.1,h1.2.2.trans h2.2.2⟩
 have sy:∀{a b:Nat→Int},Share a b→Share b a:=fun h1=>⟨h1.1.symm,h1.2.1.symm,h1.2.2.symm⟩
 have hrs:¬Share r s:=fun e=>h.one i j hi hj hij hwi (tr (sy ri) (tr e sj))
 have hk:∀k,k<n→k≠i→k≠j→¬Share (I k) r∧¬Share (I k) s:=fun k hk h1 h2 =>
  ⟨fun e=>h.one j k hj hk (by omega) hwj (tr e ri),fun e=>h.one i k hi hk (by omega) hwi (tr e sj)⟩
 refine ⟨fun k hk=>?_,fun a b ha hb hab hw he=>?_⟩
 ·by_cases e1:k=i
  ·rw [e1,at_i];exact .inr hr
  ·by_cases e2:k=j
   ·rw [e2,at_j];exact .inr hs
   ·rw [at_k k e1 e2];exact h.each k hk
 ·by_cases a1:a=i
  ·rw [a1,at_i] at he
   by_cases b2:b=j
   ·rw [b2,at_j] at he;exact hrs (sy he)
   ·rw [at_k b (by omega) b2] at he;exact (hk b hb (by omega) b2).1 he
  ·by_cases a2:a=j
   ·rw [a2,at_j] at he
    by_cases b1:b=i
    ·rw [b1,at_i] at he;exact hrs he
    ·rw [at_k b b1 (by omega)] at he;exact (hk b hb b1 (by omega)).2 he
   ·rw [at_k a a1 a2] at he hw
    by_cases b1:b=i
    ·rw [b1,at_i] at he;exact (hk a ha a1 a2).1 (sy he)
    ·by_cases b2:b=j
     ·rw [b2,at_j] at he;exact (hk a ha a1 a2).2 (sy he)
     ·rw [at_k b b1 b2] at he;exact h.one a b ha hb hab hw he

def pick (I:Nat→Nat→Int) (n:Nat) (seat x y:Int):Nat→Nat→Int :=
 if 0≤find I n 1 x y∧I (find I n 1 x y).toNat 0=4 then En.put I (find I n 1 x y).toNat gone
 else if 0≤find I n 1 x y∧0≤slot I n seat then En.put I (find I n 1 x y).toNat (row (I (find I n 1 x y).toNat 0) 2 seat (slot I n seat))
 else I

def use (I:Nat→Nat→Int) (n:Nat) (seat:Int):Nat→Nat→Int:=if 0≤has I n seat 1 1 then En.put I (has I n seat 1 1).toNat gone else I

def wearAt (I:Nat→Nat→Int) (n:Nat) (seat:Int) (i:Nat):Nat→Nat→Int :=
 if 0≤find I n 3 seat (I i 0 - 2) then En.put (En.put I (find I n 3 seat (I i 0 - 2)).toNat (row (I (find I n 3 seat (I i 0 - 2)).toNat 0) 2 (I (find I n 3 seat (I i 0 - 2)).toNat 2) (I i 3))) i (row (I i 0) 3 (I i 2) (I i 0 - 2))
 else En.put I i (row (I i 0) 3 (I i 2) (I i 0 - 2))

def wear (I:Nat→Nat→Int) (n:Nat) (seat:Int):Nat→Nat→Int:=if 0≤has I n seat 2 3 then wearAt I n seat (has I n seat 2 3).toNat else I

def drop (I:Nat→Nat→Int) (n:Nat) (seat x y:Int):Nat→Nat→Int:=if 0≤has I n seat 1 3∧find I n 1 x y<0 then En.put I (has I n seat 1 3).toNat (row (I (has I n seat 1 3).toNat 0) 1 x y) else I

def buys (I:Nat→Nat→Int) (n:Nat) (seat:Int) (shop:Bool) (gold:Int):Bool:=shop && (decide (5≤gold) && (decide (0≤slot I n seat) && decide (0≤ware I n)))

def buy (I:Nat→Nat→Int) (n:Nat) (seat:Int) (shop:Bool) (gold:Int):Nat→Nat→Int:=if buys I n seat shop gold=true then En.put I (ware I n).toNat (row (I (ware I n).toNat 0) 2 seat (slot I n seat)) else I

def act (I:Nat→Nat→Int) (n:Nat) (seat x y:Int) (shop:Bool) (gold input:Int):Nat→Nat→Int :=
 if input=5 then pick I n seat x y else if input=6 then use I n seat else if input=7 then wear I n seat else if input=8 then drop I n seat x y else if input=10 then buy I n seat shop gold else I

theorem Ok.of {c:Nat→Int} {n:Nat} {I:Nat→Nat→Int} (h:Ok c n I) {k:Nat} (hk:k<n) (hw:I k 1≠0):Placed c (I k):=by
 rcases h.each k hk with hz | hp
 ·exact absurd hz.2.1 hw
 ·exact hp

theorem zero_gone:Zero gone:=⟨rfl,rfl,rfl,rfl⟩

theorem Ok.pick {c:Nat→Int} {n:Nat} {I:Nat→Nat→Int} (h:Ok c n I) {seat x y:Int} (s0:0≤seat) (s4:seat<4):Ok c n (pick I n seat x y):=by
 unfold Gd.pick
 split
 ·exact h.put (.inl zero_gone)
 ·rename_i hg
  split
  ·rename_i hf
   obtain ⟨k,hk,e,h1,h2,h3⟩:=find_pos hf.1
   obtain ⟨f4,hno⟩:=slot_pos hf.2
   have hp:=h.of hk (by omega)
   have hg':I k 0≠4:=fun e4=>hg ⟨hf.1,by rw [e,Int.toNat_natCast];exact e4⟩
   rw [e,Int.toNat_natCast]
   refine h.put (.inr ⟨⟨hp.1,hp.2.1,.inr (.inl ⟨rfl,s0,s4,hf.2,f4,hg'⟩)⟩,fun j hj _ hs=>hno j hj ⟨hs.1,hs.2.1,hs.2.2⟩⟩)
  ·exact h

theorem Ok.use {c:Nat→Int} {n:Nat} {I:Nat→Nat→Int} (h:Ok c n I) (seat:Int):Ok c n (use I n seat):=by
 unfold Gd.use
 split
 ·exact h.put (.inl zero_gone)
 ·exact h

theorem Ok.drop {c:Nat→Int} {n:Nat} {I:Nat→Nat→Int} (h:Ok c n I) {seat x y:Int} (hin:Gr.inB x y=true) (hw:Gr.walkB (Gr.at 384 c x y)=true):Ok c n (drop I n seat x y):=by
 unfold Gd.drop
 split
 ·rename_i hf
  obtain ⟨k,hk,e,h1,h2,h3,h4,k1,k3⟩:=has_pos hf.1
  rw [e,Int.toNat_natCast]
  refine h.put (.inr ⟨⟨k1,by show I k 0≤4;omega,.inl ⟨rfl,hin,hw⟩⟩,fun j hj _ hs=>(find_neg hf.2).2 j hj ⟨hs.1,hs.2.1,hs.2.2⟩⟩)
 ·exact h

theorem Ok.buy {c:Nat→Int} {n:Nat} {I:Nat→Nat→Int} (h:Ok c n I) {seat:Int} (s0:0≤seat) (s4:seat<4) (shop:Bool) (gold:Int):Ok c n (buy I n seat shop gold):=by
 unfold Gd.buy
 split
 ·rename_i hb
  simp only [buys,Bool.and_eq_true,decide_eq_true_eq] at hb
  obtain ⟨_,_,hs,hw⟩:=hb
  obtain ⟨k,hk,e,h1⟩:=ware_pos hw
  obtain ⟨f4,hno⟩:=slot_pos hs
  rw [e,Int.toNat_natCast]
  have hp:=h.of hk (by omega)
  have hg:I k 0≠4:=by
   obtain ⟨_,_,h' | h' | h' | h'⟩:=hp <;> omega
  refine h.put (.inr ⟨⟨hp.1,hp.2.1,.inr (.inl ⟨rfl,s0,s4,hs,f4,hg⟩)⟩,fun j hj _ hs=>hno j hj ⟨hs.1,hs.2.1,hs.2.2⟩⟩)
 ·exact h

theorem Ok.wear {c:Nat→Int} {n:Nat} {I:Nat→Nat→Int} (h:Ok c n I) {seat:Int} (s0:0≤seat) (s4:seat<4):Ok c n (wear I n seat):=by
 unfold Gd.wear
 split
 ·rename_i hf
  obtain ⟨k,hk,e,h1,h2,h3,h4,k2,k3⟩:=has_pos hf
  rw [e,Int.toNat_natCast]
  unfold wearAt
  have hr:Placed c (row (I k 0) 3 (I k 2) (I k 0 - 2)):=⟨by show 1≤I k 0;omega,by show I k 0≤4;omega,.inr (.inr (.inl ⟨rfl,by show 0≤I k 2;omega,by show I k 2<4;omega,by
   show I k 0=2∧I k 0 - 2=0∨I k 0=3∧I k 0 - 2=1
   omega⟩))⟩
  split
  ·rename_i hw
   obtain ⟨j,hj,ej,j1,j2,j3⟩:=find_pos hw
   rw [ej,Int.toNat_natCast]
   have hpj:=h.of hj (by omega)
   have hs:Placed c (row (I j 0) 2 (I j 2) (I k 3)):=⟨hpj.1,hpj.2.1,.inr (.inl ⟨rfl,by show 0≤I j 2;omega,by show I j 2<4;omega,h3,h4,by
    show I j 0≠4
    obtain ⟨_,_,h' | h' | h' | h'⟩:=hpj <;> omega⟩)⟩
   exact h.swap (i:=k) (j:=j) (by rintro rfl;omega) hk hj (by omega) (by omega) hr hs ⟨j1.symm,by show I k 2=I j 2;omega,j3.symm⟩ ⟨h1.symm,by show I j 2=I k 2;omega,rfl⟩
  ·rename_i hw
   have hno:=(find_neg (I:=I) (n:=n) (w:=3) (a:=seat) (b:=I k 0 - 2) (by omega)).2
   exact h.put (.inr ⟨hr,fun j hj _ hs=>hno j hj ⟨hs.1,hs.2.1.trans h2,hs.2.2⟩⟩)
 ·exact h

theorem Ok.act {c:Nat→Int} {n:Nat} {I:Nat→Nat→Int} (h:Ok c n I) {seat x y:Int} (s0:0≤seat) (s4:seat<4) (hin:Gr.inB x y=true) (hw:Gr.walkB (Gr.at 384 c x y)=true) (shop:Bool) (gold input:Int):Ok c n (act I n seat x y shop gold input):=by
 unfold Gd.act
 split
 ·exact h.pick s0 s4
 ·split
  ·exact h.use seat
  ·split
   ·exact h.wear s0 s4
   ·split
    ·exact h.drop hin hw
    ·split
     ·exact h.buy s0 s4 shop gold
     ·exact h

def sweep (I:Nat→Nat→Int) (seat:Int):Nat→Nat→Int:=fun i=>if (I i 1=2∨I i 1=3)∧I i 2=seat then gone else I i

theorem Ok.sweep {c:Nat→Int} {n:Nat} {I:Nat→Nat→Int} (h:Ok c n I) (seat:Int):Ok c n (Gd.sweep I seat):=by
 have z:∀{i},((I i 1=2∨I i 1=3)∧I i 2=seat)→Gd.sweep I seat i=gone:=fun h=>if_pos h
 have o:∀{i},¬((I i 1=2∨I i 1=3)∧I i 2=seat)→Gd.sweep I seat i=I i:=fun h=>if_neg h
 refine ⟨fun i hi=>?_,fun i k hi hk hik hw hs=>?_⟩
 ·by_cases e:(I i 1=2∨I i 1=3)∧I i 2=seat
  ·rw [z e];exact .inl zero_gone
  ·rw [o e];exact h.each i hi
 ·by_cases e:(I i 1=2∨I i 1=3)∧I i 2=seat
  ·rw [z e] at hw;exact hw rfl
  ·rw [o e] at hw hs
   by_cases ek:(I k 1=2∨I k 1=3)∧I k 2=seat
   ·rw [z ek] at hs;exact hw hs.1.symm
   ·rw [o ek] at hs;exact h.one i k hi hk hik hw hs

end Gd


open Go.RowKit

theorem Gn.upd_upd (c:Nat→Int) (k:Nat) (u v:Int):Gr.upd (Gr.upd c k u) k v=Gr.upd c k v:=by
 funext i
 unfold Gr.upd
 split <;> rfl

set_option maxHeartbeats 800000 in
theorem refDig_any (G:Nat) (st:(Nat→Int) × Bool) (x y:Int) (k:Nat) (w:World) (hA:Arr w G 5 384 (Byts st.1)) (h5:∀i,0≤st.1 i∧st.1 i≤5) (hx:(1≤x∧x≤22)∧1≤y∧y≤14) (hk:y*24+x=(k:Int)) :
  Calls Tryz.prog 58 #[.slice (some ⟨G,0,none⟩) 384 384,.int .i64 x,.int .i64 y,.bool st.2] w
   fun e w'=>e=.returned (.bool (Gn.digAt st k).2)∧Arr w' G 5 384 (Byts (Gn.digAt st k).1)∧w.grownBy w' (some G):=by
 have hkl:k<384:=by omega
 have hk':(k:Int)<384:=by omega
 have q1:w.cell? ⟨G,k,none⟩=some (.int .u8 (st.1 k)):=hA.cell hkl
 have q2:=hA.free k
 have h5k:=h5 k
 obtain ⟨v,hv⟩:∃v,v=st.1 k:=⟨_,rfl⟩
 rw [←hv] at q1 h5k
 obtain ⟨⟨x1,x2⟩,x3,x4⟩:=hx
 by_cases hz:v=0
 ·have hat:=Gn.at_wall (st:=st) (c:=k) (by rw [←hv];exact hz)
  have hz':(v != 0)=false:=by simpa using hz
  have hA1:=hA.byte k 1
  cases hb:st.2 with
  | true =>
   have hfin:Hid (Arr (w.setCell ⟨G,k,none⟩ (.int .u8 1)) G 5 384 (Byts (Gn.digAt st k).1)):=by rw [hat,hb];exact hA1
   have hb2:Hid ((Gn.digAt st k).2=true):=by rw [hat];exact (rfl:true=true)
   have hg:=hide (gpt w G k (.int .u8 1))
   clear hA1 hat hA hz hv
   go_enter Tryz.func58,Tryz.ntmps58
   go_wp2
   go_ret
   exact ⟨ret_bool (uh hb2).symm,uh hfin,uh hg⟩
  | false =>
   have hA2:=hA1.byte k 2
   have q3:=hA1.cell hkl
   have q4:=hA1.free k
   obtain ⟨w1,hw1⟩:∃w1,w.setCell ⟨G,k,none⟩ (.int .u8 1)=w1:=⟨_,rfl⟩
   rw [hw1] at hA2 q3 q4
   have hfin:Hid (Arr (w1.setCell ⟨G,k,none⟩ (.int .u8 2)) G 5 384 (Byts (Gn.digAt st k).1)):=by
    rw [hat,hb]
    rw [Gn.upd_upd] at hA2
    exact hA2
   have hb2:Hid ((Gn.digAt st k).2=true):=by rw [hat];exact (rfl:true=true)
   have hg:Hid (w.grownBy (w1.setCell ⟨G,k,none⟩ (.int .u8 2)) (some G)):=by rw [←hw1];exact gst (gpt w G k (.int .u8 1)) k _
   clear hA1 hA2 hat hA hz hv
   go_enter Tryz.func58,Tryz.ntmps58
   go_wp2
   go_ret
   exact ⟨ret_bool (uh hb2).symm,uh hfin,uh hg⟩
 ·have hat:=Gn.at_free (st:=st) (c:=k) (by rw [←hv];exact hz)
  have hz':(v != 0)=true:=by simpa using hz
  have hfin:Hid (Arr w G 5 384 (Byts (Gn.digAt st k).1)):=by rw [hat];exact hA
  have hb2:Hid ((Gn.digAt st k).2=st.2):=by rw [hat];exact (rfl:st.2=st.2)
  obtain ⟨b,hb⟩:∃b,b=st.2:=⟨_,rfl⟩
  rw [←hb] at hb2 ⊢
  clear hat hA hz hv hb
  go_enter Tryz.func58,Tryz.ntmps58
  go_wp2
  go_ret
  exact ⟨ret_bool (uh hb2).symm,uh hfin,World.grownBy.refl _ _⟩

def Gn.free (c F:Nat→Int) (far:Int) (U:Nat→Bool) (i:Nat):Bool:=c i == 1 && decide (far≤F i) && !U i

def Gn.picked (d:Gn.Dice) (a:Int) (l:List Nat):Int:=if l.length=0 then -1 else ((l[(d a 0 (l.length:Int)).toNat]?.getD 0:Nat):Int)

set_option maxRecDepth 8000 in
set_option maxHeartbeats 1600000 in
theorem pick_any (s f:Int) (d:Gn.Dice) (hd:∀a b n,Gn.D s f a b n=d a b n) (hFr:Gn.Fair d) (G gF gU:Nat) (c F:Nat→Int) (far a:Int) (U:Nat→Bool) (w:World) (hA:Arr w G 5 384 (Byts c)) (hF:Arr w gF 3 384 (Ints F)) (hU:Arr w gU 4 384 (Bols U)) :
  Calls Tryz.prog 61 #[.slice (some ⟨G,0,none⟩) 384 384,.slice (some ⟨gF,0,none⟩) 384 384,.int .i64 far,.slice (some ⟨gU,0,none⟩) 384 384,.int .i64 s,.int .i64 f,.int .i64 a] w
   (Says w (.int .i64 (Gn.picked d a (Gn.those (Gn.free c F far U) 384)))):=by
 have hA':=hide hA
 have hF':=hide hF
 have hU':=hide hU
 have hd':=hide hd
 have hFr':=hide hFr
 obtain ⟨i0,hi,hz0,hz1,hz2⟩:=info_parts info_int
 clear hA hF hU hd hFr
 go_enter Tryz.func61,Tryz.ntmps61
 go_wp2_with fail
 go_loopw [15,16] (fun v i wr=>∃k:Nat,k≤384∧i=.int .i64 (k:Int)∧Lst wr w.heap.size v (Gn.those (Gn.free c F far U) k)∧w.grownBy wr none) (fun _ i _=>400 - (intOf i).toNat)
 case atStart=>exact ⟨0,by omega,rfl,World.ownsRow_nil _ _ _ _,World.grownBy.refl _ _⟩
 case round =>
  obtain ⟨k,hk,rfl,hown,hg⟩:=hrel
  have hown1:=hide hown
  have hg1:=hide hg
  have hsz:=hg.size
  have hln:=Gn.those_len (Gn.free c F far U) k
  clear hown hg
  by_cases hlt:k<384
  ·have q1:wr.cell? ⟨G,k,none⟩=some (.int .u8 (c k)):=((uh hA').grown (uh hg1) (by simp)).cell hlt
   have q2:wr.cell? ⟨gF,k,none⟩=some (.int .i64 (F k)):=((uh hF').grown (uh hg1) (by simp)).cell hlt
   have q3:wr.cell? ⟨gU,k,none⟩=some (.bool (U k)):=((uh hU').grown (uh hg1) (by simp)).cell hlt
   have hlt':(k:Int)<384:=by omega
   have HL:=hide hlt
   clear hlt hk
   by_cases hq:Gn.free c F far U k=true
   ·have hyes:=hide (Gn.those_yes hq)
    have hq2:=hq
    unfold Gn.free at hq2
    simp only [Bool.and_eq_true,decide_eq_true_eq,Bool.not_eq_true'] at hq2
    obtain ⟨⟨r1,r2⟩,r3⟩:=hq2
    obtain ⟨l,hl⟩:∃l,l=Gn.those (Gn.free c F far U) k:=⟨_,rfl⟩
    rw [←hl] at hown1 hln hyes
    clear hl hq
    go_wp2_with (at_builtin;refine wpList_append_own _ rfl _ _ 65 rfl w.heap.size 3 i0 (.int .i64 0) 1 8 Tryz.underlying65 hi hz0 hz1 hz2 rfl (by decide) _ _ _ rfl ((uh hown1).alloc _) ⟨wr.heap.size,0,none⟩ 1 1 [.int .i64 (k:Int)] rfl rfl ?_ ?_ ?_ ?_ ?_ ?_)
    ·exact one_at _ _ _ _ rfl
    ·intro u hu;simp at hu;subst hu;rfl
    ·unfold maxLen;omega
    ·omega
    ·simp;omega
    intro v' w1 hown' hgrow _
    rw [natInts_more] at hown'
    have hown2:Hid (Lst w1 w.heap.size v' (Gn.those (Gn.free c F far U) (k+1))):=by
     rw [uh hyes]
     show w1.ownsRow _ _ _ _ _ _
     rw [List.length_append]
     exact hown'
    have hg2:=hide (gow (gal (uh hg1) _) hgrow (fun n e=>((uh hown1).lt n e).1))
    clear hown' hgrow hown1 hg1
    go_wp2
    go_roundw
    case rel=>exact ⟨k+1,by have:=uh HL;omega,by go_num,uh hown2,uh hg2⟩
    case measure=>simp [intOf];omega
   ·have hq':Gn.free c F far U k=false:=by simpa using hq
    have hno:=hide (Gn.those_no hq')
    have hcs:(c k == 1)=false∨((c k == 1)=true∧¬far≤F k)∨((c k == 1)=true∧far≤F k∧U k=true):=by
     unfold Gn.free at hq'
     cases h1:(c k == 1) with
     | false=>exact .inl rfl
     | true =>
      rw [h1] at hq'
      by_cases h2:far≤F k
      ·right;right
       refine ⟨rfl,h2,?_⟩
       simpa [h2] using hq'
      ·exact .inr (.inl ⟨rfl,h2⟩)
    clear hq hq'
    rcases hcs with r1 | ⟨r1,r2⟩ | ⟨r1,r2,r3⟩
    ·go_wp2
     go_roundw
     case rel=>exact ⟨k+1,by have:=uh HL;omega,by go_num,by rw [uh hno];exact uh hown1,uh hg1⟩
     case measure=>simp [intOf];omega
    ·have r2':decide (far≤F k)=false:=by simpa using r2
     clear r2
     go_wp2
     go_roundw
     case rel=>exact ⟨k+1,by have:=uh HL;omega,by go_num,by rw [uh hno];exact uh hown1,uh hg1⟩
     case measure=>simp [intOf];omega
    ·go_wp2
     go_roundw
     case rel=>exact ⟨k+1,by have:=uh HL;omega,by go_num,by rw [uh hno];exact uh hown1,uh hg1⟩
     case measure=>simp [intOf];omega
  ·have hge:¬(k:Int)<384:=by omega
   obtain rfl:k=384:=by omega
   obtain ⟨l,hl⟩:∃l,l=Gn.those (Gn.free c F far U) 384:=⟨_,rfl⟩
   rw [←hl] at hown1 hln
   have hl':=hide hl
   clear hlt hk hl
   rcases (uh hown1).form with ⟨rfl,h0⟩ | ⟨g,cap,H,rfl,hb,hAr,hlc,hm,hH⟩
   ·have hres:Hid (Gn.picked d a (Gn.those (Gn.free c F far U) 384)=-1):=by
     show Gn.picked d a (Gn.those (Gn.free c F far U) 384)=-1
     rw [←uh hl',h0]
     rfl
    clear h0
    go_wp2
    go_ret
    exact ⟨rti (uh hres).symm,uh hg1⟩
   ·by_cases h0:l.length=0
    ·have hres:Hid (Gn.picked d a (Gn.those (Gn.free c F far U) 384)=-1):=by
      show Gn.picked d a (Gn.those (Gn.free c F far U) 384)=-1
      rw [←uh hl']
      unfold Gn.picked
      rw [if_pos h0]
     rw [h0]
     clear hAr hH
     go_wp2
     go_ret
     exact ⟨rti (uh hres).symm,uh hg1⟩
    ·obtain ⟨N,hN⟩:∃x,x=d a 0 (l.length:Int):=⟨_,rfl⟩
     obtain ⟨n1,n2⟩:0≤N∧N<(l.length:Int):=by rw [hN];exact uh hFr' _ _ _ (by omega)
     obtain ⟨n,hn⟩:∃n:Nat,N=(n:Int):=⟨N.toNat,by omega⟩
     have hnl:n<l.length:=by omega
     have hnl':(n:Int)<(l.length:Int):=by omega
     have hdN:=refD_any s f a 0 (l.length:Int) wr (by omega)
     rw [uh hd',←hN,hn] at hdN
     obtain ⟨cl,hcl⟩:∃cl,cl=l[n]?.getD 0:=⟨_,rfl⟩
     have hres:Hid (Gn.picked d a (Gn.those (Gn.free c F far U) 384)=(cl:Int)):=by
      show Gn.picked d a (Gn.those (Gn.free c F far U) 384)=(cl:Int)
      rw [←uh hl']
      unfold Gn.picked
      rw [if_neg h0,←hN,hn,Int.toNat_natCast,hcl]
     have hAr':=hide hAr
     have hq:Hid (H n=.int .i64 (cl:Int)):=by show H n=_;rw [hH n hnl,hcl]
     have hz:((l.length:Int) == 0)=false:=by rw [beq_eq_false_iff_ne];omega
     clear hAr hH hN hn hcl h0 n1 n2
     go_wp2_with fail
     refine hdN.mono ?_
     rintro e wd ⟨rfl,hgd⟩
     have hc2:wd.cell? ⟨g,n,none⟩=some (.int .i64 (cl:Int)):=by rw [((uh hAr').grown hgd (by simp)).cell (by omega),uh hq]
     have hg2:=hide (grown_none (uh hg1) hgd)
     clear hgd
     go_wp2
     go_ret
     exact ⟨rti (uh hres).symm,uh hg2⟩

end Go.Proofs.YtbanjoflgoiegabGreat

namespace Go.Proofs.YtbanjoflgoiegabGreat

namespace Gn

theorem paintTo_2 {c:Nat→Int} {x y w h r q:Int} (hc:∀i,0≤c i∧c i≤2) (i:Nat):0≤paintTo c x y w h r q i∧paintTo c x y w h r q i≤2:=by
 unfold paintTo
 split
 ·omega
 ·exact hc i

theorem digAt_2 {st:(Nat→Int) × Bool} {k:Nat} (hc:∀i,0≤st.1 i∧st.1 i≤2) (i:Nat):0≤(digAt st k).1 i∧(digAt st k).1 i≤2:=by
 unfold digAt Gr.upd
 split
 ·show 0≤(if i=k then _ else st.1 i)∧(if i=k then _ else st.1 i)≤2
  split
  ·split <;> omega
  ·exact hc i
 ·exact hc i

theorem digRun_2 (tx ty:Int) (first:Bool):∀(n:Nat) (st:(Nat→Int) × Bool) (x y:Int),(∀i,0≤st.1 i∧st.1 i≤2)→∀i,0≤(digRun tx ty first n st x y).1 i∧(digRun tx ty first n st x y).1 i≤2
 | 0,_,_,_,h=>digAt_2 h
 | n+1,_,_,_,h=>digRun_2 tx ty first n _ _ _ (digAt_2 h)

theorem roomed_2 (d:Dice):∀(n i:Nat),0≤roomed d n i∧roomed d n i≤2
 | 0,_=>by simp [roomed]
 | n+1,i=>paintTo_2 (roomed_2 d n) i

theorem dug_2 (d:Dice):∀(n i:Nat),0≤dug d n i∧dug d n i≤2
 | 0,i=>roomed_2 d 6 i
 | n+1,i=>by
  have h:=digRun_2 (mx d (n+1)) (my d (n+1)) (d ((n+1:Nat):Int) 4 2 == 0) (steps (mx d n) (my d n) (mx d (n+1)) (my d (n+1))) (dug d n,false) (mx d n) (my d n) (dug_2 d n) i
  rw [dug]
  exact h

def onPath (tx ty:Int) (first:Bool):Nat→Int→Int→Nat→Prop
 | 0,x,y,k=>k=(y*24+x).toNat
 | n+1,x,y,k=>k=(y*24+x).toNat∨onPath tx ty first n (stepX x y tx ty first) (stepY x y tx ty first) k

theorem digAt_nz (st:(Nat→Int) × Bool) (k i:Nat):(digAt st k).1 i≠0↔st.1 i≠0∨i=k:=by
 unfold digAt
 split
 ·rename_i h0
  show Gr.upd st.1 k _ i≠0↔_
  by_cases e:i=k
  ·rw [e,Gr.upd_at]
   simp only [or_true,iff_true]
   split <;> omega
  ·rw [Gr.upd_ne _ _ e]
   simp [e]
 ·rename_i h0
  constructor
  ·exact fun h=>.inl h
  ·rintro (h | rfl)
   ·exact h
   ·exact h0

theorem digRun_nz (tx ty:Int) (first:Bool):∀(n:Nat) (st:(Nat→Int) × Bool) (x y:Int) (i:Nat),(digRun tx ty first n st x y).1 i≠0↔st.1 i≠0∨onPath tx ty first n x y i
 | 0,st,x,y,i=>digAt_nz st _ i
 | n+1,st,x,y,i=>by
  rw [digRun,digRun_nz tx ty first n,digAt_nz,onPath,or_assoc]

def inRoom (d:Dice) (k i:Nat):Prop:=rx d k≤(i % 24:Nat)∧((i % 24:Nat):Int)<rx d k+rw d k∧ry d k≤(i / 24:Nat)∧((i / 24:Nat):Int)<ry d k+rh d k

theorem paint_nz (c:Nat→Int) (x y w h:Int) (i:Nat):paint c x y w h i≠0↔c i≠0∨(x≤(i % 24:Nat)∧((i % 24:Nat):Int)<x+w∧y≤(i / 24:Nat)∧((i / 24:Nat):Int)<y+h):=by
 unfold paint paintTo
 by_cases hc:(x≤(i % 24:Nat)∧((i % 24:Nat):Int)<x+w∧y≤(i / 24:Nat)∧((i / 24:Nat):Int)<y+h)
 ·rw [if_pos ⟨hc,by omega⟩]
  exact ⟨fun _=>.inr hc,fun _=>by omega⟩
 ·rw [if_neg (fun h=>hc h.1)]
  constructor
  ·exact fun h=>.inl h
  ·rintro (h | h)
   ·exact h
   ·exact absurd h hc

theorem roomed_nz (d:Dice):∀(n i:Nat),roomed d n i≠0↔∃k,k<n∧inRoom d k i
 | 0,i=>by simp [roomed]
 | n+1,i=>by
  rw [roomed,paint_nz,roomed_nz d n i]
  constructor
  ·rintro (⟨k,hk,h⟩ | h)
   ·exact ⟨k,by omega,h⟩
   ·exact ⟨n,by omega,h⟩
  ·rintro ⟨k,hk,h⟩
   by_cases e:k=n
   ·subst e;exact .inr h
   ·exact .inl ⟨k,by omega,h⟩

def path (d:Dice) (n i:Nat):Prop:=onPath (mx d (n+1)) (my d (n+1)) (d ((n+1:Nat):Int) 4 2 == 0) (steps (mx d n) (my d n) (mx d (n+1)) (my d (n+1))) (mx d n) (my d n) i

theorem dug_nz (d:Dice):∀(n i:Nat),dug d n i≠0↔(∃k,k<6∧inRoom d k i)∨∃k,k<n∧path d k i
 | 0,i=>by
  have h:dug d 0=roomed d 6:=rfl
  rw [h,roomed_nz]
  constructor
  ·exact fun h=>.inl h
  ·rintro (h | ⟨k,hk,_⟩)
   ·exact h
   ·omega
 | n+1,i=>by
  rw [dug,digRun_nz,dug_nz d n i]
  constructor
  ·rintro ((h | ⟨k,hk,h⟩) | h)
   ·exact .inl h
   ·exact .inr ⟨k,by omega,h⟩
   ·exact .inr ⟨n,by omega,h⟩
  ·rintro (h | ⟨k,hk,h⟩)
   ·exact .inl (.inl h)
   ·by_cases e:k=n
    ·subst e;exact .inr h
    ·exact .inl (.inr ⟨k,by omega,h⟩)

def Closed (c:Nat→Int) (P:Nat→Prop):Prop:=∀j e,j<384→e<4→P j→Gr.nbIn j e→c (Gr.nbOf j e)≠0→P (Gr.nbOf j e)

theorem Closed.step {c:Nat→Int} {P:Nat→Prop} (h:Closed c P) {a b:Nat} (ha:a<384) (hb:b<384) (hP:P a) (hc:c b≠0)
  (hn:(b=a+1∧a / 24=b / 24)∨(a=b+1∧a / 24=b / 24)∨b=a+24∨a=b+24):P b:=by
 have key:∃e,e<4∧Gr.nbIn a e∧((a / 24:Nat)+Gr.dyOf e)*24+((a % 24:Nat)+Gr.dxOf e)=(b:Int):=by
  rcases hn with ⟨h1,h2⟩ | ⟨h1,h2⟩ | h1 | h1
  ·exact ⟨1,by omega,by unfold Gr.nbIn;simp only [Gr.dxOf,Gr.dyOf];omega,by simp only [Gr.dxOf,Gr.dyOf];omega⟩
  ·exact ⟨3,by omega,by unfold Gr.nbIn;simp only [Gr.dxOf,Gr.dyOf];omega,by simp only [Gr.dxOf,Gr.dyOf];omega⟩
  ·exact ⟨2,by omega,by unfold Gr.nbIn;simp only [Gr.dxOf,Gr.dyOf];omega,by simp only [Gr.dxOf,Gr.dyOf];omega⟩
  ·exact ⟨0,by omega,by unfold Gr.nbIn;simp only [Gr.dxOf,Gr.dyOf];omega,by simp only [Gr.dxOf,Gr.dyOf];omega⟩
 obtain ⟨e,he,hin,hv⟩:=key
 have hb2:Gr.nbOf a e=b:=by have:=Gr.nb_eq hin;omega
 have:=h a e ha he hP hin (by rw [hb2];exact hc)
 rwa [hb2] at this

theorem step_near (x y tx ty:Int) (first:Bool) (h:¬(x=tx∧y=ty)) :
  (stepX x y tx ty first=x+1∧stepY x y tx ty first=y)∨(stepX x y tx ty first=x - 1∧stepY x y tx ty first=y)∨(stepX x y tx ty first=x∧stepY x y tx ty first=y+1)∨(stepX x y tx ty first=x∧stepY x y tx ty first=y - 1):=by
 unfold stepX stepY to1
 by_cases hw:way x y tx ty first=true
 ·rw [if_pos hw,if_pos hw]
  have hx:x≠tx:=by
   unfold way at hw
   intro e
   simp only [Bool.or_eq_true,beq_iff_eq,Bool.and_eq_true,bne_iff_ne,ne_eq] at hw
   rcases hw with hw | ⟨_,hw⟩
   ·exact h ⟨e,hw⟩
   ·exact hw e
  split
  ·exact .inl ⟨rfl,rfl⟩
  ·split
   ·exact .inr (.inl ⟨rfl,rfl⟩)
   ·omega
 ·rw [if_neg hw,if_neg hw]
  have hy:y≠ty:=by
   unfold way at hw
   intro e
   simp [e] at hw
  split
  ·exact .inr (.inr (.inl ⟨rfl,rfl⟩))
  ·split
   ·exact .inr (.inr (.inr ⟨rfl,rfl⟩))
   ·omega

theorem Closed.along {c:Nat→Int} {P:Nat→Prop} (h:Closed c P) (tx ty:Int) (first:Bool) (ht:(1≤tx∧tx≤22)∧1≤ty∧ty≤14):∀(n:Nat) (x y:Int),n=steps x y tx ty→(1≤x∧x≤22)∧1≤y∧y≤14→P (y*24+x).toNat→(∀i,onPath tx ty first n x y i→c i≠0) →
  (∀i,onPath tx ty first n x y i→P i)∧onPath tx ty first n x y (ty*24+tx).toNat
 | 0,x,y,hn,hb,hP,hc=>by
  have e:x=tx∧y=ty:=by unfold steps at hn;omega
  refine ⟨fun i hi=>?_,?_⟩
  ·have hi':i=(y*24+x).toNat:=hi
   rw [hi'];exact hP
  ·show (ty*24+tx).toNat=(y*24+x).toNat
   rw [e.1,e.2]
 | n+1,x,y,hn,hb,hP,hc=>by
  have hne:¬(x=tx∧y=ty):=by
   rintro ⟨rfl,rfl⟩
   unfold steps at hn
   omega
  have hl:=step_less x y tx ty first hne
  have hb':=step_bd x y tx ty first hb ht
  have hsn:=step_near x y tx ty first hne
  have hPn:P (stepY x y tx ty first*24+stepX x y tx ty first).toNat:=by
   refine h.step (a:=(y*24+x).toNat) (by omega) (by omega) hP (hc _ (.inr ?_)) (by omega)
   cases n with
   | zero=>rfl
   | succ m=>exact .inl rfl
  obtain ⟨h1,h2⟩:=Closed.along h tx ty first ht n (stepX x y tx ty first) (stepY x y tx ty first) (by omega) hb' hPn (fun i hi=>hc i (.inr hi))
  refine ⟨fun i hi=>?_,.inr h2⟩
  rcases hi with rfl | hi
  ·exact hP
  ·exact h1 i hi

theorem Closed.rowTo {c:Nat→Int} {P:Nat→Prop} (h:Closed c P) (x0 y0 w0 h0:Int) (hb:1≤x0∧x0+w0≤23∧1≤y0∧y0+h0≤15) (hc:∀x y,x0≤x→x<x0+w0→y0≤y→y<y0+h0→c (y*24+x).toNat≠0) :
  ∀(n:Nat) (x y x':Int),n=(x' - x).natAbs→x0≤x→x<x0+w0→x0≤x'→x'<x0+w0→y0≤y→y<y0+h0→P (y*24+x).toNat→P (y*24+x').toNat
 | 0,x,y,x',hn,_,_,_,_,_,_,hP=>by
  have:x'=x:=by omega
  rw [this];exact hP
 | n+1,x,y,x',hn,h1,h2,h3,h4,h5,h6,hP=>by
  by_cases hlt:x<x'
  ·refine Closed.rowTo h x0 y0 w0 h0 hb hc n (x+1) y x' (by omega) (by omega) (by omega) h3 h4 h5 h6 ?_
   exact h.step (a:=(y*24+x).toNat) (by omega) (by omega) hP (hc _ _ (by omega) (by omega) h5 h6) (by omega)
  ·refine Closed.rowTo h x0 y0 w0 h0 hb hc n (x - 1) y x' (by omega) (by omega) (by omega) h3 h4 h5 h6 ?_
   exact h.step (a:=(y*24+x).toNat) (by omega) (by omega) hP (hc _ _ (by omega) (by omega) h5 h6) (by omega)

theorem Closed.colTo {c:Nat→Int} {P:Nat→Prop} (h:Closed c P) (x0 y0 w0 h0:Int) (hb:1≤x0∧x0+w0≤23∧1≤y0∧y0+h0≤15) (hc:∀x y,x0≤x→x<x0+w0→y0≤y→y<y0+h0→c (y*24+x).toNat≠0) :
  ∀(n:Nat) (x y y':Int),n=(y' - y).natAbs→x0≤x→x<x0+w0→y0≤y→y<y0+h0→y0≤y'→y'<y0+h0→P (y*24+x).toNat→P (y'*24+x).toNat
 | 0,x,y,y',hn,_,_,_,_,_,_,hP=>by
  have:y'=y:=by omega
  rw [this];exact hP
 | n+1,x,y,y',hn,h1,h2,h3,h4,h5,h6,hP=>by
  by_cases hlt:y<y'
  ·refine Closed.colTo h x0 y0 w0 h0 hb hc n x (y+1) y' (by omega) h1 h2 (by omega) (by omega) h5 h6 ?_
   exact h.step (a:=(y*24+x).toNat) (by omega) (by omega) hP (hc _ _ h1 h2 (by omega) (by omega)) (by omega)
  ·refine Closed.colTo h x0 y0 w0 h0 hb hc n x (y - 1) y' (by omega) h1 h2 (by omega) (by omega) h5 h6 ?_
   exact h.step (a:=(y*24+x).toNat) (by omega) (by omega) hP (hc _ _ h1 h2 (by omega) (by omega)) (by omega)

theorem inRoom_at {d:Dice} (hd:Fair d) {k:Nat} {x y:Int} (h1:rx d k≤x) (h2:x<rx d k+rw d k) (h3:ry d k≤y) (h4:y<ry d k+rh d k):inRoom d k (y*24+x).toNat:=by
 have:=room_bd hd k
 unfold inRoom
 omega

theorem mid_in {d:Dice} (hd:Fair d) (k:Nat):rx d k≤mx d k∧mx d k<rx d k+rw d k∧ry d k≤my d k∧my d k<ry d k+rh d k:=by
 have:=room_bd hd k
 unfold mx my
 omega

theorem hangs {d:Dice} (hd:Fair d) {c:Nat→Int} (hz:∀i,i<384→(c i≠0↔dug d 5 i≠0)) {P:Nat→Prop} (hC:Closed c P) (hP:P (up d)) (i:Nat) (hi:i<384) (hc:c i≠0):P i:=by
 have hroomc:∀k,k<6→∀x y,rx d k≤x→x<rx d k+rw d k→ry d k≤y→y<ry d k+rh d k→c (y*24+x).toNat≠0:=by
  intro k hk x y h1 h2 h3 h4
  have hb:=room_bd hd k
  exact (hz _ (by omega)).2 ((dug_nz d 5 _).2 (.inl ⟨k,hk,inRoom_at hd h1 h2 h3 h4⟩))
 have hpathlt:∀k,∀i,path d k i→i<384:=by
  intro k
  have key:∀(n:Nat) (x y:Int),(1≤x∧x≤22)∧1≤y∧y≤14→∀i,onPath (mx d (k+1)) (my d (k+1)) (d ((k+1:Nat):Int) 4 2 == 0) n x y i→i<384:=by
   have ht:=mid_bd hd (k+1)
   intro n
   induction n with
   | zero =>
    intro x y hb i hi
    have hi':i=(y*24+x).toNat:=hi
    omega
   | succ n ih =>
    intro x y hb i hi
    rcases hi with rfl | hi
    ·omega
    ·exact ih _ _ (step_bd x y _ _ _ hb (by omega)) i hi
  have hb:=mid_bd hd k
  exact key _ _ _ (by omega)
 have hmids:∀k,k<6→P (my d k*24+mx d k).toNat∧(k<5→∀i,path d k i→P i):=by
  intro k
  induction k with
  | zero =>
   intro _
   have hb:=mid_bd hd 0
   have hb1:=mid_bd hd 1
   refine ⟨hP,fun h5 i hi=>?_⟩
   exact (Closed.along hC (mx d 1) (my d 1) (d ((1:Nat):Int) 4 2 == 0) (by omega) _ (mx d 0) (my d 0) rfl (by omega) hP (fun j hj=>(hz j (hpathlt 0 j hj)).2 ((dug_nz d 5 j).2 (.inr ⟨0,by omega,hj⟩)))).1 i hi
  | succ k ih =>
   intro hk
   obtain ⟨ih1,_⟩:=ih (by omega)
   have hb:=mid_bd hd k
   have hb1:=mid_bd hd (k+1)
   have hb2:=mid_bd hd (k+1+1)
   have hal:=Closed.along hC (mx d (k+1)) (my d (k+1)) (d ((k+1:Nat):Int) 4 2 == 0) (by omega) _ (mx d k) (my d k) rfl (by omega) ih1 (fun j hj=>(hz j (hpathlt k j hj)).2 ((dug_nz d 5 j).2 (.inr ⟨k,by omega,hj⟩)))
   have hPm:=hal.1 _ hal.2
   refine ⟨hPm,fun h5 i hi=>?_⟩
   exact (Closed.along hC (mx d (k+1+1)) (my d (k+1+1)) (d ((k+1+1:Nat):Int) 4 2 == 0) (by omega) _ (mx d (k+1)) (my d (k+1)) rfl (by omega) hPm (fun j hj=>(hz j (hpathlt (k+1) j hj)).2 ((dug_nz d 5 j).2 (.inr ⟨k+1,by omega,hj⟩)))).1 i hi
 rcases (dug_nz d 5 i).1 ((hz i hi).1 hc) with ⟨k,hk,hin⟩ | ⟨k,hk,hpa⟩
 ·have hb:=room_bd hd k
  have hm:=mid_in hd k
  have h0:=(hmids k hk).1
  unfold inRoom at hin
  have h1:=Closed.rowTo hC (rx d k) (ry d k) (rw d k) (rh d k) (by omega) (hroomc k hk) _ (mx d k) (my d k) ((i % 24:Nat):Int) rfl hm.1 hm.2.1 hin.1 hin.2.1 hm.2.2.1 hm.2.2.2 h0
  have h2:=Closed.colTo hC (rx d k) (ry d k) (rw d k) (rh d k) (by omega) (hroomc k hk) _ ((i % 24:Nat):Int) (my d k) ((i / 24:Nat):Int) rfl hin.1 hin.2.1 hm.2.2.1 hm.2.2.2 hin.2.2.1 hin.2.2.2 h1
  rwa [show (((i / 24:Nat):Int)*24+((i % 24:Nat):Int)).toNat=i by omega] at h2
 ·exact (hmids k (by omega)).2 hk i hpa

end Gn

end Go.Proofs.YtbanjoflgoiegabGreat

namespace Go.Proofs.YtbanjoflgoiegabGreat

namespace Gn

theorem roomed_1 (d:Dice):∀(n i:Nat),roomed d n i=0∨roomed d n i=1
 | 0,_=>.inl rfl
 | n+1,i=>by
  have h:=roomed_1 d n i
  rw [roomed,paint,paintTo]
  split
  ·exact .inr rfl
  ·exact h

theorem path_in {d:Dice} (hd:Fair d) (k i:Nat) (h:path d k i):i<384∧1≤i % 24∧i % 24≤22∧1≤i / 24∧i / 24≤14:=by
 have key:∀(n:Nat) (x y:Int),(1≤x∧x≤22)∧1≤y∧y≤14→∀i,onPath (mx d (k+1)) (my d (k+1)) (d ((k+1:Nat):Int) 4 2 == 0) n x y i→i<384∧1≤i % 24∧i % 24≤22∧1≤i / 24∧i / 24≤14:=by
  have ht:=mid_bd hd (k+1)
  intro n
  induction n with
  | zero =>
   intro x y hb i hi
   have hi':i=(y*24+x).toNat:=hi
   omega
  | succ n ih =>
   intro x y hb i hi
   rcases hi with rfl | hi
   ·omega
   ·exact ih _ _ (step_bd x y _ _ _ hb (by omega)) i hi
 have hb:=mid_bd hd k
 exact key _ _ _ (by omega) i h

theorem dug_in {d:Dice} (hd:Fair d) (i:Nat) (h:dug d 5 i≠0):1≤i % 24∧i % 24≤22∧1≤i / 24∧i / 24≤14:=by
 rcases (dug_nz d 5 i).1 h with ⟨k,_,hin⟩ | ⟨k,_,hp⟩
 ·have hb:=room_bd hd k
  unfold inRoom at hin
  omega
 ·exact (path_in hd k i hp).2

theorem up_lt {d:Dice} (hd:Fair d):up d<384:=by
 have:=mid_bd hd 0
 unfold up
 omega

theorem beside_up {d:Dice} (hd:Fair d):dug d 5 (up d - 1)≠0∧dug d 5 (up d)≠0∧1≤up d∧(up d - 1) / 24=up d / 24:=by
 have hb:=room_bd hd 0
 have hm:=mid_in hd 0
 have hu:=up_eq hd
 have hmb:=mid_bd hd 0
 have hx:rx d 0≤mx d 0 - 1:=by unfold mx;omega
 refine ⟨(dug_nz d 5 _).2 (.inl ⟨0,by omega,?_⟩),(dug_nz d 5 _).2 (.inl ⟨0,by omega,?_⟩),by omega,by omega⟩
 ·have h:=inRoom_at hd (k:=0) (x:=mx d 0 - 1) (y:=my d 0) hx (by omega) hm.2.2.1 hm.2.2.2
  rwa [show (my d 0*24+(mx d 0 - 1)).toNat=up d - 1 by omega] at h
 ·have h:=inRoom_at hd (k:=0) (x:=mx d 0) (y:=my d 0) hm.1 hm.2.1 hm.2.2.1 hm.2.2.2
  rwa [show (my d 0*24+mx d 0).toNat=up d by omega] at h

theorem base_up (d:Dice):base d (up d)=3:=Gr.upd_at _ _ _
theorem base_ne (d:Dice) {i:Nat} (h:i≠up d):base d i=dug d 5 i:=Gr.upd_ne _ _ h

theorem base_nz {d:Dice} (hd:Fair d) (i:Nat):base d i≠0↔dug d 5 i≠0:=by
 by_cases e:i=up d
 ·rw [e,base_up]
  have:=(beside_up hd).2.1
  constructor
  ·exact fun _=>this
  ·exact fun _=>by omega
 ·rw [base_ne d e]

theorem walk_nz {c:Int} (h:0≤c∧c≤5):Gr.walkB c=true↔c≠0:=by
 rw [Gr.walkB_iff];omega

structure Facts (d:Dice) (c F:Nat→Int) (far:Nat):Prop where
 five:∀i,0≤c i∧c i≤5
 nz:∀i,c i≠0↔dug d 5 i≠0
 upl:up d<384
 farl:far<384
 is3:∀i,c i=3↔i=up d
 is4:∀i,c i=4↔i=far
 door:∀i,c i=2→dug d 5 i=2
 fld:Gr.IsField (fun i=>Gr.walkB (c i)=true) (fun i=>i=up d) F
 pos:0<F far
 five1:(∀i,c i≠5)∨∃k,k<384∧∀i,c i=5↔i=k

theorem IsLevel.facts {d:Dice} (hd:Fair d) {c F:Nat→Int} (h:IsLevel d c F):∃far,Facts d c F far:=by
 have h5:=h.five
 obtain ⟨far,hF,hfar,hc⟩:=h
 refine ⟨far,?_⟩
 have hul:=up_lt hd
 obtain ⟨b1,b2,b3,b4⟩:=beside_up hd
 have hF0:F (up d)=0:=(hF.is.zero _ hul).2 rfl
 -- the cell left of it is one step away
 have hleft:0<F (up d - 1):=by
  have hin:Gr.nbIn (up d) 3∧((up d / 24:Nat)+Gr.dyOf 3)*24+((up d % 24:Nat)+Gr.dxOf 3)=((up d - 1:Nat):Int):=by
   have hdi:=dug_in hd _ b2
   unfold Gr.nbIn
   simp only [Gr.dxOf,Gr.dyOf]
   omega
  have hnb:Gr.nbOf (up d) 3=up d - 1:=by have:=Gr.nb_eq hin.1;omega
  have hfw:=hF.is.fwd (up d) hul (by omega) 3 (by omega) hin.1 (by rw [hnb];exact (walk_nz (base_5 d _)).2 ((base_nz hd _).2 b1))
  rw [hnb] at hfw
  have hne:F (up d - 1)≠0:=fun e=>by have:=(hF.is.zero (up d - 1) (by omega)).1 e;omega
  omega
 have hpos:0<F far:=by have:=hfar.top (up d - 1) (by omega);omega
 have hfu:far≠up d:=fun e=>by rw [e] at hpos;omega
 -- the furthest cell is no wall
 have hfn:base d far≠0:=(walk_nz (base_5 d far)).1 ((hF.is.back far hfar.lt hpos).1)
 obtain ⟨c2,hc2⟩:∃c2,c2=Gr.upd (base d) far 4:=⟨_,rfl⟩
 have c2far:c2 far=4:=by rw [hc2];exact Gr.upd_at _ _ _
 have c2ne:∀i,i≠far→c2 i=base d i:=fun i hi=>by rw [hc2];exact Gr.upd_ne _ _ hi
 have c2up:c2 (up d)=3:=by rw [c2ne _ (fun e=>hfu e.symm),base_up]
 have c2old:∀i,i≠far→i≠up d→c2 i=dug d 5 i:=fun i h1 h2=>by rw [c2ne i h1,base_ne d h2]
 -- what the shop does
 have hshop:(∀i,c i=c2 i)∨∃k,k<384∧c2 k=1∧∀i,c i=if i=k then 5 else c2 i:=by
  rw [hc]
  unfold stocked
  rw [←hc2]
  split
  ·cases hs:shop c2 F (F far / 2) with
   | none=>exact .inl fun i=>rfl
   | some k =>
    right
    unfold shop at hs
    rw [List.find?_range_eq_some] at hs
    obtain ⟨hp,hk,_⟩:=hs
    rw [Bool.and_eq_true] at hp
    exact ⟨k,List.mem_range.1 hk,by simpa using hp.2,fun i=>rfl⟩
  ·exact .inl fun i=>rfl
 have h2all:∀i,0≤dug d 5 i∧dug d 5 i≤2:=dug_2 d 5
 have c2nz:∀i,c2 i≠0↔dug d 5 i≠0:=by
  intro i
  by_cases e1:i=far
  ·rw [e1,c2far]
   exact ⟨fun _=>(base_nz hd far).1 hfn,fun _=>by omega⟩
  ·rw [c2ne i e1];exact base_nz hd i
 have c3:∀i,c2 i=3↔i=up d:=by
  intro i
  constructor
  ·intro h
   by_cases e2:i=up d
   ·exact e2
   ·by_cases e1:i=far
    ·rw [e1,c2far] at h;omega
    ·rw [c2old i e1 e2] at h
     have:=h2all i;omega
  ·intro e;rw [e];exact c2up
 have c4:∀i,c2 i=4↔i=far:=by
  intro i
  constructor
  ·intro h
   by_cases e1:i=far
   ·exact e1
   ·by_cases e2:i=up d
    ·rw [e2,c2up] at h;omega
    ·rw [c2old i e1 e2] at h
     have:=h2all i;omega
  ·intro e;rw [e];exact c2far
 have c5:∀i,c2 i≠5:=by
  intro i
  by_cases e1:i=far
  ·rw [e1,c2far];omega
  ·by_cases e2:i=up d
   ·rw [e2,c2up];omega
   ·rw [c2old i e1 e2]
    have:=h2all i;omega
 have cdoor:∀i,c2 i=2→dug d 5 i=2:=by
  intro i h
  by_cases e1:i=far
  ·rw [e1,c2far] at h;omega
  ·by_cases e2:i=up d
   ·rw [e2,c2up] at h;omega
   ·rw [c2old i e1 e2] at h;exact h
 have hnz:∀i,c i≠0↔dug d 5 i≠0:=by
  intro i
  rcases hshop with hs | ⟨k,hk,hk1,hs⟩
  ·rw [hs i];exact c2nz i
  ·rw [hs i]
   by_cases e:i=k
   ·rw [if_pos e]
    have:=(c2nz k).1 (by omega)
    rw [e]
    exact ⟨fun _=>this,fun _=>by omega⟩
   ·rw [if_neg e];exact c2nz i
 refine ⟨h5,hnz,hul,hfar.lt,?_,?_,?_,?_,hpos,?_⟩
 ·intro i
  rcases hshop with hs | ⟨k,hk,hk1,hs⟩
  ·rw [hs i];exact c3 i
  ·rw [hs i]
   by_cases e:i=k
   ·rw [if_pos e]
    constructor
    ·intro h;omega
    ·intro e2;rw [←e,e2,c2up] at hk1;omega
   ·rw [if_neg e];exact c3 i
 ·intro i
  rcases hshop with hs | ⟨k,hk,hk1,hs⟩
  ·rw [hs i];exact c4 i
  ·rw [hs i]
   by_cases e:i=k
   ·rw [if_pos e]
    constructor
    ·intro h;omega
    ·intro e2;rw [←e,e2,c2far] at hk1;omega
   ·rw [if_neg e];exact c4 i
 ·intro i hi
  rcases hshop with hs | ⟨k,hk,hk1,hs⟩
  ·rw [hs i] at hi;exact cdoor i hi
  ·rw [hs i] at hi
   by_cases e:i=k
   ·rw [if_pos e] at hi;omega
   ·rw [if_neg e] at hi;exact cdoor i hi
 ·refine isField_congr hF.is (fun i _=>?_) (fun _ _=>Iff.rfl) (fun _ _=>rfl)
  rw [walk_nz (base_5 d i),walk_nz (h5 i),base_nz hd i,hnz i]
 ·rcases hshop with hs | ⟨k,hk,hk1,hs⟩
  ·left
   intro i
   rw [hs i];exact c5 i
  ·right
   refine ⟨k,hk,fun i=>?_⟩
   rw [hs i]
   by_cases e:i=k
   ·rw [if_pos e];simp [e]
   ·rw [if_neg e]
    constructor
    ·intro h;exact absurd h (c5 i)
    ·intro h;exact absurd h e

theorem Facts.reach {d:Dice} (hd:Fair d) {c F:Nat→Int} {far:Nat} (h:Facts d c F far) (i:Nat) (hi:i<384):0≤F i↔c i≠0:=by
 constructor
 ·intro h0
  by_cases e:F i=0
  ·have:=(h.fld.zero i hi).1 e
   rw [this,(h.is3 _).2 rfl];omega
  ·exact (walk_nz (h.five i)).1 (h.fld.back i hi (by omega)).1
 ·intro hc
  refine hangs hd (c:=c) (fun j _=>h.nz j) (P:=fun j=>0≤F j) ?_ ?_ i hi hc
  ·intro j e hj he hP hin hcn
   exact (h.fld.fwd j hj hP e he hin ((walk_nz (h.five _)).2 hcn)).1
  ·have:=(h.fld.zero _ h.upl).2 rfl
   omega

theorem findFrom_at (c:Nat→Int) (v:Int) (k:Nat) (hk:c k=v) (hn:∀i,i<k→c i≠v):∀(n m:Nat),m≤k→k<m+n→Gr.findFrom c v n m=(k:Int)
 | 0,m,h1,h2=>by omega
 | n+1,m,h1,h2=>by
  unfold Gr.findFrom
  by_cases e:m=k
  ·rw [e,if_pos hk]
  ·rw [if_neg (hn m (by omega))]
   exact findFrom_at c v k hk hn n (m+1) (by omega) (by omega)

theorem findFrom_no (c:Nat→Int) (v:Int) (hn:∀i,c i≠v):∀(n m:Nat),Gr.findFrom c v n m=-1
 | 0,m=>rfl
 | n+1,m=>by
  unfold Gr.findFrom
  rw [if_neg (hn m)]
  exact findFrom_no c v hn n (m+1)

theorem find_at {c:Nat→Int} {v:Int} {k:Nat} (hk:k<384) (h:∀i,c i=v↔i=k):Gr.find 384 c v=(k:Int):=by
 unfold Gr.find
 rw [show min 384 384=384 by omega]
 exact findFrom_at c v k ((h k).2 rfl) (fun i hi e=>by have:=(h i).1 e;omega) 384 0 (by omega) (by omega)

theorem find_no {c:Nat→Int} {v:Int} (h:∀i,c i≠v):Gr.find 384 c v=-1:=findFrom_no c v h _ _

end Gn

end Go.Proofs.YtbanjoflgoiegabGreat
