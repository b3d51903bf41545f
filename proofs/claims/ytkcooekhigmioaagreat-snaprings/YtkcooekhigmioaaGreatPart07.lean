import Derived.Test.YtkcooekhigmioaaGreatPart06
import Derived.Deep.Quiet
import Derived.Deep.QuietTactic
namespace Go.Proofs.YtkcooekhigmioaaGreat
open Go.RowKit

def En.firstFrom (q:Nat→Bool):Nat→Nat→Int
 | 0,_=>-1
 | m+1,k=>if q k=true then (k:Int) else En.firstFrom q m (k+1)

def En.first (q:Nat→Bool) (n:Nat):Int:=En.firstFrom q n 0

theorem En.from_hit {q:Nat→Bool}:∀(m k i:Nat),(∀j,i≤j→j<k→q j=false)→q k=true→i≤k→k<i+m→En.firstFrom q m i=(k:Int)
  | 0,k,i,_,_,h1,h2=>by omega
  | m + 1, k, i, hno, hk, h1, h2 => by
      unfold En.firstFrom
      by_cases e:i=k
      · rw [e,if_pos hk]
      · rw [if_neg (by rw [hno i (Nat.le_refl _) (by omega)];simp),En.from_hit m k (i+1) (fun j hj1 hj2=>hno j (by omega) hj2) hk (by omega) (by omega)]

theorem En.from_none {q:Nat→Bool}:∀(m i:Nat),(∀j,i≤j→j<i+m→q j=false)→En.firstFrom q m i=-1
  | 0,_,_=>rfl
  | m + 1, i, hno => by
      unfold En.firstFrom
      rw [if_neg (by rw [hno i (Nat.le_refl _) (by omega)];simp),En.from_none m (i+1) (fun j hj1 hj2=>hno j (by omega) (by omega))]

theorem En.first_hit {q:Nat→Bool} {n k:Nat} (hno:∀j,j<k→q j=false) (hk:q k=true) (hn:k<n):En.first q n=(k:Int) :=
 En.from_hit n k 0 (fun j _ h=>hno j h) hk (by omega) (by omega)

theorem En.first_none {q:Nat→Bool} {n:Nat} (hno:∀j,j<n→q j=false):En.first q n=-1 :=
 En.from_none n 0 (fun j _ h=>hno j (by omega))

theorem En.first_cases (q:Nat→Bool) (n:Nat):(En.first q n=-1∧∀j,j<n→q j=false)∨∃k,k<n∧En.first q n=(k:Int)∧q k=true∧∀j,j<k→q j=false:=by
 induction n with
 | zero=>exact .inl ⟨rfl,fun j h=>by omega⟩
 | succ n ih =>
  rcases ih with ⟨_,hno⟩ | ⟨k,hk,_,hq,hno⟩
  ·by_cases hq:q n=true
   ·exact .inr ⟨n,by omega,En.first_hit hno hq (by omega),hq,hno⟩
   ·have h:∀j,j<n+1→q j=false:=fun j hj=>by
     by_cases e:j=n
     ·rw [e];simpa using hq
     ·exact hno j (by omega)
    exact .inl ⟨En.first_none h,h⟩
  ·exact .inr ⟨k,by omega,En.first_hit hno hq (by omega),hq,hno⟩

def En.freeQ (E:Nat→Nat→Int):Nat→Bool:=fun i=>decide (E i 0=0)
def En.atQ (E:Nat→Nat→Int) (x y:Int):Nat→Bool:=fun i=>!(decide (E i 0=0)) && (decide (E i 3=x) && decide (E i 4=y))
def En.heroQ (E:Nat→Nat→Int) (s:Int):Nat→Bool:=fun i=>decide (E i 0=1) && decide (E i 2=s)
def En.ofQ (E:Nat→Nat→Int) (id:Int):Nat→Bool:=fun i=>!(decide (E i 0=0)) && decide ((i:Int)+32*E i 1=id)

theorem Ents.row {w:World} {b n:Nat} {E:Nat→Nat→Int} (h:Ents w b n E) {k:Nat} (hk:k<n) :
  w.cell? ⟨b,k*11,none⟩=some (.int .i64 (E k 0))∧w.cell? ⟨b,k*11+1,none⟩=some (.int .i64 (E k 1))∧w.cell? ⟨b,k*11+2,none⟩=some (.int .i64 (E k 2))∧w.cell? ⟨b,k*11+3,none⟩=some (.int .i64 (E k 3)) ∧
  w.cell? ⟨b,k*11+4,none⟩=some (.int .i64 (E k 4))∧w.cell? ⟨b,k*11+5,none⟩=some (.int .i64 (E k 5))∧w.cell? ⟨b,k*11+6,none⟩=some (.int .i64 (E k 6))∧w.cell? ⟨b,k*11+7,none⟩=some (.int .i64 (E k 7)) ∧
  w.cell? ⟨b,k*11+8,none⟩=some (.int .i64 (E k 8))∧w.cell? ⟨b,k*11+9,none⟩=some (.int .i64 (E k 9))∧w.cell? ⟨b,k*11+10,none⟩=some (.int .i64 (E k 10)) :=
 ⟨h.2.2 k 0 hk (by omega),h.2.2 k 1 hk (by omega),h.2.2 k 2 hk (by omega),h.2.2 k 3 hk (by omega),h.2.2 k 4 hk (by omega),h.2.2 k 5 hk (by omega),h.2.2 k 6 hk (by omega),h.2.2 k 7 hk (by omega),h.2.2 k 8 hk (by omega),h.2.2 k 9 hk (by omega),h.2.2 k 10 hk (by omega)⟩

theorem atC_any (b n c p0 p1 p2 k:Nat) (E:Nat→Nat→Int) (x y:Int) (w:World) (hE:Ents w b n E) (hk:k<n) (hp0:w.cell? ⟨p0,0,none⟩=some (.slice (some ⟨b,0,none⟩) n c)) (hp1:w.cell? ⟨p1,0,none⟩=some (.int .i64 x)) (hp2:w.cell? ⟨p2,0,none⟩=some (.int .i64 y)) :
  Calls Tryz.prog 124 #[.int .i64 (k:Int),.pointer (some ⟨p0,0,none⟩),.pointer (some ⟨p1,0,none⟩),.pointer (some ⟨p2,0,none⟩)] w (Says w (.bool (decide (E k 3=x) && decide (E k 4=y)))):=by
 obtain ⟨_,_,_,u3,u4,_⟩:=hE.row hk
 have hk':(k:Int)<(n:Int):=by omega
 have hdr:Hid (∀m,w.grownBy (w.drewN m) none):=fun m=>gdw (World.grownBy.refl _ _) m
 clear hE
 by_cases h3:E k 3=x
 ·by_cases h4:E k 4=y
  ·have hd:=hide (show (decide (E k 3=x) && decide (E k 4=y))=true by simp [h3,h4])
   rw [h3] at u3
   rw [h4] at u4
   clear h3 h4
   go_enter Tryz.func124,Tryz.ntmps124
   go_wp2_with fail
   go_quiet (fail)
   go_wp2
   go_ret
   exact ⟨ret_bool (uh hd).symm,uh hdr _⟩
  ·have hd:=hide (show (decide (E k 3=x) && decide (E k 4=y))=false by simp [h4])
   rw [h3] at u3
   clear h3
   go_enter Tryz.func124,Tryz.ntmps124
   go_wp2_with fail
   go_quiet (fail)
   go_wp2
   go_ret
   exact ⟨ret_bool (uh hd).symm,uh hdr _⟩
 ·have hd:=hide (show (decide (E k 3=x) && decide (E k 4=y))=false by simp [h3])
  go_enter Tryz.func124,Tryz.ntmps124
  go_wp2_with fail
  go_quiet (fail)
  go_wp2
  go_ret
  exact ⟨ret_bool (uh hd).symm,uh hdr _⟩

theorem heroC_any (b n c p0 p1 k:Nat) (E:Nat→Nat→Int) (seat:Int) (w:World) (hE:Ents w b n E) (hk:k<n) (hp0:w.cell? ⟨p0,0,none⟩=some (.slice (some ⟨b,0,none⟩) n c)) (hp1:w.cell? ⟨p1,0,none⟩=some (.int .i64 seat)) :
  Calls Tryz.prog 125 #[.int .i64 (k:Int),.pointer (some ⟨p0,0,none⟩),.pointer (some ⟨p1,0,none⟩)] w (Says w (.bool (decide (E k 0=1) && decide (E k 2=seat)))):=by
 obtain ⟨u0,_,u2,_⟩:=hE.row hk
 have hk':(k:Int)<(n:Int):=by omega
 have hdr:Hid (∀m,w.grownBy (w.drewN m) none):=fun m=>gdw (World.grownBy.refl _ _) m
 clear hE
 by_cases h1:E k 0=1
 ·have hd:=hide (decide_eq_true h1)
  have h1':(E k 0 == 1)=true:=by simp [h1]
  clear h1
  go_enter Tryz.func125,Tryz.ntmps125
  go_wp2_with fail
  go_quiet (fail)
  go_wp2
  go_ret
  exact ⟨ret_bool (by rw [uh hd,Bool.true_and];rfl),uh hdr _⟩
 ·have hd:=hide (decide_eq_false h1)
  have h1':(E k 0 == 1)=false:=by simp [h1]
  clear h1
  go_enter Tryz.func125,Tryz.ntmps125
  go_wp2_with fail
  go_quiet (fail)
  go_wp2
  go_ret
  exact ⟨ret_bool (by rw [uh hd];simp),uh hdr _⟩


open Go.RowKit

theorem En.atQ_free {E:Nat→Nat→Int} {x y:Int} {k:Nat} (h:E k 0=0):En.atQ E x y k=false:=by simp [En.atQ,h]
theorem En.atQ_some {E:Nat→Nat→Int} {x y:Int} {k:Nat} (h:¬E k 0=0):En.atQ E x y k=(decide (E k 3=x) && decide (E k 4=y)):=by simp [En.atQ,h]
theorem En.heroQ_free {E:Nat→Nat→Int} {s:Int} {k:Nat} (h:E k 0=0):En.heroQ E s k=false:=by simp [En.heroQ,h]
theorem En.heroQ_some {E:Nat→Nat→Int} {s:Int} {k:Nat} (_:¬E k 0=0):En.heroQ E s k=(decide (E k 0=1) && decide (E k 2=s)):=rfl
theorem En.ofQ_free {E:Nat→Nat→Int} {id:Int} {k:Nat} (h:E k 0=0):En.ofQ E id k=false:=by simp [En.ofQ,h]
theorem En.ofQ_some {E:Nat→Nat→Int} {id:Int} {k:Nat} (h:¬E k 0=0):En.ofQ E id k=decide ((k:Int)+32*E k 1=id):=by simp [En.ofQ,h]

set_option maxHeartbeats 1600000 in
theorem lowAt_any (b n c p0 p1 p2:Nat) (E:Nat→Nat→Int) (x y:Int) (w:World) (hE:Ents w b n E) (hc:n≤c) (hp0:w.cell? ⟨p0,0,none⟩=some (.slice (some ⟨b,0,none⟩) n c)) (hp1:w.cell? ⟨p1,0,none⟩=some (.int .i64 x)) (hp2:w.cell? ⟨p2,0,none⟩=some (.int .i64 y)) (hl0:p0<w.heap.size) (hl1:p1<w.heap.size) (hl2:p2<w.heap.size) :
  Calls Tryz.prog 123 #[.slice (some ⟨b,0,none⟩) n c,.func (.func 124) #[] #[.pointer (some ⟨p0,0,none⟩),.pointer (some ⟨p1,0,none⟩),.pointer (some ⟨p2,0,none⟩)]] w (Says w (.int .i64 (En.first (En.atQ E x y) n))):=by
 have hn:=hE.1
 have cd:Hid (∀wx,w.grownBy wx none→∀k:Nat,k<n→Calls Tryz.prog 124 #[.int .i64 (k:Int),.pointer (some ⟨p0,0,none⟩),.pointer (some ⟨p1,0,none⟩),.pointer (some ⟨p2,0,none⟩)] wx (Says wx (.bool (decide (E k 3=x) && decide (E k 4=y))))):=fun wx hg k hk =>
  atC_any b n c p0 p1 p2 k E x y wx (hE.on hg) hk ((gce hg p0 0 hl0 (by simp)).trans hp0) ((gce hg p1 0 hl1 (by simp)).trans hp1) ((gce hg p2 0 hl2 (by simp)).trans hp2)
 have hE':=hide hE
 clear hE hp0 hl0 hp1 hl1 hp2 hl2
 go_enter Tryz.func123,Tryz.ntmps123
 go_wp2_with (go_at_call 128;refine (rows_any _ _ _ _ hn hc).mono ?_;rintro e w' ⟨rfl,hw⟩;subst w')
 go_loopw [10] (fun i wr=>∃k:Nat,k≤n∧i=.int .i64 (k:Int)∧(∀j,j<k→En.atQ E x y j=false)∧w.grownBy wr none) (fun i _=>40 - (intOf i).toNat)
 case atStart=>exact ⟨0,by omega,rfl,fun j hj=>by omega,World.grownBy.refl _ _⟩
 case round =>
  obtain ⟨k,hk,rfl,hno,hgr⟩:=hrel
  have hno':=hide hno
  have hgr':=hide hgr
  clear hno hgr
  by_cases hlt:k<n
  ·obtain ⟨u0,u1,u2,u3,u4,u5,u6,u7,u8,u9,u10⟩:=((uh hE').on (uh hgr')).row hlt
   have hlt':(k:Int)<(n:Int):=by omega
   have HL:=hide hlt
   clear hlt
   go_wp2_with fail
   refine (isFree_any (E k) _).mono ?_
   rintro e w1 ⟨rfl,hg0⟩
   have hg1:=gtr (uh hgr') (gtr (World.grownBy_alloc _ _ _) hg0)
   have hgr1:=hide hg1
   clear u0 u1 u2 u3 u4 u5 u6 u7 u8 u9 u10 hg0
   by_cases hf:E k 0=0
   ·have hq:Hid (En.atQ E x y k=false):=En.atQ_free hf
    rw [decide_eq_true hf]
    clear hf hg1
    go_wp2
    go_roundw
    case rel=>exact ⟨k+1,by have:=uh HL;omega,by go_num,fun j hj=>by
     by_cases e:j=k
     ·rw [e];exact uh hq
     ·exact uh hno' j (by omega),uh hgr1⟩
    case measure=>simp [intOf];omega
   ·have hq:Hid (En.atQ E x y k=(decide (E k 3=x) && decide (E k 4=y))):=En.atQ_some hf
    have hf0:=hide hf
    rw [decide_eq_false hf]
    have cdk:=hide (uh cd w1 hg1 k (uh HL))
    obtain ⟨r,hr⟩:∃r:Bool,r=(decide (E k 3=x) && decide (E k 4=y)):=⟨_,rfl⟩
    rw [←hr] at cdk hq
    clear hf hg1 hr
    go_wp2_with fail
    refine (uh cdk).mono ?_
    rintro e w2 ⟨rfl,hg2⟩
    have hgr2:=hide (gtr (uh hgr1) hg2)
    clear hg2 cdk
    cases r
    ·go_wp2
     go_roundw
     case rel=>exact ⟨k+1,by have:=uh HL;omega,by go_num,fun j hj=>by
      by_cases e:j=k
      ·rw [e];exact uh hq
      ·exact uh hno' j (by omega),uh hgr2⟩
     case measure=>simp [intOf];omega
    ·have he:=hide (En.first_hit (uh hno') (uh hq) (uh HL))
     go_wp2
     go_ret
     exact ⟨rti (uh he).symm,uh hgr2⟩
  ·have hge:¬(k:Int)<(n:Int):=by omega
   have he:=hide (En.first_none (n:=n) (fun j hj=>uh hno' j (by omega)))
   go_wp2
   go_ret
   exact ⟨rti (uh he).symm,uh hgr'⟩

set_option maxHeartbeats 1600000 in
theorem lowHero_any (b n c p0 p1:Nat) (E:Nat→Nat→Int) (seat:Int) (w:World) (hE:Ents w b n E) (hc:n≤c) (hp0:w.cell? ⟨p0,0,none⟩=some (.slice (some ⟨b,0,none⟩) n c)) (hp1:w.cell? ⟨p1,0,none⟩=some (.int .i64 seat)) (hl0:p0<w.heap.size) (hl1:p1<w.heap.size) :
  Calls Tryz.prog 123 #[.slice (some ⟨b,0,none⟩) n c,.func (.func 125) #[] #[.pointer (some ⟨p0,0,none⟩),.pointer (some ⟨p1,0,none⟩)]] w (Says w (.int .i64 (En.first (En.heroQ E seat) n))):=by
 have hn:=hE.1
 have cd:Hid (∀wx,w.grownBy wx none→∀k:Nat,k<n→Calls Tryz.prog 125 #[.int .i64 (k:Int),.pointer (some ⟨p0,0,none⟩),.pointer (some ⟨p1,0,none⟩)] wx (Says wx (.bool (decide (E k 0=1) && decide (E k 2=seat))))):=fun wx hg k hk =>
  heroC_any b n c p0 p1 k E seat wx (hE.on hg) hk ((gce hg p0 0 hl0 (by simp)).trans hp0) ((gce hg p1 0 hl1 (by simp)).trans hp1)
 have hE':=hide hE
 clear hE hp0 hl0 hp1 hl1
 go_enter Tryz.func123,Tryz.ntmps123
 go_wp2_with (go_at_call 128;refine (rows_any _ _ _ _ hn hc).mono ?_;rintro e w' ⟨rfl,hw⟩;subst w')
 go_loopw [10] (fun i wr=>∃k:Nat,k≤n∧i=.int .i64 (k:Int)∧(∀j,j<k→En.heroQ E seat j=false)∧w.grownBy wr none) (fun i _=>40 - (intOf i).toNat)
 case atStart=>exact ⟨0,by omega,rfl,fun j hj=>by omega,World.grownBy.refl _ _⟩
 case round =>
  obtain ⟨k,hk,rfl,hno,hgr⟩:=hrel
  have hno':=hide hno
  have hgr':=hide hgr
  clear hno hgr
  by_cases hlt:k<n
  ·obtain ⟨u0,u1,u2,u3,u4,u5,u6,u7,u8,u9,u10⟩:=((uh hE').on (uh hgr')).row hlt
   have hlt':(k:Int)<(n:Int):=by omega
   have HL:=hide hlt
   clear hlt
   go_wp2_with fail
   refine (isFree_any (E k) _).mono ?_
   rintro e w1 ⟨rfl,hg0⟩
   have hg1:=gtr (uh hgr') (gtr (World.grownBy_alloc _ _ _) hg0)
   have hgr1:=hide hg1
   clear u0 u1 u2 u3 u4 u5 u6 u7 u8 u9 u10 hg0
   by_cases hf:E k 0=0
   ·have hq:Hid (En.heroQ E seat k=false):=En.heroQ_free hf
    rw [decide_eq_true hf]
    clear hf hg1
    go_wp2
    go_roundw
    case rel=>exact ⟨k+1,by have:=uh HL;omega,by go_num,fun j hj=>by
     by_cases e:j=k
     ·rw [e];exact uh hq
     ·exact uh hno' j (by omega),uh hgr1⟩
    case measure=>simp [intOf];omega
   ·have hq:Hid (En.heroQ E seat k=(decide (E k 0=1) && decide (E k 2=seat))):=En.heroQ_some hf
    have hf0:=hide hf
    rw [decide_eq_false hf]
    have cdk:=hide (uh cd w1 hg1 k (uh HL))
    obtain ⟨r,hr⟩:∃r:Bool,r=(decide (E k 0=1) && decide (E k 2=seat)):=⟨_,rfl⟩
    rw [←hr] at cdk hq
    clear hf hg1 hr
    go_wp2_with fail
    refine (uh cdk).mono ?_
    rintro e w2 ⟨rfl,hg2⟩
    have hgr2:=hide (gtr (uh hgr1) hg2)
    clear hg2 cdk
    cases r
    ·go_wp2
     go_roundw
     case rel=>exact ⟨k+1,by have:=uh HL;omega,by go_num,fun j hj=>by
      by_cases e:j=k
      ·rw [e];exact uh hq
      ·exact uh hno' j (by omega),uh hgr2⟩
     case measure=>simp [intOf];omega
    ·have he:=hide (En.first_hit (uh hno') (uh hq) (uh HL))
     go_wp2
     go_ret
     exact ⟨rti (uh he).symm,uh hgr2⟩
  ·have hge:¬(k:Int)<(n:Int):=by omega
   have he:=hide (En.first_none (n:=n) (fun j hj=>uh hno' j (by omega)))
   go_wp2
   go_ret
   exact ⟨rti (uh he).symm,uh hgr'⟩

theorem entAt_any (b n c:Nat) (E:Nat→Nat→Int) (x y:Int) (w:World) (hE:Ents w b n E) (hc:n≤c) :
  Calls Tryz.prog 109 #[.slice (some ⟨b,0,none⟩) n c,.int .i64 x,.int .i64 y] w (Says w (.int .i64 (En.first (En.atQ E x y) n))):=by
 obtain ⟨W,hW⟩:∃W,W=(((w.alloc (.cells #[.slice (some ⟨b,0,none⟩) n c] 27)).alloc (.cells #[.int .i64 x] 3)).alloc (.cells #[.int .i64 y] 3)):=⟨_,rfl⟩
 have hg:w.grownBy W none:=by
  rw [hW]
  repeat (refine gal ?_ _)
  exact World.grownBy.refl _ _
 have hs:W.heap.size=w.heap.size+3:=by rw [hW];simp
 have q0:W.cell? ⟨w.heap.size,0,none⟩=some (.slice (some ⟨b,0,none⟩) n c):=by rw [hW];exact cell_past _ (by simp;omega) (cell_past _ (by simp) (cell_boxed _ _ _ _ rfl))
 have q1:W.cell? ⟨w.heap.size+1,0,none⟩=some (.int .i64 x):=by rw [hW];exact cell_past _ (by simp) (cell_boxed _ _ _ _ (by simp))
 have q2:W.cell? ⟨w.heap.size+2,0,none⟩=some (.int .i64 y):=by rw [hW];exact cell_boxed _ _ _ _ (by simp)
 have hl:=hide (lowAt_any b n c w.heap.size (w.heap.size+1) (w.heap.size+2) E x y W (hE.on hg) hc q0 q1 q2 (by omega) (by omega) (by omega))
 have hg':=hide hg
 have hW':=hide hW
 clear hE hW hg hs q0 q1 q2
 go_enter Tryz.func109,Tryz.ntmps109
 go_wp2_with fail
 rw [←uh hW']
 refine (uh hl).mono ?_
 rintro e w1 ⟨rfl,hg1⟩
 have hg2:=hide (gtr (uh hg') hg1)
 clear hg1
 go_wp2
 go_ret
 exact ⟨rfl,uh hg2⟩

theorem hero_any (b n c:Nat) (E:Nat→Nat→Int) (seat:Int) (w:World) (hE:Ents w b n E) (hc:n≤c) :
  Calls Tryz.prog 110 #[.slice (some ⟨b,0,none⟩) n c,.int .i64 seat] w (Says w (.int .i64 (En.first (En.heroQ E seat) n))):=by
 obtain ⟨W,hW⟩:∃W,W=((w.alloc (.cells #[.slice (some ⟨b,0,none⟩) n c] 27)).alloc (.cells #[.int .i64 seat] 3)):=⟨_,rfl⟩
 have hg:w.grownBy W none:=by
  rw [hW]
  repeat (refine gal ?_ _)
  exact World.grownBy.refl _ _
 have hs:W.heap.size=w.heap.size+2:=by rw [hW];simp
 have q0:W.cell? ⟨w.heap.size,0,none⟩=some (.slice (some ⟨b,0,none⟩) n c):=by rw [hW];simp
 have q1:W.cell? ⟨w.heap.size+1,0,none⟩=some (.int .i64 seat):=by rw [hW];simp
 have hl:=hide (lowHero_any b n c w.heap.size (w.heap.size+1) E seat W (hE.on hg) hc q0 q1 (by omega) (by omega))
 have hg':=hide hg
 have hW':=hide hW
 clear hE hW hg hs q0 q1
 go_enter Tryz.func110,Tryz.ntmps110
 go_wp2_with fail
 rw [←uh hW']
 refine (uh hl).mono ?_
 rintro e w1 ⟨rfl,hg1⟩
 have hg2:=hide (gtr (uh hg') hg1)
 clear hg1
 go_wp2
 go_ret
 exact ⟨rfl,uh hg2⟩

set_option maxHeartbeats 800000 in
theorem entRefAt_same (b n c:Nat) (E:Nat→Nat→Int) (x y:Int) (w:World) (hE:Ents w b n E) :
  Calls Tryz.prog 66 #[.slice (some ⟨b,0,none⟩) n c,.int .i64 x,.int .i64 y] w fun e w'=>e=.returned (.int .i64 (En.first (En.atQ E x y) n))∧w'=w:=by
 have hn:=hE.1
 have hE':=hide hE
 skip
 clear hE
 go_enter Tryz.func66,Tryz.ntmps66
 go_wp2_with fail
 go_loop [7] (fun i=>∃k:Nat,k≤n∧i=.int .i64 (k:Int)∧∀j,j<k→En.atQ E x y j=false) (fun i=>40 - (intOf i).toNat)
 case atStart=>exact ⟨0,by omega,rfl,fun j hj=>by omega⟩
 case round =>
  obtain ⟨k,hk,rfl,hno⟩:=hrel
  have hno':=hide hno
  clear hno
  by_cases hlt:k<n
  ·obtain ⟨u0,_,_,u3,u4,_⟩:=(uh hE').row hlt
   have hlt':(k:Int)<(n:Int):=by omega
   have HL:=hide hlt
   skip
   clear hlt
   by_cases hf:E k 0=0
   ·have hq:Hid (En.atQ E x y k=false):=En.atQ_free hf
    go_wp2
    go_round
    case rel=>exact ⟨k+1,by have:=uh HL;omega,by go_num,fun j hj=>by
     by_cases e:j=k
     ·rw [e];exact uh hq
     ·exact uh hno' j (by omega)⟩
    case measure=>simp [intOf];omega
   ·have hf':(E k 0 == 0)=false:=by simp [hf]
    by_cases h3:E k 3=x
    ·by_cases h4:E k 4=y
     ·have hq:Hid (En.atQ E x y k=true):=by show En.atQ E x y k=true;rw [En.atQ_some hf];simp [h3,h4]
      have he:=hide (En.first_hit (uh hno') (uh hq) (uh HL))
      go_wp2
      go_ret
      exact ⟨rti (uh he).symm,rfl⟩
     ·have hq:Hid (En.atQ E x y k=false):=by show En.atQ E x y k=false;rw [En.atQ_some hf];simp [h4]
      have h4':(E k 4 == y)=false:=by simp [h4]
      go_wp2
      go_round
      case rel=>exact ⟨k+1,by have:=uh HL;omega,by go_num,fun j hj=>by
       by_cases e:j=k
       ·rw [e];exact uh hq
       ·exact uh hno' j (by omega)⟩
      case measure=>simp [intOf];omega
    ·have hq:Hid (En.atQ E x y k=false):=by show En.atQ E x y k=false;rw [En.atQ_some hf];simp [h3]
     have h3':(E k 3 == x)=false:=by simp [h3]
     go_wp2
     go_round
     case rel=>exact ⟨k+1,by have:=uh HL;omega,by go_num,fun j hj=>by
      by_cases e:j=k
      ·rw [e];exact uh hq
      ·exact uh hno' j (by omega)⟩
     case measure=>simp [intOf];omega
  ·have hge:¬(k:Int)<(n:Int):=by omega
   have he:=hide (En.first_none (n:=n) (fun j hj=>uh hno' j (by omega)))
   go_wp2
   go_ret
   exact ⟨rti (uh he).symm,rfl⟩

theorem entRefAt_any (b n c:Nat) (E:Nat→Nat→Int) (x y:Int) (w:World) (hE:Ents w b n E) :
  Calls Tryz.prog 66 #[.slice (some ⟨b,0,none⟩) n c,.int .i64 x,.int .i64 y] w (Says w (.int .i64 (En.first (En.atQ E x y) n))) :=
 (entRefAt_same b n c E x y w hE).mono fun _ _ ⟨h1,h2⟩=>⟨h1,by rw [h2];exact World.grownBy.refl _ _⟩

end Go.Proofs.YtkcooekhigmioaaGreat

namespace Go.Proofs.YtkcooekhigmioaaGreat

def Sn.bt (v:Int) (k:Nat):Int:=v / 256 ^ k % 256

def Sn.num (n:Nat) (v:Int):List Int:=(List.range n).map fun j=>Sn.bt v (n - 1 - j)

def Sn.be (l:List Int):Int:=l.foldl (fun a b=>a*256+b) 0

theorem Sn.be_more (l:List Int) (b:Int):Sn.be (l ++ [b])=Sn.be l*256+b:=by
 unfold Sn.be
 rw [List.foldl_append]
 rfl

theorem Sn.num_len (n:Nat) (v:Int):(Sn.num n v).length=n:=by simp [Sn.num]

theorem Sn.bt_down (v:Int) (k:Nat):Sn.bt v (k+1)=Sn.bt (v / 256) k:=by
 unfold Sn.bt
 rw [Int.pow_succ,Int.mul_comm,Int.ediv_ediv_of_nonneg (by omega)]

theorem Sn.num_more (n:Nat) (v:Int):Sn.num (n+1) v=Sn.num n (v / 256) ++ [v % 256]:=by
 unfold Sn.num
 rw [List.range_succ,List.map_append]
 congr 1
 ·refine List.map_congr_left fun j hj=>?_
  have hj':j<n:=List.mem_range.1 hj
  rw [show n+1 - 1 - j=(n - 1 - j)+1 by omega,Sn.bt_down]
 ·simp [Sn.bt]

theorem Sn.be_num:∀(n:Nat) (v:Int),0≤v→v<256 ^ n→Sn.be (Sn.num n v)=v
 | 0,v,h0,h1=>by
  have:v<1:=by simpa using h1
  have hv:v=0:=by omega
  subst hv
  rfl
 | n+1,v,h0,h1=>by
  have hlt:v / 256<256 ^ n:=by
   rw [Int.pow_succ] at h1
   exact Int.ediv_lt_of_lt_mul (by omega) h1
  rw [Sn.num_more,Sn.be_more,Sn.be_num n (v / 256) (by omega) hlt]
  omega

theorem Sn.num_byte (n:Nat) (v:Int):∀b∈Sn.num n v,0≤b∧b≤255:=by
 intro b hb
 unfold Sn.num at hb
 obtain ⟨j,_,rfl⟩:=List.mem_map.1 hb
 unfold Sn.bt
 omega

def Sn.rows (k m:Nat) (f:Nat→Nat→Int):List Int:=(List.range k).flatMap fun i=>(List.range m).map fun j=>f i j % 256

theorem Sn.rows_more (k m:Nat) (f:Nat→Nat→Int):Sn.rows (k+1) m f=Sn.rows k m f ++ (List.range m).map fun j=>f k j % 256:=by
 unfold Sn.rows
 rw [List.range_succ,List.flatMap_append]
 simp

theorem Sn.rows_len (m:Nat) (f:Nat→Nat→Int):∀k,(Sn.rows k m f).length=k*m
 | 0=>by simp [Sn.rows]
 | k+1=>by
  rw [Sn.rows_more,List.length_append,Sn.rows_len m f k]
  simp [Nat.succ_mul]

theorem Sn.rows_at {m:Nat} {f:Nat→Nat→Int}:∀{k i j:Nat},i<k→j<m→(Sn.rows k m f)[i*m+j]?=some (f i j % 256)
 | 0,_,_,h,_=>absurd h (by omega)
 | k+1,i,j,hi,hj=>by
  rw [Sn.rows_more]
  by_cases e:i<k
  ·have hlt:i*m+j<k*m:=by
    have:(i+1)*m≤k*m:=Nat.mul_le_mul_right m e
    rw [Nat.succ_mul] at this
    omega
   rw [List.getElem?_append_left (by rw [Sn.rows_len];exact hlt),Sn.rows_at e hj]
  ·obtain rfl:i=k:=by omega
   rw [List.getElem?_append_right (by rw [Sn.rows_len];omega),Sn.rows_len,show i*m+j - i*m=j by omega,List.getElem?_map,List.getElem?_range hj]
   rfl

theorem Sn.rows_byte (k m:Nat) (f:Nat→Nat→Int):∀b∈Sn.rows k m f,0≤b∧b≤255:=by
 intro b hb
 unfold Sn.rows at hb
 obtain ⟨i,_,hb⟩:=List.mem_flatMap.1 hb
 obtain ⟨j,_,rfl⟩:=List.mem_map.1 hb
 omega

def Sn.golds (k:Nat) (g:Nat→Int):List Int:=(List.range k).flatMap fun t=>Sn.num 2 (g t % 18446744073709551616)

theorem Sn.golds_more (k:Nat) (g:Nat→Int):Sn.golds (k+1) g=Sn.golds k g ++ Sn.num 2 (g k % 18446744073709551616):=by
 unfold Sn.golds
 rw [List.range_succ,List.flatMap_append]
 simp

theorem Sn.golds_len (g:Nat→Int):∀k,(Sn.golds k g).length=k*2
 | 0=>by simp [Sn.golds]
 | k+1=>by
  rw [Sn.golds_more,List.length_append,Sn.golds_len g k,Sn.num_len]
  omega

def Sn.head (s:Nat→Int):List Int:=Sn.num 8 (s 0 % 18446744073709551616) ++ Sn.num 4 (s 1 % 18446744073709551616) ++ [s 2 % 256,s 3 % 256]

theorem Sn.head_len (s:Nat→Int):(Sn.head s).length=14:=by
 unfold Sn.head
 simp [Sn.num_len]

def Sn.bytes (s g c:Nat→Int) (E I:Nat→Nat→Int):List Int:=Sn.head s ++ Sn.golds 4 g ++ (List.range 384).map c ++ Sn.rows 32 11 E ++ Sn.rows 40 4 I

theorem Sn.bytes_len (s g c:Nat→Int) (E I:Nat→Nat→Int):(Sn.bytes s g c E I).length=918:=by
 unfold Sn.bytes
 simp only [List.length_append,Sn.head_len,Sn.golds_len,Sn.rows_len,List.length_map,List.length_range]

theorem Sn.golds_byte (k:Nat) (g:Nat→Int):∀b∈Sn.golds k g,0≤b∧b≤255:=by
 intro b hb
 unfold Sn.golds at hb
 obtain ⟨i,_,hb⟩:=List.mem_flatMap.1 hb
 exact Sn.num_byte _ _ b hb

theorem Sn.head_byte (s:Nat→Int):∀b∈Sn.head s,0≤b∧b≤255:=by
 intro b hb
 unfold Sn.head at hb
 simp only [List.mem_append,List.mem_cons,List.not_mem_nil,or_false] at hb
 rcases hb with (hb | hb) | rfl | rfl
 ·exact Sn.num_byte _ _ b hb
 ·exact Sn.num_byte _ _ b hb
 ·omega
 ·omega

theorem Sn.bytes_byte (s g c:Nat→Int) (E I:Nat→Nat→Int) (hc:∀i,0≤c i∧c i≤255):∀b∈Sn.bytes s g c E I,0≤b∧b≤255:=by
 intro b hb
 unfold Sn.bytes at hb
 simp only [List.mem_append] at hb
 rcases hb with (((hb | hb) | hb) | hb) | hb
 ·exact Sn.head_byte _ b hb
 ·exact Sn.golds_byte _ _ b hb
 ·obtain ⟨i,_,rfl⟩:=List.mem_map.1 hb
  exact hc i
 ·exact Sn.rows_byte _ _ _ b hb
 ·exact Sn.rows_byte _ _ _ b hb

theorem Sn.len14 (s g:Nat→Int):(Sn.head s ++ Sn.golds 4 g).length=22:=by rw [List.length_append,Sn.head_len,Sn.golds_len]

theorem Sn.len22 (s g c:Nat→Int):(Sn.head s ++ Sn.golds 4 g ++ (List.range 384).map c).length=406:=by rw [List.length_append,Sn.len14,List.length_map,List.length_range]

theorem Sn.len406 (s g c:Nat→Int) (E:Nat→Nat→Int):(Sn.head s ++ Sn.golds 4 g ++ (List.range 384).map c ++ Sn.rows 32 11 E).length=758:=by rw [List.length_append,Sn.len22,Sn.rows_len]

theorem Sn.bytes_item (s g c:Nat→Int) (E I:Nat→Nat→Int) {i j:Nat} (hi:i<40) (hj:j<4):(Sn.bytes s g c E I)[758+(i*4+j)]?=some (I i j % 256):=by
 unfold Sn.bytes
 rw [List.getElem?_append_right (by rw [Sn.len406];omega),Sn.len406,show 758+(i*4+j) - 758=i*4+j by omega]
 exact Sn.rows_at hi hj

theorem Sn.bytes_ent (s g c:Nat→Int) (E I:Nat→Nat→Int) {i j:Nat} (hi:i<32) (hj:j<11):(Sn.bytes s g c E I)[406+(i*11+j)]?=some (E i j % 256):=by
 unfold Sn.bytes
 have hlt:i*11+j<352:=by omega
 rw [List.getElem?_append_left (by rw [Sn.len406];omega),List.getElem?_append_right (by rw [Sn.len22];omega),Sn.len22,show 406+(i*11+j) - 406=i*11+j by omega]
 exact Sn.rows_at hi hj

theorem Sn.bytes_low (s g c:Nat→Int) (E I:Nat→Nat→Int) {k:Nat} (hk:k<406):(Sn.bytes s g c E I)[k]?=(Sn.head s ++ Sn.golds 4 g ++ (List.range 384).map c)[k]?:=by
 unfold Sn.bytes
 rw [List.getElem?_append_left (by rw [Sn.len406];omega),List.getElem?_append_left (by rw [Sn.len22];omega)]

theorem Sn.bytes_cell (s g c:Nat→Int) (E I:Nat→Nat→Int) {i:Nat} (hi:i<384):(Sn.bytes s g c E I)[22+i]?=some (c i):=by
 rw [Sn.bytes_low s g c E I (by omega),List.getElem?_append_right (by rw [Sn.len14];omega),Sn.len14,show 22+i - 22=i by omega,List.getElem?_map,List.getElem?_range hi]
 rfl

theorem Sn.bytes_gold (s g c:Nat→Int) (E I:Nat→Nat→Int) {t j:Nat} (ht:t<4) (hj:j<2):(Sn.bytes s g c E I)[14+2*t+j]?=(Sn.num 2 (g t % 18446744073709551616))[j]?:=by
 rw [Sn.bytes_low s g c E I (by omega),List.getElem?_append_left (by rw [Sn.len14];omega),List.getElem?_append_right (by rw [Sn.head_len];omega),Sn.head_len,show 14+2*t+j - 14=2*t+j by omega]
 have hg:∀k,t<k→(Sn.golds k g)[2*t+j]?=(Sn.num 2 (g t % 18446744073709551616))[j]?:=by
  intro k
  induction k with
  | zero=>intro h;omega
  | succ k ih =>
   intro h
   rw [Sn.golds_more]
   by_cases e:t<k
   ·rw [List.getElem?_append_left (by rw [Sn.golds_len];omega),ih e]
   ·obtain rfl:t=k:=by omega
    rw [List.getElem?_append_right (by rw [Sn.golds_len];omega),Sn.golds_len,show 2*t+j - t*2=j by omega]
 exact hg 4 ht

theorem Sn.bytes_head (s g c:Nat→Int) (E I:Nat→Nat→Int) {k:Nat} (hk:k<14):(Sn.bytes s g c E I)[k]?=(Sn.head s)[k]?:=by
 rw [Sn.bytes_low s g c E I (by omega),List.getElem?_append_left (by rw [Sn.len14];omega),List.getElem?_append_left (by rw [Sn.head_len];omega)]

def Sn.cut (F:Nat→Int) (at_ n:Nat):List Int:=(List.range n).map fun j=>F (at_+j)

theorem Sn.cut_more (F:Nat→Int) (at_ n:Nat):Sn.cut F at_ (n+1)=Sn.cut F at_ n ++ [F (at_+n)]:=by
 unfold Sn.cut
 rw [List.range_succ,List.map_append]
 rfl

theorem Sn.cut_is {F:Nat→Int} {at_ n:Nat} {l:List Int} (hl:l.length=n) (h:∀j,j<n→some (F (at_+j))=l[j]?):Sn.cut F at_ n=l:=by
 refine List.ext_getElem? fun j=>?_
 unfold Sn.cut
 rw [List.getElem?_map]
 by_cases hj:j<n
 ·rw [List.getElem?_range hj]
  exact h j hj
 ·rw [List.getElem?_eq_none (by simp;omega),List.getElem?_eq_none (by omega)]
  rfl

theorem Sn.be_bound:∀(n:Nat) (F:Nat→Int) (at_:Nat),(∀j,j<n→0≤F (at_+j)∧F (at_+j)≤255)→0≤Sn.be (Sn.cut F at_ n)∧Sn.be (Sn.cut F at_ n)<256 ^ n
 | 0,F,a,_=>by simp [Sn.cut,Sn.be]
 | n+1,F,a,h=>by
  obtain ⟨h0,h1⟩:=Sn.be_bound n F a (fun j hj=>h j (by omega))
  have hb:=h n (by omega)
  rw [Sn.cut_more,Sn.be_more,Int.pow_succ]
  omega

def Sn.rs (F:Nat→Int):Nat→Int
 | 0=>if Sn.be (Sn.cut F 0 8)<9223372036854775808 then Sn.be (Sn.cut F 0 8) else Sn.be (Sn.cut F 0 8) - 18446744073709551616
 | 1=>Sn.be (Sn.cut F 8 4)
 | 2=>F 12
 | _=>F 13

def Sn.rg (F:Nat→Int) (t:Nat):Int:=Sn.be (Sn.cut F (14+2*t) 2)
def Sn.rc (F:Nat→Int) (i:Nat):Int:=F (22+i)
def Sn.rE (F:Nat→Int) (i j:Nat):Int:=F (406+(i*11+j))
def Sn.rI (F:Nat→Int) (i j:Nat):Int:=F (758+(i*4+j))

def Sn.fn (l:List Int) (k:Nat):Int:=l[k]?.getD 0

theorem Sn.fn_at {l:List Int} {k:Nat} (hk:k<l.length):l[k]?=some (Sn.fn l k):=by
 unfold Sn.fn
 rw [List.getElem?_eq_getElem hk]
 rfl

theorem Sn.back {s g c:Nat→Int} {E I:Nat→Nat→Int} (h0:-9223372036854775808≤s 0∧s 0<9223372036854775808) (h1:0≤s 1∧s 1<4294967296) (h2:0≤s 2∧s 2≤255) (h3:0≤s 3∧s 3≤255) (hg:∀t,t<4→0≤g t∧g t<65536) (hE:∀i j,i<32→j<11→0≤E i j∧E i j≤255) (hI:∀i j,i<40→j<4→0≤I i j∧I i j≤255) :
  (∀k,k<4→Sn.rs (Sn.fn (Sn.bytes s g c E I)) k=s k)∧(∀t,t<4→Sn.rg (Sn.fn (Sn.bytes s g c E I)) t=g t)∧(∀i,i<384→Sn.rc (Sn.fn (Sn.bytes s g c E I)) i=c i)∧(∀i j,i<32→j<11→Sn.rE (Sn.fn (Sn.bytes s g c E I)) i j=E i j)∧(∀i j,i<40→j<4→Sn.rI (Sn.fn (Sn.bytes s g c E I)) i j=I i j):=by
 have hl:=Sn.bytes_len s g c E I
 have hf:∀k,k<918→some (Sn.fn (Sn.bytes s g c E I) k)=(Sn.bytes s g c E I)[k]?:=fun k hk=>(Sn.fn_at (by rw [hl];exact hk)).symm
 have hh:∀k,k<14→some (Sn.fn (Sn.bytes s g c E I) k)=(Sn.head s)[k]?:=fun k hk=>by rw [hf k (by omega),Sn.bytes_head s g c E I hk]
 have l8:∀v,(Sn.num 8 v).length=8:=Sn.num_len 8
 have l4:∀v,(Sn.num 4 v).length=4:=Sn.num_len 4
 refine ⟨fun k hk=>?_,fun t ht=>?_,fun i hi=>?_,fun i j hi hj=>?_,fun i j hi hj=>?_⟩
 ·rcases (show k=0∨k=1∨k=2∨k=3 by omega) with rfl | rfl | rfl | rfl
  ·have e:Sn.cut (Sn.fn (Sn.bytes s g c E I)) 0 8=Sn.num 8 (s 0 % 18446744073709551616):=Sn.cut_is (Sn.num_len _ _) fun j hj=>by
    rw [Nat.zero_add,hh j (by omega)]
    unfold Sn.head
    rw [List.getElem?_append_left (by simp [l8,l4];omega),List.getElem?_append_left (by rw [l8];exact hj)]
   show (if Sn.be (Sn.cut _ 0 8)<9223372036854775808 then _ else _)=_
   rw [e,Sn.be_num 8 _ (by omega) (by omega)]
   split <;> omega
  ·have e:Sn.cut (Sn.fn (Sn.bytes s g c E I)) 8 4=Sn.num 4 (s 1 % 18446744073709551616):=Sn.cut_is (Sn.num_len _ _) fun j hj=>by
    rw [hh (8+j) (by omega)]
    unfold Sn.head
    rw [List.getElem?_append_left (by simp [l8,l4];omega),List.getElem?_append_right (by rw [l8];omega),l8,show 8+j - 8=j by omega]
   show Sn.be (Sn.cut _ 8 4)=_
   rw [e,Sn.be_num 4 _ (by omega) (by omega)]
   omega
  ·have e:=hh 12 (by omega)
   unfold Sn.head at e
   rw [List.getElem?_append_right (by simp [l8,l4])] at e
   simp [l8,l4] at e
   show Sn.fn _ 12=_
   rw [e]
   omega
  ·have e:=hh 13 (by omega)
   unfold Sn.head at e
   rw [List.getElem?_append_right (by simp [l8,l4])] at e
   simp [l8,l4] at e
   show Sn.fn _ 13=_
   rw [e]
   omega
 ·have e:Sn.cut (Sn.fn (Sn.bytes s g c E I)) (14+2*t) 2=Sn.num 2 (g t % 18446744073709551616):=Sn.cut_is (Sn.num_len _ _) fun j hj=>by
   rw [hf _ (by omega),Sn.bytes_gold s g c E I ht hj]
  have hgt:=hg t ht
  show Sn.be (Sn.cut _ (14+2*t) 2)=_
  rw [e,Sn.be_num 2 _ (by omega) (by omega)]
  omega
 ·have e:=hf (22+i) (by omega)
  rw [Sn.bytes_cell s g c E I hi] at e
  exact Option.some.inj e
 ·have e:=hf (406+(i*11+j)) (by omega)
  rw [Sn.bytes_ent s g c E I hi hj] at e
  have:=hE i j hi hj
  have e':=Option.some.inj e
  show Sn.fn _ _=_
  rw [e']
  omega
 ·have e:=hf (758+(i*4+j)) (by omega)
  rw [Sn.bytes_item s g c E I hi hj] at e
  have:=hI i j hi hj
  have e':=Option.some.inj e
  show Sn.fn _ _=_
  rw [e']
  omega

end Go.Proofs.YtkcooekhigmioaaGreat
