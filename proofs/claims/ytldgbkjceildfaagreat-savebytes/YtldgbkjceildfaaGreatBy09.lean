import Derived.Test.YtldgbkjceildfaaGreatBy07
namespace Go.Proofs.YtldgbkjceildfaaGreat
open Go.RowKit

theorem En.atQ_free {E:Nat→Nat→Int} {x y:Int} {k:Nat} (h:E k 0=0):En.atQ E x y k=false:=by simp [En.atQ,h]
theorem En.atQ_some {E:Nat→Nat→Int} {x y:Int} {k:Nat} (h:¬E k 0=0):En.atQ E x y k=(decide (E k 3=x) && decide (E k 4=y)):=by simp [En.atQ,h]
theorem En.heroQ_free {E:Nat→Nat→Int} {s:Int} {k:Nat} (h:E k 0=0):En.heroQ E s k=false:=by simp [En.heroQ,h]
theorem En.heroQ_some {E:Nat→Nat→Int} {s:Int} {k:Nat} (_:¬E k 0=0):En.heroQ E s k=(decide (E k 0=1) && decide (E k 2=s)):=rfl
theorem En.ofQ_free {E:Nat→Nat→Int} {id:Int} {k:Nat} (h:E k 0=0):En.ofQ E id k=false:=by simp [En.ofQ,h]
theorem En.ofQ_some {E:Nat→Nat→Int} {id:Int} {k:Nat} (h:¬E k 0=0):En.ofQ E id k=decide ((k:Int)+32*E k 1=id):=by simp [En.ofQ,h]

set_option maxHeartbeats 1600000 in
theorem lowAt_any (b n c p0 p1 p2:Nat) (E:Nat→Nat→Int) (x y:Int) (w:World) (hE:Ents w b n E) (hc:n≤c) (hp0:w.cell? ⟨p0,0,none⟩=some (.slice (some ⟨b,0,none⟩) n c)) (hp1:w.cell? ⟨p1,0,none⟩=some (.int .i64 x)) (hp2:w.cell? ⟨p2,0,none⟩=some (.int .i64 y)) (hl0:p0<w.heap.size) (hl1:p1<w.heap.size) (hl2:p2<w.heap.size) :
  Calls Tryz.prog 125 #[.slice (some ⟨b,0,none⟩) n c,.func (.func 126) #[] #[.pointer (some ⟨p0,0,none⟩),.pointer (some ⟨p1,0,none⟩),.pointer (some ⟨p2,0,none⟩)]] w (Says w (.int .i64 (En.first (En.atQ E x y) n))):=by
 have hn:=hE.1;have cd:Hid (∀wx,w.grownBy wx none→∀k:Nat,k<n→Calls Tryz.prog 126 #[.int .i64 (k:Int),.pointer (some ⟨p0,0,none⟩),.pointer (some ⟨p1,0,none⟩),.pointer (some ⟨p2,0,none⟩)] wx (Says wx (.bool (decide (E k 3=x) && decide (E k 4=y))))):=fun wx hg k hk =>
  atC_any b n c p0 p1 p2 k E x y wx (hE.on hg) hk ((gce hg p0 0 hl0 (by simp)).trans hp0) ((gce hg p1 0 hl1 (by simp)).trans hp1) ((gce hg p2 0 hl2 (by simp)).trans hp2)
 have hE':=hide hE;clear hE hp0 hl0 hp1 hl1 hp2 hl2;go_enter Tryz.func125,Tryz.ntmps125;go_wp2_with (go_at_call 128;refine (rows_any _ _ _ _ hn hc).mono ?_;rintro e w' ⟨rfl,hw⟩;subst w')
 go_loopw [10] (fun i wr=>∃k:Nat,k≤n∧i=.int .i64 (k:Int)∧(∀j,j<k→En.atQ E x y j=false)∧w.grownBy wr none) (fun i _=>40 - (intOf i).toNat)
 case atStart=>exact ⟨0,by omega,rfl,fun j hj=>by omega,World.grownBy.refl _ _⟩
 case round =>
  obtain ⟨k,hk,rfl,hno,hgr⟩:=hrel;have hno':=hide hno;have hgr':=hide hgr;clear hno hgr;by_cases hlt:k<n
  ·obtain ⟨u0,u1,u2,u3,u4,u5,u6,u7,u8,u9,u10⟩:=((uh hE').on (uh hgr')).row hlt;have hlt':(k:Int)<(n:Int):=by omega
   have HL:=hide hlt;clear hlt;go_wp2_with fail;refine (isFree_any (E k) _).mono ?_;rintro e w1 ⟨rfl,hg0⟩;have hg1:=gtr (uh hgr') (gtr (World.grownBy_alloc _ _ _) hg0);have hgr1:=hide hg1;clear u0 u1 u2 u3 u4 u5 u6 u7 u8 u9 u10 hg0;by_cases hf:E k 0=0
   ·have hq:Hid (En.atQ E x y k=false):=En.atQ_free hf;rw [decide_eq_true hf];clear hf hg1;go_wp2;go_roundw;case rel=>exact ⟨k+1,by have:=uh HL;omega,by go_num,fun j hj=>by
     by_cases e:j=k
     ·rw [e];exact uh hq
     ·exact uh hno' j (by omega),uh hgr1⟩
    case measure=>simp [intOf];omega
   ·have hq:Hid (En.atQ E x y k=(decide (E k 3=x) && decide (E k 4=y))):=En.atQ_some hf;have hf0:=hide hf;rw [decide_eq_false hf];have cdk:=hide (uh cd w1 hg1 k (uh HL));obtain ⟨r,hr⟩:∃r:Bool,r=(decide (E k 3=x) && decide (E k 4=y)):=⟨_,rfl⟩;rw [←hr] at cdk hq;clear hf hg1 hr;go_wp2_with fail;refine (uh cdk).mono ?_;rintro e w2 ⟨rfl,hg2⟩;have hgr2:=hide (gtr (uh hgr1) hg2);clear hg2 cdk;cases r
    ·go_wp2;go_roundw;case rel=>exact ⟨k+1,by have:=uh HL;omega,by go_num,fun j hj=>by
      by_cases e:j=k
      ·rw [e];exact uh hq
      ·exact uh hno' j (by omega),uh hgr2⟩
     case measure=>simp [intOf];omega
    ·have he:=hide (En.first_hit (uh hno') (uh hq) (uh HL));go_wp2;go_ret;exact ⟨rti (uh he).symm,uh hgr2⟩
  ·have hge:¬(k:Int)<(n:Int):=by omega
   have he:=hide (En.first_none (n:=n) (fun j hj=>uh hno' j (by omega)));go_wp2;go_ret;exact ⟨rti (uh he).symm,uh hgr'⟩

set_option maxHeartbeats 1600000 in
theorem lowHero_any (b n c p0 p1:Nat) (E:Nat→Nat→Int) (seat:Int) (w:World) (hE:Ents w b n E) (hc:n≤c) (hp0:w.cell? ⟨p0,0,none⟩=some (.slice (some ⟨b,0,none⟩) n c)) (hp1:w.cell? ⟨p1,0,none⟩=some (.int .i64 seat)) (hl0:p0<w.heap.size) (hl1:p1<w.heap.size) :
  Calls Tryz.prog 125 #[.slice (some ⟨b,0,none⟩) n c,.func (.func 127) #[] #[.pointer (some ⟨p0,0,none⟩),.pointer (some ⟨p1,0,none⟩)]] w (Says w (.int .i64 (En.first (En.heroQ E seat) n))):=by
 have hn:=hE.1;have cd:Hid (∀wx,w.grownBy wx none→∀k:Nat,k<n→Calls Tryz.prog 127 #[.int .i64 (k:Int),.pointer (some ⟨p0,0,none⟩),.pointer (some ⟨p1,0,none⟩)] wx (Says wx (.bool (decide (E k 0=1) && decide (E k 2=seat))))):=fun wx hg k hk =>
  heroC_any b n c p0 p1 k E seat wx (hE.on hg) hk ((gce hg p0 0 hl0 (by simp)).trans hp0) ((gce hg p1 0 hl1 (by simp)).trans hp1)
 have hE':=hide hE;clear hE hp0 hl0 hp1 hl1;go_enter Tryz.func125,Tryz.ntmps125;go_wp2_with (go_at_call 128;refine (rows_any _ _ _ _ hn hc).mono ?_;rintro e w' ⟨rfl,hw⟩;subst w')
 go_loopw [10] (fun i wr=>∃k:Nat,k≤n∧i=.int .i64 (k:Int)∧(∀j,j<k→En.heroQ E seat j=false)∧w.grownBy wr none) (fun i _=>40 - (intOf i).toNat)
 case atStart=>exact ⟨0,by omega,rfl,fun j hj=>by omega,World.grownBy.refl _ _⟩
 case round =>
  obtain ⟨k,hk,rfl,hno,hgr⟩:=hrel;have hno':=hide hno;have hgr':=hide hgr;clear hno hgr;by_cases hlt:k<n
  ·obtain ⟨u0,u1,u2,u3,u4,u5,u6,u7,u8,u9,u10⟩:=((uh hE').on (uh hgr')).row hlt;have hlt':(k:Int)<(n:Int):=by omega
   have HL:=hide hlt;clear hlt;go_wp2_with fail;refine (isFree_any (E k) _).mono ?_;rintro e w1 ⟨rfl,hg0⟩;have hg1:=gtr (uh hgr') (gtr (World.grownBy_alloc _ _ _) hg0);have hgr1:=hide hg1;clear u0 u1 u2 u3 u4 u5 u6 u7 u8 u9 u10 hg0;by_cases hf:E k 0=0
   ·have hq:Hid (En.heroQ E seat k=false):=En.heroQ_free hf;rw [decide_eq_true hf];clear hf hg1;go_wp2;go_roundw;case rel=>exact ⟨k+1,by have:=uh HL;omega,by go_num,fun j hj=>by
     by_cases e:j=k
     ·rw [e];exact uh hq
     ·exact uh hno' j (by omega),uh hgr1⟩
    case measure=>simp [intOf];omega
   ·have hq:Hid (En.heroQ E seat k=(decide (E k 0=1) && decide (E k 2=seat))):=En.heroQ_some hf;have hf0:=hide hf;rw [decide_eq_false hf];have cdk:=hide (uh cd w1 hg1 k (uh HL));obtain ⟨r,hr⟩:∃r:Bool,r=(decide (E k 0=1) && decide (E k 2=seat)):=⟨_,rfl⟩;rw [←hr] at cdk hq;clear hf hg1 hr;go_wp2_with fail;refine (uh cdk).mono ?_;rintro e w2 ⟨rfl,hg2⟩;have hgr2:=hide (gtr (uh hgr1) hg2);clear hg2 cdk;cases r
    ·go_wp2;go_roundw;case rel=>exact ⟨k+1,by have:=uh HL;omega,by go_num,fun j hj=>by
      by_cases e:j=k
      ·rw [e];exact uh hq
      ·exact uh hno' j (by omega),uh hgr2⟩
     case measure=>simp [intOf];omega
    ·have he:=hide (En.first_hit (uh hno') (uh hq) (uh HL));go_wp2;go_ret;exact ⟨rti (uh he).symm,uh hgr2⟩
  ·have hge:¬(k:Int)<(n:Int):=by omega
   have he:=hide (En.first_none (n:=n) (fun j hj=>uh hno' j (by omega)));go_wp2;go_ret;exact ⟨rti (uh he).symm,uh hgr'⟩

theorem entAt_any (b n c:Nat) (E:Nat→Nat→Int) (x y:Int) (w:World) (hE:Ents w b n E) (hc:n≤c) :
  Calls Tryz.prog 118 #[.slice (some ⟨b,0,none⟩) n c,.int .i64 x,.int .i64 y] w (Says w (.int .i64 (En.first (En.atQ E x y) n))):=by
 obtain ⟨W,hW⟩:∃W,W=(((w.alloc (.cells #[.slice (some ⟨b,0,none⟩) n c] 26)).alloc (.cells #[.int .i64 x] 3)).alloc (.cells #[.int .i64 y] 3)):=⟨_,rfl⟩;have hg:w.grownBy W none:=by
  rw [hW]
  repeat (refine gal ?_ _)
  exact World.grownBy.refl _ _
 have hs:W.heap.size=w.heap.size+3:=by rw [hW];simp
 have q0:W.cell? ⟨w.heap.size,0,none⟩=some (.slice (some ⟨b,0,none⟩) n c):=by rw [hW];exact cell_past _ (by simp;omega) (cell_past _ (by simp) (cell_boxed _ _ _ _ rfl))
 have q1:W.cell? ⟨w.heap.size+1,0,none⟩=some (.int .i64 x):=by rw [hW];exact cell_past _ (by simp) (cell_boxed _ _ _ _ (by simp))
 have q2:W.cell? ⟨w.heap.size+2,0,none⟩=some (.int .i64 y):=by rw [hW];exact cell_boxed _ _ _ _ (by simp)
 have hl:=hide (lowAt_any b n c w.heap.size (w.heap.size+1) (w.heap.size+2) E x y W (hE.on hg) hc q0 q1 q2 (by omega) (by omega) (by omega));have hg':=hide hg;have hW':=hide hW;clear hE hW hg hs q0 q1 q2;go_enter Tryz.func118,Tryz.ntmps118;go_wp2_with fail;rw [←uh hW'];refine (uh hl).mono ?_;rintro e w1 ⟨rfl,hg1⟩;have hg2:=hide (gtr (uh hg') hg1);clear hg1;go_wp2;go_ret;exact ⟨rfl,uh hg2⟩

theorem hero_any (b n c:Nat) (E:Nat→Nat→Int) (seat:Int) (w:World) (hE:Ents w b n E) (hc:n≤c) :
  Calls Tryz.prog 119 #[.slice (some ⟨b,0,none⟩) n c,.int .i64 seat] w (Says w (.int .i64 (En.first (En.heroQ E seat) n))):=by
 obtain ⟨W,hW⟩:∃W,W=((w.alloc (.cells #[.slice (some ⟨b,0,none⟩) n c] 26)).alloc (.cells #[.int .i64 seat] 3)):=⟨_,rfl⟩;have hg:w.grownBy W none:=by
  rw [hW]
  repeat (refine gal ?_ _)
  exact World.grownBy.refl _ _
 have hs:W.heap.size=w.heap.size+2:=by rw [hW];simp
 have q0:W.cell? ⟨w.heap.size,0,none⟩=some (.slice (some ⟨b,0,none⟩) n c):=by rw [hW];simp
 have q1:W.cell? ⟨w.heap.size+1,0,none⟩=some (.int .i64 seat):=by rw [hW];simp
 have hl:=hide (lowHero_any b n c w.heap.size (w.heap.size+1) E seat W (hE.on hg) hc q0 q1 (by omega) (by omega));have hg':=hide hg;have hW':=hide hW;clear hE hW hg hs q0 q1;go_enter Tryz.func119,Tryz.ntmps119;go_wp2_with fail;rw [←uh hW'];refine (uh hl).mono ?_;rintro e w1 ⟨rfl,hg1⟩;have hg2:=hide (gtr (uh hg') hg1);clear hg1;go_wp2;go_ret;exact ⟨rfl,uh hg2⟩

set_option maxHeartbeats 800000 in
theorem entRefAt_same (b n c:Nat) (E:Nat→Nat→Int) (x y:Int) (w:World) (hE:Ents w b n E) :
  Calls Tryz.prog 50 #[.slice (some ⟨b,0,none⟩) n c,.int .i64 x,.int .i64 y] w fun e w'=>e=.returned (.int .i64 (En.first (En.atQ E x y) n))∧w'=w:=by
 have hn:=hE.1;have hE':=hide hE
 skip
 clear hE;go_enter Tryz.func50,Tryz.ntmps50;go_wp2_with fail
 go_loop [7] (fun i=>∃k:Nat,k≤n∧i=.int .i64 (k:Int)∧∀j,j<k→En.atQ E x y j=false) (fun i=>40 - (intOf i).toNat)
 case atStart=>exact ⟨0,by omega,rfl,fun j hj=>by omega⟩
 case round =>
  obtain ⟨k,hk,rfl,hno⟩:=hrel;have hno':=hide hno;clear hno;by_cases hlt:k<n
  ·obtain ⟨u0,_,_,u3,u4,_⟩:=(uh hE').row hlt;have hlt':(k:Int)<(n:Int):=by omega
   have HL:=hide hlt
   skip
   clear hlt;by_cases hf:E k 0=0
   ·have hq:Hid (En.atQ E x y k=false):=En.atQ_free hf;go_wp2;go_round;case rel=>exact ⟨k+1,by have:=uh HL;omega,by go_num,fun j hj=>by
     by_cases e:j=k
     ·rw [e];exact uh hq
     ·exact uh hno' j (by omega)⟩
    case measure=>simp [intOf];omega
   ·have hf':(E k 0 == 0)=false:=by simp [hf]
    by_cases h3:E k 3=x
    ·by_cases h4:E k 4=y
     ·have hq:Hid (En.atQ E x y k=true):=by show En.atQ E x y k=true;rw [En.atQ_some hf];simp [h3,h4]
      have he:=hide (En.first_hit (uh hno') (uh hq) (uh HL));go_wp2;go_ret;exact ⟨rti (uh he).symm,rfl⟩
     ·have hq:Hid (En.atQ E x y k=false):=by show En.atQ E x y k=false;rw [En.atQ_some hf];simp [h4]
      have h4':(E k 4 == y)=false:=by simp [h4]
      go_wp2;go_round;case rel=>exact ⟨k+1,by have:=uh HL;omega,by go_num,fun j hj=>by
       by_cases e:j=k
       ·rw [e];exact uh hq
       ·exact uh hno' j (by omega)⟩
      case measure=>simp [intOf];omega
    ·have hq:Hid (En.atQ E x y k=false):=by show En.atQ E x y k=false;rw [En.atQ_some hf];simp [h3]
     have h3':(E k 3 == x)=false:=by simp [h3]
     go_wp2;go_round;case rel=>exact ⟨k+1,by have:=uh HL;omega,by go_num,fun j hj=>by
      by_cases e:j=k
      ·rw [e];exact uh hq
      ·exact uh hno' j (by omega)⟩
     case measure=>simp [intOf];omega
  ·have hge:¬(k:Int)<(n:Int):=by omega
   have he:=hide (En.first_none (n:=n) (fun j hj=>uh hno' j (by omega)));go_wp2;go_ret;exact ⟨rti (uh he).symm,rfl⟩

theorem entRefAt_any (b n c:Nat) (E:Nat→Nat→Int) (x y:Int) (w:World) (hE:Ents w b n E) :
  Calls Tryz.prog 50 #[.slice (some ⟨b,0,none⟩) n c,.int .i64 x,.int .i64 y] w (Says w (.int .i64 (En.first (En.atQ E x y) n))) :=
 (entRefAt_same b n c E x y w hE).mono fun _ _ ⟨h1,h2⟩=>⟨h1,by rw [h2];exact World.grownBy.refl _ _⟩


open Go.RowKit

def Nv.st (E:Nat→Nat→Int) (n:Nat) (c:Nat):Bool:=decide (0≤En.first (En.atQ E ((c % 24:Nat):Int) ((c / 24:Nat):Int)) n)

theorem Nv.num_at {x y:Int} {c:Nat} (h:Nv.num x y=(c:Int)):x=((c % 24:Nat):Int)∧y=((c / 24:Nat):Int)∧c<384:=by
 unfold Nv.num at h;split at h
 ·rename_i hin;rw [Gr.inB_iff] at hin;omega
 ·omega

theorem Nv.num_of {c:Nat} (hc:c<384):Nv.num ((c % 24:Nat):Int) ((c / 24:Nat):Int)=(c:Int):=by
 unfold Nv.num;rw [if_pos (by rw [Gr.inB_iff];omega)];omega

def Nv.Lst (w:World) (a:Option Addr) (n c:Nat) (E:Nat→Nat→Int):Prop:=n≤32∧n≤c∧(n=0∨∃b,a=some ⟨b,0,none⟩∧Ents w b n E)

def Nv.Words (n:Nat) (E:Nat→Nat→Int):Prop:=∀i,i<n→(-9223372036854775808≤E i 3∧E i 3≤9223372036854775807)∧(-9223372036854775808≤E i 4∧E i 4≤9223372036854775807)

theorem info_bools:(Tryz.prog.info? 4).map (fun i=>(i.zero,i.size,i.bytes))=some (some (.bool false),1,1):=by kernel_rfl


open Go.RowKit

def Nv.blk (E:Nat→Nat→Int) (n m:Nat) (c:Nat):Bool:=if c=m then false else Nv.st E n c

def Nv.wayFrom (q:Nat→Bool):Nat→Nat→Int
 | 0,_=>0
 | m+1,k=>if q k=true then (k:Int) else Nv.wayFrom q m (k+1)

theorem Nv.way_hit {q:Nat→Bool}:∀(m k i:Nat),(∀j,i≤j→j<k→q j=false)→q k=true→i≤k→k<i+m→Nv.wayFrom q m i=(k:Int)
  | 0,k,i,_,_,h1,h2=>by omega
  | m + 1, k, i, hno, hk, h1, h2 => by
      unfold Nv.wayFrom
      by_cases e:i=k
      · rw [e,if_pos hk]
      · rw [if_neg (by rw [hno i (Nat.le_refl _) (by omega)];simp),Nv.way_hit m k (i+1) (fun j hj1 hj2=>hno j (by omega) hj2) hk (by omega) (by omega)]

theorem Nv.way_none {q:Nat→Bool}:∀(m i:Nat),(∀j,i≤j→j<i+m→q j=false)→Nv.wayFrom q m i=0
  | 0,_,_=>rfl
  | m + 1, i, hno => by
      unfold Nv.wayFrom
      rw [if_neg (by rw [hno i (Nat.le_refl _) (by omega)];simp),Nv.way_none m (i+1) (fun j hj1 hj2=>hno j (by omega) (by omega))]

def Nv.next (m k:Nat):Int:=Nv.num (((m % 24:Nat):Int)+(Fx.way (k:Int)).1) (((m / 24:Nat):Int)+(Fx.way (k:Int)).2)

def Nv.may (F:Nat→Int) (st:Nat→Bool) (m k:Nat):Bool:=decide (0≤Nv.next m k) && (decide (F (Nv.next m k).toNat=F m - 1) && !(st (Nv.next m k).toNat))

def Nv.step (F:Nat→Int) (st:Nat→Bool) (m:Nat):Int:=if F m<1 then 0 else Nv.wayFrom (Nv.may F st m) 4 1

theorem Nv.may_out {F:Nat→Int} {st:Nat→Bool} {m k:Nat} (h:Nv.next m k=-1):Nv.may F st m k=false:=by
 unfold Nv.may;rw [h];rfl

theorem Nv.may_in {F:Nat→Int} {st:Nat→Bool} {m k p:Nat} (h:Nv.next m k=(p:Int)):Nv.may F st m k=(decide (F p=F m - 1) && !(st p)):=by
 unfold Nv.may;rw [h,Int.toNat_natCast,decide_eq_true (by omega),Bool.true_and]

def Nv.IsToward (f t:Nat→Int) (tlen:Nat) (E:Nat→Nat→Int) (n:Nat) (x y v:Int):Prop :=
 (Nv.num x y=-1∧v=0)∨∃(m:Nat) (F:Nat→Int),Nv.num x y=(m:Int)∧Gr.IsField (fun i=>Gr.openB f 384 (Nv.blk E n m) i=true) (Gr.tgt f t tlen) F∧v=Nv.step F (Nv.st E n) m

def Nv.SaysToward (w:World) (f t:Nat→Int) (tlen:Nat) (E:Nat→Nat→Int) (n:Nat) (x y:Int) (e:Ending) (w':World):Prop:=∃v,Nv.IsToward f t tlen E n x y v∧e=.returned (.int .i64 v)∧w.grownBy w' none

end Go.Proofs.YtldgbkjceildfaaGreat
