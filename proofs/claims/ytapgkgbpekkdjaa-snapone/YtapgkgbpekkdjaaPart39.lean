import Derived.Test.YtapgkgbpekkdjaaPart38
namespace Go.Proofs.Ytapgkgbpekkdjaa
open Go.RowKit

structure Cr.Seats (E:Nat→Nat→Int):Prop where
 seat:∀k,k<32→E k 0=1→0≤E k 2∧E k 2<4
 one:∀j k,j<32→k<32→E j 0=1→E k 0=1→E j 2=E k 2→j=k
 none:∀k,k<32→E k 0≠0→E k 0≠1→E k 2=0

structure Cr.Sane (c:Nat→Int) (E I:Nat→Nat→Int):Prop where
 fit:Ft.Fit c E I
 set:Ft.Set c E
 seats:Cr.Seats E

theorem Cr.Sane.good {c:Nat→Int} {E I:Nat→Nat→Int} (h:Cr.Sane c E I):Md.Good c E I:=Md.good_fit h.fit h.set

def Cr.Gold (g:Nat→Int):Prop:=∀t,t<4→0≤g t∧g t≤999

def Cr.join (E:Nat→Nat→Int) (e:Nat→Int):Nat→Nat→Int:=if 0≤En.first (En.freeQ E) 32 then En.put E (En.first (En.freeQ E) 32).toNat (En.gen e ((E (En.first (En.freeQ E) 32).toNat 1+1) % 256)) else E

def Cr.one (kd st:Int) (q:Nat):Nat→Int:=En.upd (En.upd (En.upd (En.stats kd) 2 st) 3 ((q:Int) % 24)) 4 ((q:Int) / 24)

theorem Cr.join_cases (E:Nat→Nat→Int) (e:Nat→Int):Cr.join E e=E∨∃f:Nat,f<32∧E f 0=0∧(∀j,j<f→E j 0≠0)∧Cr.join E e=En.put E f (En.gen e ((E f 1+1) % 256)):=by
 unfold Cr.join
 rcases En.first_cases (En.freeQ E) 32 with ⟨he,_⟩ | ⟨f,hf,he,hq,hno⟩
 ·rw [he,if_neg (by omega)];exact .inl rfl
 ·rw [he,if_pos (by omega),Int.toNat_natCast]
  exact .inr ⟨f,hf,by simpa [En.freeQ] using hq,fun j hj=>by simpa [En.freeQ] using hno j hj,rfl⟩


open Go.RowKit

theorem Md.ok_none (c:Nat→Int):Gd.Ok c 40 (fun _ _=>0):=⟨fun _ _=>.inl ⟨rfl,rfl,rfl,rfl⟩,fun _ _ _ _ _ h=>absurd rfl h⟩


open Go.RowKit

theorem Cr.one_row {kd st:Int} {q:Nat} {gn:Int} (h1:1≤kd) (h4:kd≤4) (g0:0≤gn) (g9:gn≤255):Ft.Row (En.gen (Cr.one kd st q) gn):=by
 have e:∀j,j≠1→j≠2→j≠3→j≠4→En.gen (Cr.one kd st q) gn j=En.stats kd j:=fun j j1 j2 j3 j4=>by
  show (if j=1 then gn else Cr.one kd st q j)=_
  rw [if_neg j1]
  unfold Cr.one
  rw [En.upd_other j4,En.upd_other j3,En.upd_other j2]
 refine ⟨g0,g9,.inr ?_⟩
 rw [e 0 (by omega) (by omega) (by omega) (by omega),e 5 (by omega) (by omega) (by omega) (by omega),e 6 (by omega) (by omega) (by omega) (by omega),e 7 (by omega) (by omega) (by omega) (by omega),e 8 (by omega) (by omega) (by omega) (by omega),e 9 (by omega) (by omega) (by omega) (by omega),e 10 (by omega) (by omega) (by omega) (by omega)]
 rcases (show kd=1∨kd=2∨kd=3∨kd=4 by omega) with rfl | rfl | rfl | rfl <;> decide

theorem Cr.one_at (kd st:Int) (q:Nat):(1≤kd→kd≤4→Cr.one kd st q 0=kd)∧Cr.one kd st q 2=st∧Cr.one kd st q 3=(q:Int) % 24∧Cr.one kd st q 4=(q:Int) / 24∧Cr.one kd st q 6=En.stats kd 6∧Cr.one kd st q 7=En.stats kd 7∧Cr.one kd st q 8=En.stats kd 8:=by
 unfold Cr.one
 refine ⟨fun h1 h4=>?_,?_,?_,?_,?_,?_,?_⟩
 ·rw [En.upd_other (by omega),En.upd_other (by omega),En.upd_other (by omega)]
  rcases (show kd=1∨kd=2∨kd=3∨kd=4 by omega) with rfl | rfl | rfl | rfl <;> decide
 ·rw [En.upd_other (by omega),En.upd_other (by omega),En.upd_same]
 ·rw [En.upd_other (by omega),En.upd_same]
 ·rw [En.upd_same]
 ·rw [En.upd_other (by omega),En.upd_other (by omega),En.upd_other (by omega)]
 ·rw [En.upd_other (by omega),En.upd_other (by omega),En.upd_other (by omega)]
 ·rw [En.upd_other (by omega),En.upd_other (by omega),En.upd_other (by omega)]

theorem Cr.Sane.join {c:Nat→Int} {E I:Nat→Nat→Int} (h:Cr.Sane c E I) {kd st:Int} {q:Nat} (h1:1≤kd) (h4:kd≤4) (hq:q<384) (hr:Ft.Room c E q) (hs:(kd=1∧0≤st∧st<4∧Gd.hero E st<0)∨(kd≠1∧st=0)):Cr.Sane c (Cr.join E (Cr.one kd st q)) I:=by
 obtain ⟨o0,o2,o3,o4,o6,o7,o8⟩:=Cr.one_at kd st q
 rcases Cr.join_cases E (Cr.one kd st q) with he | ⟨f,hf,hf0,_,he⟩
 ·rw [he];exact h
 rw [he]
 have hg:0≤(E f 1+1) % 256∧(E f 1+1) % 256≤255:=by omega
 generalize (E f 1+1) % 256=gn at hg
 have k0:En.gen (Cr.one kd st q) gn 0=kd:=o0 h1 h4
 have k2:En.gen (Cr.one kd st q) gn 2=st:=o2
 have hset:=h.set.put (e:=Cr.one kd st q) (gn:=gn) hf0 hq hr o3 o4 (by rw [o0 h1 h4];exact ⟨o6,o7,o8⟩)
 have nohero:∀j,j<32→E j 0=1→kd=1→E j 2≠st:=fun j hj j1 hk e=>by
  rcases hs with ⟨_,_,_,hno⟩ | ⟨hn,_⟩
  ·unfold Gd.hero at hno
   rcases En.first_cases (En.heroQ E st) 32 with ⟨_,hn⟩ | ⟨i,_,hi,_⟩
   ·have:=hn j hj
    simp [En.heroQ,j1,e] at this
   ·omega
  ·exact hn hk
 refine ⟨h.fit.put (Cr.one_row h1 h4 hg.1 hg.2),hset,⟨fun j hj j1=>?_,fun i j hi hj i1 j1 hij=>?_,fun j hj j0 j1=>?_⟩⟩
 ·by_cases x:j=f
  ·rw [x,En.put_same,k0] at j1
   rw [x,En.put_same,k2]
   rcases hs with ⟨_,a,b,_⟩ | ⟨hn,_⟩
   ·exact ⟨a,b⟩
   ·exact absurd j1 hn
  ·rw [En.put_other x] at j1 ⊢;exact h.seats.seat j hj j1
 ·by_cases xi:i=f
  ·by_cases xj:j=f
   ·omega
   ·rw [xi,En.put_same,k0] at i1
    rw [xi,En.put_same,k2,En.put_other xj] at hij
    rw [En.put_other xj] at j1
    exact absurd hij.symm (nohero j hj j1 i1)
  ·by_cases xj:j=f
   ·rw [xj,En.put_same,k0] at j1
    rw [xj,En.put_same,k2,En.put_other xi] at hij
    rw [En.put_other xi] at i1
    exact absurd hij (nohero i hi i1 j1)
   ·rw [En.put_other xi] at i1 hij
    rw [En.put_other xj] at j1 hij
    exact h.seats.one i j hi hj i1 j1 hij
 ·by_cases x:j=f
  ·rw [x,En.put_same,k0] at j1
   rw [x,En.put_same,k2]
   rcases hs with ⟨hk,_⟩ | ⟨_,hst⟩
   ·exact absurd hk j1
   ·exact hst
  ·rw [En.put_other x] at j0 j1 ⊢;exact h.seats.none j hj j0 j1

theorem Cr.up_stair {c:Nat→Int} (hF:Nv.Floor c):∃u:Nat,u<384∧Gr.find 384 c 3=(u:Int)∧c u=3∧∀i,c i=3→i=u:=by
 obtain ⟨u,v,hu,_,h3,_⟩:=hF.stairs
 refine ⟨u,hu,?_,(h3 u).2 rfl,fun i hi=>(h3 i).1 hi⟩
 have key:∀n k:Nat,k≤u→u<k+n→Gr.findFrom c 3 n k=(u:Int):=by
  intro n
  induction n with
  | zero=>intro k h1 h2;omega
  | succ n ih =>
   intro k h1 h2
   unfold Gr.findFrom
   by_cases e:c k=3
   ·rw [if_pos e,(h3 k).1 e]
   ·rw [if_neg e]
    refine ih (k+1) ?_ (by omega)
    by_cases ek:k=u
    ·exact absurd ((h3 k).2 ek) e
    ·omega
 exact key 384 0 (by omega) (by omega)

end Go.Proofs.Ytapgkgbpekkdjaa
