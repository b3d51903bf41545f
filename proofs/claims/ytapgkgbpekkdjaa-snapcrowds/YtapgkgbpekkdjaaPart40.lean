import Derived.Test.YtapgkgbpekkdjaaPart39
namespace Go.Proofs.Ytapgkgbpekkdjaa
open Go.RowKit

structure Cr.Seats (E:Nat→Nat→Int):Prop where
 seat:∀k,k<32→E k 0=1→0≤E k 2∧E k 2<4
 one:∀j k,j<32→k<32→E j 0=1→E k 0=1→E j 2=E k 2→j=k
 none:∀k,k<32→E k 0≠0→E k 0≠1→E k 2=0

structure Cr.Sane (c:Nat→Int) (E I:Nat→Nat→Int):Prop where
 fit:Ft.Fit c E I
 set:Ft.Set c E
 seats:Cr.Seats E

theorem Cr.Sane.good {c:Nat→Int} {E I:Nat→Nat→Int} (h:Cr.Sane c E I):Md.Good c E I:=Md.good_fit h.fit h.set

def Cr.Gold (g:Nat→Int):Prop:=∀t,t<4→0≤g t∧g t≤999

def Cr.join (E:Nat→Nat→Int) (e:Nat→Int):Nat→Nat→Int:=if 0≤En.first (En.freeQ E) 32 then En.put E (En.first (En.freeQ E) 32).toNat (En.gen e ((E (En.first (En.freeQ E) 32).toNat 1+1) % 256)) else E

def Cr.one (kd st:Int) (q:Nat):Nat→Int:=En.upd (En.upd (En.upd (En.stats kd) 2 st) 3 ((q:Int) % 24)) 4 ((q:Int) / 24)

theorem Cr.join_cases (E:Nat→Nat→Int) (e:Nat→Int):Cr.join E e=E∨∃f:Nat,f<32∧E f 0=0∧(∀j,j<f→E j 0≠0)∧Cr.join E e=En.put E f (En.gen e ((E f 1+1) % 256)):=by
 unfold Cr.join
 rcases En.first_cases (En.freeQ E) 32 with ⟨he,_⟩ | ⟨f,hf,he,hq,hno⟩
 ·rw [he,if_neg (by omega)];exact .inl rfl
 ·rw [he,if_pos (by omega),Int.toNat_natCast]
  exact .inr ⟨f,hf,by simpa [En.freeQ] using hq,fun j hj=>by simpa [En.freeQ] using hno j hj,rfl⟩

end Go.Proofs.Ytapgkgbpekkdjaa
