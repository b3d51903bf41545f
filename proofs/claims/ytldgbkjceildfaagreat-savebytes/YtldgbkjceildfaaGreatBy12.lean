import Derived.Test.YtldgbkjceildfaaGreatBy11
import Derived.Deep.Cut
import Derived.Deep.RegionWith
namespace Go.Proofs.YtldgbkjceildfaaGreat
open Go.RowKit

theorem Lie.put {x:World} {g m:Nat} {T:TypeId} {I:Nat→Nat→Int} (h:Lie x g T m (Gd.flat I)) (k:Nat) (a b c d:Int):Lie ((((x.setCell ⟨g,k*4,none⟩ (.int .i64 a)).setCell ⟨g,k*4+1,none⟩ (.int .i64 b)).setCell ⟨g,k*4+2,none⟩ (.int .i64 c)).setCell ⟨g,k*4+3,none⟩ (.int .i64 d)) g T m (Gd.flat (En.put I k (Gd.row a b c d))):=h.item k (Gd.row a b c d)

theorem grown_put4 {x y:World} {g:Nat} (h:x.grownBy y (some g)) (k:Nat) (a b c d:Value):x.grownBy ((((y.setCell ⟨g,k*4,none⟩ a).setCell ⟨g,k*4+1,none⟩ b).setCell ⟨g,k*4+2,none⟩ c).setCell ⟨g,k*4+3,none⟩ d) (some g) :=
 gst (gst (gst (gst h _ _) _ _) _ _) _ _


open Go.RowKit

def Gd.heal (E:Nat→Nat→Int) (k:Nat):Nat→Nat→Int:=Gd.set (Gd.set E k 5 (min (E k 5+6) (E k 6))) k 9 0

theorem Gd.row_gone:Gd.row 0 0 0 0=Gd.gone:=by
 funext j;unfold Gd.row Gd.gone;split <;> rfl

theorem Gd.Hold.put {x:World} {B gC gE gI cC cE cI:Nat} {s g c:Nat→Int} {E I:Nat→Nat→Int} (h:Gd.Hold x B gC gE gI cC cE cI s g c E I) (m:Nat) (a b d e:Int):Gd.Hold ((((x.setCell ⟨gI,m*4,none⟩ (.int .i64 a)).setCell ⟨gI,m*4+1,none⟩ (.int .i64 b)).setCell ⟨gI,m*4+2,none⟩ (.int .i64 d)).setCell ⟨gI,m*4+3,none⟩ (.int .i64 e)) B gC gE gI cC cE cI s g c E (En.put I m (Gd.row a b d e)) :=
 h.items (grown_put4 (World.grownBy.refl _ _) m _ _ _ _) (h.lists.items.put m a b d e)


open Go.RowKit

structure Gd.Fine (c g:Nat→Int) (E I:Nat→Nat→Int):Prop where
 cells:∀i,0≤c i∧c i≤255
 gold:∀t,t<4→0≤g t∧g t≤999
 hp:∀k,k<32→0≤E k 5∧E k 5≤1000
 ok:Gd.Ok c 40 I

def Gd.goldOf (I:Nat→Nat→Int) (s X Y:Int) (shop:Bool) (G input:Int):Int :=
 if input=5 then (if 0≤Gd.find I 40 1 X Y∧I (Gd.find I 40 1 X Y).toNat 0=4 then min (G+5) 999 else G)
 else if input=10 then (if Gd.buys I 40 s shop G=true then G - 5 else G) else G

def Gd.entsOf (E I:Nat→Nat→Int) (k:Nat) (s input:Int):Nat→Nat→Int:=if input=6∧0≤Gd.has I 40 s 1 1 then Gd.heal E k else E

theorem Gd.give_same (g:Nat→Int) (t:Nat):Gd.give g t (g t)=g:=by
 funext i;unfold Gd.give;split
 ·rename_i h;rw [h]
 ·rfl


open Go.RowKit

set_option maxHeartbeats 800000 in
theorem refIn7_same (b n c:Nat) (I:Nat→Nat→Int) (p a q:Int) (w:World) (hI:Its w b 0 n I) :
  Calls Tryz.prog 71 #[.slice (some ⟨b,0,none⟩) n c,.int .i64 p,.int .i64 a,.int .i64 q] w fun e w'=>e=.returned (.int .i64 (Gd.find I n p a q))∧w'=w:=by
 have hn:=hI.1;have hI':=hide hI;clear hI;go_enter Tryz.func71,Tryz.ntmps71;go_wp2_with fail
 go_loop [9] (fun i=>∃k:Nat,k≤n∧i=.int .i64 (k:Int)∧∀j,j<k→Gd.inQ I p a q j=false) (fun i=>200 - (intOf i).toNat)
 case atStart=>exact ⟨0,by omega,rfl,fun j hj=>by omega⟩
 case round =>
  obtain ⟨k,hk,rfl,hno⟩:=hrel;have hno':=hide hno;clear hno;by_cases hlt:k<n
  ·obtain ⟨_,u1,u2,u3⟩:=(uh hI').row hlt;have hlt':(k:Int)<(n:Int):=by omega
   have HL:=hide hlt;clear hlt;by_cases h1:I k 1=p
   ·by_cases h2:I k 2=a
    ·by_cases h3:I k 3=q
     ·have he:=hide (En.first_hit (uh hno') (Gd.inQ_yes h1 h2 h3) (uh HL));go_wp2;go_ret;exact ⟨rti (uh he).symm,rfl⟩
     ·have hq:=hide (Gd.inQ_no (I:=I) (p:=p) (a:=a) (q:=q) (k:=k) (fun h=>h3 h.2.2));have h3':(I k 3 == q)=false:=by simp [h3]
      go_wp2;go_round;case rel=>exact ⟨k+1,by have:=uh HL;omega,by go_num,fun j hj=>by
       by_cases e:j=k
       ·rw [e];exact uh hq
       ·exact uh hno' j (by omega)⟩
      case measure=>simp [intOf];omega
    ·have hq:=hide (Gd.inQ_no (I:=I) (p:=p) (a:=a) (q:=q) (k:=k) (fun h=>h2 h.2.1));have h2':(I k 2 == a)=false:=by simp [h2]
     go_wp2;go_round;case rel=>exact ⟨k+1,by have:=uh HL;omega,by go_num,fun j hj=>by
      by_cases e:j=k
      ·rw [e];exact uh hq
      ·exact uh hno' j (by omega)⟩
     case measure=>simp [intOf];omega
   ·have hq:=hide (Gd.inQ_no (I:=I) (p:=p) (a:=a) (q:=q) (k:=k) (fun h=>h1 h.1));have h1':(I k 1 == p)=false:=by simp [h1]
    go_wp2;go_round;case rel=>exact ⟨k+1,by have:=uh HL;omega,by go_num,fun j hj=>by
     by_cases e:j=k
     ·rw [e];exact uh hq
     ·exact uh hno' j (by omega)⟩
    case measure=>simp [intOf];omega
  ·have hge:¬(k:Int)<(n:Int):=by omega
   have he:=hide (En.first_none (n:=n) (fun j hj=>uh hno' j (by omega)));go_wp2;go_ret;exact ⟨rti (uh he).symm,rfl⟩

set_option maxHeartbeats 800000 in
theorem refSlot_same (b n c:Nat) (I:Nat→Nat→Int) (seat:Int) (w:World) (hI:Its w b 0 n I) :
  Calls Tryz.prog 72 #[.slice (some ⟨b,0,none⟩) n c,.int .i64 seat] w fun e w'=>e=.returned (.int .i64 (Gd.slot I n seat))∧w'=w:=by
 have ci:Hid (∀q,Calls Tryz.prog 71 #[.slice (some ⟨b,0,none⟩) n c,.int .i64 2,.int .i64 seat,.int .i64 q] w fun e w'=>e=.returned (.int .i64 (Gd.find I n 2 seat q))∧w'=w):=fun q=>refIn7_same b n c I 2 seat q w hI;clear hI;go_enter Tryz.func72,Tryz.ntmps72;go_wp2_with fail
 go_loop [5] (fun i=>∃k:Nat,k≤4∧i=.int .i64 (k:Int)∧(∀j:Nat,j<k→decide (Gd.find I n 2 seat (j:Int)<0)=false)) (fun i=>200 - (intOf i).toNat)
 case atStart=>exact ⟨0,by omega,rfl,fun j hj=>by omega⟩
 case round =>
  obtain ⟨k,hk,rfl,hno⟩:=hrel;have hno':=hide hno;clear hno;by_cases hlt:k<4
  ·have hlt':(k:Int)<4:=by omega
   have HL:=hide hlt;have cat:=hide (uh ci (k:Int));obtain ⟨f,hf⟩:∃f,Gd.find I n 2 seat (k:Int)=f:=⟨_,rfl⟩;rw [hf] at cat;have hf':=hide hf;clear hlt hf;go_wp2_with fail;refine (uh cat).mono ?_;rintro e w1 ⟨rfl,hw⟩;subst w1;clear cat;by_cases hneg:f<0
   ·have he:=hide (En.first_hit (q:=fun b:Nat=>decide (Gd.find I n 2 seat (b:Int)<0)) (uh hno') (by show decide _=true;rw [uh hf'];exact decide_eq_true hneg) (uh HL));go_wp2;go_ret;exact ⟨rti (uh he).symm,rfl⟩
   ·have hq:=hide (show decide (Gd.find I n 2 seat (k:Int)<0)=false by rw [uh hf'];exact decide_eq_false hneg);go_wp2;go_round;case rel=>exact ⟨k+1,by have:=uh HL;omega,by go_num,fun j hj=>by
     by_cases e:j=k
     ·rw [e];exact uh hq
     ·exact uh hno' j (by omega)⟩
    case measure=>simp [intOf];omega
  ·have hge:¬(k:Int)<4:=by omega
   have he:=hide (En.first_none (n:=4) (q:=fun b:Nat=>decide (Gd.find I n 2 seat (b:Int)<0)) (fun j hj=>uh hno' j (by omega)));go_wp2;go_ret;exact ⟨rti (uh he).symm,rfl⟩

set_option maxHeartbeats 800000 in
theorem refHas_same (b n c:Nat) (I:Nat→Nat→Int) (seat lo hi:Int) (w:World) (hI:Its w b 0 n I) :
  Calls Tryz.prog 77 #[.slice (some ⟨b,0,none⟩) n c,.int .i64 seat,.int .i64 lo,.int .i64 hi] w fun e w'=>e=.returned (.int .i64 (Gd.has I n seat lo hi))∧w'=w:=by
 have ci:Hid (∀q,Calls Tryz.prog 71 #[.slice (some ⟨b,0,none⟩) n c,.int .i64 2,.int .i64 seat,.int .i64 q] w fun e w'=>e=.returned (.int .i64 (Gd.find I n 2 seat q))∧w'=w):=fun q=>refIn7_same b n c I 2 seat q w hI;have hI':=hide hI;clear hI;rw [Gd.has_car];go_enter Tryz.func77,Tryz.ntmps77;go_wp2_with fail
 go_loop [9] (fun i=>∃k:Nat,k≤4∧i=.int .i64 (k:Int)∧(∀j:Nat,j<k→Gd.carQ I n seat (fun k=>decide (lo≤k) && decide (k≤hi)) j=false)) (fun i=>200 - (intOf i).toNat)
 case atStart=>exact ⟨0,by omega,rfl,fun j hj=>by omega⟩
 case round =>
  obtain ⟨k,hk,rfl,hno⟩:=hrel;have hno':=hide hno;clear hno;by_cases hlt:k<4
  ·have hlt':(k:Int)<4:=by omega
   have HL:=hide hlt;have cat:=hide (uh ci (k:Int));have hfl:=hide (Gd.find_lt (I:=I) (n:=n) (p:=2) (a:=seat) (q:=(k:Int)));have hqd:=hide (show Gd.carQ I n seat (fun k=>decide (lo≤k) && decide (k≤hi)) k=(decide (0≤Gd.find I n 2 seat (k:Int)) && (decide (lo≤I (Gd.find I n 2 seat (k:Int)).toNat 0) && decide (I (Gd.find I n 2 seat (k:Int)).toNat 0≤hi))) from rfl);obtain ⟨f,hf⟩:∃f,Gd.find I n 2 seat (k:Int)=f:=⟨_,rfl⟩;have hf':=hide hf;rw [hf] at cat hfl hqd;clear hlt hf;go_wp2_with fail;refine (uh cat).mono ?_;rintro e w1 ⟨rfl,hw⟩;subst w1;clear cat;by_cases hpos:0≤f
   ·obtain ⟨m,hm,rfl⟩:∃m:Nat,m<n∧f=(m:Int):=⟨f.toNat,(uh hfl hpos).1,(uh hfl hpos).2⟩;have u0:=((uh hI').row hm).1;have hm':(m:Int)<(n:Int):=by omega
    have hqd2:Hid (Gd.carQ I n seat (fun k=>decide (lo≤k) && decide (k≤hi)) k=(decide (lo≤I m 0) && decide (I m 0≤hi))):=by
     show _=_;rw [uh hqd,decide_eq_true hpos,Bool.true_and,Int.toNat_natCast]
    clear hfl hqd hm;by_cases hlo:lo≤I m 0
    ·by_cases hhi:I m 0≤hi
     ·have he:=hide ((Gd.car_hit (uh hno') ((uh hqd2).trans (by simp [hlo,hhi])) (uh HL)).trans (uh hf'));go_wp2;go_ret;exact ⟨rti (uh he).symm,rfl⟩
     ·have hqf:=hide ((uh hqd2).trans (by simp [hhi]:_=false));go_wp2;go_round;case rel=>exact ⟨k+1,by have:=uh HL;omega,by go_num,fun j hj=>by
       by_cases e:j=k
       ·rw [e];exact uh hqf
       ·exact uh hno' j (by omega)⟩
      case measure=>simp [intOf];omega
    ·have hqf:=hide ((uh hqd2).trans (by simp [hlo]:_=false));go_wp2;go_round;case rel=>exact ⟨k+1,by have:=uh HL;omega,by go_num,fun j hj=>by
      by_cases e:j=k
      ·rw [e];exact uh hqf
      ·exact uh hno' j (by omega)⟩
     case measure=>simp [intOf];omega
   ·have hqf:Hid (Gd.carQ I n seat (fun k=>decide (lo≤k) && decide (k≤hi)) k=false):=by
     show _=_;rw [uh hqd,decide_eq_false hpos,Bool.false_and]
    have hneg:f<0:=by omega
    clear hfl hqd;go_wp2;go_round;case rel=>exact ⟨k+1,by have:=uh HL;omega,by go_num,fun j hj=>by
     by_cases e:j=k
     ·rw [e];exact uh hqf
     ·exact uh hno' j (by omega)⟩
    case measure=>simp [intOf];omega
  ·have hge:¬(k:Int)<4:=by omega
   have he:=hide (Gd.car_none (fun j hj=>uh hno' j (by omega)));go_wp2;go_ret;exact ⟨rti (uh he).symm,rfl⟩

theorem refPotion_same (b n c:Nat) (I:Nat→Nat→Int) (seat:Int) (w:World) (hI:Its w b 0 n I) :
  Calls Tryz.prog 69 #[.slice (some ⟨b,0,none⟩) n c,.int .i64 seat] w fun e w'=>e=.returned (.int .i64 (Gd.has I n seat 1 1))∧w'=w:=by
 have ch:=hide (refHas_same b n c I seat 1 1 w hI);clear hI;obtain ⟨r,hr⟩:∃r,Gd.has I n seat 1 1=r:=⟨_,rfl⟩;rw [hr] at ch ⊢;clear hr;go_enter Tryz.func69,Tryz.ntmps69;go_wp2_with fail;refine (uh ch).mono ?_;rintro e w1 ⟨rfl,hw⟩;subst w1;clear ch;go_wp2;go_ret;exact ⟨rfl,rfl⟩

end Go.Proofs.YtldgbkjceildfaaGreat
