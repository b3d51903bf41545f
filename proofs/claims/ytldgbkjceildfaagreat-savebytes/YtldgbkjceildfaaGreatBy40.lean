import Derived.Test.YtldgbkjceildfaaGreatBy27
namespace Go.Proofs.YtldgbkjceildfaaGreat
open Go.RowKit

def Sn.allB (q:Nat→Bool):Nat→Bool
 | 0=>true
 | n+1=>Sn.allB q n && q n

theorem Sn.allB_yes {q:Nat→Bool}:∀{n:Nat},(∀k,k<n→q k=true)→Sn.allB q n=true
 | 0,_=>rfl
 | n+1,h=>by
  show (Sn.allB q n && q n)=true
  rw [Sn.allB_yes (fun k hk=>h k (by omega)),h n (by omega)]
  rfl

theorem Sn.allB_no {q:Nat→Bool} {k:Nat} (hk:q k=false):∀{n:Nat},k<n→Sn.allB q n=false
 | 0,h=>absurd h (by omega)
 | n+1,h=>by
  show (Sn.allB q n && q n)=false
  by_cases e:k=n
  ·rw [←e,hk,Bool.and_false]
  ·rw [Sn.allB_no hk (by omega),Bool.false_and]


open Go.RowKit

theorem Cr.IsNew.head {seed:Int} {T:Cr.W} (h:Cr.IsNew seed T):T.s 0=seed∧T.s 1=0:=by
 obtain ⟨c,es,is,_,rfl⟩:=h
 exact ⟨rfl,rfl⟩

end Go.Proofs.YtldgbkjceildfaaGreat
