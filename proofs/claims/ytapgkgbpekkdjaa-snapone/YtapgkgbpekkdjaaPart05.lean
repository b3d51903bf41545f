import Derived.Test.YtapgkgbpekkdjaaPart03
namespace Go.Proofs.Ytapgkgbpekkdjaa
open Go.RowKit

def Gr.kind (len:Nat) (f:Nat→Int) (c:Int):Int:=if 0≤c∧c<384∧c.toNat<len then f c.toNat else 0

theorem Gr.kind_at (len:Nat) (f:Nat→Int) (c:Int) (h:0≤c):Gr.at len f (c % 24) (c / 24)=Gr.kind len f c:=by
 have e:c / 24*24+c % 24=c:=by omega
 have hi:=Gr.inB_iff (c % 24) (c / 24)
 unfold Gr.at Gr.kind
 rw [e]
 by_cases hc:c<384∧c.toNat<len
 ·rw [if_pos ⟨hi.2 (by omega),hc.2⟩,if_pos ⟨h,hc⟩]
 ·rw [if_neg (fun hh=>hc ⟨by have:=hi.1 hh.1;omega,hh.2⟩),if_neg (by omega)]

def Gr.find (len:Nat) (f:Nat→Int) (kind:Int):Int:=Gr.findFrom f kind (min len 384) 0

end Go.Proofs.Ytapgkgbpekkdjaa
