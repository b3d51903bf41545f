import Derived.Test.YtapgkgbpekkdjaaPart17
namespace Go.Proofs.Ytapgkgbpekkdjaa
open Go.RowKit

def En.gen (e:Nat→Int) (g:Int):Nat→Int:=fun j=>if j=1 then g else e j

def Spawns (w:World) (n:Nat) (E:Nat→Nat→Int) (k:Nat) (e:Ending) (w':World):Prop :=
 ∃g cap,e=.returned (.tuple #[.slice (some ⟨g,0,none⟩) n cap,.int .i64 (k:Int),.int .i64 0])∧w.heap.size≤g∧n≤cap∧cap≤maxLen∧Own w' g n E∧w.grownBy w' none

end Go.Proofs.Ytapgkgbpekkdjaa
