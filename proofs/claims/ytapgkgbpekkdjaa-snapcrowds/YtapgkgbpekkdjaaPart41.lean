import Derived.Test.YtapgkgbpekkdjaaPart39
namespace Go.Proofs.Ytapgkgbpekkdjaa
open Go.RowKit

theorem Md.ok_none (c:Nat→Int):Gd.Ok c 40 (fun _ _=>0):=⟨fun _ _=>.inl ⟨rfl,rfl,rfl,rfl⟩,fun _ _ _ _ _ h=>absurd rfl h⟩

end Go.Proofs.Ytapgkgbpekkdjaa
