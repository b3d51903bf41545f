import Derived.Test.YtbanjoflgoiegaaGreatPs27
namespace Go.Proofs.YtbanjoflgoiegaaGreat
open Go.RowKit

theorem Md.ok_none (c:Nat→Int):Gd.Ok c 40 (fun _ _=>0):=⟨fun _ _=>.inl ⟨rfl,rfl,rfl,rfl⟩,fun _ _ _ _ _ h=>absurd rfl h⟩

theorem Md.num_cell {m:Nat} (h:m<384):Nv.num ((m:Int) % 24) ((m:Int) / 24)=(m:Int):=by
 unfold Nv.num
 rw [if_pos ((Gr.inB_iff _ _).2 (by omega))]
 omega

theorem Md.set_at (E:Nat→Nat→Int) (k j:Nat) (v:Int):Gd.set E k j v k j=v:=if_pos ⟨rfl,rfl⟩

theorem Md.set_else (E:Nat→Nat→Int) (k j:Nat) (v:Int) {i l:Nat} (h:¬(i=k∧l=j)):Gd.set E k j v i l=E i l:=if_neg h

end Go.Proofs.YtbanjoflgoiegaaGreat
