/-
  The program's rooms: what it lays, and the middles that it tells.
-/
import Derived.Test.YthngbjmiblbohaaGenRegion
import Derived.Deep.LoopGhost
namespace Go.Proofs.Ythngbjmiblbohaa
open Go.RowKit

/-- The middles, column and row by turns. -/
def Gn.mid (d : Gn.Dice) (j : Nat) : Int := if j % 2 = 0 then Gn.mx d (j / 2) else Gn.my d (j / 2)
def Gn.mids (d : Gn.Dice) : Array Value := #[.int .i64 (Gn.mid d 0), .int .i64 (Gn.mid d 1), .int .i64 (Gn.mid d 2), .int .i64 (Gn.mid d 3), .int .i64 (Gn.mid d 4), .int .i64 (Gn.mid d 5), .int .i64 (Gn.mid d 6), .int .i64 (Gn.mid d 7), .int .i64 (Gn.mid d 8), .int .i64 (Gn.mid d 9), .int .i64 (Gn.mid d 10), .int .i64 (Gn.mid d 11)]

theorem Arr.twelve {w : World} {g : Nat} {T : TypeId} {F : Nat → Value} (h : Arr w g T 12 F) :
    w.cell? ⟨g, 0, none⟩ = some (F 0) ∧ w.cell? ⟨g, 1, none⟩ = some (F 1) ∧ w.cell? ⟨g, 2, none⟩ = some (F 2) ∧ w.cell? ⟨g, 3, none⟩ = some (F 3) ∧ w.cell? ⟨g, 4, none⟩ = some (F 4) ∧ w.cell? ⟨g, 5, none⟩ = some (F 5) ∧ w.cell? ⟨g, 6, none⟩ = some (F 6) ∧ w.cell? ⟨g, 7, none⟩ = some (F 7) ∧ w.cell? ⟨g, 8, none⟩ = some (F 8) ∧ w.cell? ⟨g, 9, none⟩ = some (F 9) ∧ w.cell? ⟨g, 10, none⟩ = some (F 10) ∧ w.cell? ⟨g, 11, none⟩ = some (F 11) :=
  ⟨h.cell (by omega), h.cell (by omega), h.cell (by omega), h.cell (by omega), h.cell (by omega), h.cell (by omega), h.cell (by omega), h.cell (by omega), h.cell (by omega), h.cell (by omega), h.cell (by omega), h.cell (by omega)⟩

theorem Arr.twelveF {w : World} {g : Nat} {T : TypeId} {F : Nat → Value} (h : Arr w g T 12 F) :
    w.frozen? ⟨g, 0, none⟩ = false ∧ w.frozen? ⟨g, 1, none⟩ = false ∧ w.frozen? ⟨g, 2, none⟩ = false ∧ w.frozen? ⟨g, 3, none⟩ = false ∧ w.frozen? ⟨g, 4, none⟩ = false ∧ w.frozen? ⟨g, 5, none⟩ = false ∧ w.frozen? ⟨g, 6, none⟩ = false ∧ w.frozen? ⟨g, 7, none⟩ = false ∧ w.frozen? ⟨g, 8, none⟩ = false ∧ w.frozen? ⟨g, 9, none⟩ = false ∧ w.frozen? ⟨g, 10, none⟩ = false ∧ w.frozen? ⟨g, 11, none⟩ = false :=
  ⟨h.free _, h.free _, h.free _, h.free _, h.free _, h.free _, h.free _, h.free _, h.free _, h.free _, h.free _, h.free _⟩

theorem grown_set0 (w : World) (g i : Nat) (u : Value) : w.grownBy (w.setCell ⟨g, i, none⟩ u) (some g) := grown_set (World.grownBy.refl _ _) i u

end Go.Proofs.Ythngbjmiblbohaa
