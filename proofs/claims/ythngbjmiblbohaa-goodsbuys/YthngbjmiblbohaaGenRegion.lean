/-
  A region that draws its order and holds calls which make memory of their own: one walk in the order of the text serves every order, the world being any that has grown out of the one that was.
-/
import Derived.Test.YthngbjmiblbohaaGenMath
namespace Go.Proofs.Ythngbjmiblbohaa
open Go.RowKit

theorem grown_none {a b c : World} {r : Option Nat} (h : a.grownBy b r) (k : b.grownBy c none) : a.grownBy c r := grown_own h k (fun _ e => by cases e)

theorem wp_region_grown {P : Program} {id : Nat} {Q : Exit → Act → World → Prop} {a : Act} {w : World} {l : List Oper} (hm : P.follows .mixedOrders = true) (hB : Region.lexB .any l.toArray = true)
    (h : ∀ (St : Type), Nonempty St → ∀ (W : St → World), (∀ σ, w.grownBy (W σ) none) → (∀ x, w.grownBy x none → ∃ σ, x = W σ) →
      wpQuiet P l.toArray (fun w' => ∃ σ, w' = W σ) (fun a' => ∀ w', (∃ σ, w' = W σ) → Q .normal a' w') l a) : (Code.region id l.toArray true).wp P Q a w := by
  have h1 := h { x // w.grownBy x none } ⟨⟨_, World.grownBy.refl w none⟩⟩ (fun σ => σ.val) (fun σ => σ.property) (fun x hx => ⟨⟨x, hx⟩, rfl⟩)
  exact wp_region_quiet (C := fun w' => ∃ σ : { x // w.grownBy x none }, w' = σ.val) hm hB ⟨⟨_, grown_drew1 (World.grownBy.refl _ _)⟩, rfl⟩ (by simpa using h1)

/-- A callee that makes memory of its own stays in the class. -/
theorem calls_class {P : Program} {f : FuncId} {args : Array Value} {St : Type} {W : St → World} {w : World} {σ : St} {v : Value} (hI : ∀ σ, w.grownBy (W σ) none) (hx : ∀ x, w.grownBy x none → ∃ σ, x = W σ)
    (h : Calls P f args (W σ) (Says (W σ) v)) : Calls P f args (W σ) fun e w'' => e = .returned v ∧ ∃ σ', w'' = W σ' :=
  h.mono fun _ w' ⟨he, hg⟩ => ⟨he, hx w' (grown_trans (hI σ) hg)⟩

theorem grown_cell {w w' : World} {r : Option Nat} (h : w.grownBy w' r) (b i : Nat) (hb : b < w.heap.size) (hr : r ≠ some b) : w'.cell? ⟨b, i, none⟩ = w.cell? ⟨b, i, none⟩ :=
  World.cell?_of_block (a := ⟨b, i, none⟩) (h.block b hb (fun e => hr e.symm))

end Go.Proofs.Ythngbjmiblbohaa
