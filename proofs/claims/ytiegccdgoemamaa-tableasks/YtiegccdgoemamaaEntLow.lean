/-
  The first row that is asked for, in ents: the test by an id, and the search itself, once for each of its tests.
-/
import Derived.Test.YtiegccdgoemamaaEntFind
import Derived.BigQuiet
namespace Go.Proofs.Ytiegccdgoemamaa
open Go.RowKit

theorem grown_drew1 {a b : World} {r : Option Nat} (h : a.grownBy b r) : a.grownBy b.drew r := grown_drew h 1

theorem wp_region_grown {P : Program} {id : Nat} {Q : Exit → Act → World → Prop} {a : Act} {w : World} {l : List Oper} (hm : P.follows .mixedOrders = true) (hB : Region.lexB .any l.toArray = true)
    (h : ∀ (St : Type), Nonempty St → ∀ (W : St → World), (∀ σ, w.grownBy (W σ) none) → (∀ x, w.grownBy x none → ∃ σ, x = W σ) →
      wpQuiet P l.toArray (fun w' => ∃ σ, w' = W σ) (fun a' => ∀ w', (∃ σ, w' = W σ) → Q .normal a' w') l a) : (Code.region id l.toArray true).wp P Q a w := by
  have h1 := h { x // w.grownBy x none } ⟨⟨_, World.grownBy.refl w none⟩⟩ (fun σ => σ.val) (fun σ => σ.property) (fun x hx => ⟨⟨x, hx⟩, rfl⟩)
  exact wp_region_quiet (C := fun w' => ∃ σ : { x // w.grownBy x none }, w' = σ.val) hm hB ⟨⟨_, grown_drew1 (World.grownBy.refl _ _)⟩, rfl⟩ (by simpa using h1)

/-- A callee that makes memory of its own stays in the class. -/
theorem calls_class {P : Program} {f : FuncId} {args : Array Value} {St : Type} {W : St → World} {w : World} {σ : St} {v : Value} (hI : ∀ σ, w.grownBy (W σ) none) (hx : ∀ x, w.grownBy x none → ∃ σ, x = W σ)
    (h : Calls P f args (W σ) (Says (W σ) v)) : Calls P f args (W σ) fun e w'' => e = .returned v ∧ ∃ σ', w'' = W σ' :=
  h.mono fun _ w' ⟨he, hg⟩ => ⟨he, hx w' (grown_trans (hI σ) hg)⟩

theorem En.atQ_free {E : Nat → Nat → Int} {x y : Int} {k : Nat} (h : E k 0 = 0) : En.atQ E x y k = false := by simp [En.atQ, h]
theorem En.atQ_some {E : Nat → Nat → Int} {x y : Int} {k : Nat} (h : ¬ E k 0 = 0) : En.atQ E x y k = (decide (E k 3 = x) && decide (E k 4 = y)) := by simp [En.atQ, h]
theorem En.heroQ_free {E : Nat → Nat → Int} {s : Int} {k : Nat} (h : E k 0 = 0) : En.heroQ E s k = false := by simp [En.heroQ, h]
theorem En.heroQ_some {E : Nat → Nat → Int} {s : Int} {k : Nat} (_ : ¬ E k 0 = 0) : En.heroQ E s k = (decide (E k 0 = 1) && decide (E k 2 = s)) := rfl
theorem En.ofQ_free {E : Nat → Nat → Int} {id : Int} {k : Nat} (h : E k 0 = 0) : En.ofQ E id k = false := by simp [En.ofQ, h]
theorem En.ofQ_some {E : Nat → Nat → Int} {id : Int} {k : Nat} (h : ¬ E k 0 = 0) : En.ofQ E id k = decide ((k : Int) + 32 * E k 1 = id) := by simp [En.ofQ, h]

end Go.Proofs.Ytiegccdgoemamaa
