/-
  What the small functions of ents, of the document said again, and of the law package answer.
-/
import Derived.Test.YthngbjmiblbohaaEntMem
namespace Go.Proofs.Ythngbjmiblbohaa
open Go.RowKit

theorem isFree_any (e : Nat → Int) (w : World) : Calls Try.prog 66 #[.agg (En.cells e)] w (Says w (.bool (decide (e 0 = 0)))) := by
  unfold En.cells
  go_enter Try.func66, Try.ntmps66
  go_wp2
  go_ret
  exact ⟨rfl, World.grownBy_alloc _ _ _⟩

theorem slice_ents (a : Option Addr) (len cap k : Nat) (w : World) (hk : k ≤ cap) :
    (Instr.slice 26 (.slice a len cap) none (some (.int .i64 (k : Int))) none).run Try.prog w = .ok (.slice a k cap) w := by
  have hs : (sizeOf (Try.prog.elem 26)).run Try.prog w = .ok 11 w := by kernel_rfl
  rw [run_slice_h w 26 a len cap (by kernel_rfl) .i64 (k : Int) (by omega) (by omega), hs]
  have e : a.map (fun x => x.add (0 * 11)) = a := by
    cases a with
    | none => rfl
    | some x => simp [Addr.add]
  simp only [Result.andThen, sliced, e, Int.toNat_natCast, Nat.sub_zero, ite_self]

theorem rows_any (a : Option Addr) (n c : Nat) (w : World) (hn : n ≤ 32) (hc : n ≤ c) :
    Calls Try.prog 65 #[.slice a n c] w fun e w' => e = .returned (.slice a n c) ∧ w' = w := by
  have hs := fun wx => slice_ents a n c n wx hc
  have hm : min (n : Int) 32 = (n : Int) := by omega
  go_enter Try.func65, Try.ntmps65
  go_wp2
  go_ret
  exact ⟨rfl, rfl⟩

def En.isRow (n : Nat) (row : Int) : Bool := decide (0 ≤ row ∧ row < n)

/-- A row's id: -1, if there is no such row, or it is free. -/
def En.id (n : Nat) (E : Nat → Nat → Int) (row : Int) : Int := if 0 ≤ row ∧ row < n ∧ E row.toNat 0 ≠ 0 then row + 32 * E row.toNat 1 else -1

theorem En.id_at {n : Nat} {E : Nat → Nat → Int} {k : Nat} (hk : k < n) (h : E k 0 ≠ 0) : En.id n E (k : Int) = (k : Int) + 32 * E k 1 := by
  unfold En.id
  rw [Int.toNat_natCast, if_pos ⟨by omega, by omega, h⟩]

theorem En.id_free {n : Nat} {E : Nat → Nat → Int} {k : Nat} (h : E k 0 = 0) : En.id n E (k : Int) = -1 := by
  unfold En.id
  rw [Int.toNat_natCast, if_neg (by rintro ⟨_, _, h'⟩; exact h' h)]

theorem En.id_out {n : Nat} {E : Nat → Nat → Int} {row : Int} (h : ¬ (0 ≤ row ∧ row < n)) : En.id n E row = -1 := by
  unfold En.id
  rw [if_neg (by rintro ⟨h1, h2, _⟩; exact h ⟨h1, h2⟩)]

/-- Gen is 0 to 255. -/
def En.Gens (n : Nat) (E : Nat → Nat → Int) : Prop := ∀ i, i < n → 0 ≤ E i 1 ∧ E i 1 ≤ 255

end Go.Proofs.Ythngbjmiblbohaa
