/-
  What gen's small functions answer, in the program and in the document said again: numbers of cells, dice, one step nearer, what a monster is. They make memory of their own; nothing that was there turns.
-/
import Derived.Test.YthngbjmiblbohaaGridFree
import Derived.Test.YthngbjmiblbohaaDice
import Derived.Handy
namespace Go.Proofs.Ythngbjmiblbohaa
open Go.RowKit

/-- The chapter's D. -/
def Gn.D (s f a b n : Int) : Int := Dc.die n s [f, a, b]

theorem Gn.D_bd (s f a b n : Int) (h : 1 ≤ n) : 0 ≤ Gn.D s f a b n ∧ Gn.D s f a b n < n := Dc.die_bd n s [f, a, b] h

/-- A call answers v; nothing that was there has turned. -/
def Says (w : World) (v : Value) (e : Ending) (w' : World) : Prop := e = .returned v ∧ w.grownBy w' none

theorem Row.three (w : World) (x y z : Int) (T : TypeId) : Row (w.alloc (.cells #[.int .i64 x, .int .i64 y, .int .i64 z] T)) (some ⟨w.heap.size, 0, none⟩) 3 [x, y, z] := by
  refine ⟨rfl, by decide, .inr ⟨_, _, rfl, fun i hi => ?_⟩⟩
  rcases (show i = 0 ∨ i = 1 ∨ i = 2 by omega) with rfl | rfl | rfl <;> simp

theorem grown_store {a b : World} (h : a.grownBy b none) (p : Addr) (hp : a.heap.size ≤ p.block) (u : Value) : a.grownBy (b.setCell p u) none :=
  ⟨h.os, h.tape, h.output, by simpa using h.size, fun k hk hr => (heap_setCell_other b p k u (by omega)).trans (h.block k hk hr)⟩

theorem refD_any (s f a b n : Int) (w : World) (hn : n ≤ 9223372036854775807) :
    Calls Try.prog 44 #[.int .i64 s, .int .i64 f, .int .i64 a, .int .i64 b, .int .i64 n] w (Says w (.int .i64 (Gn.D s f a b n))) := by
  have c : ∀ (w' : World) (B : Nat), B = w'.heap.size → Calls Try.prog 64 #[.int .i64 n, .int .i64 s, .slice (some ⟨B, 0, none⟩) 3 3] (w'.alloc (.cells #[.int .i64 f, .int .i64 a, .int .i64 b] 3)) fun e w1 => e = .returned (.int .i64 (Gn.D s f a b n)) ∧ w1 = w'.alloc (.cells #[.int .i64 f, .int .i64 a, .int .i64 b] 3) := by
    rintro w' B rfl
    exact refDie_row n s _ 3 3 [f, a, b] _ (Row.three w' f a b 3) hn
  go_enter Try.func44, Try.ntmps44
  go_wp2_with fail
  refine (c _ _ (by simp)).mono ?_
  rintro e w1 ⟨rfl, rfl⟩
  go_wp2
  go_ret
  exact ⟨rfl, World.grownBy_alloc _ _ _⟩

/-- One step from a nearer to b. -/
def Gn.to1 (a b : Int) : Int := if a < b then a + 1 else if b < a then a - 1 else a

def Gn.cmp (x y : Int) : Int := if x < y then -1 else if y < x then 1 else 0

theorem toward_any (a b : Int) (w : World) (h : a ≠ b) (h1 : -1000 ≤ a) (h2 : a ≤ 1000) : Calls Try.prog 46 #[.int .i64 a, .int .i64 b] w fun e w' => e = .returned (.int .i64 (Gn.to1 a b)) ∧ w' = w := by
  by_cases h3 : a < b
  · have hd := hide (show Gn.to1 a b = a + 1 from if_pos h3)
    go_enter Try.func46, Try.ntmps46
    go_wp2
    go_ret
    exact ⟨ret_int (unhide hd).symm, rfl⟩
  · have hd := hide (show Gn.to1 a b = a - 1 by unfold Gn.to1; rw [if_neg h3, if_pos (by omega)])
    go_enter Try.func46, Try.ntmps46
    go_wp2
    go_ret
    exact ⟨ret_int (unhide hd).symm, rfl⟩

/-- What a monster of a kind is, at a cell. -/
def Gn.hp (k : Int) : Int := if k = 2 then 4 else if k = 3 then 9 else 6
def Gn.atk (k : Int) : Int := if k = 2 then 2 else if k = 3 then 4 else 3
def Gn.df (k : Int) : Int := if k = 3 then 1 else 0
def Gn.ent (k x y : Int) : Array Value := #[.int .i64 k, .int .i64 0, .int .i64 0, .int .i64 x, .int .i64 y, .int .i64 (Gn.hp k), .int .i64 (Gn.hp k), .int .i64 (Gn.atk k), .int .i64 (Gn.df k), .int .i64 0, .int .i64 0]

theorem refStats_any (k : Int) (w : World) (h1 : 2 ≤ k) (h2 : k ≤ 4) : Calls Try.prog 28 #[.int .i64 k] w (Says w (.agg (Gn.ent k 0 0))) := by
  rcases (show k = 2 ∨ k = 3 ∨ k = 4 by omega) with rfl | rfl | rfl
  all_goals
    go_enter Try.func28, Try.ntmps28
    go_wp2
    go_returns
    exact ⟨rfl, World.grownBy_alloc _ _ _⟩

end Go.Proofs.Ythngbjmiblbohaa
