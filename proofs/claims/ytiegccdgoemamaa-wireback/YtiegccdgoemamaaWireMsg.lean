/-
  A datagram's thirty cells.
-/
import Derived.Test.YtiegccdgoemamaaWireListRec
namespace Go.Proofs.Ytiegccdgoemamaa
open Go.RowKit

/-- What a datagram's cells say. -/
structure Wr.G where
  n : Nat → Int
  watch : Bool
  bits : Int
  row : Nat → Option Addr × Nat × Nat
  recs : Option Addr × Nat × Nat
  data : Option Addr × Nat × Nat

def Wr.G.cells (g : Wr.G) : Array Value := #[.int .i64 (g.n 0), .int .i64 (g.n 1), .int .i64 (g.n 2), .bool g.watch, .int .u32 g.bits, .int .i64 (g.n 5), .int .i64 (g.n 6), .int .i64 (g.n 7), .int .i64 (g.n 8), .int .i64 (g.n 9), .int .i64 (g.n 10), .int .i64 (g.n 11), .slice (g.row 0).1 (g.row 0).2.1 (g.row 0).2.2, .int .i64 (g.n 13), .int .i64 (g.n 14), .int .i64 (g.n 15), .int .i64 (g.n 16), .slice (g.recs).1 (g.recs).2.1 (g.recs).2.2, .int .i64 (g.n 18), .int .i64 (g.n 19), .int .i64 (g.n 20), .int .i64 (g.n 21), .slice (g.row 1).1 (g.row 1).2.1 (g.row 1).2.2, .slice (g.row 2).1 (g.row 2).2.1 (g.row 2).2.2, .slice (g.row 3).1 (g.row 3).2.1 (g.row 3).2.2, .slice (g.row 4).1 (g.row 4).2.1 (g.row 4).2.2, .int .i64 (g.n 26), .int .i64 (g.n 27), .int .i64 (g.n 28), .slice (g.data).1 (g.data).2.1 (g.data).2.2]

def Wr.G.box (g : Wr.G) (j : Nat) : Value := if j = 3 then .bool g.watch else if j = 4 then .int .u32 g.bits else if j = 12 then .slice (g.row 0).1 (g.row 0).2.1 (g.row 0).2.2 else if j = 17 then .slice (g.recs).1 (g.recs).2.1 (g.recs).2.2 else if j = 22 then .slice (g.row 1).1 (g.row 1).2.1 (g.row 1).2.2 else if j = 23 then .slice (g.row 2).1 (g.row 2).2.1 (g.row 2).2.2 else if j = 24 then .slice (g.row 3).1 (g.row 3).2.1 (g.row 3).2.2 else if j = 25 then .slice (g.row 4).1 (g.row 4).2.1 (g.row 4).2.2 else if j = 29 then .slice (g.data).1 (g.data).2.1 (g.data).2.2 else .int .i64 (g.n j)

def Wr.G.zero : Wr.G := ⟨fun _ => 0, false, 0, fun _ => (none, 0, 0), (none, 0, 0), (none, 0, 0)⟩

set_option maxHeartbeats 1600000 in
theorem Wr.G.at (g : Wr.G) (j : Nat) (hj : j < 30) : g.cells[j]? = some (g.box j) := by
  rcases (show j = 0 ∨ j = 1 ∨ j = 2 ∨ j = 3 ∨ j = 4 ∨ j = 5 ∨ j = 6 ∨ j = 7 ∨ j = 8 ∨ j = 9 ∨ j = 10 ∨ j = 11 ∨ j = 12 ∨ j = 13 ∨ j = 14 ∨ j = 15 ∨ j = 16 ∨ j = 17 ∨ j = 18 ∨ j = 19 ∨ j = 20 ∨ j = 21 ∨ j = 22 ∨ j = 23 ∨ j = 24 ∨ j = 25 ∨ j = 26 ∨ j = 27 ∨ j = 28 ∨ j = 29 by omega) with rfl | rfl | rfl | rfl | rfl | rfl | rfl | rfl | rfl | rfl | rfl | rfl | rfl | rfl | rfl | rfl | rfl | rfl | rfl | rfl | rfl | rfl | rfl | rfl | rfl | rfl | rfl | rfl | rfl | rfl <;> rfl

/-- A number of it is another. -/
def Wr.G.num (g : Wr.G) (k : Nat) (a : Int) : Wr.G := { g with n := Wr.upd g.n k a }

theorem Wr.G.num_box (g : Wr.G) (k : Nat) (a : Int) (hk : k ≠ 3 ∧ k ≠ 4 ∧ k ≠ 12 ∧ k ≠ 17 ∧ k ≠ 22 ∧ k ≠ 23 ∧ k ≠ 24 ∧ k ≠ 25 ∧ k ≠ 29) : (fun j => if j = k then Value.int .i64 a else g.box j) = (g.num k a).box := by
  obtain ⟨h3, h4, h12, h17, h22, h23, h24, h25, h29⟩ := hk
  funext j
  by_cases e : j = k
  · subst e
    unfold Wr.G.box Wr.G.num Wr.upd
    rw [if_pos rfl, if_neg h3, if_neg h4, if_neg h12, if_neg h17, if_neg h22, if_neg h23, if_neg h24, if_neg h25, if_neg h29]
    simp
  · rw [if_neg e]
    unfold Wr.G.box Wr.G.num Wr.upd
    simp only [if_neg e]

def Wr.G.set12 (g : Wr.G) (u : Option Addr × Nat × Nat) : Wr.G := { g with row := fun i => if i = 0 then u else g.row i }

theorem Wr.G.set12_box (g : Wr.G) (u : Option Addr × Nat × Nat) : (fun j => if j = 12 then Value.slice u.1 u.2.1 u.2.2 else g.box j) = (g.set12 u).box := by
  funext j
  by_cases e : j = 12
  · subst e
    rfl
  · rw [if_neg e]
    unfold Wr.G.box Wr.G.set12
    simp [e]

def Wr.G.set17 (g : Wr.G) (u : Option Addr × Nat × Nat) : Wr.G := { g with recs := u }

theorem Wr.G.set17_box (g : Wr.G) (u : Option Addr × Nat × Nat) : (fun j => if j = 17 then Value.slice u.1 u.2.1 u.2.2 else g.box j) = (g.set17 u).box := by
  funext j
  by_cases e : j = 17
  · subst e
    rfl
  · rw [if_neg e]
    unfold Wr.G.box Wr.G.set17
    simp [e]

def Wr.G.set22 (g : Wr.G) (u : Option Addr × Nat × Nat) : Wr.G := { g with row := fun i => if i = 1 then u else g.row i }

theorem Wr.G.set22_box (g : Wr.G) (u : Option Addr × Nat × Nat) : (fun j => if j = 22 then Value.slice u.1 u.2.1 u.2.2 else g.box j) = (g.set22 u).box := by
  funext j
  by_cases e : j = 22
  · subst e
    rfl
  · rw [if_neg e]
    unfold Wr.G.box Wr.G.set22
    simp [e]

def Wr.G.set23 (g : Wr.G) (u : Option Addr × Nat × Nat) : Wr.G := { g with row := fun i => if i = 2 then u else g.row i }

theorem Wr.G.set23_box (g : Wr.G) (u : Option Addr × Nat × Nat) : (fun j => if j = 23 then Value.slice u.1 u.2.1 u.2.2 else g.box j) = (g.set23 u).box := by
  funext j
  by_cases e : j = 23
  · subst e
    rfl
  · rw [if_neg e]
    unfold Wr.G.box Wr.G.set23
    simp [e]

def Wr.G.set24 (g : Wr.G) (u : Option Addr × Nat × Nat) : Wr.G := { g with row := fun i => if i = 3 then u else g.row i }

theorem Wr.G.set24_box (g : Wr.G) (u : Option Addr × Nat × Nat) : (fun j => if j = 24 then Value.slice u.1 u.2.1 u.2.2 else g.box j) = (g.set24 u).box := by
  funext j
  by_cases e : j = 24
  · subst e
    rfl
  · rw [if_neg e]
    unfold Wr.G.box Wr.G.set24
    simp [e]

def Wr.G.set25 (g : Wr.G) (u : Option Addr × Nat × Nat) : Wr.G := { g with row := fun i => if i = 4 then u else g.row i }

theorem Wr.G.set25_box (g : Wr.G) (u : Option Addr × Nat × Nat) : (fun j => if j = 25 then Value.slice u.1 u.2.1 u.2.2 else g.box j) = (g.set25 u).box := by
  funext j
  by_cases e : j = 25
  · subst e
    rfl
  · rw [if_neg e]
    unfold Wr.G.box Wr.G.set25
    simp [e]

def Wr.G.set29 (g : Wr.G) (u : Option Addr × Nat × Nat) : Wr.G := { g with data := u }

theorem Wr.G.set29_box (g : Wr.G) (u : Option Addr × Nat × Nat) : (fun j => if j = 29 then Value.slice u.1 u.2.1 u.2.2 else g.box j) = (g.set29 u).box := by
  funext j
  by_cases e : j = 29
  · subst e
    rfl
  · rw [if_neg e]
    unfold Wr.G.box Wr.G.set29
    simp [e]

def Wr.G.set3 (g : Wr.G) (u : Bool) : Wr.G := { g with watch := u }

theorem Wr.G.set3_box (g : Wr.G) (u : Bool) : (fun j => if j = 3 then Value.bool u else g.box j) = (g.set3 u).box := by
  funext j
  by_cases e : j = 3
  · subst e
    rfl
  · rw [if_neg e]
    unfold Wr.G.box Wr.G.set3
    simp [e]

def Wr.G.set4 (g : Wr.G) (u : Int) : Wr.G := { g with bits := u }

theorem Wr.G.set4_box (g : Wr.G) (u : Int) : (fun j => if j = 4 then Value.int .u32 u else g.box j) = (g.set4 u).box := by
  funext j
  by_cases e : j = 4
  · subst e
    rfl
  · rw [if_neg e]
    unfold Wr.G.box Wr.G.set4
    simp [e]

set_option maxHeartbeats 1600000 in
/-- The thirty cells. -/
theorem Wr.thirty {x : World} {M : Nat} {g : Wr.G} (h : Wr.Bx x M 29 30 g.box) : x.cell? ⟨M, 0, none⟩ = some (.int .i64 (g.n 0)) ∧ x.cell? ⟨M, 1, none⟩ = some (.int .i64 (g.n 1)) ∧ x.cell? ⟨M, 2, none⟩ = some (.int .i64 (g.n 2)) ∧ x.cell? ⟨M, 3, none⟩ = some (.bool g.watch) ∧ x.cell? ⟨M, 4, none⟩ = some (.int .u32 g.bits) ∧ x.cell? ⟨M, 5, none⟩ = some (.int .i64 (g.n 5)) ∧ x.cell? ⟨M, 6, none⟩ = some (.int .i64 (g.n 6)) ∧ x.cell? ⟨M, 7, none⟩ = some (.int .i64 (g.n 7)) ∧ x.cell? ⟨M, 8, none⟩ = some (.int .i64 (g.n 8)) ∧ x.cell? ⟨M, 9, none⟩ = some (.int .i64 (g.n 9)) ∧ x.cell? ⟨M, 10, none⟩ = some (.int .i64 (g.n 10)) ∧ x.cell? ⟨M, 11, none⟩ = some (.int .i64 (g.n 11)) ∧ x.cell? ⟨M, 12, none⟩ = some (.slice (g.row 0).1 (g.row 0).2.1 (g.row 0).2.2) ∧ x.cell? ⟨M, 13, none⟩ = some (.int .i64 (g.n 13)) ∧ x.cell? ⟨M, 14, none⟩ = some (.int .i64 (g.n 14)) ∧ x.cell? ⟨M, 15, none⟩ = some (.int .i64 (g.n 15)) ∧ x.cell? ⟨M, 16, none⟩ = some (.int .i64 (g.n 16)) ∧ x.cell? ⟨M, 17, none⟩ = some (.slice (g.recs).1 (g.recs).2.1 (g.recs).2.2) ∧ x.cell? ⟨M, 18, none⟩ = some (.int .i64 (g.n 18)) ∧ x.cell? ⟨M, 19, none⟩ = some (.int .i64 (g.n 19)) ∧ x.cell? ⟨M, 20, none⟩ = some (.int .i64 (g.n 20)) ∧ x.cell? ⟨M, 21, none⟩ = some (.int .i64 (g.n 21)) ∧ x.cell? ⟨M, 22, none⟩ = some (.slice (g.row 1).1 (g.row 1).2.1 (g.row 1).2.2) ∧ x.cell? ⟨M, 23, none⟩ = some (.slice (g.row 2).1 (g.row 2).2.1 (g.row 2).2.2) ∧ x.cell? ⟨M, 24, none⟩ = some (.slice (g.row 3).1 (g.row 3).2.1 (g.row 3).2.2) ∧ x.cell? ⟨M, 25, none⟩ = some (.slice (g.row 4).1 (g.row 4).2.1 (g.row 4).2.2) ∧ x.cell? ⟨M, 26, none⟩ = some (.int .i64 (g.n 26)) ∧ x.cell? ⟨M, 27, none⟩ = some (.int .i64 (g.n 27)) ∧ x.cell? ⟨M, 28, none⟩ = some (.int .i64 (g.n 28)) ∧ x.cell? ⟨M, 29, none⟩ = some (.slice (g.data).1 (g.data).2.1 (g.data).2.2) :=
  ⟨h.cell (i := 0) (by omega), h.cell (i := 1) (by omega), h.cell (i := 2) (by omega), h.cell (i := 3) (by omega), h.cell (i := 4) (by omega), h.cell (i := 5) (by omega), h.cell (i := 6) (by omega), h.cell (i := 7) (by omega), h.cell (i := 8) (by omega), h.cell (i := 9) (by omega), h.cell (i := 10) (by omega), h.cell (i := 11) (by omega), h.cell (i := 12) (by omega), h.cell (i := 13) (by omega), h.cell (i := 14) (by omega), h.cell (i := 15) (by omega), h.cell (i := 16) (by omega), h.cell (i := 17) (by omega), h.cell (i := 18) (by omega), h.cell (i := 19) (by omega), h.cell (i := 20) (by omega), h.cell (i := 21) (by omega), h.cell (i := 22) (by omega), h.cell (i := 23) (by omega), h.cell (i := 24) (by omega), h.cell (i := 25) (by omega), h.cell (i := 26) (by omega), h.cell (i := 27) (by omega), h.cell (i := 28) (by omega), h.cell (i := 29) (by omega)⟩

end Go.Proofs.Ytiegccdgoemamaa
