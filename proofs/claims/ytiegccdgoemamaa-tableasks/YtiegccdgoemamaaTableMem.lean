/-
  A seat table: rows of four numbers (seat, from, until, last), as they lie in memory; which row says of a seat and a frame.
-/
import Derived.Test.YtiegccdgoemamaaEntMem
import Derived.Laws.AppendOwnNone
namespace Go.Proofs.Ytiegccdgoemamaa
open Go.RowKit Go.WideShapes

/-- The cells of a row, of a table. -/
def Tb.cells (e : Nat → Int) : Array Value := #[.int .i64 (e 0), .int .i64 (e 1), .int .i64 (e 2), .int .i64 (e 3)]
def Tb.flat (E : Nat → Nat → Int) : Nat → Value := fun c => .int .i64 (E (c / 4) (c % 4))
def Tb.list (n : Nat) (E : Nat → Nat → Int) : List Value := (List.range (n * 4)).map (Tb.flat E)

theorem Tb.list_len (n : Nat) (E : Nat → Nat → Int) : (Tb.list n E).length = n * 4 := by simp [Tb.list]

theorem Tb.list_at {n : Nat} {E : Nat → Nat → Int} {c : Nat} (hc : c < n * 4) : (Tb.list n E)[c]? = some (Tb.flat E c) := by
  unfold Tb.list
  rw [List.getElem?_map, List.getElem?_range hc]
  rfl

theorem Tb.list_one {n : Nat} {E : Nat → Nat → Int} : ∀ v ∈ Tb.list n E, v.oneCell' = true := by
  intro v hv
  unfold Tb.list at hv
  obtain ⟨c, _, rfl⟩ := List.mem_map.1 hv
  rfl

theorem Tb.flat_at (E : Nat → Nat → Int) (i j : Nat) (hj : j < 4) : Tb.flat E (i * 4 + j) = .int .i64 (E i j) := by
  unfold Tb.flat
  rw [show (i * 4 + j) / 4 = i by omega, show (i * 4 + j) % 4 = j by omega]

/-- A table with one row other than it was. -/
def Tb.put (E : Nat → Nat → Int) (k : Nat) (e : Nat → Int) : Nat → Nat → Int := fun i => if i = k then e else E i

theorem Tb.list_more (n : Nat) (E : Nat → Nat → Int) (e : Nat → Int) : Tb.list n E ++ (Tb.cells e).toList = Tb.list (n + 1) (Tb.put E n e) := by
  apply List.ext_getElem?
  intro i
  by_cases h1 : i < n * 4
  · rw [List.getElem?_append_left (by rw [Tb.list_len]; exact h1), Tb.list_at h1, Tb.list_at (by omega)]
    unfold Tb.flat Tb.put
    rw [if_neg (by omega)]
  · rw [List.getElem?_append_right (by rw [Tb.list_len]; omega), Tb.list_len]
    by_cases h2 : i < (n + 1) * 4
    · rw [Tb.list_at h2]
      unfold Tb.flat Tb.put
      rw [if_pos (by omega)]
      obtain ⟨j, hj, rfl⟩ : ∃ j, j < 4 ∧ i = n * 4 + j := ⟨i - n * 4, by omega, by omega⟩
      rw [show n * 4 + j - n * 4 = j by omega, show (n * 4 + j) % 4 = j by omega]
      rcases (show j = 0 ∨ j = 1 ∨ j = 2 ∨ j = 3 by omega) with rfl | rfl | rfl | rfl <;> rfl
    · rw [List.getElem?_eq_none (by show 4 ≤ _; omega), List.getElem?_eq_none (by rw [Tb.list_len]; omega)]

/-- Rows that can be read: at the head of a block. -/
def Tb.Rows (w : World) (a : Option Addr) (n : Nat) (E : Nat → Nat → Int) : Prop :=
  ∀ i, i < n → ∃ b, a = some ⟨b, 0, none⟩ ∧ b < w.heap.size ∧ ∀ j, j < 4 → w.cell? ⟨b, i * 4 + j, none⟩ = some (.int .i64 (E i j))

/-- A table: none, or of one row at least. -/
def Tb.Tab (w : World) (a : Option Addr) (n c : Nat) (E : Nat → Nat → Int) : Prop :=
  n ≤ c ∧ c ≤ maxLen ∧ Tb.Rows w a n E ∧ (n = 0 → a = none ∧ c = 0)

section
variable {w w' : World} {a : Option Addr} {n c : Nat} {E : Nat → Nat → Int}

theorem Tb.Rows.on (h : Tb.Rows w a n E) (hg : w.grownBy w' none) : Tb.Rows w' a n E := fun i hi => by
  obtain ⟨b, ha, hb, hc⟩ := h i hi
  exact ⟨b, ha, Nat.lt_of_lt_of_le hb hg.size, fun j hj => (grown_cell hg b _ hb (by simp)).trans (hc j hj)⟩

theorem Tb.Rows.cut (h : Tb.Rows w a n E) {k : Nat} (hk : k ≤ n) : Tb.Rows w a k E := fun i hi => h i (by omega)

theorem Tb.Tab.on (h : Tb.Tab w a n c E) (hg : w.grownBy w' none) : Tb.Tab w' a n c E := ⟨h.1, h.2.1, h.2.2.1.on hg, h.2.2.2⟩

theorem Tb.noTab (w : World) (E : Nat → Nat → Int) : Tb.Tab w none 0 0 E := ⟨Nat.le_refl _, Nat.zero_le _, fun i hi => absurd hi (Nat.not_lt_zero i), fun _ => ⟨rfl, rfl⟩⟩

theorem Tb.Rows.row (h : Tb.Rows w a n E) {k : Nat} (hk : k < n) : ∃ b, a = some ⟨b, 0, .none⟩ ∧ b < w.heap.size ∧ w.cell? ⟨b, k * 4, .none⟩ = some (.int .i64 (E k 0)) ∧ w.cell? ⟨b, k * 4 + 1, .none⟩ = some (.int .i64 (E k 1)) ∧ w.cell? ⟨b, k * 4 + 2, .none⟩ = some (.int .i64 (E k 2)) ∧ w.cell? ⟨b, k * 4 + 3, .none⟩ = some (.int .i64 (E k 3)) := by
  obtain ⟨b, ha, hb, hc⟩ := h k hk
  exact ⟨b, ha, hb, hc 0 (by omega), hc 1 (by omega), hc 2 (by omega), hc 3 (by omega)⟩

theorem Tb.Rows.src (h : Tb.Rows w a n E) : ∀ p, a = some p → ∀ j v, (Tb.list n E)[j]? = some v → w.cell? (p.add j) = some v := by
  intro p hp j v hj
  have hlt : j < n * 4 := by
    have := (List.getElem?_eq_some_iff.1 hj).1
    rwa [Tb.list_len] at this
  obtain ⟨b, ha, hb, hc⟩ := h (j / 4) (by omega)
  rw [ha] at hp
  cases hp
  have h1 := hc (j % 4) (by omega)
  rw [show j / 4 * 4 + j % 4 = j by omega] at h1
  rw [add_plain, Nat.zero_add, h1, ← hj, Tb.list_at hlt]
  rfl

/-- A row of the call's own is a table. -/
theorem Tb.of_owns {base : Nat} {v : Value} (h : w.ownsRow base 101 4 v n (Tb.list n E)) (h0 : n = 0 → v = .slice none 0 0) : ∃ a c, v = .slice a n c ∧ Tb.Tab w a n c E := by
  rcases h.2 with ⟨rfl, rfl⟩ | ⟨g, cap, cur, rfl, hb, hg, hnc, hcm, hcs, htake⟩
  · exact ⟨none, 0, rfl, Tb.noTab w E⟩
  · refine ⟨_, cap, rfl, hnc, hcm, fun i hi => ⟨g, rfl, (Array.getElem?_eq_some_iff.1 hg).1, fun j hj => ?_⟩, fun h => ?_⟩
    · have hA := Arr.lit hg
      have hlt : i * 4 + j < n * 4 := by omega
      have e : (Tb.list n E)[i * 4 + j]? = some (.int .i64 (E i j)) := by rw [Tb.list_at hlt, Tb.flat_at E i j hj]
      rw [← htake, List.getElem?_take, if_pos hlt, Array.getElem?_toList] at e
      rw [hA.cell (i := i * 4 + j) (by have := Array.getElem?_eq_some_iff.1 e; exact this.1)]
      show some (cur[i * 4 + j]?.getD undef) = _
      rw [e]
      rfl
    · have := h0 h
      simp at this
end

/-- The row of a seat's last span, of the first n, that begins at f or ahead of it; -1: there is none. -/
def Tb.at (E : Nat → Nat → Int) (s f : Int) : Nat → Int
  | 0 => -1
  | n + 1 => if E n 0 = s ∧ E n 1 ≤ f then (n : Int) else Tb.at E s f n

theorem Tb.at_cases (E : Nat → Nat → Int) (s f : Int) (n : Nat) : (Tb.at E s f n = -1 ∧ ∀ j, j < n → ¬ (E j 0 = s ∧ E j 1 ≤ f)) ∨ ∃ k, k < n ∧ Tb.at E s f n = (k : Int) ∧ (E k 0 = s ∧ E k 1 ≤ f) ∧ ∀ j, k < j → j < n → ¬ (E j 0 = s ∧ E j 1 ≤ f) := by
  induction n with
  | zero => exact .inl ⟨rfl, fun j h => by omega⟩
  | succ n ih =>
    unfold Tb.at
    by_cases e : E n 0 = s ∧ E n 1 ≤ f
    · rw [if_pos e]
      exact .inr ⟨n, by omega, rfl, e, fun j h1 h2 => by omega⟩
    · rw [if_neg e]
      rcases ih with ⟨h, hno⟩ | ⟨k, hk, h, hq, hno⟩
      · exact .inl ⟨h, fun j hj => by
          by_cases e2 : j = n
          · rw [e2]; exact e
          · exact hno j (by omega)⟩
      · exact .inr ⟨k, by omega, h, hq, fun j h1 h2 => by
          by_cases e2 : j = n
          · rw [e2]; exact e
          · exact hno j h1 (by omega)⟩

theorem Tb.at_hit {E : Nat → Nat → Int} {s f : Int} {k : Nat} (h : E k 0 = s ∧ E k 1 ≤ f) : Tb.at E s f (k + 1) = (k : Int) := if_pos h
theorem Tb.at_miss {E : Nat → Nat → Int} {s f : Int} {k : Nat} (h : ¬ (E k 0 = s ∧ E k 1 ≤ f)) : Tb.at E s f (k + 1) = Tb.at E s f k := if_neg h

theorem Tb.info_span : (Try.prog.info? 101).map (fun i => (i.zero, i.size, i.bytes)) = some (some (.agg #[.int .i64 0, .int .i64 0, .int .i64 0, .int .i64 0]), 4, 32) := by kernel_rfl

end Go.Proofs.Ytiegccdgoemamaa
