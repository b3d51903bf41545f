/-
  The first row that is asked for: what the searches of ents, and those of the document said again, answer.
-/
import Derived.Test.YtiegccdgoemamaaEntSmall
import Derived.Deep.Quiet
import Derived.Deep.QuietTactic
namespace Go.Proofs.Ytiegccdgoemamaa
open Go.RowKit

/-- The first of so many numbers, from one on, that a test lets by; -1: there is none. -/
def En.firstFrom (q : Nat → Bool) : Nat → Nat → Int
  | 0, _ => -1
  | m + 1, k => if q k = true then (k : Int) else En.firstFrom q m (k + 1)

def En.first (q : Nat → Bool) (n : Nat) : Int := En.firstFrom q n 0

theorem En.from_hit {q : Nat → Bool} : ∀ (m k i : Nat), (∀ j, i ≤ j → j < k → q j = false) → q k = true → i ≤ k → k < i + m → En.firstFrom q m i = (k : Int)
  | 0, k, i, _, _, h1, h2 => by omega
  | m + 1, k, i, hno, hk, h1, h2 => by
      unfold En.firstFrom
      by_cases e : i = k
      · rw [e, if_pos hk]
      · rw [if_neg (by rw [hno i (Nat.le_refl _) (by omega)]; simp), En.from_hit m k (i + 1) (fun j hj1 hj2 => hno j (by omega) hj2) hk (by omega) (by omega)]

theorem En.from_none {q : Nat → Bool} : ∀ (m i : Nat), (∀ j, i ≤ j → j < i + m → q j = false) → En.firstFrom q m i = -1
  | 0, _, _ => rfl
  | m + 1, i, hno => by
      unfold En.firstFrom
      rw [if_neg (by rw [hno i (Nat.le_refl _) (by omega)]; simp), En.from_none m (i + 1) (fun j hj1 hj2 => hno j (by omega) (by omega))]

theorem En.first_hit {q : Nat → Bool} {n k : Nat} (hno : ∀ j, j < k → q j = false) (hk : q k = true) (hn : k < n) : En.first q n = (k : Int) :=
  En.from_hit n k 0 (fun j _ h => hno j h) hk (by omega) (by omega)

theorem En.first_none {q : Nat → Bool} {n : Nat} (hno : ∀ j, j < n → q j = false) : En.first q n = -1 :=
  En.from_none n 0 (fun j _ h => hno j (by omega))

theorem En.first_cases (q : Nat → Bool) (n : Nat) : (En.first q n = -1 ∧ ∀ j, j < n → q j = false) ∨ ∃ k, k < n ∧ En.first q n = (k : Int) ∧ q k = true ∧ ∀ j, j < k → q j = false := by
  induction n with
  | zero => exact .inl ⟨rfl, fun j h => by omega⟩
  | succ n ih =>
    rcases ih with ⟨_, hno⟩ | ⟨k, hk, _, hq, hno⟩
    · by_cases hq : q n = true
      · exact .inr ⟨n, by omega, En.first_hit hno hq (by omega), hq, hno⟩
      · have h : ∀ j, j < n + 1 → q j = false := fun j hj => by
          by_cases e : j = n
          · rw [e]; simpa using hq
          · exact hno j (by omega)
        exact .inl ⟨En.first_none h, h⟩
    · exact .inr ⟨k, by omega, En.first_hit hno hq (by omega), hq, hno⟩

theorem En.first_congr {q r : Nat → Bool} {n : Nat} (h : ∀ j, j < n → q j = r j) : En.first q n = En.first r n := by
  rcases En.first_cases q n with ⟨h1, hno⟩ | ⟨k, hk, h1, hq, hno⟩
  · rw [h1, En.first_none (fun j hj => (h j hj).symm.trans (hno j hj))]
  · rw [h1, En.first_hit (fun j hj => (h j (by omega)).symm.trans (hno j hj)) ((h k hk).symm.trans hq) hk]

def En.freeQ (E : Nat → Nat → Int) : Nat → Bool := fun i => decide (E i 0 = 0)
def En.atQ (E : Nat → Nat → Int) (x y : Int) : Nat → Bool := fun i => !(decide (E i 0 = 0)) && (decide (E i 3 = x) && decide (E i 4 = y))
def En.heroQ (E : Nat → Nat → Int) (s : Int) : Nat → Bool := fun i => decide (E i 0 = 1) && decide (E i 2 = s)
def En.ofQ (E : Nat → Nat → Int) (id : Int) : Nat → Bool := fun i => !(decide (E i 0 = 0)) && decide ((i : Int) + 32 * E i 1 = id)

theorem Ents.row {w : World} {b n : Nat} {E : Nat → Nat → Int} (h : Ents w b n E) {k : Nat} (hk : k < n) :
    w.cell? ⟨b, k * 11, none⟩ = some (.int .i64 (E k 0)) ∧ w.cell? ⟨b, k * 11 + 1, none⟩ = some (.int .i64 (E k 1)) ∧ w.cell? ⟨b, k * 11 + 2, none⟩ = some (.int .i64 (E k 2)) ∧ w.cell? ⟨b, k * 11 + 3, none⟩ = some (.int .i64 (E k 3)) ∧
    w.cell? ⟨b, k * 11 + 4, none⟩ = some (.int .i64 (E k 4)) ∧ w.cell? ⟨b, k * 11 + 5, none⟩ = some (.int .i64 (E k 5)) ∧ w.cell? ⟨b, k * 11 + 6, none⟩ = some (.int .i64 (E k 6)) ∧ w.cell? ⟨b, k * 11 + 7, none⟩ = some (.int .i64 (E k 7)) ∧
    w.cell? ⟨b, k * 11 + 8, none⟩ = some (.int .i64 (E k 8)) ∧ w.cell? ⟨b, k * 11 + 9, none⟩ = some (.int .i64 (E k 9)) ∧ w.cell? ⟨b, k * 11 + 10, none⟩ = some (.int .i64 (E k 10)) :=
  ⟨h.2.2 k 0 hk (by omega), h.2.2 k 1 hk (by omega), h.2.2 k 2 hk (by omega), h.2.2 k 3 hk (by omega), h.2.2 k 4 hk (by omega), h.2.2 k 5 hk (by omega), h.2.2 k 6 hk (by omega), h.2.2 k 7 hk (by omega), h.2.2 k 8 hk (by omega), h.2.2 k 9 hk (by omega), h.2.2 k 10 hk (by omega)⟩

end Go.Proofs.Ytiegccdgoemamaa
