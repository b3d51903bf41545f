/-
  Pieces as plain numbers: which are told next, which were heard of.
-/
import Derived.Test.YtnpdmfhknbfmhaaRows
import Derived.RowKit
namespace Go.Proofs.Ytnpdmfhknbfmhaa
open Go.RowKit

/-- Going round from 'fr' on, k steps: the pieces that are told, and where it goes on. -/
def Ck.nx (n : Nat) (had : Nat → Bool) (fr : Nat) (m : Int) : Nat → List Nat × Nat
  | 0 => ([], fr)
  | k + 1 => if ((Ck.nx n had fr m k).1.length : Int) < m ∧ had ((fr + k) % n) = false then ((Ck.nx n had fr m k).1 ++ [(fr + k) % n], ((fr + k) % n + 1) % n) else Ck.nx n had fr m k

theorem Ck.nx_len (n : Nat) (had : Nat → Bool) (fr : Nat) (m : Int) : ∀ k, (Ck.nx n had fr m k).1.length ≤ k
  | 0 => Nat.le_refl _
  | k + 1 => by
    have ih := Ck.nx_len n had fr m k
    unfold Ck.nx
    split
    · simp only [List.length_append, List.length_singleton]
      omega
    · omega

theorem Ck.nx_at {n : Nat} (had : Nat → Bool) {fr : Nat} (m : Int) (hn : 0 < n) (hf : fr < n) : ∀ k, (Ck.nx n had fr m k).2 < n
  | 0 => hf
  | k + 1 => by
    have ih := Ck.nx_at had m hn hf k
    unfold Ck.nx
    split
    · exact Nat.mod_lt _ hn
    · exact ih

theorem Ck.nx_in {n : Nat} (had : Nat → Bool) {fr : Nat} (m : Int) (hn : 0 < n) : ∀ k, ∀ i ∈ (Ck.nx n had fr m k).1, i < n ∧ had i = false
  | 0, i, h => by cases h
  | k + 1, i, h => by
    have ih := Ck.nx_in (fr := fr) had m hn k i
    unfold Ck.nx at h
    split at h
    · rename_i hc
      rcases List.mem_append.1 h with h | h
      · exact ih h
      · rw [List.mem_singleton.1 h]
        exact ⟨Nat.mod_lt _ hn, hc.2⟩
    · exact ih h

theorem Ck.nx_stay {n : Nat} {had : Nat → Bool} {fr : Nat} {m : Int} {k : Nat} (h : ¬ ((Ck.nx n had fr m k).1.length : Int) < m) : Ck.nx n had fr m (k + 1) = Ck.nx n had fr m k := by
  show (if _ ∧ _ then _ else _) = _
  rw [if_neg (fun q => h q.1)]

/-- Once enough are told nothing changes. -/
theorem Ck.nx_full {n : Nat} {had : Nat → Bool} {fr : Nat} {m : Int} {k : Nat} (h : ¬ ((Ck.nx n had fr m k).1.length : Int) < m) : ∀ j, Ck.nx n had fr m (k + j) = Ck.nx n had fr m k
  | 0 => rfl
  | j + 1 => by
    have ih := Ck.nx_full h j
    have e := Ck.nx_stay (n := n) (had := had) (fr := fr) (m := m) (k := k + j) (by rw [ih]; exact h)
    rw [ih] at e
    exact e

theorem Ck.nx_yes {n : Nat} {had : Nat → Bool} {fr : Nat} {m : Int} {k : Nat} (h1 : ((Ck.nx n had fr m k).1.length : Int) < m) (h2 : had ((fr + k) % n) = false) : Ck.nx n had fr m (k + 1) = ((Ck.nx n had fr m k).1 ++ [(fr + k) % n], ((fr + k) % n + 1) % n) := by
  show (if _ ∧ _ then _ else _) = _
  rw [if_pos ⟨h1, h2⟩]

theorem Ck.nx_no {n : Nat} {had : Nat → Bool} {fr : Nat} {m : Int} {k : Nat} (h2 : had ((fr + k) % n) = true) : Ck.nx n had fr m (k + 1) = Ck.nx n had fr m k := by
  show (if _ ∧ _ then _ else _) = _
  rw [if_neg (fun q => by rw [h2] at q; exact absurd q.2 (by simp))]

/-- What Next tells, and where it goes on. -/
def Ck.next (n : Nat) (had : Nat → Bool) (fr : Nat) (m : Int) : List Nat := (Ck.nx n had fr m n).1
def Ck.goes (n : Nat) (had : Nat → Bool) (fr : Nat) (m : Int) : Nat := (Ck.nx n had fr m n).2

/-- Bit i of a number of 32 bits. -/
def Ck.bit (b : Int) (i : Nat) : Bool := bits .and .u32 (b / 2 ^ i) 1 == 1

def Ck.heard (had : Nat → Bool) (b : Int) : Nat → Bool := fun i => had i || Ck.bit b i

/-- Were all heard of? -/
def Ck.all (n : Nat) (had : Nat → Bool) : Bool := (List.range n).all had

theorem Ck.all_iff {n : Nat} {had : Nat → Bool} : Ck.all n had = true ↔ ∀ i, i < n → had i = true := by
  unfold Ck.all
  rw [List.all_eq_true]
  exact ⟨fun h i hi => h i (List.mem_range.2 hi), fun h i hi => h i (List.mem_range.1 hi)⟩

theorem Ck.all_no {n : Nat} {had : Nat → Bool} {i : Nat} (hi : i < n) (h : had i = false) : Ck.all n had = false := by
  cases e : Ck.all n had with
  | false => rfl
  | true => rw [Ck.all_iff.1 e i hi] at h; cases h

end Go.Proofs.Ytnpdmfhknbfmhaa
