/-
  The targets: what the program's inmost does.
-/
import Derived.Test.YthngbjmiblbohaaGridOut
namespace Go.Proofs.Ythngbjmiblbohaa
open Go.RowKit

/-- Of the first k that are named: those that can be walked on have 0, all others -1; 'ring' are they. -/
structure Gr.Seeds (f t : Nat → Int) (k : Nat) (F : Nat → Int) (ring : List Nat) : Prop where
  two : ∀ i, i < 384 → F i = 0 ∨ F i = -1
  zero : ∀ i, i < 384 → (F i = 0 ↔ Gr.walkB (f i) = true ∧ ∃ j, j < k ∧ t j = (i : Int))
  mem : ∀ i, i < 384 → (0 ≤ F i ↔ i ∈ ring)
  rng : ∀ i, i ∈ ring → i < 384
  cnt : ring.length = Gr.cnt F 384

theorem Gr.cnt_none (n : Nat) : Gr.cnt (fun _ => -1) n = 0 := by
  induction n with
  | zero => rfl
  | succ n ih => unfold Gr.cnt; rw [ih]; rfl

theorem Gr.Seeds.none (f t : Nat → Int) : Gr.Seeds f t 0 (fun _ => -1) [] := by
  refine ⟨fun _ _ => .inr rfl, fun i hi => ?_, fun i hi => ?_, fun i hi => ?_, (Gr.cnt_none 384).symm⟩
  · constructor
    · intro h; cases h
    · rintro ⟨_, j, hj, _⟩; omega
  · simp
  · cases hi

theorem Gr.Seeds.pass {f t F : Nat → Int} {k : Nat} {ring : List Nat} (h : Gr.Seeds f t k F ring) (hs : ∀ c : Nat, c < 384 → t k = (c : Int) → Gr.walkB (f c) = true → 0 ≤ F c) : Gr.Seeds f t (k + 1) F ring := by
  refine ⟨h.two, fun i hi => ?_, h.mem, h.rng, h.cnt⟩
  rw [h.zero i hi]
  constructor
  · rintro ⟨hw, j, hj, he⟩
    exact ⟨hw, j, by omega, he⟩
  · rintro ⟨hw, j, hj, he⟩
    by_cases hjk : j = k
    · subst hjk
      have h0 := hs i hi he hw
      have : F i = 0 := by rcases h.two i hi with h | h <;> omega
      exact (h.zero i hi).1 this
    · exact ⟨hw, j, by omega, he⟩

theorem Gr.Seeds.pass_same {f t F : Nat → Int} {k c : Nat} {ring : List Nat} (h : Gr.Seeds f t k F ring) (ht : t k = (c : Int)) (hs : Gr.walkB (f c) = true → 0 ≤ F c) : Gr.Seeds f t (k + 1) F ring := by
  refine h.pass fun c' _ h' hw => ?_
  obtain rfl : c' = c := by omega
  exact hs hw

theorem Gr.Seeds.add {f t F : Nat → Int} {k c : Nat} {ring : List Nat} (h : Gr.Seeds f t k F ring) (hc : c < 384) (ht : t k = (c : Int)) (hw : Gr.walkB (f c) = true) (hneg : F c < 0) : Gr.Seeds f t (k + 1) (Gr.upd F c 0) (ring ++ [c]) := by
  refine ⟨fun i hi => ?_, fun i hi => ?_, fun i hi => ?_, fun i hi => ?_, ?_⟩
  · by_cases e : i = c
    · rw [e, Gr.upd_at]; exact .inl rfl
    · rw [Gr.upd_ne F _ e]; exact h.two i hi
  · by_cases e : i = c
    · subst e
      rw [Gr.upd_at]
      exact ⟨fun _ => ⟨hw, k, by omega, ht⟩, fun _ => rfl⟩
    · rw [Gr.upd_ne F _ e, h.zero i hi]
      constructor
      · rintro ⟨hw, j, hj, he⟩
        exact ⟨hw, j, by omega, he⟩
      · rintro ⟨hw, j, hj, he⟩
        exact ⟨hw, j, by by_cases hjk : j = k; (subst hjk; omega); omega, he⟩
  · by_cases e : i = c
    · rw [e, Gr.upd_at]; simp
    · rw [Gr.upd_ne F _ e, h.mem i hi]; simp [e]
  · rcases List.mem_append.1 hi with hi | hi
    · exact h.rng i hi
    · simp at hi; omega
  · rw [Gr.cnt_upd F c 0 384 hc hneg (by omega), List.length_append, h.cnt]; rfl

/-- A target that counts. -/
def Gr.tgt (f t : Nat → Int) (tlen : Nat) (i : Nat) : Prop := Gr.walkB (f i) = true ∧ ∃ j, j < tlen ∧ t j = (i : Int)

theorem Gr.Seeds.inv {op : Nat → Prop} {f t F : Nat → Int} {k : Nat} {ring : List Nat} (h : Gr.Seeds f t k F ring) : Gr.Inv op (Gr.tgt f t k) F ring 0 0 :=
  Gr.Inv.start h.two h.zero h.mem h.rng h.cnt

theorem Gr.kind_in (f : Nat → Int) (c : Nat) (h : c < 384) : Gr.kind 384 f (c : Int) = f c := by
  unfold Gr.kind
  rw [if_pos (by omega), Int.toNat_natCast]

theorem Gr.kind_out (f : Nat → Int) (z : Int) (h : ¬ (0 ≤ z ∧ z < 384)) : Gr.kind 384 f z = 0 := by
  unfold Gr.kind
  rw [if_neg (by omega)]

end Go.Proofs.Ythngbjmiblbohaa
