/-
  The law package's own known, within, full; what is seen, in both packages.
-/
import Derived.Test.YtiegccdgoemamaaGridLine
import Derived.Test.YtiegccdgoemamaaGridFind
namespace Go.Proofs.Ytiegccdgoemamaa
open Go.RowKit

theorem Gr.within_neg (a n : Int) (hn : 0 < n) (h : a.tmod n < 0) : a.tmod n + n = a % n := by
  have := Int.emod_nonneg a (b := n) (by omega)
  have := Int.emod_lt_of_pos a hn
  have e := Int.emod_eq_tmod (a := a) (b := n)
  by_cases hc : 0 ≤ a ∨ n ∣ a
  · rw [if_pos hc] at e; omega
  · rw [if_neg hc] at e; omega

theorem Gr.within_pos (a n : Int) (hn : 0 < n) (h : ¬ a.tmod n < 0) : a.tmod n = a % n := by
  have := Int.emod_lt_of_pos a hn
  have e := Int.emod_eq_tmod (a := a) (b := n)
  by_cases hc : 0 ≤ a ∨ n ∣ a
  · rw [if_pos hc] at e; omega
  · rw [if_neg hc] at e; omega

/-- A call hands back a row that it has made, and nothing that was there has turned. -/
def Made (w : World) (T : TypeId) (n : Nat) (F : Nat → Value) (e : Ending) (w' : World) : Prop :=
  ∃ g, e = .returned (.slice (some ⟨g, 0, none⟩) n n) ∧ w.heap.size ≤ g ∧ Arr w' g T n F ∧ Below w.heap.size w w'

def Gr.full (len : Nat) (f : Nat → Int) (i : Nat) : Int := if len = 0 then 0 else f ((i * 7 + i / 9) % len) % 7

theorem Gr.full_bd (len : Nat) (f : Nat → Int) (i : Nat) : 0 ≤ Gr.full len f i ∧ Gr.full len f i ≤ 6 := by
  unfold Gr.full
  split <;> omega

theorem Gr.full_one (f : Nat → Int) (hf : f 0 = 1) (i : Nat) : Gr.full 1 f i = 1 := by
  unfold Gr.full
  rw [if_neg (by omega), Nat.mod_one, hf]
  rfl

theorem info_byte : (Try.prog.info? 5).map (fun i => (i.zero, i.size, i.bytes)) = some (some (.int .u8 0), 1, 1) := by kernel_rfl

theorem fill_byte {g : Nat → Int} {z : Int} {k : Nat} {v : Int} (hv : v = g k) (j : Nat) : (if j = k then Value.int .u8 v else .int .u8 (if j < k then g j else z)) = .int .u8 (if j < k + 1 then g j else z) := by
  by_cases h : j = k
  · rw [if_pos h, if_pos (by omega), hv, h]
  · rw [if_neg h]
    by_cases h2 : j < k
    · rw [if_pos h2, if_pos (by omega)]
    · rw [if_neg h2, if_neg (by omega)]

/-- What is seen, as the document says it. -/
def Gr.Sees (len : Nat) (f : Nat → Int) (x0 y0 x1 y1 : Int) : Prop :=
  Gr.inB x0 y0 = true ∧ Gr.inB x1 y1 = true ∧ ∀ k, 0 < k → k < Gr.span x0 y0 x1 y1 → Gr.clearB (Gr.kind len f (Gr.ln x0 y0 x1 y1 k)) = true

def Tells (w : World) (p : Prop) (e : Ending) (w' : World) : Prop := ∃ b, e = .returned (.bool b) ∧ (b = true ↔ p) ∧ Below w.heap.size w w'

theorem Gr.sees_no {len : Nat} {f : Nat → Int} {x0 y0 x1 y1 : Int} (h : Gr.inB x0 y0 = true → Gr.inB x1 y1 = false) : ¬ Gr.Sees len f x0 y0 x1 y1 := by
  rintro ⟨h0, h1, _⟩
  rw [h h0] at h1
  cases h1

def Gr.lineLen (x0 y0 x1 y1 : Int) : Nat := if Gr.inB x0 y0 = true ∧ Gr.inB x1 y1 = true then Gr.span x0 y0 x1 y1 + 1 else 0

end Go.Proofs.Ytiegccdgoemamaa
