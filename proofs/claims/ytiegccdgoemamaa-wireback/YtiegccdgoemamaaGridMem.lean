/-
  What lies in memory, told once: a slice whose elements are given by a function, below a block number; and what the grid's packages reckon, as plain functions.
-/
import Derived.Test.YtiegccdgoemamaaRows
import Derived.WalkKit
import Derived.WalkSpells
import Derived.WalkLawsBesides
import Derived.OpenShut
import Derived.Below
import Derived.BigQuiet
import Derived.WalkSmall
namespace Go.Proofs.Ytiegccdgoemamaa
open Go.RowKit

theorem hide {p : Prop} (h : p) : Hid p := h
theorem unhide {p : Prop} (h : Hid p) : p := h

theorem ret_int {k : IntKind} {a b : Int} (h : a = b) : Ending.returned (.int k a) = .returned (.int k b) := by rw [h]

theorem ret_bool {a b : Bool} (h : a = b) : Ending.returned (.bool a) = .returned (.bool b) := by rw [h]

/-- A slice of one-cell elements as it lies in memory, below block B: element i is 'F i'; where it has none its address may be whatever. -/
def Vec (B : Nat) (w : World) (a : Option Addr) (len : Nat) (F : Nat → Value) : Prop :=
  len ≤ maxLen ∧ (len = 0 ∨ ∃ b off, a = some ⟨b, off, none⟩ ∧ b < B ∧ ∀ i, i < len → w.cell? ⟨b, off + i, none⟩ = some (F i))

theorem Vec.kept {B : Nat} {w w' : World} {a : Option Addr} {len : Nat} {F : Nat → Value} (h : Vec B w a len F) (hb : Below B w w') : Vec B w' a len F := by
  obtain ⟨hm, h0 | ⟨b, off, ha, hlt, hc⟩⟩ := h
  · exact ⟨hm, .inl h0⟩
  · exact ⟨hm, .inr ⟨b, off, ha, hlt, fun i hi => (hb.cell (p := ⟨b, off + i, none⟩) hlt).trans (hc i hi)⟩⟩

theorem Vec.mono {B B' : Nat} {w : World} {a : Option Addr} {len : Nat} {F : Nat → Value} (h : Vec B w a len F) (hb : B ≤ B') : Vec B' w a len F := by
  obtain ⟨hm, h0 | ⟨b, off, ha, hlt, hc⟩⟩ := h
  · exact ⟨hm, .inl h0⟩
  · exact ⟨hm, .inr ⟨b, off, ha, by omega, hc⟩⟩

theorem Vec.drew {B : Nat} {w : World} {a : Option Addr} {len : Nat} {F : Nat → Value} (h : Vec B w a len F) (n : Nat) : Vec B (w.drewN n) a len F :=
  h.kept (below_drewN (Below.refl _ _) n)

theorem Vec.taken {B : Nat} {w : World} {a : Option Addr} {len : Nat} {F : Nat → Value} (h : Vec B w a len F) (k : Nat) (hk : k ≤ len) : Vec B w a k F := by
  obtain ⟨hm, h0 | ⟨b, off, ha, hlt, hc⟩⟩ := h
  · exact ⟨Nat.le_trans hk hm, .inl (by omega)⟩
  · exact ⟨Nat.le_trans hk hm, .inr ⟨b, off, ha, hlt, fun i hi => hc i (by omega)⟩⟩

theorem Vec.at {B : Nat} {w : World} {a : Option Addr} {len : Nat} {F : Nat → Value} (h : Vec B w a len F) {k : Nat} (hk : k < len) :
    ∃ b off, a = some ⟨b, off, none⟩ ∧ b < B ∧ w.cell? ⟨b, off + k, none⟩ = some (F k) := by
  obtain ⟨hm, h0 | ⟨b, off, ha, hlt, hc⟩⟩ := h
  · omega
  · exact ⟨b, off, ha, hlt, hc k hk⟩

theorem Vec.congr {B : Nat} {w : World} {a : Option Addr} {len : Nat} {F G : Nat → Value} (h : Vec B w a len F) (he : ∀ i, i < len → F i = G i) : Vec B w a len G := by
  obtain ⟨hm, h0 | ⟨b, off, ha, hlt, hc⟩⟩ := h
  · exact ⟨hm, .inl h0⟩
  · exact ⟨hm, .inr ⟨b, off, ha, hlt, fun i hi => by rw [hc i hi, he i hi]⟩⟩

def Ints (g : Nat → Int) : Nat → Value := fun i => .int .i64 (g i)
def Byts (g : Nat → Int) : Nat → Value := fun i => .int .u8 (g i)
def Bols (g : Nat → Bool) : Nat → Value := fun i => .bool (g i)

def Gr.inB (x y : Int) : Bool := decide (0 ≤ x ∧ x < 24 ∧ 0 ≤ y ∧ y < 16)
def Gr.walkB (k : Int) : Bool := decide (1 ≤ k ∧ k ≤ 5)
def Gr.clearB (k : Int) : Bool := decide (1 ≤ k ∧ k ≤ 5 ∧ k ≠ 2)
def Gr.at (len : Nat) (f : Nat → Int) (x y : Int) : Int := if Gr.inB x y = true ∧ (y * 24 + x).toNat < len then f (y * 24 + x).toNat else 0

theorem Gr.inB_iff (x y : Int) : Gr.inB x y = true ↔ 0 ≤ x ∧ x < 24 ∧ 0 ≤ y ∧ y < 16 := by simp [Gr.inB]
theorem Gr.inB_no (x y : Int) : Gr.inB x y = false ↔ x < 0 ∨ 24 ≤ x ∨ y < 0 ∨ 16 ≤ y := by
  simp only [Gr.inB, decide_eq_false_iff_not]; omega
theorem Gr.walkB_iff (k : Int) : Gr.walkB k = true ↔ 1 ≤ k ∧ k ≤ 5 := by simp [Gr.walkB]
theorem Gr.clearB_iff (k : Int) : Gr.clearB k = true ↔ 1 ≤ k ∧ k ≤ 5 ∧ k ≠ 2 := by simp [Gr.clearB]

def Gr.findFrom (f : Nat → Int) (kind : Int) : Nat → Nat → Int
  | 0, _ => -1
  | n + 1, k => if f k = kind then (k : Int) else Gr.findFrom f kind n (k + 1)

/-- (2 p + n) / (2 n), rounded down. -/
def Gr.near (p n : Int) : Int := (2 * p + n) / (2 * n)

end Go.Proofs.Ytiegccdgoemamaa
