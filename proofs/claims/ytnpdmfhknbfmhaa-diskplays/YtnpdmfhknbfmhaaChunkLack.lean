/-
  Numbers whose bits say what is there, and what lacks.
-/
import Derived.Test.YtnpdmfhknbfmhaaChunkFacts
namespace Go.Proofs.Ytnpdmfhknbfmhaa
open Go.RowKit

theorem Ck.bit_num_at (f : Nat → Bool) {k : Nat} (hk : k ≤ 16) (i : Nat) : Ck.bit (Ck.num f k) i = (decide (i < k) && f i) := by
  have hl := Ck.numN_lt f k
  have hp : 2 ^ k ≤ 2 ^ 16 := Nat.pow_le_pow_right (by omega) hk
  rw [Ck.num_eq f k hk, Ck.bit_eq _ (by omega), Ck.numN_bit]

theorem Ck.num_ext {f g : Nat → Bool} : ∀ {k : Nat}, (∀ i, i < k → f i = g i) → Ck.num f k = Ck.num g k
  | 0, _ => rfl
  | k + 1, h => by
    show (if f k = true then _ else _) = (if g k = true then _ else _)
    rw [h k (by omega), Ck.num_ext (f := f) (g := g) (k := k) (fun i hi => h i (by omega))]

theorem Ck.num_inj {f g : Nat → Bool} {k : Nat} (hk : k ≤ 16) (h : Ck.num f k = Ck.num g k) : ∀ i, i < k → f i = g i := fun i hi => by
  have h1 := Ck.bit_num_at f hk i
  have h2 := Ck.bit_num_at g hk i
  rw [h, h2] at h1
  simpa [hi] using h1.symm

theorem Ck.num_none {k : Nat} : Ck.num (fun _ => false) k = 0 := by
  induction k with
  | zero => rfl
  | succ k ih => exact ih

theorem Ck.num_zero {f : Nat → Bool} {k : Nat} (hk : k ≤ 16) : (Ck.num f k == 0) = decide (∀ i, i < k → f i = false) := by
  by_cases h : ∀ i, i < k → f i = false
  · rw [decide_eq_true h, Ck.num_ext h, Ck.num_none]; rfl
  · rw [decide_eq_false h]
    simp only [beq_eq_false_iff_ne]
    intro e
    rw [← Ck.num_none (k := k)] at e
    exact h (Ck.num_inj hk e)

theorem Ck.numN_full : ∀ k, Ck.numN (fun _ => true) k = 2 ^ k - 1
  | 0 => rfl
  | k + 1 => by
    show Ck.numN (fun _ => true) k ||| 2 ^ k = _
    have h := Ck.numN_lt (fun _ => true) k
    have e := Nat.two_pow_add_eq_or_of_lt h 1
    rw [Nat.mul_one] at e
    rw [Nat.or_comm, ← e, Ck.numN_full k]
    have : 0 < 2 ^ k := Nat.two_pow_pos k
    rw [Nat.pow_succ]
    omega

theorem Ck.num_full {k : Nat} (hk : k ≤ 16) : Ck.num (fun _ => true) k = 2 ^ k - 1 := by
  rw [Ck.num_eq _ k hk, Ck.numN_full]
  have : 0 < 2 ^ k := Nat.two_pow_pos k
  rw [Int.natCast_sub (by omega)]
  simp

theorem Ck.num_range (f : Nat → Bool) {k : Nat} (hk : k ≤ 16) : 0 ≤ Ck.num f k ∧ Ck.num f k < 65536 := by
  have hl := Ck.numN_lt f k
  have hp : 2 ^ k ≤ 2 ^ 16 := Nat.pow_le_pow_right (by omega) hk
  rw [Ck.num_eq f k hk]
  omega

theorem Ck.bits_andNot (a b : Nat) (ha : a < 4294967296) : ∃ c : Nat, bits .andNot .u32 (a : Int) (b : Int) = (c : Int) ∧ c < 4294967296 ∧ ∀ i, c.testBit i = (a.testBit i && !b.testBit i) := by
  have e : bits .andNot .u32 (a : Int) (b : Int) = IntKind.u32.wrap (((BitVec.ofInt 32 (a : Int) &&& ~~~ BitVec.ofInt 32 (b : Int)).toNat : Nat) : Int) := rfl
  have ea : BitVec.ofInt 32 (a : Int) = BitVec.ofNat 32 a := by simp
  have eb : BitVec.ofInt 32 (b : Int) = BitVec.ofNat 32 b := by simp
  refine ⟨(BitVec.ofNat 32 a &&& ~~~ BitVec.ofNat 32 b).toNat, ?_, ?_, fun i => ?_⟩
  · rw [e, ea, eb]
    exact Ck.wrap32 _ (BitVec.isLt _)
  · exact BitVec.isLt _
  · rw [BitVec.testBit_toNat, BitVec.getLsbD_and, BitVec.getLsbD_not, BitVec.getLsbD_ofNat, BitVec.getLsbD_ofNat]
    by_cases h : i < 32
    · simp [h]
    · have : a.testBit i = false := Nat.testBit_lt_two_pow (by have := Nat.pow_le_pow_right (n := 2) (by omega) (show 32 ≤ i by omega); omega)
      simp [h, this]

/-- What lacks behind an Ack. -/
theorem Ck.num_less (f : Nat → Bool) {k : Nat} (hk : k ≤ 16) (b : Int) (h0 : 0 ≤ b) (h1 : b < 4294967296) : bits .andNot .u32 (Ck.num f k) b = Ck.num (fun i => f i && !Ck.bit b i) k := by
  obtain ⟨B, rfl⟩ : ∃ B : Nat, b = (B : Int) := ⟨b.toNat, by omega⟩
  have hB : B < 4294967296 := by omega
  have hl := Ck.numN_lt f k
  have hp : 2 ^ k ≤ 2 ^ 16 := Nat.pow_le_pow_right (by omega) hk
  rw [Ck.num_eq f k hk, Ck.num_eq _ k hk]
  obtain ⟨c, e1, -, e3⟩ := Ck.bits_andNot (Ck.numN f k) B (by omega)
  rw [e1]
  congr 1
  refine Nat.eq_of_testBit_eq fun i => ?_
  rw [e3, Ck.numN_bit, Ck.numN_bit, Ck.bit_eq B hB, Bool.and_assoc]

/-- What is there behind a Put. -/
theorem Ck.num_more (f : Nat → Bool) {k i : Nat} (hk : k ≤ 16) (hi : i < k) : bits .or .u32 (Ck.num f k) (2 ^ i) = Ck.num (Ck.put f i) k := by
  have hl := Ck.numN_lt f k
  have hp : 2 ^ k ≤ 2 ^ 16 := Nat.pow_le_pow_right (by omega) hk
  have hq : 2 ^ i ≤ 2 ^ 16 := Nat.pow_le_pow_right (by omega) (by omega)
  rw [Ck.num_eq f k hk, Ck.num_eq _ k hk, show (2 : Int) ^ i = ((2 ^ i : Nat) : Int) by simp, Ck.bits_or _ _ (by omega) (by omega)]
  congr 1
  refine Nat.eq_of_testBit_eq fun j => ?_
  rw [Nat.testBit_or, Ck.numN_bit, Ck.numN_bit, Nat.testBit_two_pow]
  unfold Ck.put
  by_cases e : j = i
  · subst e; simp [hi]
  · have e' : ¬ i = j := fun q => e q.symm
    simp [e, e']

theorem Ck.shift_one {k : Nat} (hk : k ≤ 16) : IntKind.u32.wrap (2 ^ k) = 2 ^ k := by
  have hp : 2 ^ k ≤ 2 ^ 16 := Nat.pow_le_pow_right (by omega) hk
  have e : (2 : Int) ^ k = ((2 ^ k : Nat) : Int) := by simp
  rw [e]
  exact Ck.wrap32 _ (by omega)

theorem Ck.wrap_less {k : Nat} (hk : k ≤ 16) : IntKind.u32.wrap (2 ^ k - 1) = 2 ^ k - 1 := by
  have h := Ck.num_range (fun _ => true) hk
  rw [Ck.num_full hk] at h
  have e : (2 : Int) ^ k - 1 = (((2 : Int) ^ k - 1).toNat : Int) := by omega
  rw [e]
  exact Ck.wrap32 _ (by omega)

end Go.Proofs.Ytnpdmfhknbfmhaa
