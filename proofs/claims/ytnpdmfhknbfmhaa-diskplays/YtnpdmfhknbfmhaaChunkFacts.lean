/-
  Plain facts on pieces: laid together they are the bytes; bits that say which are there.
-/
import Derived.Test.YtnpdmfhknbfmhaaChunkSplit
namespace Go.Proofs.Ytnpdmfhknbfmhaa
open Go.RowKit

theorem Ck.cat_pc (l : List Int) : ∀ k, Ck.cat (Ck.pc l) k = l.take (64 * k)
  | 0 => by simp [Ck.cat]
  | k + 1 => by
    show Ck.cat (Ck.pc l) k ++ Ck.pc l k = _
    rw [Ck.cat_pc l k]
    unfold Ck.pc
    rw [show 64 * (k + 1) = 64 * k + 64 by omega, List.take_add]

theorem Ck.cat_all (l : List Int) {k : Nat} (h : l.length ≤ 64 * k) : Ck.cat (Ck.pc l) k = l := by
  rw [Ck.cat_pc, List.take_of_length_le h]

theorem Ck.wrap32 (n : Nat) (h : n < 4294967296) : IntKind.u32.wrap (n : Int) = (n : Int) := by
  simp [IntKind.wrap, IntKind.bits, IntKind.signed]
  omega

theorem Ck.bits_or (a b : Nat) (ha : a < 4294967296) (hb : b < 4294967296) : bits .or .u32 (a : Int) (b : Int) = ((a ||| b : Nat) : Int) := by
  have e : bits .or .u32 (a : Int) (b : Int) = IntKind.u32.wrap (((BitVec.ofInt 32 (a : Int) ||| BitVec.ofInt 32 (b : Int)).toNat : Nat) : Int) := rfl
  rw [e, BitVec.toNat_or, BitVec.toNat_ofInt, BitVec.toNat_ofInt]
  rw [show ((a : Int) % ((2 ^ 32 : Nat) : Int)).toNat = a by omega, show ((b : Int) % ((2 ^ 32 : Nat) : Int)).toNat = b by omega]
  exact Ck.wrap32 _ (Nat.or_lt_two_pow (n := 32) ha hb)

theorem Ck.bits_and (a b : Nat) (ha : a < 4294967296) (hb : b < 4294967296) : bits .and .u32 (a : Int) (b : Int) = ((a &&& b : Nat) : Int) := by
  have e : bits .and .u32 (a : Int) (b : Int) = IntKind.u32.wrap (((BitVec.ofInt 32 (a : Int) &&& BitVec.ofInt 32 (b : Int)).toNat : Nat) : Int) := rfl
  rw [e, BitVec.toNat_and, BitVec.toNat_ofInt, BitVec.toNat_ofInt]
  rw [show ((a : Int) % ((2 ^ 32 : Nat) : Int)).toNat = a by omega, show ((b : Int) % ((2 ^ 32 : Nat) : Int)).toNat = b by omega]
  exact Ck.wrap32 _ (Nat.lt_of_le_of_lt Nat.and_le_left ha)

/-- Bit i of a number. -/
theorem Ck.bit_eq (N : Nat) (hN : N < 4294967296) (i : Nat) : Ck.bit (N : Int) i = N.testBit i := by
  unfold Ck.bit
  have e : (N : Int) / 2 ^ i = ((N / 2 ^ i : Nat) : Int) := by simp
  have hlt : N / 2 ^ i < 4294967296 := Nat.lt_of_le_of_lt (Nat.div_le_self _ _) hN
  rw [e, show (1 : Int) = ((1 : Nat) : Int) from rfl, Ck.bits_and _ _ hlt (by omega), Nat.testBit, Nat.shiftRight_eq_div_pow]
  rw [Nat.and_comm, Nat.one_and_eq_mod_two]
  rcases Nat.mod_two_eq_zero_or_one (N / 2 ^ i) with h | h <;> rw [h] <;> rfl

/-- The number of marks, as a natural one. -/
def Ck.numN (has : Nat → Bool) : Nat → Nat
  | 0 => 0
  | k + 1 => if has k = true then Ck.numN has k ||| 2 ^ k else Ck.numN has k

theorem Ck.numN_lt (has : Nat → Bool) : ∀ k, Ck.numN has k < 2 ^ k
  | 0 => by show 0 < 1; omega
  | k + 1 => by
    have ih := Ck.numN_lt has k
    show (if has k = true then Ck.numN has k ||| 2 ^ k else Ck.numN has k) < 2 ^ (k + 1)
    have h2 : 2 ^ (k + 1) = 2 * 2 ^ k := by rw [Nat.pow_succ]; omega
    split
    · exact Nat.or_lt_two_pow (by omega) (by omega)
    · omega

theorem Ck.num_eq (has : Nat → Bool) : ∀ k, k ≤ 16 → Ck.num has k = ((Ck.numN has k : Nat) : Int)
  | 0, _ => rfl
  | k + 1, hk => by
    have ih := Ck.num_eq has k (by omega)
    show (if has k = true then bits .or .u32 (Ck.num has k) (2 ^ k) else Ck.num has k) = ((if has k = true then Ck.numN has k ||| 2 ^ k else Ck.numN has k : Nat) : Int)
    have hp : 2 ^ k ≤ 2 ^ 16 := Nat.pow_le_pow_right (by omega) (by omega)
    have hl := Ck.numN_lt has k
    split
    · rw [ih, show (2 : Int) ^ k = ((2 ^ k : Nat) : Int) by simp, Ck.bits_or _ _ (by omega) (by omega)]
    · exact ih

theorem Ck.numN_bit (has : Nat → Bool) (i : Nat) : ∀ k, (Ck.numN has k).testBit i = (decide (i < k) && has i)
  | 0 => by simp [Ck.numN]
  | k + 1 => by
    have ih := Ck.numN_bit has i k
    show (if has k = true then Ck.numN has k ||| 2 ^ k else Ck.numN has k).testBit i = _
    by_cases e : i = k
    · subst e
      have hl : (Ck.numN has i).testBit i = false := by rw [ih]; simp
      cases h : has i with
      | true => simp [Nat.testBit_or]
      | false => simp [hl]
    · have hne : (2 ^ k).testBit i = false := by rw [Nat.testBit_two_pow]; simp; omega
      have hd : decide (i < k) = decide (i < k + 1) := decide_eq_decide.2 (by omega)
      split
      · rw [Nat.testBit_or, ih, hne, Bool.or_false, hd]
      · rw [ih, hd]

/-- Bit i of Bits says whether piece i is there. -/
theorem Ck.bit_num (has : Nat → Bool) {i : Nat} (hi : i < 16) : Ck.bit (Ck.num has 16) i = has i := by
  have hl := Ck.numN_lt has 16
  rw [Ck.num_eq has 16 (by omega), Ck.bit_eq _ (by omega), Ck.numN_bit]
  simp [hi]

end Go.Proofs.Ytnpdmfhknbfmhaa
