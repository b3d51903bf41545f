/-
  The law package's own 'known' answers true, and writes nothing that was there.
-/
import Derived.Test.YtlenpbkedefhjaaDice
namespace Go.Proofs.Ytlenpbkedefhjaa
open Go.RowKit

set_option maxHeartbeats 800000 in
theorem known_any (w : World) :
    Calls Try.prog 6 #[] w fun e w' => e = .returned (.bool true) ∧ Below w.heap.size w w' := by
  have c1 : ∀ w : World, Calls Try.prog 8 #[.int .i64 1, .int .i64 5, .slice (some ⟨w.heap.size, 0, none⟩) 1 1] (w.alloc (.cells #[.int .i64 1] 3)) fun e w' => e = .returned (.int .i64 0) ∧ w' = w.alloc (.cells #[.int .i64 1] 3) := by
    intro w
    have hd := Dc.die_bd 1 5 [1] (by omega)
    have h := die_row 1 5 _ 1 1 [1] _ (Row.one w 1 3) (by omega)
    rw [show Dc.die 1 5 [1] = 0 by omega] at h
    exact h
  obtain ⟨X, c2, c3⟩ : ∃ X : Int, (∀ w, Calls Try.prog 7 #[.int .i64 0, .slice none 0 0] w fun e w' => e = .returned (.int .u64 X) ∧ w' = w) ∧ ∀ w, Calls Try.prog 9 #[.int .i64 0, .slice none 0 0] w fun e w' => e = .returned (.int .u64 X) ∧ w' = w :=
    ⟨_, fun w => mix_none 0 none 0 w, fun w => refMix_none 0 none 0 w⟩
  obtain ⟨Y, c4, c5⟩ : ∃ Y : Int, (∀ (w : World) (B : Nat), B = w.heap.size → Calls Try.prog 7 #[.int .i64 1, .slice (some ⟨B, 0, none⟩) 1 1] (w.alloc (.cells #[.int .i64 2] 3)) fun e w' => e = .returned (.int .u64 Y) ∧ w' = w.alloc (.cells #[.int .i64 2] 3)) ∧ ∀ (w : World) (B : Nat), B = w.heap.size → Calls Try.prog 9 #[.int .i64 1, .slice (some ⟨B, 0, none⟩) 1 1] (w.alloc (.cells #[.int .i64 2] 3)) fun e w' => e = .returned (.int .u64 Y) ∧ w' = w.alloc (.cells #[.int .i64 2] 3) := by
    refine ⟨Dc.mix 1 [2], fun w B hB => ?_, fun w B hB => ?_⟩
    · subst hB
      exact mix_row 1 _ 1 1 [2] _ (Row.one w 2 3)
    · subst hB
      exact refMix_row 1 _ 1 1 [2] _ (Row.one w 2 3)
  go_enter Try.func6, Try.ntmps6
  go_wp2_with fail
  refine (c1 _).mono ?_
  rintro e w1 ⟨rfl, rfl⟩
  go_wp2_with fail
  refine (c2 _).mono ?_
  rintro e w2 ⟨rfl, rfl⟩
  go_wp2_with fail
  refine (c3 _).mono ?_
  rintro e w3 ⟨rfl, rfl⟩
  go_wp2_with fail
  refine (c4 _ _ (by simp)).mono ?_
  rintro e w4 ⟨rfl, rfl⟩
  go_wp2_with fail
  refine (c5 _ _ (by simp)).mono ?_
  rintro e w5 ⟨rfl, rfl⟩
  go_wp2
  go_ret
  refine ⟨rfl, ?_⟩
  exact (((Below.refl _ _).alloc (Nat.le_refl _) _).alloc (by simp) _).alloc (by simp; omega) _

end Go.Proofs.Ytlenpbkedefhjaa
