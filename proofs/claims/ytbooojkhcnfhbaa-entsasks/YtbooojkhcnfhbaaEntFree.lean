/-
  Entities that go, in ents: Free; a list of free rows that is made.
-/
import Derived.Test.YtbooojkhcnfhbaaEntGo
import Derived.Deep.RegionWith
namespace Go.Proofs.Ytbooojkhcnfhbaa
open Go.RowKit

/-- A free row: all zero but Gen. -/
def En.hole (g : Int) : Nat → Int := fun j => if j = 1 then g else 0

theorem free_out (b n c : Nat) (E : Nat → Nat → Int) (row : Int) (w : World) (hE : Ents w b n E) (hc : n ≤ c) (h : ¬ (0 ≤ row ∧ row < n)) :
    Calls Try.prog 12 #[.slice (some ⟨b, 0, none⟩) n c, .int .i64 row] w (Lists w n E) := by
  have hn := hE.1
  have cr : ∀ x : World, Calls Try.prog 29 #[.slice (some ⟨b, 0, none⟩) n c, .int .i64 row] x fun e w' => e = .returned (.bool false) ∧ w' = x := fun x => by
    have := isRow_any (some ⟨b, 0, none⟩) n c row x hn hc
    rwa [show En.isRow n row = false from decide_eq_false h] at this
  have ct := hide (twin_any b n c E w hE)
  clear hE h
  go_enter Try.func12, Try.ntmps12
  go_wp2_with (go_at_call 29; refine (cr _).mono ?_; rintro e w' ⟨rfl, hw⟩; subst w')
  refine (unhide ct).mono ?_
  rintro _ w1 ⟨g, cap, rfl, hfin⟩
  have hfin' := hide hfin
  clear hfin
  go_wp2
  go_ret
  exact ⟨g, cap, rfl, unhide hfin'⟩

theorem free_in (b n c k : Nat) (E : Nat → Nat → Int) (w : World) (hE : Ents w b n E) (hc : n ≤ c) (hk : k < n) :
    Calls Try.prog 12 #[.slice (some ⟨b, 0, none⟩) n c, .int .i64 (k : Int)] w (Lists w n (En.put E k (En.hole (E k 1)))) := by
  have hn := hE.1
  have cr : ∀ x : World, Calls Try.prog 29 #[.slice (some ⟨b, 0, none⟩) n c, .int .i64 (k : Int)] x fun e w' => e = .returned (.bool true) ∧ w' = x := fun x => by
    have := isRow_any (some ⟨b, 0, none⟩) n c (k : Int) x hn hc
    rwa [show En.isRow n (k : Int) = true from decide_eq_true (by omega)] at this
  have cw := hide (with_any b n c k E (En.hole (E k 1)) w hE hk)
  have u1 : w.cell? ⟨b, k * 11 + 1, none⟩ = some (.int .i64 (E k 1)) := hE.2.2 k 1 hk (by omega)
  have hk' : (k : Int) < (n : Int) := by omega
  clear hE
  go_enter Try.func12, Try.ntmps12
  go_wp2_with (go_at_call 29; refine (cr _).mono ?_; rintro e w' ⟨rfl, hw⟩; subst w')
  refine (unhide cw).mono ?_
  rintro _ w1 ⟨g, cap, rfl, hfin⟩
  have hfin' := hide hfin
  clear hfin u1
  go_wp2
  go_ret
  exact ⟨g, cap, rfl, unhide hfin'⟩

theorem madeCells_ent (n c : Nat) (hc : c < n * 11) : (madeCells (Value.agg #[.int .i64 0, .int .i64 0, .int .i64 0, .int .i64 0, .int .i64 0, .int .i64 0, .int .i64 0, .int .i64 0, .int .i64 0, .int .i64 0, .int .i64 0]).cells (n * 11))[c]? = some (.int .i64 0) := by
  have hm : c % 11 < 11 := by omega
  obtain ⟨m, hmm⟩ : ∃ m, m = c % 11 := ⟨_, rfl⟩
  unfold madeCells
  simp [hc, Value.cells]
  rw [← hmm] at hm ⊢
  rcases (show m = 0 ∨ m = 1 ∨ m = 2 ∨ m = 3 ∨ m = 4 ∨ m = 5 ∨ m = 6 ∨ m = 7 ∨ m = 8 ∨ m = 9 ∨ m = 10 by omega) with rfl | rfl | rfl | rfl | rfl | rfl | rfl | rfl | rfl | rfl | rfl <;> rfl

/-- A list of 32 free rows, made. -/
theorem make32 : ∃ Z : Array Value, (∀ w : World, (Instr.makeSlice 22 (.int .i64 32) (.int .i64 32)).run Try.prog w = .ok (.slice (some ⟨w.heap.size, 0, none⟩) 32 32) (w.alloc (.cells Z 24))) ∧
    ∀ w : World, Own (w.alloc (.cells Z 24)) w.heap.size 32 (fun _ _ => 0) := by
  obtain ⟨i0, hi, hz0, hz1, hz2⟩ := info_parts info_ent
  refine ⟨madeCells (Value.agg #[.int .i64 0, .int .i64 0, .int .i64 0, .int .i64 0, .int .i64 0, .int .i64 0, .int .i64 0, .int .i64 0, .int .i64 0, .int .i64 0, .int .i64 0]).cells (32 * 11), fun w => ?_, fun w => ?_⟩
  · have hr := run_make (P := Try.prog) w 22 24 i0 _ Try.underlying22 hi hz0 .i64 .i64 (32 : Nat) (32 : Nat) (by omega) (by omega) (by rw [hz2]; decide) (by decide)
    rw [hz1] at hr
    exact hr
  · refine ⟨by omega, _, _, Arr.lit (heap_alloc_new w _), by rw [size_madeCells]; omega, fun c hc => ?_⟩
    show (madeCells _ _)[c]?.getD undef = _
    rw [madeCells_ent 32 c hc]
    rfl

end Go.Proofs.Ytbooojkhcnfhbaa
