/-
  What may not be stays told; lists that are made of zeros.
-/
import Derived.Test.YtiegccdgoemamaaWireFit
namespace Go.Proofs.Ytiegccdgoemamaa
open Go.RowKit

/-- Something may not be. -/
def Wr.Bad (s : List Int × Int) : Prop := s.2 = 1

theorem Wr.encS_bad {s : List Int × Int} (h : Wr.Bad s) (n k lo hi : Int) : Wr.Bad (Wr.encS s n k lo hi).1 := by
  unfold Wr.encS Wr.Bad
  split
  · exact h
  · rfl

theorem Wr.encS_out {s : List Int × Int} {n k lo hi : Int} (h : ¬ (lo ≤ n ∧ n ≤ hi)) : Wr.Bad (Wr.encS s n k lo hi).1 := by
  unfold Wr.encS Wr.Bad
  rw [if_neg h]

theorem Wr.mapS_bad {each : List Int × Int → Int → (List Int × Int) × Int} (he : ∀ s a, Wr.Bad s → Wr.Bad (each s a).1) : ∀ (l : List Int) (s : List Int × Int), Wr.Bad s → Wr.Bad (Wr.mapS each s l).1
  | [], _, h => h
  | a :: l, s, h => Wr.mapS_bad he l _ (he s a h)

theorem Wr.listS_bad {each : List Int × Int → Int → (List Int × Int) × Int} (he : ∀ s a, Wr.Bad s → Wr.Bad (each s a).1) {s : List Int × Int} (h : Wr.Bad s) (n : Nat) (k most : Int) (z : Nat → Int) : Wr.Bad (Wr.listS Wr.encS each s n k most z).1 :=
  Wr.mapS_bad he _ _ (Wr.encS_bad h _ _ _ _)

theorem Wr.listS_long {each : List Int × Int → Int → (List Int × Int) × Int} (he : ∀ s a, Wr.Bad s → Wr.Bad (each s a).1) (s : List Int × Int) (n : Nat) (k most : Int) (z : Nat → Int) (h : most < (n : Int)) : Wr.Bad (Wr.listS Wr.encS each s n k most z).1 :=
  Wr.mapS_bad he _ _ (Wr.encS_out (by omega))

theorem Wr.st_bad {α : Type} {each : List Int × Int → α → (List Int × Int) × α} (he : ∀ s a, Wr.Bad s → Wr.Bad (each s a).1) {s : List Int × Int} (h : Wr.Bad s) (xs : Nat → α) : ∀ m, Wr.Bad (Wr.st each s xs m)
  | 0 => h
  | m + 1 => he _ _ (Wr.st_bad he h xs m)

theorem Wr.input_bad (s : List Int × Int) (a : Int) (h : Wr.Bad s) : Wr.Bad (Wr.input Wr.encS s a).1 := Wr.encS_bad h _ _ _ _
theorem Wr.datum_bad (s : List Int × Int) (a : Int) (h : Wr.Bad s) : Wr.Bad (Wr.datum Wr.encS s a).1 := Wr.encS_bad h _ _ _ _
theorem Wr.num_bad (s : List Int × Int) (a : Int) (h : Wr.Bad s) : Wr.Bad (Wr.encS s a 4 0 1073741823).1 := Wr.encS_bad h _ _ _ _

theorem Wr.recS_bad (s : List Int × Int) (r : Nat → Int) (h : Wr.Bad s) : Wr.Bad (Wr.recS Wr.encS s r).1 := by
  unfold Wr.recS Wr.input
  dsimp only
  have h0 := Wr.encS_bad h (r 0) 1 1 3
  split
  · exact Wr.encS_bad h0 _ _ _ _
  · split
    · split
      · exact Wr.encS_bad (Wr.encS_bad (Wr.encS_bad h0 _ _ _ _) _ _ _ _) _ _ _ _
      · exact Wr.encS_bad (Wr.encS_bad h0 _ _ _ _) _ _ _ _
    · exact h0

theorem Wr.seatsT_bad {s : List Int × Int} (h : Wr.Bad s) (a : Nat → Int) (n : Nat → Nat) (z : Nat → Nat → Int) : ∀ m, Wr.Bad (Wr.seatsT Wr.encS s a n z m)
  | 0 => h
  | m + 1 => Wr.listS_bad Wr.input_bad (Wr.encS_bad (Wr.seatsT_bad h a n z m) _ _ _ _) _ _ _ _

theorem Wr.listR_bad {s : List Int × Int} (h : Wr.Bad s) (n : Nat) (z : Nat → Nat → Int) : Wr.Bad (Wr.listR Wr.encS s n z).1 :=
  Wr.st_bad Wr.recS_bad (Wr.encS_bad h _ _ _ _) _ _

theorem Wr.listR_long (s : List Int × Int) (n : Nat) (z : Nat → Nat → Int) (h : 400 < n) : Wr.Bad (Wr.listR Wr.encS s n z).1 :=
  Wr.st_bad Wr.recS_bad (Wr.encS_out (by omega)) _ _

theorem Wr.upS_bad {s : List Int × Int} (h : Wr.Bad s) (g : Wr.G) (z : Nat → Int) : Wr.Bad (Wr.upS Wr.encS s g z).1 := by
  unfold Wr.upS
  dsimp only
  exact Wr.listS_bad Wr.input_bad (Wr.encS_bad (Wr.encS_bad (Wr.st_bad Wr.num_bad (Wr.encS_bad (Wr.encS_bad h _ _ _ _) _ _ _ _) _ _) _ _ _ _) _ _ _ _) _ _ _ _

theorem Wr.upS_long (s : List Int × Int) (g : Wr.G) (z : Nat → Int) (h : 255 < (g.row 0).2.1) : Wr.Bad (Wr.upS Wr.encS s g z).1 := by
  unfold Wr.upS
  dsimp only
  exact Wr.listS_long Wr.input_bad _ _ _ _ _ (by omega)

theorem Wr.upS_eleven (s : List Int × Int) (g : Wr.G) (z : Nat → Int) (h : (g.row 0).2.1 = 1) (hz : z 0 = 11) : Wr.Bad (Wr.upS Wr.encS s g z).1 := by
  unfold Wr.upS
  dsimp only
  rw [h]
  unfold Wr.listS
  obtain ⟨-, e⟩ := Wr.encS_fits (Wr.encS (Wr.encS (Wr.st (fun t n => Wr.encS t n 4 0 1073741823) (Wr.encS (Wr.encS s g.bits 4 0 4294967295).1 (g.n 5) 4 0 1073741823).1 (fun i => g.n (6 + i)) 4) (g.n 10) 4 0 1073741823).1 (g.n 11) 4 0 1073741823).1 1 1 0 255 (by omega)
  have e' : (Wr.encS (Wr.encS (Wr.encS (Wr.st (fun t n => Wr.encS t n 4 0 1073741823) (Wr.encS (Wr.encS s g.bits 4 0 4294967295).1 (g.n 5) 4 0 1073741823).1 (fun i => g.n (6 + i)) 4) (g.n 10) 4 0 1073741823).1 (g.n 11) 4 0 1073741823).1 ((1 : Nat) : Int) 1 0 255).2 = 1 := e
  rw [e']
  show Wr.Bad (Wr.mapS (Wr.input Wr.encS) _ [z 0]).1
  rw [hz]
  exact Wr.encS_out (n := 11) (k := 1) (lo := 0) (hi := 10) (by omega)

theorem Wr.chunkS_bad {s : List Int × Int} (h : Wr.Bad s) (g : Wr.G) (z : Nat → Int) : Wr.Bad (Wr.chunkS Wr.encS s g z).1 := by
  unfold Wr.chunkS
  dsimp only
  exact Wr.listS_bad Wr.datum_bad (Wr.encS_bad (Wr.encS_bad (Wr.encS_bad h _ _ _ _) _ _ _ _) _ _ _ _) _ _ _ _

theorem Wr.chunkS_long (s : List Int × Int) (g : Wr.G) (z : Nat → Int) (h : 64 < g.data.2.1) : Wr.Bad (Wr.chunkS Wr.encS s g z).1 := by
  unfold Wr.chunkS
  dsimp only
  exact Wr.listS_long Wr.datum_bad _ _ _ _ _ (by omega)

theorem Wr.chunkS_index (s : List Int × Int) (g : Wr.G) (z : Nat → Int) (h27 : g.n 27 = 3) (h28 : g.n 28 = 3) : Wr.Bad (Wr.chunkS Wr.encS s g z).1 := by
  unfold Wr.chunkS
  dsimp only
  obtain ⟨-, e⟩ := Wr.encS_fits (Wr.encS s (g.n 15) 4 0 1073741823).1 (g.n 27) 1 0 255 (by omega)
  have e' : (Wr.encS (Wr.encS s (g.n 15) 4 0 1073741823).1 (g.n 27) 1 0 255).2 = g.n 27 := e
  have hw : wrap64 (3 + 1) = 4 := by unfold wrap64; omega
  rw [e', h27, h28, hw]
  exact Wr.listS_bad Wr.datum_bad (Wr.encS_out (by decide)) _ _ _ _

theorem Wr.downS_bad {s : List Int × Int} (h : Wr.Bad s) (g : Wr.G) (zr z : Nat → Nat → Int) : Wr.Bad (Wr.downS Wr.encS s g zr z).1 := by
  unfold Wr.downS
  dsimp only
  exact Wr.encS_bad (Wr.seatsT_bad (Wr.listR_bad (Wr.encS_bad (Wr.encS_bad (Wr.encS_bad (Wr.encS_bad h _ _ _ _) _ _ _ _) _ _ _ _) _ _ _ _) _ _) _ _ _ _) _ _ _ _

theorem Wr.downS_long (s : List Int × Int) (g : Wr.G) (zr z : Nat → Nat → Int) (h : 400 < g.recs.2.1) : Wr.Bad (Wr.downS Wr.encS s g zr z).1 := by
  unfold Wr.downS
  dsimp only
  exact Wr.encS_bad (Wr.seatsT_bad (Wr.listR_long _ _ _ h) _ _ _ _) _ _ _ _

theorem Wr.downS_stage (s : List Int × Int) (g : Wr.G) (zr z : Nat → Nat → Int) (h : g.n 13 = 8) : Wr.Bad (Wr.downS Wr.encS s g zr z).1 := by
  unfold Wr.downS
  dsimp only
  exact Wr.encS_bad (Wr.seatsT_bad (Wr.listR_bad (Wr.encS_bad (Wr.encS_bad (Wr.encS_bad (Wr.encS_out (by omega)) _ _ _ _) _ _ _ _) _ _ _ _) _ _) _ _ _ _) _ _ _ _

theorem Wr.downS_seat (s : List Int × Int) (g : Wr.G) (zr z : Nat → Nat → Int) (h : g.n 14 = 4) : Wr.Bad (Wr.downS Wr.encS s g zr z).1 := by
  unfold Wr.downS
  dsimp only
  rw [h]
  exact Wr.encS_bad (Wr.seatsT_bad (Wr.listR_bad (Wr.encS_bad (Wr.encS_bad (Wr.encS_out (by decide)) _ _ _ _) _ _ _ _) _ _) _ _ _ _) _ _ _ _

theorem Wr.headS_bad (s : List Int × Int) (g : Wr.G) (h : 1073741823 < g.n 2) : Wr.Bad (Wr.headS Wr.encS s g).1 := by
  unfold Wr.headS
  dsimp only
  exact Wr.encS_out (by omega)

theorem Wr.joinS_bad (s : List Int × Int) (g : Wr.G) (h : 1073741823 < g.n 2) : Wr.Bad (Wr.joinS Wr.encS s g).1 := by
  unfold Wr.joinS
  dsimp only
  exact Wr.encS_bad (Wr.encS_out (by omega)) _ _ _ _

theorem Wr.written_bad {y y2 : World} {R : List Int × Int} {e : Ending} (h : Wr.Written y R e y2) (hp : Wr.Bad R) : e = .returned (.tuple #[.slice none 0 0, .int .i64 1]) ∧ y.grownBy y2 none := by
  obtain ⟨ht, hw⟩ := h
  have e0 : R.2 = 1 := hp
  rw [e0, if_neg (by decide)] at hw
  exact ⟨hw, ⟨ht.os, ht.tape, ht.output, ht.size, fun k hk _ => ht.block k hk (fun q => q)⟩⟩

theorem Wr.info_byte : (Try.prog.info? 5).map (fun i => (i.zero, i.size, i.bytes)) = some (some (.int .u8 0), 1, 1) := by kernel_rfl

theorem Wr.make_ints : ∃ Z : Array Value, (∀ w : World, (Instr.makeSlice 24 (.int .i64 256) (.int .i64 256)).run Try.prog w = .ok (.slice (some ⟨w.heap.size, 0, none⟩) 256 256) (w.alloc (.cells Z 3))) ∧ ∀ i, i < 256 → Z[i]? = some (.int .i64 0) := by
  obtain ⟨i0, hi, hz0, hz1, hz2⟩ := info_parts Wr.info_int
  refine ⟨madeCells (Value.int .i64 0).cells (256 * 1), fun w => ?_, fun i hi => ?_⟩
  · have hr := run_make (P := Try.prog) w 24 3 i0 _ Try.underlying24 hi hz0 .i64 .i64 (256 : Nat) (256 : Nat) (by omega) (by omega) (by rw [hz2]; decide) (by decide)
    rw [hz1] at hr
    exact hr
  · unfold madeCells
    simp [hi, Value.cells, Nat.mod_one]

theorem Wr.make_bytes : ∃ Z : Array Value, (∀ w : World, (Instr.makeSlice 27 (.int .i64 65) (.int .i64 65)).run Try.prog w = .ok (.slice (some ⟨w.heap.size, 0, none⟩) 65 65) (w.alloc (.cells Z 5))) ∧ ∀ i, i < 65 → Z[i]? = some (.int .u8 0) := by
  obtain ⟨i0, hi, hz0, hz1, hz2⟩ := info_parts Wr.info_byte
  refine ⟨madeCells (Value.int .u8 0).cells (65 * 1), fun w => ?_, fun i hi => ?_⟩
  · have hr := run_make (P := Try.prog) w 27 5 i0 _ Try.underlying27 hi hz0 .i64 .i64 (65 : Nat) (65 : Nat) (by omega) (by omega) (by rw [hz2]; decide) (by decide)
    rw [hz1] at hr
    exact hr
  · unfold madeCells
    simp [hi, Value.cells, Nat.mod_one]

theorem Wr.make_recs : ∃ Z : Array Value, (∀ w : World, (Instr.makeSlice 25 (.int .i64 401) (.int .i64 401)).run Try.prog w = .ok (.slice (some ⟨w.heap.size, 0, none⟩) 401 401) (w.alloc (.cells Z 50))) ∧ ∀ i, i < 2005 → Z[i]? = some (.int .i64 0) := by
  obtain ⟨i0, hi, hz0, hz1, hz2⟩ := info_parts Wr.info_rec
  refine ⟨madeCells (Value.agg #[.int .i64 0, .int .i64 0, .int .i64 0, .int .i64 0, .int .i64 0]).cells (401 * 5), fun w => ?_, fun i hi => ?_⟩
  · have hr := run_make (P := Try.prog) w 25 50 i0 _ Try.underlying25 hi hz0 .i64 .i64 (401 : Nat) (401 : Nat) (by omega) (by omega) (by rw [hz2]; decide) (by decide)
    rw [hz1] at hr
    exact hr
  · have hm : i % 5 < 5 := by omega
    obtain ⟨m, hmm⟩ : ∃ m, m = i % 5 := ⟨_, rfl⟩
    unfold madeCells
    simp [hi, Value.cells]
    rw [← hmm] at hm ⊢
    rcases (show m = 0 ∨ m = 1 ∨ m = 2 ∨ m = 3 ∨ m = 4 by omega) with rfl | rfl | rfl | rfl | rfl <;> rfl

end Go.Proofs.Ytiegccdgoemamaa
