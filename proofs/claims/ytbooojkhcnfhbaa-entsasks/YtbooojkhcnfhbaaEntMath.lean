/-
  Rows, free ones and ids, as numbers: how many are not free; that an id is one row's alone.
-/
import Derived.Test.YtbooojkhcnfhbaaEntKnown
namespace Go.Proofs.Ytbooojkhcnfhbaa
open Go.RowKit

/-- The first k rows hold fresh ones, the others are free and were never taken. -/
def En.Full (k : Nat) (E : Nat → Nat → Int) : Prop := (∀ j, j < k → E j 0 ≠ 0 ∧ E j 1 = 1) ∧ ∀ j, k ≤ j → E j 0 = 0 ∧ E j 1 = 0

theorem En.Full.zero : En.Full 0 (fun _ _ => 0) := ⟨fun j h => by omega, fun _ _ => ⟨rfl, rfl⟩⟩

theorem En.stats_kind {K : Int} (h : 1 ≤ K ∧ K ≤ 4) : En.stats K 0 = K := if_pos h

theorem En.Full.next {k : Nat} {E : Nat → Nat → Int} {K : Int} (h : En.Full k E) (hK : 1 ≤ K ∧ K ≤ 4) : En.Full (k + 1) (En.put E k (En.gen (En.stats K) 1)) := by
  refine ⟨fun j hj => ?_, fun j hj => ?_⟩
  · by_cases e : j = k
    · subst e
      rw [En.put_same]
      refine ⟨?_, rfl⟩
      show En.stats K 0 ≠ 0
      rw [En.stats_kind hK]
      omega
    · rw [En.put_other e]
      exact h.1 j (by omega)
  · rw [En.put_other (by omega)]
    exact h.2 j (by omega)

theorem En.Full.gens {k : Nat} {E : Nat → Nat → Int} (h : En.Full k E) : En.Gens 32 E := fun i _ => by
  by_cases e : i < k
  · rw [(h.1 i e).2]; omega
  · rw [(h.2 i (by omega)).2]; omega

theorem En.Full.first {k : Nat} {E : Nat → Nat → Int} (h : En.Full k E) (hk : k < 32) : En.first (En.freeQ E) 32 = (k : Int) :=
  En.first_hit (fun j hj => decide_eq_false (h.1 j hj).1) (decide_eq_true (h.2 k (Nat.le_refl _)).1) hk

theorem En.Full.stop {E : Nat → Nat → Int} (h : En.Full 32 E) : En.first (En.freeQ E) 32 = -1 :=
  En.first_none (fun j hj => decide_eq_false (h.1 j hj).1)

theorem spawn_next (b c k : Nat) (E : Nat → Nat → Int) (K : Int) (x : World) (hE : Ents x b 32 E) (hc : 32 ≤ c) (hF : En.Full k E) (hk : k < 32) (hK : 1 ≤ K ∧ K ≤ 4) :
    Calls Try.prog 9 #[.slice (some ⟨b, 0, none⟩) 32 c, .agg (En.cells (En.stats K))] x (Spawns x 32 (En.put E k (En.gen (En.stats K) 1)) k) := by
  have h := spawn_some b 32 c k E (En.stats K) x hE hc (by rw [En.stats_kind hK]; exact hK) (hF.first hk) hk hF.gens
  rwa [(hF.2 k (Nat.le_refl _)).2] at h

theorem spawn_stop (b c : Nat) (E : Nat → Nat → Int) (K : Int) (x : World) (hE : Ents x b 32 E) (hc : 32 ≤ c) (hF : En.Full 32 E) (hK : 1 ≤ K ∧ K ≤ 4) :
    Calls Try.prog 9 #[.slice (some ⟨b, 0, none⟩) 32 c, .agg (En.cells (En.stats K))] x (Says x (.tuple #[.slice none 0 0, .int .i64 0, .int .i64 5])) :=
  spawn_full b 32 c E (En.stats K) x hE hc (by rw [En.stats_kind hK]; exact hK) hF.stop

theorem free_full (b c r : Nat) (E : Nat → Nat → Int) (x : World) (hE : Ents x b 32 E) (hc : 32 ≤ c) (hF : En.Full 32 E) (hr : r < 32) :
    Calls Try.prog 12 #[.slice (some ⟨b, 0, none⟩) 32 c, .int .i64 (r : Int)] x (Lists x 32 (En.put E r (En.hole 1))) := by
  have h := free_in b 32 c r E x hE hc hr
  rwa [(hF.1 r hr).2] at h

theorem spawn_again (b c r : Nat) (E : Nat → Nat → Int) (K : Int) (x : World) (hE : Ents x b 32 (En.put E r (En.hole 1))) (hc : 32 ≤ c) (hF : En.Full 32 E) (hr : r < 32) (hK : 1 ≤ K ∧ K ≤ 4) :
    Calls Try.prog 9 #[.slice (some ⟨b, 0, none⟩) 32 c, .agg (En.cells (En.stats K))] x (Spawns x 32 (En.put (En.put E r (En.hole 1)) r (En.gen (En.stats K) 2)) r) := by
  have h := spawn_some b 32 c r (En.put E r (En.hole 1)) (En.stats K) x hE hc (by rw [En.stats_kind hK]; exact hK) (En.first_hit (fun j hj => decide_eq_false (by rw [En.put_other (by omega)]; exact (hF.1 j (by omega)).1)) (decide_eq_true (by rw [En.put_same]; rfl)) hr) hr (fun i hi => by
    by_cases e : i = r
    · rw [e, En.put_same]; exact ⟨by decide, by decide⟩
    · rw [En.put_other e, (hF.1 i hi).2]; omega)
  rw [En.put_same] at h
  exact h

/-- How many of the first rows are not free. -/
def En.live (E : Nat → Nat → Int) : Nat → Int
  | 0 => 0
  | m + 1 => En.live E m + (if E m 0 = 0 then 0 else 1)

theorem En.live_le (E : Nat → Nat → Int) : ∀ m : Nat, 0 ≤ En.live E m ∧ En.live E m ≤ m
  | 0 => ⟨Int.le_refl _, Int.le_refl _⟩
  | m + 1 => by
      have := En.live_le E m
      unfold En.live
      split <;> omega

theorem En.live_all {E : Nat → Nat → Int} : ∀ {m : Nat}, En.live E m = m → ∀ j, j < m → E j 0 ≠ 0
  | 0, _, j, hj => by omega
  | m + 1, h, j, hj => by
      have hl := En.live_le E m
      unfold En.live at h
      by_cases e : E m 0 = 0
      · rw [if_pos e] at h; omega
      · rw [if_neg e] at h
        by_cases ej : j = m
        · rw [ej]; exact e
        · exact En.live_all (m := m) (by omega) j (by omega)

theorem En.live_none {E : Nat → Nat → Int} : ∀ {m : Nat}, (∀ j, j < m → E j 0 ≠ 0) → En.live E m = m
  | 0, _ => rfl
  | m + 1, h => by
      unfold En.live
      rw [if_neg (h m (by omega)), En.live_none (fun j hj => h j (by omega))]
      omega

theorem En.live_zero : ∀ m : Nat, En.live (fun _ _ => 0) m = 0
  | 0 => rfl
  | m + 1 => by
      unfold En.live
      rw [En.live_zero m]
      simp

theorem En.live_past {E : Nat → Nat → Int} {k : Nat} {e : Nat → Int} : ∀ {m : Nat}, m ≤ k → En.live (En.put E k e) m = En.live E m
  | 0, _ => rfl
  | m + 1, h => by
      unfold En.live
      rw [En.live_past (by omega), En.put_other (by omega)]

theorem En.live_put {E : Nat → Nat → Int} {k : Nat} {e : Nat → Int} : ∀ {m : Nat}, k < m → En.live (En.put E k e) m = En.live E m + (if e 0 = 0 then 0 else 1) - (if E k 0 = 0 then 0 else 1)
  | 0, h => by omega
  | m + 1, h => by
      unfold En.live
      by_cases e : k = m
      · subst e
        rw [En.live_past (Nat.le_refl _), En.put_same]
        omega
      · rw [En.live_put (by omega), En.put_other (by omega)]
        omega

/-- An id is one row's alone. -/
theorem En.id_one {i k : Nat} {g h : Int} (hi : i < 32) (hk : k < 32) (e : (i : Int) + 32 * g = (k : Int) + 32 * h) : i = k := by omega

theorem En.of_id {E : Nat → Nat → Int} {k : Nat} (hk : k < 32) (h : E k 0 ≠ 0) : En.first (En.ofQ E ((k : Int) + 32 * E k 1)) 32 = (k : Int) :=
  En.first_hit (fun j hj => by
    by_cases e : E j 0 = 0
    · exact En.ofQ_free e
    · rw [En.ofQ_some e]
      exact decide_eq_false (fun e2 => by have := En.id_one (by omega) hk e2; omega)) (by rw [En.ofQ_some h]; exact decide_eq_true rfl) hk

theorem En.of_gone {E : Nat → Nat → Int} {k : Nat} {g : Int} (hk : k < 32) (h : E k 0 = 0) : En.first (En.ofQ E ((k : Int) + 32 * g)) 32 = -1 :=
  En.first_none (fun j hj => by
    by_cases e : E j 0 = 0
    · exact En.ofQ_free e
    · rw [En.ofQ_some e]
      exact decide_eq_false (fun e2 => by have := En.id_one hj hk e2; subst this; exact e h))

theorem En.Gens.spawn {E : Nat → Nat → Int} (h : En.Gens 32 E) (k : Nat) (e : Nat → Int) : En.Gens 32 (En.put E k (En.gen e ((E k 1 + 1) % 256))) := fun i hi => by
  by_cases e1 : i = k
  · rw [e1, En.put_same]
    show 0 ≤ (E k 1 + 1) % 256 ∧ (E k 1 + 1) % 256 ≤ 255
    omega
  · rw [En.put_other e1]
    exact h i hi

theorem En.Gens.free {E : Nat → Nat → Int} (h : En.Gens 32 E) (k : Nat) : En.Gens 32 (En.put E k (En.hole (E k 1))) := fun i hi => by
  by_cases e1 : i = k
  · rw [e1, En.put_same]
    show 0 ≤ E k 1 ∧ E k 1 ≤ 255
    subst e1
    exact h i hi
  · rw [En.put_other e1]
    exact h i hi

theorem En.live_spawn {E : Nat → Nat → Int} {k : Nat} {K g : Int} (hk : k < 32) (hf : E k 0 = 0) (hK : 1 ≤ K ∧ K ≤ 4) : En.live (En.put E k (En.gen (En.stats K) g)) 32 = En.live E 32 + 1 := by
  rw [En.live_put hk, if_pos hf, if_neg (show ¬ En.gen (En.stats K) g 0 = 0 by show ¬ En.stats K 0 = 0; rw [En.stats_kind hK]; omega)]
  omega

theorem En.live_free {E : Nat → Nat → Int} {k : Nat} {g : Int} (hk : k < 32) (hf : E k 0 ≠ 0) : En.live (En.put E k (En.hole g)) 32 = En.live E 32 - 1 := by
  rw [En.live_put hk, if_neg hf, if_pos (show En.hole g 0 = 0 from rfl)]
  omega

theorem En.live_same {E : Nat → Nat → Int} {k : Nat} {g : Int} (hk : k < 32) (hf : E k 0 = 0) : En.live (En.put E k (En.hole g)) 32 = En.live E 32 := by
  rw [En.live_put hk, if_pos hf, if_pos (show En.hole g 0 = 0 from rfl)]
  omega

end Go.Proofs.Ytbooojkhcnfhbaa
