/-
  Fields over floors where little is in the way: rows and columns between two cells.
-/
import Derived.Test.YtfmiaenpmbbknabGridBfs
namespace Go.Proofs.Ytfmiaenpmbbknab

namespace Gr

/-- Rows and columns between two cells. -/
def manh (a i : Nat) : Int := max ((a % 24 : Nat) - (i % 24 : Nat) : Int) (-((a % 24 : Nat) - (i % 24 : Nat) : Int)) + max ((a / 24 : Nat) - (i / 24 : Nat) : Int) (-((a / 24 : Nat) - (i / 24 : Nat) : Int))

theorem nb_xy {i d : Nat} (h : nbIn i d) : ((nbOf i d % 24 : Nat) : Int) = (i % 24 : Nat) + dxOf d ∧ ((nbOf i d / 24 : Nat) : Int) = (i / 24 : Nat) + dyOf d := by
  have e := nb_eq h
  unfold nbIn at h
  omega

theorem d_way (d : Nat) (h : d < 4) : (dxOf d = 0 ∧ dyOf d = -1) ∨ (dxOf d = 1 ∧ dyOf d = 0) ∨ (dxOf d = 0 ∧ dyOf d = 1) ∨ (dxOf d = -1 ∧ dyOf d = 0) := by
  match d, h with
  | 0, _ | 1, _ | 2, _ | 3, _ => decide

theorem manh_0 (a i : Nat) : 0 ≤ manh a i := by unfold manh; omega

theorem manh_same {a i : Nat} : manh a i = 0 ↔ a = i := by unfold manh; omega

theorem manh_step {a i d : Nat} (hd : d < 4) (h : nbIn i d) : manh a (nbOf i d) ≤ manh a i + 1 ∧ manh a i ≤ manh a (nbOf i d) + 1 := by
  obtain ⟨e1, e2⟩ := nb_xy h
  have := d_way d hd
  unfold manh
  omega

/-- A way that leads nearer; toward the column first. -/
theorem manh_near {a i : Nat} (ha : a < 384) (hi : i < 384) (h : a ≠ i) : ∃ d, d < 4 ∧ nbIn i d ∧ manh a (nbOf i d) = manh a i - 1 ∧
    ((a % 24 < i % 24 ∧ (nbOf i d % 24 : Nat) + 1 = i % 24 ∧ nbOf i d / 24 = i / 24) ∨ (i % 24 < a % 24 ∧ (nbOf i d % 24 : Nat) = i % 24 + 1 ∧ nbOf i d / 24 = i / 24) ∨ (a % 24 = i % 24 ∧ nbOf i d % 24 = i % 24)) := by
  by_cases hx : a % 24 < i % 24
  · have hn : nbIn i 3 := by unfold nbIn; simp only [dxOf, dyOf]; omega
    obtain ⟨e1, e2⟩ := nb_xy hn
    simp only [dxOf, dyOf] at e1 e2
    exact ⟨3, by omega, hn, by unfold manh; omega, .inl ⟨hx, by omega, by omega⟩⟩
  · by_cases hx2 : i % 24 < a % 24
    · have hn : nbIn i 1 := by unfold nbIn; simp only [dxOf, dyOf]; omega
      obtain ⟨e1, e2⟩ := nb_xy hn
      simp only [dxOf, dyOf] at e1 e2
      exact ⟨1, by omega, hn, by unfold manh; omega, .inr (.inl ⟨hx2, by omega, by omega⟩)⟩
    · by_cases hy : a / 24 < i / 24
      · have hn : nbIn i 0 := by unfold nbIn; simp only [dxOf, dyOf]; omega
        obtain ⟨e1, e2⟩ := nb_xy hn
        simp only [dxOf, dyOf] at e1 e2
        exact ⟨0, by omega, hn, by unfold manh; omega, .inr (.inr ⟨by omega, by omega⟩)⟩
      · have hn : nbIn i 2 := by unfold nbIn; simp only [dxOf, dyOf]; omega
        obtain ⟨e1, e2⟩ := nb_xy hn
        simp only [dxOf, dyOf] at e1 e2
        exact ⟨2, by omega, hn, by unfold manh; omega, .inr (.inr ⟨by omega, by omega⟩)⟩

/-- Where nothing is in the way. -/
theorem open_field {op tg : Nat → Prop} (a b : Nat) (ha : a < 384) (hb : b < 384) (hop : ∀ i, i < 384 → op i) (htg : ∀ i, i < 384 → (tg i ↔ a = i ∨ b = i)) : IsField op tg fun i => min (manh a i) (manh b i) := by
  refine ⟨fun i _ => ?_, fun i hi => ?_, fun i hi hp => ⟨hop i hi, ?_⟩, fun j hj _ d hd hn _ => ?_⟩
  · have := manh_0 a i
    have := manh_0 b i
    omega
  · rw [htg i hi, ← manh_same, ← manh_same]
    have := manh_0 a i
    have := manh_0 b i
    omega
  · have key : ∀ c, c < 384 → manh c i = min (manh a i) (manh b i) → (c = a ∨ c = b) → ∃ j d, j < 384 ∧ d < 4 ∧ nbIn j d ∧ nbOf j d = i ∧ min (manh a j) (manh b j) = min (manh a i) (manh b i) - 1 := by
      intro c hc hm hor
      obtain ⟨d, hd, hn, hm1, _⟩ := manh_near (a := c) hc hi (fun e => by have h := manh_same.2 e; omega)
      obtain ⟨h1, h2⟩ := nb_back hi hd hn
      refine ⟨nbOf i d, opp d, nb_lt hn, opp_lt hd, h1, h2, ?_⟩
      have s1 := manh_step (a := a) hd hn
      have s2 := manh_step (a := b) hd hn
      rcases hor with rfl | rfl <;> omega
    by_cases h : manh a i ≤ manh b i
    · exact key a ha (by omega) (.inl rfl)
    · exact key b hb (by omega) (.inr rfl)
  · have s1 := manh_step (a := a) hd hn
    have s2 := manh_step (a := b) hd hn
    have := manh_0 a (nbOf j d)
    have := manh_0 b (nbOf j d)
    show 0 ≤ min (manh a (nbOf j d)) (manh b (nbOf j d)) ∧ min (manh a (nbOf j d)) (manh b (nbOf j d)) ≤ min (manh a j) (manh b j) + 1
    omega

/-- Behind a wall from edge to edge nothing is reached. -/
theorem wall_field {op tg : Nat → Prop} (a col : Nat) (ha : a < 384) (ha0 : a % 24 < col) (hop : ∀ i, i < 384 → (op i ↔ i % 24 ≠ col)) (htg : ∀ i, i < 384 → (tg i ↔ a = i)) : IsField op tg fun i => if i % 24 < col then manh a i else -1 := by
  refine ⟨fun i _ => ?_, fun i hi => ?_, fun i hi hp => ?_, fun j hj h0 d hd hn ho => ?_⟩
  · have := manh_0 a i
    by_cases h : i % 24 < col
    · simp only [if_pos h]; omega
    · simp only [if_neg h]; omega
  · rw [htg i hi, ← manh_same]
    by_cases h : i % 24 < col
    · simp only [if_pos h]
    · simp only [if_neg h]
      constructor
      · intro h'; omega
      · intro h'; have := manh_same.1 h'; subst this; omega
  · by_cases h : i % 24 < col
    · simp only [if_pos h] at hp ⊢
      refine ⟨(hop i hi).2 (by omega), ?_⟩
      obtain ⟨d, hd, hn, hm1, hc⟩ := manh_near (a := a) ha hi (fun e => by have h := manh_same.2 e; omega)
      obtain ⟨h1, h2⟩ := nb_back hi hd hn
      refine ⟨nbOf i d, opp d, nb_lt hn, opp_lt hd, h1, h2, ?_⟩
      rw [if_pos (by omega)]
      exact hm1
    · simp only [if_neg h] at hp; omega
  · by_cases h : j % 24 < col
    · simp only [if_pos h]
      have hnc := (hop _ (nb_lt hn)).1 ho
      obtain ⟨e1, e2⟩ := nb_xy hn
      have := d_way d hd
      have s := manh_step (a := a) hd hn
      have := manh_0 a (nbOf j d)
      rw [if_pos (by omega)]
      omega
    · simp only [if_neg h] at h0; omega

/-- Through one gap all is reached. -/
theorem gap_field {op tg : Nat → Prop} (a p col : Nat) (ha : a < 384) (ha0 : a % 24 < col) (hp : p < 384) (hpc : p % 24 = col) (hop : ∀ i, i < 384 → (op i ↔ i % 24 ≠ col ∨ i = p)) (htg : ∀ i, i < 384 → (tg i ↔ a = i)) :
    IsField op tg fun i => if i % 24 < col then manh a i else if i = p then manh a p else if col < i % 24 then manh a p + manh p i else -1 := by
  have hap : 0 < manh a p := by
    have h0 := manh_0 a p
    have h1 : manh a p ≠ 0 := fun e => by have := manh_same.1 e; subst this; omega
    omega
  obtain ⟨H, hH⟩ : ∃ H : Nat → Int, H = fun i => if i % 24 < col then manh a i else if i = p then manh a p else if col < i % 24 then manh a p + manh p i else -1 := ⟨_, rfl⟩
  rw [← hH]
  have v1 : ∀ i, i % 24 < col → H i = manh a i := fun i h => by rw [hH]; simp only [if_pos h]
  have v2 : H p = manh a p := by rw [hH]; simp only [if_neg (show ¬ p % 24 < col by omega), if_pos]
  have v3 : ∀ i, col < i % 24 → H i = manh a p + manh p i := fun i h => by
    rw [hH]
    simp only [if_neg (show ¬ i % 24 < col by omega), if_neg (show ¬ i = p from fun e => by subst e; omega), if_pos h]
  have v4 : ∀ i, i % 24 = col → i ≠ p → H i = -1 := fun i h hne => by
    rw [hH]
    simp only [if_neg (show ¬ i % 24 < col by omega), if_neg hne, if_neg (show ¬ col < i % 24 by omega)]
  clear hH
  have cases4 : ∀ i, i % 24 < col ∨ i = p ∨ col < i % 24 ∨ (i % 24 = col ∧ i ≠ p) := fun i => by omega
  refine ⟨fun i _ => ?_, fun i hi => ?_, fun i hi hpos => ?_, fun j hj h0 d hd hn ho => ?_⟩
  · have := manh_0 a i
    have := manh_0 p i
    rcases cases4 i with h | h | h | ⟨h, h'⟩
    · rw [v1 i h]; omega
    · rw [h, v2]; omega
    · rw [v3 i h]; omega
    · rw [v4 i h h']; omega
  · rw [htg i hi, ← manh_same]
    have := manh_0 p i
    rcases cases4 i with h | h | h | ⟨h, h'⟩
    · rw [v1 i h]
    · rw [h, v2]
    · rw [v3 i h]
      constructor
      · intro e; omega
      · intro e; have := manh_same.1 e; subst this; omega
    · rw [v4 i h h']
      constructor
      · intro e; omega
      · intro e; have := manh_same.1 e; subst this; omega
  · rcases cases4 i with h | h | h | ⟨h, h'⟩
    · rw [v1 i h] at hpos ⊢
      refine ⟨(hop i hi).2 (.inl (by omega)), ?_⟩
      obtain ⟨d, hd, hn, hm1, hc⟩ := manh_near (a := a) ha hi (fun e => by have h := manh_same.2 e; omega)
      obtain ⟨h1, h2⟩ := nb_back hi hd hn
      refine ⟨nbOf i d, opp d, nb_lt hn, opp_lt hd, h1, h2, ?_⟩
      rw [v1 _ (by omega)]
      exact hm1
    · subst h
      rw [v2]
      refine ⟨(hop i hi).2 (.inr rfl), ?_⟩
      obtain ⟨d, hd, hn, hm1, hc⟩ := manh_near (a := a) ha hi (fun e => by have h := manh_same.2 e; omega)
      obtain ⟨h1, h2⟩ := nb_back hi hd hn
      refine ⟨nbOf i d, opp d, nb_lt hn, opp_lt hd, h1, h2, ?_⟩
      rw [v1 _ (by omega)]
      exact hm1
    · rw [v3 i h]
      refine ⟨(hop i hi).2 (.inl (by omega)), ?_⟩
      -- toward the gap: by rows while it is the next column, else by columns
      by_cases hnx : i % 24 = col + 1 ∧ i / 24 ≠ p / 24
      · by_cases hy : p / 24 < i / 24
        · have hn : nbIn i 0 := by unfold nbIn; simp only [dxOf, dyOf]; omega
          obtain ⟨e1, e2⟩ := nb_xy hn
          simp only [dxOf, dyOf] at e1 e2
          obtain ⟨h1, h2⟩ := nb_back hi (by omega) hn
          refine ⟨nbOf i 0, opp 0, nb_lt hn, by decide, h1, h2, ?_⟩
          rw [v3 _ (by omega)]
          unfold manh
          omega
        · have hn : nbIn i 2 := by unfold nbIn; simp only [dxOf, dyOf]; omega
          obtain ⟨e1, e2⟩ := nb_xy hn
          simp only [dxOf, dyOf] at e1 e2
          obtain ⟨h1, h2⟩ := nb_back hi (by omega) hn
          refine ⟨nbOf i 2, opp 2, nb_lt hn, by decide, h1, h2, ?_⟩
          rw [v3 _ (by omega)]
          unfold manh
          omega
      · have hn : nbIn i 3 := by unfold nbIn; simp only [dxOf, dyOf]; omega
        obtain ⟨e1, e2⟩ := nb_xy hn
        simp only [dxOf, dyOf] at e1 e2
        obtain ⟨h1, h2⟩ := nb_back hi (by omega) hn
        refine ⟨nbOf i 3, opp 3, nb_lt hn, by decide, h1, h2, ?_⟩
        by_cases hc1 : i % 24 = col + 1
        · have hip : nbOf i 3 = p := by omega
          have hm : manh p i = 1 := by unfold manh; omega
          rw [hip, v2, hm]
          omega
        · rw [v3 _ (by omega)]
          have hm : manh p (nbOf i 3) = manh p i - 1 := by unfold manh; omega
          rw [hm]
          omega
    · rw [v4 i h h'] at hpos; omega
  · have hno := (hop _ (nb_lt hn)).1 ho
    obtain ⟨e1, e2⟩ := nb_xy hn
    have hw := d_way d hd
    have sa := manh_step (a := a) hd hn
    have sp := manh_step (a := p) hd hn
    have z1 := manh_0 a (nbOf j d)
    have z2 := manh_0 p (nbOf j d)
    have z3 := manh_0 p j
    rcases cases4 j with h | h | h | ⟨h, h'⟩
    · rw [v1 j h]
      rcases cases4 (nbOf j d) with k | k | k | ⟨k, k'⟩
      · rw [v1 _ k]; omega
      · rw [k, v2]
        rw [k] at sa
        omega
      · omega
      · exact absurd hno (by omega)
    · subst h
      rw [v2]
      rcases cases4 (nbOf j d) with k | k | k | ⟨k, k'⟩
      · rw [v1 _ k]; omega
      · rw [k] at e1 e2
        omega
      · have hj0 : manh j j = 0 := manh_same.2 rfl
        rw [v3 _ k]; omega
      · exact absurd hno (by omega)
    · rw [v3 j h]
      rcases cases4 (nbOf j d) with k | k | k | ⟨k, k'⟩
      · omega
      · rw [k, v2]; omega
      · rw [v3 _ k]; omega
      · exact absurd hno (by omega)
    · rw [v4 j h h'] at h0; omega

end Gr

end Go.Proofs.Ytfmiaenpmbbknab
