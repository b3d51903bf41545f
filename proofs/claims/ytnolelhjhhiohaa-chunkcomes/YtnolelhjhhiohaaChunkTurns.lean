/-
  Going round: what Next tells are the pieces that were not heard of, in their order, turned.
-/
import Derived.Test.YtnolelhjhhiohaaChunkMath
namespace Go.Proofs.Ytnolelhjhhiohaa
open Go.RowKit

/-- The first k places from fr on that were not heard of. -/
def Ck.seen (n : Nat) (had : Nat → Bool) (fr k : Nat) : List Nat := ((List.range k).map fun j => (fr + j) % n).filter fun i => !had i

theorem Ck.seen_more (n : Nat) (had : Nat → Bool) (fr k : Nat) : Ck.seen n had fr (k + 1) = Ck.seen n had fr k ++ if had ((fr + k) % n) = false then [(fr + k) % n] else [] := by
  unfold Ck.seen
  rw [List.range_succ, List.map_append, List.filter_append]
  congr 1
  cases h : had ((fr + k) % n) <;> simp [h]

theorem Ck.nx_seen (n : Nat) (had : Nat → Bool) (fr : Nat) (m : Int) : ∀ k, (Ck.nx n had fr m k).1 = (Ck.seen n had fr k).take m.toNat
  | 0 => by simp [Ck.nx, Ck.seen]
  | k + 1 => by
    have ih := Ck.nx_seen n had fr m k
    rw [Ck.seen_more]
    by_cases h1 : ((Ck.nx n had fr m k).1.length : Int) < m
    · have hlen : (Ck.seen n had fr k).length < m.toNat := by
        rw [ih, List.length_take] at h1
        omega
      have htake : (Ck.seen n had fr k).take m.toNat = Ck.seen n had fr k := List.take_of_length_le (by omega)
      cases h2 : had ((fr + k) % n) with
      | false =>
        rw [Ck.nx_yes h1 h2, if_pos rfl, List.take_of_length_le (by simp; omega)]
        show (Ck.nx n had fr m k).1 ++ _ = _
        rw [ih, htake]
      | true =>
        rw [Ck.nx_no h2, ih, if_neg (by simp), List.append_nil]
    · rw [Ck.nx_stay h1, ih, List.take_append_of_le_length]
      rw [ih, List.length_take] at h1
      omega

/-- Where it goes on: behind the last one that was told. -/
theorem Ck.nx_last (n : Nat) (had : Nat → Bool) (fr : Nat) (m : Int) : ∀ k, (Ck.nx n had fr m k).2 = match (Ck.nx n had fr m k).1.getLast? with | none => fr | some x => (x + 1) % n
  | 0 => rfl
  | k + 1 => by
    have ih := Ck.nx_last n had fr m k
    by_cases h : ((Ck.nx n had fr m k).1.length : Int) < m ∧ had ((fr + k) % n) = false
    · rw [Ck.nx_yes h.1 h.2]
      simp
    · have e : Ck.nx n had fr m (k + 1) = Ck.nx n had fr m k := by
        show (if _ ∧ _ then _ else _) = _
        rw [if_neg h]
      rw [e]
      exact ih

/-- Those that were not heard of. -/
def Ck.U (n : Nat) (had : Nat → Bool) : List Nat := (List.range n).filter fun i => !had i
/-- How many of them lie below. -/
def Ck.pos (had : Nat → Bool) (fr : Nat) : Nat := ((List.range fr).filter fun i => !had i).length

theorem Ck.round_eq {n fr : Nat} (hf : fr < n) : ((List.range n).map fun j => (fr + j) % n) = List.range' fr (n - fr) ++ List.range fr := by
  refine List.ext_getElem (by simp; omega) fun j h1 h2 => ?_
  simp only [List.length_map, List.length_range] at h1
  rw [List.getElem_map, List.getElem_range]
  by_cases hj : j < n - fr
  · rw [List.getElem_append_left (by simpa using hj)]
    simp
    rw [Nat.mod_eq_of_lt (by omega)]
  · rw [List.getElem_append_right (by simp; omega)]
    simp
    rw [Nat.mod_eq_sub_mod (by omega), Nat.mod_eq_of_lt (by omega)]
    omega

theorem Ck.range_split {n fr : Nat} (hf : fr < n) : List.range n = List.range fr ++ List.range' fr (n - fr) := by
  refine List.ext_getElem (by simp; omega) fun j h1 h2 => ?_
  rw [List.getElem_range]
  by_cases hj : j < fr
  · rw [List.getElem_append_left (by simpa using hj)]
    simp
  · rw [List.getElem_append_right (by simp; omega)]
    simp
    omega

/-- The pieces going round are those that were not heard of, turned. -/
theorem Ck.seen_turned {n fr : Nat} (had : Nat → Bool) (hf : fr < n) : Ck.seen n had fr n = (Ck.U n had).drop (Ck.pos had fr) ++ (Ck.U n had).take (Ck.pos had fr) := by
  have e : Ck.U n had = ((List.range fr).filter fun i => !had i) ++ ((List.range' fr (n - fr)).filter fun i => !had i) := by
    unfold Ck.U
    rw [Ck.range_split hf, List.filter_append]
  unfold Ck.seen
  rw [Ck.round_eq hf, List.filter_append, e]
  unfold Ck.pos
  rw [List.drop_left, List.take_left]

theorem Ck.pos_zero (had : Nat → Bool) : Ck.pos had 0 = 0 := rfl

theorem Ck.pos_le {n fr : Nat} (had : Nat → Bool) (hf : fr ≤ n) : Ck.pos had fr ≤ (Ck.U n had).length := by
  by_cases h : fr < n
  · unfold Ck.pos Ck.U
    rw [Ck.range_split h, List.filter_append, List.length_append]
    omega
  · obtain rfl : fr = n := by omega
    exact Nat.le_refl _

theorem Ck.pos_succ (had : Nat → Bool) (x : Nat) : Ck.pos had (x + 1) = Ck.pos had x + if had x = false then 1 else 0 := by
  unfold Ck.pos
  rw [List.range_succ, List.filter_append, List.length_append]
  congr 1
  cases h : had x <;> simp [h]

/-- The place of one that was not heard of. -/
theorem Ck.U_at {n x : Nat} {had : Nat → Bool} (hx : x < n) (h : had x = false) : (Ck.U n had)[Ck.pos had x]? = some x := by
  have e : Ck.U n had = ((List.range x).filter fun i => !had i) ++ ((List.range' x (n - x)).filter fun i => !had i) := by
    unfold Ck.U
    rw [Ck.range_split hx, List.filter_append]
  rw [e]
  unfold Ck.pos
  rw [List.getElem?_append_right (Nat.le_refl _), Nat.sub_self]
  obtain ⟨d, hd⟩ : ∃ d, n - x = d + 1 := ⟨n - x - 1, by omega⟩
  rw [hd, List.range'_succ, List.filter_cons_of_pos (by simp [h])]
  rfl

theorem Ck.U_nodup (n : Nat) (had : Nat → Bool) : (Ck.U n had).Nodup := List.nodup_range.filter _

theorem Ck.U_mem {n : Nat} {had : Nat → Bool} {x : Nat} : x ∈ Ck.U n had ↔ x < n ∧ had x = false := by
  unfold Ck.U
  rw [List.mem_filter, List.mem_range]
  simp

/-- Behind one that was told the next place is the next. -/
theorem Ck.pos_next {n q x : Nat} {had : Nat → Bool} (hq : (Ck.U n had)[q]? = some x) : Ck.pos had ((x + 1) % n) % (Ck.U n had).length = (q + 1) % (Ck.U n had).length := by
  have hm : x ∈ Ck.U n had := List.mem_of_getElem? hq
  obtain ⟨hx, hh⟩ := Ck.U_mem.1 hm
  have hql : q < (Ck.U n had).length := (List.getElem?_eq_some_iff.1 hq).1
  have e : Ck.pos had x = q := by
    have h2 := Ck.U_at hx hh
    have hpl : Ck.pos had x < (Ck.U n had).length := (List.getElem?_eq_some_iff.1 h2).1
    have e2 : (Ck.U n had)[q] = (Ck.U n had)[Ck.pos had x] := by
      rw [(List.getElem?_eq_some_iff.1 hq).2, (List.getElem?_eq_some_iff.1 h2).2]
    exact ((List.getElem_inj (Ck.U_nodup n had)).1 e2).symm
  have e1 : Ck.pos had (x + 1) = q + 1 := by rw [Ck.pos_succ, e, if_pos hh]
  by_cases hn : x + 1 < n
  · rw [Nat.mod_eq_of_lt hn, e1]
  · obtain rfl : x + 1 = n := by omega
    rw [Nat.mod_self, Ck.pos_zero]
    have : (Ck.U (x + 1) had).length = q + 1 := e1
    rw [this, Nat.mod_self, Nat.zero_mod]

/-- Piece j going round. -/
theorem Ck.seen_at {n fr : Nat} (had : Nat → Bool) (hf : fr < n) {j : Nat} (hj : j < (Ck.U n had).length) : (Ck.seen n had fr n)[j]? = (Ck.U n had)[(Ck.pos had fr + j) % (Ck.U n had).length]? := by
  have hp := Ck.pos_le had (Nat.le_of_lt hf)
  rw [Ck.seen_turned had hf]
  obtain ⟨c, hc⟩ : ∃ c, (Ck.U n had).length = c := ⟨_, rfl⟩
  obtain ⟨p, hpe⟩ : ∃ p, Ck.pos had fr = p := ⟨_, rfl⟩
  rw [hpe] at hp ⊢
  rw [hc] at hj hp ⊢
  by_cases h : j < c - p
  · rw [List.getElem?_append_left (by rw [List.length_drop, hc]; exact h), List.getElem?_drop, Nat.mod_eq_of_lt (by omega)]
  · rw [List.getElem?_append_right (by rw [List.length_drop, hc]; omega), List.length_drop, hc, List.getElem?_take, if_pos (by omega), Nat.mod_eq_sub_mod (by omega), Nat.mod_eq_of_lt (by omega)]
    congr 1
    omega

theorem Ck.seen_len {n fr : Nat} (had : Nat → Bool) (hf : fr < n) : (Ck.seen n had fr n).length = (Ck.U n had).length := by
  have hp := Ck.pos_le had (Nat.le_of_lt hf)
  rw [Ck.seen_turned had hf, List.length_append, List.length_drop, List.length_take]
  omega

theorem Ck.next_len {n fr : Nat} (had : Nat → Bool) (m : Int) (hf : fr < n) : (Ck.next n had fr m).length = min m.toNat (Ck.U n had).length := by
  unfold Ck.next
  rw [Ck.nx_seen, List.length_take, Ck.seen_len had hf]

/-- What Next tells: one behind the other, going round. -/
theorem Ck.next_at {n fr : Nat} (had : Nat → Bool) (m : Int) (hf : fr < n) {j : Nat} (hj : j < min m.toNat (Ck.U n had).length) : (Ck.next n had fr m)[j]? = (Ck.U n had)[(Ck.pos had fr + j) % (Ck.U n had).length]? := by
  unfold Ck.next
  rw [Ck.nx_seen, List.getElem?_take, if_pos (by omega), Ck.seen_at had hf (by omega)]

/-- Where it stands then. -/
theorem Ck.goes_pos {n fr : Nat} (had : Nat → Bool) (m : Int) (hf : fr < n) : Ck.pos had (Ck.goes n had fr m) % (Ck.U n had).length = (Ck.pos had fr + min m.toNat (Ck.U n had).length) % (Ck.U n had).length := by
  unfold Ck.goes
  rw [Ck.nx_last]
  have hl := Ck.next_len had m hf
  have ha := fun j => Ck.next_at (j := j) had m hf
  unfold Ck.next at hl ha
  obtain ⟨c, hc⟩ : ∃ c, min m.toNat (Ck.U n had).length = c := ⟨_, rfl⟩
  rw [hc] at hl ha ⊢
  by_cases h0 : c = 0
  · rw [List.getLast?_eq_none_iff.2 (List.length_eq_zero_iff.1 (by omega)), h0]
    rfl
  · have hla := ha (c - 1) (by omega)
    rw [List.getLast?_eq_getElem?, hl, hla]
    obtain ⟨q, hq⟩ : ∃ q, (Ck.pos had fr + (c - 1)) % (Ck.U n had).length = q := ⟨_, rfl⟩
    have hql : q < (Ck.U n had).length := by rw [← hq]; exact Nat.mod_lt _ (by omega)
    rw [hq, List.getElem?_eq_getElem hql]
    show Ck.pos had (((Ck.U n had)[q] + 1) % n) % _ = _
    rw [Ck.pos_next (List.getElem?_eq_getElem hql), ← hq, Nat.add_mod, Nat.mod_mod, ← Nat.add_mod]
    congr 1
    omega

end Go.Proofs.Ytnolelhjhhiohaa
