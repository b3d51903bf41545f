/-
  How often each piece is told, going round.
-/
import Derived.Test.YtnolelhjhhiohaaChunkTurns
namespace Go.Proofs.Ytnolelhjhhiohaa
open Go.RowKit

/-- How often place r comes up in T steps round c places. -/
def Ck.told (c : Nat) : Nat → Nat → Nat
  | 0, _ => 0
  | T + 1, r => Ck.told c T r + if T % c = r then 1 else 0

theorem Ck.told_eq {c r : Nat} (hr : r < c) : ∀ T, T ≤ 2 * c → Ck.told c T r = (if r < T then 1 else 0) + if c + r < T then 1 else 0
  | 0, _ => by simp [Ck.told]
  | T + 1, h => by
    have ih := Ck.told_eq hr T (by omega)
    show Ck.told c T r + (if T % c = r then 1 else 0) = _
    rw [ih]
    by_cases h1 : T < c
    · rw [Nat.mod_eq_of_lt h1]
      by_cases e : T = r
      · subst e
        rw [if_neg (by omega), if_neg (by omega), if_pos rfl, if_pos (by omega), if_neg (by omega)]
      · rw [if_neg (show ¬ T = r from e), if_neg (show ¬ c + r < T by omega), if_neg (show ¬ c + r < T + 1 by omega)]
        by_cases e2 : r < T
        · rw [if_pos e2, if_pos (by omega)]
        · rw [if_neg e2, if_neg (by omega)]
    · have hm : T % c = T - c := by rw [Nat.mod_eq_sub_mod (by omega), Nat.mod_eq_of_lt (by omega)]
      rw [hm, if_pos (show r < T by omega), if_pos (show r < T + 1 by omega)]
      by_cases e : T - c = r
      · rw [if_pos e, if_neg (by omega), if_pos (by omega)]
      · rw [if_neg e]
        by_cases e2 : c + r < T
        · rw [if_pos e2, if_pos (by omega)]
        · rw [if_neg e2, if_neg (by omega)]

/-- How often piece x was told, T in all. -/
def Ck.tally (n : Nat) (had : Nat → Bool) (T : Nat) : Nat → Nat := fun x => if x < n ∧ had x = false then Ck.told (Ck.U n had).length T (Ck.pos had x) else 0

theorem Ck.tally_zero (n : Nat) (had : Nat → Bool) : Ck.tally n had 0 = fun _ => 0 := funext fun x => by
  unfold Ck.tally Ck.told
  split <;> rfl

theorem Ck.tally_more {n T x : Nat} {had : Nat → Bool} (hx : (Ck.U n had)[T % (Ck.U n had).length]? = some x) : Ck.tally n had (T + 1) = fun y => if y = x then Ck.tally n had T y + 1 else Ck.tally n had T y := funext fun y => by
  have hm := Ck.U_mem.1 (List.mem_of_getElem? hx)
  have hp : Ck.pos had x = T % (Ck.U n had).length := by
    have h2 := Ck.U_at hm.1 hm.2
    have e2 : (Ck.U n had)[T % (Ck.U n had).length]'((List.getElem?_eq_some_iff.1 hx).1) = (Ck.U n had)[Ck.pos had x]'((List.getElem?_eq_some_iff.1 h2).1) := by
      rw [(List.getElem?_eq_some_iff.1 hx).2, (List.getElem?_eq_some_iff.1 h2).2]
    exact ((List.getElem_inj (Ck.U_nodup n had)).1 e2).symm
  unfold Ck.tally
  by_cases e : y = x
  · subst e
    rw [if_pos rfl, if_pos hm, if_pos hm]
    show Ck.told _ T _ + (if _ then 1 else 0) = _
    rw [if_pos hp.symm]
  · rw [if_neg e]
    by_cases hy : y < n ∧ had y = false
    · rw [if_pos hy, if_pos hy]
      show Ck.told _ T _ + (if _ then 1 else 0) = _
      rw [if_neg]
      · rfl
      · intro q
        have h3 := Ck.U_at hy.1 hy.2
        rw [← q, hx] at h3
        simp at h3
        exact e h3.symm
    · rw [if_neg hy, if_neg hy]

/-- Between once and twice. -/
theorem Ck.tally_ends {n T x : Nat} {had : Nat → Bool} (h1 : (Ck.U n had).length ≤ T) (h2 : T ≤ 2 * (Ck.U n had).length) (hx : x < n) (hh : had x = false) : 1 ≤ Ck.tally n had T x ∧ Ck.tally n had T x ≤ 2 := by
  have hp : Ck.pos had x < (Ck.U n had).length := (List.getElem?_eq_some_iff.1 (Ck.U_at hx hh)).1
  unfold Ck.tally
  rw [if_pos ⟨hx, hh⟩, Ck.told_eq hp T h2, if_pos (by omega)]
  split <;> omega

theorem Ck.tally_none {n T x : Nat} {had : Nat → Bool} (hh : had x = true) : Ck.tally n had T x = 0 := by
  unfold Ck.tally
  rw [if_neg (fun q => by rw [hh] at q; exact absurd q.2 (by simp))]

/-- All were heard of just where none is left. -/
theorem Ck.all_left (n : Nat) (had : Nat → Bool) : Ck.all n had = true ↔ (Ck.U n had).length = 0 := by
  rw [Ck.all_iff, List.length_eq_zero_iff]
  constructor
  · intro h
    refine List.eq_nil_iff_forall_not_mem.2 fun x hx => ?_
    obtain ⟨h1, h2⟩ := Ck.U_mem.1 hx
    rw [h x h1] at h2
    cases h2
  · intro h i hi
    cases e : had i with
    | true => rfl
    | false =>
      have : i ∈ Ck.U n had := Ck.U_mem.2 ⟨hi, e⟩
      rw [h] at this
      cases this

end Go.Proofs.Ytnolelhjhhiohaa
