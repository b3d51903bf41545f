/-
  Tables that Add makes: what both packages say of one is the same. The document's Same.
-/
import Derived.Test.YtiegccdgoemamaaTableKnown
namespace Go.Proofs.Ytiegccdgoemamaa
open Go.RowKit Go.WideShapes

/-- The rows of a table as Add makes it. -/
structure Tb.Ok (E : Nat → Nat → Int) (n : Nat) : Prop where
  small : ∀ i, i < n → E i 1 ≤ 9223372036854775807
  last : ∀ i, i < n → E i 2 = 0 ∨ (E i 1 ≤ E i 3 ∧ E i 3 ≤ E i 2)
  order : ∀ i k, i < k → k < n → E i 0 = E k 0 → E i 1 < E k 1

theorem Tb.Ok.none (E : Nat → Nat → Int) : Tb.Ok E 0 := ⟨fun i h => by omega, fun i h => by omega, fun i k _ h => by omega⟩

theorem Tb.at_congr {E : Nat → Nat → Int} {s f g : Int} : ∀ n, (∀ i, i < n → E i 0 = s → (E i 1 ≤ f ↔ E i 1 ≤ g)) → Tb.at E s f n = Tb.at E s g n
  | 0, _ => rfl
  | n + 1, h => by
      have ih := Tb.at_congr n (fun i hi => h i (by omega))
      unfold Tb.at
      by_cases e : E n 0 = s ∧ E n 1 ≤ f
      · rw [if_pos e, if_pos ⟨e.1, (h n (by omega) e.1).1 e.2⟩]
      · rw [if_neg e, if_neg (fun q => e ⟨q.1, (h n (by omega) q.1).2 q.2⟩), ih]

theorem Tb.Ok.how {E : Nat → Nat → Int} {n : Nat} (h : Tb.Ok E n) (s f : Int) : Tb.rhow E n s f = Tb.how (Tb.stand E n s f) := by
  rcases Tb.at_cases E s f n with ⟨hat, -⟩ | ⟨k, hk, hat, hq, -⟩
  · rw [Tb.stand_none hat]
    unfold Tb.rhow
    rw [hat]
    rfl
  · rw [Tb.stand_at hat]
    unfold Tb.rhow
    rw [hat, if_neg (by omega), Int.toNat_natCast]
    by_cases h1 : E k 1 = f
    · rw [if_pos h1, if_pos h1, Tb.at_congr (f := f) (g := 9223372036854775807) k (fun i hi e => by
        have h2 := h.order i k hi hk (by omega)
        have h3 := h.small k hk
        omega)]
      by_cases h2 : Tb.at E s 9223372036854775807 k < 0
      · rw [if_pos h2, if_neg (by omega)]; rfl
      · rw [if_neg h2, if_pos (by omega)]; rfl
    · rw [if_neg h1, if_neg h1]
      have h3 := h.last k hk
      by_cases h2 : E k 2 = 0
      · rw [if_pos h2, if_pos (.inl h2)]; rfl
      · rw [if_neg h2]
        by_cases h4 : E k 2 < f
        · rw [if_pos h4, if_neg (by omega)]; rfl
        · rw [if_neg h4, if_pos (by omega)]
          by_cases h5 : E k 3 < f
          · rw [if_pos h5]; rfl
          · rw [if_neg h5]; rfl

theorem Tb.Ok.counts {E : Nat → Nat → Int} {n : Nat} (h : Tb.Ok E n) (s f : Int) : Tb.rcounts E n s f = (Tb.stand E n s f == 3) := by
  rcases Tb.at_cases E s f n with ⟨hat, -⟩ | ⟨k, hk, hat, hq, -⟩
  · rw [Tb.stand_none hat]
    unfold Tb.rcounts
    rw [hat]
    rfl
  · rw [Tb.stand_at hat]
    unfold Tb.rcounts
    rw [hat, decide_eq_true (by omega), Bool.true_and, Int.toNat_natCast]
    have h3 := h.last k hk
    by_cases h1 : E k 1 = f
    · rw [if_pos h1, decide_eq_false (by omega), Bool.false_and]
      split <;> rfl
    · rw [if_neg h1, decide_eq_true (by omega), Bool.true_and]
      by_cases h2 : E k 2 = 0
      · rw [if_pos h2, h2]; rfl
      · have e : (E k 2 == 0) = false := by simp [h2]
        rw [if_neg h2, e, Bool.false_or]
        by_cases h4 : E k 2 < f
        · rw [if_pos h4, decide_eq_false (by omega)]; rfl
        · rw [if_neg h4]
          by_cases h5 : E k 3 < f
          · rw [if_pos h5, decide_eq_false (by omega)]; rfl
          · rw [if_neg h5, decide_eq_true (by omega)]; rfl

theorem Tb.Ok.next {E : Nat → Nat → Int} {n : Nat} (h : Tb.Ok E n) {k s f l : Int} (hf : f ≤ 9223372036854775807) (h0 : Tb.err E n k s f l = 0) : Tb.Ok (Tb.next E n k s f l).2 (Tb.next E n k s f l).1 := by
  by_cases hk : k = 2
  · unfold Tb.err at h0
    rw [if_neg (by omega)] at h0
    split at h0
    · omega
    · split at h0
      · omega
      · rw [if_neg (by omega)] at h0
        have hfr : Tb.free E n s (f - 1) = true := by
          cases e : Tb.free E n s (f - 1) with
          | true => rfl
          | false => rw [e] at h0; simp at h0
        have hlt : ∀ i, i < n → E i 0 = s → E i 1 < f := fun i hi e => by
          unfold Tb.free at hfr
          rcases Tb.at_cases E s 9223372036854775807 n with ⟨hat, hno⟩ | ⟨q, hq, hat, hqq, hno⟩
          · exact absurd ⟨e, h.small i hi⟩ (hno i hi)
          · rw [hat, decide_eq_false (by omega), Bool.false_or, Int.toNat_natCast] at hfr
            simp only [Bool.and_eq_true, Bool.not_eq_true', beq_eq_false_iff_ne, ne_eq, decide_eq_true_eq] at hfr
            have h2 := h.last q hq
            rcases Nat.lt_trichotomy i q with hl | hl | hl
            · have := h.order i q hl hq (by omega)
              omega
            · subst hl
              omega
            · exact absurd ⟨e, h.small i hi⟩ (hno i hl hi)
        unfold Tb.next
        rw [if_pos hk]
        refine ⟨fun i hi => ?_, fun i hi => ?_, fun i j hij hj => ?_⟩
        · show Tb.put E n (Tb.span s f) i 1 ≤ _
          unfold Tb.put
          by_cases e : i = n
          · rw [if_pos e]; exact hf
          · rw [if_neg e]; exact h.small i (by change i < n + 1 at hi; omega)
        · show Tb.put E n (Tb.span s f) i 2 = 0 ∨ (Tb.put E n (Tb.span s f) i 1 ≤ Tb.put E n (Tb.span s f) i 3 ∧ Tb.put E n (Tb.span s f) i 3 ≤ Tb.put E n (Tb.span s f) i 2)
          unfold Tb.put
          by_cases e : i = n
          · rw [if_pos e]; exact .inl rfl
          · rw [if_neg e]; exact h.last i (by change i < n + 1 at hi; omega)
        · show Tb.put E n (Tb.span s f) i 0 = Tb.put E n (Tb.span s f) j 0 → Tb.put E n (Tb.span s f) i 1 < Tb.put E n (Tb.span s f) j 1
          change j < n + 1 at hj
          unfold Tb.put
          rw [if_neg (by omega)]
          by_cases e : j = n
          · rw [if_pos e]
            exact fun q => hlt i (by omega) q
          · rw [if_neg e]
            exact h.order i j hij (by omega)
  · obtain ⟨rfl, q, hq, hat⟩ := Tb.err_ret h0 hk
    unfold Tb.err at h0
    rw [if_neg (by omega)] at h0
    split at h0
    · omega
    · split at h0
      · omega
      · rw [if_pos rfl] at h0
        unfold Tb.retErr at h0
        rw [hat, Int.toNat_natCast] at h0
        split at h0
        · omega
        · split at h0
          · omega
          · split at h0
            · omega
            · rename_i _ _ _ _ hl
              unfold Tb.next
              rw [if_neg hk, hat, Int.toNat_natCast]
              refine ⟨fun i hi => ?_, fun i hi => ?_, fun i j hij hj => ?_⟩
              · show Tb.set (Tb.set E q 2 f) q 3 l i 1 ≤ _
                unfold Tb.set
                rw [if_neg (by omega), if_neg (by omega)]
                exact h.small i hi
              · show Tb.set (Tb.set E q 2 f) q 3 l i 2 = 0 ∨ (Tb.set (Tb.set E q 2 f) q 3 l i 1 ≤ Tb.set (Tb.set E q 2 f) q 3 l i 3 ∧ Tb.set (Tb.set E q 2 f) q 3 l i 3 ≤ Tb.set (Tb.set E q 2 f) q 3 l i 2)
                unfold Tb.set
                by_cases e : i = q
                · subst e
                  rw [if_neg (by omega), if_pos (by omega), if_neg (by omega), if_neg (by omega), if_pos (by omega)]
                  omega
                · rw [if_neg (by omega), if_neg (by omega), if_neg (by omega), if_neg (by omega), if_neg (by omega), if_neg (by omega)]
                  exact h.last i hi
              · show Tb.set (Tb.set E q 2 f) q 3 l i 0 = Tb.set (Tb.set E q 2 f) q 3 l j 0 → Tb.set (Tb.set E q 2 f) q 3 l i 1 < Tb.set (Tb.set E q 2 f) q 3 l j 1
                unfold Tb.set
                rw [if_neg (by omega), if_neg (by omega), if_neg (by omega), if_neg (by omega), if_neg (by omega), if_neg (by omega), if_neg (by omega), if_neg (by omega)]
                exact h.order i j hij hj

theorem Tb.ne_self (e0 e1 e2 e3 : Int) (w : World) : (binOp .neq 101 (.agg #[.int .i64 e0, .int .i64 e1, .int .i64 e2, .int .i64 e3]) (.agg #[.int .i64 e0, .int .i64 e1, .int .i64 e2, .int .i64 e3])).run Try.prog w = .ok (.bool false) w := by
  simp [go_sem]

set_option maxHeartbeats 1600000 in
theorem same16_any (a b : Option Addr) (n c d : Nat) (E : Nat → Nat → Int) (w : World) (h : Tb.Rows w a n E) (h2 : Tb.Rows w b n E) (hn : n ≤ maxLen) :
    Calls Try.prog 23 #[.slice a n c, .slice b n d] w (Says w (.bool true)) := by
  have hm : (n : Int) ≤ 9223372036854775807 := by unfold maxLen at hn; omega
  have H := hide h
  have H2 := hide h2
  clear h h2 hn
  go_enter Try.func23, Try.ntmps23
  go_wp2_with fail
  go_loopw [5] (fun vi wr => ∃ k : Nat, k ≤ n ∧ vi = .int .i64 (k : Int) ∧ Hid (w.grownBy wr none)) (fun vi _ => n + 1 - (intOf vi).toNat)
  case atStart => exact ⟨0, Nat.zero_le _, rfl, World.grownBy.refl _ _⟩
  case round =>
    obtain ⟨k, hk, rfl, hg⟩ := hrel
    by_cases hlt : k < n
    · have hlt' : (k : Int) < (n : Int) := by omega
      obtain ⟨p, rfl, -, u0, u1, u2, u3⟩ := ((unhide H).on (unhide hg)).row hlt
      obtain ⟨q, rfl, -, v0, v1, v2, v3⟩ := ((unhide H2).on (unhide hg)).row hlt
      have HK := hide hlt
      have ns := Tb.ne_self (E k 0) (E k 1) (E k 2) (E k 3)
      clear hk hlt
      go_wp2_with fail
      go_quiet (fail)
      generalize hzz : World.drewN wr _ = y
      have hy := hide (show w.grownBy y none by rw [← hzz]; exact grown_drew (unhide hg) _)
      clear hzz u0 u1 u2 u3 v0 v1 v2 v3 ns
      go_wp2
      go_roundw
      case rel => exact ⟨k + 1, by have := unhide HK; omega, by go_num, unhide hy⟩
      case measure => simp [intOf]; have := unhide HK; omega
    · have hge : ¬ (k : Int) < (n : Int) := by omega
      clear hk hlt
      go_wp2
      go_ret
      exact ⟨rfl, unhide hg⟩

end Go.Proofs.Ytiegccdgoemamaa
