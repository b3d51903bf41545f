/-
  The law package's own 'known' and 'within'.
-/
import Derived.Test.YtliidnmkjnbiiaaGenFacts
namespace Go.Proofs.Ytliidnmkjnbiiaa
open Go.RowKit

/-- Of a seed and a floor: its dice. -/
theorem dice_of (s f : Int) : ∃ d : Gn.Dice, (∀ a b n, Gn.D s f a b n = d a b n) ∧ Gn.Fair d := ⟨fun a b n => Gn.D s f a b n, fun _ _ _ => rfl, fun a b n h => Gn.D_bd s f a b n h⟩

theorem Arr.refFind {w : World} {G : Nat} {c : Nat → Int} (h : Arr w G 5 384 (Byts c)) (h5 : ∀ i, 0 ≤ c i ∧ c i ≤ 5) (kind v : Int) (hv : Gr.find 384 c kind = v) :
    Calls Try.prog 14 #[.slice (some ⟨G, 0, none⟩) 384 384, .int .i64 kind] w fun e w' => e = .returned (.int .i64 v) ∧ w' = w := by
  have hh := refFind_any w.heap.size (some ⟨G, 0, none⟩) 384 384 c kind w (h.vec _ h.lt (by decide)) (fun i => by have := h5 i; omega)
  rw [hv] at hh
  exact hh

set_option maxHeartbeats 1600000 in
theorem known_any (w : World) : Calls Try.prog 8 #[] w (Says w (.bool true)) := by
  obtain ⟨d, hd, hF⟩ := dice_of 1 1
  have hmk := hide (fun w => make_any 1 1 d hd hF (by omega) (by omega) w)
  have hF' := hide hF
  clear hd hF
  go_enter Try.func8, Try.ntmps8
  go_wp2_with fail
  refine (unhide hmk _).mono ?_
  rintro e w1 ⟨c, F, G, nE, nI, cE, cI, aE, aI, hlev, rfl, hG, hA, -, -, -, -, hg⟩
  obtain ⟨far, hfx⟩ := hlev.facts (unhide hF')
  have h5 := hide hlev.five
  have hA1 := hide hA
  have hg1 := hide hg
  have f3 := hide (Gn.find_at hfx.upl hfx.is3)
  have f4 := hide (Gn.find_at hfx.farl hfx.is4)
  obtain ⟨u, hu⟩ : ∃ u, u = Gn.up d := ⟨_, rfl⟩
  rw [← hu] at f3
  clear hlev hfx hA hg hmk hu
  go_wp2_with fail
  refine (make_bad 1 0 _ (.inl (by omega))).mono ?_
  rintro e w2 ⟨rfl, hg2⟩
  obtain ⟨w3, hw3⟩ : ∃ w3, w3 = w1.alloc (.cells #[.slice (some ⟨G, 0, none⟩) 384 384, .slice aE nE cE, .slice aI nI cI] 27) := ⟨_, rfl⟩
  have q0 : w2.cell? ⟨w1.heap.size, 0, none⟩ = some (.slice (some ⟨G, 0, none⟩) 384 384) := by
    refine (grown_cell hg2 w1.heap.size 0 (by simp) (by simp)).trans ?_
    simp
  have hlt2 : w1.heap.size < w2.heap.size := by have := hg2.size; simp at this; omega
  have hA2 : Hid (∀ o, Arr (w2.alloc o) G 5 384 (Byts c)) := fun o => (((unhide hA1).alloc _).grown hg2 (by simp)).alloc o
  have hgo : Hid (∀ o, w.grownBy (w2.alloc o) none) := fun o => grown_alloc (grown_none (grown_alloc (unhide hg1) _) hg2) o
  clear hg2 hA1 hg1 hw3
  go_wp2_with (first | (go_at_call_of 14 (Value.int IntKind.i64 3); refine ((unhide hA2 _).refFind (unhide h5) 3 (u : Int) (unhide f3)).mono ?_; rintro e w' ⟨rfl, hw⟩; subst w') | (go_at_call_of 14 (Value.int IntKind.i64 4); refine ((unhide hA2 _).refFind (unhide h5) 4 (far : Int) (unhide f4)).mono ?_; rintro e w' ⟨rfl, hw⟩; subst w'))
  go_ret
  exact ⟨rfl, unhide hgo _⟩

set_option maxHeartbeats 400000 in
/-- A number from 0 to n - 1. -/
theorem within_any (a n : Int) (w : World) (hn : 0 < n) (hn2 : n ≤ 4611686018427387904) :
    Calls Try.prog 12 #[.int .i64 a, .int .i64 n] w fun e w' => e = .returned (.int .i64 (a % n)) ∧ w' = w := by
  have t1 := Int.tmod_lt_of_pos a (b := n) hn
  have t2 := Int.lt_tmod_of_pos a (b := n) hn
  have hn0 : (n == 0) = false := by simp; omega
  by_cases h : a.tmod n < 0
  · have ha : ¬ 0 ≤ a := by
      intro h0
      have := Int.tmod_nonneg n h0
      omega
    have hd := hide (Gr.within_neg a n hn h)
    go_enter Try.func12, Try.ntmps12
    go_wp2
    go_ret
    exact ⟨ret_int (unhide hd), rfl⟩
  · have hd := hide (Gr.within_pos a n hn h)
    by_cases ha : 0 ≤ a
    · have e : a.tmod n = a % n := Int.tmod_eq_emod_of_nonneg ha
      have h' : ¬ a % n < 0 := by rw [← e]; exact h
      clear h t1 t2 e
      go_enter Try.func12, Try.ntmps12
      go_wp2
      go_ret
      exact ⟨rfl, rfl⟩
    · go_enter Try.func12, Try.ntmps12
      go_wp2
      go_ret
      exact ⟨ret_int (unhide hd), rfl⟩

theorem within_ex (a n : Int) (w : World) (hn : 0 < n) (hn2 : n ≤ 4611686018427387904) :
    Calls Try.prog 12 #[.int .i64 a, .int .i64 n] w fun e w' => ∃ m : Int, e = .returned (.int .i64 m) ∧ 0 ≤ m ∧ m < n ∧ w' = w := by
  refine (within_any a n w hn hn2).mono fun e w' h => ?_
  obtain ⟨rfl, rfl⟩ := h
  exact ⟨_, rfl, Int.emod_nonneg _ (by omega), Int.emod_lt_of_pos _ hn, rfl⟩

end Go.Proofs.Ytliidnmkjnbiiaa
