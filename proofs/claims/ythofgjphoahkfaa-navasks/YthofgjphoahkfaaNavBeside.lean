/-
  What the document's own Beside answers, and what the law package's own small functions do.
-/
import Derived.Test.YthofgjphoahkfaaNavSmall
import Derived.BigQuiet
namespace Go.Proofs.Ythofgjphoahkfaa
open Go.RowKit

/-- A step goes from x0 to x1, round or not, just where it is their difference. -/
theorem Nv.goes (x0 x1 d : Int) (h3 : -9223372036854775808 ≤ x1) (h4 : x1 ≤ 9223372036854775807) (d1 : -1 ≤ d) (d2 : d ≤ 1) : (x1 == wrap64 (x0 + d)) = decide (d = wrap64 (x1 - x0)) := by
  have key : x1 = wrap64 (x0 + d) ↔ d = wrap64 (x1 - x0) := by unfold wrap64; omega
  by_cases h : d = wrap64 (x1 - x0)
  · rw [decide_eq_true h, beq_iff_eq]; exact key.2 h
  · rw [decide_eq_false h, beq_eq_false_iff_ne]; exact fun e => h (key.1 e)

set_option maxHeartbeats 800000 in
theorem refBeside_any (x0 y0 x1 y1 : Int) (w : World) (a3 : -9223372036854775808 ≤ x1) (a4 : x1 ≤ 9223372036854775807) (b3 : -9223372036854775808 ≤ y1) (b4 : y1 ≤ 9223372036854775807) :
    Calls Try.prog 16 #[.int .i64 x0, .int .i64 y0, .int .i64 x1, .int .i64 y1] w fun e w' => e = .returned (.int .i64 (Nv.beside (wrap64 (x1 - x0)) (wrap64 (y1 - y0)))) ∧ w' = w := by
  obtain ⟨DX, hx⟩ : ∃ D, D = wrap64 (x1 - x0) := ⟨_, rfl⟩
  obtain ⟨DY, hy⟩ : ∃ D, D = wrap64 (y1 - y0) := ⟨_, rfl⟩
  have gx : Hid (∀ d, -1 ≤ d → d ≤ 1 → (x1 == wrap64 (x0 + d)) = decide (d = DX)) := fun d h1 h2 => by rw [hx]; exact Nv.goes x0 x1 d a3 a4 h1 h2
  have gy : Hid (∀ d, -1 ≤ d → d ≤ 1 → (y1 == wrap64 (y0 + d)) = decide (d = DY)) := fun d h1 h2 => by rw [hy]; exact Nv.goes y0 y1 d b3 b4 h1 h2
  rw [← hx, ← hy]
  clear hx hy a3 a4 b3 b4
  go_enter Try.func16, Try.ntmps16
  go_wp2_with fail
  go_loop [9] (fun i => ∃ k : Nat, 1 ≤ k ∧ k ≤ 5 ∧ i = .int .i64 (k : Int) ∧ ∀ j : Nat, 1 ≤ j → j < k → ¬ ((Fx.way (j : Int)).1 = DX ∧ (Fx.way (j : Int)).2 = DY)) (fun i => 5 - (intOf i).toNat)
  case atStart => exact ⟨1, by omega, by omega, rfl, fun j h1 h2 => by omega⟩
  case round =>
    obtain ⟨k, h1, h5, rfl, hno⟩ := hrel
    have hno' := hide hno
    clear hno
    by_cases hlt : k ≤ 4
    · have hlt' : (k : Int) ≤ 4 := by omega
      have HL := hide hlt
      have H1 := hide h1
      clear hlt h1 h5
      have hwb := Fx.way_bd (k : Int)
      have k1 := unhide gx _ hwb.1 hwb.2.1
      have k2 := unhide gy _ hwb.2.2.1 hwb.2.2.2
      have cw := hide (refWay_any (k : Int) w)
      have hq0 : Hid (∀ p : Prop, ((Fx.way (k : Int)).1 = DX ∧ (Fx.way (k : Int)).2 = DY → p) → ((Fx.way (k : Int)).1 = DX → ¬ (Fx.way (k : Int)).2 = DY → p) → (¬ (Fx.way (k : Int)).1 = DX → p) → p) := fun p hp hq hr => by
        by_cases u : (Fx.way (k : Int)).1 = DX
        · by_cases v : (Fx.way (k : Int)).2 = DY
          · exact hp ⟨u, v⟩
          · exact hq u v
        · exact hr u
      have hh : Hid ((Fx.way (k : Int)).1 = DX ∧ (Fx.way (k : Int)).2 = DY → Nv.beside DX DY = (k : Int)) := fun h => Nv.from_hit 4 k 1 (unhide hno') h (unhide H1) (by have := unhide HL; omega)
      have hm : Hid (¬ ((Fx.way (k : Int)).1 = DX ∧ (Fx.way (k : Int)).2 = DY) → ∀ j : Nat, 1 ≤ j → j < k + 1 → ¬ ((Fx.way (j : Int)).1 = DX ∧ (Fx.way (j : Int)).2 = DY)) := fun h j h1 h2 => by
        by_cases e : j = k
        · rw [e]; exact h
        · exact unhide hno' j h1 (by omega)
      generalize (Fx.way (k : Int)).1 = u at *
      generalize (Fx.way (k : Int)).2 = v at *
      have bu := hwb.1
      have bu2 := hwb.2.1
      have bv := hwb.2.2.1
      have bv2 := hwb.2.2.2
      clear hwb
      refine unhide hq0 _ ?_ ?_ ?_
      · intro hq
        rw [decide_eq_true hq.1] at k1
        rw [decide_eq_true hq.2] at k2
        have he := hide (unhide hh hq)
        clear hq hq0 hm hh bu bu2 bv bv2
        go_wp2_with fail
        refine (unhide cw).mono ?_
        rintro e w1 ⟨rfl, rfl⟩
        go_wp2
        go_ret
        exact ⟨ret_int (unhide he).symm, rfl⟩
      · intro hu hv
        rw [decide_eq_true hu] at k1
        rw [decide_eq_false hv] at k2
        have he := hide (unhide hm (fun h => hv h.2))
        clear hu hv hq0 hm hh bu bu2 bv bv2
        go_wp2_with fail
        refine (unhide cw).mono ?_
        rintro e w1 ⟨rfl, rfl⟩
        go_wp2
        go_round
        case rel => exact ⟨k + 1, by have := unhide H1; omega, by have := unhide HL; omega, by go_num, unhide he⟩
        case measure => have := unhide HL; simp [intOf]; omega
      · intro hu
        rw [decide_eq_false hu] at k1
        have he := hide (unhide hm (fun h => hu h.1))
        clear hu hq0 hm hh k2 bu bu2 bv bv2
        go_wp2_with fail
        refine (unhide cw).mono ?_
        rintro e w1 ⟨rfl, rfl⟩
        go_wp2
        go_round
        case rel => exact ⟨k + 1, by have := unhide H1; omega, by have := unhide HL; omega, by go_num, unhide he⟩
        case measure => have := unhide HL; simp [intOf]; omega
    · have hge : ¬ (k : Int) ≤ 4 := by omega
      have he : Hid (Nv.beside DX DY = 0) := Nv.from_none 4 1 fun j h1 h2 => unhide hno' j h1 (by omega)
      go_wp2
      go_ret
      exact ⟨ret_int (unhide he).symm, rfl⟩

theorem known_any (w : World) : Calls Try.prog 7 #[] w fun e w' => e = .returned (.bool true) ∧ w' = w := by
  have c1 : ∀ x : World, Calls Try.prog 15 #[.int .i64 3, .int .i64 3, .int .i64 4, .int .i64 3] x fun e w' => e = .returned (.int .i64 2) ∧ w' = x := fun x => by
    have h := beside_any 3 3 4 3 x
    rwa [wrap64_id (4 - 3) ⟨by omega, by omega⟩, wrap64_id (3 - 3) ⟨by omega, by omega⟩, show Nv.beside (4 - 3) (3 - 3) = 2 from by decide] at h
  have c2 : ∀ x : World, Calls Try.prog 15 #[.int .i64 3, .int .i64 3, .int .i64 5, .int .i64 3] x fun e w' => e = .returned (.int .i64 0) ∧ w' = x := fun x => by
    have h := beside_any 3 3 5 3 x
    rwa [wrap64_id (5 - 3) ⟨by omega, by omega⟩, wrap64_id (3 - 3) ⟨by omega, by omega⟩, show Nv.beside (5 - 3) (3 - 3) = 0 from by decide] at h
  go_enter Try.func7, Try.ntmps7
  go_wp2_with fail
  refine (c1 _).mono ?_
  rintro e w1 ⟨rfl, rfl⟩
  go_wp2_with fail
  refine (c2 _).mono ?_
  rintro e w2 ⟨rfl, rfl⟩
  go_wp2
  go_ret
  exact ⟨rfl, rfl⟩

set_option maxHeartbeats 400000 in
theorem within_any (a n : Int) (w : World) (hn : 0 < n) (hn2 : n ≤ 4611686018427387904) :
    Calls Try.prog 9 #[.int .i64 a, .int .i64 n] w fun e w' => e = .returned (.int .i64 (a % n)) ∧ w' = w := by
  have t1 := Int.tmod_lt_of_pos a (b := n) hn
  have t2 := Int.lt_tmod_of_pos a (b := n) hn
  have hn0 : (n == 0) = false := by simp; omega
  by_cases h : a.tmod n < 0
  · have ha : ¬ 0 ≤ a := by
      intro h0
      have := Int.tmod_nonneg n h0
      omega
    have hd := hide (Gr.within_neg a n hn h)
    go_enter Try.func9, Try.ntmps9
    go_wp2
    go_ret
    exact ⟨ret_int (unhide hd), rfl⟩
  · have hd := hide (Gr.within_pos a n hn h)
    by_cases ha : 0 ≤ a
    · have e : a.tmod n = a % n := Int.tmod_eq_emod_of_nonneg ha
      have h' : ¬ a % n < 0 := by rw [← e]; exact h
      clear h t1 t2 e
      go_enter Try.func9, Try.ntmps9
      go_wp2
      go_ret
      exact ⟨rfl, rfl⟩
    · go_enter Try.func9, Try.ntmps9
      go_wp2
      go_ret
      exact ⟨ret_int (unhide hd), rfl⟩

end Go.Proofs.Ythofgjphoahkfaa
