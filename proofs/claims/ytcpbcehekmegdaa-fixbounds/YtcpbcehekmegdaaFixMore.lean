/-
  More contracts of package fix and of the document's chapter said again: quotients, roots, distances, turns, ways; and that the chapter's examples hold.
-/
import Derived.Test.YtcpbcehekmegdaaFixCalls
namespace Go.Proofs.Ytcpbcehekmegdaa
open Go.RowKit

set_option maxHeartbeats 400000 in
theorem refMul_any (a b : Int) (w : World) (h1 : -4611686018427387904 ≤ a * b) (h2 : a * b ≤ 4611686018427387904) :
    Calls Try.prog 14 #[.int .i64 a, .int .i64 b] w fun e w' => e = .returned (.int .i64 (a * b / 65536)) ∧ w' = w := by
  go_enter Try.func14, Try.ntmps14
  go_wp2_with (go_at_call 25; refine (down_any _ _ _ (by omega) (by omega) (by omega)).mono ?_; rintro e w' ⟨rfl, rfl⟩)
  go_ret
  exact ⟨ret_int (Fx.fdiv_pos _ _ (by omega)), rfl⟩

set_option maxHeartbeats 400000 in
theorem floorDiv_any (n b : Int) (w : World) (hb : b ≠ 0) (h1 : -4611686018427387904 ≤ n) (h2 : n ≤ 4611686018427387904) :
    Calls Try.prog 24 #[.int .i64 n, .int .i64 b] w fun e w' => e = .returned (.int .i64 (n.fdiv b)) ∧ w' = w := by
  have hbd := Fx.tdiv_bd n b 4611686018427387904 h1 h2
  have hb1 := hbd.1
  have hb2 := hbd.2
  clear hbd
  have hb0 : (b == 0) = false := by simpa using hb
  by_cases h : n.tmod b = 0
  · have hd := hide (Fx.floor_same n b (Or.inl h))
    have hm : (n.tmod b != 0) = false := by simp [h]
    clear h
    go_enter Try.func24, Try.ntmps24
    go_wp2
    go_ret
    exact ⟨ret_int (unhide hd), rfl⟩
  · have hm : (n.tmod b != 0) = true := by simp [h]
    by_cases hn : n < 0
    · by_cases hbn : b < 0
      · have hd := hide (Fx.floor_same n b (Or.inr (by simp [hn, hbn])))
        go_enter Try.func24, Try.ntmps24
        go_wp2
        go_ret
        exact ⟨ret_int (unhide hd), rfl⟩
      · have hd := hide (Fx.floor_less n b hb h (by simp [hn, hbn]))
        go_enter Try.func24, Try.ntmps24
        go_wp2
        go_ret
        exact ⟨ret_int (unhide hd), rfl⟩
    · have hm' : (n % b != 0) = true := by rw [← Int.tmod_eq_emod_of_nonneg (by omega)]; exact hm
      by_cases hbn : b < 0
      · have hd := hide (Fx.floor_less n b hb h (by simp [hn, hbn]))
        go_enter Try.func24, Try.ntmps24
        go_wp2
        go_ret
        exact ⟨ret_int (unhide hd), rfl⟩
      · have hd := hide (Fx.floor_same n b (Or.inr (by simp [hn, hbn])))
        go_enter Try.func24, Try.ntmps24
        go_wp2
        go_ret
        exact ⟨ret_int (unhide hd), rfl⟩

set_option maxHeartbeats 400000 in
theorem div_zero (a : Int) (w : World) :
    Calls Try.prog 11 #[.int .i64 a, .int .i64 0] w fun e w' => e = .returned (.tuple #[.int .i64 0, .int .i64 1]) ∧ w' = w := by
  go_enter Try.func11, Try.ntmps11
  go_wp2
  go_ret2
  exact ⟨rfl, rfl⟩

set_option maxHeartbeats 400000 in
theorem div_any (a b : Int) (w : World) (hb : b ≠ 0) (h1 : -2147483648 ≤ a) (h2 : a ≤ 2147483648) :
    Calls Try.prog 11 #[.int .i64 a, .int .i64 b] w fun e w' => e = .returned (.tuple #[.int .i64 ((a * 65536).fdiv b), .int .i64 0]) ∧ w' = w := by
  have hb0 : (b == 0) = false := by simpa using hb
  go_enter Try.func11, Try.ntmps11
  go_wp2_with (go_at_call 24; refine (floorDiv_any _ _ _ hb (by omega) (by omega)).mono ?_; rintro e w' ⟨rfl, rfl⟩)
  go_ret2
  exact ⟨rfl, rfl⟩

set_option maxHeartbeats 400000 in
theorem refDiv_zero (a : Int) (w : World) :
    Calls Try.prog 12 #[.int .i64 a, .int .i64 0] w fun e w' => e = .returned (.tuple #[.int .i64 0, .int .i64 1]) ∧ w' = w := by
  go_enter Try.func12, Try.ntmps12
  go_wp2
  go_ret2
  exact ⟨rfl, rfl⟩

theorem ret_two {a b c : Int} (h : a = b) : Ending.returned (.tuple #[.int .i64 a, .int .i64 c]) = .returned (.tuple #[.int .i64 b, .int .i64 c]) := by rw [h]

set_option maxHeartbeats 400000 in
theorem refDiv_any (a b : Int) (w : World) (hb : b ≠ 0) (h1 : -2147483648 ≤ a) (h2 : a ≤ 2147483648) (h3 : -2147483648 ≤ b) :
    Calls Try.prog 12 #[.int .i64 a, .int .i64 b] w fun e w' => e = .returned (.tuple #[.int .i64 ((a * 65536).fdiv b), .int .i64 0]) ∧ w' = w := by
  have hb0 : (b == 0) = false := by simpa using hb
  by_cases hn : b < 0
  · go_enter Try.func12, Try.ntmps12
    go_wp2_with (go_at_call 25; refine (down_any _ _ _ (by omega) (by omega) (by omega)).mono ?_; rintro e w' ⟨rfl, rfl⟩)
    go_ret2
    refine ⟨ret_two ?_, rfl⟩
    have h := Fx.fdiv_neg_neg (a * 65536) b
    rw [Int.zero_sub, Int.zero_sub] at h
    rw [Int.neg_mul]
    exact h
  · go_enter Try.func12, Try.ntmps12
    go_wp2_with (go_at_call 25; refine (down_any _ _ _ (by omega) (by omega) (by omega)).mono ?_; rintro e w' ⟨rfl, rfl⟩)
    go_ret2
    exact ⟨rfl, rfl⟩

set_option maxHeartbeats 400000 in
theorem refRoot_any (n : Int) (w : World) (h1 : 0 ≤ n) (h2 : n ≤ 9223372036854775807) :
    Calls Try.prog 16 #[.int .i64 n] w fun e w' => ∃ r, e = .returned (.int .i64 r) ∧ Fx.isRoot n r ∧ w' = w := by
  go_enter Try.func16, Try.ntmps16
  go_wp2
  go_loop [3, 4] (fun r b => ∃ p q : Int, Fx.RI n p q ∧ r = .int .i64 p ∧ b = .int .i64 q) (fun _ b => (intOf b).toNat)
  case atStart => exact ⟨0, _, Fx.RI_start n h1 (by omega), rfl, rfl⟩
  case round =>
    obtain ⟨p, q, hri, rfl, rfl⟩ := hrel
    obtain ⟨hp0, hp1, hq0, hq1, hpq⟩ := Fx.RI_bounds hri
    by_cases hq : 0 < q
    · by_cases hc : p + q ≤ 3037000499
      · obtain ⟨hs0, hs1⟩ := Fx.RI_small hri hc
        by_cases hy : (p + q) * (p + q) ≤ n
        · go_wp2
          go_round
          case rel => exact ⟨_, _, Fx.RI_yes hri hq hy, rfl, rfl⟩
          case measure => simp [intOf]; omega
        · go_wp2
          go_round
          case rel => exact ⟨_, _, Fx.RI_no hri hq (by omega), rfl, rfl⟩
          case measure => simp [intOf]; omega
      · have hy := Fx.RI_cap (n := n) (P := p) (B := q) h2 (by omega)
        have HY := hide hy
        clear hy
        go_wp2
        go_round
        case rel => exact ⟨_, _, Fx.RI_no hri hq (unhide HY), rfl, rfl⟩
        case measure => simp [intOf]; omega
    · go_wp2
      go_ret
      exact ⟨p, rfl, Fx.RI_end hri (by omega), rfl⟩

set_option maxHeartbeats 400000 in
theorem refRoot_neg (n : Int) (w : World) (h1 : n < 0) (h2 : -9223372036854775808 ≤ n) :
    Calls Try.prog 16 #[.int .i64 n] w fun e w' => e = .returned (.int .i64 0) ∧ w' = w := by
  go_enter Try.func16, Try.ntmps16
  go_wp2
  go_loop [3, 4] (fun r b => ∃ q : Int, 0 ≤ q ∧ q ≤ 2147483648 ∧ r = .int .i64 0 ∧ b = .int .i64 q) (fun _ b => (intOf b).toNat)
  case atStart => exact ⟨2147483648, by omega, by omega, rfl, rfl⟩
  case round =>
    obtain ⟨q, hq0, hq1, rfl, rfl⟩ := hrel
    by_cases hq : 0 < q
    · obtain ⟨hs0, hs1⟩ := Fx.mul_bd q q 2147483648 (by omega) (by omega) (by omega) (by omega) (by omega)
      have hs2 : 0 ≤ q * q := Int.mul_nonneg hq0 hq0
      have hc : q ≤ 3037000499 := by omega
      go_wp2
      all_goals go_round
      case rel => exact ⟨q / 2, by omega, by omega, rfl, rfl⟩
      case measure => simp [intOf]; omega
    · go_wp2
      go_ret
      exact ⟨rfl, rfl⟩

theorem sq_bd (dx dy : Int) (h1 : -1048576 ≤ dx) (h2 : dx ≤ 1048576) (h3 : -1048576 ≤ dy) (h4 : dy ≤ 1048576) : 0 ≤ dx * dx ∧ dx * dx ≤ 1099511627776 ∧ 0 ≤ dy * dy ∧ dy * dy ≤ 1099511627776 := by
  have a := Fx.mul_bd dx dx 1048576 (by omega) h1 h2 h1 h2
  have b := Fx.mul_bd dy dy 1048576 (by omega) h3 h4 h3 h4
  have c : 0 ≤ dx * dx := by rcases Int.le_total 0 dx with h | h; exact Int.mul_nonneg h h; exact Int.mul_nonneg_of_nonpos_of_nonpos h h
  have d : 0 ≤ dy * dy := by rcases Int.le_total 0 dy with h | h; exact Int.mul_nonneg h h; exact Int.mul_nonneg_of_nonpos_of_nonpos h h
  omega

set_option maxHeartbeats 400000 in
theorem dist_any (dx dy : Int) (w : World) (h1 : -1048576 ≤ dx) (h2 : dx ≤ 1048576) (h3 : -1048576 ≤ dy) (h4 : dy ≤ 1048576) :
    Calls Try.prog 18 #[.int .i64 dx, .int .i64 dy] w fun e w' => ∃ r, e = .returned (.int .i64 r) ∧ Fx.isRoot ((dx * dx + dy * dy) * 65536) r ∧ w' = w := by
  obtain ⟨a, b, c, d⟩ := sq_bd dx dy h1 h2 h3 h4
  go_enter Try.func18, Try.ntmps18
  go_wp2_with (go_at_call 15; refine (root_any _ _ (by omega) (by omega)).mono ?_; rintro e w' ⟨r, rfl, hr, rfl⟩)
  go_ret
  exact ⟨r, rfl, hr, rfl⟩

set_option maxHeartbeats 400000 in
theorem refDist_any (dx dy : Int) (w : World) (h1 : -1048576 ≤ dx) (h2 : dx ≤ 1048576) (h3 : -1048576 ≤ dy) (h4 : dy ≤ 1048576) :
    Calls Try.prog 19 #[.int .i64 dx, .int .i64 dy] w fun e w' => ∃ r, e = .returned (.int .i64 r) ∧ Fx.isRoot ((dx * dx + dy * dy) * 65536) r ∧ w' = w := by
  obtain ⟨a, b, c, d⟩ := sq_bd dx dy h1 h2 h3 h4
  go_enter Try.func19, Try.ntmps19
  go_wp2_with (go_at_call 16; refine (refRoot_any _ _ (by omega) (by omega)).mono ?_; rintro e w' ⟨r, rfl, hr, rfl⟩)
  go_ret
  exact ⟨r, rfl, by rw [Int.mul_comm]; exact hr, rfl⟩

theorem turned_1 : Fx.turned ((1 : Int) % 4).toNat (1, 0) = (0, 1) := by decide
theorem root_99 : Fx.isRoot 99 9 := ⟨by omega, by omega, by omega⟩
theorem dist_34 : Fx.isRoot ((3 * 3 + 4 * 4) * 65536) 1280 := ⟨by omega, by omega, by omega⟩

set_option maxHeartbeats 400000 in
theorem known_any (w : World) :
    Calls Try.prog 9 #[] w fun e w' => e = .returned (.bool true) ∧ w' = w := by
  go_enter Try.func9, Try.ntmps9
  go_wp2_with (first
    | (go_at_call 20; refine (turn_any 1 0 1 _ (by omega) (by omega) (by omega) (by omega)).mono ?_; rintro e w' ⟨rfl, rfl⟩; rw [turned_1])
    | (go_at_call 13; refine (mul_any _ _ _ (by omega) (by omega)).mono ?_; rintro e w' ⟨rfl, rfl⟩)
    | (go_at_call 15; refine (root_any _ _ (by omega) (by omega)).mono ?_; rintro e w' ⟨r, rfl, hr, rfl⟩; obtain rfl : r = 9 := Fx.root_one hr root_99; clear hr)
    | (go_at_call 18; refine (dist_any 3 4 _ (by omega) (by omega) (by omega) (by omega)).mono ?_; rintro e w' ⟨r, rfl, hr, rfl⟩; obtain rfl : r = 1280 := Fx.root_one hr dist_34; clear hr))
  go_ret
  exact ⟨rfl, rfl⟩

set_option maxHeartbeats 400000 in
theorem half_any (n : Int) (w : World) :
    Calls Try.prog 10 #[.int .i64 n] w fun e w' => e = .returned (.int .i64 (n % 4294967297 - 2147483648)) ∧ w' = w := by
  go_enter Try.func10, Try.ntmps10
  go_wp2_with (go_at_call 17; refine (within_any _ _ _ (by omega) (by omega)).mono ?_; rintro e w' ⟨rfl, rfl⟩)
  go_ret
  exact ⟨rfl, rfl⟩

set_option maxHeartbeats 400000 in
theorem refTurn_any (x y q : Int) (w : World) (h1 : -1125899906842624 ≤ x) (h2 : x ≤ 1125899906842624) (h3 : -1125899906842624 ≤ y) (h4 : y ≤ 1125899906842624) :
    Calls Try.prog 21 #[.int .i64 x, .int .i64 y, .int .i64 q] w fun e w' => e = .returned (.tuple #[.int .i64 (Fx.turned (q % 4).toNat (x, y)).1, .int .i64 (Fx.turned (q % 4).toNat (x, y)).2]) ∧ w' = w := by
  have t1 := Int.tmod_lt_of_pos q (b := 4) (by omega)
  have t2 := Int.lt_tmod_of_pos q (b := 4) (by omega)
  obtain ⟨m, hm⟩ : ∃ m : Nat, (m : Int) = q % 4 := ⟨(q % 4).toNat, by omega⟩
  have hm4 : m < 4 := by omega
  have hmt : (q % 4).toNat = m := by omega
  rw [hmt]
  clear hmt
  by_cases hn : q.tmod 4 < 0
  all_goals
    have HE : Hid ((if q.tmod 4 < 0 then q.tmod 4 + 4 else q.tmod 4) = (m : Int)) := by
      have a := Fx.within_neg q 4 (by omega)
      have b := Fx.within_pos q 4 (by omega)
      show _ = _
      split <;> omega
    clear hm
    go_enter Try.func21, Try.ntmps21
    go_wp2
    go_loop [0, 1, 8] (fun a b i => ∃ k j : Nat, k + j = m ∧ a = .int .i64 (Fx.turned k (x, y)).1 ∧ b = .int .i64 (Fx.turned k (x, y)).2 ∧ i = .int .i64 j) (fun _ _ i => (intOf i).toNat)
    case atStart => exact ⟨0, m, by omega, rfl, rfl, by have h := unhide HE; split at h <;> first | rw [h] | (exfalso; omega)⟩
    case round =>
      obtain ⟨k, j, hkj, rfl, rfl, rfl⟩ := hrel
      obtain ⟨b1, b2, b3, b4⟩ := Fx.turned_bd k (x, y) 1125899906842624 h1 h2 h3 h4
      have hj4 : j < 4 := by omega
      have HK := hide hkj
      clear hkj
      by_cases hj : 0 < j
      · go_wp2
        go_round
        case rel => 
          have := unhide HK
          exact ⟨k + 1, j - 1, by omega, by simp [Fx.turned], by simp [Fx.turned], by congr 1; omega⟩
        case measure => simp [intOf]; omega
      · go_wp2
        go_ret2
        have := unhide HK
        obtain rfl : k = m := by omega
        exact ⟨rfl, rfl⟩

set_option maxHeartbeats 400000 in
theorem way_any (n : Int) (w : World) :
    Calls Try.prog 22 #[.int .i64 n] w fun e w' => e = .returned (.tuple #[.int .i64 (Fx.way n).1, .int .i64 (Fx.way n).2]) ∧ w' = w := by
  by_cases h1 : n < 1
  · rw [Fx.way_none n (Or.inl h1)]
    go_enter Try.func22, Try.ntmps22
    go_wp2
    go_ret2
    exact ⟨rfl, rfl⟩
  · by_cases h2 : 4 < n
    · rw [Fx.way_none n (Or.inr h2)]
      go_enter Try.func22, Try.ntmps22
      go_wp2
      go_ret2
      exact ⟨rfl, rfl⟩
    · rw [← Fx.way_turned n (by omega) (by omega)]
      go_enter Try.func22, Try.ntmps22
      go_wp2_with (go_at_call 20; refine (turn_any 0 (-1) _ _ (by omega) (by omega) (by omega) (by omega)).mono ?_; rintro e w' ⟨rfl, rfl⟩)
      go_ret2
      exact ⟨rfl, rfl⟩

set_option maxHeartbeats 400000 in
theorem refWay_any (n : Int) (w : World) :
    Calls Try.prog 23 #[.int .i64 n] w fun e w' => e = .returned (.tuple #[.int .i64 (Fx.way n).1, .int .i64 (Fx.way n).2]) ∧ w' = w := by
  by_cases h : n = 1 ∨ n = 2 ∨ n = 3 ∨ n = 4
  · rcases h with rfl | rfl | rfl | rfl
    all_goals
      go_enter Try.func23, Try.ntmps23
      go_wp2
      go_ret2
      exact ⟨rfl, rfl⟩
  · have e1 : (n == 1) = false := by simp; omega
    have e2 : (n == 2) = false := by simp; omega
    have e3 : (n == 3) = false := by simp; omega
    have e4 : (n == 4) = false := by simp; omega
    rw [Fx.way_none n (by omega)]
    clear h
    go_enter Try.func23, Try.ntmps23
    go_wp2
    go_ret2
    exact ⟨rfl, rfl⟩

theorem half_ex (n : Int) (w : World) :
    Calls Try.prog 10 #[.int .i64 n] w fun e w' => ∃ m : Int, e = .returned (.int .i64 m) ∧ -2147483648 ≤ m ∧ m ≤ 2147483648 ∧ w' = w := by
  refine (half_any n w).mono fun e w' h => ?_
  obtain ⟨rfl, rfl⟩ := h
  exact ⟨_, rfl, by omega, by omega, rfl⟩

theorem within_ex (a n : Int) (w : World) (hn : 0 < n) (hn2 : n ≤ 4611686018427387904) :
    Calls Try.prog 17 #[.int .i64 a, .int .i64 n] w fun e w' => ∃ m : Int, e = .returned (.int .i64 m) ∧ 0 ≤ m ∧ m < n ∧ w' = w := by
  refine (within_any a n w hn hn2).mono fun e w' h => ?_
  obtain ⟨rfl, rfl⟩ := h
  exact ⟨_, rfl, Int.emod_nonneg _ (by omega), Int.emod_lt_of_pos _ hn, rfl⟩

end Go.Proofs.Ytcpbcehekmegdaa
