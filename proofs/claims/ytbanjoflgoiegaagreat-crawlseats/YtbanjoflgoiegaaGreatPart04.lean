/-
  GridLineMath GridLine
-/
import Derived.Test.YtbanjoflgoiegaaGreatPart03
import Derived.Test.YtbanjoflgoiegaaGreatPart02
import Derived.Laws.AppendOwnNone
namespace Go.Proofs.YtbanjoflgoiegaaGreat

namespace Gr

theorem near_up (p n d : Int) (hn : 0 < n) (h0 : 0 ≤ p) (h1 : p ≤ n * d) : 0 ≤ near p n ∧ near p n ≤ d := by
  unfold near
  refine ⟨Int.ediv_nonneg (by omega) (by omega), ?_⟩
  have : (2 * p + n) / (2 * n) < d + 1 := Int.ediv_lt_of_lt_mul (by omega) (by
    have : (d + 1) * (2 * n) = 2 * (n * d) + 2 * n := by rw [Int.add_mul, Int.one_mul, Int.mul_comm d, Int.mul_assoc]
    omega)
  omega

theorem near_down (p n d : Int) (hn : 0 < n) (h0 : p ≤ 0) (h1 : n * d ≤ p) : d ≤ near p n ∧ near p n ≤ 0 := by
  unfold near
  constructor
  · refine Int.le_ediv_of_mul_le (by omega) ?_
    have : d * (2 * n) = 2 * (n * d) := by rw [Int.mul_comm d, Int.mul_assoc]
    omega
  · have : (2 * p + n) / (2 * n) < 1 := Int.ediv_lt_of_lt_mul (by omega) (by omega)
    omega

theorem near_mul (n d : Int) (hn : 0 < n) : near (n * d) n = d := by
  unfold near
  have h1 : d ≤ (2 * (n * d) + n) / (2 * n) := by
    refine Int.le_ediv_of_mul_le (by omega) ?_
    have : d * (2 * n) = 2 * (n * d) := by rw [Int.mul_comm d, Int.mul_assoc]
    omega
  have h2 : (2 * (n * d) + n) / (2 * n) < d + 1 := Int.ediv_lt_of_lt_mul (by omega) (by
    have : (d + 1) * (2 * n) = 2 * (n * d) + 2 * n := by rw [Int.add_mul, Int.one_mul, Int.mul_comm d, Int.mul_assoc]
    omega)
  omega

def span (x0 y0 x1 y1 : Int) : Nat := (max (max (x1 - x0) (x0 - x1)) (max (y1 - y0) (y0 - y1))).toNat

def ln (x0 y0 x1 y1 : Int) (k : Nat) : Int :=
  (y0 + near (k * (y1 - y0)) (span x0 y0 x1 y1)) * 24 + (x0 + near (k * (x1 - x0)) (span x0 y0 x1 y1))

theorem part (d n : Int) (k : Nat) (hn : 0 < n) (hk : (k : Int) ≤ n) : (0 ≤ d ∧ 0 ≤ near (k * d) n ∧ near (k * d) n ≤ d) ∨ (d ≤ 0 ∧ d ≤ near (k * d) n ∧ near (k * d) n ≤ 0) := by
  by_cases h : 0 ≤ d
  · left
    have a : 0 ≤ (k : Int) * d := Int.mul_nonneg (by omega) h
    have b : (k : Int) * d ≤ n * d := Int.mul_le_mul_of_nonneg_right hk h
    exact ⟨h, near_up _ _ _ hn a b⟩
  · right
    have a : (k : Int) * -d ≤ n * -d := Int.mul_le_mul_of_nonneg_right hk (by omega)
    have b : 0 ≤ (k : Int) * -d := Int.mul_nonneg (by omega) (by omega)
    rw [Int.mul_neg] at a b
    rw [Int.mul_neg] at a
    exact ⟨by omega, near_down _ _ _ hn (by omega) (by omega)⟩

theorem mul_bd (k : Nat) (d : Int) (hk : k ≤ 23) (h1 : -23 ≤ d) (h2 : d ≤ 23) : -1000 ≤ (k : Int) * d ∧ (k : Int) * d ≤ 1000 := by
  have a : (k : Int) * d ≤ (k : Int) * 23 := Int.mul_le_mul_of_nonneg_left h2 (by omega)
  have b : (k : Int) * (-23) ≤ (k : Int) * d := Int.mul_le_mul_of_nonneg_left h1 (by omega)
  omega

theorem ln_parts (x0 y0 x1 y1 : Int) (h0 : inB x0 y0 = true) (h1 : inB x1 y1 = true) (k : Nat) (hk : k ≤ span x0 y0 x1 y1) :
    ∃ x y : Int, ln x0 y0 x1 y1 k = y * 24 + x ∧ x = x0 + near (k * (x1 - x0)) (span x0 y0 x1 y1) ∧ y = y0 + near (k * (y1 - y0)) (span x0 y0 x1 y1) ∧ 0 ≤ x ∧ x < 24 ∧ 0 ≤ y ∧ y < 16 := by
  rw [inB_iff] at h0 h1
  refine ⟨_, _, rfl, rfl, rfl, ?_⟩
  by_cases hn : span x0 y0 x1 y1 = 0
  · obtain rfl : k = 0 := by omega
    rw [hn]
    have e : ∀ p, near p ((0 : Nat) : Int) = 0 := fun p => by simp [near]
    rw [e, e]
    omega
  · have hs : -(span x0 y0 x1 y1 : Int) ≤ x1 - x0 ∧ x1 - x0 ≤ span x0 y0 x1 y1 ∧ -(span x0 y0 x1 y1 : Int) ≤ y1 - y0 ∧ y1 - y0 ≤ span x0 y0 x1 y1 := by unfold span; omega
    have a := part (x1 - x0) (span x0 y0 x1 y1) k (by omega) (by omega)
    have b := part (y1 - y0) (span x0 y0 x1 y1) k (by omega) (by omega)
    omega

theorem span_bd (x0 y0 x1 y1 : Int) (h0 : inB x0 y0 = true) (h1 : inB x1 y1 = true) : span x0 y0 x1 y1 ≤ 23 := by
  rw [inB_iff] at h0 h1
  unfold span
  omega

theorem ln_bd (x0 y0 x1 y1 : Int) (h0 : inB x0 y0 = true) (h1 : inB x1 y1 = true) (k : Nat) (hk : k ≤ span x0 y0 x1 y1) : 0 ≤ ln x0 y0 x1 y1 k ∧ ln x0 y0 x1 y1 k < 384 := by
  obtain ⟨x, y, e, _, _, _, _, _, _⟩ := ln_parts x0 y0 x1 y1 h0 h1 k hk
  omega

theorem near_0 (n : Int) (hn : 0 ≤ n) : near 0 n = 0 := by
  by_cases h : n = 0
  · subst h; rfl
  · have := near_mul n 0 (by omega)
    rwa [Int.mul_zero] at this

theorem ln_first (x0 y0 x1 y1 : Int) : ln x0 y0 x1 y1 0 = y0 * 24 + x0 := by
  unfold ln
  rw [show ((0 : Nat) : Int) = 0 from rfl, Int.zero_mul, Int.zero_mul, near_0 _ (by omega)]
  omega

end Gr

end Go.Proofs.YtbanjoflgoiegaaGreat

namespace Go.Proofs.YtbanjoflgoiegaaGreat
open Go.RowKit

theorem line_none (x0 y0 x1 y1 : Int) (w : World) (h : Gr.inB x0 y0 = true → Gr.inB x1 y1 = false) :
    Calls Tryz.prog 222 #[.int .i64 x0, .int .i64 y0, .int .i64 x1, .int .i64 y1] w fun e w' => e = .returned (.slice none 0 0) ∧ w' = w := by
  by_cases h0 : Gr.inB x0 y0 = true
  · have h1 := h h0
    clear h
    go_enter Tryz.func222, Tryz.ntmps222
    go_wp2_with (go_at_call 152; refine (isCell_any _ _ _).mono ?_; rintro e w' ⟨rfl, rfl⟩)
    go_ret
    exact ⟨rfl, rfl⟩
  · have h0' : Gr.inB x0 y0 = false := by simpa using h0
    clear h h0
    go_enter Tryz.func222, Tryz.ntmps222
    go_wp2_with (go_at_call 152; refine (isCell_any _ _ _).mono ?_; rintro e w' ⟨rfl, rfl⟩)
    go_ret
    exact ⟨rfl, rfl⟩

theorem max4 (ts : Array TypeId) (t : TypeId) (a b c d n : Int) (w : World) (h : max (max a b) (max c d) = n) :
    (Builtin.max_ ts t #[.int .i64 a, .int .i64 b, .int .i64 c, .int .i64 d]).run Tryz.prog w = .ok (.int .i64 n) w := by
  have e : (Builtin.max_ ts t #[.int .i64 a, .int .i64 b, .int .i64 c, .int .i64 d]).run Tryz.prog w = .ok (.int .i64 (if d > (if c > (if b > a then b else a) then c else (if b > a then b else a)) then d else (if c > (if b > a then b else a) then c else (if b > a then b else a)))) w := by
    simp [Builtin.max_, Builtin.max2]
  rw [e]
  congr 2
  omega

set_option maxRecDepth 4000 in
set_option maxHeartbeats 800000 in
theorem line_some (x0 y0 x1 y1 : Int) (w : World) (h0 : Gr.inB x0 y0 = true) (h1 : Gr.inB x1 y1 = true) :
    Calls Tryz.prog 222 #[.int .i64 x0, .int .i64 y0, .int .i64 x1, .int .i64 y1] w
      (Gives w (Gr.span x0 y0 x1 y1 + 1) (Ints (Gr.ln x0 y0 x1 y1))) := by
  have hn23 := Gr.span_bd x0 y0 x1 y1 h0 h1
  obtain ⟨b1, b2, b3, b4⟩ := (Gr.inB_iff x0 y0).1 h0
  obtain ⟨b5, b6, b7, b8⟩ := (Gr.inB_iff x1 y1).1 h1
  obtain ⟨n, hn⟩ : ∃ n : Nat, n = Gr.span x0 y0 x1 y1 := ⟨_, rfl⟩
  obtain ⟨dx, hdx⟩ : ∃ d : Int, x1 - x0 = d := ⟨_, rfl⟩
  obtain ⟨dy, hdy⟩ : ∃ d : Int, y1 - y0 = d := ⟨_, rfl⟩
  have hmx : ∀ ts t w, (Builtin.max_ ts t #[.int .i64 dx, .int .i64 (-dx), .int .i64 dy, .int .i64 (-dy)]).run Tryz.prog w = .ok (.int .i64 (n : Int)) w := by
    intro ts t w
    refine max4 ts t _ _ _ _ _ w ?_
    rw [hn]; unfold Gr.span; omega
  have hn' := hide hn
  have d1 : -23 ≤ dx := by omega
  have d2 : dx ≤ 23 := by omega
  have d3 : -23 ≤ dy := by omega
  have d4 : dy ≤ 23 := by omega
  obtain ⟨i0, hi, hz0, hz1, hz2⟩ := info_parts info_int
  rw [← hn] at hn23 ⊢
  clear hn
  by_cases hz : n = 0
  · subst hz
    go_enter Tryz.func222, Tryz.ntmps222
    go_wp2_with (first | (go_at_call 152; refine (isCell_any _ _ _).mono ?_; rintro e w' ⟨rfl, hw⟩; subst w') | (go_at_call 153; refine (number_any _ _ _ (by omega) (by omega) (by omega) (by omega)).mono ?_; rintro e w' ⟨rfl, hw⟩; subst w'))
    go_ret
    have hf := hide (Gr.ln_first x0 y0 x1 y1)
    refine ⟨_, _, rfl, ⟨by decide, .inr ⟨_, _, rfl, by simp, ?_⟩⟩, by omega, (Below.refl _ _).alloc (Nat.le_refl _) _⟩
    intro i hi1
    obtain rfl : i = 0 := by omega
    show _ = some (Value.int .i64 (Gr.ln x0 y0 x1 y1 0))
    rw [unhide hf]
    simp
  · have hz' : ((n : Int) == 0) = false := by simp; omega
    go_enter Tryz.func222, Tryz.ntmps222
    go_wp2_with (first | (go_at_call 152; refine (isCell_any _ _ _).mono ?_; rintro e w' ⟨rfl, hw⟩; subst w') | (at_make; refine wpList_make_full _ rfl _ _ 38 rfl w.heap.size 3 i0 (.int .i64 0) 1 Tryz.underlying38 hi hz0 hz1 .i64 .i64 _ _ (n + 1) rfl rfl ?q1 ?q2 ?q3 ?q4 (Nat.le_refl _) ?_))
    case q1 => omega
    case q2 => omega
    case q3 => rw [hz2]; omega
    case q4 => unfold maxLen; omega
    intro w2 hown hgrow
    have hA := hide (Arr.zero hown)
    have hB : Below w.heap.size w w2 := (Below.refl _ _).grown hgrow (Nat.le_refl _) (by intro k hk; cases hk)
    clear hown hgrow hi hz0 hz1 hz2 hmx
    obtain ⟨G, hG⟩ : ∃ G, G = w.heap.size := ⟨_, rfl⟩
    rw [← hG] at hA hB ⊢
    have hG' := hide hG
    clear hG
    go_wp2_with fail
    go_loopw [48] (fun i wr => ∃ k : Nat, k ≤ n + 1 ∧ i = .int .i64 k ∧ Arr wr G 3 (n + 1) (fun j => .int .i64 (if j < k then Gr.ln x0 y0 x1 y1 j else 0)) ∧ Below G w wr) (fun i _ => n + 1 - (intOf i).toNat)
    case atStart => exact ⟨0, Nat.zero_le _, rfl, (unhide hA).congr fun j _ => by rw [if_neg (Nat.not_lt_zero _)], hB⟩
    case round =>
      obtain ⟨k, hk, rfl, hA1, hB1⟩ := hrel
      have hA2 := hide hA1
      clear hA1 hA hB
      by_cases hlt : k < n + 1
      · obtain ⟨X, Y, eln, eX, eY, c1, c2, c3, c4⟩ := Gr.ln_parts x0 y0 x1 y1 h0 h1 k (by have := unhide hn'; omega)
        rw [hdx, ← unhide hn'] at eX
        rw [hdy, ← unhide hn'] at eY
        subst eX
        subst eY
        have eln' := hide eln
        clear eln
        obtain ⟨m1, m2⟩ := Gr.mul_bd k dx (by omega) d1 d2
        obtain ⟨m3, m4⟩ := Gr.mul_bd k dy (by omega) d3 d4
        have hc := (unhide hA2).cell hlt
        have hf := (unhide hA2).free k
        have hlt' : (k : Int) < (n : Int) + 1 := by omega
        go_wp2_with (first | (go_at_call 225; refine (nearest_any _ _ _ (by omega) (by omega) (by omega) (by omega)).mono ?_; rintro e w' ⟨rfl, hw⟩; subst w') | (go_at_call 153; refine (number_any _ _ _ (by omega) (by omega) (by omega) (by omega)).mono ?_; rintro e w' ⟨rfl, hw⟩; subst w'))
        go_roundw
        case rel => exact ⟨k + 1, by omega, by go_num, ((unhide hA2).store k _).congr fun j _ => fill_more (unhide eln').symm j, hB1.setCell (Nat.le_refl _) _⟩
        case measure => simp [intOf]; omega
      · have hge : ¬ (k : Int) < (n : Int) + 1 := by omega
        have hk1 : k = n + 1 := by omega
        have hA3 := hide ((unhide hA2).congr (G := Ints (Gr.ln x0 y0 x1 y1)) fun j hj => by rw [if_pos (by omega)]; rfl)
        clear hk1 hA2
        go_wp2
        go_ret
        exact ⟨_, _, rfl, (unhide hA3).vec _ (unhide hA3).lt (by unfold maxLen; omega), Nat.le_refl _, by rw [← unhide hG']; exact hB1⟩

section
attribute [-go_sem] run_max_int2

end

end Go.Proofs.YtbanjoflgoiegaaGreat
