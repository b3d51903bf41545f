/-
  What lies in memory, told once: a slice whose elements are given by a function, below a block number; and what the grid's packages reckon, as plain functions.
  What the grid's small functions answer, in the program and in the document said again: cells, kinds, the first of a kind. None of them touches the world.
  The kind of a cell by its number, and the first cell of a kind: what both packages answer.
  A row of one-cell elements that the call itself has made, at a block whose number is known, its elements given by a function.
  Lines, as numbers: the cells between two ends.
  Lines: what both packages hand back, in memory of their own.
-/
import Derived.Test.YtbploaihicakeaaRows
import Derived.WalkKit
import Derived.WalkSpells
import Derived.WalkLawsBesides
import Derived.OpenShut
import Derived.Below
import Derived.BigQuiet
import Derived.WalkSmall
import Derived.Laws.AppendOwnNone
namespace Go.Proofs.Ytbploaihicakeaa
open Go.RowKit

theorem hide {p : Prop} (h : p) : Hid p := h
theorem unhide {p : Prop} (h : Hid p) : p := h

theorem ret_int {k : IntKind} {a b : Int} (h : a = b) : Ending.returned (.int k a) = .returned (.int k b) := by rw [h]

theorem ret_bool {a b : Bool} (h : a = b) : Ending.returned (.bool a) = .returned (.bool b) := by rw [h]

/-- A slice of one-cell elements as it lies in memory, below block B: element i is 'F i'; where it has none its address may be whatever. -/
def Vec (B : Nat) (w : World) (a : Option Addr) (len : Nat) (F : Nat → Value) : Prop :=
  len ≤ maxLen ∧ (len = 0 ∨ ∃ b off, a = some ⟨b, off, none⟩ ∧ b < B ∧ ∀ i, i < len → w.cell? ⟨b, off + i, none⟩ = some (F i))

theorem Vec.kept {B : Nat} {w w' : World} {a : Option Addr} {len : Nat} {F : Nat → Value} (h : Vec B w a len F) (hb : Below B w w') : Vec B w' a len F := by
  obtain ⟨hm, h0 | ⟨b, off, ha, hlt, hc⟩⟩ := h
  · exact ⟨hm, .inl h0⟩
  · exact ⟨hm, .inr ⟨b, off, ha, hlt, fun i hi => (hb.cell (p := ⟨b, off + i, none⟩) hlt).trans (hc i hi)⟩⟩

theorem Vec.mono {B B' : Nat} {w : World} {a : Option Addr} {len : Nat} {F : Nat → Value} (h : Vec B w a len F) (hb : B ≤ B') : Vec B' w a len F := by
  obtain ⟨hm, h0 | ⟨b, off, ha, hlt, hc⟩⟩ := h
  · exact ⟨hm, .inl h0⟩
  · exact ⟨hm, .inr ⟨b, off, ha, by omega, hc⟩⟩

theorem Vec.drew {B : Nat} {w : World} {a : Option Addr} {len : Nat} {F : Nat → Value} (h : Vec B w a len F) (n : Nat) : Vec B (w.drewN n) a len F :=
  h.kept (below_drewN (Below.refl _ _) n)

theorem Vec.taken {B : Nat} {w : World} {a : Option Addr} {len : Nat} {F : Nat → Value} (h : Vec B w a len F) (k : Nat) (hk : k ≤ len) : Vec B w a k F := by
  obtain ⟨hm, h0 | ⟨b, off, ha, hlt, hc⟩⟩ := h
  · exact ⟨Nat.le_trans hk hm, .inl (by omega)⟩
  · exact ⟨Nat.le_trans hk hm, .inr ⟨b, off, ha, hlt, fun i hi => hc i (by omega)⟩⟩

theorem Vec.at {B : Nat} {w : World} {a : Option Addr} {len : Nat} {F : Nat → Value} (h : Vec B w a len F) {k : Nat} (hk : k < len) :
    ∃ b off, a = some ⟨b, off, none⟩ ∧ b < B ∧ w.cell? ⟨b, off + k, none⟩ = some (F k) := by
  obtain ⟨hm, h0 | ⟨b, off, ha, hlt, hc⟩⟩ := h
  · omega
  · exact ⟨b, off, ha, hlt, hc k hk⟩

theorem Vec.congr {B : Nat} {w : World} {a : Option Addr} {len : Nat} {F G : Nat → Value} (h : Vec B w a len F) (he : ∀ i, i < len → F i = G i) : Vec B w a len G := by
  obtain ⟨hm, h0 | ⟨b, off, ha, hlt, hc⟩⟩ := h
  · exact ⟨hm, .inl h0⟩
  · exact ⟨hm, .inr ⟨b, off, ha, hlt, fun i hi => by rw [hc i hi, he i hi]⟩⟩

def Ints (g : Nat → Int) : Nat → Value := fun i => .int .i64 (g i)
def Byts (g : Nat → Int) : Nat → Value := fun i => .int .u8 (g i)
def Bols (g : Nat → Bool) : Nat → Value := fun i => .bool (g i)

def Gr.inB (x y : Int) : Bool := decide (0 ≤ x ∧ x < 24 ∧ 0 ≤ y ∧ y < 16)
def Gr.walkB (k : Int) : Bool := decide (1 ≤ k ∧ k ≤ 5)
def Gr.clearB (k : Int) : Bool := decide (1 ≤ k ∧ k ≤ 5 ∧ k ≠ 2)
def Gr.at (len : Nat) (f : Nat → Int) (x y : Int) : Int := if Gr.inB x y = true ∧ (y * 24 + x).toNat < len then f (y * 24 + x).toNat else 0

theorem Gr.inB_iff (x y : Int) : Gr.inB x y = true ↔ 0 ≤ x ∧ x < 24 ∧ 0 ≤ y ∧ y < 16 := by simp [Gr.inB]
theorem Gr.inB_no (x y : Int) : Gr.inB x y = false ↔ x < 0 ∨ 24 ≤ x ∨ y < 0 ∨ 16 ≤ y := by
  simp only [Gr.inB, decide_eq_false_iff_not]; omega
theorem Gr.walkB_iff (k : Int) : Gr.walkB k = true ↔ 1 ≤ k ∧ k ≤ 5 := by simp [Gr.walkB]
theorem Gr.clearB_iff (k : Int) : Gr.clearB k = true ↔ 1 ≤ k ∧ k ≤ 5 ∧ k ≠ 2 := by simp [Gr.clearB]

def Gr.findFrom (f : Nat → Int) (kind : Int) : Nat → Nat → Int
  | 0, _ => -1
  | n + 1, k => if f k = kind then (k : Int) else Gr.findFrom f kind n (k + 1)

/-- (2 p + n) / (2 n), rounded down. -/
def Gr.near (p n : Int) : Int := (2 * p + n) / (2 * n)

end Go.Proofs.Ytbploaihicakeaa

namespace Go.Proofs.Ytbploaihicakeaa
open Go.RowKit

set_option maxHeartbeats 400000 in
theorem isCell_any (x y : Int) (w : World) :
    Calls Try.prog 99 #[.int .i64 x, .int .i64 y] w fun e w' => e = .returned (.bool (Gr.inB x y)) ∧ w' = w := by
  by_cases h1 : 0 ≤ x
  · by_cases h2 : x < 24
    · by_cases h3 : 0 ≤ y
      · by_cases h4 : y < 16
        · have hd := hide ((Gr.inB_iff x y).2 ⟨h1, h2, h3, h4⟩)
          go_enter Try.func99, Try.ntmps99
          go_wp2
          go_ret
          exact ⟨ret_bool (unhide hd).symm, rfl⟩
        · have hd := hide ((Gr.inB_no x y).2 (by omega))
          go_enter Try.func99, Try.ntmps99
          go_wp2
          go_ret
          exact ⟨ret_bool (unhide hd).symm, rfl⟩
      · have hd := hide ((Gr.inB_no x y).2 (by omega))
        go_enter Try.func99, Try.ntmps99
        go_wp2
        go_ret
        exact ⟨ret_bool (unhide hd).symm, rfl⟩
    · have hd := hide ((Gr.inB_no x y).2 (by omega))
      go_enter Try.func99, Try.ntmps99
      go_wp2
      go_ret
      exact ⟨ret_bool (unhide hd).symm, rfl⟩
  · have hd := hide ((Gr.inB_no x y).2 (by omega))
    go_enter Try.func99, Try.ntmps99
    go_wp2
    go_ret
    exact ⟨ret_bool (unhide hd).symm, rfl⟩

set_option maxHeartbeats 400000 in
theorem refIn_any (x y : Int) (w : World) :
    Calls Try.prog 38 #[.int .i64 x, .int .i64 y] w fun e w' => e = .returned (.bool (Gr.inB x y)) ∧ w' = w := by
  by_cases h1 : 0 ≤ x
  · by_cases h2 : x < 24
    · by_cases h3 : 0 ≤ y
      · by_cases h4 : y < 16
        · have hd := hide ((Gr.inB_iff x y).2 ⟨h1, h2, h3, h4⟩)
          go_enter Try.func38, Try.ntmps38
          go_wp2
          go_ret
          exact ⟨ret_bool (unhide hd).symm, rfl⟩
        · have hd := hide ((Gr.inB_no x y).2 (by omega))
          go_enter Try.func38, Try.ntmps38
          go_wp2
          go_ret
          exact ⟨ret_bool (unhide hd).symm, rfl⟩
      · have hd := hide ((Gr.inB_no x y).2 (by omega))
        go_enter Try.func38, Try.ntmps38
        go_wp2
        go_ret
        exact ⟨ret_bool (unhide hd).symm, rfl⟩
    · have hd := hide ((Gr.inB_no x y).2 (by omega))
      go_enter Try.func38, Try.ntmps38
      go_wp2
      go_ret
      exact ⟨ret_bool (unhide hd).symm, rfl⟩
  · have hd := hide ((Gr.inB_no x y).2 (by omega))
    go_enter Try.func38, Try.ntmps38
    go_wp2
    go_ret
    exact ⟨ret_bool (unhide hd).symm, rfl⟩

theorem number_any (x y : Int) (w : World) (h1 : -1000 ≤ x) (h2 : x ≤ 1000) (h3 : -1000 ≤ y) (h4 : y ≤ 1000) :
    Calls Try.prog 100 #[.int .i64 x, .int .i64 y] w fun e w' => e = .returned (.int .i64 (y * 24 + x)) ∧ w' = w := by
  go_enter Try.func100, Try.ntmps100
  go_wp2
  go_ret
  exact ⟨rfl, rfl⟩

set_option maxHeartbeats 800000 in
theorem at_any (B : Nat) (a : Option Addr) (len cap : Nat) (f : Nat → Int) (x y : Int) (w : World) (h : Vec B w a len (Byts f)) (hf : ∀ i, 0 ≤ f i ∧ f i ≤ 255) :
    Calls Try.prog 86 #[.slice a len cap, .int .i64 x, .int .i64 y] w fun e w' => e = .returned (.int .i64 (Gr.at len f x y)) ∧ w' = w := by
  have hm : len ≤ 9223372036854775807 := h.1
  by_cases hin : Gr.inB x y = true
  · obtain ⟨h1, h2, h3, h4⟩ := (Gr.inB_iff x y).1 hin
    obtain ⟨k, hk⟩ : ∃ k : Nat, y * 24 + x = (k : Int) := ⟨(y * 24 + x).toNat, by omega⟩
    by_cases hl : k < len
    · have hd : Hid (Gr.at len f x y = f k) := by
        show Gr.at len f x y = f k
        unfold Gr.at
        rw [if_pos ⟨hin, by omega⟩, hk, Int.toNat_natCast]
      obtain ⟨b, off, rfl, _, hc⟩ := h.at hl
      have hc' : w.cell? ⟨b, off + k, none⟩ = some (.int .u8 (f k)) := hc
      have hfk := hf k
      obtain ⟨hf1, hf2⟩ := hfk
      have hl' : (k : Int) < (len : Int) := by omega
      clear hc h hf
      go_enter Try.func86, Try.ntmps86
      go_wp2_with (first | (go_at_call 99; refine (isCell_any _ _ _).mono ?_; rintro e w' ⟨rfl, rfl⟩) | (go_at_call 100; refine (number_any _ _ _ (by omega) (by omega) (by omega) (by omega)).mono ?_; rintro e w' ⟨rfl, rfl⟩))
      go_ret
      exact ⟨ret_int (unhide hd).symm, rfl⟩
    · have hd : Hid (Gr.at len f x y = 0) := by
        show Gr.at len f x y = 0
        unfold Gr.at
        rw [if_neg]
        rintro ⟨_, h⟩
        omega
      have hl' : (len : Int) ≤ (k : Int) := by omega
      clear h hf
      go_enter Try.func86, Try.ntmps86
      go_wp2_with (first | (go_at_call 99; refine (isCell_any _ _ _).mono ?_; rintro e w' ⟨rfl, rfl⟩) | (go_at_call 100; refine (number_any _ _ _ (by omega) (by omega) (by omega) (by omega)).mono ?_; rintro e w' ⟨rfl, rfl⟩))
      go_ret
      exact ⟨ret_int (unhide hd).symm, rfl⟩
  · have hin' : Gr.inB x y = false := by simpa using hin
    have hd : Hid (Gr.at len f x y = 0) := by
      show Gr.at len f x y = 0
      unfold Gr.at
      rw [if_neg]
      rintro ⟨h, _⟩
      exact hin h
    clear hin h hf
    go_enter Try.func86, Try.ntmps86
    go_wp2_with (first | (go_at_call 99; refine (isCell_any _ _ _).mono ?_; rintro e w' ⟨rfl, rfl⟩))
    go_ret
    exact ⟨ret_int (unhide hd).symm, rfl⟩

set_option maxHeartbeats 800000 in
theorem refAt_any (B : Nat) (a : Option Addr) (len cap : Nat) (f : Nat → Int) (x y : Int) (w : World) (h : Vec B w a len (Byts f)) (hf : ∀ i, 0 ≤ f i ∧ f i ≤ 255) :
    Calls Try.prog 19 #[.slice a len cap, .int .i64 x, .int .i64 y] w fun e w' => e = .returned (.int .i64 (Gr.at len f x y)) ∧ w' = w := by
  have hm : len ≤ 9223372036854775807 := h.1
  by_cases hin : Gr.inB x y = true
  · obtain ⟨h1, h2, h3, h4⟩ := (Gr.inB_iff x y).1 hin
    obtain ⟨k, hk⟩ : ∃ k : Nat, y * 24 + x = (k : Int) := ⟨(y * 24 + x).toNat, by omega⟩
    by_cases hl : k < len
    · have hd : Hid (Gr.at len f x y = f k) := by
        show Gr.at len f x y = f k
        unfold Gr.at
        rw [if_pos ⟨hin, by omega⟩, hk, Int.toNat_natCast]
      obtain ⟨b, off, rfl, _, hc⟩ := h.at hl
      have hc' : w.cell? ⟨b, off + k, none⟩ = some (.int .u8 (f k)) := hc
      have hfk := hf k
      obtain ⟨hf1, hf2⟩ := hfk
      have hl' : (k : Int) < (len : Int) := by omega
      clear hc h hf
      go_enter Try.func19, Try.ntmps19
      go_wp2_with (first | (go_at_call 38; refine (refIn_any _ _ _).mono ?_; rintro e w' ⟨rfl, rfl⟩))
      go_ret
      exact ⟨ret_int (unhide hd).symm, rfl⟩
    · have hd : Hid (Gr.at len f x y = 0) := by
        show Gr.at len f x y = 0
        unfold Gr.at
        rw [if_neg]
        rintro ⟨_, h⟩
        omega
      have hl' : (len : Int) ≤ (k : Int) := by omega
      clear h hf
      go_enter Try.func19, Try.ntmps19
      go_wp2_with (first | (go_at_call 38; refine (refIn_any _ _ _).mono ?_; rintro e w' ⟨rfl, rfl⟩))
      go_ret
      exact ⟨ret_int (unhide hd).symm, rfl⟩
  · have hin' : Gr.inB x y = false := by simpa using hin
    have hd : Hid (Gr.at len f x y = 0) := by
      show Gr.at len f x y = 0
      unfold Gr.at
      rw [if_neg]
      rintro ⟨h, _⟩
      exact hin h
    clear hin h hf
    go_enter Try.func19, Try.ntmps19
    go_wp2_with (first | (go_at_call 38; refine (refIn_any _ _ _).mono ?_; rintro e w' ⟨rfl, rfl⟩))
    go_ret
    exact ⟨ret_int (unhide hd).symm, rfl⟩

set_option maxHeartbeats 400000 in
theorem walk_any (k : Int) (w : World) :
    Calls Try.prog 85 #[.int .i64 k] w fun e w' => e = .returned (.bool (Gr.walkB k)) ∧ w' = w := by
  by_cases h : k = 1 ∨ k = 2 ∨ k = 3 ∨ k = 4 ∨ k = 5
  · rcases h with rfl | rfl | rfl | rfl | rfl
    all_goals
      go_enter Try.func85, Try.ntmps85
      go_wp2
      go_ret
      exact ⟨rfl, rfl⟩
  · have e1 : (k == 1) = false := by simp; omega
    have e2 : (k == 2) = false := by simp; omega
    have e3 : (k == 3) = false := by simp; omega
    have e4 : (k == 4) = false := by simp; omega
    have e5 : (k == 5) = false := by simp; omega
    have hd : Hid (Gr.walkB k = false) := by show Gr.walkB k = false; simp only [Gr.walkB, decide_eq_false_iff_not]; omega
    clear h
    go_enter Try.func85, Try.ntmps85
    go_wp2
    go_ret
    exact ⟨ret_bool (unhide hd).symm, rfl⟩

set_option maxHeartbeats 400000 in
theorem refWalk_any (k : Int) (w : World) :
    Calls Try.prog 18 #[.int .i64 k] w fun e w' => e = .returned (.bool (Gr.walkB k)) ∧ w' = w := by
  by_cases h1 : 1 ≤ k
  · by_cases h2 : k ≤ 5
    · have hd := hide ((Gr.walkB_iff k).2 ⟨h1, h2⟩)
      go_enter Try.func18, Try.ntmps18
      go_wp2
      go_ret
      exact ⟨ret_bool (unhide hd).symm, rfl⟩
    · have hd : Hid (Gr.walkB k = false) := by show Gr.walkB k = false; simp only [Gr.walkB, decide_eq_false_iff_not]; omega
      go_enter Try.func18, Try.ntmps18
      go_wp2
      go_ret
      exact ⟨ret_bool (unhide hd).symm, rfl⟩
  · have hd : Hid (Gr.walkB k = false) := by show Gr.walkB k = false; simp only [Gr.walkB, decide_eq_false_iff_not]; omega
    go_enter Try.func18, Try.ntmps18
    go_wp2
    go_ret
    exact ⟨ret_bool (unhide hd).symm, rfl⟩

theorem Gr.clear_of_no {k : Int} (h : Gr.walkB k = false) : Gr.clearB k = false := by
  simp only [Gr.walkB, Gr.clearB, decide_eq_false_iff_not] at *; omega

theorem Gr.clear_of_yes {k : Int} (h : Gr.walkB k = true) : Gr.clearB k = (k != 2) := by
  simp only [Gr.walkB, decide_eq_true_eq] at h
  rw [Bool.eq_iff_iff]
  simp [Gr.clearB]; omega

set_option maxHeartbeats 400000 in
theorem clear_any (k : Int) (w : World) :
    Calls Try.prog 94 #[.int .i64 k] w fun e w' => e = .returned (.bool (Gr.clearB k)) ∧ w' = w := by
  by_cases h : Gr.walkB k = true
  · have hd := hide (Gr.clear_of_yes h)
    go_enter Try.func94, Try.ntmps94
    go_wp2_with (go_at_call 85; refine (walk_any _ _).mono ?_; rintro e w' ⟨rfl, rfl⟩)
    go_ret
    exact ⟨ret_bool (unhide hd).symm, rfl⟩
  · have h' : Gr.walkB k = false := by simpa using h
    have hd := hide (Gr.clear_of_no h')
    clear h
    go_enter Try.func94, Try.ntmps94
    go_wp2_with (go_at_call 85; refine (walk_any _ _).mono ?_; rintro e w' ⟨rfl, rfl⟩)
    go_ret
    exact ⟨ret_bool (unhide hd).symm, rfl⟩

set_option maxHeartbeats 400000 in
theorem refClear_any (k : Int) (w : World) :
    Calls Try.prog 44 #[.int .i64 k] w fun e w' => e = .returned (.bool (Gr.clearB k)) ∧ w' = w := by
  by_cases h : Gr.walkB k = true
  · have hd := hide (Gr.clear_of_yes h)
    go_enter Try.func44, Try.ntmps44
    go_wp2_with (go_at_call 18; refine (refWalk_any _ _).mono ?_; rintro e w' ⟨rfl, rfl⟩)
    go_ret
    exact ⟨ret_bool (unhide hd).symm, rfl⟩
  · have h' : Gr.walkB k = false := by simpa using h
    have hd := hide (Gr.clear_of_no h')
    clear h
    go_enter Try.func44, Try.ntmps44
    go_wp2_with (go_at_call 18; refine (refWalk_any _ _).mono ?_; rintro e w' ⟨rfl, rfl⟩)
    go_ret
    exact ⟨ret_bool (unhide hd).symm, rfl⟩

theorem Gr.near_neg (p n : Int) (hn : 0 < n) (h : (2 * p + n).tmod (2 * n) < 0) : (2 * p + n).tdiv (2 * n) - 1 = Gr.near p n := by
  unfold Gr.near
  have h0 := Int.mul_tdiv_add_tmod (2 * p + n) (2 * n)
  have h1 := Int.mul_ediv_add_emod (2 * p + n) (2 * n)
  have h2 := Int.emod_nonneg (2 * p + n) (b := 2 * n) (by omega)
  have h3 := Int.emod_lt_of_pos (2 * p + n) (b := 2 * n) (by omega)
  have h4 := Int.lt_tmod_of_pos (2 * p + n) (b := 2 * n) (by omega)
  generalize (2 * p + n).tdiv (2 * n) = q at *
  generalize (2 * p + n) / (2 * n) = r at *
  generalize (2 * p + n).tmod (2 * n) = s at *
  generalize (2 * p + n) % (2 * n) = t at *
  have : (2 * n) * (q - 1) = (2 * n) * q - 2 * n := by rw [Int.mul_sub, Int.mul_one]
  have e : (2 * n) * (q - 1 - r) = t - s - 2 * n := by rw [Int.mul_sub]; omega
  rcases Int.lt_trichotomy (q - 1 - r) 0 with g | g | g
  · have : (2 * n) * (q - 1 - r) ≤ (2 * n) * (-1) := Int.mul_le_mul_of_nonneg_left (by omega) (by omega)
    omega
  · omega
  · have : (2 * n) * 1 ≤ (2 * n) * (q - 1 - r) := Int.mul_le_mul_of_nonneg_left (by omega) (by omega)
    omega

theorem Gr.near_pos (p n : Int) (hn : 0 < n) (h : ¬ (2 * p + n).tmod (2 * n) < 0) : (2 * p + n).tdiv (2 * n) = Gr.near p n := by
  unfold Gr.near
  have h0 := Int.mul_tdiv_add_tmod (2 * p + n) (2 * n)
  have h1 := Int.mul_ediv_add_emod (2 * p + n) (2 * n)
  have h2 := Int.emod_nonneg (2 * p + n) (b := 2 * n) (by omega)
  have h3 := Int.emod_lt_of_pos (2 * p + n) (b := 2 * n) (by omega)
  have h4 := Int.tmod_lt_of_pos (2 * p + n) (b := 2 * n) (by omega)
  generalize (2 * p + n).tdiv (2 * n) = q at *
  generalize (2 * p + n) / (2 * n) = r at *
  generalize (2 * p + n).tmod (2 * n) = s at *
  generalize (2 * p + n) % (2 * n) = t at *
  have e : (2 * n) * (q - r) = t - s := by rw [Int.mul_sub]; omega
  rcases Int.lt_trichotomy (q - r) 0 with g | g | g
  · have : (2 * n) * (q - r) ≤ (2 * n) * (-1) := Int.mul_le_mul_of_nonneg_left (by omega) (by omega)
    omega
  · omega
  · have : (2 * n) * 1 ≤ (2 * n) * (q - r) := Int.mul_le_mul_of_nonneg_left (by omega) (by omega)
    omega

theorem Gr.tdiv_bd (p n : Int) (h1 : -1000 ≤ p) (h2 : p ≤ 1000) (h3 : n ≤ 100) (h4 : 0 < n) : -2100 ≤ (2 * p + n).tdiv (2 * n) ∧ (2 * p + n).tdiv (2 * n) ≤ 2100 := by
  have h : ((2 * p + n).tdiv (2 * n)).natAbs ≤ (2 * p + n).natAbs := by
    rw [Int.natAbs_tdiv]
    exact Nat.div_le_self _ _
  omega

set_option maxHeartbeats 400000 in
theorem nearest_any (p n : Int) (w : World) (h1 : -1000 ≤ p) (h2 : p ≤ 1000) (h3 : n ≤ 100) (h4 : 0 < n) :
    Calls Try.prog 104 #[.int .i64 p, .int .i64 n] w fun e w' => e = .returned (.int .i64 (Gr.near p n)) ∧ w' = w := by
  obtain ⟨b1, b2⟩ := Gr.tdiv_bd p n h1 h2 h3 h4
  by_cases hs : 0 ≤ 2 * p + n
  · have e : (2 * p + n).tmod (2 * n) = (2 * p + n) % (2 * n) := Int.tmod_eq_emod_of_nonneg hs
    have hn := Int.emod_nonneg (2 * p + n) (b := 2 * n) (by omega)
    have hd := hide (Gr.near_pos p n h4 (by omega))
    have e2 : (2 * p + n).tdiv (2 * n) = (2 * p + n) / (2 * n) := Int.tdiv_eq_ediv_of_nonneg hs
    rw [e2] at b1 b2
    clear e e2
    go_enter Try.func104, Try.ntmps104
    go_wp2
    go_ret
    exact ⟨ret_int rfl, rfl⟩
  · by_cases hn : (2 * p + n).tmod (2 * n) < 0
    · have hd := hide (Gr.near_neg p n h4 hn)
      go_enter Try.func104, Try.ntmps104
      go_wp2
      go_ret
      exact ⟨ret_int (unhide hd), rfl⟩
    · have hd := hide (Gr.near_pos p n h4 hn)
      go_enter Try.func104, Try.ntmps104
      go_wp2
      go_ret
      exact ⟨ret_int (unhide hd), rfl⟩

set_option maxHeartbeats 400000 in
theorem off_any (p n : Int) (w : World) (h1 : -1000 ≤ p) (h2 : p ≤ 1000) (h3 : n ≤ 100) (h4 : 0 < n) :
    Calls Try.prog 54 #[.int .i64 p, .int .i64 n] w fun e w' => e = .returned (.int .i64 (Gr.near p n)) ∧ w' = w := by
  obtain ⟨b1, b2⟩ := Gr.tdiv_bd p n h1 h2 h3 h4
  by_cases hs : 0 ≤ 2 * p + n
  · have e : (2 * p + n).tmod (2 * n) = (2 * p + n) % (2 * n) := Int.tmod_eq_emod_of_nonneg hs
    have hn := Int.emod_nonneg (2 * p + n) (b := 2 * n) (by omega)
    have hd := hide (Gr.near_pos p n h4 (by omega))
    have e2 : (2 * p + n).tdiv (2 * n) = (2 * p + n) / (2 * n) := Int.tdiv_eq_ediv_of_nonneg hs
    rw [e2] at b1 b2
    clear e e2
    go_enter Try.func54, Try.ntmps54
    go_wp2
    go_ret
    exact ⟨ret_int rfl, rfl⟩
  · by_cases hn : (2 * p + n).tmod (2 * n) < 0
    · have hd := hide (Gr.near_neg p n h4 hn)
      go_enter Try.func54, Try.ntmps54
      go_wp2
      go_ret
      exact ⟨ret_int (unhide hd), rfl⟩
    · have hd := hide (Gr.near_pos p n h4 hn)
      go_enter Try.func54, Try.ntmps54
      go_wp2
      go_ret
      exact ⟨ret_int (unhide hd), rfl⟩

end Go.Proofs.Ytbploaihicakeaa

namespace Go.Proofs.Ytbploaihicakeaa
open Go.RowKit

/-- The kind of the cell of a number; 0 where there is none. -/
def Gr.kind (len : Nat) (f : Nat → Int) (c : Int) : Int := if 0 ≤ c ∧ c < 384 ∧ c.toNat < len then f c.toNat else 0

theorem Gr.kind_at (len : Nat) (f : Nat → Int) (c : Int) (h : 0 ≤ c) : Gr.at len f (c % 24) (c / 24) = Gr.kind len f c := by
  have e : c / 24 * 24 + c % 24 = c := by omega
  have hi := Gr.inB_iff (c % 24) (c / 24)
  unfold Gr.at Gr.kind
  rw [e]
  by_cases hc : c < 384 ∧ c.toNat < len
  · rw [if_pos ⟨hi.2 (by omega), hc.2⟩, if_pos ⟨h, hc⟩]
  · rw [if_neg (fun hh => hc ⟨by have := hi.1 hh.1; omega, hh.2⟩), if_neg (by omega)]

theorem Gr.tdiv_low (c : Int) (h : c < 0) (hb : -9223372036854775808 ≤ c) : -9223372036854775808 ≤ c.tdiv 24 ∧ c.tdiv 24 ≤ 0 ∧ -24 ≤ c.tmod 24 ∧ c.tmod 24 ≤ 0 ∧ 24 * c.tdiv 24 + c.tmod 24 = c := by
  have h1 := Int.mul_tdiv_add_tmod c 24
  have h2 := Int.lt_tmod_of_pos c (b := 24) (by omega)
  have h3 : c.tmod 24 ≤ 0 := by
    have := Int.tmod_nonneg (a := -c) 24 (by omega)
    rw [Int.neg_tmod] at this
    omega
  omega

theorem Gr.kind_at_low (len : Nat) (f : Nat → Int) (c : Int) (h : c < 0) (hb : -9223372036854775808 ≤ c) : Gr.at len f (c.tmod 24) (c.tdiv 24) = Gr.kind len f c := by
  obtain ⟨_, h1, _, h2, h3⟩ := Gr.tdiv_low c h hb
  have hi := Gr.inB_iff (c.tmod 24) (c.tdiv 24)
  unfold Gr.at Gr.kind
  rw [if_neg (fun hh => by have := hi.1 hh.1; omega), if_neg (by omega)]

set_option maxHeartbeats 400000 in
theorem kindOf_any (B : Nat) (a : Option Addr) (len cap : Nat) (f : Nat → Int) (c : Int) (w : World) (h : Vec B w a len (Byts f)) (hf : ∀ i, 0 ≤ f i ∧ f i ≤ 255) (hb : -9223372036854775808 ≤ c) (hb2 : c ≤ 9223372036854775807) :
    Calls Try.prog 95 #[.slice a len cap, .int .i64 c] w fun e w' => e = .returned (.int .i64 (Gr.kind len f c)) ∧ w' = w := by
  have hv := hide h
  have hf' := hide hf
  clear h hf
  by_cases hc : 0 ≤ c
  · have hd := hide (Gr.kind_at len f c hc)
    go_enter Try.func95, Try.ntmps95
    go_wp2_with fail
    refine (at_any B _ _ _ _ _ _ _ (unhide hv) (unhide hf')).mono ?_
    rintro e w' ⟨rfl, rfl⟩
    go_wp2
    go_ret
    exact ⟨ret_int (unhide hd), rfl⟩
  · have hd := hide (Gr.kind_at_low len f c (by omega) hb)
    obtain ⟨b1, b2, _, _, _⟩ := Gr.tdiv_low c (by omega) hb
    go_enter Try.func95, Try.ntmps95
    go_wp2_with fail
    refine (at_any B _ _ _ _ _ _ _ (unhide hv) (unhide hf')).mono ?_
    rintro e w' ⟨rfl, rfl⟩
    go_wp2
    go_ret
    exact ⟨ret_int (unhide hd), rfl⟩

theorem slice_bytes (a : Option Addr) (len cap k : Nat) (w : World) (hk : k ≤ cap) :
    (Instr.slice 25 (.slice a len cap) none (some (.int .i64 (k : Int))) none).run Try.prog w = .ok (.slice a k cap) w := by
  have hs : (sizeOf (Try.prog.elem 25)).run Try.prog w = .ok 1 w := by kernel_rfl
  rw [run_slice_h w 25 a len cap (by kernel_rfl) .i64 (k : Int) (by omega) (by omega), hs]
  have e : a.map (fun x => x.add (0 * 1)) = a := by
    cases a with
    | none => rfl
    | some x => simp [Addr.add]
  simp only [Result.andThen, sliced, e, Int.toNat_natCast, Nat.sub_zero, ite_self]

/-- The number of the first cell of a kind. -/
def Gr.find (len : Nat) (f : Nat → Int) (kind : Int) : Int := Gr.findFrom f kind (min len 384) 0

theorem Gr.find_on (f : Nat → Int) (kind : Int) (n k : Nat) (hk : k < n) : Gr.findFrom f kind (n - k) k = if f k = kind then (k : Int) else Gr.findFrom f kind (n - (k + 1)) (k + 1) := by
  obtain ⟨m, hm⟩ : ∃ m, n - k = m + 1 := ⟨n - k - 1, by omega⟩
  rw [hm, show n - (k + 1) = m by omega]
  rfl

theorem Gr.find_off (f : Nat → Int) (kind : Int) (n : Nat) : Gr.findFrom f kind (n - n) n = -1 := by
  rw [Nat.sub_self]; rfl

set_option maxHeartbeats 800000 in
theorem find_any (B : Nat) (a : Option Addr) (len cap : Nat) (f : Nat → Int) (kind : Int) (w : World) (h : Vec B w a len (Byts f)) (hf : ∀ i, 0 ≤ f i ∧ f i ≤ 255) (hcap : len ≤ cap) :
    Calls Try.prog 113 #[.slice a len cap, .int .i64 kind] w fun e w' => e = .returned (.int .i64 (Gr.find len f kind)) ∧ w' = w := by
  have hm : len ≤ 9223372036854775807 := h.1
  have hf' := hide hf
  clear hf
  by_cases hl : len ≤ 384
  · have hsl := fun wx => slice_bytes a len cap len wx hcap
    have hv := hide h
    have hR : Hid (Gr.find len f kind = Gr.findFrom f kind (len - 0) 0) := by
      show Gr.find len f kind = _
      unfold Gr.find
      rw [show min len 384 = len - 0 by omega]
    have hl' : (len : Int) ≤ 384 := by omega
    clear h
    go_enter Try.func113, Try.ntmps113
    go_wp2_with fail
    go_loop [13] (fun i => ∃ k : Nat, k ≤ len ∧ i = .int .i64 k ∧ Gr.findFrom f kind (len - k) k = Gr.find len f kind) (fun i => len - (intOf i).toNat)
    case atStart => exact ⟨0, Nat.zero_le _, rfl, (unhide hR).symm⟩
    case round =>
      obtain ⟨k, hk, rfl, hr⟩ := hrel
      have hrr := hide hr
      clear hr
      by_cases hlt : k < len
      · obtain ⟨b, off, rfl, _, hc⟩ := (unhide hv).at hlt
        have hc' : w.cell? ⟨b, off + k, none⟩ = some (.int .u8 (f k)) := hc
        obtain ⟨f1, f2⟩ := (unhide hf') k
        clear hc
        have hlt' : (k : Int) < (len : Int) := by omega
        have hon := hide (Gr.find_on f kind len k hlt)
        by_cases he : f k = kind
        · have he' : (f k == kind) = true := by simpa using he
          have hH := hide he
          clear he
          go_wp2
          go_ret
          refine ⟨ret_int ?_, rfl⟩
          rw [← unhide hrr, unhide hon, if_pos (unhide hH)]
        · have he' : (f k == kind) = false := by simpa using he
          go_wp2
          go_round
          case rel =>
            refine ⟨k + 1, by omega, by go_num, ?_⟩
            rw [← unhide hrr, unhide hon, if_neg he]
          case measure => simp [intOf]; omega
      · have hge : (len : Int) ≤ (k : Int) := by omega
        go_wp2
        go_ret
        refine ⟨ret_int ?_, rfl⟩
        rw [← unhide hrr]
        obtain rfl : k = len := by omega
        exact (Gr.find_off f kind _).symm
  · have hsl : ∀ wx, (Instr.slice 25 (.slice a len cap) none (some (.int .i64 384)) none).run Try.prog wx = .ok (.slice a 384 cap) wx := fun wx => slice_bytes a len cap 384 wx (by omega)
    have hv := hide (h.taken 384 (by omega))
    have hR : Hid (Gr.find len f kind = Gr.findFrom f kind (384 - 0) 0) := by
      show Gr.find len f kind = _
      unfold Gr.find
      rw [show min len 384 = 384 - 0 by omega]
    have hl' : ¬ (len : Int) ≤ 384 := by omega
    clear h
    go_enter Try.func113, Try.ntmps113
    go_wp2_with fail
    go_loop [13] (fun i => ∃ k : Nat, k ≤ 384 ∧ i = .int .i64 k ∧ Gr.findFrom f kind (384 - k) k = Gr.find len f kind) (fun i => 384 - (intOf i).toNat)
    case atStart => exact ⟨0, Nat.zero_le _, rfl, (unhide hR).symm⟩
    case round =>
      obtain ⟨k, hk, rfl, hr⟩ := hrel
      have hrr := hide hr
      clear hr
      by_cases hlt : k < 384
      · obtain ⟨b, off, rfl, _, hc⟩ := (unhide hv).at hlt
        have hc' : w.cell? ⟨b, off + k, none⟩ = some (.int .u8 (f k)) := hc
        obtain ⟨f1, f2⟩ := (unhide hf') k
        clear hc
        have hlt' : (k : Int) < (384 : Int) := by omega
        have hon := hide (Gr.find_on f kind 384 k hlt)
        by_cases he : f k = kind
        · have he' : (f k == kind) = true := by simpa using he
          have hH := hide he
          clear he
          go_wp2
          go_ret
          refine ⟨ret_int ?_, rfl⟩
          rw [← unhide hrr, unhide hon, if_pos (unhide hH)]
        · have he' : (f k == kind) = false := by simpa using he
          go_wp2
          go_round
          case rel =>
            refine ⟨k + 1, by omega, by go_num, ?_⟩
            rw [← unhide hrr, unhide hon, if_neg he]
          case measure => simp [intOf]; omega
      · have hk3 : k = 384 := by omega
        have hfin : Hid (Gr.find len f kind = -1) := by
          show Gr.find len f kind = -1
          rw [← unhide hrr, hk3]
          exact Gr.find_off f kind 384
        have hge : ¬ (k : Int) < 384 := by omega
        clear hk3 hk hlt hrr hR
        go_wp2
        go_ret
        exact ⟨ret_int (unhide hfin).symm, rfl⟩

set_option maxHeartbeats 800000 in
theorem refFind_any (B : Nat) (a : Option Addr) (len cap : Nat) (f : Nat → Int) (kind : Int) (w : World) (h : Vec B w a len (Byts f)) (hf : ∀ i, 0 ≤ f i ∧ f i ≤ 255) :
    Calls Try.prog 30 #[.slice a len cap, .int .i64 kind] w fun e w' => e = .returned (.int .i64 (Gr.find len f kind)) ∧ w' = w := by
  have hm : len ≤ 9223372036854775807 := h.1
  have hf' := hide hf
  have hv := hide h
  obtain ⟨n, hn⟩ : ∃ n : Nat, n = min len 384 := ⟨_, rfl⟩
  have hR : Hid (Gr.find len f kind = Gr.findFrom f kind (n - 0) 0) := by
    show Gr.find len f kind = _
    unfold Gr.find
    rw [hn]
    rfl
  have hn1 : n ≤ len := by omega
  have hn2 : n ≤ 384 := by omega
  have hn3 : ¬ n < len → n = len := by omega
  have hN := hide hn
  clear hf h hn
  go_enter Try.func30, Try.ntmps30
  go_wp2_with fail
  go_loop [5] (fun i => ∃ k : Nat, k ≤ n ∧ i = .int .i64 k ∧ Gr.findFrom f kind (n - k) k = Gr.find len f kind) (fun i => n - (intOf i).toNat)
  case atStart => exact ⟨0, Nat.zero_le _, rfl, (unhide hR).symm⟩
  case round =>
    obtain ⟨k, hk, rfl, hr⟩ := hrel
    have hrr := hide hr
    clear hr hn3
    by_cases hlt : k < n
    · obtain ⟨b, off, rfl, _, hc⟩ := ((unhide hv).taken n hn1).at hlt
      have hc' : w.cell? ⟨b, off + k, none⟩ = some (.int .u8 (f k)) := hc
      obtain ⟨f1, f2⟩ := (unhide hf') k
      clear hc
      have hlt' : (k : Int) < (len : Int) := by omega
      have hlt2 : (k : Int) < 384 := by omega
      have hon := hide (Gr.find_on f kind n k hlt)
      by_cases he : f k = kind
      · have he' : (f k == kind) = true := by simpa using he
        have hH := hide he
        clear he
        go_wp2
        go_ret
        refine ⟨ret_int ?_, rfl⟩
        rw [← unhide hrr, unhide hon, if_pos (unhide hH)]
      · have he' : (f k == kind) = false := by simpa using he
        go_wp2
        go_round
        case rel =>
          refine ⟨k + 1, by omega, by go_num, ?_⟩
          rw [← unhide hrr, unhide hon, if_neg he]
        case measure => simp [intOf]; omega
    · have hkn : k = n := by omega
      have hfin : Hid (Gr.find len f kind = -1) := by
        show Gr.find len f kind = -1
        rw [← unhide hrr, hkn]
        exact Gr.find_off f kind n
      by_cases hkl : (k : Int) < (len : Int)
      · have hk3 : ¬ (k : Int) < 384 := by have := unhide hN; omega
        clear hkn
        go_wp2
        go_ret
        exact ⟨ret_int (unhide hfin).symm, rfl⟩
      · clear hkn
        go_wp2
        go_ret
        exact ⟨ret_int (unhide hfin).symm, rfl⟩

end Go.Proofs.Ytbploaihicakeaa

namespace Go.Proofs.Ytbploaihicakeaa
open Go.RowKit

def Arr (w : World) (g : Nat) (T : TypeId) (n : Nat) (F : Nat → Value) : Prop :=
  ∃ cur : Array Value, w.heap[g]? = some (.cells cur T (0, 0)) ∧ cur.size = n ∧ ∀ i, i < n → cur[i]? = some (F i)

theorem Arr.cell {w : World} {g : Nat} {T : TypeId} {n : Nat} {F : Nat → Value} (h : Arr w g T n F) {i : Nat} (hi : i < n) : w.cell? ⟨g, i, none⟩ = some (F i) := by
  obtain ⟨cur, hg, _, hc⟩ := h
  rw [cell_of_row w g i cur T (0, 0) hg]
  exact hc i hi

theorem Arr.free {w : World} {g : Nat} {T : TypeId} {n : Nat} {F : Nat → Value} (h : Arr w g T n F) (i : Nat) : w.frozen? ⟨g, i, none⟩ = false := by
  obtain ⟨cur, hg, _, _⟩ := h
  exact frozen_of_row w g i cur T hg

theorem Arr.lt {w : World} {g : Nat} {T : TypeId} {n : Nat} {F : Nat → Value} (h : Arr w g T n F) : g < w.heap.size := by
  obtain ⟨cur, hg, _, _⟩ := h
  exact lt_of_block hg

theorem Arr.congr {w : World} {g : Nat} {T : TypeId} {n : Nat} {F G : Nat → Value} (h : Arr w g T n F) (he : ∀ i, i < n → F i = G i) : Arr w g T n G := by
  obtain ⟨cur, hg, hs, hc⟩ := h
  exact ⟨cur, hg, hs, fun i hi => by rw [hc i hi, he i hi]⟩

theorem Arr.kept {w w' : World} {B g : Nat} {T : TypeId} {n : Nat} {F : Nat → Value} (h : Arr w g T n F) (hb : Below B w w') (hlt : g < B) : Arr w' g T n F := by
  obtain ⟨cur, hg, hs, hc⟩ := h
  exact ⟨cur, (hb.block g hlt).trans hg, hs, hc⟩

theorem Arr.store {w : World} {g : Nat} {T : TypeId} {n : Nat} {F : Nat → Value} (h : Arr w g T n F) (i : Nat) (u : Value) : Arr (w.setCell ⟨g, i, none⟩ u) g T n (fun j => if j = i then u else F j) := by
  obtain ⟨cur, hg, hs, hc⟩ := h
  refine ⟨cur.setIfInBounds i u, heap_setCell_same w g i cur T u hg, by simpa using hs, fun j hj => ?_⟩
  show _ = some (if j = i then u else F j)
  by_cases hji : j = i
  · subst hji
    rw [if_pos rfl]
    simp [hs, hj]
  · rw [if_neg hji, Array.getElem?_setIfInBounds_ne (by omega)]
    exact hc j hj

theorem Arr.vec {w : World} {g : Nat} {T : TypeId} {n : Nat} {F : Nat → Value} (h : Arr w g T n F) (B : Nat) (hB : g < B) (hm : n ≤ maxLen) : Vec B w (some ⟨g, 0, none⟩) n F :=
  ⟨hm, .inr ⟨g, 0, rfl, hB, fun i hi => by rw [Nat.zero_add]; exact h.cell hi⟩⟩

theorem Arr.made {w : World} {base g : Nat} {T : TypeId} {n : Nat} {xs : List Value} (h : w.ownsRow base T 1 (.slice (some ⟨g, 0, none⟩) n n) n xs) (u : Value) : Arr w g T n (fun i => xs[i]?.getD u) := by
  have hl := h.1
  rcases h.2 with ⟨h', _⟩ | ⟨g', cap', cur, h', _, hg, _, _, hcs, htake⟩
  · simp at h'
  · simp only [Value.slice.injEq, Option.some.injEq, Addr.mk.injEq, and_true, true_and] at h'
    obtain ⟨rfl, rfl⟩ := h'
    refine ⟨cur, hg, by simpa using hcs, fun i hi => ?_⟩
    show _ = some (xs[i]?.getD u)
    rw [← htake]
    rw [Nat.mul_one, List.getElem?_take, if_pos hi, Array.getElem?_toList, Array.getElem?_eq_getElem (by omega)]
    rfl

theorem Arr.zero {w : World} {base g : Nat} {T : TypeId} {n : Nat} {z : Value} (h : w.ownsRow base T 1 (.slice (some ⟨g, 0, none⟩) n n) n (madeCells #[z] n).toList) : Arr w g T n (fun _ => z) := by
  refine (Arr.made h z).congr fun i hi => ?_
  rw [toList_madeCells_one, List.getElem?_replicate, if_pos (by omega)]
  rfl

theorem fill_more {g : Nat → Int} {z : Int} {k : Nat} {v : Int} (hv : v = g k) (j : Nat) : (if j = k then Value.int .i64 v else .int .i64 (if j < k then g j else z)) = .int .i64 (if j < k + 1 then g j else z) := by
  by_cases h : j = k
  · rw [if_pos h, if_pos (by omega), hv, h]
  · rw [if_neg h]
    by_cases h2 : j < k
    · rw [if_pos h2, if_pos (by omega)]
    · rw [if_neg h2, if_neg (by omega)]

theorem own_vec {w : World} {base : Nat} {v : Value} {len : Nat} {xs : List Int} (h : w.ownsRow base 3 1 v len (xs.map (Value.int .i64))) (hm : len ≤ maxLen) :
    ∃ a cap, v = .slice a len cap ∧ xs.length = len ∧ Vec w.heap.size w a len (Ints fun i => xs[i]?.getD 0) := by
  have h1 : xs.length = len := by simpa using h.1
  rcases h.2 with ⟨rfl, rfl⟩ | ⟨g, cap, cur, rfl, _, hg, _, _, _, _⟩
  · exact ⟨none, 0, rfl, h1, hm, .inl rfl⟩
  · refine ⟨_, cap, rfl, h1, hm, .inr ⟨g, 0, rfl, lt_of_block hg, fun i hi => ?_⟩⟩
    rw [Nat.zero_add, h.cellAt i (by omega), List.getElem?_map]
    show _ = some (Value.int .i64 (xs[i]?.getD 0))
    rw [List.getElem?_eq_getElem (by omega)]
    rfl

/-- A call hands back a slice of n elements, and nothing that was there has turned. -/
def Gives (w : World) (n : Nat) (F : Nat → Value) (e : Ending) (w' : World) : Prop :=
  ∃ a cap, e = .returned (.slice a n cap) ∧ Vec w'.heap.size w' a n F ∧ n ≤ cap ∧ Below w.heap.size w w'

theorem info_int : (Try.prog.info? 3).map (fun i => (i.zero, i.size, i.bytes)) = some (some (.int .i64 0), 1, 8) := by kernel_rfl

end Go.Proofs.Ytbploaihicakeaa

namespace Go.Proofs.Ytbploaihicakeaa

namespace Gr

theorem near_up (p n d : Int) (hn : 0 < n) (h0 : 0 ≤ p) (h1 : p ≤ n * d) : 0 ≤ near p n ∧ near p n ≤ d := by
  unfold near
  refine ⟨Int.ediv_nonneg (by omega) (by omega), ?_⟩
  have : (2 * p + n) / (2 * n) < d + 1 := Int.ediv_lt_of_lt_mul (by omega) (by
    have : (d + 1) * (2 * n) = 2 * (n * d) + 2 * n := by rw [Int.add_mul, Int.one_mul, Int.mul_comm d, Int.mul_assoc]
    omega)
  omega

theorem near_down (p n d : Int) (hn : 0 < n) (h0 : p ≤ 0) (h1 : n * d ≤ p) : d ≤ near p n ∧ near p n ≤ 0 := by
  unfold near
  constructor
  · refine Int.le_ediv_of_mul_le (by omega) ?_
    have : d * (2 * n) = 2 * (n * d) := by rw [Int.mul_comm d, Int.mul_assoc]
    omega
  · have : (2 * p + n) / (2 * n) < 1 := Int.ediv_lt_of_lt_mul (by omega) (by omega)
    omega

theorem near_mul (n d : Int) (hn : 0 < n) : near (n * d) n = d := by
  unfold near
  have h1 : d ≤ (2 * (n * d) + n) / (2 * n) := by
    refine Int.le_ediv_of_mul_le (by omega) ?_
    have : d * (2 * n) = 2 * (n * d) := by rw [Int.mul_comm d, Int.mul_assoc]
    omega
  have h2 : (2 * (n * d) + n) / (2 * n) < d + 1 := Int.ediv_lt_of_lt_mul (by omega) (by
    have : (d + 1) * (2 * n) = 2 * (n * d) + 2 * n := by rw [Int.add_mul, Int.one_mul, Int.mul_comm d, Int.mul_assoc]
    omega)
  omega

theorem near_step (p d n : Int) (hn : 0 < n) (h1 : -n ≤ d) (h2 : d ≤ n) : near p n - 1 ≤ near (p + d) n ∧ near (p + d) n ≤ near p n + 1 := by
  unfold near
  have a0 := Int.mul_ediv_add_emod (2 * p + n) (2 * n)
  have a1 := Int.emod_nonneg (2 * p + n) (b := 2 * n) (by omega)
  have a2 := Int.emod_lt_of_pos (2 * p + n) (b := 2 * n) (by omega)
  generalize (2 * p + n) / (2 * n) = q at *
  have e1 : (q - 1) * (2 * n) = 2 * n * q - 2 * n := by rw [Int.sub_mul, Int.one_mul, Int.mul_comm q]
  have e2 : (q + 2) * (2 * n) = 2 * n * q + 4 * n := by rw [Int.add_mul, Int.mul_comm q]; omega
  constructor
  · exact Int.le_ediv_of_mul_le (by omega) (by omega)
  · have := Int.ediv_lt_of_lt_mul (a := 2 * (p + d) + n) (b := q + 2) (c := 2 * n) (by omega) (by omega)
    omega

def span (x0 y0 x1 y1 : Int) : Nat := (max (max (x1 - x0) (x0 - x1)) (max (y1 - y0) (y0 - y1))).toNat

def ln (x0 y0 x1 y1 : Int) (k : Nat) : Int :=
  (y0 + near (k * (y1 - y0)) (span x0 y0 x1 y1)) * 24 + (x0 + near (k * (x1 - x0)) (span x0 y0 x1 y1))

theorem part (d n : Int) (k : Nat) (hn : 0 < n) (hk : (k : Int) ≤ n) : (0 ≤ d ∧ 0 ≤ near (k * d) n ∧ near (k * d) n ≤ d) ∨ (d ≤ 0 ∧ d ≤ near (k * d) n ∧ near (k * d) n ≤ 0) := by
  by_cases h : 0 ≤ d
  · left
    have a : 0 ≤ (k : Int) * d := Int.mul_nonneg (by omega) h
    have b : (k : Int) * d ≤ n * d := Int.mul_le_mul_of_nonneg_right hk h
    exact ⟨h, near_up _ _ _ hn a b⟩
  · right
    have a : (k : Int) * -d ≤ n * -d := Int.mul_le_mul_of_nonneg_right hk (by omega)
    have b : 0 ≤ (k : Int) * -d := Int.mul_nonneg (by omega) (by omega)
    rw [Int.mul_neg] at a b
    rw [Int.mul_neg] at a
    exact ⟨by omega, near_down _ _ _ hn (by omega) (by omega)⟩

theorem mul_bd (k : Nat) (d : Int) (hk : k ≤ 23) (h1 : -23 ≤ d) (h2 : d ≤ 23) : -1000 ≤ (k : Int) * d ∧ (k : Int) * d ≤ 1000 := by
  have a : (k : Int) * d ≤ (k : Int) * 23 := Int.mul_le_mul_of_nonneg_left h2 (by omega)
  have b : (k : Int) * (-23) ≤ (k : Int) * d := Int.mul_le_mul_of_nonneg_left h1 (by omega)
  omega

/-- Where both ends are cells: the two coordinates of the k-th cell. -/
theorem ln_parts (x0 y0 x1 y1 : Int) (h0 : inB x0 y0 = true) (h1 : inB x1 y1 = true) (k : Nat) (hk : k ≤ span x0 y0 x1 y1) :
    ∃ x y : Int, ln x0 y0 x1 y1 k = y * 24 + x ∧ x = x0 + near (k * (x1 - x0)) (span x0 y0 x1 y1) ∧ y = y0 + near (k * (y1 - y0)) (span x0 y0 x1 y1) ∧ 0 ≤ x ∧ x < 24 ∧ 0 ≤ y ∧ y < 16 := by
  rw [inB_iff] at h0 h1
  refine ⟨_, _, rfl, rfl, rfl, ?_⟩
  by_cases hn : span x0 y0 x1 y1 = 0
  · obtain rfl : k = 0 := by omega
    rw [hn]
    have e : ∀ p, near p ((0 : Nat) : Int) = 0 := fun p => by simp [near]
    rw [e, e]
    omega
  · have hs : -(span x0 y0 x1 y1 : Int) ≤ x1 - x0 ∧ x1 - x0 ≤ span x0 y0 x1 y1 ∧ -(span x0 y0 x1 y1 : Int) ≤ y1 - y0 ∧ y1 - y0 ≤ span x0 y0 x1 y1 := by unfold span; omega
    have a := part (x1 - x0) (span x0 y0 x1 y1) k (by omega) (by omega)
    have b := part (y1 - y0) (span x0 y0 x1 y1) k (by omega) (by omega)
    omega

theorem span_bd (x0 y0 x1 y1 : Int) (h0 : inB x0 y0 = true) (h1 : inB x1 y1 = true) : span x0 y0 x1 y1 ≤ 23 := by
  rw [inB_iff] at h0 h1
  unfold span
  omega

theorem ln_bd (x0 y0 x1 y1 : Int) (h0 : inB x0 y0 = true) (h1 : inB x1 y1 = true) (k : Nat) (hk : k ≤ span x0 y0 x1 y1) : 0 ≤ ln x0 y0 x1 y1 k ∧ ln x0 y0 x1 y1 k < 384 := by
  obtain ⟨x, y, e, _, _, _, _, _, _⟩ := ln_parts x0 y0 x1 y1 h0 h1 k hk
  omega

theorem near_0 (n : Int) (hn : 0 ≤ n) : near 0 n = 0 := by
  by_cases h : n = 0
  · subst h; rfl
  · have := near_mul n 0 (by omega)
    rwa [Int.mul_zero] at this

theorem ln_first (x0 y0 x1 y1 : Int) : ln x0 y0 x1 y1 0 = y0 * 24 + x0 := by
  unfold ln
  rw [show ((0 : Nat) : Int) = 0 from rfl, Int.zero_mul, Int.zero_mul, near_0 _ (by omega)]
  omega

theorem ln_last (x0 y0 x1 y1 : Int) : ln x0 y0 x1 y1 (span x0 y0 x1 y1) = y1 * 24 + x1 := by
  by_cases hn : span x0 y0 x1 y1 = 0
  · rw [hn, ln_first]
    unfold span at hn
    omega
  · unfold ln
    rw [near_mul _ _ (by omega), near_mul _ _ (by omega)]
    omega

theorem ln_step (x0 y0 x1 y1 : Int) (h0 : inB x0 y0 = true) (h1 : inB x1 y1 = true) (k : Nat) (hk : k + 1 ≤ span x0 y0 x1 y1) :
    -1 ≤ ln x0 y0 x1 y1 (k + 1) % 24 - ln x0 y0 x1 y1 k % 24 ∧ ln x0 y0 x1 y1 (k + 1) % 24 - ln x0 y0 x1 y1 k % 24 ≤ 1 ∧ -1 ≤ ln x0 y0 x1 y1 (k + 1) / 24 - ln x0 y0 x1 y1 k / 24 ∧ ln x0 y0 x1 y1 (k + 1) / 24 - ln x0 y0 x1 y1 k / 24 ≤ 1 ∧ ¬ (ln x0 y0 x1 y1 (k + 1) % 24 - ln x0 y0 x1 y1 k % 24 = 0 ∧ ln x0 y0 x1 y1 (k + 1) / 24 - ln x0 y0 x1 y1 k / 24 = 0) := by
  obtain ⟨xa, ya, ea, ha1, ha2, _⟩ := ln_parts x0 y0 x1 y1 h0 h1 k (by omega)
  obtain ⟨xb, yb, eb, hb1, hb2, _⟩ := ln_parts x0 y0 x1 y1 h0 h1 (k + 1) hk
  have hs : -(span x0 y0 x1 y1 : Int) ≤ x1 - x0 ∧ x1 - x0 ≤ span x0 y0 x1 y1 ∧ -(span x0 y0 x1 y1 : Int) ≤ y1 - y0 ∧ y1 - y0 ≤ span x0 y0 x1 y1 := by unfold span; omega
  have ho : x1 - x0 = span x0 y0 x1 y1 ∨ x1 - x0 = -(span x0 y0 x1 y1 : Int) ∨ y1 - y0 = span x0 y0 x1 y1 ∨ y1 - y0 = -(span x0 y0 x1 y1 : Int) := by unfold span; omega
  generalize span x0 y0 x1 y1 = n at *
  have sx := near_step (k * (x1 - x0)) (x1 - x0) n (by omega) hs.1 hs.2.1
  have sy := near_step (k * (y1 - y0)) (y1 - y0) n (by omega) hs.2.2.1 hs.2.2.2
  have ex : ((k + 1 : Nat) : Int) * (x1 - x0) = k * (x1 - x0) + (x1 - x0) := by rw [Int.natCast_add, Int.add_mul]; omega
  have ey : ((k + 1 : Nat) : Int) * (y1 - y0) = k * (y1 - y0) + (y1 - y0) := by rw [Int.natCast_add, Int.add_mul]; omega
  rw [ex] at hb1
  rw [ey] at hb2
  have hd : ¬ (xb = xa ∧ yb = ya) := by
    rintro ⟨e1, e2⟩
    have m1 : ∀ j : Nat, near (j * (n : Int)) n = j := fun j => by rw [Int.mul_comm]; exact near_mul _ _ (by omega)
    have m2 : ∀ j : Nat, near (j * -(n : Int)) n = -j := fun j => by rw [Int.mul_neg, ← Int.neg_mul, Int.mul_comm]; exact near_mul _ _ (by omega)
    rw [← ex] at hb1
    rw [← ey] at hb2
    rcases ho with h | h | h | h
    · rw [h, m1] at ha1 hb1; omega
    · rw [h, m2] at ha1 hb1; omega
    · rw [h, m1] at ha2 hb2; omega
    · rw [h, m2] at ha2 hb2; omega
  have e1 : ln x0 y0 x1 y1 k % 24 = xa := by omega
  have e2 : ln x0 y0 x1 y1 k / 24 = ya := by omega
  have e3 : ln x0 y0 x1 y1 (k + 1) % 24 = xb := by omega
  have e4 : ln x0 y0 x1 y1 (k + 1) / 24 = yb := by omega
  rw [e1, e2, e3, e4]
  omega

end Gr

end Go.Proofs.Ytbploaihicakeaa

namespace Go.Proofs.Ytbploaihicakeaa
open Go.RowKit

theorem line_none (x0 y0 x1 y1 : Int) (w : World) (h : Gr.inB x0 y0 = true → Gr.inB x1 y1 = false) :
    Calls Try.prog 93 #[.int .i64 x0, .int .i64 y0, .int .i64 x1, .int .i64 y1] w fun e w' => e = .returned (.slice none 0 0) ∧ w' = w := by
  by_cases h0 : Gr.inB x0 y0 = true
  · have h1 := h h0
    clear h
    go_enter Try.func93, Try.ntmps93
    go_wp2_with (go_at_call 99; refine (isCell_any _ _ _).mono ?_; rintro e w' ⟨rfl, rfl⟩)
    go_ret
    exact ⟨rfl, rfl⟩
  · have h0' : Gr.inB x0 y0 = false := by simpa using h0
    clear h h0
    go_enter Try.func93, Try.ntmps93
    go_wp2_with (go_at_call 99; refine (isCell_any _ _ _).mono ?_; rintro e w' ⟨rfl, rfl⟩)
    go_ret
    exact ⟨rfl, rfl⟩

theorem max4 (ts : Array TypeId) (t : TypeId) (a b c d n : Int) (w : World) (h : max (max a b) (max c d) = n) :
    (Builtin.max_ ts t #[.int .i64 a, .int .i64 b, .int .i64 c, .int .i64 d]).run Try.prog w = .ok (.int .i64 n) w := by
  have e : (Builtin.max_ ts t #[.int .i64 a, .int .i64 b, .int .i64 c, .int .i64 d]).run Try.prog w = .ok (.int .i64 (if d > (if c > (if b > a then b else a) then c else (if b > a then b else a)) then d else (if c > (if b > a then b else a) then c else (if b > a then b else a)))) w := by
    simp [Builtin.max_, Builtin.max2]
  rw [e]
  congr 2
  omega

set_option maxRecDepth 4000 in
set_option maxHeartbeats 800000 in
theorem line_some (x0 y0 x1 y1 : Int) (w : World) (h0 : Gr.inB x0 y0 = true) (h1 : Gr.inB x1 y1 = true) :
    Calls Try.prog 93 #[.int .i64 x0, .int .i64 y0, .int .i64 x1, .int .i64 y1] w
      (Gives w (Gr.span x0 y0 x1 y1 + 1) (Ints (Gr.ln x0 y0 x1 y1))) := by
  have hn23 := Gr.span_bd x0 y0 x1 y1 h0 h1
  obtain ⟨b1, b2, b3, b4⟩ := (Gr.inB_iff x0 y0).1 h0
  obtain ⟨b5, b6, b7, b8⟩ := (Gr.inB_iff x1 y1).1 h1
  obtain ⟨n, hn⟩ : ∃ n : Nat, n = Gr.span x0 y0 x1 y1 := ⟨_, rfl⟩
  obtain ⟨dx, hdx⟩ : ∃ d : Int, x1 - x0 = d := ⟨_, rfl⟩
  obtain ⟨dy, hdy⟩ : ∃ d : Int, y1 - y0 = d := ⟨_, rfl⟩
  have hmx : ∀ ts t w, (Builtin.max_ ts t #[.int .i64 dx, .int .i64 (-dx), .int .i64 dy, .int .i64 (-dy)]).run Try.prog w = .ok (.int .i64 (n : Int)) w := by
    intro ts t w
    refine max4 ts t _ _ _ _ _ w ?_
    rw [hn]; unfold Gr.span; omega
  have hn' := hide hn
  have d1 : -23 ≤ dx := by omega
  have d2 : dx ≤ 23 := by omega
  have d3 : -23 ≤ dy := by omega
  have d4 : dy ≤ 23 := by omega
  obtain ⟨i0, hi, hz0, hz1, hz2⟩ := info_parts info_int
  rw [← hn] at hn23 ⊢
  clear hn
  by_cases hz : n = 0
  · subst hz
    go_enter Try.func93, Try.ntmps93
    go_wp2_with (first | (go_at_call 99; refine (isCell_any _ _ _).mono ?_; rintro e w' ⟨rfl, hw⟩; subst w') | (go_at_call 100; refine (number_any _ _ _ (by omega) (by omega) (by omega) (by omega)).mono ?_; rintro e w' ⟨rfl, hw⟩; subst w'))
    go_ret
    have hf := hide (Gr.ln_first x0 y0 x1 y1)
    refine ⟨_, _, rfl, ⟨by decide, .inr ⟨_, _, rfl, by simp, ?_⟩⟩, by omega, (Below.refl _ _).alloc (Nat.le_refl _) _⟩
    intro i hi1
    obtain rfl : i = 0 := by omega
    show _ = some (Value.int .i64 (Gr.ln x0 y0 x1 y1 0))
    rw [unhide hf]
    simp
  · have hz' : ((n : Int) == 0) = false := by simp; omega
    go_enter Try.func93, Try.ntmps93
    go_wp2_with (first | (go_at_call 99; refine (isCell_any _ _ _).mono ?_; rintro e w' ⟨rfl, hw⟩; subst w') | (at_make; refine wpList_make_full _ rfl _ _ 22 rfl w.heap.size 3 i0 (.int .i64 0) 1 Try.underlying22 hi hz0 hz1 .i64 .i64 _ _ (n + 1) rfl rfl ?q1 ?q2 ?q3 ?q4 (Nat.le_refl _) ?_))
    case q1 => omega
    case q2 => omega
    case q3 => rw [hz2]; omega
    case q4 => unfold maxLen; omega
    intro w2 hown hgrow
    have hA := hide (Arr.zero hown)
    have hB : Below w.heap.size w w2 := (Below.refl _ _).grown hgrow (Nat.le_refl _) (by intro k hk; cases hk)
    clear hown hgrow hi hz0 hz1 hz2 hmx
    obtain ⟨G, hG⟩ : ∃ G, G = w.heap.size := ⟨_, rfl⟩
    rw [← hG] at hA hB ⊢
    have hG' := hide hG
    clear hG
    go_wp2_with fail
    go_loopw [48] (fun i wr => ∃ k : Nat, k ≤ n + 1 ∧ i = .int .i64 k ∧ Arr wr G 3 (n + 1) (fun j => .int .i64 (if j < k then Gr.ln x0 y0 x1 y1 j else 0)) ∧ Below G w wr) (fun i _ => n + 1 - (intOf i).toNat)
    case atStart => exact ⟨0, Nat.zero_le _, rfl, (unhide hA).congr fun j _ => by rw [if_neg (Nat.not_lt_zero _)], hB⟩
    case round =>
      obtain ⟨k, hk, rfl, hA1, hB1⟩ := hrel
      have hA2 := hide hA1
      clear hA1 hA hB
      by_cases hlt : k < n + 1
      · obtain ⟨X, Y, eln, eX, eY, c1, c2, c3, c4⟩ := Gr.ln_parts x0 y0 x1 y1 h0 h1 k (by have := unhide hn'; omega)
        rw [hdx, ← unhide hn'] at eX
        rw [hdy, ← unhide hn'] at eY
        subst eX
        subst eY
        have eln' := hide eln
        clear eln
        obtain ⟨m1, m2⟩ := Gr.mul_bd k dx (by omega) d1 d2
        obtain ⟨m3, m4⟩ := Gr.mul_bd k dy (by omega) d3 d4
        have hc := (unhide hA2).cell hlt
        have hf := (unhide hA2).free k
        have hlt' : (k : Int) < (n : Int) + 1 := by omega
        go_wp2_with (first | (go_at_call 104; refine (nearest_any _ _ _ (by omega) (by omega) (by omega) (by omega)).mono ?_; rintro e w' ⟨rfl, hw⟩; subst w') | (go_at_call 100; refine (number_any _ _ _ (by omega) (by omega) (by omega) (by omega)).mono ?_; rintro e w' ⟨rfl, hw⟩; subst w'))
        go_roundw
        case rel => exact ⟨k + 1, by omega, by go_num, ((unhide hA2).store k _).congr fun j _ => fill_more (unhide eln').symm j, hB1.setCell (Nat.le_refl _) _⟩
        case measure => simp [intOf]; omega
      · have hge : ¬ (k : Int) < (n : Int) + 1 := by omega
        have hk1 : k = n + 1 := by omega
        have hA3 := hide ((unhide hA2).congr (G := Ints (Gr.ln x0 y0 x1 y1)) fun j hj => by rw [if_pos (by omega)]; rfl)
        clear hk1 hA2
        go_wp2
        go_ret
        exact ⟨_, _, rfl, (unhide hA3).vec _ (unhide hA3).lt (by unfold maxLen; omega), Nat.le_refl _, by rw [← unhide hG']; exact hB1⟩

theorem refLine_none (x0 y0 x1 y1 : Int) (w : World) (h : Gr.inB x0 y0 = true → Gr.inB x1 y1 = false) :
    Calls Try.prog 43 #[.int .i64 x0, .int .i64 y0, .int .i64 x1, .int .i64 y1] w fun e w' => e = .returned (.slice none 0 0) ∧ w' = w := by
  by_cases h0 : Gr.inB x0 y0 = true
  · have h1 := h h0
    clear h
    go_enter Try.func43, Try.ntmps43
    go_wp2_with (go_at_call 38; refine (refIn_any _ _ _).mono ?_; rintro e w' ⟨rfl, rfl⟩)
    go_ret
    exact ⟨rfl, rfl⟩
  · have h0' : Gr.inB x0 y0 = false := by simpa using h0
    clear h h0
    go_enter Try.func43, Try.ntmps43
    go_wp2_with (go_at_call 38; refine (refIn_any _ _ _).mono ?_; rintro e w' ⟨rfl, rfl⟩)
    go_ret
    exact ⟨rfl, rfl⟩

theorem max2 (ts : Array TypeId) (t : TypeId) (a b n : Int) (w : World) (h : max a b = n) :
    (Builtin.max_ ts t #[.int .i64 a, .int .i64 b]).run Try.prog w = .ok (.int .i64 n) w := by
  rw [run_max_int2]
  congr 2
  omega

def Gr.lnRow (x0 y0 x1 y1 : Int) (k : Nat) : List Int := (List.range k).map (Gr.ln x0 y0 x1 y1)

theorem ln_more (x0 y0 x1 y1 : Int) (k : Nat) (v : Int) (h : v = Gr.ln x0 y0 x1 y1 k) :
    (Gr.lnRow x0 y0 x1 y1 k).map (Value.int .i64) ++ [.int .i64 v] = (Gr.lnRow x0 y0 x1 y1 (k + 1)).map (Value.int .i64) := by
  unfold Gr.lnRow
  rw [List.range_succ, h]; simp

section
attribute [-go_sem] run_max_int2

set_option maxRecDepth 4000 in
set_option maxHeartbeats 800000 in
theorem refLine_some (x0 y0 x1 y1 : Int) (w : World) (h0 : Gr.inB x0 y0 = true) (h1 : Gr.inB x1 y1 = true) :
    Calls Try.prog 43 #[.int .i64 x0, .int .i64 y0, .int .i64 x1, .int .i64 y1] w
      (Gives w (Gr.span x0 y0 x1 y1 + 1) (Ints (Gr.ln x0 y0 x1 y1))) := by
  have hn23 := Gr.span_bd x0 y0 x1 y1 h0 h1
  obtain ⟨b1, b2, b3, b4⟩ := (Gr.inB_iff x0 y0).1 h0
  obtain ⟨b5, b6, b7, b8⟩ := (Gr.inB_iff x1 y1).1 h1
  obtain ⟨n, hn⟩ : ∃ n : Nat, n = Gr.span x0 y0 x1 y1 := ⟨_, rfl⟩
  obtain ⟨dx, hdx⟩ : ∃ d : Int, x1 - x0 = d := ⟨_, rfl⟩
  obtain ⟨dy, hdy⟩ : ∃ d : Int, y1 - y0 = d := ⟨_, rfl⟩
  obtain ⟨mx, hmx⟩ : ∃ m : Int, max dx (-dx) = m := ⟨_, rfl⟩
  obtain ⟨my, hmy⟩ : ∃ m : Int, max dy (-dy) = m := ⟨_, rfl⟩
  have hm1 := fun ts t w => max2 ts t dx (-dx) mx w hmx
  have hm2 := fun ts t w => max2 ts t dy (-dy) my w hmy
  have hm3 := fun ts t w => max2 ts t mx my (n : Int) w (by rw [hn]; unfold Gr.span; omega)
  clear hmx hmy
  have hn' := hide hn
  have d1 : -23 ≤ dx := by omega
  have d2 : dx ≤ 23 := by omega
  have d3 : -23 ≤ dy := by omega
  have d4 : dy ≤ 23 := by omega
  obtain ⟨i0, hi, hz0, hz1, hz2⟩ := info_parts info_int
  rw [← hn] at hn23 ⊢
  clear hn
  by_cases hz : n = 0
  · subst hz
    go_enter Try.func43, Try.ntmps43
    go_wp2_with (first | (go_at_call 38; refine (refIn_any _ _ _).mono ?_; rintro e w' ⟨rfl, hw⟩; subst w'))
    go_ret
    have hf := hide (Gr.ln_first x0 y0 x1 y1)
    refine ⟨_, _, rfl, ⟨by decide, .inr ⟨_, _, rfl, by simp, ?_⟩⟩, by omega, (Below.refl _ _).alloc (Nat.le_refl _) _⟩
    intro i hi1
    obtain rfl : i = 0 := by omega
    show _ = some (Value.int .i64 (Gr.ln x0 y0 x1 y1 0))
    rw [unhide hf]
    simp
  · have hz' : ((n : Int) == 0) = false := by simp; omega
    obtain ⟨G, hG⟩ : ∃ G, G = w.heap.size := ⟨_, rfl⟩
    have hG' := hide hG
    have hB : Below G w w := Below.refl _ _
    clear hG
    go_enter Try.func43, Try.ntmps43
    go_wp2_with (first | (go_at_call 38; refine (refIn_any _ _ _).mono ?_; rintro e w' ⟨rfl, hw⟩; subst w'))
    clear hm1 hm2 hm3
    go_loopw [12, 13] (fun v i wr => ∃ k : Nat, k ≤ n + 1 ∧ i = .int .i64 k ∧ wr.ownsRow G 3 1 v k ((Gr.lnRow x0 y0 x1 y1 k).map (Value.int .i64)) ∧ Below G w wr) (fun _ i _ => n + 1 - (intOf i).toNat)
    case atStart => exact ⟨0, Nat.zero_le _, rfl, World.ownsRow_nil _ _ _ _, hB⟩
    case round =>
      obtain ⟨k, hk, rfl, hown, hB1⟩ := hrel
      have hGs : G ≤ wr.heap.size := by have := hB1.size; have := unhide hG'; omega
      clear hB
      by_cases hlt : k < n + 1
      · obtain ⟨X, Y, eln, eX, eY, c1, c2, c3, c4⟩ := Gr.ln_parts x0 y0 x1 y1 h0 h1 k (by have := unhide hn'; omega)
        rw [hdx, ← unhide hn'] at eX
        rw [hdy, ← unhide hn'] at eY
        subst eX
        subst eY
        have eln' := hide eln
        clear eln
        obtain ⟨m1, m2⟩ := Gr.mul_bd k dx (by omega) d1 d2
        obtain ⟨m3, m4⟩ := Gr.mul_bd k dy (by omega) d3 d4
        have hlt' : (k : Int) ≤ (n : Int) := by omega
        go_wp2_with (first | (go_at_call 54; refine (off_any _ _ _ (by omega) (by omega) (by omega) (by omega)).mono ?_; rintro e w' ⟨rfl, hw⟩; subst w') | (at_builtin; refine wpList_append_own _ rfl _ _ 22 rfl G 3 i0 (.int .i64 0) 1 8 Try.underlying22 hi hz0 hz1 hz2 rfl (by decide) _ _ _ rfl (hown.alloc _) ⟨wr.heap.size, 0, none⟩ 1 1 [.int .i64 ((y0 + Gr.near (k * dy) n) * 24 + x0 + Gr.near (k * dx) n)] rfl rfl ?c1 ?c2 ?c3 ?c4 ?c5 ?_))
        case c1 => exact cell_one_new _ _ _
        case c2 => intro u hu; simp at hu; subst hu; rfl
        case c3 => unfold maxLen; omega
        case c4 => omega
        case c5 => simp; omega
        intro v' w1 hown' hgrow _
        rw [ln_more x0 y0 x1 y1 k _ (by rw [unhide eln']; omega)] at hown'
        have hB2 : Below G w w1 := (hB1.alloc hGs _).grown hgrow (by simp; omega) (by intro j hj; exact (hown.lt j hj).1)
        have hown2 := hide hown'
        clear hown' hgrow hown
        go_wp2
        go_roundw
        case rel => exact ⟨k + 1, by omega, by go_num, unhide hown2, hB2⟩
        case measure => simp [intOf]; omega
      · have hge : ¬ (k : Int) ≤ (n : Int) := by omega
        obtain rfl : k = n + 1 := by omega
        obtain ⟨a, cap, rfl, _, hv⟩ := own_vec hown (by unfold maxLen; omega)
        have hcap : n + 1 ≤ cap := by
          rcases hown.2 with ⟨h, _⟩ | ⟨g, c, cur, h, _, _, hc, _⟩
          · cases h
          · cases h; exact hc
        have hv2 := hide (hv.congr (G := Ints (Gr.ln x0 y0 x1 y1)) fun j hj => by simp [Ints, Gr.lnRow, List.getElem?_range hj])
        clear hv hown
        go_wp2
        go_ret
        exact ⟨_, _, rfl, unhide hv2, hcap, by rw [← unhide hG']; exact hB1⟩

end

end Go.Proofs.Ytbploaihicakeaa
