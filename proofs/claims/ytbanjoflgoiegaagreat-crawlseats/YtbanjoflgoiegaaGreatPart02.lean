/-
  FloatOrd GridArr GridCalls
-/
import Derived.Test.YtbanjoflgoiegaaGreatPart01
namespace Go.Proofs.YtbanjoflgoiegaaGreat.Fl
open Ieee

theorem compare_mul (x y c : Int) (hc : 0 < c) : compare (x * c) (y * c) = compare x y := by
  have h1 : (x * c < y * c) ↔ x < y := ⟨fun h => Int.lt_of_mul_lt_mul_right h (Int.le_of_lt hc), fun h => Int.mul_lt_mul_of_pos_right h hc⟩
  have h2 : (x * c = y * c) ↔ x = y := ⟨fun h => Int.eq_of_mul_eq_mul_right (by omega) h, fun h => by rw [h]⟩
  show compareOfLessAndEq _ _ = compareOfLessAndEq _ _
  unfold compareOfLessAndEq
  by_cases hlt : x < y
  · rw [if_pos hlt, if_pos (h1.2 hlt)]
  · rw [if_neg hlt, if_neg (fun h => hlt (h1.1 h))]
    by_cases he : x = y
    · rw [if_pos he, if_pos (h2.2 he)]
    · rw [if_neg he, if_neg (fun h => he (h2.1 h))]

theorem order_rep {a b : Nat} {x y : Int} (ha : Rep a x) (hb : Rep b y) : double.order a b = some (compare x y) := by
  obtain ⟨s, m, k, ra, hx⟩ := ha
  obtain ⟨t, n, l, rb, hy⟩ := hb
  have hj : (min (-(k : Int)) (-(l : Int))) = -((max k l : Nat) : Int) := by omega
  have ek : (-(k : Int) - -((max k l : Nat) : Int)).toNat = max k l - k := by omega
  have el : (-(l : Int) - -((max k l : Nat) : Int)).toNat = max k l - l := by omega
  unfold Format.order
  rw [ra, rb]
  show some (compare (signed s (m * 2 ^ k) (-(k : Int) - min (-(k : Int)) (-(l : Int))).toNat) (signed t (n * 2 ^ l) (-(l : Int) - min (-(k : Int)) (-(l : Int))).toNat)) = _
  rw [hj, ek, el, signed_eq s m k _ (Nat.le_max_left _ _), signed_eq t n l _ (Nat.le_max_right _ _), ← hx, ← hy]
  have hpos : 0 < ((2 ^ max k l : Nat) : Int) := by have := Nat.two_pow_pos (max k l); omega
  rw [compare_mul _ _ _ hpos]

theorem cmp_lt {x y : Int} (h : x < y) : compare x y = .lt := by
  show compareOfLessAndEq _ _ = _
  unfold compareOfLessAndEq; rw [if_pos h]

theorem cmp_gt {x y : Int} (h : y < x) : compare x y = .gt := by
  show compareOfLessAndEq _ _ = _
  unfold compareOfLessAndEq; rw [if_neg (by omega), if_neg (by omega)]

theorem cmp_eq {x y : Int} (h : x = y) : compare x y = .eq := by
  show compareOfLessAndEq _ _ = _
  unfold compareOfLessAndEq; rw [if_neg (by omega), if_pos h]

def Big (b : Nat) (s : Bool) : Prop := ∃ (K E : Nat), double.read b = .number s K (E : Int) ∧ 4503599627370496 ≤ K

theorem far_mul (K c : Nat) (y : Int) (P : Nat) (hP : 0 < P) (hK : 4503599627370496 ≤ K) (hc : P ≤ c) (h1 : -4503599627370496 < y) (h2 : y < 4503599627370496) : y * (P : Int) < ((K * c : Nat) : Int) ∧ -((K * c : Nat) : Int) < y * (P : Int) := by
  have h : 4503599627370496 * P ≤ K * c := Nat.mul_le_mul hK hc
  have h' : ((4503599627370496 * P : Nat) : Int) ≤ ((K * c : Nat) : Int) := by omega
  have e1 : y * (P : Int) ≤ 4503599627370495 * (P : Int) := Int.mul_le_mul_of_nonneg_right (by omega) (by omega)
  have e2 : -4503599627370495 * (P : Int) ≤ y * (P : Int) := Int.mul_le_mul_of_nonneg_right (by omega) (by omega)
  constructor <;> omega

theorem order_big {a b : Nat} {s : Bool} {y : Int} (ha : Big a s) (hb : Rep b y) (h1 : -4503599627370496 < y) (h2 : y < 4503599627370496) :
    double.order a b = some (if s then .lt else .gt) ∧ double.order b a = some (if s then .gt else .lt) := by
  obtain ⟨K, E, ra, hK⟩ := ha
  obtain ⟨t, n, l, rb, hy⟩ := hb
  have m1 : min (E : Int) (-(l : Int)) = -(l : Int) := by omega
  have m2 : min (-(l : Int)) (E : Int) = -(l : Int) := by omega
  have e1 : ((E : Int) - -(l : Int)).toNat = E + l := by omega
  have e2 : (-(l : Int) - -(l : Int)).toNat = l - l := by omega
  have hs : signed t (n * 2 ^ l) (l - l) = y * ((2 ^ l : Nat) : Int) := by rw [signed_eq t n l l (Nat.le_refl _), ← hy]
  have hbg : signed s K (E + l) = (if s then -((K * 2 ^ (E + l) : Nat) : Int) else ((K * 2 ^ (E + l) : Nat) : Int)) := by
    unfold signed
    rw [Nat.shiftLeft_eq]
  have hf := far_mul K (2 ^ (E + l)) y (2 ^ l) (Nat.two_pow_pos _) hK (Nat.pow_le_pow_right (by omega) (by omega)) h1 h2
  constructor
  · unfold Format.order
    rw [ra, rb]
    show some (compare (signed s K ((E : Int) - min (E : Int) (-(l : Int))).toNat) (signed t (n * 2 ^ l) (-(l : Int) - min (E : Int) (-(l : Int))).toNat)) = _
    rw [m1, e1, e2, hs, hbg]
    cases s
    · rw [if_neg (by decide), if_neg (by decide), cmp_gt hf.1]
    · rw [if_pos rfl, if_pos rfl, cmp_lt hf.2]
  · unfold Format.order
    rw [ra, rb]
    show some (compare (signed t (n * 2 ^ l) (-(l : Int) - min (-(l : Int)) (E : Int)).toNat) (signed s K ((E : Int) - min (-(l : Int)) (E : Int)).toNat)) = _
    rw [m2, e1, e2, hs, hbg]
    cases s
    · rw [if_neg (by decide), if_neg (by decide), cmp_lt hf.1]
    · rw [if_pos rfl, if_pos rfl, cmp_gt hf.2]

theorem cut_bd (neg : Bool) (m d : Nat) (hm : m ≠ 0) (hd : m.log2 = d + 52) : 4503599627370496 ≤ Toward.even.cut neg m d ∧ Toward.even.cut neg m d ≤ 9007199254740992 := by
  have hg : (1 <<< min d (m.log2 + 2)) = 2 ^ d := by rw [Nat.shiftLeft_eq, Nat.one_mul, Nat.min_eq_left (by omega)]
  have lo : 4503599627370496 ≤ m / 2 ^ d := by
    rw [Nat.le_div_iff_mul_le (Nat.two_pow_pos d)]
    have h := Nat.log2_self_le hm
    rw [hd, Nat.pow_add] at h
    have e : (2 : Nat) ^ 52 = 4503599627370496 := by decide
    rw [e] at h
    rw [Nat.mul_comm]; exact h
  have hi : m / 2 ^ d < 9007199254740992 := by
    rw [Nat.div_lt_iff_lt_mul (Nat.two_pow_pos d)]
    have h := (Nat.log2_lt hm).1 (Nat.lt_succ_self m.log2)
    rw [hd, show (d + 52).succ = d + 53 from rfl, Nat.pow_add] at h
    have e : (2 : Nat) ^ 53 = 9007199254740992 := by decide
    rw [e] at h
    rw [Nat.mul_comm]; exact h
  unfold Toward.cut
  simp only [hg]
  have : ∀ b : Bool, b.toNat ≤ 1 := by decide
  have h1 := this (decide (2 ^ d < 2 * (m % 2 ^ d)) || (2 ^ d == 2 * (m % 2 ^ d) && m / 2 ^ d % 2 == 1))
  constructor <;> omega

theorem big_int (n : Int) (h : 9007199254740992 ≤ n.natAbs) (h2 : n.natAbs ≤ 9223372036854775808) : Big (floatOfInt .f64 n) (decide (n < 0)) := by
  show Big (double.nearest (decide (n < 0)) n.natAbs 0) _
  generalize n.natAbs = m at *
  generalize decide (n < 0) = neg at *
  have hm : m ≠ 0 := by omega
  have l1 : 53 ≤ m.log2 := (Nat.le_log2 hm).2 (by simpa using h)
  have l2 : m.log2 < 64 := (Nat.log2_lt hm).2 (by have e : (2 : Nat) ^ 64 = 18446744073709551616 := by decide
                                                  omega)
  obtain ⟨d, hd⟩ : ∃ d, m.log2 = d + 52 := ⟨m.log2 - 52, by omega⟩
  have hb := cut_bd neg m d hm hd
  have hf : ((double.fractionBits : Nat) : Int) = 52 := rfl
  unfold Format.nearest
  rw [if_neg hm]
  simp only [least, binade_eq, inf_eq]
  have hlast : max ((0 : Int) + ((m.log2 : Nat) : Int) - ((double.fractionBits : Nat) : Int)) (-1074) = (d : Int) := by rw [hf, hd]; omega
  rw [hlast]
  have e1 : ((0 : Int) - (d : Int)).toNat = 0 := by omega
  have e2 : ((d : Int) - 0).toNat = d := by omega
  have e3 : ((d : Int) - (-1074)).toNat = d + 1074 := by omega
  rw [e1, e2, e3, Nat.shiftLeft_zero]
  generalize Toward.even.cut neg m d = q at hb
  rw [Nat.min_eq_left (by omega)]
  generalize hR : (d + 1074) * 4503599627370496 + q = R
  have r1 : 1076 * 4503599627370496 ≤ R := by omega
  have r2 : R < 9218868437227405312 := by omega
  have w1 : (double.word neg R) / 9223372036854775808 % 2 = neg.toNat := by
    unfold Format.word; rw [weight_eq]
    cases neg
    · rw [if_neg (by decide)]; show _ = 0; omega
    · rw [if_pos rfl]; show _ = 1; omega
  have w2 : (double.word neg R) % 9223372036854775808 = R := by
    unfold Format.word; rw [weight_eq]
    cases neg
    · rw [if_neg (by decide)]; omega
    · rw [if_pos rfl]; omega
  refine ⟨4503599627370496 + R % 4503599627370496, R / 4503599627370496 - 1075, ?_, by omega⟩
  unfold Format.read
  simp only [weight_eq, binade_eq, inf_eq, least, w1, w2]
  rw [if_neg (by omega), if_pos r2]
  have e7 : (-1074 : Int) + ((R / 4503599627370496 - 1 : Nat) : Int) = ((R / 4503599627370496 - 1075 : Nat) : Int) := by omega
  rw [e7]
  cases neg <;> rfl

theorem order_int (n : Int) (h1 : -9223372036854775808 ≤ n) (h2 : n ≤ 9223372036854775807) {b : Nat} {y : Int} (hb : Rep b y) (h3 : -4503599627370496 < y) (h4 : y < 4503599627370496) :
    double.order (floatOfInt .f64 n) b = some (compare n y) ∧ double.order b (floatOfInt .f64 n) = some (compare y n) := by
  by_cases hs : n.natAbs < 9007199254740992
  · exact ⟨order_rep (rep_int n (by omega) (by omega)) hb, order_rep hb (rep_int n (by omega) (by omega))⟩
  · obtain ⟨e1, e2⟩ := order_big (big_int n (by omega) (by omega)) hb h3 h4
    rw [e1, e2]
    by_cases hn : n < 0
    · simp only [hn, decide_true, if_true]
      rw [cmp_lt (show n < y by omega), cmp_gt (show n < y by omega)]
      exact ⟨rfl, rfl⟩
    · simp only [hn, decide_false]
      rw [cmp_gt (show y < n by omega), cmp_lt (show y < n by omega)]
      exact ⟨rfl, rfl⟩

theorem rep_24 : Rep 4627448617123184640 24 := ⟨false, 24, 48, by rfl, by rfl⟩
theorem rep_16 : Rep 4625196817309499392 16 := ⟨false, 16, 48, by rfl, by rfl⟩

theorem beq_lt (x y : Int) : ((some (compare x y) : Option Ordering) == some .lt) = decide (x < y) := by
  by_cases h : x < y
  · rw [cmp_lt h, decide_eq_true h]; rfl
  · rw [decide_eq_false h]
    by_cases he : x = y
    · rw [cmp_eq he]; rfl
    · rw [cmp_gt (by omega)]; rfl

theorem beq_ge (x y : Int) : ((some (compare x y) : Option Ordering) == some .gt || (some (compare x y) : Option Ordering) == some .eq) = decide (y ≤ x) := by
  by_cases h : x < y
  · rw [cmp_lt h, decide_eq_false (by omega)]; rfl
  · rw [decide_eq_true (by omega)]
    by_cases he : x = y
    · rw [cmp_eq he]; rfl
    · rw [cmp_gt (by omega)]; rfl

theorem beq_eq (x y : Int) : ((some (compare x y) : Option Ordering) == some .eq) = decide (x = y) := by
  by_cases h : x < y
  · rw [cmp_lt h, decide_eq_false (by omega)]; rfl
  · by_cases he : x = y
    · rw [cmp_eq he, decide_eq_true he]; rfl
    · rw [cmp_gt (by omega), decide_eq_false he]; rfl

end Go.Proofs.YtbanjoflgoiegaaGreat.Fl

namespace Go.Proofs.YtbanjoflgoiegaaGreat
open Go.RowKit

def Arr (w : World) (g : Nat) (T : TypeId) (n : Nat) (F : Nat → Value) : Prop :=
  ∃ cur : Array Value, w.heap[g]? = some (.cells cur T (0, 0)) ∧ cur.size = n ∧ ∀ i, i < n → cur[i]? = some (F i)

theorem Arr.cell {w : World} {g : Nat} {T : TypeId} {n : Nat} {F : Nat → Value} (h : Arr w g T n F) {i : Nat} (hi : i < n) : w.cell? ⟨g, i, none⟩ = some (F i) := by
  obtain ⟨cur, hg, _, hc⟩ := h
  rw [cell_of_row w g i cur T (0, 0) hg]
  exact hc i hi

theorem Arr.free {w : World} {g : Nat} {T : TypeId} {n : Nat} {F : Nat → Value} (h : Arr w g T n F) (i : Nat) : w.frozen? ⟨g, i, none⟩ = false := by
  obtain ⟨cur, hg, _, _⟩ := h
  exact frozen_of_row w g i cur T hg

theorem Arr.lt {w : World} {g : Nat} {T : TypeId} {n : Nat} {F : Nat → Value} (h : Arr w g T n F) : g < w.heap.size := by
  obtain ⟨cur, hg, _, _⟩ := h
  exact lt_of_block hg

theorem Arr.congr {w : World} {g : Nat} {T : TypeId} {n : Nat} {F G : Nat → Value} (h : Arr w g T n F) (he : ∀ i, i < n → F i = G i) : Arr w g T n G := by
  obtain ⟨cur, hg, hs, hc⟩ := h
  exact ⟨cur, hg, hs, fun i hi => by rw [hc i hi, he i hi]⟩

theorem Arr.kept {w w' : World} {B g : Nat} {T : TypeId} {n : Nat} {F : Nat → Value} (h : Arr w g T n F) (hb : Below B w w') (hlt : g < B) : Arr w' g T n F := by
  obtain ⟨cur, hg, hs, hc⟩ := h
  exact ⟨cur, (hb.block g hlt).trans hg, hs, hc⟩

theorem Arr.store {w : World} {g : Nat} {T : TypeId} {n : Nat} {F : Nat → Value} (h : Arr w g T n F) (i : Nat) (u : Value) : Arr (w.setCell ⟨g, i, none⟩ u) g T n (fun j => if j = i then u else F j) := by
  obtain ⟨cur, hg, hs, hc⟩ := h
  refine ⟨cur.setIfInBounds i u, heap_setCell_same w g i cur T u hg, by simpa using hs, fun j hj => ?_⟩
  show _ = some (if j = i then u else F j)
  by_cases hji : j = i
  · subst hji
    rw [if_pos rfl]
    simp [hs, hj]
  · rw [if_neg hji, Array.getElem?_setIfInBounds_ne (by omega)]
    exact hc j hj

theorem Arr.vec {w : World} {g : Nat} {T : TypeId} {n : Nat} {F : Nat → Value} (h : Arr w g T n F) (B : Nat) (hB : g < B) (hm : n ≤ maxLen) : Vec B w (some ⟨g, 0, none⟩) n F :=
  ⟨hm, .inr ⟨g, 0, rfl, hB, fun i hi => by rw [Nat.zero_add]; exact h.cell hi⟩⟩

theorem Arr.made {w : World} {base g : Nat} {T : TypeId} {n : Nat} {xs : List Value} (h : w.ownsRow base T 1 (.slice (some ⟨g, 0, none⟩) n n) n xs) (u : Value) : Arr w g T n (fun i => xs[i]?.getD u) := by
  have hl := h.1
  rcases h.2 with ⟨h', _⟩ | ⟨g', cap', cur, h', _, hg, _, _, hcs, htake⟩
  · simp at h'
  · simp only [Value.slice.injEq, Option.some.injEq, Addr.mk.injEq, and_true, true_and] at h'
    obtain ⟨rfl, rfl⟩ := h'
    refine ⟨cur, hg, by simpa using hcs, fun i hi => ?_⟩
    show _ = some (xs[i]?.getD u)
    rw [← htake]
    rw [Nat.mul_one, List.getElem?_take, if_pos hi, Array.getElem?_toList, Array.getElem?_eq_getElem (by omega)]
    rfl

theorem Arr.zero {w : World} {base g : Nat} {T : TypeId} {n : Nat} {z : Value} (h : w.ownsRow base T 1 (.slice (some ⟨g, 0, none⟩) n n) n (madeCells #[z] n).toList) : Arr w g T n (fun _ => z) := by
  refine (Arr.made h z).congr fun i hi => ?_
  rw [toList_madeCells_one, List.getElem?_replicate, if_pos (by omega)]
  rfl

theorem fill_more {g : Nat → Int} {z : Int} {k : Nat} {v : Int} (hv : v = g k) (j : Nat) : (if j = k then Value.int .i64 v else .int .i64 (if j < k then g j else z)) = .int .i64 (if j < k + 1 then g j else z) := by
  by_cases h : j = k
  · rw [if_pos h, if_pos (by omega), hv, h]
  · rw [if_neg h]
    by_cases h2 : j < k
    · rw [if_pos h2, if_pos (by omega)]
    · rw [if_neg h2, if_neg (by omega)]

def Gives (w : World) (n : Nat) (F : Nat → Value) (e : Ending) (w' : World) : Prop :=
  ∃ a cap, e = .returned (.slice a n cap) ∧ Vec w'.heap.size w' a n F ∧ n ≤ cap ∧ Below w.heap.size w w'

theorem info_int : (Tryz.prog.info? 3).map (fun i => (i.zero, i.size, i.bytes)) = some (some (.int .i64 0), 1, 8) := by kernel_rfl

end Go.Proofs.YtbanjoflgoiegaaGreat

namespace Go.Proofs.YtbanjoflgoiegaaGreat
open Go.RowKit

set_option maxHeartbeats 400000 in
theorem isCell_any (x y : Int) (w : World) :
    Calls Tryz.prog 152 #[.int .i64 x, .int .i64 y] w fun e w' => e = .returned (.bool (Gr.inB x y)) ∧ w' = w := by
  by_cases h1 : 0 ≤ x
  · by_cases h2 : x < 24
    · by_cases h3 : 0 ≤ y
      · by_cases h4 : y < 16
        · have hd := hide ((Gr.inB_iff x y).2 ⟨h1, h2, h3, h4⟩)
          go_enter Tryz.func152, Tryz.ntmps152
          go_wp2
          go_ret
          exact ⟨ret_bool (unhide hd).symm, rfl⟩
        · have hd := hide ((Gr.inB_no x y).2 (by omega))
          go_enter Tryz.func152, Tryz.ntmps152
          go_wp2
          go_ret
          exact ⟨ret_bool (unhide hd).symm, rfl⟩
      · have hd := hide ((Gr.inB_no x y).2 (by omega))
        go_enter Tryz.func152, Tryz.ntmps152
        go_wp2
        go_ret
        exact ⟨ret_bool (unhide hd).symm, rfl⟩
    · have hd := hide ((Gr.inB_no x y).2 (by omega))
      go_enter Tryz.func152, Tryz.ntmps152
      go_wp2
      go_ret
      exact ⟨ret_bool (unhide hd).symm, rfl⟩
  · have hd := hide ((Gr.inB_no x y).2 (by omega))
    go_enter Tryz.func152, Tryz.ntmps152
    go_wp2
    go_ret
    exact ⟨ret_bool (unhide hd).symm, rfl⟩

set_option maxHeartbeats 400000 in
theorem refIn_any (x y : Int) (w : World) :
    Calls Tryz.prog 87 #[.int .i64 x, .int .i64 y] w fun e w' => e = .returned (.bool (Gr.inB x y)) ∧ w' = w := by
  by_cases h1 : 0 ≤ x
  · by_cases h2 : x < 24
    · by_cases h3 : 0 ≤ y
      · by_cases h4 : y < 16
        · have hd := hide ((Gr.inB_iff x y).2 ⟨h1, h2, h3, h4⟩)
          go_enter Tryz.func87, Tryz.ntmps87
          go_wp2
          go_ret
          exact ⟨ret_bool (unhide hd).symm, rfl⟩
        · have hd := hide ((Gr.inB_no x y).2 (by omega))
          go_enter Tryz.func87, Tryz.ntmps87
          go_wp2
          go_ret
          exact ⟨ret_bool (unhide hd).symm, rfl⟩
      · have hd := hide ((Gr.inB_no x y).2 (by omega))
        go_enter Tryz.func87, Tryz.ntmps87
        go_wp2
        go_ret
        exact ⟨ret_bool (unhide hd).symm, rfl⟩
    · have hd := hide ((Gr.inB_no x y).2 (by omega))
      go_enter Tryz.func87, Tryz.ntmps87
      go_wp2
      go_ret
      exact ⟨ret_bool (unhide hd).symm, rfl⟩
  · have hd := hide ((Gr.inB_no x y).2 (by omega))
    go_enter Tryz.func87, Tryz.ntmps87
    go_wp2
    go_ret
    exact ⟨ret_bool (unhide hd).symm, rfl⟩

theorem number_any (x y : Int) (w : World) (h1 : -1000 ≤ x) (h2 : x ≤ 1000) (h3 : -1000 ≤ y) (h4 : y ≤ 1000) :
    Calls Tryz.prog 153 #[.int .i64 x, .int .i64 y] w fun e w' => e = .returned (.int .i64 (y * 24 + x)) ∧ w' = w := by
  go_enter Tryz.func153, Tryz.ntmps153
  go_wp2
  go_ret
  exact ⟨rfl, rfl⟩

set_option maxHeartbeats 800000 in
theorem at_any (B : Nat) (a : Option Addr) (len cap : Nat) (f : Nat → Int) (x y : Int) (w : World) (h : Vec B w a len (Byts f)) (hf : ∀ i, 0 ≤ f i ∧ f i ≤ 255) :
    Calls Tryz.prog 116 #[.slice a len cap, .int .i64 x, .int .i64 y] w fun e w' => e = .returned (.int .i64 (Gr.at len f x y)) ∧ w' = w := by
  have hm : len ≤ 9223372036854775807 := h.1
  by_cases hin : Gr.inB x y = true
  · obtain ⟨h1, h2, h3, h4⟩ := (Gr.inB_iff x y).1 hin
    obtain ⟨k, hk⟩ : ∃ k : Nat, y * 24 + x = (k : Int) := ⟨(y * 24 + x).toNat, by omega⟩
    by_cases hl : k < len
    · have hd : Hid (Gr.at len f x y = f k) := by
        show Gr.at len f x y = f k
        unfold Gr.at
        rw [if_pos ⟨hin, by omega⟩, hk, Int.toNat_natCast]
      obtain ⟨b, off, rfl, _, hc⟩ := h.at hl
      have hc' : w.cell? ⟨b, off + k, none⟩ = some (.int .u8 (f k)) := hc
      have hfk := hf k
      obtain ⟨hf1, hf2⟩ := hfk
      have hl' : (k : Int) < (len : Int) := by omega
      clear hc h hf
      go_enter Tryz.func116, Tryz.ntmps116
      go_wp2_with (first | (go_at_call 152; refine (isCell_any _ _ _).mono ?_; rintro e w' ⟨rfl, rfl⟩) | (go_at_call 153; refine (number_any _ _ _ (by omega) (by omega) (by omega) (by omega)).mono ?_; rintro e w' ⟨rfl, rfl⟩))
      go_ret
      exact ⟨ret_int (unhide hd).symm, rfl⟩
    · have hd : Hid (Gr.at len f x y = 0) := by
        show Gr.at len f x y = 0
        unfold Gr.at
        rw [if_neg]
        rintro ⟨_, h⟩
        omega
      have hl' : (len : Int) ≤ (k : Int) := by omega
      clear h hf
      go_enter Tryz.func116, Tryz.ntmps116
      go_wp2_with (first | (go_at_call 152; refine (isCell_any _ _ _).mono ?_; rintro e w' ⟨rfl, rfl⟩) | (go_at_call 153; refine (number_any _ _ _ (by omega) (by omega) (by omega) (by omega)).mono ?_; rintro e w' ⟨rfl, rfl⟩))
      go_ret
      exact ⟨ret_int (unhide hd).symm, rfl⟩
  · have hin' : Gr.inB x y = false := by simpa using hin
    have hd : Hid (Gr.at len f x y = 0) := by
      show Gr.at len f x y = 0
      unfold Gr.at
      rw [if_neg]
      rintro ⟨h, _⟩
      exact hin h
    clear hin h hf
    go_enter Tryz.func116, Tryz.ntmps116
    go_wp2_with (first | (go_at_call 152; refine (isCell_any _ _ _).mono ?_; rintro e w' ⟨rfl, rfl⟩))
    go_ret
    exact ⟨ret_int (unhide hd).symm, rfl⟩

set_option maxHeartbeats 800000 in
theorem refAt_any (B : Nat) (a : Option Addr) (len cap : Nat) (f : Nat → Int) (x y : Int) (w : World) (h : Vec B w a len (Byts f)) (hf : ∀ i, 0 ≤ f i ∧ f i ≤ 255) :
    Calls Tryz.prog 40 #[.slice a len cap, .int .i64 x, .int .i64 y] w fun e w' => e = .returned (.int .i64 (Gr.at len f x y)) ∧ w' = w := by
  have hm : len ≤ 9223372036854775807 := h.1
  by_cases hin : Gr.inB x y = true
  · obtain ⟨h1, h2, h3, h4⟩ := (Gr.inB_iff x y).1 hin
    obtain ⟨k, hk⟩ : ∃ k : Nat, y * 24 + x = (k : Int) := ⟨(y * 24 + x).toNat, by omega⟩
    by_cases hl : k < len
    · have hd : Hid (Gr.at len f x y = f k) := by
        show Gr.at len f x y = f k
        unfold Gr.at
        rw [if_pos ⟨hin, by omega⟩, hk, Int.toNat_natCast]
      obtain ⟨b, off, rfl, _, hc⟩ := h.at hl
      have hc' : w.cell? ⟨b, off + k, none⟩ = some (.int .u8 (f k)) := hc
      have hfk := hf k
      obtain ⟨hf1, hf2⟩ := hfk
      have hl' : (k : Int) < (len : Int) := by omega
      clear hc h hf
      go_enter Tryz.func40, Tryz.ntmps40
      go_wp2_with (first | (go_at_call 87; refine (refIn_any _ _ _).mono ?_; rintro e w' ⟨rfl, rfl⟩))
      go_ret
      exact ⟨ret_int (unhide hd).symm, rfl⟩
    · have hd : Hid (Gr.at len f x y = 0) := by
        show Gr.at len f x y = 0
        unfold Gr.at
        rw [if_neg]
        rintro ⟨_, h⟩
        omega
      have hl' : (len : Int) ≤ (k : Int) := by omega
      clear h hf
      go_enter Tryz.func40, Tryz.ntmps40
      go_wp2_with (first | (go_at_call 87; refine (refIn_any _ _ _).mono ?_; rintro e w' ⟨rfl, rfl⟩))
      go_ret
      exact ⟨ret_int (unhide hd).symm, rfl⟩
  · have hin' : Gr.inB x y = false := by simpa using hin
    have hd : Hid (Gr.at len f x y = 0) := by
      show Gr.at len f x y = 0
      unfold Gr.at
      rw [if_neg]
      rintro ⟨h, _⟩
      exact hin h
    clear hin h hf
    go_enter Tryz.func40, Tryz.ntmps40
    go_wp2_with (first | (go_at_call 87; refine (refIn_any _ _ _).mono ?_; rintro e w' ⟨rfl, rfl⟩))
    go_ret
    exact ⟨ret_int (unhide hd).symm, rfl⟩

set_option maxHeartbeats 400000 in
theorem walk_any (k : Int) (w : World) :
    Calls Tryz.prog 115 #[.int .i64 k] w fun e w' => e = .returned (.bool (Gr.walkB k)) ∧ w' = w := by
  by_cases h : k = 1 ∨ k = 2 ∨ k = 3 ∨ k = 4 ∨ k = 5
  · rcases h with rfl | rfl | rfl | rfl | rfl
    all_goals
      go_enter Tryz.func115, Tryz.ntmps115
      go_wp2
      go_ret
      exact ⟨rfl, rfl⟩
  · have e1 : (k == 1) = false := by simp; omega
    have e2 : (k == 2) = false := by simp; omega
    have e3 : (k == 3) = false := by simp; omega
    have e4 : (k == 4) = false := by simp; omega
    have e5 : (k == 5) = false := by simp; omega
    have hd : Hid (Gr.walkB k = false) := by show Gr.walkB k = false; simp only [Gr.walkB, decide_eq_false_iff_not]; omega
    clear h
    go_enter Tryz.func115, Tryz.ntmps115
    go_wp2
    go_ret
    exact ⟨ret_bool (unhide hd).symm, rfl⟩

set_option maxHeartbeats 400000 in
theorem refWalk_any (k : Int) (w : World) :
    Calls Tryz.prog 46 #[.int .i64 k] w fun e w' => e = .returned (.bool (Gr.walkB k)) ∧ w' = w := by
  by_cases h1 : 1 ≤ k
  · by_cases h2 : k ≤ 5
    · have hd := hide ((Gr.walkB_iff k).2 ⟨h1, h2⟩)
      go_enter Tryz.func46, Tryz.ntmps46
      go_wp2
      go_ret
      exact ⟨ret_bool (unhide hd).symm, rfl⟩
    · have hd : Hid (Gr.walkB k = false) := by show Gr.walkB k = false; simp only [Gr.walkB, decide_eq_false_iff_not]; omega
      go_enter Tryz.func46, Tryz.ntmps46
      go_wp2
      go_ret
      exact ⟨ret_bool (unhide hd).symm, rfl⟩
  · have hd : Hid (Gr.walkB k = false) := by show Gr.walkB k = false; simp only [Gr.walkB, decide_eq_false_iff_not]; omega
    go_enter Tryz.func46, Tryz.ntmps46
    go_wp2
    go_ret
    exact ⟨ret_bool (unhide hd).symm, rfl⟩

theorem Gr.clear_of_no {k : Int} (h : Gr.walkB k = false) : Gr.clearB k = false := by
  simp only [Gr.walkB, Gr.clearB, decide_eq_false_iff_not] at *; omega

theorem Gr.clear_of_yes {k : Int} (h : Gr.walkB k = true) : Gr.clearB k = (k != 2) := by
  simp only [Gr.walkB, decide_eq_true_eq] at h
  rw [Bool.eq_iff_iff]
  simp [Gr.clearB]; omega

set_option maxHeartbeats 400000 in
theorem clear_any (k : Int) (w : World) :
    Calls Tryz.prog 223 #[.int .i64 k] w fun e w' => e = .returned (.bool (Gr.clearB k)) ∧ w' = w := by
  by_cases h : Gr.walkB k = true
  · have hd := hide (Gr.clear_of_yes h)
    go_enter Tryz.func223, Tryz.ntmps223
    go_wp2_with (go_at_call 115; refine (walk_any _ _).mono ?_; rintro e w' ⟨rfl, rfl⟩)
    go_ret
    exact ⟨ret_bool (unhide hd).symm, rfl⟩
  · have h' : Gr.walkB k = false := by simpa using h
    have hd := hide (Gr.clear_of_no h')
    clear h
    go_enter Tryz.func223, Tryz.ntmps223
    go_wp2_with (go_at_call 115; refine (walk_any _ _).mono ?_; rintro e w' ⟨rfl, rfl⟩)
    go_ret
    exact ⟨ret_bool (unhide hd).symm, rfl⟩

theorem Gr.near_neg (p n : Int) (hn : 0 < n) (h : (2 * p + n).tmod (2 * n) < 0) : (2 * p + n).tdiv (2 * n) - 1 = Gr.near p n := by
  unfold Gr.near
  have h0 := Int.mul_tdiv_add_tmod (2 * p + n) (2 * n)
  have h1 := Int.mul_ediv_add_emod (2 * p + n) (2 * n)
  have h2 := Int.emod_nonneg (2 * p + n) (b := 2 * n) (by omega)
  have h3 := Int.emod_lt_of_pos (2 * p + n) (b := 2 * n) (by omega)
  have h4 := Int.lt_tmod_of_pos (2 * p + n) (b := 2 * n) (by omega)
  generalize (2 * p + n).tdiv (2 * n) = q at *
  generalize (2 * p + n) / (2 * n) = r at *
  generalize (2 * p + n).tmod (2 * n) = s at *
  generalize (2 * p + n) % (2 * n) = t at *
  have : (2 * n) * (q - 1) = (2 * n) * q - 2 * n := by rw [Int.mul_sub, Int.mul_one]
  have e : (2 * n) * (q - 1 - r) = t - s - 2 * n := by rw [Int.mul_sub]; omega
  rcases Int.lt_trichotomy (q - 1 - r) 0 with g | g | g
  · have : (2 * n) * (q - 1 - r) ≤ (2 * n) * (-1) := Int.mul_le_mul_of_nonneg_left (by omega) (by omega)
    omega
  · omega
  · have : (2 * n) * 1 ≤ (2 * n) * (q - 1 - r) := Int.mul_le_mul_of_nonneg_left (by omega) (by omega)
    omega

theorem Gr.near_pos (p n : Int) (hn : 0 < n) (h : ¬ (2 * p + n).tmod (2 * n) < 0) : (2 * p + n).tdiv (2 * n) = Gr.near p n := by
  unfold Gr.near
  have h0 := Int.mul_tdiv_add_tmod (2 * p + n) (2 * n)
  have h1 := Int.mul_ediv_add_emod (2 * p + n) (2 * n)
  have h2 := Int.emod_nonneg (2 * p + n) (b := 2 * n) (by omega)
  have h3 := Int.emod_lt_of_pos (2 * p + n) (b := 2 * n) (by omega)
  have h4 := Int.tmod_lt_of_pos (2 * p + n) (b := 2 * n) (by omega)
  generalize (2 * p + n).tdiv (2 * n) = q at *
  generalize (2 * p + n) / (2 * n) = r at *
  generalize (2 * p + n).tmod (2 * n) = s at *
  generalize (2 * p + n) % (2 * n) = t at *
  have e : (2 * n) * (q - r) = t - s := by rw [Int.mul_sub]; omega
  rcases Int.lt_trichotomy (q - r) 0 with g | g | g
  · have : (2 * n) * (q - r) ≤ (2 * n) * (-1) := Int.mul_le_mul_of_nonneg_left (by omega) (by omega)
    omega
  · omega
  · have : (2 * n) * 1 ≤ (2 * n) * (q - r) := Int.mul_le_mul_of_nonneg_left (by omega) (by omega)
    omega

theorem Gr.tdiv_bd (p n : Int) (h1 : -1000 ≤ p) (h2 : p ≤ 1000) (h3 : n ≤ 100) (h4 : 0 < n) : -2100 ≤ (2 * p + n).tdiv (2 * n) ∧ (2 * p + n).tdiv (2 * n) ≤ 2100 := by
  have h : ((2 * p + n).tdiv (2 * n)).natAbs ≤ (2 * p + n).natAbs := by
    rw [Int.natAbs_tdiv]
    exact Nat.div_le_self _ _
  omega

set_option maxHeartbeats 400000 in
theorem nearest_any (p n : Int) (w : World) (h1 : -1000 ≤ p) (h2 : p ≤ 1000) (h3 : n ≤ 100) (h4 : 0 < n) :
    Calls Tryz.prog 225 #[.int .i64 p, .int .i64 n] w fun e w' => e = .returned (.int .i64 (Gr.near p n)) ∧ w' = w := by
  obtain ⟨b1, b2⟩ := Gr.tdiv_bd p n h1 h2 h3 h4
  by_cases hs : 0 ≤ 2 * p + n
  · have e : (2 * p + n).tmod (2 * n) = (2 * p + n) % (2 * n) := Int.tmod_eq_emod_of_nonneg hs
    have hn := Int.emod_nonneg (2 * p + n) (b := 2 * n) (by omega)
    have hd := hide (Gr.near_pos p n h4 (by omega))
    have e2 : (2 * p + n).tdiv (2 * n) = (2 * p + n) / (2 * n) := Int.tdiv_eq_ediv_of_nonneg hs
    rw [e2] at b1 b2
    clear e e2
    go_enter Tryz.func225, Tryz.ntmps225
    go_wp2
    go_ret
    exact ⟨ret_int rfl, rfl⟩
  · by_cases hn : (2 * p + n).tmod (2 * n) < 0
    · have hd := hide (Gr.near_neg p n h4 hn)
      go_enter Tryz.func225, Tryz.ntmps225
      go_wp2
      go_ret
      exact ⟨ret_int (unhide hd), rfl⟩
    · have hd := hide (Gr.near_pos p n h4 hn)
      go_enter Tryz.func225, Tryz.ntmps225
      go_wp2
      go_ret
      exact ⟨ret_int (unhide hd), rfl⟩

end Go.Proofs.YtbanjoflgoiegaaGreat
