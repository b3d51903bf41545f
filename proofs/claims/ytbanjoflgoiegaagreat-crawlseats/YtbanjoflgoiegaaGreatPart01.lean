/-
  Float GridMem FixMath FixCalls FixMore
-/
import Derived.WalkLawsBesides
import Derived.Test.YtbanjoflgoiegaaGreatRows
import Derived.WalkKit
import Derived.WalkSpells
import Derived.OpenShut
import Derived.Below
import Derived.BigQuiet
import Derived.WalkSmall
import Derived.Laws.BitsAllLaws
namespace Go.Proofs.YtbanjoflgoiegaaGreat.Fl
open Ieee

theorem log2_mul (m k : Nat) (h : m ≠ 0) : (m * 2 ^ k).log2 = m.log2 + k := by
  have hp : 0 < 2 ^ k := Nat.two_pow_pos k
  have hne : m * 2 ^ k ≠ 0 := Nat.mul_ne_zero h (by omega)
  apply Nat.le_antisymm
  · have : (m * 2 ^ k).log2 < m.log2 + 1 + k := (Nat.log2_lt hne).2 (by rw [Nat.pow_add]; exact Nat.mul_lt_mul_of_pos_right ((Nat.log2_lt h).1 (Nat.lt_succ_self _)) hp)
    omega
  · exact (Nat.le_log2 hne).2 (by rw [Nat.pow_add]; exact Nat.mul_le_mul_right _ (Nat.log2_self_le h))

theorem cut_exact (way : Toward) (hw : way = .even ∨ way = .zero) (neg : Bool) (q d : Nat) : way.cut neg (q * 2 ^ d) d = q := by
  have key : ∀ g : Nat, 0 < g → g = 2 ^ min d ((q * 2 ^ d).log2 + 2) → q * 2 ^ d / g = q ∧ q * 2 ^ d % g = 0 := by
    intro g hg e
    by_cases h : q = 0
    · subst h; simp
    · rw [log2_mul q d h, Nat.min_eq_left (by omega)] at e
      subst e
      exact ⟨Nat.mul_div_cancel _ hg, Nat.mul_mod_left _ _⟩
  have hg : (1 <<< min d ((q * 2 ^ d).log2 + 2)) = 2 ^ min d ((q * 2 ^ d).log2 + 2) := by rw [Nat.shiftLeft_eq, Nat.one_mul]
  have hp : 0 < (1 <<< min d ((q * 2 ^ d).log2 + 2)) := by rw [hg]; exact Nat.two_pow_pos _
  obtain ⟨h1, h2⟩ := key _ hp hg
  unfold Toward.cut
  simp only [h1, h2]
  generalize (1 <<< min d ((q * 2 ^ d).log2 + 2)) = g at hp
  rcases hw with rfl | rfl
  · have : ¬ (g < 2 * 0) := by omega
    have e : (g == 2 * 0) = false := by simp; omega
    simp [e]
  · simp

def Rep (b : Nat) (n : Int) : Prop := ∃ (s : Bool) (m k : Nat), double.read b = .number s (m * 2 ^ k) (-(k : Int)) ∧ n = (if s then -(m : Int) else m)

theorem least : double.leastPlace = -1074 := by decide
theorem binade_eq : double.binade = 4503599627370496 := by decide
theorem inf_eq : double.infRung = 9218868437227405312 := by decide
theorem weight_eq : double.signWeight = 9223372036854775808 := by decide

theorem read_word (neg : Bool) (L K : Nat) (h1 : 4503599627370496 ≤ K) (h2 : K < 9007199254740992) (hL : L ≤ 52) :
    double.read (double.word neg ((L + 1022) * 4503599627370496 + K)) = .number neg K ((L : Int) - 52) := by
  have hr : (L + 1022) * 4503599627370496 + K < 9218868437227405312 := by omega
  have e1 : (double.word neg ((L + 1022) * 4503599627370496 + K)) / 9223372036854775808 % 2 = neg.toNat := by
    unfold Format.word; rw [weight_eq]
    cases neg
    · rw [if_neg (by decide)]; show _ = 0; omega
    · rw [if_pos rfl]; show _ = 1; omega
  have e2 : (double.word neg ((L + 1022) * 4503599627370496 + K)) % 9223372036854775808 = (L + 1022) * 4503599627370496 + K := by
    unfold Format.word; rw [weight_eq]
    cases neg
    · rw [if_neg (by decide)]; omega
    · rw [if_pos rfl]; omega
  have e3 : (L + 1022) * 4503599627370496 + K = (L + 1023) * 4503599627370496 + (K - 4503599627370496) := by omega
  have e4 : ((L + 1023) * 4503599627370496 + (K - 4503599627370496)) % 4503599627370496 = K - 4503599627370496 := by omega
  have e5 : ((L + 1023) * 4503599627370496 + (K - 4503599627370496)) / 4503599627370496 = L + 1023 := by omega
  unfold Format.read
  simp only [weight_eq, binade_eq, inf_eq, least, e1, e2]
  rw [if_neg (by omega), if_pos hr, e3, e4, e5]
  have e6 : 4503599627370496 + (K - 4503599627370496) = K := Nat.add_sub_of_le h1
  have e7 : (-1074 : Int) + ((L + 1023 - 1 : Nat) : Int) = (L : Int) - 52 := by omega
  rw [e6, e7]
  cases neg <;> rfl

theorem read_zero (neg : Bool) : double.read (double.word neg 0) = .number neg 0 (-1074) := by
  cases neg <;> rfl

theorem read_zero' (neg : Bool) (K : Nat) (hK : K = 1074) : double.read (double.word neg 0) = .number neg (0 * 2 ^ K) (-(K : Int)) := by
  rw [read_zero, Nat.zero_mul, hK]; rfl

theorem rep_zero (neg : Bool) : Rep (double.word neg 0) (if neg then -((0 : Nat) : Int) else ((0 : Nat) : Int)) := by
  obtain ⟨K, hK⟩ : ∃ K : Nat, K = 1074 := ⟨_, rfl⟩
  exact ⟨neg, 0, K, read_zero' neg K hK, rfl⟩

theorem sgn (v c : Int) (hc : 0 < c) : decide (v * c < 0) = decide (v < 0) := by
  by_cases hn : v < 0
  · have : v * c < 0 := Int.mul_neg_of_neg_of_pos hn hc
    simp [this, hn]
  · have : ¬ v * c < 0 := by
      have := Int.mul_nonneg (a := v) (b := c) (by omega) (by omega)
      omega
    simp [this, hn]

theorem nearest_eq (neg : Bool) (m k : Nat) (hm : m ≠ 0) (hlt : m < 9007199254740992) :
    double.nearest neg (m * 2 ^ k) (-(k : Int)) = double.word neg ((m.log2 + 1022) * 4503599627370496 + m * 2 ^ (52 - m.log2)) ∧ m.log2 ≤ 52 ∧ 4503599627370496 ≤ m * 2 ^ (52 - m.log2) ∧ m * 2 ^ (52 - m.log2) < 9007199254740992 := by
  have hL : m.log2 ≤ 52 := by
    have := (Nat.log2_lt hm (k := 53)).2 (by simpa using hlt)
    omega
  have hp : ∀ a : Nat, 0 < 2 ^ a := Nat.two_pow_pos
  have k1 : 4503599627370496 ≤ m * 2 ^ (52 - m.log2) := by
    have h := Nat.mul_le_mul_right (2 ^ (52 - m.log2)) (Nat.log2_self_le hm)
    rw [← Nat.pow_add, show m.log2 + (52 - m.log2) = 52 from by omega] at h
    simpa using h
  have k2 : m * 2 ^ (52 - m.log2) < 9007199254740992 := by
    have h := Nat.mul_lt_mul_of_pos_right ((Nat.log2_lt hm).1 (Nat.lt_succ_self m.log2)) (hp (52 - m.log2))
    rw [← Nat.pow_add, show m.log2 + 1 + (52 - m.log2) = 53 from by omega] at h
    simpa using h
  refine ⟨?_, hL, k1, k2⟩
  have hne : m * 2 ^ k ≠ 0 := Nat.mul_ne_zero hm (by have := hp k; omega)
  unfold Format.nearest
  rw [if_neg hne]
  simp only [least, binade_eq, inf_eq, log2_mul m k hm]
  have hf : ((double.fractionBits : Nat) : Int) = 52 := rfl
  have hlast : max (-(k : Int) + ((m.log2 + k : Nat) : Int) - ((double.fractionBits : Nat) : Int)) (-1074) = (m.log2 : Int) - 52 := by rw [hf]; omega
  rw [hlast]
  have ha : (-(k : Int) - ((m.log2 : Int) - 52)).toNat = 52 - m.log2 - k := by omega
  have hb : ((m.log2 : Int) - 52 - -(k : Int)).toNat = k - (52 - m.log2) := by omega
  have hc : ((m.log2 : Int) - 52 - (-1074)).toNat = m.log2 + 1022 := by omega
  rw [ha, hb, hc]
  have hs : (m * 2 ^ k) <<< (52 - m.log2 - k) = (m * 2 ^ (52 - m.log2)) * 2 ^ (k - (52 - m.log2)) := by
    rw [Nat.shiftLeft_eq, Nat.mul_assoc, Nat.mul_assoc, ← Nat.pow_add, ← Nat.pow_add, show k + (52 - m.log2 - k) = 52 - m.log2 + (k - (52 - m.log2)) from by omega]
  rw [hs, cut_exact .even (Or.inl rfl), Nat.min_eq_left (by omega)]

theorem rep_write (neg : Bool) (m k : Nat) (hlt : m < 9007199254740992) : Rep (double.write (.number neg (m * 2 ^ k) (-(k : Int)))) (if neg then -(m : Int) else m) := by
  show Rep (double.nearest neg (m * 2 ^ k) (-(k : Int))) _
  by_cases hm : m = 0
  · subst hm
    have e : double.nearest neg (0 * 2 ^ k) (-(k : Int)) = double.word neg 0 := by
      unfold Format.nearest; rw [if_pos (by simp)]
    rw [e]
    exact rep_zero neg
  · obtain ⟨e, hL, k1, k2⟩ := nearest_eq neg m k hm hlt
    rw [e]
    refine ⟨neg, m, 52 - m.log2, ?_, rfl⟩
    rw [read_word neg _ _ k1 k2 hL, show (m.log2 : Int) - 52 = -((52 - m.log2 : Nat) : Int) from by omega]

theorem rep_int (n : Int) (h1 : -9007199254740992 < n) (h2 : n < 9007199254740992) : Rep (floatOfInt .f64 n) n := by
  have h := rep_write (decide (n < 0)) n.natAbs 0 (by omega)
  have e : (if decide (n < 0) = true then -(n.natAbs : Int) else (n.natAbs : Int)) = n := by
    by_cases hn : n < 0 <;> simp [hn] <;> omega
  rw [e] at h
  have h' : Rep (double.write (.number (decide (n < 0)) n.natAbs 0)) n := by simpa using h
  exact h'

theorem shl (m k j : Nat) (h : k ≤ j) : (m * 2 ^ k) <<< (j - k) = m * 2 ^ j := by
  rw [Nat.shiftLeft_eq, Nat.mul_assoc, ← Nat.pow_add, show k + (j - k) = j from by omega]

theorem signed_eq (s : Bool) (m k j : Nat) (h : k ≤ j) : signed s (m * 2 ^ k) (j - k) = (if s then -(m : Int) else m) * ((2 ^ j : Nat) : Int) := by
  unfold signed
  rw [shl m k j h]
  cases s
  · simp
  · simp [Int.neg_mul]

theorem sum_rep (s t : Bool) (m k n l : Nat) (x y : Int) (hx : x = (if s then -(m : Int) else m)) (hy : y = (if t then -(n : Int) else n)) (h1 : -9007199254740992 < x + y) (h2 : x + y < 9007199254740992) :
    ∃ d, Datum.sum (.number s (m * 2 ^ k) (-(k : Int))) (.number t (n * 2 ^ l) (-(l : Int))) = some d ∧ Rep (double.write d) (x + y) := by
  have hj : (min (-(k : Int)) (-(l : Int))) = -((max k l : Nat) : Int) := by omega
  have ek : (-(k : Int) - -((max k l : Nat) : Int)).toNat = max k l - k := by omega
  have el : (-(l : Int) - -((max k l : Nat) : Int)).toNat = max k l - l := by omega
  have et : signed s (m * 2 ^ k) (max k l - k) + signed t (n * 2 ^ l) (max k l - l) = (x + y) * ((2 ^ max k l : Nat) : Int) := by
    rw [signed_eq s m k _ (Nat.le_max_left _ _), signed_eq t n l _ (Nat.le_max_right _ _), ← hx, ← hy, Int.add_mul]
  refine ⟨_, rfl, ?_⟩
  simp only [hj, ek, el, et]
  generalize hJ : max k l = j
  have hpos : 0 < ((2 ^ j : Nat) : Int) := by have := Nat.two_pow_pos j; omega
  have hna : ((x + y) * ((2 ^ j : Nat) : Int)).natAbs = (x + y).natAbs * 2 ^ j := by rw [Int.natAbs_mul, Int.natAbs_natCast]
  rw [hna]
  generalize hv : x + y = v at *
  by_cases h0 : v = 0
  · subst h0
    simp only [Int.zero_mul, if_true]
    have h := rep_write (s && t) 0 j (by omega)
    simpa using h
  · have hne : v * ((2 ^ j : Nat) : Int) ≠ 0 := Int.mul_ne_zero h0 (by omega)
    rw [if_neg hne]
    have hs := sgn v _ hpos
    rw [hs]
    have h := rep_write (decide (v < 0)) v.natAbs j (by omega)
    have e : (if decide (v < 0) = true then -(v.natAbs : Int) else (v.natAbs : Int)) = v := by
      by_cases hn : v < 0 <;> simp [hn] <;> omega
    rw [e] at h
    exact h

theorem rep_add {a b : Nat} {x y : Int} (ha : Rep a x) (hb : Rep b y) (h1 : -9007199254740992 < x + y) (h2 : x + y < 9007199254740992) : ∃ r, floatBits .add .f64 a b = some r ∧ Rep r (x + y) := by
  obtain ⟨s, m, k, ra, hx⟩ := ha
  obtain ⟨t, n, l, rb, hy⟩ := hb
  obtain ⟨d, hd, hr⟩ := sum_rep s t m k n l x y hx hy h1 h2
  refine ⟨double.write d, ?_, hr⟩
  show double.add a b = _
  unfold Format.add
  rw [ra, rb, hd]
  rfl

theorem rep_sub {a b : Nat} {x y : Int} (ha : Rep a x) (hb : Rep b y) (h1 : -9007199254740992 < x - y) (h2 : x - y < 9007199254740992) : ∃ r, floatBits .sub .f64 a b = some r ∧ Rep r (x - y) := by
  obtain ⟨s, m, k, ra, hx⟩ := ha
  obtain ⟨t, n, l, rb, hy⟩ := hb
  have hy' : -y = (if (!t) = true then -(n : Int) else n) := by rw [hy]; cases t <;> simp
  rw [Int.sub_eq_add_neg] at *
  obtain ⟨d, hd, hr⟩ := sum_rep s (!t) m k n l x (-y) hx hy' h1 h2
  refine ⟨double.write d, ?_, hr⟩
  show double.sub a b = _
  unfold Format.sub
  rw [ra, rb]
  show (Datum.sum _ (.number (!t) (n * 2 ^ l) (-(l : Int)))).map _ = _
  rw [hd]
  rfl

theorem rep_mul {a b : Nat} {x y : Int} (ha : Rep a x) (hb : Rep b y) (h : (x * y).natAbs < 9007199254740992) : ∃ r, floatBits .mul .f64 a b = some r ∧ Rep r (x * y) := by
  obtain ⟨s, m, k, ra, hx⟩ := ha
  obtain ⟨t, n, l, rb, hy⟩ := hb
  have hn : (x * y).natAbs = m * n := by
    rw [hx, hy, Int.natAbs_mul]
    cases s <;> cases t <;> simp
  have hxy : x * y = (if (s ^^ t) = true then -((m * n : Nat) : Int) else ((m * n : Nat) : Int)) := by
    rw [hx, hy]
    cases s <;> cases t <;> simp [Int.neg_mul, Int.mul_neg]
  refine ⟨double.write (.number (s ^^ t) ((m * n) * 2 ^ (k + l)) (-((k + l : Nat) : Int))), ?_, ?_⟩
  · show double.mul a b = _
    unfold Format.mul
    rw [ra, rb]
    show some (double.write (.number (s ^^ t) (m * 2 ^ k * (n * 2 ^ l)) (-(k : Int) + -(l : Int)))) = _
    rw [show m * 2 ^ k * (n * 2 ^ l) = m * n * 2 ^ (k + l) from by rw [Nat.pow_add]; ac_rfl, show -(k : Int) + -(l : Int) = -((k + l : Nat) : Int) from by omega]
  · rw [hxy]
    exact rep_write _ _ _ (by omega)

theorem rep_toInt {b : Nat} {n : Int} (h : Rep b n) (h1 : -9007199254740992 < n) (h2 : n < 9007199254740992) : floatToIntVal .f64 b .i64 = some n := by
  obtain ⟨s, m, k, rb, hn⟩ := h
  have e : (FloatKind.f64.decode b).toInt .zero = some n := by
    show (double.read b).toInt .zero = some n
    rw [rb]
    show some (signed s (Toward.zero.cut s ((m * 2 ^ k) <<< (-(k : Int)).toNat) (- -(k : Int)).toNat) 0) = some n
    have e1 : (-(k : Int)).toNat = 0 := by omega
    have e2 : (- -(k : Int)).toNat = k := by omega
    rw [e1, e2, Nat.shiftLeft_zero, cut_exact .zero (Or.inr rfl)]
    unfold signed
    rw [Nat.shiftLeft_zero, hn]
  unfold floatToIntVal
  rw [e]
  have hmin : IntKind.i64.min = -9223372036854775808 := by decide
  have hmax : IntKind.i64.max = 9223372036854775807 := by decide
  simp only [hmin, hmax]
  rw [if_pos ⟨by omega, by omega⟩]

theorem rep_0 : Rep 0 0 := rep_zero false
theorem rep_1 : Rep 4607182418800017408 1 := ⟨false, 1, 52, by rfl, by rfl⟩

theorem times_i {a b : Nat} {x y : Int} (ha : Rep a x) (hb : Rep b y) (hx1 : -9007199254740992 < x) (hx2 : x < 9007199254740992) (hy1 : -9007199254740992 < y) (hy2 : y < 9007199254740992) :
    ∃ r i, cMulBits a b 0 4607182418800017408 = some (r, i) ∧ Rep r (0 - y) ∧ Rep i x := by
  obtain ⟨ac, e1, r1⟩ := rep_mul ha rep_0 (by simp)
  obtain ⟨bd, e2, r2⟩ := rep_mul hb rep_1 (by rw [Int.mul_one]; omega)
  obtain ⟨ad, e3, r3⟩ := rep_mul ha rep_1 (by rw [Int.mul_one]; omega)
  obtain ⟨bc, e4, r4⟩ := rep_mul hb rep_0 (by simp)
  rw [Int.mul_zero] at r1 r4
  rw [Int.mul_one] at r2 r3
  obtain ⟨re, e5, r5⟩ := rep_sub r1 r2 (by omega) (by omega)
  obtain ⟨im, e6, r6⟩ := rep_add r3 r4 (by omega) (by omega)
  rw [Int.add_zero] at r6
  refine ⟨re, im, ?_, r5, r6⟩
  unfold cMulBits
  simp [e1, e2, e3, e4, e5, e6]

end Go.Proofs.YtbanjoflgoiegaaGreat.Fl

namespace Go.Proofs.YtbanjoflgoiegaaGreat
open Go.RowKit

theorem hide {p : Prop} (h : p) : Hid p := h
theorem unhide {p : Prop} (h : Hid p) : p := h

theorem ret_int {k : IntKind} {a b : Int} (h : a = b) : Ending.returned (.int k a) = .returned (.int k b) := by rw [h]

theorem ret_bool {a b : Bool} (h : a = b) : Ending.returned (.bool a) = .returned (.bool b) := by rw [h]

def Vec (B : Nat) (w : World) (a : Option Addr) (len : Nat) (F : Nat → Value) : Prop :=
  len ≤ maxLen ∧ (len = 0 ∨ ∃ b off, a = some ⟨b, off, none⟩ ∧ b < B ∧ ∀ i, i < len → w.cell? ⟨b, off + i, none⟩ = some (F i))

theorem Vec.kept {B : Nat} {w w' : World} {a : Option Addr} {len : Nat} {F : Nat → Value} (h : Vec B w a len F) (hb : Below B w w') : Vec B w' a len F := by
  obtain ⟨hm, h0 | ⟨b, off, ha, hlt, hc⟩⟩ := h
  · exact ⟨hm, .inl h0⟩
  · exact ⟨hm, .inr ⟨b, off, ha, hlt, fun i hi => (hb.cell (p := ⟨b, off + i, none⟩) hlt).trans (hc i hi)⟩⟩

theorem Vec.mono {B B' : Nat} {w : World} {a : Option Addr} {len : Nat} {F : Nat → Value} (h : Vec B w a len F) (hb : B ≤ B') : Vec B' w a len F := by
  obtain ⟨hm, h0 | ⟨b, off, ha, hlt, hc⟩⟩ := h
  · exact ⟨hm, .inl h0⟩
  · exact ⟨hm, .inr ⟨b, off, ha, by omega, hc⟩⟩

theorem Vec.drew {B : Nat} {w : World} {a : Option Addr} {len : Nat} {F : Nat → Value} (h : Vec B w a len F) (n : Nat) : Vec B (w.drewN n) a len F :=
  h.kept (below_drewN (Below.refl _ _) n)

theorem Vec.taken {B : Nat} {w : World} {a : Option Addr} {len : Nat} {F : Nat → Value} (h : Vec B w a len F) (k : Nat) (hk : k ≤ len) : Vec B w a k F := by
  obtain ⟨hm, h0 | ⟨b, off, ha, hlt, hc⟩⟩ := h
  · exact ⟨Nat.le_trans hk hm, .inl (by omega)⟩
  · exact ⟨Nat.le_trans hk hm, .inr ⟨b, off, ha, hlt, fun i hi => hc i (by omega)⟩⟩

theorem Vec.at {B : Nat} {w : World} {a : Option Addr} {len : Nat} {F : Nat → Value} (h : Vec B w a len F) {k : Nat} (hk : k < len) :
    ∃ b off, a = some ⟨b, off, none⟩ ∧ b < B ∧ w.cell? ⟨b, off + k, none⟩ = some (F k) := by
  obtain ⟨hm, h0 | ⟨b, off, ha, hlt, hc⟩⟩ := h
  · omega
  · exact ⟨b, off, ha, hlt, hc k hk⟩

theorem Vec.congr {B : Nat} {w : World} {a : Option Addr} {len : Nat} {F G : Nat → Value} (h : Vec B w a len F) (he : ∀ i, i < len → F i = G i) : Vec B w a len G := by
  obtain ⟨hm, h0 | ⟨b, off, ha, hlt, hc⟩⟩ := h
  · exact ⟨hm, .inl h0⟩
  · exact ⟨hm, .inr ⟨b, off, ha, hlt, fun i hi => by rw [hc i hi, he i hi]⟩⟩

def Ints (g : Nat → Int) : Nat → Value := fun i => .int .i64 (g i)
def Byts (g : Nat → Int) : Nat → Value := fun i => .int .u8 (g i)
def Bols (g : Nat → Bool) : Nat → Value := fun i => .bool (g i)

def Gr.inB (x y : Int) : Bool := decide (0 ≤ x ∧ x < 24 ∧ 0 ≤ y ∧ y < 16)
def Gr.walkB (k : Int) : Bool := decide (1 ≤ k ∧ k ≤ 5)
def Gr.clearB (k : Int) : Bool := decide (1 ≤ k ∧ k ≤ 5 ∧ k ≠ 2)
def Gr.at (len : Nat) (f : Nat → Int) (x y : Int) : Int := if Gr.inB x y = true ∧ (y * 24 + x).toNat < len then f (y * 24 + x).toNat else 0

theorem Gr.inB_iff (x y : Int) : Gr.inB x y = true ↔ 0 ≤ x ∧ x < 24 ∧ 0 ≤ y ∧ y < 16 := by simp [Gr.inB]
theorem Gr.inB_no (x y : Int) : Gr.inB x y = false ↔ x < 0 ∨ 24 ≤ x ∨ y < 0 ∨ 16 ≤ y := by
  simp only [Gr.inB, decide_eq_false_iff_not]; omega
theorem Gr.walkB_iff (k : Int) : Gr.walkB k = true ↔ 1 ≤ k ∧ k ≤ 5 := by simp [Gr.walkB]
theorem Gr.clearB_iff (k : Int) : Gr.clearB k = true ↔ 1 ≤ k ∧ k ≤ 5 ∧ k ≠ 2 := by simp [Gr.clearB]

def Gr.findFrom (f : Nat → Int) (kind : Int) : Nat → Nat → Int
  | 0, _ => -1
  | n + 1, k => if f k = kind then (k : Int) else Gr.findFrom f kind n (k + 1)

def Gr.near (p n : Int) : Int := (2 * p + n) / (2 * n)

end Go.Proofs.YtbanjoflgoiegaaGreat

namespace Go.Proofs.YtbanjoflgoiegaaGreat.Fx

theorem tdiv_bd (n b m : Int) (h1 : -m ≤ n) (h2 : n ≤ m) : -m ≤ n.tdiv b ∧ n.tdiv b ≤ m := by
  have := Int.natAbs_tdiv_le_natAbs n b
  omega

theorem within_neg (a n : Int) (hn : 0 < n) (h : a.tmod n < 0) : a.tmod n + n = a % n := by
  have := Int.emod_nonneg a (b := n) (by omega)
  have := Int.emod_lt_of_pos a hn
  have e := Int.emod_eq_tmod (a := a) (b := n)
  by_cases hc : 0 ≤ a ∨ n ∣ a
  · rw [if_pos hc] at e; omega
  · rw [if_neg hc] at e; omega

theorem within_pos (a n : Int) (hn : 0 < n) (h : 0 ≤ a.tmod n) : a.tmod n = a % n := by
  have := Int.emod_lt_of_pos a hn
  have e := Int.emod_eq_tmod (a := a) (b := n)
  by_cases hc : 0 ≤ a ∨ n ∣ a
  · rw [if_pos hc] at e; omega
  · rw [if_neg hc] at e; omega

theorem and3 (q : Int) : bits .and .i64 q 3 = q % 4 := by
  show IntKind.i64.wrap ((BitVec.ofInt 64 q &&& BitVec.ofInt 64 3).toNat : Int) = _
  have e3 : (BitVec.ofInt 64 3).toNat = 2 ^ 2 - 1 := by decide
  rw [BitVec.toNat_and, e3, Nat.and_two_pow_sub_one_eq_mod, BitVec.toNat_ofInt]
  have hw : ∀ x : Int, 0 ≤ x → x < 4 → IntKind.i64.wrap x = x := by
    intro x h1 h2
    simp [IntKind.wrap, IntKind.bits, IntKind.signed]
    omega
  rw [hw _ (by omega) (by omega)]
  omega

def isRoot (n r : Int) : Prop := 0 ≤ r ∧ r * r ≤ n ∧ n < (r + 1) * (r + 1)

theorem root_one {n r s : Int} (hr : isRoot n r) (hs : isRoot n s) : r = s := by
  obtain ⟨r0, r1, r2⟩ := hr
  obtain ⟨s0, s1, s2⟩ := hs
  rcases Int.lt_trichotomy r s with h | h | h
  · have := Int.mul_self_le_mul_self (a := r + 1) (b := s) (by omega) (by omega)
    omega
  · exact h
  · have := Int.mul_self_le_mul_self (a := s + 1) (b := r) (by omega) (by omega)
    omega

def RI (n P B : Int) : Prop := ∃ k q : Nat, k ≤ 32 ∧ P = ((q * 2 ^ k : Nat) : Int) ∧ B = ((2 ^ k / 2 : Nat) : Int) ∧ P * P ≤ n ∧ n < (((q + 1) * 2 ^ k : Nat) : Int) * (((q + 1) * 2 ^ k : Nat) : Int) ∧ (q + 1) * 2 ^ k ≤ 4294967296

theorem RI_start (n : Int) (h0 : 0 ≤ n) (h1 : n < 18446744073709551616) : RI n 0 2147483648 :=
  ⟨32, 0, by omega, by simp, by decide, by omega, by simpa using h1, by decide⟩

theorem pow_half (k : Nat) : 2 ^ (k + 1) / 2 = 2 ^ k := by rw [Nat.pow_succ]; omega

theorem RI_bounds {n P B : Int} (h : RI n P B) : 0 ≤ P ∧ P < 4294967296 ∧ 0 ≤ B ∧ B ≤ 2147483648 ∧ P + B < 4294967296 := by
  obtain ⟨k, q, hk, rfl, rfl, _, _, hb⟩ := h
  have hp := Nat.two_pow_pos k
  rw [Nat.add_mul, Nat.one_mul] at hb
  have h32 : 2 ^ k ≤ 2 ^ 32 := Nat.pow_le_pow_right (by omega) hk
  have e32 : 2 ^ 32 = 4294967296 := by decide
  generalize q * 2 ^ k = u at *
  generalize 2 ^ k = v at *
  refine ⟨by omega, by omega, by omega, by omega, ?_⟩
  omega

theorem RI_succ {n P B : Int} (h : RI n P B) (hB : 0 < B) : ∃ j q : Nat, j + 1 ≤ 32 ∧ P = ((q * 2 ^ (j + 1) : Nat) : Int) ∧ B = ((2 ^ j : Nat) : Int) ∧ P * P ≤ n ∧ n < (((q + 1) * 2 ^ (j + 1) : Nat) : Int) * (((q + 1) * 2 ^ (j + 1) : Nat) : Int) ∧ (q + 1) * 2 ^ (j + 1) ≤ 4294967296 := by
  obtain ⟨k, q, hk, hP, hb, r⟩ := h
  cases k with
  | zero => exfalso; rw [hb] at hB; simp at hB
  | succ j => exact ⟨j, q, hk, hP, by rw [hb, pow_half], r⟩

theorem RI_or {n P B : Int} (h : RI n P B) (hB : 0 < B) : bits .or .u64 P B = P + B := by
  have hb := RI_bounds h
  obtain ⟨j, q, hj, rfl, rfl, _⟩ := RI_succ h hB
  rw [u64_or_nat _ _ (by omega) (by omega), nat_join (j + 1) _ _ (by rw [Nat.mul_mod_left]) (by have := Nat.two_pow_pos j; rw [Nat.pow_succ]; omega)]
  omega

theorem RI_sq {n P B : Int} (h : RI n P B) : 0 ≤ (P + B) * (P + B) ∧ (P + B) * (P + B) ≤ 18446744073709551615 := by
  obtain ⟨h1, h2, h3, h4, h5⟩ := RI_bounds h
  have a := Int.mul_nonneg (a := P + B) (b := P + B) (by omega) (by omega)
  have b := Int.mul_self_le_mul_self (a := P + B) (b := 4294967295) (by omega) (by omega)
  omega

theorem half_pow (j : Nat) : ((2 ^ j : Nat) : Int) / 2 = ((2 ^ j / 2 : Nat) : Int) := by omega

theorem RI_yes {n P B : Int} (h : RI n P B) (hB : 0 < B) (hy : (P + B) * (P + B) ≤ n) : RI n (P + B) (B / 2) := by
  obtain ⟨j, q, hj, rfl, rfl, _, hu, hb⟩ := RI_succ h hB
  have e1 : (2 * q + 1) * 2 ^ j = q * 2 ^ (j + 1) + 2 ^ j := by rw [Nat.pow_succ, Nat.add_mul, Nat.one_mul]; ac_rfl
  have e2 : (2 * q + 1 + 1) * 2 ^ j = (q + 1) * 2 ^ (j + 1) := by rw [Nat.pow_succ, show 2 * q + 1 + 1 = 2 * (q + 1) from by omega]; ac_rfl
  refine ⟨j, 2 * q + 1, by omega, by rw [e1]; omega, half_pow j, hy, ?_, ?_⟩
  · rw [e2]; exact hu
  · rw [e2]; exact hb

theorem RI_no {n P B : Int} (h : RI n P B) (hB : 0 < B) (hy : n < (P + B) * (P + B)) : RI n P (B / 2) := by
  obtain ⟨j, q, hj, rfl, rfl, hp, hu, hb⟩ := RI_succ h hB
  have e1 : (2 * q) * 2 ^ j = q * 2 ^ (j + 1) := by rw [Nat.pow_succ]; ac_rfl
  have e2 : (2 * q + 1) * 2 ^ j = q * 2 ^ (j + 1) + 2 ^ j := by rw [Nat.pow_succ, Nat.add_mul, Nat.one_mul]; ac_rfl
  have e3 : (q + 1) * 2 ^ (j + 1) = q * 2 ^ (j + 1) + 2 ^ j + 2 ^ j := by rw [Nat.pow_succ, Nat.add_mul, Nat.one_mul]; omega
  refine ⟨j, 2 * q, by omega, by rw [e1], half_pow j, hp, ?_, ?_⟩
  · rw [e2, Int.natCast_add]; exact hy
  · rw [e2]; rw [e3] at hb; omega

theorem RI_end {n P B : Int} (h : RI n P B) (hB : B ≤ 0) : isRoot n P := by
  have hb := RI_bounds h
  obtain ⟨k, q, hk, hP, hb', hp, hu, _⟩ := h
  cases k with
  | zero => 
    refine ⟨hb.1, hp, ?_⟩
    simp only [Nat.pow_zero, Nat.mul_one] at hP hu
    rw [hP]
    exact hu
  | succ j => 
    have := Nat.two_pow_pos j
    rw [pow_half] at hb'
    omega

theorem mul_bd (a b m : Int) (hm : 0 ≤ m) (a1 : -m ≤ a) (a2 : a ≤ m) (b1 : -m ≤ b) (b2 : b ≤ m) : -(m * m) ≤ a * b ∧ a * b ≤ m * m := by
  have h : (a * b).natAbs ≤ m.natAbs * m.natAbs := by
    rw [Int.natAbs_mul]
    exact Nat.mul_le_mul (by omega) (by omega)
  have e : ((m.natAbs * m.natAbs : Nat) : Int) = m * m := by
    rw [Int.natCast_mul, Int.natAbs_of_nonneg hm]
  generalize m * m = M at *
  generalize a * b = p at *
  generalize m.natAbs * m.natAbs = q at *
  omega

def turned : Nat → Int × Int → Int × Int
  | 0, p => p
  | k + 1, p => (0 - (turned k p).2, (turned k p).1)

theorem turned_bd (k : Nat) (p : Int × Int) (m : Int) (h1 : -m ≤ p.1) (h2 : p.1 ≤ m) (h3 : -m ≤ p.2) (h4 : p.2 ≤ m) : -m ≤ (turned k p).1 ∧ (turned k p).1 ≤ m ∧ -m ≤ (turned k p).2 ∧ (turned k p).2 ≤ m := by
  induction k with
  | zero => exact ⟨h1, h2, h3, h4⟩
  | succ k ih => 
    simp only [turned]
    omega

def way (n : Int) : Int × Int := if n = 1 then (0, -1) else if n = 2 then (1, 0) else if n = 3 then (0, 1) else if n = 4 then (-1, 0) else (0, 0)

theorem way_turned (n : Int) (h1 : 1 ≤ n) (h2 : n ≤ 4) : turned ((n - 1) % 4).toNat (0, -1) = way n := by
  have : n = 1 ∨ n = 2 ∨ n = 3 ∨ n = 4 := by omega
  rcases this with rfl | rfl | rfl | rfl <;> decide

theorem way_none (n : Int) (h : n < 1 ∨ 4 < n) : way n = (0, 0) := by
  unfold way
  rw [if_neg (by omega), if_neg (by omega), if_neg (by omega), if_neg (by omega)]

theorem way_bd (n : Int) : -1 ≤ (way n).1 ∧ (way n).1 ≤ 1 ∧ -1 ≤ (way n).2 ∧ (way n).2 ≤ 1 := by
  unfold way
  split
  · decide
  · split
    · decide
    · split
      · decide
      · split <;> decide

end Go.Proofs.YtbanjoflgoiegaaGreat.Fx

namespace Go.Proofs.YtbanjoflgoiegaaGreat
open Go.RowKit

set_option maxHeartbeats 400000 in
theorem root_any (n : Int) (w : World) (h1 : 0 ≤ n) (h2 : n ≤ 9223372036854775807) :
    Calls Tryz.prog 224 #[.int .i64 n] w fun e w' => ∃ r, e = .returned (.int .i64 r) ∧ Fx.isRoot n r ∧ w' = w := by
  go_enter Tryz.func224, Tryz.ntmps224
  go_wp2
  go_loop [3, 4] (fun r b => ∃ p q : Int, Fx.RI n p q ∧ r = .int .u64 p ∧ b = .int .u64 q) (fun _ b => (intOf b).toNat)
  case atStart => exact ⟨0, _, Fx.RI_start n h1 (by omega), rfl, rfl⟩
  case round =>
    obtain ⟨p, q, hri, rfl, rfl⟩ := hrel
    obtain ⟨hp0, hp1, hq0, hq1, hpq⟩ := Fx.RI_bounds hri
    obtain ⟨hs0, hs1⟩ := Fx.RI_sq hri
    by_cases hq : 0 < q
    · have hor := Fx.RI_or hri hq
      by_cases hy : (p + q) * (p + q) ≤ n
      · go_wp2
        go_round
        case rel => exact ⟨_, _, Fx.RI_yes hri hq hy, rfl, rfl⟩
        case measure => simp [intOf]; omega
      · go_wp2
        go_round
        case rel => exact ⟨_, _, Fx.RI_no hri hq (by omega), rfl, rfl⟩
        case measure => simp [intOf]; omega
    · go_wp2
      go_ret
      exact ⟨p, rfl, Fx.RI_end hri (by omega), rfl⟩

set_option maxHeartbeats 400000 in
theorem turn_any (x y q : Int) (w : World) (h1 : -1125899906842624 ≤ x) (h2 : x ≤ 1125899906842624) (h3 : -1125899906842624 ≤ y) (h4 : y ≤ 1125899906842624) :
    Calls Tryz.prog 148 #[.int .i64 x, .int .i64 y, .int .i64 q] w fun e w' => e = .returned (.tuple #[.int .i64 (Fx.turned (q % 4).toNat (x, y)).1, .int .i64 (Fx.turned (q % 4).toNat (x, y)).2]) ∧ w' = w := by
  have ha := Fx.and3 q
  obtain ⟨m, hm⟩ : ∃ m : Nat, (m : Int) = q % 4 := ⟨(q % 4).toNat, by omega⟩
  have hm4 : m < 4 := by omega
  have hmt : (q % 4).toNat = m := by omega
  rw [← hm] at ha
  rw [hmt]
  have HM := hide hm
  clear hm hmt
  go_enter Tryz.func148, Tryz.ntmps148
  go_wp2
  go_loop [8, 16] (fun s i => ∃ (a b k : Nat), k ≤ m ∧ s = .complex .f64 a b ∧ i = .int .i64 k ∧ Fl.Rep a (Fx.turned k (x, y)).1 ∧ Fl.Rep b (Fx.turned k (x, y)).2) (fun _ i => (m - (intOf i).toNat))
  case atStart => exact ⟨_, _, 0, by omega, rfl, rfl, Fl.rep_int x (by omega) (by omega), Fl.rep_int y (by omega) (by omega)⟩
  case round =>
    obtain ⟨a, b, k, hk, rfl, rfl, ra, rb⟩ := hrel
    obtain ⟨b1, b2, b3, b4⟩ := Fx.turned_bd k (x, y) 1125899906842624 h1 h2 h3 h4
    by_cases hlt : k < m
    · obtain ⟨r, i, hmul, rr, ri⟩ := Fl.times_i ra rb (by omega) (by omega) (by omega) (by omega)
      have hrun := fun w : World => run_complex_mul (P := Tryz.prog) w 173 a b 0 4607182418800017408 r i hmul
      have HR := hide rr
      have HI := hide ri
      clear ra rb rr ri hmul
      go_wp2
      go_round
      case rel => exact ⟨r, i, k + 1, by omega, rfl, by go_num, unhide HR, unhide HI⟩
      case measure => simp [intOf]; omega
    · have e : k = m := by omega
      subst e
      have t1 := Fl.rep_toInt ra (by omega) (by omega)
      have t2 := Fl.rep_toInt rb (by omega) (by omega)
      have hr1 := fun w : World => run_convert_float_int (P := Tryz.prog) w 176 3 .f64 .i64 a _ (by kernel_rfl) (by kernel_rfl) t1
      have hr2 := fun w : World => run_convert_float_int (P := Tryz.prog) w 176 3 .f64 .i64 b _ (by kernel_rfl) (by kernel_rfl) t2
      clear t1 t2 ra rb
      go_wp2
      go_ret2
      exact ⟨rfl, rfl⟩
end Go.Proofs.YtbanjoflgoiegaaGreat

namespace Go.Proofs.YtbanjoflgoiegaaGreat
open Go.RowKit

theorem sq_bd (dx dy : Int) (h1 : -1048576 ≤ dx) (h2 : dx ≤ 1048576) (h3 : -1048576 ≤ dy) (h4 : dy ≤ 1048576) : 0 ≤ dx * dx ∧ dx * dx ≤ 1099511627776 ∧ 0 ≤ dy * dy ∧ dy * dy ≤ 1099511627776 := by
  have a := Fx.mul_bd dx dx 1048576 (by omega) h1 h2 h1 h2
  have b := Fx.mul_bd dy dy 1048576 (by omega) h3 h4 h3 h4
  have c : 0 ≤ dx * dx := by rcases Int.le_total 0 dx with h | h; exact Int.mul_nonneg h h; exact Int.mul_nonneg_of_nonpos_of_nonpos h h
  have d : 0 ≤ dy * dy := by rcases Int.le_total 0 dy with h | h; exact Int.mul_nonneg h h; exact Int.mul_nonneg_of_nonpos_of_nonpos h h
  omega

set_option maxHeartbeats 400000 in
theorem dist_any (dx dy : Int) (w : World) (h1 : -1048576 ≤ dx) (h2 : dx ≤ 1048576) (h3 : -1048576 ≤ dy) (h4 : dy ≤ 1048576) :
    Calls Tryz.prog 217 #[.int .i64 dx, .int .i64 dy] w fun e w' => ∃ r, e = .returned (.int .i64 r) ∧ Fx.isRoot ((dx * dx + dy * dy) * 65536) r ∧ w' = w := by
  obtain ⟨a, b, c, d⟩ := sq_bd dx dy h1 h2 h3 h4
  go_enter Tryz.func217, Tryz.ntmps217
  go_wp2_with (go_at_call 224; refine (root_any _ _ (by omega) (by omega)).mono ?_; rintro e w' ⟨r, rfl, hr, rfl⟩)
  go_ret
  exact ⟨r, rfl, hr, rfl⟩

set_option maxHeartbeats 400000 in
theorem way_any (n : Int) (w : World) :
    Calls Tryz.prog 113 #[.int .i64 n] w fun e w' => e = .returned (.tuple #[.int .i64 (Fx.way n).1, .int .i64 (Fx.way n).2]) ∧ w' = w := by
  by_cases h1 : n < 1
  · rw [Fx.way_none n (Or.inl h1)]
    go_enter Tryz.func113, Tryz.ntmps113
    go_wp2
    go_ret2
    exact ⟨rfl, rfl⟩
  · by_cases h2 : 4 < n
    · rw [Fx.way_none n (Or.inr h2)]
      go_enter Tryz.func113, Tryz.ntmps113
      go_wp2
      go_ret2
      exact ⟨rfl, rfl⟩
    · rw [← Fx.way_turned n (by omega) (by omega)]
      go_enter Tryz.func113, Tryz.ntmps113
      go_wp2_with (go_at_call 148; refine (turn_any 0 (-1) _ _ (by omega) (by omega) (by omega) (by omega)).mono ?_; rintro e w' ⟨rfl, rfl⟩)
      go_ret2
      exact ⟨rfl, rfl⟩

end Go.Proofs.YtbanjoflgoiegaaGreat
