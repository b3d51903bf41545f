/-
  GridLineMath GridLine GridFind GridSee
-/
import Derived.Test.YtbanjoflgoiegaaGreatPart02
import Derived.Laws.AppendOwnNone
namespace Go.Proofs.YtbanjoflgoiegaaGreat

namespace Gr

theorem near_up (p n d : Int) (hn : 0 < n) (h0 : 0 ≤ p) (h1 : p ≤ n * d) : 0 ≤ near p n ∧ near p n ≤ d := by
  unfold near
  refine ⟨Int.ediv_nonneg (by omega) (by omega), ?_⟩
  have : (2 * p + n) / (2 * n) < d + 1 := Int.ediv_lt_of_lt_mul (by omega) (by
    have : (d + 1) * (2 * n) = 2 * (n * d) + 2 * n := by rw [Int.add_mul, Int.one_mul, Int.mul_comm d, Int.mul_assoc]
    omega)
  omega

theorem near_down (p n d : Int) (hn : 0 < n) (h0 : p ≤ 0) (h1 : n * d ≤ p) : d ≤ near p n ∧ near p n ≤ 0 := by
  unfold near
  constructor
  · refine Int.le_ediv_of_mul_le (by omega) ?_
    have : d * (2 * n) = 2 * (n * d) := by rw [Int.mul_comm d, Int.mul_assoc]
    omega
  · have : (2 * p + n) / (2 * n) < 1 := Int.ediv_lt_of_lt_mul (by omega) (by omega)
    omega

theorem near_mul (n d : Int) (hn : 0 < n) : near (n * d) n = d := by
  unfold near
  have h1 : d ≤ (2 * (n * d) + n) / (2 * n) := by
    refine Int.le_ediv_of_mul_le (by omega) ?_
    have : d * (2 * n) = 2 * (n * d) := by rw [Int.mul_comm d, Int.mul_assoc]
    omega
  have h2 : (2 * (n * d) + n) / (2 * n) < d + 1 := Int.ediv_lt_of_lt_mul (by omega) (by
    have : (d + 1) * (2 * n) = 2 * (n * d) + 2 * n := by rw [Int.add_mul, Int.one_mul, Int.mul_comm d, Int.mul_assoc]
    omega)
  omega

def span (x0 y0 x1 y1 : Int) : Nat := (max (max (x1 - x0) (x0 - x1)) (max (y1 - y0) (y0 - y1))).toNat

def ln (x0 y0 x1 y1 : Int) (k : Nat) : Int :=
  (y0 + near (k * (y1 - y0)) (span x0 y0 x1 y1)) * 24 + (x0 + near (k * (x1 - x0)) (span x0 y0 x1 y1))

theorem part (d n : Int) (k : Nat) (hn : 0 < n) (hk : (k : Int) ≤ n) : (0 ≤ d ∧ 0 ≤ near (k * d) n ∧ near (k * d) n ≤ d) ∨ (d ≤ 0 ∧ d ≤ near (k * d) n ∧ near (k * d) n ≤ 0) := by
  by_cases h : 0 ≤ d
  · left
    have a : 0 ≤ (k : Int) * d := Int.mul_nonneg (by omega) h
    have b : (k : Int) * d ≤ n * d := Int.mul_le_mul_of_nonneg_right hk h
    exact ⟨h, near_up _ _ _ hn a b⟩
  · right
    have a : (k : Int) * -d ≤ n * -d := Int.mul_le_mul_of_nonneg_right hk (by omega)
    have b : 0 ≤ (k : Int) * -d := Int.mul_nonneg (by omega) (by omega)
    rw [Int.mul_neg] at a b
    rw [Int.mul_neg] at a
    exact ⟨by omega, near_down _ _ _ hn (by omega) (by omega)⟩

theorem mul_bd (k : Nat) (d : Int) (hk : k ≤ 23) (h1 : -23 ≤ d) (h2 : d ≤ 23) : -1000 ≤ (k : Int) * d ∧ (k : Int) * d ≤ 1000 := by
  have a : (k : Int) * d ≤ (k : Int) * 23 := Int.mul_le_mul_of_nonneg_left h2 (by omega)
  have b : (k : Int) * (-23) ≤ (k : Int) * d := Int.mul_le_mul_of_nonneg_left h1 (by omega)
  omega

theorem ln_parts (x0 y0 x1 y1 : Int) (h0 : inB x0 y0 = true) (h1 : inB x1 y1 = true) (k : Nat) (hk : k ≤ span x0 y0 x1 y1) :
    ∃ x y : Int, ln x0 y0 x1 y1 k = y * 24 + x ∧ x = x0 + near (k * (x1 - x0)) (span x0 y0 x1 y1) ∧ y = y0 + near (k * (y1 - y0)) (span x0 y0 x1 y1) ∧ 0 ≤ x ∧ x < 24 ∧ 0 ≤ y ∧ y < 16 := by
  rw [inB_iff] at h0 h1
  refine ⟨_, _, rfl, rfl, rfl, ?_⟩
  by_cases hn : span x0 y0 x1 y1 = 0
  · obtain rfl : k = 0 := by omega
    rw [hn]
    have e : ∀ p, near p ((0 : Nat) : Int) = 0 := fun p => by simp [near]
    rw [e, e]
    omega
  · have hs : -(span x0 y0 x1 y1 : Int) ≤ x1 - x0 ∧ x1 - x0 ≤ span x0 y0 x1 y1 ∧ -(span x0 y0 x1 y1 : Int) ≤ y1 - y0 ∧ y1 - y0 ≤ span x0 y0 x1 y1 := by unfold span; omega
    have a := part (x1 - x0) (span x0 y0 x1 y1) k (by omega) (by omega)
    have b := part (y1 - y0) (span x0 y0 x1 y1) k (by omega) (by omega)
    omega

theorem span_bd (x0 y0 x1 y1 : Int) (h0 : inB x0 y0 = true) (h1 : inB x1 y1 = true) : span x0 y0 x1 y1 ≤ 23 := by
  rw [inB_iff] at h0 h1
  unfold span
  omega

theorem ln_bd (x0 y0 x1 y1 : Int) (h0 : inB x0 y0 = true) (h1 : inB x1 y1 = true) (k : Nat) (hk : k ≤ span x0 y0 x1 y1) : 0 ≤ ln x0 y0 x1 y1 k ∧ ln x0 y0 x1 y1 k < 384 := by
  obtain ⟨x, y, e, _, _, _, _, _, _⟩ := ln_parts x0 y0 x1 y1 h0 h1 k hk
  omega

theorem near_0 (n : Int) (hn : 0 ≤ n) : near 0 n = 0 := by
  by_cases h : n = 0
  · subst h; rfl
  · have := near_mul n 0 (by omega)
    rwa [Int.mul_zero] at this

theorem ln_first (x0 y0 x1 y1 : Int) : ln x0 y0 x1 y1 0 = y0 * 24 + x0 := by
  unfold ln
  rw [show ((0 : Nat) : Int) = 0 from rfl, Int.zero_mul, Int.zero_mul, near_0 _ (by omega)]
  omega

end Gr

end Go.Proofs.YtbanjoflgoiegaaGreat

namespace Go.Proofs.YtbanjoflgoiegaaGreat
open Go.RowKit

theorem line_none (x0 y0 x1 y1 : Int) (w : World) (h : Gr.inB x0 y0 = true → Gr.inB x1 y1 = false) :
    Calls Tryz.prog 222 #[.int .i64 x0, .int .i64 y0, .int .i64 x1, .int .i64 y1] w fun e w' => e = .returned (.slice none 0 0) ∧ w' = w := by
  by_cases h0 : Gr.inB x0 y0 = true
  · have h1 := h h0
    clear h
    go_enter Tryz.func222, Tryz.ntmps222
    go_wp2_with (go_at_call 152; refine (isCell_any _ _ _).mono ?_; rintro e w' ⟨rfl, rfl⟩)
    go_ret
    exact ⟨rfl, rfl⟩
  · have h0' : Gr.inB x0 y0 = false := by simpa using h0
    clear h h0
    go_enter Tryz.func222, Tryz.ntmps222
    go_wp2_with (go_at_call 152; refine (isCell_any _ _ _).mono ?_; rintro e w' ⟨rfl, rfl⟩)
    go_ret
    exact ⟨rfl, rfl⟩

theorem max4 (ts : Array TypeId) (t : TypeId) (a b c d n : Int) (w : World) (h : max (max a b) (max c d) = n) :
    (Builtin.max_ ts t #[.int .i64 a, .int .i64 b, .int .i64 c, .int .i64 d]).run Tryz.prog w = .ok (.int .i64 n) w := by
  have e : (Builtin.max_ ts t #[.int .i64 a, .int .i64 b, .int .i64 c, .int .i64 d]).run Tryz.prog w = .ok (.int .i64 (if d > (if c > (if b > a then b else a) then c else (if b > a then b else a)) then d else (if c > (if b > a then b else a) then c else (if b > a then b else a)))) w := by
    simp [Builtin.max_, Builtin.max2]
  rw [e]
  congr 2
  omega

set_option maxRecDepth 4000 in
set_option maxHeartbeats 800000 in
theorem line_some (x0 y0 x1 y1 : Int) (w : World) (h0 : Gr.inB x0 y0 = true) (h1 : Gr.inB x1 y1 = true) :
    Calls Tryz.prog 222 #[.int .i64 x0, .int .i64 y0, .int .i64 x1, .int .i64 y1] w
      (Gives w (Gr.span x0 y0 x1 y1 + 1) (Ints (Gr.ln x0 y0 x1 y1))) := by
  have hn23 := Gr.span_bd x0 y0 x1 y1 h0 h1
  obtain ⟨b1, b2, b3, b4⟩ := (Gr.inB_iff x0 y0).1 h0
  obtain ⟨b5, b6, b7, b8⟩ := (Gr.inB_iff x1 y1).1 h1
  obtain ⟨n, hn⟩ : ∃ n : Nat, n = Gr.span x0 y0 x1 y1 := ⟨_, rfl⟩
  obtain ⟨dx, hdx⟩ : ∃ d : Int, x1 - x0 = d := ⟨_, rfl⟩
  obtain ⟨dy, hdy⟩ : ∃ d : Int, y1 - y0 = d := ⟨_, rfl⟩
  have hmx : ∀ ts t w, (Builtin.max_ ts t #[.int .i64 dx, .int .i64 (-dx), .int .i64 dy, .int .i64 (-dy)]).run Tryz.prog w = .ok (.int .i64 (n : Int)) w := by
    intro ts t w
    refine max4 ts t _ _ _ _ _ w ?_
    rw [hn]; unfold Gr.span; omega
  have hn' := hide hn
  have d1 : -23 ≤ dx := by omega
  have d2 : dx ≤ 23 := by omega
  have d3 : -23 ≤ dy := by omega
  have d4 : dy ≤ 23 := by omega
  obtain ⟨i0, hi, hz0, hz1, hz2⟩ := info_parts info_int
  rw [← hn] at hn23 ⊢
  clear hn
  by_cases hz : n = 0
  · subst hz
    go_enter Tryz.func222, Tryz.ntmps222
    go_wp2_with (first | (go_at_call 152; refine (isCell_any _ _ _).mono ?_; rintro e w' ⟨rfl, hw⟩; subst w') | (go_at_call 153; refine (number_any _ _ _ (by omega) (by omega) (by omega) (by omega)).mono ?_; rintro e w' ⟨rfl, hw⟩; subst w'))
    go_ret
    have hf := hide (Gr.ln_first x0 y0 x1 y1)
    refine ⟨_, _, rfl, ⟨by decide, .inr ⟨_, _, rfl, by simp, ?_⟩⟩, by omega, (Below.refl _ _).alloc (Nat.le_refl _) _⟩
    intro i hi1
    obtain rfl : i = 0 := by omega
    show _ = some (Value.int .i64 (Gr.ln x0 y0 x1 y1 0))
    rw [unhide hf]
    simp
  · have hz' : ((n : Int) == 0) = false := by simp; omega
    go_enter Tryz.func222, Tryz.ntmps222
    go_wp2_with (first | (go_at_call 152; refine (isCell_any _ _ _).mono ?_; rintro e w' ⟨rfl, hw⟩; subst w') | (at_make; refine wpList_make_full _ rfl _ _ 38 rfl w.heap.size 3 i0 (.int .i64 0) 1 Tryz.underlying38 hi hz0 hz1 .i64 .i64 _ _ (n + 1) rfl rfl ?q1 ?q2 ?q3 ?q4 (Nat.le_refl _) ?_))
    case q1 => omega
    case q2 => omega
    case q3 => rw [hz2]; omega
    case q4 => unfold maxLen; omega
    intro w2 hown hgrow
    have hA := hide (Arr.zero hown)
    have hB : Below w.heap.size w w2 := (Below.refl _ _).grown hgrow (Nat.le_refl _) (by intro k hk; cases hk)
    clear hown hgrow hi hz0 hz1 hz2 hmx
    obtain ⟨G, hG⟩ : ∃ G, G = w.heap.size := ⟨_, rfl⟩
    rw [← hG] at hA hB ⊢
    have hG' := hide hG
    clear hG
    go_wp2_with fail
    go_loopw [48] (fun i wr => ∃ k : Nat, k ≤ n + 1 ∧ i = .int .i64 k ∧ Arr wr G 3 (n + 1) (fun j => .int .i64 (if j < k then Gr.ln x0 y0 x1 y1 j else 0)) ∧ Below G w wr) (fun i _ => n + 1 - (intOf i).toNat)
    case atStart => exact ⟨0, Nat.zero_le _, rfl, (unhide hA).congr fun j _ => by rw [if_neg (Nat.not_lt_zero _)], hB⟩
    case round =>
      obtain ⟨k, hk, rfl, hA1, hB1⟩ := hrel
      have hA2 := hide hA1
      clear hA1 hA hB
      by_cases hlt : k < n + 1
      · obtain ⟨X, Y, eln, eX, eY, c1, c2, c3, c4⟩ := Gr.ln_parts x0 y0 x1 y1 h0 h1 k (by have := unhide hn'; omega)
        rw [hdx, ← unhide hn'] at eX
        rw [hdy, ← unhide hn'] at eY
        subst eX
        subst eY
        have eln' := hide eln
        clear eln
        obtain ⟨m1, m2⟩ := Gr.mul_bd k dx (by omega) d1 d2
        obtain ⟨m3, m4⟩ := Gr.mul_bd k dy (by omega) d3 d4
        have hc := (unhide hA2).cell hlt
        have hf := (unhide hA2).free k
        have hlt' : (k : Int) < (n : Int) + 1 := by omega
        go_wp2_with (first | (go_at_call 225; refine (nearest_any _ _ _ (by omega) (by omega) (by omega) (by omega)).mono ?_; rintro e w' ⟨rfl, hw⟩; subst w') | (go_at_call 153; refine (number_any _ _ _ (by omega) (by omega) (by omega) (by omega)).mono ?_; rintro e w' ⟨rfl, hw⟩; subst w'))
        go_roundw
        case rel => exact ⟨k + 1, by omega, by go_num, ((unhide hA2).store k _).congr fun j _ => fill_more (unhide eln').symm j, hB1.setCell (Nat.le_refl _) _⟩
        case measure => simp [intOf]; omega
      · have hge : ¬ (k : Int) < (n : Int) + 1 := by omega
        have hk1 : k = n + 1 := by omega
        have hA3 := hide ((unhide hA2).congr (G := Ints (Gr.ln x0 y0 x1 y1)) fun j hj => by rw [if_pos (by omega)]; rfl)
        clear hk1 hA2
        go_wp2
        go_ret
        exact ⟨_, _, rfl, (unhide hA3).vec _ (unhide hA3).lt (by unfold maxLen; omega), Nat.le_refl _, by rw [← unhide hG']; exact hB1⟩

section
attribute [-go_sem] run_max_int2

end

end Go.Proofs.YtbanjoflgoiegaaGreat

namespace Go.Proofs.YtbanjoflgoiegaaGreat
open Go.RowKit

def Gr.kind (len : Nat) (f : Nat → Int) (c : Int) : Int := if 0 ≤ c ∧ c < 384 ∧ c.toNat < len then f c.toNat else 0

theorem Gr.kind_at (len : Nat) (f : Nat → Int) (c : Int) (h : 0 ≤ c) : Gr.at len f (c % 24) (c / 24) = Gr.kind len f c := by
  have e : c / 24 * 24 + c % 24 = c := by omega
  have hi := Gr.inB_iff (c % 24) (c / 24)
  unfold Gr.at Gr.kind
  rw [e]
  by_cases hc : c < 384 ∧ c.toNat < len
  · rw [if_pos ⟨hi.2 (by omega), hc.2⟩, if_pos ⟨h, hc⟩]
  · rw [if_neg (fun hh => hc ⟨by have := hi.1 hh.1; omega, hh.2⟩), if_neg (by omega)]

theorem Gr.tdiv_low (c : Int) (h : c < 0) (hb : -9223372036854775808 ≤ c) : -9223372036854775808 ≤ c.tdiv 24 ∧ c.tdiv 24 ≤ 0 ∧ -24 ≤ c.tmod 24 ∧ c.tmod 24 ≤ 0 ∧ 24 * c.tdiv 24 + c.tmod 24 = c := by
  have h1 := Int.mul_tdiv_add_tmod c 24
  have h2 := Int.lt_tmod_of_pos c (b := 24) (by omega)
  have h3 : c.tmod 24 ≤ 0 := by
    have := Int.tmod_nonneg (a := -c) 24 (by omega)
    rw [Int.neg_tmod] at this
    omega
  omega

theorem Gr.kind_at_low (len : Nat) (f : Nat → Int) (c : Int) (h : c < 0) (hb : -9223372036854775808 ≤ c) : Gr.at len f (c.tmod 24) (c.tdiv 24) = Gr.kind len f c := by
  obtain ⟨_, h1, _, h2, h3⟩ := Gr.tdiv_low c h hb
  have hi := Gr.inB_iff (c.tmod 24) (c.tdiv 24)
  unfold Gr.at Gr.kind
  rw [if_neg (fun hh => by have := hi.1 hh.1; omega), if_neg (by omega)]

set_option maxHeartbeats 400000 in
theorem kindOf_any (B : Nat) (a : Option Addr) (len cap : Nat) (f : Nat → Int) (c : Int) (w : World) (h : Vec B w a len (Byts f)) (hf : ∀ i, 0 ≤ f i ∧ f i ≤ 255) (hb : -9223372036854775808 ≤ c) (hb2 : c ≤ 9223372036854775807) :
    Calls Tryz.prog 176 #[.slice a len cap, .int .i64 c] w fun e w' => e = .returned (.int .i64 (Gr.kind len f c)) ∧ w' = w := by
  have hv := hide h
  have hf' := hide hf
  clear h hf
  by_cases hc : 0 ≤ c
  · have hd := hide (Gr.kind_at len f c hc)
    go_enter Tryz.func176, Tryz.ntmps176
    go_wp2_with fail
    refine (at_any B _ _ _ _ _ _ _ (unhide hv) (unhide hf')).mono ?_
    rintro e w' ⟨rfl, rfl⟩
    go_wp2
    go_ret
    exact ⟨ret_int (unhide hd), rfl⟩
  · have hd := hide (Gr.kind_at_low len f c (by omega) hb)
    obtain ⟨b1, b2, _, _, _⟩ := Gr.tdiv_low c (by omega) hb
    go_enter Tryz.func176, Tryz.ntmps176
    go_wp2_with fail
    refine (at_any B _ _ _ _ _ _ _ (unhide hv) (unhide hf')).mono ?_
    rintro e w' ⟨rfl, rfl⟩
    go_wp2
    go_ret
    exact ⟨ret_int (unhide hd), rfl⟩

theorem slice_bytes (a : Option Addr) (len cap k : Nat) (w : World) (hk : k ≤ cap) :
    (Instr.slice 25 (.slice a len cap) none (some (.int .i64 (k : Int))) none).run Tryz.prog w = .ok (.slice a k cap) w := by
  have hs : (sizeOf (Tryz.prog.elem 25)).run Tryz.prog w = .ok 1 w := by kernel_rfl
  rw [run_slice_h w 25 a len cap (by kernel_rfl) .i64 (k : Int) (by omega) (by omega), hs]
  have e : a.map (fun x => x.add (0 * 1)) = a := by
    cases a with
    | none => rfl
    | some x => simp [Addr.add]
  simp only [Result.andThen, sliced, e, Int.toNat_natCast, Nat.sub_zero, ite_self]

def Gr.find (len : Nat) (f : Nat → Int) (kind : Int) : Int := Gr.findFrom f kind (min len 384) 0

theorem Gr.find_on (f : Nat → Int) (kind : Int) (n k : Nat) (hk : k < n) : Gr.findFrom f kind (n - k) k = if f k = kind then (k : Int) else Gr.findFrom f kind (n - (k + 1)) (k + 1) := by
  obtain ⟨m, hm⟩ : ∃ m, n - k = m + 1 := ⟨n - k - 1, by omega⟩
  rw [hm, show n - (k + 1) = m by omega]
  rfl

theorem Gr.find_off (f : Nat → Int) (kind : Int) (n : Nat) : Gr.findFrom f kind (n - n) n = -1 := by
  rw [Nat.sub_self]; rfl

set_option maxHeartbeats 800000 in
theorem find_any (B : Nat) (a : Option Addr) (len cap : Nat) (f : Nat → Int) (kind : Int) (w : World) (h : Vec B w a len (Byts f)) (hf : ∀ i, 0 ≤ f i ∧ f i ≤ 255) (hcap : len ≤ cap) :
    Calls Tryz.prog 78 #[.slice a len cap, .int .i64 kind] w fun e w' => e = .returned (.int .i64 (Gr.find len f kind)) ∧ w' = w := by
  have hm : len ≤ 9223372036854775807 := h.1
  have hf' := hide hf
  clear hf
  by_cases hl : len ≤ 384
  · have hsl := fun wx => slice_bytes a len cap len wx hcap
    have hv := hide h
    have hR : Hid (Gr.find len f kind = Gr.findFrom f kind (len - 0) 0) := by
      show Gr.find len f kind = _
      unfold Gr.find
      rw [show min len 384 = len - 0 by omega]
    have hl' : (len : Int) ≤ 384 := by omega
    clear h
    go_enter Tryz.func78, Tryz.ntmps78
    go_wp2_with fail
    go_loop [13] (fun i => ∃ k : Nat, k ≤ len ∧ i = .int .i64 k ∧ Gr.findFrom f kind (len - k) k = Gr.find len f kind) (fun i => len - (intOf i).toNat)
    case atStart => exact ⟨0, Nat.zero_le _, rfl, (unhide hR).symm⟩
    case round =>
      obtain ⟨k, hk, rfl, hr⟩ := hrel
      have hrr := hide hr
      clear hr
      by_cases hlt : k < len
      · obtain ⟨b, off, rfl, _, hc⟩ := (unhide hv).at hlt
        have hc' : w.cell? ⟨b, off + k, none⟩ = some (.int .u8 (f k)) := hc
        obtain ⟨f1, f2⟩ := (unhide hf') k
        clear hc
        have hlt' : (k : Int) < (len : Int) := by omega
        have hon := hide (Gr.find_on f kind len k hlt)
        by_cases he : f k = kind
        · have he' : (f k == kind) = true := by simpa using he
          have hH := hide he
          clear he
          go_wp2
          go_ret
          refine ⟨ret_int ?_, rfl⟩
          rw [← unhide hrr, unhide hon, if_pos (unhide hH)]
        · have he' : (f k == kind) = false := by simpa using he
          go_wp2
          go_round
          case rel =>
            refine ⟨k + 1, by omega, by go_num, ?_⟩
            rw [← unhide hrr, unhide hon, if_neg he]
          case measure => simp [intOf]; omega
      · have hge : (len : Int) ≤ (k : Int) := by omega
        go_wp2
        go_ret
        refine ⟨ret_int ?_, rfl⟩
        rw [← unhide hrr]
        obtain rfl : k = len := by omega
        exact (Gr.find_off f kind _).symm
  · have hsl : ∀ wx, (Instr.slice 25 (.slice a len cap) none (some (.int .i64 384)) none).run Tryz.prog wx = .ok (.slice a 384 cap) wx := fun wx => slice_bytes a len cap 384 wx (by omega)
    have hv := hide (h.taken 384 (by omega))
    have hR : Hid (Gr.find len f kind = Gr.findFrom f kind (384 - 0) 0) := by
      show Gr.find len f kind = _
      unfold Gr.find
      rw [show min len 384 = 384 - 0 by omega]
    have hl' : ¬ (len : Int) ≤ 384 := by omega
    clear h
    go_enter Tryz.func78, Tryz.ntmps78
    go_wp2_with fail
    go_loop [13] (fun i => ∃ k : Nat, k ≤ 384 ∧ i = .int .i64 k ∧ Gr.findFrom f kind (384 - k) k = Gr.find len f kind) (fun i => 384 - (intOf i).toNat)
    case atStart => exact ⟨0, Nat.zero_le _, rfl, (unhide hR).symm⟩
    case round =>
      obtain ⟨k, hk, rfl, hr⟩ := hrel
      have hrr := hide hr
      clear hr
      by_cases hlt : k < 384
      · obtain ⟨b, off, rfl, _, hc⟩ := (unhide hv).at hlt
        have hc' : w.cell? ⟨b, off + k, none⟩ = some (.int .u8 (f k)) := hc
        obtain ⟨f1, f2⟩ := (unhide hf') k
        clear hc
        have hlt' : (k : Int) < (384 : Int) := by omega
        have hon := hide (Gr.find_on f kind 384 k hlt)
        by_cases he : f k = kind
        · have he' : (f k == kind) = true := by simpa using he
          have hH := hide he
          clear he
          go_wp2
          go_ret
          refine ⟨ret_int ?_, rfl⟩
          rw [← unhide hrr, unhide hon, if_pos (unhide hH)]
        · have he' : (f k == kind) = false := by simpa using he
          go_wp2
          go_round
          case rel =>
            refine ⟨k + 1, by omega, by go_num, ?_⟩
            rw [← unhide hrr, unhide hon, if_neg he]
          case measure => simp [intOf]; omega
      · have hk3 : k = 384 := by omega
        have hfin : Hid (Gr.find len f kind = -1) := by
          show Gr.find len f kind = -1
          rw [← unhide hrr, hk3]
          exact Gr.find_off f kind 384
        have hge : ¬ (k : Int) < 384 := by omega
        clear hk3 hk hlt hrr hR
        go_wp2
        go_ret
        exact ⟨ret_int (unhide hfin).symm, rfl⟩

set_option maxHeartbeats 800000 in
theorem refFind_any (B : Nat) (a : Option Addr) (len cap : Nat) (f : Nat → Int) (kind : Int) (w : World) (h : Vec B w a len (Byts f)) (hf : ∀ i, 0 ≤ f i ∧ f i ≤ 255) :
    Calls Tryz.prog 23 #[.slice a len cap, .int .i64 kind] w fun e w' => e = .returned (.int .i64 (Gr.find len f kind)) ∧ w' = w := by
  have hm : len ≤ 9223372036854775807 := h.1
  have hf' := hide hf
  have hv := hide h
  obtain ⟨n, hn⟩ : ∃ n : Nat, n = min len 384 := ⟨_, rfl⟩
  have hR : Hid (Gr.find len f kind = Gr.findFrom f kind (n - 0) 0) := by
    show Gr.find len f kind = _
    unfold Gr.find
    rw [hn]
    rfl
  have hn1 : n ≤ len := by omega
  have hn2 : n ≤ 384 := by omega
  have hn3 : ¬ n < len → n = len := by omega
  have hN := hide hn
  clear hf h hn
  go_enter Tryz.func23, Tryz.ntmps23
  go_wp2_with fail
  go_loop [5] (fun i => ∃ k : Nat, k ≤ n ∧ i = .int .i64 k ∧ Gr.findFrom f kind (n - k) k = Gr.find len f kind) (fun i => n - (intOf i).toNat)
  case atStart => exact ⟨0, Nat.zero_le _, rfl, (unhide hR).symm⟩
  case round =>
    obtain ⟨k, hk, rfl, hr⟩ := hrel
    have hrr := hide hr
    clear hr hn3
    by_cases hlt : k < n
    · obtain ⟨b, off, rfl, _, hc⟩ := ((unhide hv).taken n hn1).at hlt
      have hc' : w.cell? ⟨b, off + k, none⟩ = some (.int .u8 (f k)) := hc
      obtain ⟨f1, f2⟩ := (unhide hf') k
      clear hc
      have hlt' : (k : Int) < (len : Int) := by omega
      have hlt2 : (k : Int) < 384 := by omega
      have hon := hide (Gr.find_on f kind n k hlt)
      by_cases he : f k = kind
      · have he' : (f k == kind) = true := by simpa using he
        have hH := hide he
        clear he
        go_wp2
        go_ret
        refine ⟨ret_int ?_, rfl⟩
        rw [← unhide hrr, unhide hon, if_pos (unhide hH)]
      · have he' : (f k == kind) = false := by simpa using he
        go_wp2
        go_round
        case rel =>
          refine ⟨k + 1, by omega, by go_num, ?_⟩
          rw [← unhide hrr, unhide hon, if_neg he]
        case measure => simp [intOf]; omega
    · have hkn : k = n := by omega
      have hfin : Hid (Gr.find len f kind = -1) := by
        show Gr.find len f kind = -1
        rw [← unhide hrr, hkn]
        exact Gr.find_off f kind n
      by_cases hkl : (k : Int) < (len : Int)
      · have hk3 : ¬ (k : Int) < 384 := by have := unhide hN; omega
        clear hkn
        go_wp2
        go_ret
        exact ⟨ret_int (unhide hfin).symm, rfl⟩
      · clear hkn
        go_wp2
        go_ret
        exact ⟨ret_int (unhide hfin).symm, rfl⟩

end Go.Proofs.YtbanjoflgoiegaaGreat

namespace Go.Proofs.YtbanjoflgoiegaaGreat
open Go.RowKit

theorem Gr.within_neg (a n : Int) (hn : 0 < n) (h : a.tmod n < 0) : a.tmod n + n = a % n := by
  have := Int.emod_nonneg a (b := n) (by omega)
  have := Int.emod_lt_of_pos a hn
  have e := Int.emod_eq_tmod (a := a) (b := n)
  by_cases hc : 0 ≤ a ∨ n ∣ a
  · rw [if_pos hc] at e; omega
  · rw [if_neg hc] at e; omega

theorem Gr.within_pos (a n : Int) (hn : 0 < n) (h : ¬ a.tmod n < 0) : a.tmod n = a % n := by
  have := Int.emod_lt_of_pos a hn
  have e := Int.emod_eq_tmod (a := a) (b := n)
  by_cases hc : 0 ≤ a ∨ n ∣ a
  · rw [if_pos hc] at e; omega
  · rw [if_neg hc] at e; omega

def Made (w : World) (T : TypeId) (n : Nat) (F : Nat → Value) (e : Ending) (w' : World) : Prop :=
  ∃ g, e = .returned (.slice (some ⟨g, 0, none⟩) n n) ∧ w.heap.size ≤ g ∧ Arr w' g T n F ∧ Below w.heap.size w w'

theorem info_byte : (Tryz.prog.info? 5).map (fun i => (i.zero, i.size, i.bytes)) = some (some (.int .u8 0), 1, 1) := by kernel_rfl

def Gr.Sees (len : Nat) (f : Nat → Int) (x0 y0 x1 y1 : Int) : Prop :=
  Gr.inB x0 y0 = true ∧ Gr.inB x1 y1 = true ∧ ∀ k, 0 < k → k < Gr.span x0 y0 x1 y1 → Gr.clearB (Gr.kind len f (Gr.ln x0 y0 x1 y1 k)) = true

def Tells (w : World) (p : Prop) (e : Ending) (w' : World) : Prop := ∃ b, e = .returned (.bool b) ∧ (b = true ↔ p) ∧ Below w.heap.size w w'

theorem Gr.sees_no {len : Nat} {f : Nat → Int} {x0 y0 x1 y1 : Int} (h : Gr.inB x0 y0 = true → Gr.inB x1 y1 = false) : ¬ Gr.Sees len f x0 y0 x1 y1 := by
  rintro ⟨h0, h1, _⟩
  rw [h h0] at h1
  cases h1

set_option maxHeartbeats 800000 in
theorem sees_any (a : Option Addr) (len cap : Nat) (f : Nat → Int) (x0 y0 x1 y1 : Int) (w : World) (h : Vec w.heap.size w a len (Byts f)) (hf : ∀ i, 0 ≤ f i ∧ f i ≤ 255) :
    Calls Tryz.prog 216 #[.slice a len cap, .int .i64 x0, .int .i64 y0, .int .i64 x1, .int .i64 y1] w (Tells w (Gr.Sees len f x0 y0 x1 y1)) := by
  have hv := hide h
  have hf' := hide hf
  clear h hf
  by_cases hin : Gr.inB x0 y0 = true ∧ Gr.inB x1 y1 = true
  · obtain ⟨h0, h1⟩ := hin
    have hn23 := Gr.span_bd x0 y0 x1 y1 h0 h1
    go_enter Tryz.func216, Tryz.ntmps216
    go_wp2_with fail
    refine (line_some _ _ _ _ _ h0 h1).mono ?_
    rintro e w1 ⟨a1, cap1, rfl, hv1, _, hb1⟩
    have hl := hide hv1
    have hv2 := hide ((unhide hv).kept hb1)
    obtain ⟨n, hn⟩ : ∃ n : Nat, n = Gr.span x0 y0 x1 y1 := ⟨_, rfl⟩
    rw [← hn] at hn23 hl ⊢
    have hn' := hide hn
    have hz : ((n : Int) + 1 == 0) = false := by simp; omega
    clear hv hv1 hn
    go_wp2_with fail
    go_loop [12] (fun i => ∃ k : Nat, 1 ≤ k ∧ k ≤ n + 1 ∧ i = .int .i64 k ∧ ∀ j, 0 < j → j < k → j < n → Gr.clearB (Gr.kind len f (Gr.ln x0 y0 x1 y1 j)) = true) (fun i => n + 1 - (intOf i).toNat)
    case atStart => exact ⟨1, by omega, by omega, rfl, fun j h1 h2 _ => by omega⟩
    case round =>
      obtain ⟨k, hk0, hk, rfl, hall⟩ := hrel
      have hall' := hide hall
      clear hall
      by_cases hlt : k < n
      · obtain ⟨b, off, rfl, _, hc⟩ := (unhide hl).at (k := k) (by omega)
        have hc' : w1.cell? ⟨b, off + k, none⟩ = some (.int .i64 (Gr.ln x0 y0 x1 y1 k)) := hc
        obtain ⟨l1, l2⟩ := Gr.ln_bd x0 y0 x1 y1 h0 h1 k (by have := unhide hn'; omega)
        clear hc
        have hlt' : (k : Int) < (n : Int) := by omega
        by_cases hcl : Gr.clearB (Gr.kind len f (Gr.ln x0 y0 x1 y1 k)) = true
        · go_wp2_with (first | (go_at_call 176; refine (kindOf_any _ _ _ _ f _ _ (unhide hv2) (unhide hf') (by omega) (by omega)).mono ?_; rintro e w' ⟨rfl, hw⟩; subst w') | (go_at_call 223; refine (clear_any _ _).mono ?_; rintro e w' ⟨rfl, hw⟩; subst w'))
          go_round
          case rel =>
            refine ⟨k + 1, by omega, by omega, by go_num, fun j g1 g2 g3 => ?_⟩
            by_cases hjk : j = k
            · rw [hjk]; exact hcl
            · exact (unhide hall') j g1 (by omega) g3
          case measure => simp [intOf]; omega
        · have hcl' : Gr.clearB (Gr.kind len f (Gr.ln x0 y0 x1 y1 k)) = false := by simpa using hcl
          have hno : Hid (¬ Gr.Sees len f x0 y0 x1 y1) := by
            show ¬ Gr.Sees len f x0 y0 x1 y1
            rintro ⟨_, _, h⟩
            exact hcl (h k (by omega) (by have := unhide hn'; omega))
          clear hcl
          go_wp2_with (first | (go_at_call 176; refine (kindOf_any _ _ _ _ f _ _ (unhide hv2) (unhide hf') (by omega) (by omega)).mono ?_; rintro e w' ⟨rfl, hw⟩; subst w') | (go_at_call 223; refine (clear_any _ _).mono ?_; rintro e w' ⟨rfl, hw⟩; subst w'))
          go_ret
          exact ⟨false, rfl, ⟨fun h => (by cases h), fun h => absurd h (unhide hno)⟩, hb1⟩
      · have hge : ¬ (k : Int) < (n : Int) := by omega
        have hyes : Hid (Gr.Sees len f x0 y0 x1 y1) := ⟨h0, h1, fun j g1 g2 => (unhide hall') j g1 (by have := unhide hn'; omega) (by have := unhide hn'; omega)⟩
        go_wp2
        go_ret
        exact ⟨true, rfl, ⟨fun _ => unhide hyes, fun _ => rfl⟩, hb1⟩
  · have hno : Gr.inB x0 y0 = true → Gr.inB x1 y1 = false := fun h0 => by simpa using fun h1 => hin ⟨h0, h1⟩
    have hns := hide (Gr.sees_no (len := len) (f := f) hno)
    clear hin
    go_enter Tryz.func216, Tryz.ntmps216
    go_wp2_with fail
    refine (line_none _ _ _ _ _ hno).mono ?_
    rintro e w' ⟨rfl, hw⟩
    subst w'
    go_wp2
    go_ret
    exact ⟨false, rfl, ⟨fun h => (by cases h), fun h => absurd h (unhide hns)⟩, Below.refl _ _⟩

end Go.Proofs.YtbanjoflgoiegaaGreat
