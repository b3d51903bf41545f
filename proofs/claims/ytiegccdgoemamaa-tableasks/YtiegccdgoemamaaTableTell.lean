/-
  What a table tells: How, Counts, Open, both packages.
-/
import Derived.Test.YtiegccdgoemamaaTableStand
namespace Go.Proofs.Ytiegccdgoemamaa
open Go.RowKit

theorem Tb.stand_six (E : Nat → Nat → Int) (n : Nat) (s f : Int) : Tb.stand E n s f = 0 ∨ Tb.stand E n s f = 1 ∨ Tb.stand E n s f = 2 ∨ Tb.stand E n s f = 3 ∨ Tb.stand E n s f = 4 ∨ Tb.stand E n s f = 5 := by
  unfold Tb.stand
  repeat' split
  all_goals omega

/-- How a seat is moved, whether its hero comes; by how it stands. -/
def Tb.how (t : Int) : Int × Bool := if t = 2 then (2, true) else if t = 5 then (2, false) else if t = 1 then (0, true) else if t = 3 ∨ t = 4 then (1, false) else (0, false)

set_option maxHeartbeats 3200000 in
theorem tbHow_any (a : Option Addr) (n c : Nat) (E : Nat → Nat → Int) (s f : Int) (w : World) (h : Tb.Rows w a n E) (hn : n ≤ c) (hc : c ≤ maxLen) :
    Calls Try.prog 24 #[.slice a n c, .int .i64 s, .int .i64 f] w (Says w (.tuple #[.int .i64 (Tb.how (Tb.stand E n s f)).1, .bool (Tb.how (Tb.stand E n s f)).2])) := by
  have cl := hide (tbStand_any a n c E s f w h hn hc)
  clear h hn hc
  rcases Tb.stand_six E n s f with h | h | h | h | h | h
  all_goals
    rw [h] at cl ⊢
    clear h
    go_enter Try.func24, Try.ntmps24
    go_wp2_with fail
    refine (unhide cl).mono ?_
    rintro e w' ⟨rfl, hw⟩
    have HW := hide hw
    clear hw cl
    go_wp2
    go_ret2
    exact ⟨rfl, unhide HW⟩

theorem tbCounts_any (a : Option Addr) (n c : Nat) (E : Nat → Nat → Int) (s f : Int) (w : World) (h : Tb.Rows w a n E) (hn : n ≤ c) (hc : c ≤ maxLen) :
    Calls Try.prog 26 #[.slice a n c, .int .i64 s, .int .i64 f] w (Says w (.bool (Tb.stand E n s f == 3))) := by
  have cl := hide (tbStand_any a n c E s f w h hn hc)
  clear h hn hc
  go_enter Try.func26, Try.ntmps26
  go_wp2_with fail
  refine (unhide cl).mono ?_
  rintro e w' ⟨rfl, hw⟩
  have HW := hide hw
  clear hw cl
  go_wp2
  go_ret
  exact ⟨rfl, unhide HW⟩

/-- The lowest seat that can be taken. -/
def Tb.opens (E : Nat → Nat → Int) (n : Nat) (f : Int) : Int := if Tb.free E n 1 f = true then 1 else if Tb.free E n 2 f = true then 2 else if Tb.free E n 3 f = true then 3 else -1

theorem Tb.opens_hit {E : Nat → Nat → Int} {n : Nat} {f : Int} {k : Nat} (h0 : 1 ≤ k) (h1 : k ≤ 3) (hno : ∀ j : Nat, 1 ≤ j → j < k → Tb.free E n (j : Int) f = false) (h : Tb.free E n (k : Int) f = true) : Tb.opens E n f = (k : Int) := by
  unfold Tb.opens
  rcases (show k = 1 ∨ k = 2 ∨ k = 3 by omega) with rfl | rfl | rfl
  · have h' : Tb.free E n 1 f = true := h
    rw [if_pos h']; rfl
  · have e1 : Tb.free E n 1 f = false := hno 1 (by omega) (by omega)
    have h' : Tb.free E n 2 f = true := h
    rw [if_neg (by rw [e1]; decide), if_pos h']; rfl
  · have e1 : Tb.free E n 1 f = false := hno 1 (by omega) (by omega)
    have e2 : Tb.free E n 2 f = false := hno 2 (by omega) (by omega)
    have h' : Tb.free E n 3 f = true := h
    rw [if_neg (by rw [e1]; decide), if_neg (by rw [e2]; decide), if_pos h']; rfl

theorem Tb.opens_none {E : Nat → Nat → Int} {n : Nat} {f : Int} (hno : ∀ j : Nat, 1 ≤ j → j < 4 → Tb.free E n (j : Int) f = false) : Tb.opens E n f = -1 := by
  unfold Tb.opens
  have e1 : Tb.free E n 1 f = false := hno 1 (by omega) (by omega)
  have e2 : Tb.free E n 2 f = false := hno 2 (by omega) (by omega)
  have e3 : Tb.free E n 3 f = false := hno 3 (by omega) (by omega)
  rw [if_neg (by rw [e1]; decide), if_neg (by rw [e2]; decide), if_neg (by rw [e3]; decide)]

set_option maxHeartbeats 3200000 in
theorem tbOpens_any (a : Option Addr) (n c : Nat) (E : Nat → Nat → Int) (f : Int) (w : World) (h : Tb.Rows w a n E) (hn : n ≤ maxLen) :
    Calls Try.prog 28 #[.slice a n c, .int .i64 f] w (Says w (.int .i64 (Tb.opens E n f))) := by
  have cf := hide fun (s : Int) (x : World) (hg : w.grownBy x none) => tbFree_any a n c E s f x (h.on hg) hn
  obtain ⟨r, hr⟩ : ∃ r, Tb.opens E n f = r := ⟨_, rfl⟩
  have HR := hide hr
  rw [hr]
  clear h hn hr
  go_enter Try.func28, Try.ntmps28
  go_wp2_with fail
  go_loopw [6] (fun vi wr => ∃ k : Nat, k ≤ 4 ∧ vi = .int .i64 (k : Int) ∧ Hid (w.grownBy wr none ∧ ∀ j : Nat, 1 ≤ j → j < k → Tb.free E n (j : Int) f = false)) (fun vi _ => 5 - (intOf vi).toNat)
  case atStart => exact ⟨0, by omega, rfl, World.grownBy.refl _ _, fun j h1 h2 => by omega⟩
  case round =>
    obtain ⟨k, hk, rfl, hno⟩ := hrel
    by_cases hlt : k < 4
    · have hlt' : (k : Int) < 4 := by omega
      have HK := hide hlt
      by_cases h0 : k = 0
      · subst h0
        clear hk hlt hlt'
        go_wp2
        go_roundw
        case rel => exact ⟨1, by omega, by go_num, (unhide hno).1, fun j h1 h2 => by omega⟩
        case measure => simp [intOf]
      · have h0' : ((k : Int) == 0) = false := by simp; omega
        have H0 := hide h0
        cases hfr : Tb.free E n (k : Int) f with
        | true =>
          have HA := hide ((Tb.opens_hit (by omega) (by omega) (unhide hno).2 hfr).symm.trans (unhide HR))
          have c1 := hide (unhide cf (k : Int) wr (unhide hno).1)
          rw [hfr] at c1
          clear hk hlt h0 hfr
          go_wp2_with fail
          refine (unhide c1).mono ?_
          rintro e x ⟨rfl, hx⟩
          have HX := hide (grown_trans (unhide hno).1 hx)
          clear hx
          go_wp2
          go_ret
          exact ⟨ret_int (unhide HA), unhide HX⟩
        | false =>
          have HA := hide (show ∀ j : Nat, 1 ≤ j → j < k + 1 → Tb.free E n (j : Int) f = false from fun j h1 h2 => by
            by_cases e : j = k
            · rw [e]; exact hfr
            · exact (unhide hno).2 j h1 (by omega))
          have c1 := hide (unhide cf (k : Int) wr (unhide hno).1)
          rw [hfr] at c1
          clear hk hlt h0 hfr
          go_wp2_with fail
          refine (unhide c1).mono ?_
          rintro e x ⟨rfl, hx⟩
          have HX := hide (grown_trans (unhide hno).1 hx)
          clear hx
          go_wp2
          go_roundw
          case rel => exact ⟨k + 1, by have := unhide HK; omega, by go_num, unhide HX, unhide HA⟩
          case measure => simp [intOf]; have := unhide HK; omega
    · obtain rfl : k = 4 := by omega
      have HA := hide ((Tb.opens_none (unhide hno).2).symm.trans (unhide HR))
      clear hk hlt
      go_wp2
      go_ret
      exact ⟨ret_int (unhide HA), (unhide hno).1⟩

/-- How a seat is moved, as the document says it. -/
def Tb.rhow (E : Nat → Nat → Int) (n : Nat) (s f : Int) : Int × Bool :=
  if Tb.at E s f n < 0 then (0, false) else
  if E (Tb.at E s f n).toNat 1 = f then (if 0 ≤ Tb.at E s f (Tb.at E s f n).toNat then (2, true) else (0, true))
  else if E (Tb.at E s f n).toNat 2 = 0 ∨ f ≤ E (Tb.at E s f n).toNat 2 then (1, false) else (2, false)

def Tb.rcounts (E : Nat → Nat → Int) (n : Nat) (s f : Int) : Bool :=
  decide (0 ≤ Tb.at E s f n) && (decide (E (Tb.at E s f n).toNat 1 < f) && ((E (Tb.at E s f n).toNat 2 == 0) || decide (f ≤ E (Tb.at E s f n).toNat 3)))

set_option maxHeartbeats 3200000 in
theorem refCounts16_any (a : Option Addr) (n c : Nat) (E : Nat → Nat → Int) (s f : Int) (w : World) (h : Tb.Rows w a n E) (hn : n ≤ maxLen) :
    Calls Try.prog 27 #[.slice a n c, .int .i64 s, .int .i64 f] w (Says w (.bool (Tb.rcounts E n s f))) := by
  have hm : (n : Int) ≤ 9223372036854775807 := by unfold maxLen at hn; omega
  have cl := hide (refLast16_any a n c E s f w h hn)
  have H := hide h
  obtain ⟨r, hr⟩ : ∃ r, Tb.rcounts E n s f = r := ⟨_, rfl⟩
  have HR := hide hr
  rw [hr]
  clear h hn hr
  unfold Tb.rcounts at HR
  rcases Tb.at_cases E s f n with ⟨hat, -⟩ | ⟨k, hk, hat, -, -⟩
  · rw [hat] at cl HR
    clear hat
    go_enter Try.func27, Try.ntmps27
    go_wp2_with fail
    refine (unhide cl).mono ?_
    rintro e w' ⟨rfl, hw⟩
    have HW := hide hw
    clear hw cl
    go_wp2
    go_ret
    exact ⟨ret_bool (unhide HR), unhide HW⟩
  · rw [hat] at cl HR
    have HV : Hid ((decide (E k 1 < f) && ((E k 2 == 0) || decide (f ≤ E k 3))) = r) := by
      have := unhide HR
      rw [decide_eq_true (by omega), Bool.true_and, Int.toNat_natCast] at this
      exact this
    obtain ⟨b, rfl, -⟩ := (unhide H).row hk
    have hk' : (k : Int) < (n : Int) := by omega
    have HH := hide fun x (hg : w.grownBy x Option.none) => ((unhide H).on hg).row hk
    clear hat H hk HR
    go_enter Try.func27, Try.ntmps27
    go_wp2_with fail
    refine (unhide cl).mono ?_
    rintro e w' ⟨rfl, hw⟩
    have HW := hide hw
    obtain ⟨_, hb', _, u0, u1, u2, u3⟩ := unhide HH w' hw
    cases hb'
    clear hw cl
    by_cases h1 : E k 1 < f
    · cases h2 : (E k 2 == 0) with
      | true =>
        rw [decide_eq_true h1, h2] at HV
        go_wp2
        go_ret
        exact ⟨ret_bool (unhide HV), unhide HW⟩
      | false =>
        rw [decide_eq_true h1, h2] at HV
        go_wp2
        go_ret
        exact ⟨ret_bool (unhide HV), unhide HW⟩
    · rw [decide_eq_false h1] at HV
      go_wp2
      go_ret
      exact ⟨ret_bool (unhide HV), unhide HW⟩

set_option maxHeartbeats 3200000 in
theorem refHow16_any (a : Option Addr) (n c : Nat) (E : Nat → Nat → Int) (s f : Int) (w : World) (h : Tb.Rows w a n E) (hn : n ≤ c) (hc : c ≤ maxLen) :
    Calls Try.prog 25 #[.slice a n c, .int .i64 s, .int .i64 f] w (Says w (.tuple #[.int .i64 (Tb.rhow E n s f).1, .bool (Tb.rhow E n s f).2])) := by
  have hm : (c : Int) ≤ 9223372036854775807 := by unfold maxLen at hc; omega
  have hn' : (n : Int) ≤ (c : Int) := by omega
  have cl := hide (refLast16_any a n c E s f w h (by omega))
  have H := hide h
  have HC := hide (And.intro hn hc)
  obtain ⟨r, hr⟩ : ∃ r, Tb.rhow E n s f = r := ⟨_, rfl⟩
  have HR := hide hr
  rw [hr]
  clear h hn hc hr
  unfold Tb.rhow at HR
  rcases Tb.at_cases E s f n with ⟨hat, -⟩ | ⟨k, hk, hat, -, -⟩
  · rw [hat, if_pos (by omega)] at HR
    rw [hat] at cl
    clear hat
    obtain rfl := unhide HR
    clear HR
    go_enter Try.func25, Try.ntmps25
    go_wp2_with fail
    refine (unhide cl).mono ?_
    rintro e w' ⟨rfl, hw⟩
    have HW := hide hw
    clear hw cl
    go_wp2
    go_ret2
    exact ⟨rfl, unhide HW⟩
  · rw [hat, if_neg (by omega), Int.toNat_natCast] at HR
    rw [hat] at cl
    obtain ⟨b, rfl, -⟩ := (unhide H).row hk
    have hk' : (k : Int) < (n : Int) := by omega
    have HH := hide fun x (hg : w.grownBy x Option.none) => ((unhide H).on hg).row hk
    have HK := hide hk
    clear hat hk
    by_cases hf : E k 1 = f
    · rw [if_pos hf] at HR
      have e1 : (E k 1 == f) = true := by simp [hf]
      clear hf
      have c2 := hide fun x (hg : w.grownBy x Option.none) => refLast16_any (some ⟨b, 0, none⟩) k c E s f x (((unhide H).on hg).cut (by have := unhide HK; omega)) (by have := unhide HK; have := unhide HC; omega)
      rcases Tb.at_cases E s f k with ⟨hat, -⟩ | ⟨j, hj, hat, -, -⟩
      · rw [hat, if_neg (by omega)] at HR
        rw [hat] at c2
        clear hat
        obtain rfl := unhide HR
        clear HR
        go_enter Try.func25, Try.ntmps25
        go_wp2_with fail
        refine (unhide cl).mono ?_
        rintro e w' ⟨rfl, hw⟩
        have HW := hide hw
        obtain ⟨_, hb', _, u0, u1, u2, u3⟩ := unhide HH w' hw
        cases hb'
        clear hw cl
        go_wp2_with fail
        refine (unhide c2 w' (unhide HW)).mono ?_
        rintro e y ⟨rfl, hy⟩
        have HY := hide (grown_trans (unhide HW) hy)
        clear hy u0 u1 u2 u3
        go_wp2
        go_ret2
        exact ⟨rfl, unhide HY⟩
      · rw [hat, if_pos (by omega)] at HR
        rw [hat] at c2
        clear hat hj
        obtain rfl := unhide HR
        clear HR
        go_enter Try.func25, Try.ntmps25
        go_wp2_with fail
        refine (unhide cl).mono ?_
        rintro e w' ⟨rfl, hw⟩
        have HW := hide hw
        obtain ⟨_, hb', _, u0, u1, u2, u3⟩ := unhide HH w' hw
        cases hb'
        clear hw cl
        go_wp2_with fail
        refine (unhide c2 w' (unhide HW)).mono ?_
        rintro e y ⟨rfl, hy⟩
        have HY := hide (grown_trans (unhide HW) hy)
        clear hy u0 u1 u2 u3
        go_wp2
        go_ret2
        exact ⟨rfl, unhide HY⟩
    · rw [if_neg hf] at HR
      have e1 : (E k 1 == f) = false := by simp [hf]
      clear hf
      by_cases h2 : E k 2 = 0
      · have e2 : (E k 2 == 0) = true := by simp [h2]
        rw [if_pos (.inl h2)] at HR
        obtain rfl := unhide HR
        clear HR h2
        go_enter Try.func25, Try.ntmps25
        go_wp2_with fail
        refine (unhide cl).mono ?_
        rintro e w' ⟨rfl, hw⟩
        have HW := hide hw
        obtain ⟨_, hb', _, u0, u1, u2, u3⟩ := unhide HH w' hw
        cases hb'
        clear hw cl
        go_wp2
        go_ret2
        exact ⟨rfl, unhide HW⟩
      · have e2 : (E k 2 == 0) = false := by simp [h2]
        by_cases h3 : f ≤ E k 2
        · rw [if_pos (.inr h3)] at HR
          obtain rfl := unhide HR
          clear HR h2
          go_enter Try.func25, Try.ntmps25
          go_wp2_with fail
          refine (unhide cl).mono ?_
          rintro e w' ⟨rfl, hw⟩
          have HW := hide hw
          obtain ⟨_, hb', _, u0, u1, u2, u3⟩ := unhide HH w' hw
          cases hb'
          clear hw cl
          go_wp2
          go_ret2
          exact ⟨rfl, unhide HW⟩
        · rw [if_neg (by rintro (h | h); exact h2 h; exact h3 h)] at HR
          obtain rfl := unhide HR
          clear HR h2
          go_enter Try.func25, Try.ntmps25
          go_wp2_with fail
          refine (unhide cl).mono ?_
          rintro e w' ⟨rfl, hw⟩
          have HW := hide hw
          obtain ⟨_, hb', _, u0, u1, u2, u3⟩ := unhide HH w' hw
          cases hb'
          clear hw cl
          go_wp2
          go_ret2
          exact ⟨rfl, unhide HW⟩

set_option maxHeartbeats 3200000 in
theorem refOpens16_any (a : Option Addr) (n c : Nat) (E : Nat → Nat → Int) (f : Int) (w : World) (h : Tb.Rows w a n E) (hn : n ≤ maxLen) :
    Calls Try.prog 29 #[.slice a n c, .int .i64 f] w (Says w (.int .i64 (Tb.opens E n f))) := by
  have hm : (n : Int) ≤ 9223372036854775807 := by unfold maxLen at hn; omega
  have cl := hide fun (s : Int) (x : World) (hg : w.grownBy x none) => refLast16_any a n c E s 9223372036854775807 x (h.on hg) hn
  have H := hide h
  obtain ⟨r, hr⟩ : ∃ r, Tb.opens E n f = r := ⟨_, rfl⟩
  have HR := hide hr
  rw [hr]
  clear h hn hr
  go_enter Try.func29, Try.ntmps29
  go_wp2_with fail
  go_loopw [5] (fun vi wr => ∃ k : Nat, 1 ≤ k ∧ k ≤ 4 ∧ vi = .int .i64 (k : Int) ∧ Hid (w.grownBy wr none ∧ ∀ j : Nat, 1 ≤ j → j < k → Tb.free E n (j : Int) f = false)) (fun vi _ => 5 - (intOf vi).toNat)
  case atStart => exact ⟨1, by omega, by omega, rfl, World.grownBy.refl _ _, fun j h1 h2 => by omega⟩
  case round =>
    obtain ⟨k, hk1, hk, rfl, hno⟩ := hrel
    by_cases hlt : k < 4
    · have hlt' : (k : Int) ≤ 3 := by omega
      have HK := hide (And.intro hk1 hlt)
      have hit := hide fun h => ((Tb.opens_hit hk1 (by omega) (unhide hno).2 h).symm.trans (unhide HR) : (k : Int) = r)
      have miss := hide (show Tb.free E n (k : Int) f = false → ∀ j : Nat, 1 ≤ j → j < k + 1 → Tb.free E n (j : Int) f = false from fun hfr j h1 h2 => by
            by_cases e : j = k
            · rw [e]; exact hfr
            · exact (unhide hno).2 j h1 (by omega))
      have c1 := hide (unhide cl (k : Int) wr (unhide hno).1)
      unfold Tb.free at hit miss
      rcases Tb.at_cases E (k : Int) 9223372036854775807 n with ⟨hat, -⟩ | ⟨q, hq, hat, -, -⟩
      · rw [hat] at c1 hit
        have HA := hide (unhide hit rfl)
        clear hk hk1 hlt hat miss hit
        go_wp2_with fail
        refine (unhide c1).mono ?_
        rintro e x ⟨rfl, hx⟩
        have HX := hide (grown_trans (unhide hno).1 hx)
        clear hx
        go_wp2
        go_ret
        exact ⟨ret_int (unhide HA), unhide HX⟩
      · rw [hat] at c1 hit miss
        rw [decide_eq_false (by omega), Bool.false_or, Int.toNat_natCast] at hit miss
        obtain ⟨b, rfl, -⟩ := (unhide H).row hq
        have hq' : (q : Int) < (n : Int) := by omega
        have HH := hide fun x (hg : w.grownBy x Option.none) => ((unhide H).on hg).row hq
        cases h2 : (E q 2 == 0) with
        | true =>
          have hne : (E q 2 != 0) = false := by rw [bne, h2]; rfl
          rw [h2] at miss
          have HA := hide (unhide miss rfl)
          clear hk hk1 hlt hat hit miss hq
          go_wp2_with fail
          refine (unhide c1).mono ?_
          rintro e x ⟨rfl, hx⟩
          have HX := hide (grown_trans (unhide hno).1 hx)
          obtain ⟨_, hb', _, u0, u1, u2, u3⟩ := unhide HH x (unhide HX)
          cases hb'
          clear hx
          go_wp2
          go_roundw
          case rel => exact ⟨k + 1, by omega, by have := unhide HK; omega, by go_num, unhide HX, unhide HA⟩
          case measure => simp [intOf]; have := unhide HK; omega
        | false =>
          have hne : (E q 2 != 0) = true := by rw [bne, h2]; rfl
          rw [h2] at miss hit
          by_cases h3 : E q 2 ≤ f
          · rw [decide_eq_true h3] at hit
            have HA := hide (unhide hit rfl)
            clear hk hk1 hlt hat hit miss hq
            go_wp2_with fail
            refine (unhide c1).mono ?_
            rintro e x ⟨rfl, hx⟩
            have HX := hide (grown_trans (unhide hno).1 hx)
            obtain ⟨_, hb', _, u0, u1, u2, u3⟩ := unhide HH x (unhide HX)
            cases hb'
            clear hx
            go_wp2
            go_ret
            exact ⟨ret_int (unhide HA), unhide HX⟩
          · rw [decide_eq_false h3] at miss
            have HA := hide (unhide miss rfl)
            clear hk hk1 hlt hat hit miss hq
            go_wp2_with fail
            refine (unhide c1).mono ?_
            rintro e x ⟨rfl, hx⟩
            have HX := hide (grown_trans (unhide hno).1 hx)
            obtain ⟨_, hb', _, u0, u1, u2, u3⟩ := unhide HH x (unhide HX)
            cases hb'
            clear hx
            go_wp2
            go_roundw
            case rel => exact ⟨k + 1, by omega, by have := unhide HK; omega, by go_num, unhide HX, unhide HA⟩
            case measure => simp [intOf]; have := unhide HK; omega
    · obtain rfl : k = 4 := by omega
      have HA := hide ((Tb.opens_none (unhide hno).2).symm.trans (unhide HR))
      clear hk hlt hk1
      go_wp2
      go_ret
      exact ⟨ret_int (unhide HA), (unhide hno).1⟩

end Go.Proofs.Ytiegccdgoemamaa
