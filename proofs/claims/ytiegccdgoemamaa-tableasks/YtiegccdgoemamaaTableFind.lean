/-
  Which row says: table's lastBegun, last; the document's last.
-/
import Derived.Test.YtiegccdgoemamaaTableMem
import Derived.Handy
namespace Go.Proofs.Ytiegccdgoemamaa
open Go.RowKit

set_option maxHeartbeats 1600000 in
theorem tbBegun_any (a : Option Addr) (n c : Nat) (E : Nat → Nat → Int) (s f : Int) (w : World) (h : Tb.Rows w a n E) (hn : n ≤ maxLen) :
    Calls Try.prog 62 #[.slice a n c, .int .i64 s, .int .i64 f] w (Says w (.int .i64 (Tb.at E s f n))) := by
  have hm : (n : Int) ≤ 9223372036854775807 := by unfold maxLen at hn; omega
  have H := hide h
  obtain ⟨r, hr⟩ : ∃ r, Tb.at E s f n = r := ⟨_, rfl⟩
  have HR := hide hr
  rw [hr]
  clear h hn hr
  go_enter Try.func62, Try.ntmps62
  go_wp2_with fail
  go_loopw [11] (fun vi wr => ∃ k : Nat, k ≤ n ∧ vi = .int .i64 (k : Int) ∧ wr = w ∧ Tb.at E s f (n - k) = r) (fun vi _ => n + 1 - (intOf vi).toNat)
  case atStart => exact ⟨0, Nat.zero_le _, rfl, rfl, unhide HR⟩
  case round =>
    obtain ⟨k, hk, rfl, rfl, hat⟩ := hrel
    by_cases hlt : k < n
    · obtain ⟨q, hq⟩ : ∃ q, n = q + k + 1 := ⟨n - k - 1, by omega⟩
      have hlt' : (k : Int) < (n : Int) := by omega
      have hrow : (n : Int) - 1 - (k : Int) = (q : Int) := by omega
      obtain ⟨b, rfl, hb, u0, u1, _⟩ := (unhide H).row (show q < n by omega)
      have hqn : (q : Int) < (n : Int) := by omega
      rw [show n - k = q + 1 by omega] at hat
      have HK := hide (And.intro hk hq)
      by_cases h0 : E q 0 = s
      · have e0 : (E q 0 == s) = true := by simp [h0]
        by_cases h1 : E q 1 ≤ f
        · have HA := hide ((Tb.at_hit ⟨h0, h1⟩).symm.trans hat)
          clear hat hk hq
          go_wp2
          go_ret
          exact ⟨ret_int (unhide HA), World.grownBy.refl _ _⟩
        · have HA := hide ((Tb.at_miss (fun h => h1 h.2)).symm.trans hat)
          clear hat hk hq
          go_wp2
          go_roundw
          case rel => exact ⟨k + 1, by have := unhide HK; omega, by go_num, by trivial, by have := unhide HK; rw [show n - (k + 1) = q by omega]; exact unhide HA⟩
          case measure => simp [intOf]; have := unhide HK; omega
      · have e0 : (E q 0 == s) = false := by simp [h0]
        have HA := hide ((Tb.at_miss (fun h => h0 h.1)).symm.trans hat)
        clear hat hk hq
        go_wp2
        go_roundw
        case rel => exact ⟨k + 1, by have := unhide HK; omega, by go_num, by trivial, by have := unhide HK; rw [show n - (k + 1) = q by omega]; exact unhide HA⟩
        case measure => simp [intOf]; have := unhide HK; omega
    · have hge : ¬ (k : Int) < (n : Int) := by omega
      have HA := hide hat
      have HK := hide (show n - k = 0 by omega)
      clear hat hlt hk
      go_wp2
      go_ret
      refine ⟨ret_int ?_, World.grownBy.refl _ _⟩
      have h1 := unhide HA
      rw [unhide HK] at h1
      exact h1

theorem tbLast_any (a : Option Addr) (n c : Nat) (E : Nat → Nat → Int) (s : Int) (w : World) (h : Tb.Rows w a n E) (hn : n ≤ maxLen) :
    Calls Try.prog 51 #[.slice a n c, .int .i64 s] w (Says w (.int .i64 (Tb.at E s 9223372036854775807 n))) := by
  have cf := hide (tbBegun_any a n c E s 9223372036854775807 w h hn)
  clear h hn
  go_enter Try.func51, Try.ntmps51
  go_wp2_with fail
  refine (unhide cf).mono ?_
  rintro e w' ⟨rfl, hw⟩
  have HW := hide hw
  clear hw cf
  go_wp2
  go_ret
  exact ⟨rfl, unhide HW⟩

theorem tbOpen_any (e0 e1 e2 e3 : Int) (w : World) : Calls Try.prog 63 #[.agg #[.int .i64 e0, .int .i64 e1, .int .i64 e2, .int .i64 e3]] w (Says w (.bool (e2 == 0))) := by
  go_enter Try.func63, Try.ntmps63
  go_wp2
  go_ret
  exact ⟨rfl, World.grownBy_alloc _ _ _⟩

set_option maxHeartbeats 1600000 in
theorem refLast16_any (a : Option Addr) (n c : Nat) (E : Nat → Nat → Int) (s f : Int) (w : World) (h : Tb.Rows w a n E) (hn : n ≤ maxLen) :
    Calls Try.prog 52 #[.slice a n c, .int .i64 s, .int .i64 f] w (Says w (.int .i64 (Tb.at E s f n))) := by
  have hm : (n : Int) ≤ 9223372036854775807 := by unfold maxLen at hn; omega
  have H := hide h
  clear h hn
  go_enter Try.func52, Try.ntmps52
  go_wp2_with fail
  go_loopw [7, 8] (fun v7 v8 wr => ∃ k : Nat, k ≤ n ∧ v8 = .int .i64 (k : Int) ∧ v7 = .int .i64 (Tb.at E s f k) ∧ wr = w) (fun _ v8 _ => n + 1 - (intOf v8).toNat)
  case atStart => exact ⟨0, Nat.zero_le _, rfl, rfl, rfl⟩
  case round =>
    obtain ⟨k, hk, rfl, rfl, rfl⟩ := hrel
    by_cases hlt : k < n
    · have hlt' : (k : Int) < (n : Int) := by omega
      obtain ⟨b, rfl, hb, u0, u1, _⟩ := (unhide H).row hlt
      have HK := hide (And.intro hk hlt)
      by_cases h0 : E k 0 = s
      · have e0 : (E k 0 == s) = true := by simp [h0]
        by_cases h1 : E k 1 ≤ f
        · have HA := hide (Tb.at_hit ⟨h0, h1⟩)
          clear hk hlt
          go_wp2
          go_roundw
          case rel => exact ⟨k + 1, by have := unhide HK; omega, by go_num, by rw [unhide HA], by trivial⟩
          case measure => simp [intOf]; have := unhide HK; omega
        · have HA := hide (Tb.at_miss (fun h => h1 h.2) : Tb.at E s f (k + 1) = Tb.at E s f k)
          clear hk hlt
          go_wp2
          go_roundw
          case rel => exact ⟨k + 1, by have := unhide HK; omega, by go_num, by rw [unhide HA], by trivial⟩
          case measure => simp [intOf]; have := unhide HK; omega
      · have e0 : (E k 0 == s) = false := by simp [h0]
        have HA := hide (Tb.at_miss (fun h => h0 h.1) : Tb.at E s f (k + 1) = Tb.at E s f k)
        clear hk hlt
        go_wp2
        go_roundw
        case rel => exact ⟨k + 1, by have := unhide HK; omega, by go_num, by rw [unhide HA], by trivial⟩
        case measure => simp [intOf]; have := unhide HK; omega
    · have hge : ¬ (k : Int) < (n : Int) := by omega
      obtain rfl : k = n := by omega
      clear hlt hk
      go_wp2
      go_ret
      exact ⟨rfl, World.grownBy.refl _ _⟩

/-- Whether nobody has a seat behind a frame. -/
def Tb.free (E : Nat → Nat → Int) (n : Nat) (s f : Int) : Bool :=
  decide (Tb.at E s 9223372036854775807 n < 0) || (!(E (Tb.at E s 9223372036854775807 n).toNat 2 == 0) && decide (E (Tb.at E s 9223372036854775807 n).toNat 2 ≤ f))

set_option maxHeartbeats 1600000 in
theorem tbFree_any (a : Option Addr) (n c : Nat) (E : Nat → Nat → Int) (s f : Int) (w : World) (h : Tb.Rows w a n E) (hn : n ≤ maxLen) :
    Calls Try.prog 54 #[.slice a n c, .int .i64 s, .int .i64 f] w (Says w (.bool (Tb.free E n s f))) := by
  have hm : (n : Int) ≤ 9223372036854775807 := by unfold maxLen at hn; omega
  have cl := hide (tbLast_any a n c E s w h hn)
  have H := hide h
  obtain ⟨r, hr⟩ : ∃ r, Tb.free E n s f = r := ⟨_, rfl⟩
  have HR := hide hr
  rw [hr]
  clear h hn hr
  rcases Tb.at_cases E s 9223372036854775807 n with ⟨hat, -⟩ | ⟨k, hk, hat, -, -⟩
  · unfold Tb.free at HR
    rw [hat] at cl HR
    clear hat
    go_enter Try.func54, Try.ntmps54
    go_wp2_with fail
    refine (unhide cl).mono ?_
    rintro e w' ⟨rfl, hw⟩
    have HW := hide hw
    clear hw cl
    go_wp2
    go_ret
    exact ⟨ret_bool (unhide HR), unhide HW⟩
  · unfold Tb.free at HR
    rw [hat] at cl HR
    obtain ⟨b, rfl, hb, u0, u1, u2, u3⟩ := (unhide H).row hk
    have hk' : (k : Int) < (n : Int) := by omega
    have HV : Hid ((!(E k 2 == 0) && decide (E k 2 ≤ f)) = r) := by
      have := unhide HR
      rw [decide_eq_false (by omega), Bool.false_or, Int.toNat_natCast] at this
      exact this
    have HH := hide fun x (hg : w.grownBy x Option.none) => ((unhide H).on hg).row hk
    clear hat H u0 u1 u2 u3 hk hb HR
    go_enter Try.func54, Try.ntmps54
    go_wp2_with fail
    refine (unhide cl).mono ?_
    rintro e w' ⟨rfl, hw⟩
    have HW := hide hw
    obtain ⟨_, hb', _, u0, u1, u2, u3⟩ := unhide HH w' hw
    cases hb'
    clear hw cl
    cases h2 : (E k 2 == 0) with
    | true =>
      rw [h2] at HV
      go_wp2_with fail
      refine (tbOpen_any _ _ _ _ _).mono ?_
      rintro e x ⟨rfl, hx⟩
      have HX := hide (grown_trans (unhide HW) hx)
      clear hx HW
      rw [h2]
      go_wp2
      go_ret
      exact ⟨ret_bool (unhide HV), unhide HX⟩
    | false =>
      rw [h2] at HV
      go_wp2_with fail
      refine (tbOpen_any _ _ _ _ _).mono ?_
      rintro e x ⟨rfl, hx⟩
      have HX := hide (grown_trans (unhide HW) hx)
      clear u0 u1 u2 u3
      obtain ⟨_, hb', _, u0, u1, u2, u3⟩ := unhide HH x (grown_trans (unhide HW) hx)
      cases hb'
      clear hx HW
      rw [h2]
      go_wp2
      go_ret
      exact ⟨ret_bool (unhide HV), unhide HX⟩

end Go.Proofs.Ytiegccdgoemamaa
