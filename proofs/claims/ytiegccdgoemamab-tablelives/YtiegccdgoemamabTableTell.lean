/-
  What a table tells: How, Counts, Open, both packages.
-/
import Derived.Test.YtiegccdgoemamabTableStand
namespace Go.Proofs.Ytiegccdgoemamab
open Go.RowKit

theorem Tb.stand_six (E : Nat → Nat → Int) (n : Nat) (s f : Int) : Tb.stand E n s f = 0 ∨ Tb.stand E n s f = 1 ∨ Tb.stand E n s f = 2 ∨ Tb.stand E n s f = 3 ∨ Tb.stand E n s f = 4 ∨ Tb.stand E n s f = 5 := by
  unfold Tb.stand
  repeat' split
  all_goals omega

/-- How a seat is moved, whether its hero comes; by how it stands. -/
def Tb.how (t : Int) : Int × Bool := if t = 2 then (2, true) else if t = 5 then (2, false) else if t = 1 then (0, true) else if t = 3 ∨ t = 4 then (1, false) else (0, false)

set_option maxHeartbeats 3200000 in
theorem tbHow_any (a : Option Addr) (n c : Nat) (E : Nat → Nat → Int) (s f : Int) (w : World) (h : Tb.Rows w a n E) (hn : n ≤ c) (hc : c ≤ maxLen) :
    Calls Try.prog 10 #[.slice a n c, .int .i64 s, .int .i64 f] w (Says w (.tuple #[.int .i64 (Tb.how (Tb.stand E n s f)).1, .bool (Tb.how (Tb.stand E n s f)).2])) := by
  have cl := hide (tbStand_any a n c E s f w h hn hc)
  clear h hn hc
  rcases Tb.stand_six E n s f with h | h | h | h | h | h
  all_goals
    rw [h] at cl ⊢
    clear h
    go_enter Try.func10, Try.ntmps10
    go_wp2_with fail
    refine (unhide cl).mono ?_
    rintro e w' ⟨rfl, hw⟩
    have HW := hide hw
    clear hw cl
    go_wp2
    go_ret2
    exact ⟨rfl, unhide HW⟩

theorem tbCounts_any (a : Option Addr) (n c : Nat) (E : Nat → Nat → Int) (s f : Int) (w : World) (h : Tb.Rows w a n E) (hn : n ≤ c) (hc : c ≤ maxLen) :
    Calls Try.prog 11 #[.slice a n c, .int .i64 s, .int .i64 f] w (Says w (.bool (Tb.stand E n s f == 3))) := by
  have cl := hide (tbStand_any a n c E s f w h hn hc)
  clear h hn hc
  go_enter Try.func11, Try.ntmps11
  go_wp2_with fail
  refine (unhide cl).mono ?_
  rintro e w' ⟨rfl, hw⟩
  have HW := hide hw
  clear hw cl
  go_wp2
  go_ret
  exact ⟨rfl, unhide HW⟩

/-- The lowest seat that can be taken. -/
def Tb.opens (E : Nat → Nat → Int) (n : Nat) (f : Int) : Int := if Tb.free E n 1 f = true then 1 else if Tb.free E n 2 f = true then 2 else if Tb.free E n 3 f = true then 3 else -1

theorem Tb.opens_hit {E : Nat → Nat → Int} {n : Nat} {f : Int} {k : Nat} (h0 : 1 ≤ k) (h1 : k ≤ 3) (hno : ∀ j : Nat, 1 ≤ j → j < k → Tb.free E n (j : Int) f = false) (h : Tb.free E n (k : Int) f = true) : Tb.opens E n f = (k : Int) := by
  unfold Tb.opens
  rcases (show k = 1 ∨ k = 2 ∨ k = 3 by omega) with rfl | rfl | rfl
  · have h' : Tb.free E n 1 f = true := h
    rw [if_pos h']; rfl
  · have e1 : Tb.free E n 1 f = false := hno 1 (by omega) (by omega)
    have h' : Tb.free E n 2 f = true := h
    rw [if_neg (by rw [e1]; decide), if_pos h']; rfl
  · have e1 : Tb.free E n 1 f = false := hno 1 (by omega) (by omega)
    have e2 : Tb.free E n 2 f = false := hno 2 (by omega) (by omega)
    have h' : Tb.free E n 3 f = true := h
    rw [if_neg (by rw [e1]; decide), if_neg (by rw [e2]; decide), if_pos h']; rfl

theorem Tb.opens_none {E : Nat → Nat → Int} {n : Nat} {f : Int} (hno : ∀ j : Nat, 1 ≤ j → j < 4 → Tb.free E n (j : Int) f = false) : Tb.opens E n f = -1 := by
  unfold Tb.opens
  have e1 : Tb.free E n 1 f = false := hno 1 (by omega) (by omega)
  have e2 : Tb.free E n 2 f = false := hno 2 (by omega) (by omega)
  have e3 : Tb.free E n 3 f = false := hno 3 (by omega) (by omega)
  rw [if_neg (by rw [e1]; decide), if_neg (by rw [e2]; decide), if_neg (by rw [e3]; decide)]

set_option maxHeartbeats 3200000 in
theorem tbOpens_any (a : Option Addr) (n c : Nat) (E : Nat → Nat → Int) (f : Int) (w : World) (h : Tb.Rows w a n E) (hn : n ≤ maxLen) :
    Calls Try.prog 8 #[.slice a n c, .int .i64 f] w (Says w (.int .i64 (Tb.opens E n f))) := by
  have cf := hide fun (s : Int) (x : World) (hg : w.grownBy x none) => tbFree_any a n c E s f x (h.on hg) hn
  obtain ⟨r, hr⟩ : ∃ r, Tb.opens E n f = r := ⟨_, rfl⟩
  have HR := hide hr
  rw [hr]
  clear h hn hr
  go_enter Try.func8, Try.ntmps8
  go_wp2_with fail
  go_loopw [6] (fun vi wr => ∃ k : Nat, k ≤ 4 ∧ vi = .int .i64 (k : Int) ∧ Hid (w.grownBy wr none ∧ ∀ j : Nat, 1 ≤ j → j < k → Tb.free E n (j : Int) f = false)) (fun vi _ => 5 - (intOf vi).toNat)
  case atStart => exact ⟨0, by omega, rfl, World.grownBy.refl _ _, fun j h1 h2 => by omega⟩
  case round =>
    obtain ⟨k, hk, rfl, hno⟩ := hrel
    by_cases hlt : k < 4
    · have hlt' : (k : Int) < 4 := by omega
      have HK := hide hlt
      by_cases h0 : k = 0
      · subst h0
        clear hk hlt hlt'
        go_wp2
        go_roundw
        case rel => exact ⟨1, by omega, by go_num, (unhide hno).1, fun j h1 h2 => by omega⟩
        case measure => simp [intOf]
      · have h0' : ((k : Int) == 0) = false := by simp; omega
        have H0 := hide h0
        cases hfr : Tb.free E n (k : Int) f with
        | true =>
          have HA := hide ((Tb.opens_hit (by omega) (by omega) (unhide hno).2 hfr).symm.trans (unhide HR))
          have c1 := hide (unhide cf (k : Int) wr (unhide hno).1)
          rw [hfr] at c1
          clear hk hlt h0 hfr
          go_wp2_with fail
          refine (unhide c1).mono ?_
          rintro e x ⟨rfl, hx⟩
          have HX := hide (grown_trans (unhide hno).1 hx)
          clear hx
          go_wp2
          go_ret
          exact ⟨ret_int (unhide HA), unhide HX⟩
        | false =>
          have HA := hide (show ∀ j : Nat, 1 ≤ j → j < k + 1 → Tb.free E n (j : Int) f = false from fun j h1 h2 => by
            by_cases e : j = k
            · rw [e]; exact hfr
            · exact (unhide hno).2 j h1 (by omega))
          have c1 := hide (unhide cf (k : Int) wr (unhide hno).1)
          rw [hfr] at c1
          clear hk hlt h0 hfr
          go_wp2_with fail
          refine (unhide c1).mono ?_
          rintro e x ⟨rfl, hx⟩
          have HX := hide (grown_trans (unhide hno).1 hx)
          clear hx
          go_wp2
          go_roundw
          case rel => exact ⟨k + 1, by have := unhide HK; omega, by go_num, unhide HX, unhide HA⟩
          case measure => simp [intOf]; have := unhide HK; omega
    · obtain rfl : k = 4 := by omega
      have HA := hide ((Tb.opens_none (unhide hno).2).symm.trans (unhide HR))
      clear hk hlt
      go_wp2
      go_ret
      exact ⟨ret_int (unhide HA), (unhide hno).1⟩

/-- How a seat is moved, as the document says it. -/
def Tb.rhow (E : Nat → Nat → Int) (n : Nat) (s f : Int) : Int × Bool :=
  if Tb.at E s f n < 0 then (0, false) else
  if E (Tb.at E s f n).toNat 1 = f then (if 0 ≤ Tb.at E s f (Tb.at E s f n).toNat then (2, true) else (0, true))
  else if E (Tb.at E s f n).toNat 2 = 0 ∨ f ≤ E (Tb.at E s f n).toNat 2 then (1, false) else (2, false)

def Tb.rcounts (E : Nat → Nat → Int) (n : Nat) (s f : Int) : Bool :=
  decide (0 ≤ Tb.at E s f n) && (decide (E (Tb.at E s f n).toNat 1 < f) && ((E (Tb.at E s f n).toNat 2 == 0) || decide (f ≤ E (Tb.at E s f n).toNat 3)))

end Go.Proofs.Ytiegccdgoemamab
