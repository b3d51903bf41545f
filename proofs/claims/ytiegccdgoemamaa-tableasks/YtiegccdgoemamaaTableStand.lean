/-
  How a seat stands in a frame: table's stand, How, Counts, Open.
-/
import Derived.Test.YtiegccdgoemamaaTableFind
import Derived.Deep.Cut
namespace Go.Proofs.Ytiegccdgoemamaa
open Go.RowKit

/-- How a seat stands: 0 unseated, 1 arrives, 2 returns, 3 plays, 4 leaves, 5 left. -/
def Tb.stand (E : Nat → Nat → Int) (n : Nat) (s f : Int) : Int :=
  if Tb.at E s f n < 0 then 0 else
  if E (Tb.at E s f n).toNat 1 = f then (if Tb.at E s 9223372036854775807 (Tb.at E s f n).toNat < 0 then 1 else 2)
  else if E (Tb.at E s f n).toNat 2 = 0 then 3 else if E (Tb.at E s f n).toNat 2 < f then 5 else if E (Tb.at E s f n).toNat 3 < f then 4 else 3

theorem Tb.stand_none {E : Nat → Nat → Int} {n : Nat} {s f : Int} (h : Tb.at E s f n = -1) : Tb.stand E n s f = 0 := by
  unfold Tb.stand
  rw [h]
  rfl

theorem Tb.stand_at {E : Nat → Nat → Int} {n : Nat} {s f : Int} {k : Nat} (h : Tb.at E s f n = (k : Int)) : Tb.stand E n s f = if E k 1 = f then (if Tb.at E s 9223372036854775807 k < 0 then 1 else 2) else if E k 2 = 0 then 3 else if E k 2 < f then 5 else if E k 3 < f then 4 else 3 := by
  unfold Tb.stand
  rw [h, if_neg (by omega), Int.toNat_natCast]

/-- A row in a box of its own. -/
theorem Tb.boxed (w : World) (e0 e1 e2 e3 : Int) : ∃ x R, x = w.alloc (.cells #[.int .i64 e0, .int .i64 e1, .int .i64 e2, .int .i64 e3] 101) ∧ R = w.heap.size ∧ w.grownBy x none ∧ R < x.heap.size ∧
    ∀ y, x.grownBy y none → y.cell? ⟨R, 0, none⟩ = some (.int .i64 e0) ∧ y.cell? ⟨R, 1, none⟩ = some (.int .i64 e1) ∧ y.cell? ⟨R, 2, none⟩ = some (.int .i64 e2) ∧ y.cell? ⟨R, 3, none⟩ = some (.int .i64 e3) := by
  have hA := Arr.lit (heap_alloc_new w (.cells #[.int .i64 e0, .int .i64 e1, .int .i64 e2, .int .i64 e3] 101))
  exact ⟨_, _, rfl, rfl, World.grownBy_alloc _ _ _, hA.lt, fun y hy => ⟨(hA.grown hy (by simp)).cell (i := 0) (by simp), (hA.grown hy (by simp)).cell (i := 1) (by simp), (hA.grown hy (by simp)).cell (i := 2) (by simp), (hA.grown hy (by simp)).cell (i := 3) (by simp)⟩⟩

set_option maxHeartbeats 3200000 in
theorem tbStand_any (a : Option Addr) (n c : Nat) (E : Nat → Nat → Int) (s f : Int) (w : World) (h : Tb.Rows w a n E) (hn : n ≤ c) (hc : c ≤ maxLen) :
    Calls Try.prog 53 #[.slice a n c, .int .i64 s, .int .i64 f] w (Says w (.int .i64 (Tb.stand E n s f))) := by
  have hm : (c : Int) ≤ 9223372036854775807 := by unfold maxLen at hc; omega
  have hn' : (n : Int) ≤ (c : Int) := by omega
  have cl := hide (tbBegun_any a n c E s f w h (by omega))
  have H := hide h
  have HC := hide (And.intro hn hc)
  obtain ⟨r, hr⟩ : ∃ r, Tb.stand E n s f = r := ⟨_, rfl⟩
  have HR := hide hr
  rw [hr]
  clear h hn hc hr
  rcases Tb.at_cases E s f n with ⟨hat, -⟩ | ⟨k, hk, hat, -, -⟩
  · have HV := hide ((Tb.stand_none hat).symm.trans (unhide HR))
    rw [hat] at cl
    clear hat HR
    go_enter Try.func53, Try.ntmps53
    go_wp2_with fail
    refine (unhide cl).mono ?_
    rintro e w' ⟨rfl, hw⟩
    have HW := hide hw
    clear hw cl
    go_wp2
    go_ret
    exact ⟨ret_int (unhide HV), unhide HW⟩
  · have HV := hide ((Tb.stand_at hat).symm.trans (unhide HR))
    rw [hat] at cl
    clear HR
    obtain ⟨b, rfl, -⟩ := (unhide H).row hk
    have hk' : (k : Int) < (n : Int) := by omega
    have HH := hide fun x (hg : w.grownBy x Option.none) => ((unhide H).on hg).row hk
    have HK := hide hk
    clear hat hk
    by_cases hf : E k 1 = f
    · rw [if_pos hf] at HV
      have e1 : (E k 1 == f) = true := by simp [hf]
      clear hf
      go_enter Try.func53, Try.ntmps53
      go_wp2_with fail
      refine (unhide cl).mono ?_
      rintro e w' ⟨rfl, hw⟩
      have HW := hide hw
      obtain ⟨_, hb', _, u0, u1, u2, u3⟩ := unhide HH w' hw
      cases hb'
      clear hw cl
      go_upto_region 5 with fail
      obtain ⟨W1, R, hW1, hR, hg1, hlt1, hB⟩ := Tb.boxed w' (E k 0) (E k 1) (E k 2) (E k 3)
      have HB := hide hB
      have HG := hide (grown_trans (unhide HW) hg1)
      have HW1 := hide hg1
      have HLT := hide hlt1
      obtain ⟨b0, b1, b2, b3⟩ := hB W1 (World.grownBy.refl _ _)
      clear u0 u1 u2 u3 hB hg1 hlt1 HW
      rw [← hW1, ← hR]
      clear hW1 hR
      have cl := hide (tbLast_any (some ⟨b, 0, none⟩) k c E s W1 (((unhide H).on (unhide HG)).cut (by have := unhide HK; omega)) (by have := unhide HK; have := unhide HC; omega))
      rcases Tb.at_cases E s 9223372036854775807 k with ⟨hat, -⟩ | ⟨j, hj, hat, -, -⟩
      · rw [hat] at cl HV
        clear hat
        go_wp2_with fail
        refine (unhide cl).mono ?_
        rintro e y ⟨rfl, hy⟩
        have HY := hide (grown_trans (unhide HG) hy)
        obtain ⟨c0, c1, c2, c3⟩ := unhide HB y hy
        clear cl hy b0 b1 b2 b3
        go_wp2
        go_ret
        exact ⟨ret_int (unhide HV), unhide HY⟩
      · rw [hat, if_neg (by omega)] at HV
        rw [hat] at cl
        clear hat hj
        go_wp2_with fail
        refine (unhide cl).mono ?_
        rintro e y ⟨rfl, hy⟩
        have HY := hide (grown_trans (unhide HG) hy)
        obtain ⟨c0, c1, c2, c3⟩ := unhide HB y hy
        clear cl hy b0 b1 b2 b3
        go_wp2
        go_ret
        exact ⟨ret_int (unhide HV), unhide HY⟩
    · rw [if_neg hf] at HV
      have e1 : (E k 1 == f) = false := by simp [hf]
      clear hf
      go_enter Try.func53, Try.ntmps53
      go_wp2_with fail
      refine (unhide cl).mono ?_
      rintro e w' ⟨rfl, hw⟩
      have HW := hide hw
      obtain ⟨_, hb', _, u0, u1, u2, u3⟩ := unhide HH w' hw
      cases hb'
      clear hw cl
      go_upto_region 5 with fail
      obtain ⟨W1, R, hW1, hR, hg1, hlt1, hB⟩ := Tb.boxed w' (E k 0) (E k 1) (E k 2) (E k 3)
      have HB := hide hB
      have HG := hide (grown_trans (unhide HW) hg1)
      have HW1 := hide hg1
      have HLT := hide hlt1
      obtain ⟨b0, b1, b2, b3⟩ := hB W1 (World.grownBy.refl _ _)
      clear u0 u1 u2 u3 hB hg1 hlt1 HW
      rw [← hW1, ← hR]
      clear hW1 hR
      have HW1i := hide (World.grownBy.refl W1 none)
      by_cases hz : E k 2 = 0
      · rw [if_pos hz] at HV
        have h2 : (E k 2 == 0) = true := by simp [hz]
        clear hz
        go_wp2_with fail
        refine (tbOpen_any _ _ _ _ _).mono ?_
        rintro e y1 ⟨rfl, hx⟩
        have Gy1 := hide (grown_trans (unhide HG) hx)
        have Ky1 := hide (grown_trans (unhide HW1i) hx)
        clear b0 b1 b2 b3
        obtain ⟨b0, b1, b2, b3⟩ := unhide HB y1 (unhide Ky1)
        clear hx
        rw [h2]
        go_wp2_with fail
        refine (tbOpen_any _ _ _ _ _).mono ?_
        rintro e y2 ⟨rfl, hx⟩
        have Gy2 := hide (grown_trans (unhide Gy1) hx)
        have Ky2 := hide (grown_trans (unhide Ky1) hx)
        clear b0 b1 b2 b3
        obtain ⟨b0, b1, b2, b3⟩ := unhide HB y2 (unhide Ky2)
        clear hx
        rw [h2]
        go_wp2
        go_ret
        exact ⟨ret_int (unhide HV), unhide Gy2⟩
      · rw [if_neg hz] at HV
        have h2 : (E k 2 == 0) = false := by simp [hz]
        clear hz
        by_cases h5 : E k 2 < f
        · rw [if_pos h5] at HV
          go_wp2_with fail
          refine (tbOpen_any _ _ _ _ _).mono ?_
          rintro e y1 ⟨rfl, hx⟩
          have Gy1 := hide (grown_trans (unhide HG) hx)
          have Ky1 := hide (grown_trans (unhide HW1i) hx)
          clear b0 b1 b2 b3
          obtain ⟨b0, b1, b2, b3⟩ := unhide HB y1 (unhide Ky1)
          clear hx
          rw [h2]
          go_wp2
          go_ret
          exact ⟨ret_int (unhide HV), unhide Gy1⟩
        · rw [if_neg h5] at HV
          by_cases h4 : E k 3 < f
          · rw [if_pos h4] at HV
            go_wp2_with fail
            refine (tbOpen_any _ _ _ _ _).mono ?_
            rintro e y1 ⟨rfl, hx⟩
            have Gy1 := hide (grown_trans (unhide HG) hx)
            have Ky1 := hide (grown_trans (unhide HW1i) hx)
            clear b0 b1 b2 b3
            obtain ⟨b0, b1, b2, b3⟩ := unhide HB y1 (unhide Ky1)
            clear hx
            rw [h2]
            go_wp2_with fail
            refine (tbOpen_any _ _ _ _ _).mono ?_
            rintro e y2 ⟨rfl, hx⟩
            have Gy2 := hide (grown_trans (unhide Gy1) hx)
            have Ky2 := hide (grown_trans (unhide Ky1) hx)
            clear b0 b1 b2 b3
            obtain ⟨b0, b1, b2, b3⟩ := unhide HB y2 (unhide Ky2)
            clear hx
            rw [h2]
            go_wp2
            go_ret
            exact ⟨ret_int (unhide HV), unhide Gy2⟩
          · rw [if_neg h4] at HV
            go_wp2_with fail
            refine (tbOpen_any _ _ _ _ _).mono ?_
            rintro e y1 ⟨rfl, hx⟩
            have Gy1 := hide (grown_trans (unhide HG) hx)
            have Ky1 := hide (grown_trans (unhide HW1i) hx)
            clear b0 b1 b2 b3
            obtain ⟨b0, b1, b2, b3⟩ := unhide HB y1 (unhide Ky1)
            clear hx
            rw [h2]
            go_wp2_with fail
            refine (tbOpen_any _ _ _ _ _).mono ?_
            rintro e y2 ⟨rfl, hx⟩
            have Gy2 := hide (grown_trans (unhide Gy1) hx)
            have Ky2 := hide (grown_trans (unhide Ky1) hx)
            clear b0 b1 b2 b3
            obtain ⟨b0, b1, b2, b3⟩ := unhide HB y2 (unhide Ky2)
            clear hx
            rw [h2]
            go_wp2
            go_ret
            exact ⟨ret_int (unhide HV), unhide Gy2⟩

end Go.Proofs.Ytiegccdgoemamaa
