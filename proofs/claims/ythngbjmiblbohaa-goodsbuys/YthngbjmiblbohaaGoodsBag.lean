/-
  A seat's bag and the shop's wares, in goods; which item an input is about.
-/
import Derived.Test.YthngbjmiblbohaaGoodsAt
namespace Go.Proofs.Ythngbjmiblbohaa
open Go.RowKit

/-- The item in the lowest slot whose kind is let by. -/
def Gd.carQ (I : Nat → Nat → Int) (n : Nat) (seat : Int) (t : Int → Bool) : Nat → Bool := fun b => decide (0 ≤ Gd.find I n 2 seat (b : Int)) && t (I (Gd.find I n 2 seat (b : Int)).toNat 0)

def Gd.car (I : Nat → Nat → Int) (n : Nat) (seat : Int) (t : Int → Bool) : Int := if 0 ≤ En.first (Gd.carQ I n seat t) 4 then Gd.find I n 2 seat (En.first (Gd.carQ I n seat t) 4) else -1

theorem Gd.has_car (I : Nat → Nat → Int) (n : Nat) (seat lo hi : Int) : Gd.has I n seat lo hi = Gd.car I n seat (fun k => decide (lo ≤ k) && decide (k ≤ hi)) := rfl

theorem Gd.car_hit {I : Nat → Nat → Int} {n : Nat} {seat : Int} {t : Int → Bool} {k : Nat} (hno : ∀ j, j < k → Gd.carQ I n seat t j = false) (hk : Gd.carQ I n seat t k = true) (h4 : k < 4) : Gd.car I n seat t = Gd.find I n 2 seat (k : Int) := by
  unfold Gd.car
  rw [En.first_hit hno hk h4, if_pos (by omega)]

theorem Gd.car_none {I : Nat → Nat → Int} {n : Nat} {seat : Int} {t : Int → Bool} (hno : ∀ j, j < 4 → Gd.carQ I n seat t j = false) : Gd.car I n seat t = -1 := by
  unfold Gd.car
  rw [En.first_none hno, if_neg (by omega)]

theorem Gd.car_congr {I : Nat → Nat → Int} {n : Nat} {seat : Int} {t u : Int → Bool} (h : ∀ k, k < n → I k 1 = 2 → t (I k 0) = u (I k 0)) : Gd.car I n seat t = Gd.car I n seat u := by
  have e : ∀ b, b < 4 → Gd.carQ I n seat t b = Gd.carQ I n seat u b := fun b _ => by
    unfold Gd.carQ
    by_cases hf : 0 ≤ Gd.find I n 2 seat (b : Int)
    · obtain ⟨k, hk, ek, h1, _⟩ := Gd.find_pos hf
      rw [ek, Int.toNat_natCast, h k hk h1]
    · rw [decide_eq_false hf, Bool.false_and, Bool.false_and]
  unfold Gd.car
  rw [En.first_congr e]

theorem Gd.find_lt {I : Nat → Nat → Int} {n : Nat} {p a q : Int} (h : 0 ≤ Gd.find I n p a q) : (Gd.find I n p a q).toNat < n ∧ Gd.find I n p a q = ((Gd.find I n p a q).toNat : Int) := by
  obtain ⟨k, hk, e, _⟩ := Gd.find_pos h
  rw [e]
  simp [hk]

set_option maxHeartbeats 800000 in
theorem freeSlot_any (b n c : Nat) (I : Nat → Nat → Int) (seat : Int) (w : World) (hI : Its w b 0 n I) :
    Calls Try.prog 54 #[.slice (some ⟨b, 0, none⟩) n c, .int .i64 seat] w (Says w (.int .i64 (Gd.slot I n seat))) := by
  have hI' := hide hI
  clear hI
  go_enter Try.func54, Try.ntmps54
  go_wp2_with fail
  go_loopw [6] (fun i wr => ∃ k : Nat, k ≤ 4 ∧ i = .int .i64 (k : Int) ∧ (∀ j : Nat, j < k → decide (Gd.find I n 2 seat (j : Int) < 0) = false) ∧ w.grownBy wr none) (fun i _ => 200 - (intOf i).toNat)
  case atStart => exact ⟨0, by omega, rfl, fun j hj => by omega, World.grownBy.refl _ _⟩
  case round =>
    obtain ⟨k, hk, rfl, hno, hgr⟩ := hrel
    have hno' := hide hno
    have hgr' := hide hgr
    clear hno hgr
    by_cases hlt : k < 4
    · have hlt' : (k : Int) < 4 := by omega
      have HL := hide hlt
      have cat := hide (goodsAt_any b n c I 2 seat (k : Int) wr ((unhide hI').on (unhide hgr')))
      obtain ⟨f, hf⟩ : ∃ f, Gd.find I n 2 seat (k : Int) = f := ⟨_, rfl⟩
      rw [hf] at cat
      have hf' := hide hf
      clear hlt hf
      go_wp2_with fail
      refine (unhide cat).mono ?_
      rintro e w1 ⟨rfl, hg1⟩
      have hg2 := hide (grown_trans (unhide hgr') hg1)
      clear hg1 cat
      by_cases hneg : f < 0
      · have he := hide (En.first_hit (q := fun b : Nat => decide (Gd.find I n 2 seat (b : Int) < 0)) (unhide hno') (by show decide _ = true; rw [unhide hf']; exact decide_eq_true hneg) (unhide HL))
        go_wp2
        go_ret
        exact ⟨ret_int (unhide he).symm, unhide hg2⟩
      · have hq := hide (show decide (Gd.find I n 2 seat (k : Int) < 0) = false by rw [unhide hf']; exact decide_eq_false hneg)
        go_wp2
        go_roundw
        case rel => exact ⟨k + 1, by have := unhide HL; omega, by go_num, fun j hj => by
          by_cases e : j = k
          · rw [e]; exact unhide hq
          · exact unhide hno' j (by omega), unhide hg2⟩
        case measure => simp [intOf]; omega
    · have hge : ¬ (k : Int) < 4 := by omega
      have he := hide (En.first_none (n := 4) (q := fun b : Nat => decide (Gd.find I n 2 seat (b : Int) < 0)) (fun j hj => unhide hno' j (by omega)))
      go_wp2
      go_ret
      exact ⟨ret_int (unhide he).symm, unhide hgr'⟩

set_option maxHeartbeats 800000 in
theorem carried_any (b n c : Nat) (I : Nat → Nat → Int) (seat input : Int) (w : World) (hI : Its w b 0 n I) :
    Calls Try.prog 68 #[.slice (some ⟨b, 0, none⟩) n c, .int .i64 seat, .int .i64 input] w (Says w (.int .i64 (Gd.car I n seat (fun k => Gd.serves k input)))) := by
  have hI' := hide hI
  clear hI
  go_enter Try.func68, Try.ntmps68
  go_wp2_with fail
  go_loopw [9] (fun i wr => ∃ k : Nat, k ≤ 4 ∧ i = .int .i64 (k : Int) ∧ (∀ j : Nat, j < k → Gd.carQ I n seat (fun k => Gd.serves k input) j = false) ∧ w.grownBy wr none) (fun i _ => 200 - (intOf i).toNat)
  case atStart => exact ⟨0, by omega, rfl, fun j hj => by omega, World.grownBy.refl _ _⟩
  case round =>
    obtain ⟨k, hk, rfl, hno, hgr⟩ := hrel
    have hno' := hide hno
    have hgr' := hide hgr
    clear hno hgr
    by_cases hlt : k < 4
    · have hlt' : (k : Int) < 4 := by omega
      have HL := hide hlt
      have cat := hide (goodsAt_any b n c I 2 seat (k : Int) wr ((unhide hI').on (unhide hgr')))
      have hfl := hide (Gd.find_lt (I := I) (n := n) (p := 2) (a := seat) (q := (k : Int)))
      have hqd := hide (show Gd.carQ I n seat (fun k => Gd.serves k input) k = (decide (0 ≤ Gd.find I n 2 seat (k : Int)) && Gd.serves (I (Gd.find I n 2 seat (k : Int)).toNat 0) input) from rfl)
      obtain ⟨f, hf⟩ : ∃ f, Gd.find I n 2 seat (k : Int) = f := ⟨_, rfl⟩
      have hf' := hide hf
      rw [hf] at cat hfl hqd
      clear hlt hf
      go_wp2_with fail
      refine (unhide cat).mono ?_
      rintro e w1 ⟨rfl, hg1⟩
      have hg2 := hide (grown_trans (unhide hgr') hg1)
      clear hg1 cat
      by_cases hpos : 0 ≤ f
      · obtain ⟨m, hm, rfl⟩ : ∃ m : Nat, m < n ∧ f = (m : Int) := ⟨f.toNat, (unhide hfl hpos).1, (unhide hfl hpos).2⟩
        have u0 := (((unhide hI').on (unhide hg2)).row hm).1
        have hm' : (m : Int) < (n : Int) := by omega
        have hb := hide hm
        have hqd2 : Hid (Gd.carQ I n seat (fun k => Gd.serves k input) k = Gd.serves (I m 0) input) := by
          show _ = _
          rw [unhide hqd, decide_eq_true hpos, Bool.true_and, Int.toNat_natCast]
        clear hfl hqd hm
        have cs : Hid (∀ wx, Calls Try.prog 62 #[.int .i64 (I m 0), .int .i64 input] wx fun e w' => e = .returned (.bool (Gd.serves (I m 0) input)) ∧ w' = wx) := fun wx => serves_any _ _ wx
        obtain ⟨r, hr⟩ : ∃ r : Bool, Gd.serves (I m 0) input = r := ⟨_, rfl⟩
        rw [hr] at cs hqd2
        clear hr
        go_wp2_with fail
        refine (unhide cs _).mono ?_
        rintro e w2 ⟨rfl, hw⟩
        subst w2
        clear cs u0
        cases r
        · go_wp2
          go_roundw
          case rel => exact ⟨k + 1, by have := unhide HL; omega, by go_num, fun j hj => by
            by_cases e : j = k
            · rw [e]; exact unhide hqd2
            · exact unhide hno' j (by omega), unhide hg2⟩
          case measure => simp [intOf]; omega
        · have he := hide ((Gd.car_hit (unhide hno') (unhide hqd2) (unhide HL)).trans (unhide hf'))
          go_wp2
          go_ret
          exact ⟨ret_int (unhide he).symm, unhide hg2⟩
      · have hqf : Hid (Gd.carQ I n seat (fun k => Gd.serves k input) k = false) := by
          show _ = _
          rw [unhide hqd, decide_eq_false hpos, Bool.false_and]
        have hneg : f < 0 := by omega
        clear hfl hqd
        go_wp2
        go_roundw
        case rel => exact ⟨k + 1, by have := unhide HL; omega, by go_num, fun j hj => by
          by_cases e : j = k
          · rw [e]; exact unhide hqf
          · exact unhide hno' j (by omega), unhide hg2⟩
        case measure => simp [intOf]; omega
    · have hge : ¬ (k : Int) < 4 := by omega
      have he := hide (Gd.car_none (fun j hj => unhide hno' j (by omega)))
      go_wp2
      go_ret
      exact ⟨ret_int (unhide he).symm, unhide hgr'⟩

end Go.Proofs.Ythngbjmiblbohaa
