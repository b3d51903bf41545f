/-
  What is worn helps, in goods and in the document: Bonus.
  Two items, one in a bag and one that is worn: what 'wear' does to them.
  A law's worlds in their boxes, one behind the other.
-/
import Derived.Test.YthngbjmiblbohaaGoodsRoom
import Derived.Test.YthngbjmiblbohaaGoodsBase
import Derived.Test.YthngbjmiblbohaaGoodsPlay
namespace Go.Proofs.Ythngbjmiblbohaa
open Go.RowKit

/-- Does a seat wear one of a kind, among the first rows? -/
def Gd.wornK (I : Nat → Nat → Int) (seat kd : Int) : Nat → Bool
  | 0 => false
  | k + 1 => Gd.wornK I seat kd k || (decide (I k 1 = 3 ∧ I k 2 = seat) && decide (I k 0 = kd))

theorem Gd.worn_iff (I : Nat → Nat → Int) (seat kd : Int) : ∀ k, Gd.wornK I seat kd k = true ↔ ∃ j, j < k ∧ I j 1 = 3 ∧ I j 2 = seat ∧ I j 0 = kd
  | 0 => by simp [Gd.wornK]
  | k + 1 => by
      unfold Gd.wornK
      rw [Bool.or_eq_true, Gd.worn_iff I seat kd k, Bool.and_eq_true, decide_eq_true_eq, decide_eq_true_eq]
      constructor
      · rintro (⟨j, hj, h⟩ | ⟨⟨h1, h2⟩, h3⟩)
        · exact ⟨j, by omega, h⟩
        · exact ⟨k, by omega, h1, h2, h3⟩
      · rintro ⟨j, hj, h1, h2, h3⟩
        by_cases e : j = k
        · rw [e] at h1 h2 h3
          exact .inr ⟨⟨h1, h2⟩, h3⟩
        · exact .inl ⟨j, by omega, h1, h2, h3⟩

/-- Of items that may be: a sword is worn at 0, a mail at 1. -/
theorem Gd.worn_at {c : Nat → Int} {I : Nat → Nat → Int} (h : Gd.Ok c 40 I) (seat b : Int) : Gd.wornK I seat (b + 2) 40 = decide (0 ≤ Gd.find I 40 3 seat b) := by
  apply Bool.eq_iff_iff.2
  rw [Gd.worn_iff, decide_eq_true_eq]
  constructor
  · rintro ⟨j, hj, h1, h2, h3⟩
    rcases Gd.find_cases I 40 3 seat b with ⟨_, hno⟩ | ⟨k, _, e, _⟩
    · obtain ⟨_, _, hp⟩ := h.of hj (by omega)
      exact absurd ⟨h1, h2, by omega⟩ (hno j hj)
    · omega
  · intro h0
    obtain ⟨k, hk, _, h1, h2, h3⟩ := Gd.find_pos h0
    obtain ⟨_, _, hp⟩ := h.of hk (by omega)
    exact ⟨k, hk, h1, h2, by omega⟩

def Gd.three (b : Bool) : Int := if b = true then 3 else 0
def Gd.two (b : Bool) : Int := if b = true then 2 else 0

set_option maxHeartbeats 6400000 in
theorem bonus_any (s g c : Nat → Int) (E I : Nat → Nat → Int) (gC gE gI cC cE cI : Nat) (seat : Int) (w : World) (hL : Gd.Lists w gC gE gI c E I) :
    Calls Try.prog 19 #[.agg (Gd.world s gC gE gI cC cE cI g), .int .i64 seat] w (Says w (.tuple #[.int .i64 (Gd.three (Gd.wornK I seat 2 40)), .int .i64 (Gd.two (Gd.wornK I seat 3 40))])) := by
  obtain ⟨w0, hw0⟩ : ∃ w0, w0 = w.alloc (.cells (Gd.world s gC gE gI cC cE cI g) 29) := ⟨_, rfl⟩
  have hbox : Lie w0 w.heap.size 29 11 (Gd.box s gC gE gI cC cE cI g) := by rw [hw0]; exact (Arr.world (heap_alloc_new w _)).lie
  have hg0 : w.grownBy w0 none := by rw [hw0]; exact World.grownBy_alloc _ _ _
  have hL0 := hide (hL.on hg0)
  obtain ⟨B, hB⟩ : ∃ B, w.heap.size = B := ⟨_, rfl⟩
  rw [hB] at hbox
  have hbox' := hide hbox
  have hg0' := hide hg0
  obtain ⟨_, _, _, _, _, _, b6, _⟩ := hbox.eleven
  clear hL hbox hg0
  unfold Gd.world at hw0 ⊢
  go_enter Try.func19, Try.ntmps19
  go_upto_region 1 with fail
  rw [← hw0]
  clear hw0 hB
  go_wp2_with fail
  go_loopw [6, 7, 13] (fun a d i wr => ∃ k : Nat, k ≤ 40 ∧ i = .int .i64 (k : Int) ∧ a = .int .i64 (Gd.three (Gd.wornK I seat 2 k)) ∧ d = .int .i64 (Gd.two (Gd.wornK I seat 3 k)) ∧ w0.grownBy wr none) (fun _ _ i _ => 200 - (intOf i).toNat)
  case atStart => exact ⟨0, by omega, rfl, rfl, rfl, World.grownBy.refl _ _⟩
  case round =>
    obtain ⟨k, hk, rfl, rfl, rfl, hgr⟩ := hrel
    have hgr' := hide hgr
    clear hgr b6
    by_cases hlt : k < 40
    · obtain ⟨u0, u1, u2, u3⟩ := ((unhide hL0).on (unhide hgr')).its.row hlt
      have hlt' : (k : Int) < 40 := by omega
      have HL := hide hlt
      have hnx := hide (fun (o : Obj) => grown_alloc (unhide hgr') o)
      have e2 := hide (show Gd.wornK I seat 2 (k + 1) = (Gd.wornK I seat 2 k || (decide (I k 1 = 3 ∧ I k 2 = seat) && decide (I k 0 = 2))) from rfl)
      have e3 := hide (show Gd.wornK I seat 3 (k + 1) = (Gd.wornK I seat 3 k || (decide (I k 1 = 3 ∧ I k 2 = seat) && decide (I k 0 = 3))) from rfl)
      clear hlt
      by_cases h1 : I k 1 = 3
      · by_cases h2 : I k 2 = seat
        · by_cases k2 : I k 0 = 2
          · have r2 : Hid (Gd.wornK I seat 2 (k + 1) = true) := by show _ = _; rw [unhide e2]; simp [h1, h2, k2]
            have r3 : Hid (Gd.wornK I seat 3 (k + 1) = Gd.wornK I seat 3 k) := by show _ = _; rw [unhide e3]; simp [k2]
            clear e2 e3
            go_wp2
            go_roundw
            case rel => exact ⟨k + 1, by have := unhide HL; omega, by go_num, by rw [unhide r2]; rfl, by rw [unhide r3], unhide hnx _⟩
            case measure => simp [intOf]; omega
          · have m2 : (I k 0 == 2) = false := by simp [k2]
            have r2 : Hid (Gd.wornK I seat 2 (k + 1) = Gd.wornK I seat 2 k) := by show _ = _; rw [unhide e2]; simp [k2]
            by_cases k3 : I k 0 = 3
            · have r3 : Hid (Gd.wornK I seat 3 (k + 1) = true) := by show _ = _; rw [unhide e3]; simp [h1, h2, k3]
              clear e2 e3
              go_wp2
              go_roundw
              case rel => exact ⟨k + 1, by have := unhide HL; omega, by go_num, by rw [unhide r2], by rw [unhide r3]; rfl, unhide hnx _⟩
              case measure => simp [intOf]; omega
            · have m3 : (I k 0 == 3) = false := by simp [k3]
              have r3 : Hid (Gd.wornK I seat 3 (k + 1) = Gd.wornK I seat 3 k) := by show _ = _; rw [unhide e3]; simp [k3]
              clear e2 e3
              go_wp2
              go_roundw
              case rel => exact ⟨k + 1, by have := unhide HL; omega, by go_num, by rw [unhide r2], by rw [unhide r3], unhide hnx _⟩
              case measure => simp [intOf]; omega
        · have m2 : (I k 2 == seat) = false := by simp [h2]
          have r2 : Hid (Gd.wornK I seat 2 (k + 1) = Gd.wornK I seat 2 k) := by show _ = _; rw [unhide e2]; simp [h2]
          have r3 : Hid (Gd.wornK I seat 3 (k + 1) = Gd.wornK I seat 3 k) := by show _ = _; rw [unhide e3]; simp [h2]
          clear e2 e3
          go_wp2
          go_roundw
          case rel => exact ⟨k + 1, by have := unhide HL; omega, by go_num, by rw [unhide r2], by rw [unhide r3], unhide hnx _⟩
          case measure => simp [intOf]; omega
      · have m1 : (I k 1 == 3) = false := by simp [h1]
        have r2 : Hid (Gd.wornK I seat 2 (k + 1) = Gd.wornK I seat 2 k) := by show _ = _; rw [unhide e2]; simp [h1]
        have r3 : Hid (Gd.wornK I seat 3 (k + 1) = Gd.wornK I seat 3 k) := by show _ = _; rw [unhide e3]; simp [h1]
        clear e2 e3
        go_wp2
        go_roundw
        case rel => exact ⟨k + 1, by have := unhide HL; omega, by go_num, by rw [unhide r2], by rw [unhide r3], unhide hnx _⟩
        case measure => simp [intOf]; omega
    · have hge : ¬ (k : Int) < 40 := by omega
      have hfin := hide (grown_trans (unhide hg0') (unhide hgr'))
      obtain rfl : k = 40 := by omega
      go_wp2
      refine bodyPost_ret (v := .tuple #[.int .i64 (Gd.three (Gd.wornK I seat 2 40)), .int .i64 (Gd.two (Gd.wornK I seat 3 40))]) (by simp [results, Try.results19, go_sem]) rfl ?_
      exact ⟨rfl, unhide hfin⟩

end Go.Proofs.Ythngbjmiblbohaa

namespace Go.Proofs.Ythngbjmiblbohaa
open Go.RowKit

/-- Items in the rows 5 and 9 alone. -/
def Gd.duo (a b : Nat → Int) : Nat → Nat → Int := En.put (En.put (fun _ _ => 0) 5 a) 9 b

theorem Gd.duo5 (a b : Nat → Int) : Gd.duo a b 5 = a := by
  unfold Gd.duo
  rw [En.put_other (by omega), En.put_same]

theorem Gd.duo9 (a b : Nat → Int) : Gd.duo a b 9 = b := En.put_same _ _ _

theorem Gd.duo_no (a b : Nat → Int) {j : Nat} (h5 : j ≠ 5) (h9 : j ≠ 9) : Gd.duo a b j = fun _ => 0 := by
  unfold Gd.duo
  rw [En.put_other h9, En.put_other h5]

theorem Gd.duo_put5 (a b d : Nat → Int) : En.put (Gd.duo a b) 5 d = Gd.duo d b := by
  funext j
  by_cases e : j = 5
  · subst e
    rw [En.put_same, Gd.duo5]
  · rw [En.put_other e]
    by_cases e9 : j = 9
    · subst e9
      rw [Gd.duo9, Gd.duo9]
    · rw [Gd.duo_no a b e e9, Gd.duo_no d b e e9]

theorem Gd.duo_put9 (a b d : Nat → Int) : En.put (Gd.duo a b) 9 d = Gd.duo a d := by
  funext j
  by_cases e : j = 9
  · subst e
    rw [En.put_same, Gd.duo9]
  · rw [En.put_other e]
    by_cases e5 : j = 5
    · subst e5
      rw [Gd.duo5, Gd.duo5]
    · rw [Gd.duo_no a b e5 e, Gd.duo_no a d e5 e]

theorem Gd.duo_find5 {a b : Nat → Int} {p x q : Int} (hp : p ≠ 0) (h1 : a 1 = p) (h2 : a 2 = x) (h3 : a 3 = q) : Gd.find (Gd.duo a b) 40 p x q = ((5 : Nat) : Int) :=
  Gd.find_at (by omega) (by rw [Gd.duo5]; exact h1) (by rw [Gd.duo5]; exact h2) (by rw [Gd.duo5]; exact h3) (fun j hj hc => by
    rw [Gd.duo_no a b (by omega) (by omega)] at hc
    exact hp hc.1.symm)

theorem Gd.duo_find9 {a b : Nat → Int} {p x q : Int} (hp : p ≠ 0) (hno : ¬ (a 1 = p ∧ a 2 = x ∧ a 3 = q)) (h1 : b 1 = p) (h2 : b 2 = x) (h3 : b 3 = q) : Gd.find (Gd.duo a b) 40 p x q = ((9 : Nat) : Int) :=
  Gd.find_at (by omega) (by rw [Gd.duo9]; exact h1) (by rw [Gd.duo9]; exact h2) (by rw [Gd.duo9]; exact h3) (fun j hj hc => by
    by_cases e : j = 5
    · subst e
      rw [Gd.duo5] at hc
      exact hno hc
    · rw [Gd.duo_no a b e (by omega)] at hc
      exact hp hc.1.symm)

theorem Gd.duo_none {a b : Nat → Int} {p x q : Int} (hp : p ≠ 0) (ha : ¬ (a 1 = p ∧ a 2 = x ∧ a 3 = q)) (hb : ¬ (b 1 = p ∧ b 2 = x ∧ b 3 = q)) : Gd.find (Gd.duo a b) 40 p x q = -1 :=
  Gd.find_no fun j _ hc => by
    by_cases e : j = 5
    · subst e
      rw [Gd.duo5] at hc
      exact ha hc
    · by_cases e9 : j = 9
      · subst e9
        rw [Gd.duo9] at hc
        exact hb hc
      · rw [Gd.duo_no a b e e9] at hc
        exact hp hc.1.symm

theorem Gd.wear_duo5 {kd : Int} {sl : Nat} (k2 : 2 ≤ kd) (k3 : kd ≤ 3) (hs : sl < 4) : Gd.wear (Gd.duo (Gd.row kd 2 0 sl) (Gd.row kd 3 0 (kd - 2))) 40 0 = Gd.duo (Gd.row kd 3 0 (kd - 2)) (Gd.row kd 2 0 sl) := by
  have hh : Gd.has (Gd.duo (Gd.row kd 2 0 sl) (Gd.row kd 3 0 (kd - 2))) 40 0 2 3 = ((5 : Nat) : Int) :=
    Gd.has_at hs (Gd.duo_find5 (by omega) rfl rfl rfl) (by rw [Gd.duo5]; exact k2) (by rw [Gd.duo5]; exact k3) (fun j hj => by
      rw [Gd.duo_none (by omega) (fun h => by have : (sl : Int) = (j : Int) := h.2.2; omega) (fun h => by have : (3 : Int) = 2 := h.1; omega)]
      omega)
  have hf : Gd.find (Gd.duo (Gd.row kd 2 0 sl) (Gd.row kd 3 0 (kd - 2))) 40 3 0 (kd - 2) = ((9 : Nat) : Int) := Gd.duo_find9 (by omega) (fun h => by have : (2 : Int) = 3 := h.1; omega) rfl rfl rfl
  unfold Gd.wear
  rw [hh, if_pos (by omega), Int.toNat_natCast]
  unfold Gd.wearAt
  rw [Gd.duo5, show (Gd.row kd 2 0 sl) 0 = kd from rfl, show (Gd.row kd 2 0 sl) 2 = 0 from rfl, show (Gd.row kd 2 0 sl) 3 = (sl : Int) from rfl, hf, if_pos (by omega), Int.toNat_natCast, Gd.duo9, show (Gd.row kd 3 0 (kd - 2)) 0 = kd from rfl, show (Gd.row kd 3 0 (kd - 2)) 2 = 0 from rfl, Gd.duo_put9, Gd.duo_put5]

theorem Gd.wear_duo9 {kd : Int} {sl : Nat} (k2 : 2 ≤ kd) (k3 : kd ≤ 3) (hs : sl < 4) : Gd.wear (Gd.duo (Gd.row kd 3 0 (kd - 2)) (Gd.row kd 2 0 sl)) 40 0 = Gd.duo (Gd.row kd 2 0 sl) (Gd.row kd 3 0 (kd - 2)) := by
  have hh : Gd.has (Gd.duo (Gd.row kd 3 0 (kd - 2)) (Gd.row kd 2 0 sl)) 40 0 2 3 = ((9 : Nat) : Int) :=
    Gd.has_at hs (Gd.duo_find9 (by omega) (fun h => by have : (3 : Int) = 2 := h.1; omega) rfl rfl rfl) (by rw [Gd.duo9]; exact k2) (by rw [Gd.duo9]; exact k3) (fun j hj => by
      rw [Gd.duo_none (by omega) (fun h => by have : (3 : Int) = 2 := h.1; omega) (fun h => by have : (sl : Int) = (j : Int) := h.2.2; omega)]
      omega)
  have hf : Gd.find (Gd.duo (Gd.row kd 3 0 (kd - 2)) (Gd.row kd 2 0 sl)) 40 3 0 (kd - 2) = ((5 : Nat) : Int) := Gd.duo_find5 (by omega) rfl rfl rfl
  unfold Gd.wear
  rw [hh, if_pos (by omega), Int.toNat_natCast]
  unfold Gd.wearAt
  rw [Gd.duo9, show (Gd.row kd 2 0 sl) 0 = kd from rfl, show (Gd.row kd 2 0 sl) 2 = 0 from rfl, show (Gd.row kd 2 0 sl) 3 = (sl : Int) from rfl, hf, if_pos (by omega), Int.toNat_natCast, Gd.duo5, show (Gd.row kd 3 0 (kd - 2)) 0 = kd from rfl, show (Gd.row kd 3 0 (kd - 2)) 2 = 0 from rfl, Gd.duo_put5, Gd.duo_put9]

theorem Gd.wear_lone {kd : Int} {sl : Nat} (k2 : 2 ≤ kd) (k3 : kd ≤ 3) (hs : sl < 4) : Gd.wear (Gd.duo (Gd.row kd 2 0 sl) (fun _ => 0)) 40 0 = Gd.duo (Gd.row kd 3 0 (kd - 2)) (fun _ => 0) := by
  have hh : Gd.has (Gd.duo (Gd.row kd 2 0 sl) (fun _ => 0)) 40 0 2 3 = ((5 : Nat) : Int) :=
    Gd.has_at hs (Gd.duo_find5 (by omega) rfl rfl rfl) (by rw [Gd.duo5]; exact k2) (by rw [Gd.duo5]; exact k3) (fun j hj => by
      rw [Gd.duo_none (by omega) (fun h => by have : (sl : Int) = (j : Int) := h.2.2; omega) (fun h => by have : (0 : Int) = 2 := h.1; omega)]
      omega)
  unfold Gd.wear
  rw [hh, if_pos (by omega), Int.toNat_natCast]
  unfold Gd.wearAt
  rw [Gd.duo5, show (Gd.row kd 2 0 sl) 0 = kd from rfl, show (Gd.row kd 2 0 sl) 2 = 0 from rfl, Gd.duo_none (by omega) (fun h => by have : (2 : Int) = 3 := h.1; omega) (fun h => by have : (0 : Int) = 3 := h.1; omega), if_neg (by omega), Gd.duo_put5]

theorem Gd.wear_only {kd : Int} : Gd.wear (Gd.duo (Gd.row kd 3 0 (kd - 2)) (fun _ => 0)) 40 0 = Gd.duo (Gd.row kd 3 0 (kd - 2)) (fun _ => 0) := by
  unfold Gd.wear
  rw [Gd.has_no (fun j _ => by
    rw [Gd.duo_none (by omega) (fun h => by have : (3 : Int) = 2 := h.1; omega) (fun h => by have : (0 : Int) = 2 := h.1; omega)]
    omega), if_neg (by omega)]

theorem Gd.ok_duo {c : Nat → Int} {a b : Nat → Int} (ha : Gd.Placed c a) (hb : Gd.Zero b ∨ Gd.Placed c b) (hs : ¬ Gd.Share a b) : Gd.Ok c 40 (Gd.duo a b) := by
  have h1 : Gd.Ok c 40 (En.put (fun _ _ => 0) 5 a) := (Gd.ok_none c).put (.inr ⟨ha, fun k _ _ hsh => ha.where_ne hsh.1.symm⟩)
  refine h1.put ?_
  rcases hb with hz | hp
  · exact .inl hz
  · refine .inr ⟨hp, fun k _ hk hsh => ?_⟩
    by_cases e : k = 5
    · subst e
      rw [En.put_same] at hsh
      exact hs hsh
    · rw [En.put_other e] at hsh
      exact hp.where_ne hsh.1.symm

theorem Gd.placed_bag {c : Nat → Int} {kd : Int} {sl : Nat} (k2 : 2 ≤ kd) (k3 : kd ≤ 3) (hs : sl < 4) : Gd.Placed c (Gd.row kd 2 0 sl) :=
  Gd.Fit.placed ⟨by omega, by omega, .inr (.inl ⟨rfl, by omega, by omega, by omega, by omega⟩)⟩ (by omega)

theorem Gd.placed_worn {c : Nat → Int} {kd : Int} (k2 : 2 ≤ kd) (k3 : kd ≤ 3) : Gd.Placed c (Gd.row kd 3 0 (kd - 2)) :=
  Gd.Fit.placed ⟨by omega, by omega, .inr (.inr (.inl ⟨rfl, by omega, by omega, by omega⟩))⟩ (by omega)

/-- What helps of one that is worn. -/
theorem Gd.worn_duo {kd q : Int} {b : Nat → Int} (hb : b 1 ≠ 3) : Gd.wornK (Gd.duo (Gd.row kd 3 0 (kd - 2)) b) 0 q 40 = decide (kd = q) := by
  apply Bool.eq_iff_iff.2
  rw [Gd.worn_iff, decide_eq_true_eq]
  constructor
  · rintro ⟨j, _, h1, _, h3⟩
    by_cases e : j = 5
    · subst e
      rw [Gd.duo5] at h3
      exact h3
    · by_cases e9 : j = 9
      · subst e9
        rw [Gd.duo9] at h1
        exact absurd h1 hb
      · rw [Gd.duo_no _ _ e e9] at h1
        have : (0 : Int) = 3 := h1
        omega
  · intro e
    exact ⟨5, by omega, by rw [Gd.duo5]; rfl, by rw [Gd.duo5]; rfl, by rw [Gd.duo5]; exact e⟩

end Go.Proofs.Ythngbjmiblbohaa

namespace Go.Proofs.Ythngbjmiblbohaa
open Go.RowKit

/-- A world in a box of the law's own. -/
structure Gd.Law (w x : World) (T gC gE gI cC cE cI : Nat) (s g c : Nat → Int) (E I : Nat → Nat → Int) : Prop where
  hold : Gd.Hold x T gC gE gI cC cE cI s g c E I
  lT : w.heap.size ≤ T
  lE : w.heap.size ≤ gE
  lI : w.heap.size ≤ gI
  cap : 32 ≤ cE
  grown : w.grownBy x none

theorem Gd.Law.on {w x y : World} {T gC gE gI cC cE cI : Nat} {s g c : Nat → Int} {E I : Nat → Nat → Int} (h : Gd.Law w x T gC gE gI cC cE cI s g c E I) (hg : x.grownBy y none) : Gd.Law w y T gC gE gI cC cE cI s g c E I :=
  { h with hold := h.hold.on hg, grown := grown_trans h.grown hg }

theorem Gd.Law.put {w x : World} {T gC gE gI cC cE cI : Nat} {s g c : Nat → Int} {E I : Nat → Nat → Int} (h : Gd.Law w x T gC gE gI cC cE cI s g c E I) (m : Nat) (a b d e : Int) : Gd.Law w ((((x.setCell ⟨gI, m * 4, none⟩ (.int .i64 a)).setCell ⟨gI, m * 4 + 1, none⟩ (.int .i64 b)).setCell ⟨gI, m * 4 + 2, none⟩ (.int .i64 d)).setCell ⟨gI, m * 4 + 3, none⟩ (.int .i64 e)) T gC gE gI cC cE cI s g c E (En.put I m (Gd.row a b d e)) :=
  { h with hold := h.hold.put m a b d e, grown := grown_own h.grown (grown_put4 (World.grownBy.refl x (some gI)) m _ _ _ _) (fun n e => by cases e; exact h.lI) }

theorem Gd.Law.same {w x : World} {T gC gE gI cC cE cI : Nat} {s g c : Nat → Int} {E I J : Nat → Nat → Int} (h : Gd.Law w x T gC gE gI cC cE cI s g c E I) (he : I = J) : Gd.Law w x T gC gE gI cC cE cI s g c E J := he ▸ h

/-- What a call has answered, laid into a box. -/
theorem Gd.law_new {w x x' : World} {gC gE gI cC cE cI : Nat} {s g c : Nat → Int} {E I : Nat → Nat → Int} (hgx : w.grownBy x none) (hcap : 32 ≤ cE) (l1 : x.heap.size ≤ gC) (l2 : x.heap.size ≤ gE) (l3 : x.heap.size ≤ gI) (n1 : gC ≠ gE) (n2 : gC ≠ gI) (n3 : gE ≠ gI) (hL : Gd.Lists x' gC gE gI c E I) (hg : x.grownBy x' none) :
    Gd.Law w (x'.alloc (.cells (Gd.world s gC gE gI cC cE cI g) 29)) x'.heap.size gC gE gI cC cE cI s g c E I := by
  have h1 := hL.cells.lt
  have h2 := hL.ents.lt
  have h3 := hL.items.lt
  have h4 := hgx.size
  have h5 := hg.size
  have _ := l1
  exact ⟨⟨(Arr.world (heap_alloc_new x' _)).lie, hL.on (World.grownBy_alloc _ _ _), by omega, by omega, by omega, n1, n2, n3⟩, by omega, by omega, by omega, hcap, grown_trans hgx (grown_alloc hg _)⟩

theorem Gd.Law.eleven {w x : World} {T gC gE gI cC cE cI : Nat} {s g c : Nat → Int} {E I : Nat → Nat → Int} (h : Gd.Law w x T gC gE gI cC cE cI s g c E I) : x.cell? ⟨T, 0, none⟩ = some (.int .i64 (s 0)) ∧ x.cell? ⟨T, 1, none⟩ = some (.int .i64 (s 1)) ∧ x.cell? ⟨T, 2, none⟩ = some (.int .i64 (s 2)) ∧ x.cell? ⟨T, 3, none⟩ = some (.int .i64 (s 3)) ∧ x.cell? ⟨T, 4, none⟩ = some (.slice (some ⟨gC, 0, none⟩) 384 cC) ∧ x.cell? ⟨T, 5, none⟩ = some (.slice (some ⟨gE, 0, none⟩) 32 cE) ∧ x.cell? ⟨T, 6, none⟩ = some (.slice (some ⟨gI, 0, none⟩) 40 cI) ∧ x.cell? ⟨T, 7, none⟩ = some (.int .i64 (g 0)) ∧ x.cell? ⟨T, 8, none⟩ = some (.int .i64 (g 1)) ∧ x.cell? ⟨T, 9, none⟩ = some (.int .i64 (g 2)) ∧ x.cell? ⟨T, 10, none⟩ = some (.int .i64 (g 3)) :=
  h.hold.box.eleven

/-- One number of an item. -/
theorem Gd.Law.at {w x : World} {T gC gE gI cC cE cI : Nat} {s g c : Nat → Int} {E I : Nat → Nat → Int} (h : Gd.Law w x T gC gE gI cC cE cI s g c E I) (q : Nat) (hq : q < 160) (v : Int) (hv : I (q / 4) (q % 4) = v) : x.cell? ⟨gI, q, none⟩ = some (.int .i64 v) := by
  rw [h.hold.lists.items.cell hq, ← hv]
  rfl

end Go.Proofs.Ythngbjmiblbohaa
