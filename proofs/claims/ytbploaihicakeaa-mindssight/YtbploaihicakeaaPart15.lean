/-
  What is put on, in goods.
  The document's small functions of items: In, Slot, has, Potion.
  What a hero does with an item, in goods: what becomes of it.
-/
import Derived.Test.YtbploaihicakeaaPart14
import Derived.Deep.RegionHeld3
import Derived.Deep.Cut
import Derived.Deep.RegionWith
namespace Go.Proofs.Ytbploaihicakeaa
open Go.RowKit

theorem place_put {x : World} {Q : Nat} {T : TypeId} {F : Nat → Value} {a b c : Value} (h : Arr x Q T 3 F) : Arr (((x.setCell ⟨Q, 0, none⟩ a).setCell ⟨Q, 1, none⟩ b).setCell ⟨Q, 2, none⟩ c) Q T 3 (fun j => #[a, b, c][j]?.getD undef) := by
  refine (((h.store 0 a).store 1 b).store 2 c).congr fun j hj => ?_
  rcases (show j = 0 ∨ j = 1 ∨ j = 2 by omega) with rfl | rfl | rfl <;> rfl

theorem place_grown {x y : World} {Q : Nat} {a b c : Value} (h : x.grownBy y none) (hQ : x.heap.size ≤ Q) : x.grownBy (((y.setCell ⟨Q, 0, none⟩ a).setCell ⟨Q, 1, none⟩ b).setCell ⟨Q, 2, none⟩ c) none :=
  grown_store (grown_store (grown_store h ⟨Q, 0, none⟩ hQ a) ⟨Q, 1, none⟩ hQ b) ⟨Q, 2, none⟩ hQ c

/-- One item stored anew, cell by cell. -/
theorem Lie.put {x : World} {g m : Nat} {T : TypeId} {I : Nat → Nat → Int} (h : Lie x g T m (Gd.flat I)) (k : Nat) (a b c d : Int) : Lie ((((x.setCell ⟨g, k * 4, none⟩ (.int .i64 a)).setCell ⟨g, k * 4 + 1, none⟩ (.int .i64 b)).setCell ⟨g, k * 4 + 2, none⟩ (.int .i64 c)).setCell ⟨g, k * 4 + 3, none⟩ (.int .i64 d)) g T m (Gd.flat (En.put I k (Gd.row a b c d))) := h.item k (Gd.row a b c d)

theorem grown_put4 {x y : World} {g : Nat} (h : x.grownBy y (some g)) (k : Nat) (a b c d : Value) : x.grownBy ((((y.setCell ⟨g, k * 4, none⟩ a).setCell ⟨g, k * 4 + 1, none⟩ b).setCell ⟨g, k * 4 + 2, none⟩ c).setCell ⟨g, k * 4 + 3, none⟩ d) (some g) :=
  grown_set (grown_set (grown_set (grown_set h _ _) _ _) _ _) _ _

theorem grown_some {x y : World} {r : Option Nat} (h : x.grownBy y none) : x.grownBy y r :=
  ⟨h.os, h.tape, h.output, h.size, fun i hi _ => h.block i hi (fun e => by cases e)⟩

theorem Gd.wear_some {I : Nat → Nat → Int} {i f : Nat} (h : Gd.find I 40 3 (I i 2) (I i 0 - 2) = (f : Int)) (h2 : I i 1 = 2) : Gd.wearAt I 40 (I i 2) i = En.put (En.put I f (Gd.row (I f 0) (I i 1) (I i 2) (I i 3))) i (Gd.row (I i 0) 3 (I i 2) (I i 0 - 2)) := by
  obtain ⟨k, hk, e, _, hka, _⟩ := Gd.find_pos (I := I) (n := 40) (w := 3) (a := I i 2) (b := I i 0 - 2) (by omega)
  have hkf : k = f := by omega
  rw [hkf] at hka
  unfold Gd.wearAt
  rw [if_pos (by omega), h, Int.toNat_natCast, hka, h2]

theorem Gd.wear_none {I : Nat → Nat → Int} {i : Nat} (h : Gd.find I 40 3 (I i 2) (I i 0 - 2) < 0) : Gd.wearAt I 40 (I i 2) i = En.put I i (Gd.row (I i 0) 3 (I i 2) (I i 0 - 2)) := by
  unfold Gd.wearAt
  rw [if_neg (by omega)]

end Go.Proofs.Ytbploaihicakeaa

namespace Go.Proofs.Ytbploaihicakeaa
open Go.RowKit

set_option maxHeartbeats 800000 in
theorem refIn7_same (b n c : Nat) (I : Nat → Nat → Int) (p a q : Int) (w : World) (hI : Its w b 0 n I) :
    Calls Try.prog 21 #[.slice (some ⟨b, 0, none⟩) n c, .int .i64 p, .int .i64 a, .int .i64 q] w fun e w' => e = .returned (.int .i64 (Gd.find I n p a q)) ∧ w' = w := by
  have hn := hI.1
  have hI' := hide hI
  clear hI
  go_enter Try.func21, Try.ntmps21
  go_wp2_with fail
  go_loop [9] (fun i => ∃ k : Nat, k ≤ n ∧ i = .int .i64 (k : Int) ∧ ∀ j, j < k → Gd.inQ I p a q j = false) (fun i => 200 - (intOf i).toNat)
  case atStart => exact ⟨0, by omega, rfl, fun j hj => by omega⟩
  case round =>
    obtain ⟨k, hk, rfl, hno⟩ := hrel
    have hno' := hide hno
    clear hno
    by_cases hlt : k < n
    · obtain ⟨_, u1, u2, u3⟩ := (unhide hI').row hlt
      have hlt' : (k : Int) < (n : Int) := by omega
      have HL := hide hlt
      clear hlt
      by_cases h1 : I k 1 = p
      · by_cases h2 : I k 2 = a
        · by_cases h3 : I k 3 = q
          · have he := hide (En.first_hit (unhide hno') (Gd.inQ_yes h1 h2 h3) (unhide HL))
            go_wp2
            go_ret
            exact ⟨ret_int (unhide he).symm, rfl⟩
          · have hq := hide (Gd.inQ_no (I := I) (p := p) (a := a) (q := q) (k := k) (fun h => h3 h.2.2))
            have h3' : (I k 3 == q) = false := by simp [h3]
            go_wp2
            go_round
            case rel => exact ⟨k + 1, by have := unhide HL; omega, by go_num, fun j hj => by
              by_cases e : j = k
              · rw [e]; exact unhide hq
              · exact unhide hno' j (by omega)⟩
            case measure => simp [intOf]; omega
        · have hq := hide (Gd.inQ_no (I := I) (p := p) (a := a) (q := q) (k := k) (fun h => h2 h.2.1))
          have h2' : (I k 2 == a) = false := by simp [h2]
          go_wp2
          go_round
          case rel => exact ⟨k + 1, by have := unhide HL; omega, by go_num, fun j hj => by
            by_cases e : j = k
            · rw [e]; exact unhide hq
            · exact unhide hno' j (by omega)⟩
          case measure => simp [intOf]; omega
      · have hq := hide (Gd.inQ_no (I := I) (p := p) (a := a) (q := q) (k := k) (fun h => h1 h.1))
        have h1' : (I k 1 == p) = false := by simp [h1]
        go_wp2
        go_round
        case rel => exact ⟨k + 1, by have := unhide HL; omega, by go_num, fun j hj => by
          by_cases e : j = k
          · rw [e]; exact unhide hq
          · exact unhide hno' j (by omega)⟩
        case measure => simp [intOf]; omega
    · have hge : ¬ (k : Int) < (n : Int) := by omega
      have he := hide (En.first_none (n := n) (fun j hj => unhide hno' j (by omega)))
      go_wp2
      go_ret
      exact ⟨ret_int (unhide he).symm, rfl⟩

set_option maxHeartbeats 800000 in
theorem refSlot_same (b n c : Nat) (I : Nat → Nat → Int) (seat : Int) (w : World) (hI : Its w b 0 n I) :
    Calls Try.prog 37 #[.slice (some ⟨b, 0, none⟩) n c, .int .i64 seat] w fun e w' => e = .returned (.int .i64 (Gd.slot I n seat)) ∧ w' = w := by
  have ci : Hid (∀ q, Calls Try.prog 21 #[.slice (some ⟨b, 0, none⟩) n c, .int .i64 2, .int .i64 seat, .int .i64 q] w fun e w' => e = .returned (.int .i64 (Gd.find I n 2 seat q)) ∧ w' = w) := fun q => refIn7_same b n c I 2 seat q w hI
  clear hI
  go_enter Try.func37, Try.ntmps37
  go_wp2_with fail
  go_loop [5] (fun i => ∃ k : Nat, k ≤ 4 ∧ i = .int .i64 (k : Int) ∧ (∀ j : Nat, j < k → decide (Gd.find I n 2 seat (j : Int) < 0) = false)) (fun i => 200 - (intOf i).toNat)
  case atStart => exact ⟨0, by omega, rfl, fun j hj => by omega⟩
  case round =>
    obtain ⟨k, hk, rfl, hno⟩ := hrel
    have hno' := hide hno
    clear hno
    by_cases hlt : k < 4
    · have hlt' : (k : Int) < 4 := by omega
      have HL := hide hlt
      have cat := hide (unhide ci (k : Int))
      obtain ⟨f, hf⟩ : ∃ f, Gd.find I n 2 seat (k : Int) = f := ⟨_, rfl⟩
      rw [hf] at cat
      have hf' := hide hf
      clear hlt hf
      go_wp2_with fail
      refine (unhide cat).mono ?_
      rintro e w1 ⟨rfl, hw⟩
      subst w1
      clear cat
      by_cases hneg : f < 0
      · have he := hide (En.first_hit (q := fun b : Nat => decide (Gd.find I n 2 seat (b : Int) < 0)) (unhide hno') (by show decide _ = true; rw [unhide hf']; exact decide_eq_true hneg) (unhide HL))
        go_wp2
        go_ret
        exact ⟨ret_int (unhide he).symm, rfl⟩
      · have hq := hide (show decide (Gd.find I n 2 seat (k : Int) < 0) = false by rw [unhide hf']; exact decide_eq_false hneg)
        go_wp2
        go_round
        case rel => exact ⟨k + 1, by have := unhide HL; omega, by go_num, fun j hj => by
          by_cases e : j = k
          · rw [e]; exact unhide hq
          · exact unhide hno' j (by omega)⟩
        case measure => simp [intOf]; omega
    · have hge : ¬ (k : Int) < 4 := by omega
      have he := hide (En.first_none (n := 4) (q := fun b : Nat => decide (Gd.find I n 2 seat (b : Int) < 0)) (fun j hj => unhide hno' j (by omega)))
      go_wp2
      go_ret
      exact ⟨ret_int (unhide he).symm, rfl⟩

set_option maxHeartbeats 800000 in
theorem refHas_same (b n c : Nat) (I : Nat → Nat → Int) (seat lo hi : Int) (w : World) (hI : Its w b 0 n I) :
    Calls Try.prog 39 #[.slice (some ⟨b, 0, none⟩) n c, .int .i64 seat, .int .i64 lo, .int .i64 hi] w fun e w' => e = .returned (.int .i64 (Gd.has I n seat lo hi)) ∧ w' = w := by
  have ci : Hid (∀ q, Calls Try.prog 21 #[.slice (some ⟨b, 0, none⟩) n c, .int .i64 2, .int .i64 seat, .int .i64 q] w fun e w' => e = .returned (.int .i64 (Gd.find I n 2 seat q)) ∧ w' = w) := fun q => refIn7_same b n c I 2 seat q w hI
  have hI' := hide hI
  clear hI
  rw [Gd.has_car]
  go_enter Try.func39, Try.ntmps39
  go_wp2_with fail
  go_loop [9] (fun i => ∃ k : Nat, k ≤ 4 ∧ i = .int .i64 (k : Int) ∧ (∀ j : Nat, j < k → Gd.carQ I n seat (fun k => decide (lo ≤ k) && decide (k ≤ hi)) j = false)) (fun i => 200 - (intOf i).toNat)
  case atStart => exact ⟨0, by omega, rfl, fun j hj => by omega⟩
  case round =>
    obtain ⟨k, hk, rfl, hno⟩ := hrel
    have hno' := hide hno
    clear hno
    by_cases hlt : k < 4
    · have hlt' : (k : Int) < 4 := by omega
      have HL := hide hlt
      have cat := hide (unhide ci (k : Int))
      have hfl := hide (Gd.find_lt (I := I) (n := n) (p := 2) (a := seat) (q := (k : Int)))
      have hqd := hide (show Gd.carQ I n seat (fun k => decide (lo ≤ k) && decide (k ≤ hi)) k = (decide (0 ≤ Gd.find I n 2 seat (k : Int)) && (decide (lo ≤ I (Gd.find I n 2 seat (k : Int)).toNat 0) && decide (I (Gd.find I n 2 seat (k : Int)).toNat 0 ≤ hi))) from rfl)
      obtain ⟨f, hf⟩ : ∃ f, Gd.find I n 2 seat (k : Int) = f := ⟨_, rfl⟩
      have hf' := hide hf
      rw [hf] at cat hfl hqd
      clear hlt hf
      go_wp2_with fail
      refine (unhide cat).mono ?_
      rintro e w1 ⟨rfl, hw⟩
      subst w1
      clear cat
      by_cases hpos : 0 ≤ f
      · obtain ⟨m, hm, rfl⟩ : ∃ m : Nat, m < n ∧ f = (m : Int) := ⟨f.toNat, (unhide hfl hpos).1, (unhide hfl hpos).2⟩
        have u0 := ((unhide hI').row hm).1
        have hm' : (m : Int) < (n : Int) := by omega
        have hqd2 : Hid (Gd.carQ I n seat (fun k => decide (lo ≤ k) && decide (k ≤ hi)) k = (decide (lo ≤ I m 0) && decide (I m 0 ≤ hi))) := by
          show _ = _
          rw [unhide hqd, decide_eq_true hpos, Bool.true_and, Int.toNat_natCast]
        clear hfl hqd hm
        by_cases hlo : lo ≤ I m 0
        · by_cases hhi : I m 0 ≤ hi
          · have he := hide ((Gd.car_hit (unhide hno') ((unhide hqd2).trans (by simp [hlo, hhi])) (unhide HL)).trans (unhide hf'))
            go_wp2
            go_ret
            exact ⟨ret_int (unhide he).symm, rfl⟩
          · have hqf := hide ((unhide hqd2).trans (by simp [hhi] : _ = false))
            go_wp2
            go_round
            case rel => exact ⟨k + 1, by have := unhide HL; omega, by go_num, fun j hj => by
              by_cases e : j = k
              · rw [e]; exact unhide hqf
              · exact unhide hno' j (by omega)⟩
            case measure => simp [intOf]; omega
        · have hqf := hide ((unhide hqd2).trans (by simp [hlo] : _ = false))
          go_wp2
          go_round
          case rel => exact ⟨k + 1, by have := unhide HL; omega, by go_num, fun j hj => by
            by_cases e : j = k
            · rw [e]; exact unhide hqf
            · exact unhide hno' j (by omega)⟩
          case measure => simp [intOf]; omega
      · have hqf : Hid (Gd.carQ I n seat (fun k => decide (lo ≤ k) && decide (k ≤ hi)) k = false) := by
          show _ = _
          rw [unhide hqd, decide_eq_false hpos, Bool.false_and]
        have hneg : f < 0 := by omega
        clear hfl hqd
        go_wp2
        go_round
        case rel => exact ⟨k + 1, by have := unhide HL; omega, by go_num, fun j hj => by
          by_cases e : j = k
          · rw [e]; exact unhide hqf
          · exact unhide hno' j (by omega)⟩
        case measure => simp [intOf]; omega
    · have hge : ¬ (k : Int) < 4 := by omega
      have he := hide (Gd.car_none (fun j hj => unhide hno' j (by omega)))
      go_wp2
      go_ret
      exact ⟨ret_int (unhide he).symm, rfl⟩

theorem refPotion_same (b n c : Nat) (I : Nat → Nat → Int) (seat : Int) (w : World) (hI : Its w b 0 n I) :
    Calls Try.prog 22 #[.slice (some ⟨b, 0, none⟩) n c, .int .i64 seat] w fun e w' => e = .returned (.int .i64 (Gd.has I n seat 1 1)) ∧ w' = w := by
  have ch := hide (refHas_same b n c I seat 1 1 w hI)
  clear hI
  obtain ⟨r, hr⟩ : ∃ r, Gd.has I n seat 1 1 = r := ⟨_, rfl⟩
  rw [hr] at ch ⊢
  clear hr
  go_enter Try.func22, Try.ntmps22
  go_wp2_with fail
  refine (unhide ch).mono ?_
  rintro e w1 ⟨rfl, hw⟩
  subst w1
  clear ch
  go_wp2
  go_ret
  exact ⟨rfl, rfl⟩

end Go.Proofs.Ytbploaihicakeaa

namespace Go.Proofs.Ytbploaihicakeaa
open Go.RowKit

/-- Nothing has turned but new blocks, and elder ones that 'base' leaves open. -/
structure Frame (base : Nat → Prop) (x y : World) : Prop where
  os : y.os = x.os
  tape : y.tape = x.tape
  output : y.output = x.output
  size : x.heap.size ≤ y.heap.size
  block : ∀ i, i < x.heap.size → base i → y.heap[i]? = x.heap[i]?

theorem Frame.refl (base : Nat → Prop) (x : World) : Frame base x x := ⟨rfl, rfl, rfl, Nat.le_refl _, fun _ _ _ => rfl⟩

/-- What is left behind by a hero's deed: the world's own box and lists; nothing else has turned. -/
def Gd.Acted (base : Nat → Prop) (x : World) (B gC gE gI cC cE cI : Nat) (s g c : Nat → Int) (E I : Nat → Nat → Int) (e : Ending) (x' : World) : Prop :=
  e = .returned (.tuple #[]) ∧ Gd.Hold x' B gC gE gI cC cE cI s g c E I ∧ Frame base x x'

theorem below_set {b : Nat → Prop} {x y : World} (h : Frame b x y) (p i : Nat) (hp : ¬ b p) (u : Value) : Frame b x (y.setCell ⟨p, i, none⟩ u) :=
  ⟨h.os, h.tape, h.output, by simpa using h.size, fun k hk hb => (heap_setCell_other y ⟨p, i, none⟩ k u (by show k ≠ p; rintro rfl; exact hp hb)).trans (h.block k hk hb)⟩

theorem below_more {b : Nat → Prop} {x y z : World} (h : Frame b x y) (hg : y.grownBy z none) : Frame b x z :=
  ⟨hg.os.trans h.os, hg.tape.trans h.tape, hg.output.trans h.output, Nat.le_trans h.size hg.size, fun k hk hb => (hg.block k (Nat.lt_of_lt_of_le hk h.size) (fun e => by cases e)).trans (h.block k hk hb)⟩

theorem below_root {b : Nat → Prop} {x y z : World} {r : Nat} (h : Frame b x y) (hg : y.grownBy z (some r)) (hr : ¬ b r) : Frame b x z :=
  ⟨hg.os.trans h.os, hg.tape.trans h.tape, hg.output.trans h.output, Nat.le_trans h.size hg.size, fun k hk hb => (hg.block k (Nat.lt_of_lt_of_le hk h.size) (fun e => by cases e; exact hr hb)).trans (h.block k hk hb)⟩

theorem Lie.frame {b : Nat → Prop} {x y : World} {g : Nat} {T : TypeId} {m : Nat} {F : Nat → Value} (h : Lie x g T m F) (hf : Frame b x y) (hg : b g) : Lie y g T m F := by
  obtain ⟨M, K, ⟨cur, h1, h2, h3⟩, hm, hk⟩ := h
  exact ⟨M, K, ⟨cur, (hf.block g (lt_of_block h1) hg).trans h1, h2, h3⟩, hm, hk⟩

/-- What a call has made and turned, seen from a world ahead of it: new blocks alone. -/
theorem Frame.grown {b : Nat → Prop} {w x y : World} (hf : Frame b x y) (hg : w.grownBy x none) (hb : ∀ i, i < w.heap.size → b i) : w.grownBy y none :=
  ⟨hf.os.trans hg.os, hf.tape.trans hg.tape, hf.output.trans hg.output, Nat.le_trans hg.size hf.size, fun i hi hr => (hf.block i (Nat.lt_of_lt_of_le hi hg.size) (hb i hi)).trans (hg.block i hi hr)⟩

/-- A hero heals. -/
def Gd.heal (E : Nat → Nat → Int) (k : Nat) : Nat → Nat → Int := Gd.set (Gd.set E k 5 (min (E k 5 + 6) (E k 6))) k 9 0

theorem Gd.row_gone : Gd.row 0 0 0 0 = Gd.gone := by
  funext j
  unfold Gd.row Gd.gone
  split <;> rfl

theorem Gd.Hold.put {x : World} {B gC gE gI cC cE cI : Nat} {s g c : Nat → Int} {E I : Nat → Nat → Int} (h : Gd.Hold x B gC gE gI cC cE cI s g c E I) (m : Nat) (a b d e : Int) : Gd.Hold ((((x.setCell ⟨gI, m * 4, none⟩ (.int .i64 a)).setCell ⟨gI, m * 4 + 1, none⟩ (.int .i64 b)).setCell ⟨gI, m * 4 + 2, none⟩ (.int .i64 d)).setCell ⟨gI, m * 4 + 3, none⟩ (.int .i64 e)) B gC gE gI cC cE cI s g c E (En.put I m (Gd.row a b d e)) :=
  h.items (grown_put4 (World.grownBy.refl _ _) m _ _ _ _) (h.lists.items.put m a b d e)

theorem below_put4 {b : Nat → Prop} {x y : World} (h : Frame b x y) {p : Nat} (hp : ¬ b p) (m : Nat) (v0 v1 v2 v3 : Value) : Frame b x ((((y.setCell ⟨p, m * 4, none⟩ v0).setCell ⟨p, m * 4 + 1, none⟩ v1).setCell ⟨p, m * 4 + 2, none⟩ v2).setCell ⟨p, m * 4 + 3, none⟩ v3) :=
  below_set (below_set (below_set (below_set h p _ hp _) p _ hp _) p _ hp _) p _ hp _

theorem Gd.Hold.heals {x : World} {B gC gE gI cC cE cI : Nat} {s g c : Nat → Int} {E I : Nat → Nat → Int} (h : Gd.Hold x B gC gE gI cC cE cI s g c E I) (k m : Nat) (v : Int) (hv : v = min (E k 5 + 6) (E k 6)) : Gd.Hold ((((((x.setCell ⟨gE, k * 11 + 5, none⟩ (.int .i64 v)).setCell ⟨gE, k * 11 + 9, none⟩ (.int .i64 0)).setCell ⟨gI, m * 4, none⟩ (.int .i64 0)).setCell ⟨gI, m * 4 + 1, none⟩ (.int .i64 0)).setCell ⟨gI, m * 4 + 2, none⟩ (.int .i64 0)).setCell ⟨gI, m * 4 + 3, none⟩ (.int .i64 0)) B gC gE gI cC cE cI s g c (Gd.heal E k) (En.put I m Gd.gone) := by
  rw [← Gd.row_gone]
  have h1 := h.ents (grown_set0 x gE (k * 11 + 5) (.int .i64 v)) (h.lists.ents.stat k 5 (by omega) v)
  have h2 := h1.ents (grown_set0 _ gE (k * 11 + 9) (.int .i64 0)) (h1.lists.ents.stat k 9 (by omega) 0)
  have h3 := h2.put m 0 0 0 0
  unfold Gd.heal
  rw [← hv]
  exact h3

end Go.Proofs.Ytbploaihicakeaa
