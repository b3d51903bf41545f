/-
  The nearest cell where nobody stands: what it is, and that nav's Spot answers it.
-/
import Derived.Test.YthofgjphoahkfaaNavToward
namespace Go.Proofs.Ythofgjphoahkfaa
open Go.RowKit

/-- Of the first k cells that are reached and where nobody stands the nearest, of several the lowest; -1: there is none. -/
def Nv.best (F : Nat → Int) (st : Nat → Bool) : Nat → Int
  | 0 => -1
  | k + 1 => if 0 ≤ F k ∧ st k = false ∧ (Nv.best F st k < 0 ∨ F k < F (Nv.best F st k).toNat) then (k : Int) else Nv.best F st k

theorem Nv.best_cases (F : Nat → Int) (st : Nat → Bool) : ∀ k, Nv.best F st k = -1 ∨ ∃ p : Nat, p < k ∧ Nv.best F st k = (p : Int)
  | 0 => .inl rfl
  | k + 1 => by
      unfold Nv.best
      split
      · exact .inr ⟨k, by omega, rfl⟩
      · rcases Nv.best_cases F st k with h | ⟨p, hp, h⟩
        · exact .inl h
        · exact .inr ⟨p, by omega, h⟩

theorem Nv.best_congr {F H : Nat → Int} {st : Nat → Bool} : ∀ k, (∀ i, i < k → F i = H i) → Nv.best F st k = Nv.best H st k
  | 0, _ => rfl
  | k + 1, h => by
      have ih := Nv.best_congr (st := st) k fun i hi => h i (by omega)
      unfold Nv.best
      rw [ih, h k (by omega)]
      rcases Nv.best_cases H st k with e | ⟨p, hp, e⟩
      · rw [e]; simp
      · rw [e, Int.toNat_natCast, h p (by omega)]

theorem Nv.best_none {F : Nat → Int} {st : Nat → Bool} : ∀ k, (∀ i, i < k → F i < 0) → Nv.best F st k = -1
  | 0, _ => rfl
  | k + 1, h => by
      unfold Nv.best
      rw [if_neg (by rintro ⟨h1, _⟩; have := h k (by omega); omega)]
      exact Nv.best_none k fun i hi => h i (by omega)

theorem Nv.best_skip {F : Nat → Int} {st : Nat → Bool} {k : Nat} (h : F k < 0 ∨ st k = true) : Nv.best F st (k + 1) = Nv.best F st k := by
  show (if _ then _ else _) = _
  rw [if_neg]
  rintro ⟨h1, h2, _⟩
  rcases h with h | h
  · omega
  · rw [h] at h2; cases h2

theorem Nv.best_first {F : Nat → Int} {st : Nat → Bool} {k : Nat} (h1 : 0 ≤ F k) (h2 : st k = false) (h : Nv.best F st k = -1) : Nv.best F st (k + 1) = (k : Int) := by
  show (if _ then _ else _) = _
  rw [if_pos ⟨h1, h2, .inl (by omega)⟩]

theorem Nv.best_less {F : Nat → Int} {st : Nat → Bool} {k p : Nat} (h1 : 0 ≤ F k) (h2 : st k = false) (h : Nv.best F st k = (p : Int)) (hlt : F k < F p) : Nv.best F st (k + 1) = (k : Int) := by
  show (if _ then _ else _) = _
  rw [if_pos ⟨h1, h2, .inr (by rw [h, Int.toNat_natCast]; exact hlt)⟩]

theorem Nv.best_more {F : Nat → Int} {st : Nat → Bool} {k p : Nat} (h : Nv.best F st k = (p : Int)) (hlt : ¬ F k < F p) : Nv.best F st (k + 1) = Nv.best F st k := by
  show (if _ then _ else _) = _
  rw [if_neg]
  rintro ⟨_, _, h3 | h3⟩
  · omega
  · rw [h, Int.toNat_natCast] at h3; exact hlt h3

/-- What Spot answers, by the one field that there is. -/
def Nv.IsSpot (f : Nat → Int) (E : Nat → Nat → Int) (n : Nat) (x y v : Int) : Prop :=
  ∃ F : Nat → Int, Gr.IsField (fun i => Gr.openB f 0 (fun _ => false) i = true) (Gr.tgt f (fun _ => Nv.num x y) 1) F ∧ v = Nv.best F (Nv.st E n) 384

theorem Nv.IsSpot.one {f : Nat → Int} {E : Nat → Nat → Int} {n : Nat} {x y v v' : Int} (h : Nv.IsSpot f E n x y v) (h' : Nv.IsSpot f E n x y v') : v' = v := by
  obtain ⟨F, hF, rfl⟩ := h
  obtain ⟨H, hH, rfl⟩ := h'
  exact Nv.best_congr 384 fun i hi => hH.one hF i hi

theorem Nv.spot_out {f : Nat → Int} {E : Nat → Nat → Int} {n : Nat} {x y : Int} (h : Nv.num x y = -1) : Nv.IsSpot f E n x y (-1) :=
  ⟨fun _ => -1,
    { lo := fun _ _ => by omega
      zero := fun i _ => ⟨fun e => by omega, fun ⟨_, j, _, e⟩ => by simp only [h] at e; omega⟩
      back := fun _ _ e => by omega
      fwd := fun _ _ e => by omega },
    (Nv.best_none 384 fun _ _ => by omega).symm⟩

/-- A call answers what Spot answers; nothing that was there has turned. -/
def Nv.SaysSpot (w : World) (f : Nat → Int) (E : Nat → Nat → Int) (n : Nat) (x y : Int) (e : Ending) (w' : World) : Prop := ∃ v, Nv.IsSpot f E n x y v ∧ e = .returned (.int .i64 v) ∧ w.grownBy w' none

theorem Nv.num_bd (x y : Int) : -1 ≤ Nv.num x y ∧ Nv.num x y < 384 := by
  rcases Nv.num_cases x y with h | ⟨p, hp, h⟩ <;> omega

theorem Nv.one_row (w : World) (v : Int) (T : TypeId) : Vec (w.alloc (.cells #[.int .i64 v] T)).heap.size (w.alloc (.cells #[.int .i64 v] T)) (some ⟨w.heap.size, 0, none⟩) 1 (Ints fun _ => v) :=
  ⟨by unfold maxLen; omega, .inr ⟨_, 0, rfl, by simp, fun i hi => by
    obtain rfl : i = 0 := by omega
    exact cell_boxed w _ T _ rfl⟩⟩

set_option maxRecDepth 8000 in
set_option maxHeartbeats 1600000 in
theorem navSpot_any (ca a : Option Addr) (cc n c : Nat) (f : Nat → Int) (E : Nat → Nat → Int) (x y : Int) (w : World)
    (hc : Vec w.heap.size w ca 384 (Byts f)) (hf : ∀ i, 0 ≤ f i ∧ f i ≤ 255) (hL : Nv.Lst w a n c E) (hW : Nv.Words n E)
    (x1 : -9223372036854775808 ≤ x) (x2 : x ≤ 9223372036854775807) (y1 : -9223372036854775808 ≤ y) (y2 : y ≤ 9223372036854775807) :
    Calls Try.prog 13 #[.slice ca 384 cc, .slice a n c, .int .i64 x, .int .i64 y] w (Nv.SaysSpot w f E n x y) := by
  have hc' := hide hc
  have hf' := hide hf
  have hL' := hide hL
  have hW' := hide hW
  have cn := hide (fun w' => numberAt_any x y w' x1 x2 y1 y2)
  have hv := hide (Nv.num_bd x y)
  have hs0 : Hid (∀ F, Gr.IsField (fun i => Gr.openB f 0 (fun _ => false) i = true) (Gr.tgt f (fun _ => Nv.num x y) 1) F → Nv.IsSpot f E n x y (Nv.best F (Nv.st E n) 384)) := fun F h => ⟨F, h, rfl⟩
  generalize Nv.num x y = v at *
  clear hc hf hL hW x1 x2 y1 y2
  go_enter Try.func13, Try.ntmps13
  go_wp2_with fail
  refine (taken_any a n c E _ (unhide hL') (unhide hW')).mono ?_
  rintro e w2 ⟨g, rfl, hg, hA, hB⟩
  have hA' := hide hA
  have hB' := hide hB
  clear hA hB
  go_wp2_with fail
  refine (point_any _ _ _).mono ?_
  rintro e w1 ⟨rfl, rfl⟩
  go_wp2_with fail
  refine (unhide cn _).mono ?_
  rintro e w1 ⟨rfl, rfl⟩
  go_wp2_with fail
  obtain ⟨w3, hw3⟩ : ∃ w3, w3 = w1.alloc (.cells #[.int .i64 v] 3) := ⟨_, rfl⟩
  have hB3 : Below w.heap.size w w3 := by rw [hw3]; exact (unhide hB').alloc (unhide hB').size _
  have hA3 : Arr w3 g 4 384 (Bols (Nv.st E n)) := by rw [hw3]; exact (unhide hA').alloc _
  have hV : Vec w3.heap.size w3 (some ⟨w1.heap.size, 0, none⟩) 1 (Ints fun _ => v) := by rw [hw3]; exact Nv.one_row w1 v _
  obtain ⟨v1, v2⟩ := unhide hv
  rw [← hw3]
  refine (field_any ca none (some ⟨w1.heap.size, 0, none⟩) 0 1 cc 0 1 f (fun _ => v) (fun _ => false) w3 (((unhide hc').kept hB3).mono hB3.size) (unhide hf') ⟨by unfold maxLen; omega, .inl rfl⟩ hV (fun _ => ⟨by omega, by omega⟩)).mono ?_
  rintro e w4 ⟨F, ⟨g2, rfl, hg2, hA4, hB4⟩, hF⟩
  have hspot := hide (unhide hs0 F hF)
  have hgw' := hide (below_grown (hB3.trans (hB4.mono hB3.size)))
  have hAb' := hide (hA3.kept hB4 hA3.lt)
  have hA4' := hide hA4
  clear hA4 hB4 hA3 hV hB3 hw3 hF hs0 v1 v2 cn hA' hB' hg2
  go_wp2_with fail
  go_loop [11, 25] (fun s i => ∃ k : Nat, k ≤ 384 ∧ s = .int .i64 (Nv.best F (Nv.st E n) k) ∧ i = .int .i64 (k : Int)) (fun _ i => 384 - (intOf i).toNat)
  case atStart => exact ⟨0, by omega, rfl, rfl⟩
  case round =>
    obtain ⟨k, hk, rfl, rfl⟩ := hrel
    by_cases hlt : k < 384
    · have hlt' : (k : Int) < 384 := by omega
      have HL := hide hlt
      have hck : w4.cell? ⟨g2, k, none⟩ = some (.int .i64 (F k)) := (unhide hA4').cell hlt
      have hcs : w4.cell? ⟨g, k, none⟩ = some (.bool (Nv.st E n k)) := (unhide hAb').cell hlt
      clear hlt hk
      by_cases h1 : F k < 0
      · have hb := hide (Nv.best_skip (F := F) (st := Nv.st E n) (k := k) (.inl h1))
        generalize Nv.best F (Nv.st E n) k = r at hb
        go_wp2
        go_round
        case rel => exact ⟨k + 1, by have := unhide HL; omega, by rw [unhide hb], by go_num⟩
        case measure => have := unhide HL; simp [intOf]; omega
      · by_cases h2 : Nv.st E n k = true
        · have hb := hide (Nv.best_skip (F := F) (st := Nv.st E n) (k := k) (.inr h2))
          rw [h2] at hcs
          generalize Nv.best F (Nv.st E n) k = r at hb
          clear h2
          go_wp2
          go_round
          case rel => exact ⟨k + 1, by have := unhide HL; omega, by rw [unhide hb], by go_num⟩
          case measure => have := unhide HL; simp [intOf]; omega
        · rw [Bool.not_eq_true] at h2
          rw [h2] at hcs
          rcases Nv.best_cases F (Nv.st E n) k with e | ⟨p, hp, e⟩
          · have hb := hide (Nv.best_first (by omega) h2 e)
            rw [e]
            clear h2 e
            go_wp2
            go_round
            case rel => exact ⟨k + 1, by have := unhide HL; omega, by rw [unhide hb], by go_num⟩
            case measure => have := unhide HL; simp [intOf]; omega
          · have hcp : w4.cell? ⟨g2, p, none⟩ = some (.int .i64 (F p)) := (unhide hA4').cell (by have := unhide HL; omega)
            have hp' : (p : Int) < 384 := by have := unhide HL; omega
            by_cases h3 : F k < F p
            · have hb := hide (Nv.best_less (by omega) h2 e h3)
              rw [e]
              clear h2 e hp
              go_wp2
              go_round
              case rel => exact ⟨k + 1, by have := unhide HL; omega, by rw [unhide hb], by go_num⟩
              case measure => have := unhide HL; simp [intOf]; omega
            · have hb := hide ((Nv.best_more (st := Nv.st E n) e h3).trans e)
              rw [e]
              clear h2 e hp
              go_wp2
              go_round
              case rel => exact ⟨k + 1, by have := unhide HL; omega, by rw [unhide hb], by go_num⟩
              case measure => have := unhide HL; simp [intOf]; omega
    · have hge : ¬ (k : Int) < 384 := by omega
      obtain rfl : k = 384 := by omega
      generalize Nv.best F (Nv.st E n) 384 = r at hspot
      go_wp2
      go_ret
      exact ⟨_, unhide hspot, rfl, unhide hgw'⟩

end Go.Proofs.Ythofgjphoahkfaa
