/-
  What the document's chapter, said again, answers of a list: At, Hero, Id, Of; Spawn and Free; and the law package's own Same.
-/
import Derived.Test.YtbooojkhcnfhbaaEntMath
import Derived.Laws.AppendOwnNone
namespace Go.Proofs.Ytbooojkhcnfhbaa
open Go.RowKit

theorem refId_any (b n c : Nat) (E : Nat → Nat → Int) (row : Int) (w : World) (hE : Ents w b n E) (hG : En.Gens n E) :
    Calls Try.prog 21 #[.slice (some ⟨b, 0, none⟩) n c, .int .i64 row] w (Says w (.int .i64 (En.id n E row))) := by
  have hn := hE.1
  have hn' : (n : Int) ≤ 32 := by omega
  by_cases h0 : row < 0
  · have he := hide (En.id_out (n := n) (E := E) (row := row) (by omega))
    clear hE hG
    go_enter Try.func21, Try.ntmps21
    go_wp2
    go_ret
    exact ⟨ret_int (unhide he).symm, World.grownBy.refl _ _⟩
  · by_cases h1 : row < (n : Int)
    · obtain ⟨k, rfl⟩ : ∃ k : Nat, row = (k : Int) := ⟨row.toNat, by omega⟩
      have hk : k < n := by omega
      obtain ⟨g0, g1⟩ := hG k hk
      obtain ⟨u0, u1, _⟩ := hE.row hk
      clear hE hG h0
      by_cases hf : E k 0 = 0
      · have he := hide (En.id_free (n := n) hf)
        go_enter Try.func21, Try.ntmps21
        go_wp2
        go_ret
        exact ⟨ret_int (unhide he).symm, World.grownBy.refl _ _⟩
      · have he := hide (En.id_at hk hf)
        have hf' : (E k 0 == 0) = false := by simp [hf]
        have hk0 : ¬ (k : Int) < 0 := by omega
        have hk1 : ¬ n ≤ k := by omega
        clear hf
        go_enter Try.func21, Try.ntmps21
        go_wp2
        go_ret
        exact ⟨ret_int (unhide he).symm, World.grownBy.refl _ _⟩
    · have he := hide (En.id_out (n := n) (E := E) (row := row) (by omega))
      clear hE hG
      go_enter Try.func21, Try.ntmps21
      go_wp2
      go_ret
      exact ⟨ret_int (unhide he).symm, World.grownBy.refl _ _⟩

set_option maxHeartbeats 800000 in
theorem refAt_any (b n c : Nat) (E : Nat → Nat → Int) (x y : Int) (w : World) (hE : Ents w b n E) :
    Calls Try.prog 17 #[.slice (some ⟨b, 0, none⟩) n c, .int .i64 x, .int .i64 y] w (Says w (.int .i64 (En.first (En.atQ E x y) n))) := by
  have hn := hE.1
  have hE' := hide hE
  skip
  clear hE
  go_enter Try.func17, Try.ntmps17
  go_wp2_with fail
  go_loop [7] (fun i => ∃ k : Nat, k ≤ n ∧ i = .int .i64 (k : Int) ∧ ∀ j, j < k → En.atQ E x y j = false) (fun i => 40 - (intOf i).toNat)
  case atStart => exact ⟨0, by omega, rfl, fun j hj => by omega⟩
  case round =>
    obtain ⟨k, hk, rfl, hno⟩ := hrel
    have hno' := hide hno
    clear hno
    by_cases hlt : k < n
    · obtain ⟨u0, _, _, u3, u4, _⟩ := (unhide hE').row hlt
      have hlt' : (k : Int) < (n : Int) := by omega
      have HL := hide hlt
      skip
      clear hlt
      by_cases hf : E k 0 = 0
      · have hq : Hid (En.atQ E x y k = false) := En.atQ_free hf
        go_wp2
        go_round
        case rel => exact ⟨k + 1, by have := unhide HL; omega, by go_num, fun j hj => by
          by_cases e : j = k
          · rw [e]; exact unhide hq
          · exact unhide hno' j (by omega)⟩
        case measure => simp [intOf]; omega
      · have hf' : (E k 0 == 0) = false := by simp [hf]
        by_cases h3 : E k 3 = x
        · by_cases h4 : E k 4 = y
          · have hq : Hid (En.atQ E x y k = true) := by show En.atQ E x y k = true; rw [En.atQ_some hf]; simp [h3, h4]
            have he := hide (En.first_hit (unhide hno') (unhide hq) (unhide HL))
            go_wp2
            go_ret
            exact ⟨ret_int (unhide he).symm, World.grownBy.refl _ _⟩
          · have hq : Hid (En.atQ E x y k = false) := by show En.atQ E x y k = false; rw [En.atQ_some hf]; simp [h4]
            have h4' : (E k 4 == y) = false := by simp [h4]
            go_wp2
            go_round
            case rel => exact ⟨k + 1, by have := unhide HL; omega, by go_num, fun j hj => by
              by_cases e : j = k
              · rw [e]; exact unhide hq
              · exact unhide hno' j (by omega)⟩
            case measure => simp [intOf]; omega
        · have hq : Hid (En.atQ E x y k = false) := by show En.atQ E x y k = false; rw [En.atQ_some hf]; simp [h3]
          have h3' : (E k 3 == x) = false := by simp [h3]
          go_wp2
          go_round
          case rel => exact ⟨k + 1, by have := unhide HL; omega, by go_num, fun j hj => by
            by_cases e : j = k
            · rw [e]; exact unhide hq
            · exact unhide hno' j (by omega)⟩
          case measure => simp [intOf]; omega
    · have hge : ¬ (k : Int) < (n : Int) := by omega
      have he := hide (En.first_none (n := n) (fun j hj => unhide hno' j (by omega)))
      go_wp2
      go_ret
      exact ⟨ret_int (unhide he).symm, World.grownBy.refl _ _⟩

set_option maxHeartbeats 800000 in
theorem refHero_any (b n c : Nat) (E : Nat → Nat → Int) (seat : Int) (w : World) (hE : Ents w b n E) :
    Calls Try.prog 19 #[.slice (some ⟨b, 0, none⟩) n c, .int .i64 seat] w (Says w (.int .i64 (En.first (En.heroQ E seat) n))) := by
  have hn := hE.1
  have hE' := hide hE
  skip
  clear hE
  go_enter Try.func19, Try.ntmps19
  go_wp2_with fail
  go_loop [5] (fun i => ∃ k : Nat, k ≤ n ∧ i = .int .i64 (k : Int) ∧ ∀ j, j < k → En.heroQ E seat j = false) (fun i => 40 - (intOf i).toNat)
  case atStart => exact ⟨0, by omega, rfl, fun j hj => by omega⟩
  case round =>
    obtain ⟨k, hk, rfl, hno⟩ := hrel
    have hno' := hide hno
    clear hno
    by_cases hlt : k < n
    · obtain ⟨u0, _, u2, _⟩ := (unhide hE').row hlt
      have hlt' : (k : Int) < (n : Int) := by omega
      have HL := hide hlt
      skip
      clear hlt
      by_cases hf : E k 0 = 1
      · by_cases h3 : E k 2 = seat
        · have hq : Hid (En.heroQ E seat k = true) := by show En.heroQ E seat k = true; simp [En.heroQ, hf, h3]
          have he := hide (En.first_hit (unhide hno') (unhide hq) (unhide HL))
          go_wp2
          go_ret
          exact ⟨ret_int (unhide he).symm, World.grownBy.refl _ _⟩
        · have hq : Hid (En.heroQ E seat k = false) := by show En.heroQ E seat k = false; simp [En.heroQ, h3]
          have h3' : (E k 2 == seat) = false := by simp [h3]
          go_wp2
          go_round
          case rel => exact ⟨k + 1, by have := unhide HL; omega, by go_num, fun j hj => by
            by_cases e : j = k
            · rw [e]; exact unhide hq
            · exact unhide hno' j (by omega)⟩
          case measure => simp [intOf]; omega
      · have hq : Hid (En.heroQ E seat k = false) := by show En.heroQ E seat k = false; simp [En.heroQ, hf]
        have hf' : (E k 0 == 1) = false := by simp [hf]
        go_wp2
        go_round
        case rel => exact ⟨k + 1, by have := unhide HL; omega, by go_num, fun j hj => by
          by_cases e : j = k
          · rw [e]; exact unhide hq
          · exact unhide hno' j (by omega)⟩
        case measure => simp [intOf]; omega
    · have hge : ¬ (k : Int) < (n : Int) := by omega
      have he := hide (En.first_none (n := n) (fun j hj => unhide hno' j (by omega)))
      go_wp2
      go_ret
      exact ⟨ret_int (unhide he).symm, World.grownBy.refl _ _⟩

set_option maxHeartbeats 800000 in
theorem refOf_any (b n c : Nat) (E : Nat → Nat → Int) (id : Int) (w : World) (hE : Ents w b n E) (hG : En.Gens n E) :
    Calls Try.prog 23 #[.slice (some ⟨b, 0, none⟩) n c, .int .i64 id] w (Says w (.int .i64 (En.first (En.ofQ E id) n))) := by
  have hn := hE.1
  have hE' := hide hE
  have hG2 := hide hG
  clear hE hG
  go_enter Try.func23, Try.ntmps23
  go_wp2_with fail
  go_loop [5] (fun i => ∃ k : Nat, k ≤ n ∧ i = .int .i64 (k : Int) ∧ ∀ j, j < k → En.ofQ E id j = false) (fun i => 40 - (intOf i).toNat)
  case atStart => exact ⟨0, by omega, rfl, fun j hj => by omega⟩
  case round =>
    obtain ⟨k, hk, rfl, hno⟩ := hrel
    have hno' := hide hno
    clear hno
    by_cases hlt : k < n
    · obtain ⟨u0, u1, _⟩ := (unhide hE').row hlt
      have hlt' : (k : Int) < (n : Int) := by omega
      have HL := hide hlt
      obtain ⟨g0, g1⟩ := unhide hG2 k hlt
      clear hlt
      by_cases hf : E k 0 = 0
      · have hq : Hid (En.ofQ E id k = false) := En.ofQ_free hf
        go_wp2
        go_round
        case rel => exact ⟨k + 1, by have := unhide HL; omega, by go_num, fun j hj => by
          by_cases e : j = k
          · rw [e]; exact unhide hq
          · exact unhide hno' j (by omega)⟩
        case measure => simp [intOf]; omega
      · have hf' : (E k 0 == 0) = false := by simp [hf]
        by_cases h3 : (k : Int) + 32 * E k 1 = id
        · have hq : Hid (En.ofQ E id k = true) := by show En.ofQ E id k = true; rw [En.ofQ_some hf]; exact decide_eq_true h3
          have he := hide (En.first_hit (unhide hno') (unhide hq) (unhide HL))
          go_wp2
          go_ret
          exact ⟨ret_int (unhide he).symm, World.grownBy.refl _ _⟩
        · have hq : Hid (En.ofQ E id k = false) := by show En.ofQ E id k = false; rw [En.ofQ_some hf]; exact decide_eq_false h3
          have h3' : ((k : Int) + 32 * E k 1 == id) = false := by simp [h3]
          go_wp2
          go_round
          case rel => exact ⟨k + 1, by have := unhide HL; omega, by go_num, fun j hj => by
            by_cases e : j = k
            · rw [e]; exact unhide hq
            · exact unhide hno' j (by omega)⟩
          case measure => simp [intOf]; omega
    · have hge : ¬ (k : Int) < (n : Int) := by omega
      have he := hide (En.first_none (n := n) (fun j hj => unhide hno' j (by omega)))
      go_wp2
      go_ret
      exact ⟨ret_int (unhide he).symm, World.grownBy.refl _ _⟩

end Go.Proofs.Ytbooojkhcnfhbaa
