/-
  What the small functions of ents, of the document said again, and of the law package answer.
-/
import Derived.Test.YtbooojkhcnfhbaaEntMem
namespace Go.Proofs.Ytbooojkhcnfhbaa
open Go.RowKit

theorem Gr.within_neg (a n : Int) (hn : 0 < n) (h : a.tmod n < 0) : a.tmod n + n = a % n := by
  have := Int.emod_nonneg a (b := n) (by omega)
  have := Int.emod_lt_of_pos a hn
  have e := Int.emod_eq_tmod (a := a) (b := n)
  by_cases hc : 0 ≤ a ∨ n ∣ a
  · rw [if_pos hc] at e; omega
  · rw [if_neg hc] at e; omega

theorem Gr.within_pos (a n : Int) (hn : 0 < n) (h : ¬ a.tmod n < 0) : a.tmod n = a % n := by
  have := Int.emod_lt_of_pos a hn
  have e := Int.emod_eq_tmod (a := a) (b := n)
  by_cases hc : 0 ≤ a ∨ n ∣ a
  · rw [if_pos hc] at e; omega
  · rw [if_neg hc] at e; omega

set_option maxHeartbeats 400000 in
theorem within_any (a n : Int) (w : World) (hn : 0 < n) (hn2 : n ≤ 4611686018427387904) :
    Calls Try.prog 8 #[.int .i64 a, .int .i64 n] w fun e w' => e = .returned (.int .i64 (a % n)) ∧ w' = w := by
  have t1 := Int.tmod_lt_of_pos a (b := n) hn
  have t2 := Int.lt_tmod_of_pos a (b := n) hn
  have hn0 : (n == 0) = false := by simp; omega
  by_cases h : a.tmod n < 0
  · have ha : ¬ 0 ≤ a := by
      intro h0
      have := Int.tmod_nonneg n h0
      omega
    have hd := hide (Gr.within_neg a n hn h)
    go_enter Try.func8, Try.ntmps8
    go_wp2
    go_ret
    exact ⟨ret_int (unhide hd), rfl⟩
  · have hd := hide (Gr.within_pos a n hn h)
    by_cases ha : 0 ≤ a
    · have e : a.tmod n = a % n := Int.tmod_eq_emod_of_nonneg ha
      have h' : ¬ a % n < 0 := by rw [← e]; exact h
      clear h t1 t2 e
      go_enter Try.func8, Try.ntmps8
      go_wp2
      go_ret
      exact ⟨rfl, rfl⟩
    · go_enter Try.func8, Try.ntmps8
      go_wp2
      go_ret
      exact ⟨ret_int (unhide hd), rfl⟩

theorem isFree_any (e : Nat → Int) (w : World) : Calls Try.prog 27 #[.agg (En.cells e)] w (Says w (.bool (decide (e 0 = 0)))) := by
  unfold En.cells
  go_enter Try.func27, Try.ntmps27
  go_wp2
  go_ret
  exact ⟨rfl, World.grownBy_alloc _ _ _⟩

theorem slice_ents (a : Option Addr) (len cap k : Nat) (w : World) (hk : k ≤ cap) :
    (Instr.slice 22 (.slice a len cap) none (some (.int .i64 (k : Int))) none).run Try.prog w = .ok (.slice a k cap) w := by
  have hs : (sizeOf (Try.prog.elem 22)).run Try.prog w = .ok 11 w := by kernel_rfl
  rw [run_slice_h w 22 a len cap (by kernel_rfl) .i64 (k : Int) (by omega) (by omega), hs]
  have e : a.map (fun x => x.add (0 * 11)) = a := by
    cases a with
    | none => rfl
    | some x => simp [Addr.add]
  simp only [Result.andThen, sliced, e, Int.toNat_natCast, Nat.sub_zero, ite_self]

theorem rows_any (a : Option Addr) (n c : Nat) (w : World) (hn : n ≤ 32) (hc : n ≤ c) :
    Calls Try.prog 26 #[.slice a n c] w fun e w' => e = .returned (.slice a n c) ∧ w' = w := by
  have hs := fun wx => slice_ents a n c n wx hc
  have hm : min (n : Int) 32 = (n : Int) := by omega
  go_enter Try.func26, Try.ntmps26
  go_wp2
  go_ret
  exact ⟨rfl, rfl⟩

def En.isRow (n : Nat) (row : Int) : Bool := decide (0 ≤ row ∧ row < n)

theorem isRow_any (a : Option Addr) (n c : Nat) (row : Int) (w : World) (hn : n ≤ 32) (hc : n ≤ c) :
    Calls Try.prog 29 #[.slice a n c, .int .i64 row] w fun e w' => e = .returned (.bool (En.isRow n row)) ∧ w' = w := by
  have hn' : (n : Int) ≤ 32 := by omega
  by_cases h : 0 ≤ row
  · by_cases h2 : row < (n : Int)
    · have hd : Hid (En.isRow n row = true) := decide_eq_true (show 0 ≤ row ∧ row < (n : Int) from ⟨h, h2⟩)
      go_enter Try.func29, Try.ntmps29
      go_wp2_with (go_at_call 26; refine (rows_any _ _ _ _ hn hc).mono ?_; rintro e w' ⟨rfl, hw⟩; subst w')
      go_ret
      exact ⟨ret_bool (unhide hd).symm, rfl⟩
    · have hd : Hid (En.isRow n row = false) := decide_eq_false (show ¬ (0 ≤ row ∧ row < (n : Int)) by omega)
      go_enter Try.func29, Try.ntmps29
      go_wp2_with (go_at_call 26; refine (rows_any _ _ _ _ hn hc).mono ?_; rintro e w' ⟨rfl, hw⟩; subst w')
      go_ret
      exact ⟨ret_bool ((decide_eq_false (show ¬ row < (n : Int) by omega)).trans (unhide hd).symm), rfl⟩
  · have hd : Hid (En.isRow n row = false) := decide_eq_false (show ¬ (0 ≤ row ∧ row < (n : Int)) by omega)
    go_enter Try.func29, Try.ntmps29
    go_wp2
    go_ret
    exact ⟨ret_bool (unhide hd).symm, rfl⟩

/-- A row's id: -1, if there is no such row, or it is free. -/
def En.id (n : Nat) (E : Nat → Nat → Int) (row : Int) : Int := if 0 ≤ row ∧ row < n ∧ E row.toNat 0 ≠ 0 then row + 32 * E row.toNat 1 else -1

theorem En.id_at {n : Nat} {E : Nat → Nat → Int} {k : Nat} (hk : k < n) (h : E k 0 ≠ 0) : En.id n E (k : Int) = (k : Int) + 32 * E k 1 := by
  unfold En.id
  rw [Int.toNat_natCast, if_pos ⟨by omega, by omega, h⟩]

theorem En.id_free {n : Nat} {E : Nat → Nat → Int} {k : Nat} (h : E k 0 = 0) : En.id n E (k : Int) = -1 := by
  unfold En.id
  rw [Int.toNat_natCast, if_neg (by rintro ⟨_, _, h'⟩; exact h' h)]

theorem En.id_out {n : Nat} {E : Nat → Nat → Int} {row : Int} (h : ¬ (0 ≤ row ∧ row < n)) : En.id n E row = -1 := by
  unfold En.id
  rw [if_neg (by rintro ⟨h1, h2, _⟩; exact h ⟨h1, h2⟩)]

/-- Gen is 0 to 255. -/
def En.Gens (n : Nat) (E : Nat → Nat → Int) : Prop := ∀ i, i < n → 0 ≤ E i 1 ∧ E i 1 ≤ 255

set_option maxHeartbeats 800000 in
theorem id_any (b n c : Nat) (E : Nat → Nat → Int) (row : Int) (w : World) (hE : Ents w b n E) (hc : n ≤ c) (hG : En.Gens n E) :
    Calls Try.prog 20 #[.slice (some ⟨b, 0, none⟩) n c, .int .i64 row] w (Says w (.int .i64 (En.id n E row))) := by
  have hn := hE.1
  have cr : ∀ x : World, Calls Try.prog 29 #[.slice (some ⟨b, 0, none⟩) n c, .int .i64 row] x fun e w' => e = .returned (.bool (En.isRow n row)) ∧ w' = x := fun x => isRow_any _ n c row x hn hc
  by_cases h : 0 ≤ row ∧ row < (n : Int)
  · obtain ⟨k, rfl⟩ : ∃ k : Nat, row = (k : Int) := ⟨row.toNat, by omega⟩
    have hk : k < n := by omega
    have hk' : (k : Int) < (n : Int) := by omega
    have hk32 : (k : Int) < 32 := by omega
    obtain ⟨g0, g1⟩ := hG k hk
    have hd : En.isRow n (k : Int) = true := decide_eq_true h
    rw [hd] at cr
    have u : ∀ j, j < 11 → w.cell? ⟨b, k * 11 + j, none⟩ = some (.int .i64 (E k j)) := fun j hj => hE.2.2 k j hk hj
    have u0 := u 0 (by omega)
    rw [Nat.add_zero] at u0
    have u1 := u 1 (by omega)
    have u2 := u 2 (by omega)
    have u3 := u 3 (by omega)
    have u4 := u 4 (by omega)
    have u5 := u 5 (by omega)
    have u6 := u 6 (by omega)
    have u7 := u 7 (by omega)
    have u8 := u 8 (by omega)
    have u9 := u 9 (by omega)
    have u10 := u 10 (by omega)
    have hE' := hide hE
    have cf := hide (isFree_any (E k) w)
    have keep : Hid (∀ x, w.grownBy x none → x.cell? ⟨b, k * 11 + 1, none⟩ = some (.int .i64 (E k 1))) := fun x hg => (hE.on hg).2.2 k 1 hk (by omega)
    clear hE hG hd u h
    by_cases hf : E k 0 = 0
    · have he := hide (En.id_free (n := n) hf)
      have hfd := hide (decide_eq_true hf)
      clear hf
      go_enter Try.func20, Try.ntmps20
      go_wp2_with (go_at_call 29; refine (cr _).mono ?_; rintro e w' ⟨rfl, hw⟩; subst w')
      refine (unhide cf).mono ?_
      rintro e w1 ⟨rfl, hg⟩
      rw [unhide hfd]
      have hg' := hide hg
      clear u0 u1 u2 u3 u4 u5 u6 u7 u8 u9 u10 hg
      go_wp2
      go_ret
      exact ⟨ret_int (unhide he).symm, unhide hg'⟩
    · have he := hide (En.id_at hk hf)
      have hfd := hide (decide_eq_false hf)
      clear hf
      go_enter Try.func20, Try.ntmps20
      go_wp2_with (go_at_call 29; refine (cr _).mono ?_; rintro e w' ⟨rfl, hw⟩; subst w')
      refine (unhide cf).mono ?_
      rintro e w1 ⟨rfl, hg⟩
      rw [unhide hfd]
      have u := unhide keep w1 hg
      have hg' := hide hg
      clear u0 u1 u2 u3 u4 u5 u6 u7 u8 u9 u10 hg
      go_wp2
      go_ret
      exact ⟨ret_int (unhide he).symm, unhide hg'⟩
  · have he := hide (En.id_out (E := E) h)
    have hd : En.isRow n row = false := decide_eq_false h
    rw [hd] at cr
    clear hE hG hd h
    go_enter Try.func20, Try.ntmps20
    go_wp2_with (go_at_call 29; refine (cr _).mono ?_; rintro e w' ⟨rfl, hw⟩; subst w')
    go_ret
    exact ⟨ret_int (unhide he).symm, World.grownBy.refl _ _⟩

end Go.Proofs.Ytbooojkhcnfhbaa
