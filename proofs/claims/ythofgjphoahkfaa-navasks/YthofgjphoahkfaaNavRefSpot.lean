/-
  The document's own Spot, said again.
-/
import Derived.Test.YthofgjphoahkfaaNavRefGo
namespace Go.Proofs.Ythofgjphoahkfaa
open Go.RowKit

set_option maxRecDepth 8000 in
set_option maxHeartbeats 3200000 in
theorem refSpot_any (ca : Option Addr) (cc b n c : Nat) (f : Nat → Int) (E : Nat → Nat → Int) (x y : Int) (w : World)
    (hc : Vec w.heap.size w ca 384 (Byts f)) (hf : ∀ i, 0 ≤ f i ∧ f i ≤ 255) (hE : Ents w b n E) :
    Calls Try.prog 14 #[.slice ca 384 cc, .slice (some ⟨b, 0, none⟩) n c, .int .i64 x, .int .i64 y] w (Nv.SaysSpot w f E n x y) := by
  have hc' := hide hc
  have hf' := hide hf
  have hE' := hide hE
  clear hc hf hE
  by_cases hin : Gr.inB x y = true
  case neg =>
    rw [Bool.not_eq_true] at hin
    have he := hide (Nv.spot_out (f := f) (E := E) (n := n) (show Nv.num x y = -1 from if_neg (by rw [hin]; simp)))
    have cI := hide (fun wq => refIn_any x y wq)
    rw [hin] at cI
    clear hin
    go_enter Try.func14, Try.ntmps14
    go_wp2_with fail
    refine (unhide cI _).mono ?_
    rintro e w1 ⟨rfl, rfl⟩
    go_wp2
    go_ret
    exact ⟨_, unhide he, rfl, World.grownBy.refl _ _⟩
  obtain ⟨b1, b2, b3, b4⟩ := (Gr.inB_iff _ _).1 hin
  obtain ⟨X, rfl⟩ : ∃ X : Nat, x = (X : Int) := ⟨x.toNat, by omega⟩
  obtain ⟨Y, rfl⟩ : ∃ Y : Nat, y = (Y : Int) := ⟨y.toNat, by omega⟩
  have hX : X < 24 := by omega
  have hY : Y < 16 := by omega
  have hme : Nv.num (X : Int) (Y : Int) = (Y : Int) * 24 + X := by unfold Nv.num; rw [if_pos hin]
  have hs0 : Hid (∀ F, Gr.IsField (fun i => Gr.openB f 0 (fun _ => false) i = true) (Gr.tgt f (fun _ => (Y : Int) * 24 + X) 1) F → Nv.IsSpot f E n X Y (Nv.best F (Nv.st E n) 384)) := fun F h => ⟨F, by rw [hme]; exact h, rfl⟩
  have cI := hide (fun wq => refIn_any (X : Int) (Y : Int) wq)
  rw [hin] at cI
  clear hin b1 b2 b3 b4 hme
  go_enter Try.func14, Try.ntmps14
  go_wp2_with fail
  refine (unhide cI _).mono ?_
  rintro e w1 ⟨rfl, rfl⟩
  go_wp2_with fail
  obtain ⟨w3, hw3⟩ : ∃ w3, w3 = w1.alloc (.cells #[.int .i64 ((Y : Int) * 24 + X)] 3) := ⟨_, rfl⟩
  have hB3 : Below w1.heap.size w1 w3 := by rw [hw3]; exact (Below.refl _ _).alloc (Nat.le_refl _) _
  have hV : Vec w3.heap.size w3 (some ⟨w1.heap.size, 0, none⟩) 1 (Ints fun _ => (Y : Int) * 24 + X) := by rw [hw3]; exact Nv.one_row w1 _ _
  rw [← hw3]
  refine (refField_any ca none (some ⟨w1.heap.size, 0, none⟩) 0 1 cc 0 1 f (fun _ => (Y : Int) * 24 + X) (fun _ => false) w3 (((unhide hc').kept hB3).mono hB3.size) (unhide hf') ⟨by unfold maxLen; omega, .inl rfl⟩ hV (fun _ => ⟨by omega, by omega⟩)).mono ?_
  rintro e w4 ⟨F, ⟨g2, rfl, hg2, hA4, hB4⟩, hF⟩
  have hspot := hide (unhide hs0 F hF)
  have hgw := below_grown (hB3.trans (hB4.mono hB3.size))
  have hgw' := hide hgw
  have hEw := hide ((unhide hE').on hgw)
  have hA4' := hide hA4
  clear hA4 hB4 hV hB3 hw3 hF hs0 hg2 hgw cI hE' hc'
  go_wp2_with fail
  go_loopw [10, 11] (fun s i wr => ∃ k : Nat, k ≤ 384 ∧ s = .int .i64 (Nv.best F (Nv.st E n) k) ∧ i = .int .i64 (k : Int) ∧ w4.grownBy wr none) (fun _ i _ => 384 - (intOf i).toNat)
  case atStart => exact ⟨0, by omega, rfl, rfl, World.grownBy.refl _ _⟩
  case round =>
    obtain ⟨k, hk, rfl, rfl, hgr⟩ := hrel
    by_cases hlt : k < 384
    · have hlt' : (k : Int) < 384 := by omega
      have HL := hide hlt
      have hck : wr.cell? ⟨g2, k, none⟩ = some (.int .i64 (F k)) := ((unhide hA4').grown hgr (by simp)).cell hlt
      have cA : ∀ q, Calls Try.prog 20 #[.slice (some ⟨b, 0, none⟩) n c, .int .i64 ((k % 24 : Nat) : Int), .int .i64 ((k / 24 : Nat) : Int)] (wr.drewN q) fun e w' => e = .returned (.int .i64 (En.first (En.atQ E ((k % 24 : Nat) : Int) ((k / 24 : Nat) : Int)) n)) ∧ w' = wr.drewN q := fun q => entRefAt_same b n c E _ _ _ ((unhide hEw).on (grown_drew hgr q))
      have hgd : Hid (∀ q, w4.grownBy (wr.drewN q) none) := fun q => grown_drew hgr q
      have hst : Nv.st E n k = decide (0 ≤ En.first (En.atQ E ((k % 24 : Nat) : Int) ((k / 24 : Nat) : Int)) n) := rfl
      generalize En.first (En.atQ E ((k % 24 : Nat) : Int) ((k / 24 : Nat) : Int)) n = r at cA hst
      have hcp : Hid (∀ p, p < k → wr.cell? ⟨g2, p, none⟩ = some (.int .i64 (F p))) := fun p hp => ((unhide hA4').grown hgr (by simp)).cell (by omega)
      clear hlt hk hgr
      by_cases h1 : F k < 0
      · have hb := hide (Nv.best_skip (F := F) (st := Nv.st E n) (k := k) (.inl h1))
        generalize Nv.best F (Nv.st E n) k = B at hb
        have h1' : decide (F k ≥ 0) = false := decide_eq_false (by omega)
        clear hst
        go_wp2_with fail
        go_quiet ((go_at_call 20; exact Calls.quiet_of_same (cA _)))
        go_wp2
        go_roundw
        case rel => exact ⟨k + 1, by have := unhide HL; omega, by rw [unhide hb], by go_num, unhide hgd _⟩
        case measure => have := unhide HL; simp [intOf]; omega
      have h1' : decide (F k ≥ 0) = true := decide_eq_true (by omega)
      by_cases h2 : 0 ≤ r
      · have hb := hide (Nv.best_skip (F := F) (st := Nv.st E n) (k := k) (.inr (by rw [hst]; exact decide_eq_true h2)))
        generalize Nv.best F (Nv.st E n) k = B at hb
        have h2' : decide (r < 0) = false := decide_eq_false (by omega)
        clear hst
        go_wp2_with fail
        go_quiet ((go_at_call 20; exact Calls.quiet_of_same (cA _)))
        go_wp2
        go_roundw
        case rel => exact ⟨k + 1, by have := unhide HL; omega, by rw [unhide hb], by go_num, unhide hgd _⟩
        case measure => have := unhide HL; simp [intOf]; omega
      have hsf : Nv.st E n k = false := by rw [hst]; exact decide_eq_false h2
      have h2' : decide (r < 0) = true := decide_eq_true (by omega)
      rcases Nv.best_cases F (Nv.st E n) k with e | ⟨p, hp, e⟩
      · have hb := hide (Nv.best_first (by omega) hsf e)
        rw [e]
        clear hst hsf e
        go_wp2_with fail
        go_quiet ((go_at_call 20; exact Calls.quiet_of_same (cA _)))
        go_wp2
        go_roundw
        case rel => exact ⟨k + 1, by have := unhide HL; omega, by rw [unhide hb], by go_num, unhide hgd _⟩
        case measure => have := unhide HL; simp [intOf]; omega
      have hcp' := unhide hcp p hp
      have hp' : (p : Int) < 384 := by have := unhide HL; omega
      have hp0 : decide ((p : Int) < 0) = false := decide_eq_false (by omega)
      by_cases h3 : F k < F p
      · have hb := hide (Nv.best_less (by omega) hsf e h3)
        have h3' : decide (F k < F p) = true := decide_eq_true h3
        rw [e]
        clear hst hsf e hp h3
        go_wp2_with fail
        go_quiet ((go_at_call 20; exact Calls.quiet_of_same (cA _)))
        go_wp2
        go_roundw
        case rel => exact ⟨k + 1, by have := unhide HL; omega, by rw [unhide hb], by go_num, unhide hgd _⟩
        case measure => have := unhide HL; simp [intOf]; omega
      · have hb := hide ((Nv.best_more (st := Nv.st E n) e h3).trans e)
        have h3' : decide (F k < F p) = false := decide_eq_false h3
        rw [e]
        clear hst hsf e hp h3
        go_wp2_with fail
        go_quiet ((go_at_call 20; exact Calls.quiet_of_same (cA _)))
        go_wp2
        go_roundw
        case rel => exact ⟨k + 1, by have := unhide HL; omega, by rw [unhide hb], by go_num, unhide hgd _⟩
        case measure => have := unhide HL; simp [intOf]; omega
    · have hge : ¬ (k : Int) < 384 := by omega
      obtain rfl : k = 384 := by omega
      have hgr' := hide hgr
      generalize Nv.best F (Nv.st E n) 384 = r at hspot
      clear hgr
      go_wp2
      go_ret
      exact ⟨_, unhide hspot, rfl, grown_trans (unhide hgw') (unhide hgr')⟩

end Go.Proofs.Ythofgjphoahkfaa
