/-
  The document's own Toward and Spot, said again: they answer the same numbers.
-/
import Derived.Test.YthofgjphoahkfaaNavSpot
import Derived.Test.YthofgjphoahkfaaGridRef
import Derived.BigQuiet
namespace Go.Proofs.Ythofgjphoahkfaa
open Go.RowKit

/-- What is blocked behind the first k rows. -/
def Nv.blTo (E : Nat → Nat → Int) (m : Nat) : Nat → Nat → Bool
  | 0, _ => false
  | k + 1, c => if ¬ E k 0 = 0 ∧ Nv.num (E k 3) (E k 4) = (c : Int) ∧ c ≠ m then true else Nv.blTo E m k c

theorem Nv.blTo_iff (E : Nat → Nat → Int) (m c : Nat) : ∀ k, Nv.blTo E m k c = true ↔ c ≠ m ∧ ∃ j, j < k ∧ ¬ E j 0 = 0 ∧ Nv.num (E j 3) (E j 4) = (c : Int)
  | 0 => ⟨fun h => by simp [Nv.blTo] at h, fun ⟨_, j, h, _⟩ => by omega⟩
  | k + 1 => by
      have ih := Nv.blTo_iff E m c k
      unfold Nv.blTo
      by_cases e : ¬ E k 0 = 0 ∧ Nv.num (E k 3) (E k 4) = (c : Int) ∧ c ≠ m
      · rw [if_pos e]
        exact ⟨fun _ => ⟨e.2.2, k, by omega, e.1, e.2.1⟩, fun _ => rfl⟩
      · rw [if_neg e, ih]
        constructor
        · rintro ⟨h1, j, hj, h2⟩
          exact ⟨h1, j, by omega, h2⟩
        · rintro ⟨h1, j, hj, h2, h3⟩
          refine ⟨h1, j, ?_, h2, h3⟩
          by_cases ej : j = k
          · subst ej; exact absurd ⟨h2, h3, h1⟩ e
          · omega

theorem Nv.blTo_all (E : Nat → Nat → Int) (n m c : Nat) (hc : c < 384) : Nv.blTo E m n c = Nv.blk E n m c := by
  have h := Nv.blTo_iff E m c n
  have hs : Nv.st E n c = true ↔ ∃ j, j < n ∧ ¬ E j 0 = 0 ∧ Nv.num (E j 3) (E j 4) = (c : Int) := by
    unfold Nv.st
    rw [decide_eq_true_eq]
    rcases En.first_cases (En.atQ E ((c % 24 : Nat) : Int) ((c / 24 : Nat) : Int)) n with ⟨h0, hno⟩ | ⟨k, hk, h0, hq, _⟩
    · rw [h0]
      refine ⟨fun h => by omega, fun ⟨j, hj, h1, h2⟩ => ?_⟩
      obtain ⟨e1, e2, _⟩ := Nv.num_at h2
      have := hno j hj
      simp [En.atQ, h1, e1, e2] at this
    · refine ⟨fun _ => ⟨k, hk, ?_⟩, fun _ => by rw [h0]; omega⟩
      simp only [En.atQ, Bool.and_eq_true, decide_eq_true_eq, Bool.not_eq_true', decide_eq_false_iff_not] at hq
      rw [hq.2.1, hq.2.2]
      exact ⟨hq.1, Nv.num_of hc⟩
  unfold Nv.blk
  by_cases e : c = m
  · rw [if_pos e]
    have hn : ¬ Nv.blTo E m n c = true := fun h' => (h.1 h').1 e
    rwa [Bool.not_eq_true] at hn
  · rw [if_neg e]
    by_cases hst : Nv.st E n c = true
    · rw [hst]; exact h.2 ⟨e, hs.1 hst⟩
    · have hn : ¬ Nv.blTo E m n c = true := fun h' => hst (hs.2 (h.1 h').2)
      rw [Bool.not_eq_true] at hst hn
      rw [hst, hn]

theorem Nv.bl_same {E : Nat → Nat → Int} {m k : Nat} (h : ¬ (¬ E k 0 = 0 ∧ Gr.inB (E k 3) (E k 4) = true ∧ Nv.num (E k 3) (E k 4) ≠ (m : Int))) (j : Nat) : Nv.blTo E m k j = Nv.blTo E m (k + 1) j := by
  show _ = if _ then _ else _
  rw [if_neg]
  rintro ⟨h1, h2, h3⟩
  obtain ⟨e1, e2, e3⟩ := Nv.num_at h2
  refine h ⟨h1, ?_, by rw [h2]; omega⟩
  rw [Gr.inB_iff]
  omega

theorem Nv.bl_more {E : Nat → Nat → Int} {m k p : Nat} (h0 : ¬ E k 0 = 0) (hp : Nv.num (E k 3) (E k 4) = (p : Int)) (hm : p ≠ m) (j : Nat) : (if j = p then Value.bool true else .bool (Nv.blTo E m k j)) = .bool (Nv.blTo E m (k + 1) j) := by
  show _ = Value.bool (if ¬ E k 0 = 0 ∧ Nv.num (E k 3) (E k 4) = (j : Int) ∧ j ≠ m then true else Nv.blTo E m k j)
  rw [hp]
  by_cases e : j = p
  · rw [if_pos e, if_pos ⟨h0, by omega, by omega⟩]
  · rw [if_neg e, if_neg (by rintro ⟨_, h, _⟩; omega)]

set_option maxRecDepth 8000 in
set_option maxHeartbeats 3200000 in
theorem refBlocked_any (a : Option Addr) (n c : Nat) (E : Nat → Nat → Int) (x y : Int) (m : Nat) (w : World) (hL : Nv.Lst w a n c E) (hm : Nv.num x y = (m : Int)) :
    Calls Try.prog 32 #[.slice a n c, .int .i64 x, .int .i64 y] w (Made w 4 384 (Bols (Nv.blk E n m))) := by
  have hn := hL.1
  have hL' := hide hL
  have hm' := hide hm
  obtain ⟨i0, hi, hz0, hz1, hz2⟩ := info_parts info_bools
  clear hL hm
  go_enter Try.func32, Try.ntmps32
  obtain ⟨G, hG⟩ : ∃ G, G = w.heap.size := ⟨_, rfl⟩
  have hG' := hide hG
  clear hG
  go_wp2_with (at_make; refine wpList_make_full _ rfl _ _ 42 rfl G 4 i0 (.bool false) 1 Try.underlying42 hi hz0 hz1 .i64 .i64 _ _ 384 rfl rfl rfl rfl ?q3 ?q4 (Nat.le_of_eq (unhide hG')) ?_)
  case q3 => rw [hz2]; omega
  case q4 => unfold maxLen; omega
  intro w2 hown hgrow
  rw [← unhide hG'] at hown ⊢
  have hA := hide (Arr.zero hown)
  have hB0 : Below G w w2 := (Below.refl _ _).grown hgrow (Nat.le_of_eq (unhide hG')) (by intro k hk; cases hk)
  clear hown hgrow hi hz0 hz1 hz2
  go_wp2_with fail
  go_loopw [8] (fun i wr => ∃ k : Nat, k ≤ n ∧ i = .int .i64 (k : Int) ∧ Arr wr G 4 384 (Bols (Nv.blTo E m k)) ∧ Below G w wr) (fun i _ => 40 - (intOf i).toNat)
  case atStart => exact ⟨0, Nat.zero_le _, rfl, unhide hA, hB0⟩
  case round =>
    obtain ⟨k, hk, rfl, hA1, hB1⟩ := hrel
    have hA2 := hide hA1
    have hB2 := hide hB1
    clear hA1 hA hB0 hB1
    by_cases hlt : k < n
    · obtain ⟨_, hnc, h0 | ⟨b, rfl, hE⟩⟩ := unhide hL'
      · omega
      have hgr : w.grownBy wr none := below_grown (by rw [← unhide hG']; exact unhide hB2)
      obtain ⟨u0, u1, u2, u3, u4, u5, u6, u7, u8, u9, u10⟩ := (hE.on hgr).row hlt
      have hlt' : (k : Int) < (n : Int) := by omega
      have HL := hide hlt
      have dA : Hid (∀ q, Arr (wr.drewN q) G 4 384 (Bols (Nv.blTo E m k))) := fun q => (unhide hA2).grown (grown_drew (World.grownBy.refl _ none) q) (by simp)
      have dB : Hid (∀ q, Below G w (wr.drewN q)) := fun q => below_drewN (unhide hB2) q
      clear hE hgr hlt u1 u2 u5 u6 u7 u8 u9 u10
      have cI := fun wq => refIn_any (E k 3) (E k 4) wq
      by_cases h0 : E k 0 = 0
      · have h0' : (E k 0 != 0) = false := by simp [h0]
        have hs : Hid (∀ j, Nv.blTo E m k j = Nv.blTo E m (k + 1) j) := fun j => Nv.bl_same (fun h => h.1 h0) j
        clear h0
        go_wp2_with fail
        go_quiet ((go_at_call 31; exact Calls.quiet_of_same (cI _)))
        go_wp2
        go_roundw
        case rel => exact ⟨k + 1, by have := unhide HL; omega, by go_num, (unhide dA _).congr fun j _ => by show Value.bool _ = Value.bool _; rw [unhide hs j], unhide dB _⟩
        case measure => have := unhide HL; simp [intOf]; omega
      have h0' : (E k 0 != 0) = true := by simp [h0]
      by_cases hin : Gr.inB (E k 3) (E k 4) = true
      · rw [hin] at cI
        obtain ⟨b1, b2, b3, b4⟩ := (Gr.inB_iff _ _).1 hin
        obtain ⟨p, hpv⟩ : ∃ p : Nat, (p : Int) = E k 4 * 24 + E k 3 := ⟨(E k 4 * 24 + E k 3).toNat, by omega⟩
        have hnp : Nv.num (E k 3) (E k 4) = (p : Int) := by unfold Nv.num; rw [if_pos hin, hpv]
        have hp : p < 384 := by omega
        by_cases hpm : p = m
        · obtain ⟨e1, e2, _⟩ := Nv.num_at hnp
          obtain ⟨f1, f2, _⟩ := Nv.num_at (unhide hm')
          have g1 : (E k 3 != x) = false := by rw [bne_eq_false_iff_eq, e1, f1, hpm]
          have g2 : (E k 4 != y) = false := by rw [bne_eq_false_iff_eq, e2, f2, hpm]
          have hs : Hid (∀ j, Nv.blTo E m k j = Nv.blTo E m (k + 1) j) := fun j => Nv.bl_same (fun h => h.2.2 (by rw [hnp, hpm])) j
          clear h0 hin b1 b2 b3 b4 hpv hnp hp hpm e1 e2 f1 f2
          go_wp2_with fail
          go_quiet ((go_at_call 31; exact Calls.quiet_of_same (cI _)))
          go_wp2
          go_roundw
          case rel => exact ⟨k + 1, by have := unhide HL; omega, by go_num, (unhide dA _).congr fun j _ => by show Value.bool _ = Value.bool _; rw [unhide hs j], unhide dB _⟩
          case measure => have := unhide HL; simp [intOf]; omega
        · have hs : Hid (∀ j, (if j = p then Value.bool true else .bool (Nv.blTo E m k j)) = .bool (Nv.blTo E m (k + 1) j)) := fun j => Nv.bl_more h0 hnp hpm j
          obtain ⟨X, hX⟩ : ∃ X : Nat, E k 3 = (X : Int) := ⟨(E k 3).toNat, by omega⟩
          obtain ⟨Y, hY⟩ : ∃ Y : Nat, E k 4 = (Y : Int) := ⟨(E k 4).toNat, by omega⟩
          obtain rfl : p = Y * 24 + X := by omega
          rw [hX, hY] at cI
          rw [hX] at u3
          rw [hY] at u4
          have hX' : X < 24 := by omega
          have hY' : Y < 16 := by omega
          by_cases hx : (X : Int) = x
          · have hy : ¬ (Y : Int) = y := fun hy => hpm (by
              have : ((Y * 24 + X : Nat) : Int) = (m : Int) := by rw [← hnp, ← unhide hm', hX, hY, hx, hy]
              omega)
            have g1 : ((X : Int) != x) = false := by rw [bne_eq_false_iff_eq]; exact hx
            have g2 : ((Y : Int) != y) = true := by rw [bne_iff_ne]; exact hy
            clear h0 hin hnp hpm hx hy hX hY b1 b2 b3 b4 hpv
            go_wp2_with fail
            go_quiet ((go_at_call 31; exact Calls.quiet_of_same (cI _)))
            go_wp2_with fail
            have hA3 := hide (unhide dA nq)
            have hB3 := hide (unhide dB nq)
            have v3 : (wr.drewN nq).cell? ⟨b, k * 11 + 3, none⟩ = some (.int .i64 (X : Int)) := u3
            have v4 : (wr.drewN nq).cell? ⟨b, k * 11 + 4, none⟩ = some (.int .i64 (Y : Int)) := u4
            generalize wr.drewN nq = wd at hA3 hB3 v3 v4 ⊢
            have hcc : wd.cell? ⟨G, Y * 24 + X, none⟩ = some (.bool (Nv.blTo E m k (Y * 24 + X))) := (unhide hA3).cell hp
            have hff := (unhide hA3).free (Y * 24 + X)
            clear u0 u3 u4 dA dB g1 g2 cI h0' hA2 hB2
            go_region
            all_goals
              go_wp2
              go_roundw
              case rel => exact ⟨k + 1, by have := unhide HL; omega, by go_num, ((Arr.store (unhide hA3) _ _).congr fun j _ => unhide hs j).grown (grown_drew (World.grownBy.refl _ none) _) (by simp), ((unhide hB3).setCell (p := ⟨G, _, none⟩) (Nat.le_refl _) _).drew⟩
              case measure => have := unhide HL; simp [intOf]; omega
          · have g1 : ((X : Int) != x) = true := by rw [bne_iff_ne]; exact hx
            clear h0 hin hnp hpm hx hX hY b1 b2 b3 b4 hpv
            go_wp2_with fail
            go_quiet ((go_at_call 31; exact Calls.quiet_of_same (cI _)))
            go_wp2_with fail
            have hA3 := hide (unhide dA nq)
            have hB3 := hide (unhide dB nq)
            have v3 : (wr.drewN nq).cell? ⟨b, k * 11 + 3, none⟩ = some (.int .i64 (X : Int)) := u3
            have v4 : (wr.drewN nq).cell? ⟨b, k * 11 + 4, none⟩ = some (.int .i64 (Y : Int)) := u4
            generalize wr.drewN nq = wd at hA3 hB3 v3 v4 ⊢
            have hcc : wd.cell? ⟨G, Y * 24 + X, none⟩ = some (.bool (Nv.blTo E m k (Y * 24 + X))) := (unhide hA3).cell hp
            have hff := (unhide hA3).free (Y * 24 + X)
            clear u0 u3 u4 dA dB g1 cI h0' hA2 hB2
            go_region
            all_goals
              go_wp2
              go_roundw
              case rel => exact ⟨k + 1, by have := unhide HL; omega, by go_num, ((Arr.store (unhide hA3) _ _).congr fun j _ => unhide hs j).grown (grown_drew (World.grownBy.refl _ none) _) (by simp), ((unhide hB3).setCell (p := ⟨G, _, none⟩) (Nat.le_refl _) _).drew⟩
              case measure => have := unhide HL; simp [intOf]; omega
      · rw [Bool.not_eq_true] at hin
        rw [hin] at cI
        have hs : Hid (∀ j, Nv.blTo E m k j = Nv.blTo E m (k + 1) j) := fun j => Nv.bl_same (fun h => by rw [hin] at h; cases h.2.1) j
        clear h0 hin
        go_wp2_with fail
        go_quiet ((go_at_call 31; exact Calls.quiet_of_same (cI _)))
        go_wp2
        go_roundw
        case rel => exact ⟨k + 1, by have := unhide HL; omega, by go_num, (unhide dA _).congr fun j _ => by show Value.bool _ = Value.bool _; rw [unhide hs j], unhide dB _⟩
        case measure => have := unhide HL; simp [intOf]; omega
    · have hge : ¬ (k : Int) < (n : Int) := by omega
      obtain rfl : k = n := by omega
      have hA3 := hide ((unhide hA2).congr (G := Bols (Nv.blk E k m)) fun j hj => by show Value.bool _ = Value.bool _; rw [Nv.blTo_all E k m j hj])
      clear hA2 hk hlt
      go_wp2
      go_ret
      exact ⟨G, rfl, Nat.le_of_eq (unhide hG').symm, unhide hA3, by rw [← unhide hG']; exact unhide hB2⟩

end Go.Proofs.Ythofgjphoahkfaa
