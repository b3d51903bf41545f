/-
  The document's own Toward and Spot, said again: they answer the same numbers.
  The document's own Toward, said again.
  What the document's own Beside answers, and what the law package's own small functions do.
-/
import Derived.Test.YtbploaihicakeaaPart29
import Derived.Test.YtbploaihicakeaaPart05
import Derived.BigQuiet
namespace Go.Proofs.Ytbploaihicakeaa
open Go.RowKit

/-- What is blocked behind the first k rows. -/
def Nv.blTo (E : Nat → Nat → Int) (m : Nat) : Nat → Nat → Bool
  | 0, _ => false
  | k + 1, c => if ¬ E k 0 = 0 ∧ Nv.num (E k 3) (E k 4) = (c : Int) ∧ c ≠ m then true else Nv.blTo E m k c

theorem Nv.blTo_iff (E : Nat → Nat → Int) (m c : Nat) : ∀ k, Nv.blTo E m k c = true ↔ c ≠ m ∧ ∃ j, j < k ∧ ¬ E j 0 = 0 ∧ Nv.num (E j 3) (E j 4) = (c : Int)
  | 0 => ⟨fun h => by simp [Nv.blTo] at h, fun ⟨_, j, h, _⟩ => by omega⟩
  | k + 1 => by
      have ih := Nv.blTo_iff E m c k
      unfold Nv.blTo
      by_cases e : ¬ E k 0 = 0 ∧ Nv.num (E k 3) (E k 4) = (c : Int) ∧ c ≠ m
      · rw [if_pos e]
        exact ⟨fun _ => ⟨e.2.2, k, by omega, e.1, e.2.1⟩, fun _ => rfl⟩
      · rw [if_neg e, ih]
        constructor
        · rintro ⟨h1, j, hj, h2⟩
          exact ⟨h1, j, by omega, h2⟩
        · rintro ⟨h1, j, hj, h2, h3⟩
          refine ⟨h1, j, ?_, h2, h3⟩
          by_cases ej : j = k
          · subst ej; exact absurd ⟨h2, h3, h1⟩ e
          · omega

theorem Nv.blTo_all (E : Nat → Nat → Int) (n m c : Nat) (hc : c < 384) : Nv.blTo E m n c = Nv.blk E n m c := by
  have h := Nv.blTo_iff E m c n
  have hs : Nv.st E n c = true ↔ ∃ j, j < n ∧ ¬ E j 0 = 0 ∧ Nv.num (E j 3) (E j 4) = (c : Int) := by
    unfold Nv.st
    rw [decide_eq_true_eq]
    rcases En.first_cases (En.atQ E ((c % 24 : Nat) : Int) ((c / 24 : Nat) : Int)) n with ⟨h0, hno⟩ | ⟨k, hk, h0, hq, _⟩
    · rw [h0]
      refine ⟨fun h => by omega, fun ⟨j, hj, h1, h2⟩ => ?_⟩
      obtain ⟨e1, e2, _⟩ := Nv.num_at h2
      have := hno j hj
      simp [En.atQ, h1, e1, e2] at this
    · refine ⟨fun _ => ⟨k, hk, ?_⟩, fun _ => by rw [h0]; omega⟩
      simp only [En.atQ, Bool.and_eq_true, decide_eq_true_eq, Bool.not_eq_true', decide_eq_false_iff_not] at hq
      rw [hq.2.1, hq.2.2]
      exact ⟨hq.1, Nv.num_of hc⟩
  unfold Nv.blk
  by_cases e : c = m
  · rw [if_pos e]
    have hn : ¬ Nv.blTo E m n c = true := fun h' => (h.1 h').1 e
    rwa [Bool.not_eq_true] at hn
  · rw [if_neg e]
    by_cases hst : Nv.st E n c = true
    · rw [hst]; exact h.2 ⟨e, hs.1 hst⟩
    · have hn : ¬ Nv.blTo E m n c = true := fun h' => hst (hs.2 (h.1 h').2)
      rw [Bool.not_eq_true] at hst hn
      rw [hst, hn]

theorem Nv.bl_same {E : Nat → Nat → Int} {m k : Nat} (h : ¬ (¬ E k 0 = 0 ∧ Gr.inB (E k 3) (E k 4) = true ∧ Nv.num (E k 3) (E k 4) ≠ (m : Int))) (j : Nat) : Nv.blTo E m k j = Nv.blTo E m (k + 1) j := by
  show _ = if _ then _ else _
  rw [if_neg]
  rintro ⟨h1, h2, h3⟩
  obtain ⟨e1, e2, e3⟩ := Nv.num_at h2
  refine h ⟨h1, ?_, by rw [h2]; omega⟩
  rw [Gr.inB_iff]
  omega

theorem Nv.bl_more {E : Nat → Nat → Int} {m k p : Nat} (h0 : ¬ E k 0 = 0) (hp : Nv.num (E k 3) (E k 4) = (p : Int)) (hm : p ≠ m) (j : Nat) : (if j = p then Value.bool true else .bool (Nv.blTo E m k j)) = .bool (Nv.blTo E m (k + 1) j) := by
  show _ = Value.bool (if ¬ E k 0 = 0 ∧ Nv.num (E k 3) (E k 4) = (j : Int) ∧ j ≠ m then true else Nv.blTo E m k j)
  rw [hp]
  by_cases e : j = p
  · rw [if_pos e, if_pos ⟨h0, by omega, by omega⟩]
  · rw [if_neg e, if_neg (by rintro ⟨_, h, _⟩; omega)]

set_option maxRecDepth 8000 in
set_option maxHeartbeats 3200000 in
theorem refBlocked_any (a : Option Addr) (n c : Nat) (E : Nat → Nat → Int) (x y : Int) (m : Nat) (w : World) (hL : Nv.Lst w a n c E) (hm : Nv.num x y = (m : Int)) :
    Calls Try.prog 46 #[.slice a n c, .int .i64 x, .int .i64 y] w (Made w 4 384 (Bols (Nv.blk E n m))) := by
  have hn := hL.1
  have hL' := hide hL
  have hm' := hide hm
  obtain ⟨i0, hi, hz0, hz1, hz2⟩ := info_parts info_bools
  clear hL hm
  go_enter Try.func46, Try.ntmps46
  obtain ⟨G, hG⟩ : ∃ G, G = w.heap.size := ⟨_, rfl⟩
  have hG' := hide hG
  clear hG
  go_wp2_with (at_make; refine wpList_make_full _ rfl _ _ 70 rfl G 4 i0 (.bool false) 1 Try.underlying70 hi hz0 hz1 .i64 .i64 _ _ 384 rfl rfl rfl rfl ?q3 ?q4 (Nat.le_of_eq (unhide hG')) ?_)
  case q3 => rw [hz2]; omega
  case q4 => unfold maxLen; omega
  intro w2 hown hgrow
  rw [← unhide hG'] at hown ⊢
  have hA := hide (Arr.zero hown)
  have hB0 : Below G w w2 := (Below.refl _ _).grown hgrow (Nat.le_of_eq (unhide hG')) (by intro k hk; cases hk)
  clear hown hgrow hi hz0 hz1 hz2
  go_wp2_with fail
  go_loopw [8] (fun i wr => ∃ k : Nat, k ≤ n ∧ i = .int .i64 (k : Int) ∧ Arr wr G 4 384 (Bols (Nv.blTo E m k)) ∧ Below G w wr) (fun i _ => 40 - (intOf i).toNat)
  case atStart => exact ⟨0, Nat.zero_le _, rfl, unhide hA, hB0⟩
  case round =>
    obtain ⟨k, hk, rfl, hA1, hB1⟩ := hrel
    have hA2 := hide hA1
    have hB2 := hide hB1
    clear hA1 hA hB0 hB1
    by_cases hlt : k < n
    · obtain ⟨_, hnc, h0 | ⟨b, rfl, hE⟩⟩ := unhide hL'
      · omega
      have hgr : w.grownBy wr none := below_grown (by rw [← unhide hG']; exact unhide hB2)
      obtain ⟨u0, u1, u2, u3, u4, u5, u6, u7, u8, u9, u10⟩ := (hE.on hgr).row hlt
      have hlt' : (k : Int) < (n : Int) := by omega
      have HL := hide hlt
      have dA : Hid (∀ q, Arr (wr.drewN q) G 4 384 (Bols (Nv.blTo E m k))) := fun q => (unhide hA2).grown (grown_drew (World.grownBy.refl _ none) q) (by simp)
      have dB : Hid (∀ q, Below G w (wr.drewN q)) := fun q => below_drewN (unhide hB2) q
      clear hE hgr hlt u1 u2 u5 u6 u7 u8 u9 u10
      have cI := fun wq => refIn_any (E k 3) (E k 4) wq
      by_cases h0 : E k 0 = 0
      · have h0' : (E k 0 != 0) = false := by simp [h0]
        have hs : Hid (∀ j, Nv.blTo E m k j = Nv.blTo E m (k + 1) j) := fun j => Nv.bl_same (fun h => h.1 h0) j
        clear h0
        go_wp2_with fail
        go_quiet ((go_at_call 38; exact Calls.quiet_of_same (cI _)))
        go_wp2
        go_roundw
        case rel => exact ⟨k + 1, by have := unhide HL; omega, by go_num, (unhide dA _).congr fun j _ => by show Value.bool _ = Value.bool _; rw [unhide hs j], unhide dB _⟩
        case measure => have := unhide HL; simp [intOf]; omega
      have h0' : (E k 0 != 0) = true := by simp [h0]
      by_cases hin : Gr.inB (E k 3) (E k 4) = true
      · rw [hin] at cI
        obtain ⟨b1, b2, b3, b4⟩ := (Gr.inB_iff _ _).1 hin
        obtain ⟨p, hpv⟩ : ∃ p : Nat, (p : Int) = E k 4 * 24 + E k 3 := ⟨(E k 4 * 24 + E k 3).toNat, by omega⟩
        have hnp : Nv.num (E k 3) (E k 4) = (p : Int) := by unfold Nv.num; rw [if_pos hin, hpv]
        have hp : p < 384 := by omega
        by_cases hpm : p = m
        · obtain ⟨e1, e2, _⟩ := Nv.num_at hnp
          obtain ⟨f1, f2, _⟩ := Nv.num_at (unhide hm')
          have g1 : (E k 3 != x) = false := by rw [bne_eq_false_iff_eq, e1, f1, hpm]
          have g2 : (E k 4 != y) = false := by rw [bne_eq_false_iff_eq, e2, f2, hpm]
          have hs : Hid (∀ j, Nv.blTo E m k j = Nv.blTo E m (k + 1) j) := fun j => Nv.bl_same (fun h => h.2.2 (by rw [hnp, hpm])) j
          clear h0 hin b1 b2 b3 b4 hpv hnp hp hpm e1 e2 f1 f2
          go_wp2_with fail
          go_quiet ((go_at_call 38; exact Calls.quiet_of_same (cI _)))
          go_wp2
          go_roundw
          case rel => exact ⟨k + 1, by have := unhide HL; omega, by go_num, (unhide dA _).congr fun j _ => by show Value.bool _ = Value.bool _; rw [unhide hs j], unhide dB _⟩
          case measure => have := unhide HL; simp [intOf]; omega
        · have hs : Hid (∀ j, (if j = p then Value.bool true else .bool (Nv.blTo E m k j)) = .bool (Nv.blTo E m (k + 1) j)) := fun j => Nv.bl_more h0 hnp hpm j
          obtain ⟨X, hX⟩ : ∃ X : Nat, E k 3 = (X : Int) := ⟨(E k 3).toNat, by omega⟩
          obtain ⟨Y, hY⟩ : ∃ Y : Nat, E k 4 = (Y : Int) := ⟨(E k 4).toNat, by omega⟩
          obtain rfl : p = Y * 24 + X := by omega
          rw [hX, hY] at cI
          rw [hX] at u3
          rw [hY] at u4
          have hX' : X < 24 := by omega
          have hY' : Y < 16 := by omega
          by_cases hx : (X : Int) = x
          · have hy : ¬ (Y : Int) = y := fun hy => hpm (by
              have : ((Y * 24 + X : Nat) : Int) = (m : Int) := by rw [← hnp, ← unhide hm', hX, hY, hx, hy]
              omega)
            have g1 : ((X : Int) != x) = false := by rw [bne_eq_false_iff_eq]; exact hx
            have g2 : ((Y : Int) != y) = true := by rw [bne_iff_ne]; exact hy
            clear h0 hin hnp hpm hx hy hX hY b1 b2 b3 b4 hpv
            go_wp2_with fail
            go_quiet ((go_at_call 38; exact Calls.quiet_of_same (cI _)))
            go_wp2_with fail
            have hA3 := hide (unhide dA nq)
            have hB3 := hide (unhide dB nq)
            have v3 : (wr.drewN nq).cell? ⟨b, k * 11 + 3, none⟩ = some (.int .i64 (X : Int)) := u3
            have v4 : (wr.drewN nq).cell? ⟨b, k * 11 + 4, none⟩ = some (.int .i64 (Y : Int)) := u4
            generalize wr.drewN nq = wd at hA3 hB3 v3 v4 ⊢
            have hcc : wd.cell? ⟨G, Y * 24 + X, none⟩ = some (.bool (Nv.blTo E m k (Y * 24 + X))) := (unhide hA3).cell hp
            have hff := (unhide hA3).free (Y * 24 + X)
            clear u0 u3 u4 dA dB g1 g2 cI h0' hA2 hB2
            go_region
            all_goals
              go_wp2
              go_roundw
              case rel => exact ⟨k + 1, by have := unhide HL; omega, by go_num, ((Arr.store (unhide hA3) _ _).congr fun j _ => unhide hs j).grown (grown_drew (World.grownBy.refl _ none) _) (by simp), ((unhide hB3).setCell (p := ⟨G, _, none⟩) (Nat.le_refl _) _).drew⟩
              case measure => have := unhide HL; simp [intOf]; omega
          · have g1 : ((X : Int) != x) = true := by rw [bne_iff_ne]; exact hx
            clear h0 hin hnp hpm hx hX hY b1 b2 b3 b4 hpv
            go_wp2_with fail
            go_quiet ((go_at_call 38; exact Calls.quiet_of_same (cI _)))
            go_wp2_with fail
            have hA3 := hide (unhide dA nq)
            have hB3 := hide (unhide dB nq)
            have v3 : (wr.drewN nq).cell? ⟨b, k * 11 + 3, none⟩ = some (.int .i64 (X : Int)) := u3
            have v4 : (wr.drewN nq).cell? ⟨b, k * 11 + 4, none⟩ = some (.int .i64 (Y : Int)) := u4
            generalize wr.drewN nq = wd at hA3 hB3 v3 v4 ⊢
            have hcc : wd.cell? ⟨G, Y * 24 + X, none⟩ = some (.bool (Nv.blTo E m k (Y * 24 + X))) := (unhide hA3).cell hp
            have hff := (unhide hA3).free (Y * 24 + X)
            clear u0 u3 u4 dA dB g1 cI h0' hA2 hB2
            go_region
            all_goals
              go_wp2
              go_roundw
              case rel => exact ⟨k + 1, by have := unhide HL; omega, by go_num, ((Arr.store (unhide hA3) _ _).congr fun j _ => unhide hs j).grown (grown_drew (World.grownBy.refl _ none) _) (by simp), ((unhide hB3).setCell (p := ⟨G, _, none⟩) (Nat.le_refl _) _).drew⟩
              case measure => have := unhide HL; simp [intOf]; omega
      · rw [Bool.not_eq_true] at hin
        rw [hin] at cI
        have hs : Hid (∀ j, Nv.blTo E m k j = Nv.blTo E m (k + 1) j) := fun j => Nv.bl_same (fun h => by rw [hin] at h; cases h.2.1) j
        clear h0 hin
        go_wp2_with fail
        go_quiet ((go_at_call 38; exact Calls.quiet_of_same (cI _)))
        go_wp2
        go_roundw
        case rel => exact ⟨k + 1, by have := unhide HL; omega, by go_num, (unhide dA _).congr fun j _ => by show Value.bool _ = Value.bool _; rw [unhide hs j], unhide dB _⟩
        case measure => have := unhide HL; simp [intOf]; omega
    · have hge : ¬ (k : Int) < (n : Int) := by omega
      obtain rfl : k = n := by omega
      have hA3 := hide ((unhide hA2).congr (G := Bols (Nv.blk E k m)) fun j hj => by show Value.bool _ = Value.bool _; rw [Nv.blTo_all E k m j hj])
      clear hA2 hk hlt
      go_wp2
      go_ret
      exact ⟨G, rfl, Nat.le_of_eq (unhide hG').symm, unhide hA3, by rw [← unhide hG']; exact unhide hB2⟩

end Go.Proofs.Ytbploaihicakeaa

namespace Go.Proofs.Ytbploaihicakeaa
open Go.RowKit

set_option maxRecDepth 8000 in
set_option maxHeartbeats 3200000 in
theorem refToward_any (ca ta : Option Addr) (cc b n c tlen tc : Nat) (f t : Nat → Int) (E : Nat → Nat → Int) (x y : Int) (w : World)
    (hc : Vec w.heap.size w ca 384 (Byts f)) (hf : ∀ i, 0 ≤ f i ∧ f i ≤ 255) (hE : Ents w b n E) (hnc : n ≤ c) (ht : Vec w.heap.size w ta tlen (Ints t)) (htb : ∀ i, -9223372036854775808 ≤ t i ∧ t i ≤ 9223372036854775807) :
    Calls Try.prog 34 #[.slice ca 384 cc, .slice (some ⟨b, 0, none⟩) n c, .int .i64 x, .int .i64 y, .slice ta tlen tc] w (Nv.SaysToward w f t tlen E n x y) := by
  have hc' := hide hc
  have hf' := hide hf
  have hE' := hide hE
  have ht' := hide ht
  have htb' := hide htb
  have hL' : Hid (Nv.Lst w (some ⟨b, 0, none⟩) n c E) := ⟨hE.1, hnc, .inr ⟨b, rfl, hE⟩⟩
  clear hc hf hE ht htb hnc
  by_cases hin : Gr.inB x y = true
  case neg =>
    rw [Bool.not_eq_true] at hin
    have he : Hid (Nv.IsToward f t tlen E n x y 0) := .inl ⟨if_neg (by rw [hin]; simp), rfl⟩
    have cI := hide (fun wq => refIn_any x y wq)
    rw [hin] at cI
    clear hin
    go_enter Try.func34, Try.ntmps34
    go_wp2_with fail
    refine (unhide cI _).mono ?_
    rintro e w1 ⟨rfl, rfl⟩
    go_wp2
    go_ret
    exact ⟨0, unhide he, rfl, World.grownBy.refl _ _⟩
  obtain ⟨b1, b2, b3, b4⟩ := (Gr.inB_iff _ _).1 hin
  obtain ⟨X, rfl⟩ : ∃ X : Nat, x = (X : Int) := ⟨x.toNat, by omega⟩
  obtain ⟨Y, rfl⟩ : ∃ Y : Nat, y = (Y : Int) := ⟨y.toNat, by omega⟩
  have hX : X < 24 := by omega
  have hY : Y < 16 := by omega
  have hme : Nv.num (X : Int) (Y : Int) = ((Y * 24 + X : Nat) : Int) := by unfold Nv.num; rw [if_pos hin]; omega
  have cI := hide (fun wq => refIn_any (X : Int) (Y : Int) wq)
  rw [hin] at cI
  have hme' := hide hme
  clear hin b1 b2 b3 b4 hme
  go_enter Try.func34, Try.ntmps34
  go_wp2_with fail
  refine (unhide cI _).mono ?_
  rintro e w1 ⟨rfl, rfl⟩
  go_wp2_with fail
  refine (refBlocked_any _ n c E _ _ (Y * 24 + X) _ (unhide hL') (unhide hme')).mono ?_
  rintro e w2 ⟨g, rfl, hg, hA, hB⟩
  have cF := hide (refField_any ca (some ⟨g, 0, none⟩) ta 384 tlen cc 384 tc f t (Nv.blk E n (Y * 24 + X)) w2 (((unhide hc').kept hB).mono hB.size) (unhide hf') (hA.vec _ hA.lt (by unfold maxLen; omega)) (((unhide ht').kept hB).mono hB.size) (unhide htb'))
  have hB' := hide hB
  clear hA hB hg
  go_wp2_with fail
  refine (unhide cF).mono ?_
  rintro e w4 ⟨F, ⟨g2, rfl, hg2, hA4, hB4⟩, hF⟩
  have hstep : Nv.IsToward f t tlen E n X Y (Nv.step F (Nv.st E n) (Y * 24 + X)) := .inr ⟨_, F, unhide hme', hF, rfl⟩
  have hgw : w1.grownBy w4 none := below_grown ((unhide hB').trans (hB4.mono (unhide hB').size))
  have hhi : F (Y * 24 + X) ≤ 400 := by
    by_cases h0 : 0 ≤ F (Y * 24 + X)
    · have := fieldHigh hF (F (Y * 24 + X)).toNat (Y * 24 + X) (by omega) (by omega)
      omega
    · omega
  have hA4' := hide hA4
  have hgw' := hide hgw
  have hst' := hide hstep
  have hEw := hide ((unhide hE').on hgw)
  have hc4 : w4.cell? ⟨g2, Y * 24 + X, none⟩ = some (.int .i64 (F (Y * 24 + X))) := hA4.cell (by omega)
  obtain ⟨V, hV⟩ : ∃ V, V = F (Y * 24 + X) := ⟨_, rfl⟩
  rw [← hV] at hc4 hhi
  have hV' := hide hV
  clear hA4 hgw hstep hg2 hB4 cF hF cI hE' hL' hc' ht' hB' hV
  by_cases hlo : V < 1
  · have hr : Hid (Nv.IsToward f t tlen E n X Y 0) := by
      have h := unhide hst'
      rwa [show Nv.step F (Nv.st E n) (Y * 24 + X) = 0 from if_pos (by rw [← unhide hV']; exact hlo)] at h
    go_wp2
    go_ret
    exact ⟨0, unhide hr, rfl, unhide hgw'⟩
  have hr : Hid (Nv.IsToward f t tlen E n X Y (Nv.wayFrom (Nv.may F (Nv.st E n) (Y * 24 + X)) 4 1)) := by
    have h := unhide hst'
    rwa [show Nv.step F (Nv.st E n) (Y * 24 + X) = Nv.wayFrom (Nv.may F (Nv.st E n) (Y * 24 + X)) 4 1 from if_neg (by rw [← unhide hV']; exact hlo)] at h
  clear hst'
  go_wp2_with fail
  go_loopw [13] (fun i wr => ∃ k : Nat, 1 ≤ k ∧ k ≤ 5 ∧ i = .int .i64 (k : Int) ∧ (∀ j : Nat, 1 ≤ j → j < k → Nv.may F (Nv.st E n) (Y * 24 + X) j = false) ∧ w4.grownBy wr none) (fun i _ => 5 - (intOf i).toNat)
  case atStart => exact ⟨1, by omega, by omega, rfl, fun j h1 h2 => by omega, World.grownBy.refl _ _⟩
  case round =>
    obtain ⟨k, h1, h5, rfl, hno, hgr⟩ := hrel
    have hno' := hide hno
    have hgr' := hide hgr
    clear hno hgr hc4
    by_cases hlt : k ≤ 4
    · have hlt' : (k : Int) ≤ 4 := by omega
      have HL := hide hlt
      have H1 := hide h1
      have wb := Fx.way_bd (k : Int)
      have hnx : Nv.next (Y * 24 + X) k = Nv.num ((X : Int) + (Fx.way (k : Int)).1) ((Y : Int) + (Fx.way (k : Int)).2) := by
        unfold Nv.next
        rw [show (Y * 24 + X) % 24 = X by omega, show (Y * 24 + X) / 24 = Y by omega]
      have cw := hide (fun wq => refWay_any (k : Int) wq)
      have hup : Hid (Nv.may F (Nv.st E n) (Y * 24 + X) k = false → ∀ j : Nat, 1 ≤ j → j < k + 1 → Nv.may F (Nv.st E n) (Y * 24 + X) j = false) := fun h j h1 h2 => by
        by_cases e : j = k
        · rw [e]; exact h
        · exact unhide hno' j h1 (by omega)
      generalize (Fx.way (k : Int)).1 = dx at *
      generalize (Fx.way (k : Int)).2 = dy at *
      obtain ⟨d1, d2, d3, d4⟩ := wb
      clear hlt h1 h5
      by_cases hin : Gr.inB ((X : Int) + dx) ((Y : Int) + dy) = true
      · obtain ⟨b1, b2, b3, b4⟩ := (Gr.inB_iff _ _).1 hin
        obtain ⟨PX, hPX⟩ : ∃ PX : Nat, (X : Int) + dx = (PX : Int) := ⟨((X : Int) + dx).toNat, by omega⟩
        obtain ⟨PY, hPY⟩ : ∃ PY : Nat, (Y : Int) + dy = (PY : Int) := ⟨((Y : Int) + dy).toNat, by omega⟩
        have hn : Nv.next (Y * 24 + X) k = ((PY * 24 + PX : Nat) : Int) := by rw [hnx]; unfold Nv.num; rw [if_pos hin, hPX, hPY]; omega
        have hmay := Nv.may_in (F := F) (st := Nv.st E n) hn
        have hp : PY * 24 + PX < 384 := by omega
        have hc6 : wr.cell? ⟨g2, PY * 24 + PX, none⟩ = some (.int .i64 (F (PY * 24 + PX))) := ((unhide hA4').grown (unhide hgr') (by simp)).cell hp
        have hst : Nv.st E n (PY * 24 + PX) = decide (0 ≤ En.first (En.atQ E (PX : Int) (PY : Int)) n) := by
          unfold Nv.st
          rw [show (PY * 24 + PX) % 24 = PX by omega, show (PY * 24 + PX) / 24 = PY by omega]
        have hPX' : PX < 24 := by omega
        have hPY' : PY < 16 := by omega
        have cI := hide (fun wq => refIn_any ((X : Int) + dx) ((Y : Int) + dy) wq)
        rw [hin, hPX, hPY] at cI
        clear hin b1 b2 b3 b4 hnx hn
        go_wp2_with fail
        refine (unhide cw _).mono ?_
        rintro e wx ⟨rfl, rfl⟩
        go_wp2_with fail
        refine (unhide cI _).mono ?_
        rintro e wy ⟨rfl, rfl⟩
        have hz : (PY : Int) * 24 + X + dx = ((PY * 24 + PX : Nat) : Int) := by omega
        have cA := hide (entRefAt_any b n c E (PX : Int) (PY : Int) wy ((unhide hEw).on (unhide hgr')))
        clear cI cw
        rw [hst, ← unhide hV'] at hmay
        by_cases hq : F (PY * 24 + PX) = V - 1
        · have hq' : (F (PY * 24 + PX) == V - 1) = true := by rw [beq_iff_eq]; exact hq
          rw [decide_eq_true hq, Bool.true_and] at hmay
          generalize En.first (En.atQ E (PX : Int) (PY : Int)) n = r at hmay cA
          clear hq hst
          by_cases hs : 0 ≤ r
          · rw [decide_eq_true hs] at hmay
            have hno2 := hide (unhide hup hmay)
            have hs' : ¬ r < 0 := by omega
            clear hmay hs
            go_wp2_with fail
            refine (unhide cA).mono ?_
            rintro e wz ⟨rfl, hgz⟩
            have hgz' := hide (grown_trans (unhide hgr') hgz)
            clear hgz hc6
            go_wp2
            go_roundw
            case rel => exact ⟨k + 1, by have := unhide H1; omega, by have := unhide HL; omega, by go_num, unhide hno2, unhide hgz'⟩
            case measure => have := unhide HL; simp [intOf]; omega
          · rw [decide_eq_false hs] at hmay
            have hr2 : Hid (Nv.IsToward f t tlen E n X Y (k : Int)) := by
              have h := unhide hr
              rwa [Nv.way_hit 4 k 1 (unhide hno') hmay (unhide H1) (by have := unhide HL; omega)] at h
            have hs' : r < 0 := by omega
            clear hmay hs
            go_wp2_with fail
            refine (unhide cA).mono ?_
            rintro e wz ⟨rfl, hgz⟩
            have hgz' := hide (grown_trans (unhide hgr') hgz)
            clear hgz hc6
            go_wp2
            go_ret
            exact ⟨_, unhide hr2, rfl, grown_trans (unhide hgw') (unhide hgz')⟩
        · have hq' : (F (PY * 24 + PX) == V - 1) = false := by rw [beq_eq_false_iff_ne]; exact hq
          rw [decide_eq_false hq, Bool.false_and] at hmay
          have hno2 := hide (unhide hup hmay)
          clear hq hmay cA hst
          go_wp2
          go_roundw
          case rel => exact ⟨k + 1, by have := unhide H1; omega, by have := unhide HL; omega, by go_num, unhide hno2, unhide hgr'⟩
          case measure => have := unhide HL; simp [intOf]; omega
      · rw [Bool.not_eq_true] at hin
        have hno2 := hide (unhide hup (Nv.may_out (hnx.trans (if_neg (by rw [hin]; simp)))))
        have cI := hide (fun wq => refIn_any ((X : Int) + dx) ((Y : Int) + dy) wq)
        rw [hin] at cI
        clear hin hnx
        go_wp2_with fail
        refine (unhide cw _).mono ?_
        rintro e wx ⟨rfl, rfl⟩
        go_wp2_with fail
        refine (unhide cI _).mono ?_
        rintro e wx ⟨rfl, rfl⟩
        go_wp2
        go_roundw
        case rel => exact ⟨k + 1, by have := unhide H1; omega, by have := unhide HL; omega, by go_num, unhide hno2, unhide hgr'⟩
        case measure => have := unhide HL; simp [intOf]; omega
    · have hge : ¬ (k : Int) ≤ 4 := by omega
      have hr2 : Hid (Nv.IsToward f t tlen E n X Y 0) := by
        have h := unhide hr
        rwa [Nv.way_none 4 1 fun j h1 h2 => unhide hno' j h1 (by omega)] at h
      go_wp2
      go_ret
      exact ⟨0, unhide hr2, rfl, grown_trans (unhide hgw') (unhide hgr')⟩

end Go.Proofs.Ytbploaihicakeaa

namespace Go.Proofs.Ytbploaihicakeaa
open Go.RowKit

/-- A step goes from x0 to x1, round or not, just where it is their difference. -/
theorem Nv.goes (x0 x1 d : Int) (h3 : -9223372036854775808 ≤ x1) (h4 : x1 ≤ 9223372036854775807) (d1 : -1 ≤ d) (d2 : d ≤ 1) : (x1 == wrap64 (x0 + d)) = decide (d = wrap64 (x1 - x0)) := by
  have key : x1 = wrap64 (x0 + d) ↔ d = wrap64 (x1 - x0) := by unfold wrap64; omega
  by_cases h : d = wrap64 (x1 - x0)
  · rw [decide_eq_true h, beq_iff_eq]; exact key.2 h
  · rw [decide_eq_false h, beq_eq_false_iff_ne]; exact fun e => h (key.1 e)

set_option maxHeartbeats 800000 in
theorem refBeside_any (x0 y0 x1 y1 : Int) (w : World) (a3 : -9223372036854775808 ≤ x1) (a4 : x1 ≤ 9223372036854775807) (b3 : -9223372036854775808 ≤ y1) (b4 : y1 ≤ 9223372036854775807) :
    Calls Try.prog 33 #[.int .i64 x0, .int .i64 y0, .int .i64 x1, .int .i64 y1] w fun e w' => e = .returned (.int .i64 (Nv.beside (wrap64 (x1 - x0)) (wrap64 (y1 - y0)))) ∧ w' = w := by
  obtain ⟨DX, hx⟩ : ∃ D, D = wrap64 (x1 - x0) := ⟨_, rfl⟩
  obtain ⟨DY, hy⟩ : ∃ D, D = wrap64 (y1 - y0) := ⟨_, rfl⟩
  have gx : Hid (∀ d, -1 ≤ d → d ≤ 1 → (x1 == wrap64 (x0 + d)) = decide (d = DX)) := fun d h1 h2 => by rw [hx]; exact Nv.goes x0 x1 d a3 a4 h1 h2
  have gy : Hid (∀ d, -1 ≤ d → d ≤ 1 → (y1 == wrap64 (y0 + d)) = decide (d = DY)) := fun d h1 h2 => by rw [hy]; exact Nv.goes y0 y1 d b3 b4 h1 h2
  rw [← hx, ← hy]
  clear hx hy a3 a4 b3 b4
  go_enter Try.func33, Try.ntmps33
  go_wp2_with fail
  go_loop [9] (fun i => ∃ k : Nat, 1 ≤ k ∧ k ≤ 5 ∧ i = .int .i64 (k : Int) ∧ ∀ j : Nat, 1 ≤ j → j < k → ¬ ((Fx.way (j : Int)).1 = DX ∧ (Fx.way (j : Int)).2 = DY)) (fun i => 5 - (intOf i).toNat)
  case atStart => exact ⟨1, by omega, by omega, rfl, fun j h1 h2 => by omega⟩
  case round =>
    obtain ⟨k, h1, h5, rfl, hno⟩ := hrel
    have hno' := hide hno
    clear hno
    by_cases hlt : k ≤ 4
    · have hlt' : (k : Int) ≤ 4 := by omega
      have HL := hide hlt
      have H1 := hide h1
      clear hlt h1 h5
      have hwb := Fx.way_bd (k : Int)
      have k1 := unhide gx _ hwb.1 hwb.2.1
      have k2 := unhide gy _ hwb.2.2.1 hwb.2.2.2
      have cw := hide (refWay_any (k : Int) w)
      have hq0 : Hid (∀ p : Prop, ((Fx.way (k : Int)).1 = DX ∧ (Fx.way (k : Int)).2 = DY → p) → ((Fx.way (k : Int)).1 = DX → ¬ (Fx.way (k : Int)).2 = DY → p) → (¬ (Fx.way (k : Int)).1 = DX → p) → p) := fun p hp hq hr => by
        by_cases u : (Fx.way (k : Int)).1 = DX
        · by_cases v : (Fx.way (k : Int)).2 = DY
          · exact hp ⟨u, v⟩
          · exact hq u v
        · exact hr u
      have hh : Hid ((Fx.way (k : Int)).1 = DX ∧ (Fx.way (k : Int)).2 = DY → Nv.beside DX DY = (k : Int)) := fun h => Nv.from_hit 4 k 1 (unhide hno') h (unhide H1) (by have := unhide HL; omega)
      have hm : Hid (¬ ((Fx.way (k : Int)).1 = DX ∧ (Fx.way (k : Int)).2 = DY) → ∀ j : Nat, 1 ≤ j → j < k + 1 → ¬ ((Fx.way (j : Int)).1 = DX ∧ (Fx.way (j : Int)).2 = DY)) := fun h j h1 h2 => by
        by_cases e : j = k
        · rw [e]; exact h
        · exact unhide hno' j h1 (by omega)
      generalize (Fx.way (k : Int)).1 = u at *
      generalize (Fx.way (k : Int)).2 = v at *
      have bu := hwb.1
      have bu2 := hwb.2.1
      have bv := hwb.2.2.1
      have bv2 := hwb.2.2.2
      clear hwb
      refine unhide hq0 _ ?_ ?_ ?_
      · intro hq
        rw [decide_eq_true hq.1] at k1
        rw [decide_eq_true hq.2] at k2
        have he := hide (unhide hh hq)
        clear hq hq0 hm hh bu bu2 bv bv2
        go_wp2_with fail
        refine (unhide cw).mono ?_
        rintro e w1 ⟨rfl, rfl⟩
        go_wp2
        go_ret
        exact ⟨ret_int (unhide he).symm, rfl⟩
      · intro hu hv
        rw [decide_eq_true hu] at k1
        rw [decide_eq_false hv] at k2
        have he := hide (unhide hm (fun h => hv h.2))
        clear hu hv hq0 hm hh bu bu2 bv bv2
        go_wp2_with fail
        refine (unhide cw).mono ?_
        rintro e w1 ⟨rfl, rfl⟩
        go_wp2
        go_round
        case rel => exact ⟨k + 1, by have := unhide H1; omega, by have := unhide HL; omega, by go_num, unhide he⟩
        case measure => have := unhide HL; simp [intOf]; omega
      · intro hu
        rw [decide_eq_false hu] at k1
        have he := hide (unhide hm (fun h => hu h.1))
        clear hu hq0 hm hh k2 bu bu2 bv bv2
        go_wp2_with fail
        refine (unhide cw).mono ?_
        rintro e w1 ⟨rfl, rfl⟩
        go_wp2
        go_round
        case rel => exact ⟨k + 1, by have := unhide H1; omega, by have := unhide HL; omega, by go_num, unhide he⟩
        case measure => have := unhide HL; simp [intOf]; omega
    · have hge : ¬ (k : Int) ≤ 4 := by omega
      have he : Hid (Nv.beside DX DY = 0) := Nv.from_none 4 1 fun j h1 h2 => unhide hno' j h1 (by omega)
      go_wp2
      go_ret
      exact ⟨ret_int (unhide he).symm, rfl⟩

end Go.Proofs.Ytbploaihicakeaa
