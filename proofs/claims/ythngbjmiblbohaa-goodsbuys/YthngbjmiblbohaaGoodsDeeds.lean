/-
  What a hero does with an item, in goods: what is worn, dropped, taken up and bought.
-/
import Derived.Test.YthngbjmiblbohaaGoodsAct
namespace Go.Proofs.Ythngbjmiblbohaa
open Go.RowKit

set_option maxHeartbeats 6400000 in
theorem act_wear (base : Nat → Prop) (B gC gE gI cC cE cI k t m : Nat) (s g c : Nat → Int) (E I : Nat → Nat → Int) (x : World) (H : Gd.Hold x B gC gE gI cC cE cI s g c E I) (hk : k < 32) (ht : t < 4) (he : E k 2 = (t : Int)) (hc : ∀ i, 0 ≤ c i ∧ c i ≤ 255) (hbI : ¬ base gI) (hm : m < 40) (k0 : 0 ≤ I m 0) (k1 : I m 0 ≤ 100) (h2 : I m 1 = 2) (hw : Gd.want I (t : Int) (E k 3) (E k 4) (decide (Gr.at 384 c (E k 3) (E k 4) = 5)) (g t) 7 = (m : Int)) :
    Calls Try.prog 33 #[.pointer (some ⟨B, 0, none⟩), .pointer (some ⟨gE, k * 11, none⟩), .int .i64 7] x (Gd.Acted base x B gC gE gI cC cE cI s g c E (Gd.wearAt I 40 (I m 2) m)) := by
  have cw := wanted_any B gC gE gI cC cI k t (E k 3) (E k 4) (g t) 7 c I x (H.near hk ht he) H.lists.vec hc H.lists.its
  rw [hw] at cw
  have cw' := hide cw
  have H' := hide H
  have HN := hide (fun (y : World) (hy : x.grownBy y none) => (H.on hy).near hk ht he)
  have hm' : (m : Int) < 40 := by omega
  have ht' : (t : Int) < 4 := by omega
  clear H hc hw he cw
  go_enter Try.func33, Try.ntmps33
  go_wp2_with fail
  refine (unhide cw').mono ?_
  rintro e w1 ⟨rfl, hg1⟩
  obtain ⟨lB, lE, k32, s4, b4, b6, b7, e2, e3, e4⟩ := unhide HN w1 hg1
  have hg1' := hide hg1
  clear hg1 cw' b4
  go_wp2_with fail
  go_quiet (fail)
  obtain ⟨w2, hw2⟩ : ∃ w2, w1.drewN nq = w2 := ⟨_, rfl⟩
  have hg2 := hide (show x.grownBy w2 none by rw [← hw2]; exact grown_drew (unhide hg1') _)
  rw [hw2]
  clear hw2 b6 b7 e2 e3 e4 hg1' lB lE s4
  have H2 := hide ((unhide H').on (unhide hg2))
  have b6 := (unhide HN w2 (unhide hg2)).b6
  have cr := hide (wear_any gI cI m I w2 (unhide H2).lists.items hm k0 k1 h2)
  obtain ⟨J, hJ⟩ : ∃ J, Gd.wearAt I 40 (I m 2) m = J := ⟨_, rfl⟩
  rw [hJ] at cr
  have hJ' := hide hJ
  have hB := hide (fun (y : World) (hy : w2.grownBy y (some gI)) => below_root (below_more (Frame.refl base x) (unhide hg2)) hy hbI)
  clear hJ hbI k0 k1 h2 hm
  go_wp2_with fail
  refine (unhide cr).mono ?_
  rintro e w3 ⟨rfl, hL3, hg3⟩
  have hfin := hide (show Gd.Hold w3 B gC gE gI cC cE cI s g c E J ∧ Frame base x w3 from ⟨(unhide H2).items hg3 hL3, unhide hB w3 hg3⟩)
  clear hL3 hg3 cr b6
  go_wp2
  go_end0
  exact ⟨rfl, by rw [unhide hJ']; exact (unhide hfin).1, (unhide hfin).2⟩

set_option maxHeartbeats 6400000 in
theorem act_gold (base : Nat → Prop) (B gC gE gI cC cE cI k t m : Nat) (s g c : Nat → Int) (E I : Nat → Nat → Int) (x : World) (H : Gd.Hold x B gC gE gI cC cE cI s g c E I) (hk : k < 32) (ht : t < 4) (he : E k 2 = (t : Int)) (hc : ∀ i, 0 ≤ c i ∧ c i ≤ 255) (hbI : ¬ base gI) (hm : m < 40) (hbB : ¬ base B) (h4 : I m 0 = 4) (g0 : 0 ≤ g t) (g1 : g t ≤ 999) (hw : Gd.want I (t : Int) (E k 3) (E k 4) (decide (Gr.at 384 c (E k 3) (E k 4) = 5)) (g t) 5 = (m : Int)) :
    Calls Try.prog 33 #[.pointer (some ⟨B, 0, none⟩), .pointer (some ⟨gE, k * 11, none⟩), .int .i64 5] x (Gd.Acted base x B gC gE gI cC cE cI s (Gd.give g t (min (g t + 5) 999)) c E (En.put I m Gd.gone)) := by
  have cw := wanted_any B gC gE gI cC cI k t (E k 3) (E k 4) (g t) 5 c I x (H.near hk ht he) H.lists.vec hc H.lists.its
  rw [hw] at cw
  have cw' := hide cw
  have H' := hide H
  have HN := hide (fun (y : World) (hy : x.grownBy y none) => (H.on hy).near hk ht he)
  have hm' : (m : Int) < 40 := by omega
  have ht' : (t : Int) < 4 := by omega
  clear H hc hw he cw
  go_enter Try.func33, Try.ntmps33
  go_wp2_with fail
  refine (unhide cw').mono ?_
  rintro e w1 ⟨rfl, hg1⟩
  obtain ⟨lB, lE, k32, s4, b4, b6, b7, e2, e3, e4⟩ := unhide HN w1 hg1
  have hg1' := hide hg1
  clear hg1 cw' b4
  go_wp2_with fail
  go_quiet (fail)
  obtain ⟨w2, hw2⟩ : ∃ w2, w1.drewN nq = w2 := ⟨_, rfl⟩
  have hg2 := hide (show x.grownBy w2 none by rw [← hw2]; exact grown_drew (unhide hg1') _)
  rw [hw2]
  clear hw2 b6 b7 e2 e3 e4 hg1' lB lE s4
  have H2 := (unhide H').on (unhide hg2)
  obtain ⟨i0, i1, i2, i3⟩ := H2.lists.its.row hm
  rw [h4] at i0
  have b7 := (unhide HN w2 (unhide hg2)).b7
  have fB := H2.box.free
  have fI := H2.lists.items.free
  have neBI := H2.bI
  have neIB := neBI.symm
  have hH := hide (fun v (hv : v = min (g t + 5) 999) => show Gd.Hold _ B gC gE gI cC cE cI s (Gd.give g t (min (g t + 5) 999)) c E (En.put I m Gd.gone) by rw [← hv, ← Gd.row_gone]; exact (H2.gold t ht v).put m 0 0 0 0)
  have hB := hide (fun (v : Value) => below_put4 (below_set (below_more (Frame.refl base x) (unhide hg2)) B (7 + t) hbB v) hbI m (.int .i64 0) (.int .i64 0) (.int .i64 0) (.int .i64 0))
  clear hbB hbI H2 h4
  go_wp2
  all_goals
    go_end0
    exact ⟨rfl, unhide hH _ (by omega), unhide hB _⟩

set_option maxHeartbeats 6400000 in
theorem act_drop (base : Nat → Prop) (B gC gE gI cC cE cI k t m : Nat) (s g c : Nat → Int) (E I : Nat → Nat → Int) (x : World) (H : Gd.Hold x B gC gE gI cC cE cI s g c E I) (hk : k < 32) (ht : t < 4) (he : E k 2 = (t : Int)) (hc : ∀ i, 0 ≤ c i ∧ c i ≤ 255) (hbI : ¬ base gI) (hm : m < 40)  (hw : Gd.want I (t : Int) (E k 3) (E k 4) (decide (Gr.at 384 c (E k 3) (E k 4) = 5)) (g t) 8 = (m : Int)) :
    Calls Try.prog 33 #[.pointer (some ⟨B, 0, none⟩), .pointer (some ⟨gE, k * 11, none⟩), .int .i64 8] x (Gd.Acted base x B gC gE gI cC cE cI s g c E (En.put I m (Gd.row (I m 0) 1 (E k 3) (E k 4)))) := by
  have cw := wanted_any B gC gE gI cC cI k t (E k 3) (E k 4) (g t) 8 c I x (H.near hk ht he) H.lists.vec hc H.lists.its
  rw [hw] at cw
  have cw' := hide cw
  have H' := hide H
  have HN := hide (fun (y : World) (hy : x.grownBy y none) => (H.on hy).near hk ht he)
  have hm' : (m : Int) < 40 := by omega
  have ht' : (t : Int) < 4 := by omega
  clear H hc hw he cw
  go_enter Try.func33, Try.ntmps33
  go_wp2_with fail
  refine (unhide cw').mono ?_
  rintro e w1 ⟨rfl, hg1⟩
  obtain ⟨lB, lE, k32, s4, b4, b6, b7, e2, e3, e4⟩ := unhide HN w1 hg1
  have hg1' := hide hg1
  clear hg1 cw' b4
  go_wp2_with fail
  go_quiet (fail)
  obtain ⟨w2, hw2⟩ : ∃ w2, w1.drewN nq = w2 := ⟨_, rfl⟩
  have hg2 := hide (show x.grownBy w2 none by rw [← hw2]; exact grown_drew (unhide hg1') _)
  rw [hw2]
  clear hw2 b6 b7 e2 e3 e4 hg1' lB lE s4
  have H2 := hide ((unhide H').on (unhide hg2))
  have keep : Hid (∀ y, Hid (w2.grownBy y none) → (y.cell? ⟨gI, m * 4, none⟩ = some (.int .i64 (I m 0)) ∧ y.cell? ⟨gI, m * 4 + 1, none⟩ = some (.int .i64 (I m 1)) ∧ y.cell? ⟨gI, m * 4 + 2, none⟩ = some (.int .i64 (I m 2)) ∧ y.cell? ⟨gI, m * 4 + 3, none⟩ = some (.int .i64 (I m 3))) ∧ y.frozen? ⟨gI, m * 4, none⟩ = false ∧ y.frozen? ⟨gI, m * 4 + 1, none⟩ = false ∧ y.frozen? ⟨gI, m * 4 + 2, none⟩ = false ∧ y.frozen? ⟨gI, m * 4 + 3, none⟩ = false) := fun y hy =>
    have h3 := fun j => ((unhide H2).on (unhide hy)).lists.items.free j
    ⟨((unhide H2).on (unhide hy)).lists.its.row hm, h3 _, h3 _, h3 _, h3 _⟩
  have cu : Hid (∀ y, Hid (w2.grownBy y none) → Calls Try.prog 58 #[.pointer (some ⟨gE, k * 11, none⟩)] y fun e w' => e = .returned (.agg #[.int .i64 1, .int .i64 (E k 3), .int .i64 (E k 4)]) ∧ Hid (w2.grownBy w' none)) := fun y hy =>
    have n := unhide HN y (grown_trans (unhide hg2) (unhide hy))
    (under_any gE (k * 11) (E k 3) (E k 4) y n.e3 n.e4 n.lE).mono fun e w' ⟨h1, h2⟩ => ⟨h1, grown_trans (unhide hy) h2⟩
  have cm : Hid (∀ y, Hid (w2.grownBy y none) → Calls Try.prog 56 #[.agg #[.int .i64 (I m 0), .int .i64 (I m 1), .int .i64 (I m 2), .int .i64 (I m 3)], .agg #[.int .i64 1, .int .i64 (E k 3), .int .i64 (E k 4)]] y fun e w' => e = .returned (.agg #[.int .i64 (I m 0), .int .i64 1, .int .i64 (E k 3), .int .i64 (E k 4)]) ∧ Hid (w2.grownBy w' none)) := fun y hy => (moved_any _ _ _ _ _ _ _ y).mono fun e w' ⟨h1, h2⟩ => ⟨h1, grown_trans (unhide hy) h2⟩
  have hd : Hid (w2.grownBy w2.drew none) := grown_drew1 (World.grownBy.refl _ _)
  obtain ⟨⟨x0, x1, x2, x3⟩, y0, y1, y2, y3⟩ := unhide keep w2 (World.grownBy.refl _ _)
  have hB := hide (fun (y : World) (hy : w2.grownBy y none) (v0 v1 v2 v3 : Value) => below_put4 (below_more (below_more (Frame.refl base x) (unhide hg2)) hy) hbI m v0 v1 v2 v3)
  clear hbI hm
  go_wp2_with fail
  go_region_with (first | (go_at_call 58; refine (unhide cu _ hd).mono ?_; rintro e w3 ⟨rfl, hg3⟩; obtain ⟨⟨z0, z1, z2, z3⟩, f0, f1, f2, f3⟩ := unhide keep w3 hg3) | (go_at_call 56; refine (unhide cm _ hg3).mono ?_; rintro e w4 ⟨rfl, hg4⟩; obtain ⟨⟨z0, z1, z2, z3⟩, f0, f1, f2, f3⟩ := unhide keep w4 hg4))
  all_goals
    have hH := hide (((unhide H2).on (unhide hg4)).put m (I m 0) 1 (E k 3) (E k 4))
    have hBB := hide (unhide hB w4 (unhide hg4) (.int .i64 (I m 0)) (.int .i64 1) (.int .i64 (E k 3)) (.int .i64 (E k 4)))
    go_wp2
    go_end0
    exact ⟨rfl, unhide hH, unhide hBB⟩

end Go.Proofs.Ythngbjmiblbohaa
