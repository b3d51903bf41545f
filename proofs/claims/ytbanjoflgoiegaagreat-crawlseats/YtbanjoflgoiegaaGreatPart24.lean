/-
  GoodsTake
-/
import Derived.Test.YtbanjoflgoiegaaGreatPart23
namespace Go.Proofs.YtbanjoflgoiegaaGreat
open Go.RowKit

set_option maxHeartbeats 6400000 in
theorem act_take (base : Nat → Prop) (B gC gE gI cC cE cI k t m : Nat) (s g c : Nat → Int) (E I : Nat → Nat → Int) (x : World) (H : Gd.Hold x B gC gE gI cC cE cI s g c E I) (hk : k < 32) (ht : t < 4) (he : E k 2 = (t : Int)) (hc : ∀ i, 0 ≤ c i ∧ c i ≤ 255) (hbI : ¬ base gI) (hm : m < 40) (hbB : ¬ base B) (g0 : 0 ≤ g t) (g1 : g t ≤ 999) (h4 : ¬ I m 0 = 4) (hwh : I m 1 = 1) (f : Nat) (hf : Gd.slot I 40 (t : Int) = (f : Int)) (hw : Gd.want I (t : Int) (E k 3) (E k 4) (decide (Gr.at 384 c (E k 3) (E k 4) = 5)) (g t) 5 = (m : Int)) :
    Calls Tryz.prog 170 #[.pointer (some ⟨B, 0, none⟩), .pointer (some ⟨gE, k * 11, none⟩), .int .i64 5] x (Gd.Acted base x B gC gE gI cC cE cI s (Gd.give g t (g t)) c E (En.put I m (Gd.row (I m 0) 2 (t : Int) (f : Int)))) := by
  have cw := wanted_any B gC gE gI cC cI k t (E k 3) (E k 4) (g t) 5 c I x (H.near hk ht he) H.lists.vec hc H.lists.its
  rw [hw] at cw
  have cw' := hide cw
  have H' := hide H
  have HN := hide (fun (y : World) (hy : x.grownBy y none) => (H.on hy).near hk ht he)
  have hm' : (m : Int) < 40 := by omega
  have ht' : (t : Int) < 4 := by omega
  have he' := hide he
  have h4' : (I m 0 == 4) = false := by simp [h4]
  clear H hc hw he cw
  go_enter Tryz.func170, Tryz.ntmps170
  go_wp2_with fail
  refine (unhide cw').mono ?_
  rintro e w1 ⟨rfl, hg1⟩
  obtain ⟨lB, lE, k32, s4, b4, b6, b7, e2, e3, e4⟩ := unhide HN w1 hg1
  have hg1' := hide hg1
  clear hg1 cw' b4
  go_wp2_with fail
  go_quiet (fail)
  obtain ⟨w2, hw2⟩ : ∃ w2, w1.drewN nq = w2 := ⟨_, rfl⟩
  have hg2 := hide (show x.grownBy w2 none by rw [← hw2]; exact grown_drew (unhide hg1') _)
  rw [hw2]
  clear hw2 b6 b7 e2 e3 e4 hg1' lB lE s4
  have H2 := hide ((unhide H').on (unhide hg2))
  obtain ⟨i0, i1, i2, i3⟩ := (unhide H2).lists.its.row hm
  have n2 := unhide HN w2 (unhide hg2)
  have lB := n2.lB
  have lE := n2.lE
  have b6 := n2.b6
  have e2 := n2.e2
  clear n2
  go_wp2_with fail
  refine wp_region_grown (by kernel_rfl) (by kernel_rfl) ?_
  intro St hS W hJ hx
  have c6 : ∀ σ, (W σ).cell? ⟨B, 6, none⟩ = some (.slice (some ⟨gI, 0, none⟩) 40 cI) := fun σ => (grown_cell (hJ σ) B 6 lB (by simp)).trans b6
  have c2 : ∀ σ, (W σ).cell? ⟨gE, k * 11 + 2, none⟩ = some (.int .i64 (t : Int)) := fun σ => (grown_cell (hJ σ) gE _ lE (by simp)).trans e2
  have ca : ∀ σ, Calls Tryz.prog 181 #[.slice (some ⟨gI, 0, none⟩) 40 cI, .int .i64 (t : Int)] (W σ) fun e w'' => e = .returned (.int .i64 (f : Int)) ∧ ∃ σ', w'' = W σ' := fun σ => by
    have h := freeSlot_any gI 40 cI I (t : Int) (W σ) ((unhide H2).on (hJ σ)).lists.its
    rw [hf] at h
    exact calls_class hJ hx h
  have hJ' := hide hJ
  clear hJ hx b6 e2 hf i0 i1 i2 i3
  repeat (go_big_quiet_step ((go_at_call 181; exact ca _)))
  refine wpQuiet_nil ?_
  rintro _ ⟨σ, rfl⟩
  obtain ⟨w3, hw3⟩ : ∃ w3, W σ = w3 := ⟨_, rfl⟩
  have hg3 := hide (show x.grownBy w3 none by rw [← hw3]; exact grown_trans (unhide hg2) (unhide hJ' σ))
  rw [hw3]
  clear c6 c2 ca hJ' hw3 H2 hg2
  clear σ W hS St
  have hf' : ¬ (f : Int) < 0 := by omega
  have H3 := hide ((unhide H').on (unhide hg3))
  have hwr : IntKind.i64.wrap (g t) = g t := by rw [IntKind.wrap_i64]; omega
  have keep : Hid (∀ y, Hid (w3.grownBy y none) → ((y.cell? ⟨gI, m * 4, none⟩ = some (.int .i64 (I m 0)) ∧ y.cell? ⟨gI, m * 4 + 1, none⟩ = some (.int .i64 1) ∧ y.cell? ⟨gI, m * 4 + 2, none⟩ = some (.int .i64 (I m 2)) ∧ y.cell? ⟨gI, m * 4 + 3, none⟩ = some (.int .i64 (I m 3))) ∧ y.cell? ⟨B, 7 + t, none⟩ = some (.int .i64 (g t))) ∧ y.frozen? ⟨B, 7 + t, none⟩ = false) := fun y hy => by
    have r := ((unhide H3).on (unhide hy)).lists.its.row hm
    rw [hwh] at r
    exact ⟨⟨r, (unhide HN y (grown_trans (unhide hg3) (unhide hy))).b7⟩, ((unhide H3).on (unhide hy)).box.free _⟩
  have cp : Hid (∀ y, Hid (w3.grownBy y none) → Calls Tryz.prog 182 #[.agg #[.int .i64 (I m 0), .int .i64 1, .int .i64 (I m 2), .int .i64 (I m 3)]] y fun e w' => e = .returned (.int .i64 0) ∧ Hid (w3.grownBy w' none)) := fun y hy => (price_any (I m 0) 1 (I m 2) (I m 3) y).mono fun e w' ⟨h1, h2⟩ => ⟨h1, grown_trans (unhide hy) h2⟩
  have hd : Hid (w3.grownBy w3.drew none) := grown_drew1 (World.grownBy.refl _ _)
  obtain ⟨⟨⟨x0, x1, x2, x3⟩, x4⟩, x5⟩ := unhide keep w3 (World.grownBy.refl _ _)
  have hB := hide (fun (y : World) (hy : w3.grownBy y none) (v : Value) => below_set (below_more (below_more (Frame.refl base x) (unhide hg3)) hy) B (7 + t) hbB v)
  go_upto_region 14 with fail
  go_cut [] from 67 (fun wx => Hid (Gd.Hold wx B gC gE gI cC cE cI s (Gd.give g t (g t)) c E I) ∧ Hid (Frame base x wx))
  case first =>
    go_region_with (first | (go_at_call 182; refine (unhide cp _ hd).mono ?_; rintro e w4 ⟨rfl, hg4⟩; obtain ⟨⟨⟨z0, z1, z2, z3⟩, z4⟩, z5⟩ := unhide keep w4 hg4))
    all_goals
      go_wp2_with fail
      go_meet
      exact ⟨((unhide H3).on (unhide hg4)).gold t ht (g t), unhide hB w4 (unhide hg4) _⟩
  case rest =>
    obtain ⟨H5, hB5⟩ := hcut
    clear keep cp hd x0 x1 x2 x3 x4 x5 hB hwh hwr
    have keep2 : Hid (∀ y, Hid (wc.grownBy y none) → ((y.cell? ⟨gI, m * 4, none⟩ = some (.int .i64 (I m 0)) ∧ y.cell? ⟨gI, m * 4 + 1, none⟩ = some (.int .i64 (I m 1)) ∧ y.cell? ⟨gI, m * 4 + 2, none⟩ = some (.int .i64 (I m 2)) ∧ y.cell? ⟨gI, m * 4 + 3, none⟩ = some (.int .i64 (I m 3))) ∧ y.cell? ⟨gE, k * 11 + 2, none⟩ = some (.int .i64 (t : Int))) ∧ y.frozen? ⟨gI, m * 4, none⟩ = false ∧ y.frozen? ⟨gI, m * 4 + 1, none⟩ = false ∧ y.frozen? ⟨gI, m * 4 + 2, none⟩ = false ∧ y.frozen? ⟨gI, m * 4 + 3, none⟩ = false) := fun y hy =>
      have h3 := fun j => ((unhide H5).on (unhide hy)).lists.items.free j
      ⟨⟨((unhide H5).on (unhide hy)).lists.its.row hm, (((unhide H5).on (unhide hy)).near k32 ht (unhide he')).e2⟩, h3 _, h3 _, h3 _, h3 _⟩
    have cm : Hid (∀ y, Hid (wc.grownBy y none) → Calls Tryz.prog 183 #[.agg #[.int .i64 (I m 0), .int .i64 (I m 1), .int .i64 (I m 2), .int .i64 (I m 3)], .agg #[.int .i64 2, .int .i64 (t : Int), .int .i64 (f : Int)]] y fun e w' => e = .returned (.agg #[.int .i64 (I m 0), .int .i64 2, .int .i64 (t : Int), .int .i64 (f : Int)]) ∧ Hid (wc.grownBy w' none)) := fun y hy => (moved_any _ _ _ _ _ _ _ y).mono fun e w' ⟨h1, h2⟩ => ⟨h1, grown_trans (unhide hy) h2⟩
    have hd : Hid (wc.grownBy wc.drew none) := grown_drew1 (World.grownBy.refl _ _)
    obtain ⟨⟨⟨x0, x1, x2, x3⟩, x4⟩, y0, y1, y2, y3⟩ := unhide keep2 wc (World.grownBy.refl _ _)
    have hB2 := hide (fun (y : World) (hy : wc.grownBy y none) (v0 v1 v2 v3 : Value) => below_put4 (below_more (unhide hB5) hy) hbI m v0 v1 v2 v3)
    clear hbB hbI hm
    go_wp2_with fail
    go_region_with (first | (go_at_call 183; refine (unhide cm _ hd).mono ?_; rintro e w4 ⟨rfl, hg4⟩; obtain ⟨⟨⟨z0, z1, z2, z3⟩, z4⟩, f0, f1, f2, f3⟩ := unhide keep2 w4 hg4))
    all_goals
      have hH := hide (((unhide H5).on (unhide hg4)).put m (I m 0) 2 (t : Int) (f : Int))
      have hBB := hide (unhide hB2 w4 (unhide hg4) (.int .i64 (I m 0)) (.int .i64 2) (.int .i64 (t : Int)) (.int .i64 (f : Int)))
      go_wp2
      go_end0
      exact ⟨rfl, unhide hH, unhide hBB⟩

set_option maxHeartbeats 6400000 in
theorem act_buy (base : Nat → Prop) (B gC gE gI cC cE cI k t m : Nat) (s g c : Nat → Int) (E I : Nat → Nat → Int) (x : World) (H : Gd.Hold x B gC gE gI cC cE cI s g c E I) (hk : k < 32) (ht : t < 4) (he : E k 2 = (t : Int)) (hc : ∀ i, 0 ≤ c i ∧ c i ≤ 255) (hbI : ¬ base gI) (hm : m < 40) (hbB : ¬ base B) (g0 : 0 ≤ g t) (g1 : g t ≤ 999) (hwh : I m 1 = 4) (f : Nat) (hf : Gd.slot I 40 (t : Int) = (f : Int)) (hw : Gd.want I (t : Int) (E k 3) (E k 4) (decide (Gr.at 384 c (E k 3) (E k 4) = 5)) (g t) 10 = (m : Int)) :
    Calls Tryz.prog 170 #[.pointer (some ⟨B, 0, none⟩), .pointer (some ⟨gE, k * 11, none⟩), .int .i64 10] x (Gd.Acted base x B gC gE gI cC cE cI s (Gd.give g t (g t - 5)) c E (En.put I m (Gd.row (I m 0) 2 (t : Int) (f : Int)))) := by
  have cw := wanted_any B gC gE gI cC cI k t (E k 3) (E k 4) (g t) 10 c I x (H.near hk ht he) H.lists.vec hc H.lists.its
  rw [hw] at cw
  have cw' := hide cw
  have H' := hide H
  have HN := hide (fun (y : World) (hy : x.grownBy y none) => (H.on hy).near hk ht he)
  have hm' : (m : Int) < 40 := by omega
  have ht' : (t : Int) < 4 := by omega
  have he' := hide he
  clear H hc hw he cw
  go_enter Tryz.func170, Tryz.ntmps170
  go_wp2_with fail
  refine (unhide cw').mono ?_
  rintro e w1 ⟨rfl, hg1⟩
  obtain ⟨lB, lE, k32, s4, b4, b6, b7, e2, e3, e4⟩ := unhide HN w1 hg1
  have hg1' := hide hg1
  clear hg1 cw' b4
  go_wp2_with fail
  go_quiet (fail)
  obtain ⟨w2, hw2⟩ : ∃ w2, w1.drewN nq = w2 := ⟨_, rfl⟩
  have hg2 := hide (show x.grownBy w2 none by rw [← hw2]; exact grown_drew (unhide hg1') _)
  rw [hw2]
  clear hw2 b6 b7 e2 e3 e4 hg1' lB lE s4
  have H2 := hide ((unhide H').on (unhide hg2))
  obtain ⟨i0, i1, i2, i3⟩ := (unhide H2).lists.its.row hm
  have n2 := unhide HN w2 (unhide hg2)
  have lB := n2.lB
  have lE := n2.lE
  have b6 := n2.b6
  have e2 := n2.e2
  clear n2
  go_wp2_with fail
  refine wp_region_grown (by kernel_rfl) (by kernel_rfl) ?_
  intro St hS W hJ hx
  have c6 : ∀ σ, (W σ).cell? ⟨B, 6, none⟩ = some (.slice (some ⟨gI, 0, none⟩) 40 cI) := fun σ => (grown_cell (hJ σ) B 6 lB (by simp)).trans b6
  have c2 : ∀ σ, (W σ).cell? ⟨gE, k * 11 + 2, none⟩ = some (.int .i64 (t : Int)) := fun σ => (grown_cell (hJ σ) gE _ lE (by simp)).trans e2
  have ca : ∀ σ, Calls Tryz.prog 181 #[.slice (some ⟨gI, 0, none⟩) 40 cI, .int .i64 (t : Int)] (W σ) fun e w'' => e = .returned (.int .i64 (f : Int)) ∧ ∃ σ', w'' = W σ' := fun σ => by
    have h := freeSlot_any gI 40 cI I (t : Int) (W σ) ((unhide H2).on (hJ σ)).lists.its
    rw [hf] at h
    exact calls_class hJ hx h
  have hJ' := hide hJ
  clear hJ hx b6 e2 hf i0 i1 i2 i3
  repeat (go_big_quiet_step ((go_at_call 181; exact ca _)))
  refine wpQuiet_nil ?_
  rintro _ ⟨σ, rfl⟩
  obtain ⟨w3, hw3⟩ : ∃ w3, W σ = w3 := ⟨_, rfl⟩
  have hg3 := hide (show x.grownBy w3 none by rw [← hw3]; exact grown_trans (unhide hg2) (unhide hJ' σ))
  rw [hw3]
  clear c6 c2 ca hJ' hw3 H2 hg2
  clear σ W hS St
  have hf' : ¬ (f : Int) < 0 := by omega
  have H3 := hide ((unhide H').on (unhide hg3))
  have hwr : IntKind.i64.wrap (g t - 5) = g t - 5 := by rw [IntKind.wrap_i64]; omega
  have keep : Hid (∀ y, Hid (w3.grownBy y none) → ((y.cell? ⟨gI, m * 4, none⟩ = some (.int .i64 (I m 0)) ∧ y.cell? ⟨gI, m * 4 + 1, none⟩ = some (.int .i64 4) ∧ y.cell? ⟨gI, m * 4 + 2, none⟩ = some (.int .i64 (I m 2)) ∧ y.cell? ⟨gI, m * 4 + 3, none⟩ = some (.int .i64 (I m 3))) ∧ y.cell? ⟨B, 7 + t, none⟩ = some (.int .i64 (g t))) ∧ y.frozen? ⟨B, 7 + t, none⟩ = false) := fun y hy => by
    have r := ((unhide H3).on (unhide hy)).lists.its.row hm
    rw [hwh] at r
    exact ⟨⟨r, (unhide HN y (grown_trans (unhide hg3) (unhide hy))).b7⟩, ((unhide H3).on (unhide hy)).box.free _⟩
  have cp : Hid (∀ y, Hid (w3.grownBy y none) → Calls Tryz.prog 182 #[.agg #[.int .i64 (I m 0), .int .i64 4, .int .i64 (I m 2), .int .i64 (I m 3)]] y fun e w' => e = .returned (.int .i64 5) ∧ Hid (w3.grownBy w' none)) := fun y hy => (price_any (I m 0) 4 (I m 2) (I m 3) y).mono fun e w' ⟨h1, h2⟩ => ⟨h1, grown_trans (unhide hy) h2⟩
  have hd : Hid (w3.grownBy w3.drew none) := grown_drew1 (World.grownBy.refl _ _)
  obtain ⟨⟨⟨x0, x1, x2, x3⟩, x4⟩, x5⟩ := unhide keep w3 (World.grownBy.refl _ _)
  have hB := hide (fun (y : World) (hy : w3.grownBy y none) (v : Value) => below_set (below_more (below_more (Frame.refl base x) (unhide hg3)) hy) B (7 + t) hbB v)
  go_upto_region 14 with fail
  go_cut [] from 67 (fun wx => Hid (Gd.Hold wx B gC gE gI cC cE cI s (Gd.give g t (g t - 5)) c E I) ∧ Hid (Frame base x wx))
  case first =>
    go_region_with (first | (go_at_call 182; refine (unhide cp _ hd).mono ?_; rintro e w4 ⟨rfl, hg4⟩; obtain ⟨⟨⟨z0, z1, z2, z3⟩, z4⟩, z5⟩ := unhide keep w4 hg4))
    all_goals
      go_wp2_with fail
      go_meet
      exact ⟨((unhide H3).on (unhide hg4)).gold t ht (g t - 5), unhide hB w4 (unhide hg4) _⟩
  case rest =>
    obtain ⟨H5, hB5⟩ := hcut
    clear keep cp hd x0 x1 x2 x3 x4 x5 hB hwh hwr
    have keep2 : Hid (∀ y, Hid (wc.grownBy y none) → ((y.cell? ⟨gI, m * 4, none⟩ = some (.int .i64 (I m 0)) ∧ y.cell? ⟨gI, m * 4 + 1, none⟩ = some (.int .i64 (I m 1)) ∧ y.cell? ⟨gI, m * 4 + 2, none⟩ = some (.int .i64 (I m 2)) ∧ y.cell? ⟨gI, m * 4 + 3, none⟩ = some (.int .i64 (I m 3))) ∧ y.cell? ⟨gE, k * 11 + 2, none⟩ = some (.int .i64 (t : Int))) ∧ y.frozen? ⟨gI, m * 4, none⟩ = false ∧ y.frozen? ⟨gI, m * 4 + 1, none⟩ = false ∧ y.frozen? ⟨gI, m * 4 + 2, none⟩ = false ∧ y.frozen? ⟨gI, m * 4 + 3, none⟩ = false) := fun y hy =>
      have h3 := fun j => ((unhide H5).on (unhide hy)).lists.items.free j
      ⟨⟨((unhide H5).on (unhide hy)).lists.its.row hm, (((unhide H5).on (unhide hy)).near k32 ht (unhide he')).e2⟩, h3 _, h3 _, h3 _, h3 _⟩
    have cm : Hid (∀ y, Hid (wc.grownBy y none) → Calls Tryz.prog 183 #[.agg #[.int .i64 (I m 0), .int .i64 (I m 1), .int .i64 (I m 2), .int .i64 (I m 3)], .agg #[.int .i64 2, .int .i64 (t : Int), .int .i64 (f : Int)]] y fun e w' => e = .returned (.agg #[.int .i64 (I m 0), .int .i64 2, .int .i64 (t : Int), .int .i64 (f : Int)]) ∧ Hid (wc.grownBy w' none)) := fun y hy => (moved_any _ _ _ _ _ _ _ y).mono fun e w' ⟨h1, h2⟩ => ⟨h1, grown_trans (unhide hy) h2⟩
    have hd : Hid (wc.grownBy wc.drew none) := grown_drew1 (World.grownBy.refl _ _)
    obtain ⟨⟨⟨x0, x1, x2, x3⟩, x4⟩, y0, y1, y2, y3⟩ := unhide keep2 wc (World.grownBy.refl _ _)
    have hB2 := hide (fun (y : World) (hy : wc.grownBy y none) (v0 v1 v2 v3 : Value) => below_put4 (below_more (unhide hB5) hy) hbI m v0 v1 v2 v3)
    clear hbB hbI hm
    go_wp2_with fail
    go_region_with (first | (go_at_call 183; refine (unhide cm _ hd).mono ?_; rintro e w4 ⟨rfl, hg4⟩; obtain ⟨⟨⟨z0, z1, z2, z3⟩, z4⟩, f0, f1, f2, f3⟩ := unhide keep2 w4 hg4))
    all_goals
      have hH := hide (((unhide H5).on (unhide hg4)).put m (I m 0) 2 (t : Int) (f : Int))
      have hBB := hide (unhide hB2 w4 (unhide hg4) (.int .i64 (I m 0)) (.int .i64 2) (.int .i64 (t : Int)) (.int .i64 (f : Int)))
      go_wp2
      go_end0
      exact ⟨rfl, unhide hH, unhide hBB⟩

set_option maxHeartbeats 6400000 in
theorem act_take_full (base : Nat → Prop) (B gC gE gI cC cE cI k t m : Nat) (s g c : Nat → Int) (E I : Nat → Nat → Int) (x : World) (H : Gd.Hold x B gC gE gI cC cE cI s g c E I) (hk : k < 32) (ht : t < 4) (he : E k 2 = (t : Int)) (hc : ∀ i, 0 ≤ c i ∧ c i ≤ 255) (hm : m < 40) (h4 : ¬ I m 0 = 4) (hf : Gd.slot I 40 (t : Int) < 0) (hw : Gd.want I (t : Int) (E k 3) (E k 4) (decide (Gr.at 384 c (E k 3) (E k 4) = 5)) (g t) 5 = (m : Int)) :
    Calls Tryz.prog 170 #[.pointer (some ⟨B, 0, none⟩), .pointer (some ⟨gE, k * 11, none⟩), .int .i64 5] x (Gd.Acted base x B gC gE gI cC cE cI s g c E I) := by
  have cw := wanted_any B gC gE gI cC cI k t (E k 3) (E k 4) (g t) 5 c I x (H.near hk ht he) H.lists.vec hc H.lists.its
  rw [hw] at cw
  have cw' := hide cw
  have H' := hide H
  have HN := hide (fun (y : World) (hy : x.grownBy y none) => (H.on hy).near hk ht he)
  have hm' : (m : Int) < 40 := by omega
  have ht' : (t : Int) < 4 := by omega
  obtain ⟨ff, hff⟩ : ∃ ff, Gd.slot I 40 (t : Int) = ff := ⟨_, rfl⟩
  rw [hff] at hf
  clear H hc hw he cw
  go_enter Tryz.func170, Tryz.ntmps170
  go_wp2_with fail
  refine (unhide cw').mono ?_
  rintro e w1 ⟨rfl, hg1⟩
  obtain ⟨lB, lE, k32, s4, b4, b6, b7, e2, e3, e4⟩ := unhide HN w1 hg1
  have hg1' := hide hg1
  clear hg1 cw' b4
  go_wp2_with fail
  go_quiet (fail)
  obtain ⟨w2, hw2⟩ : ∃ w2, w1.drewN nq = w2 := ⟨_, rfl⟩
  have hg2 := hide (show x.grownBy w2 none by rw [← hw2]; exact grown_drew (unhide hg1') _)
  rw [hw2]
  clear hw2 b6 b7 e2 e3 e4 hg1' lB lE s4
  have H2 := hide ((unhide H').on (unhide hg2))
  obtain ⟨i0, i1, i2, i3⟩ := (unhide H2).lists.its.row hm
  have n2 := unhide HN w2 (unhide hg2)
  have lB := n2.lB
  have lE := n2.lE
  have b6 := n2.b6
  have e2 := n2.e2
  clear n2
  go_wp2_with fail
  refine wp_region_grown (by kernel_rfl) (by kernel_rfl) ?_
  intro St hS W hJ hx
  have c6 : ∀ σ, (W σ).cell? ⟨B, 6, none⟩ = some (.slice (some ⟨gI, 0, none⟩) 40 cI) := fun σ => (grown_cell (hJ σ) B 6 lB (by simp)).trans b6
  have c2 : ∀ σ, (W σ).cell? ⟨gE, k * 11 + 2, none⟩ = some (.int .i64 (t : Int)) := fun σ => (grown_cell (hJ σ) gE _ lE (by simp)).trans e2
  have ca : ∀ σ, Calls Tryz.prog 181 #[.slice (some ⟨gI, 0, none⟩) 40 cI, .int .i64 (t : Int)] (W σ) fun e w'' => e = .returned (.int .i64 ff) ∧ ∃ σ', w'' = W σ' := fun σ => by
    have h := freeSlot_any gI 40 cI I (t : Int) (W σ) ((unhide H2).on (hJ σ)).lists.its
    rw [hff] at h
    exact calls_class hJ hx h
  have hJ' := hide hJ
  clear hJ hx b6 e2 hff i0 i1 i2 i3
  repeat (go_big_quiet_step ((go_at_call 181; exact ca _)))
  refine wpQuiet_nil ?_
  rintro _ ⟨σ, rfl⟩
  obtain ⟨w3, hw3⟩ : ∃ w3, W σ = w3 := ⟨_, rfl⟩
  have hg3 := hide (show x.grownBy w3 none by rw [← hw3]; exact grown_trans (unhide hg2) (unhide hJ' σ))
  rw [hw3]
  clear c6 c2 ca hJ' hw3 H2 hg2
  clear σ W hS St
  have hfin := hide (show Gd.Hold w3 B gC gE gI cC cE cI s g c E I ∧ Frame base x w3 from ⟨(unhide H').on (unhide hg3), below_more (Frame.refl _ _) (unhide hg3)⟩)
  go_wp2
  go_end0
  exact ⟨rfl, (unhide hfin).1, (unhide hfin).2⟩

set_option maxHeartbeats 6400000 in
theorem act_buy_full (base : Nat → Prop) (B gC gE gI cC cE cI k t m : Nat) (s g c : Nat → Int) (E I : Nat → Nat → Int) (x : World) (H : Gd.Hold x B gC gE gI cC cE cI s g c E I) (hk : k < 32) (ht : t < 4) (he : E k 2 = (t : Int)) (hc : ∀ i, 0 ≤ c i ∧ c i ≤ 255) (hm : m < 40)  (hf : Gd.slot I 40 (t : Int) < 0) (hw : Gd.want I (t : Int) (E k 3) (E k 4) (decide (Gr.at 384 c (E k 3) (E k 4) = 5)) (g t) 10 = (m : Int)) :
    Calls Tryz.prog 170 #[.pointer (some ⟨B, 0, none⟩), .pointer (some ⟨gE, k * 11, none⟩), .int .i64 10] x (Gd.Acted base x B gC gE gI cC cE cI s g c E I) := by
  have cw := wanted_any B gC gE gI cC cI k t (E k 3) (E k 4) (g t) 10 c I x (H.near hk ht he) H.lists.vec hc H.lists.its
  rw [hw] at cw
  have cw' := hide cw
  have H' := hide H
  have HN := hide (fun (y : World) (hy : x.grownBy y none) => (H.on hy).near hk ht he)
  have hm' : (m : Int) < 40 := by omega
  have ht' : (t : Int) < 4 := by omega
  obtain ⟨ff, hff⟩ : ∃ ff, Gd.slot I 40 (t : Int) = ff := ⟨_, rfl⟩
  rw [hff] at hf
  clear H hc hw he cw
  go_enter Tryz.func170, Tryz.ntmps170
  go_wp2_with fail
  refine (unhide cw').mono ?_
  rintro e w1 ⟨rfl, hg1⟩
  obtain ⟨lB, lE, k32, s4, b4, b6, b7, e2, e3, e4⟩ := unhide HN w1 hg1
  have hg1' := hide hg1
  clear hg1 cw' b4
  go_wp2_with fail
  go_quiet (fail)
  obtain ⟨w2, hw2⟩ : ∃ w2, w1.drewN nq = w2 := ⟨_, rfl⟩
  have hg2 := hide (show x.grownBy w2 none by rw [← hw2]; exact grown_drew (unhide hg1') _)
  rw [hw2]
  clear hw2 b6 b7 e2 e3 e4 hg1' lB lE s4
  have H2 := hide ((unhide H').on (unhide hg2))
  obtain ⟨i0, i1, i2, i3⟩ := (unhide H2).lists.its.row hm
  have n2 := unhide HN w2 (unhide hg2)
  have lB := n2.lB
  have lE := n2.lE
  have b6 := n2.b6
  have e2 := n2.e2
  clear n2
  go_wp2_with fail
  refine wp_region_grown (by kernel_rfl) (by kernel_rfl) ?_
  intro St hS W hJ hx
  have c6 : ∀ σ, (W σ).cell? ⟨B, 6, none⟩ = some (.slice (some ⟨gI, 0, none⟩) 40 cI) := fun σ => (grown_cell (hJ σ) B 6 lB (by simp)).trans b6
  have c2 : ∀ σ, (W σ).cell? ⟨gE, k * 11 + 2, none⟩ = some (.int .i64 (t : Int)) := fun σ => (grown_cell (hJ σ) gE _ lE (by simp)).trans e2
  have ca : ∀ σ, Calls Tryz.prog 181 #[.slice (some ⟨gI, 0, none⟩) 40 cI, .int .i64 (t : Int)] (W σ) fun e w'' => e = .returned (.int .i64 ff) ∧ ∃ σ', w'' = W σ' := fun σ => by
    have h := freeSlot_any gI 40 cI I (t : Int) (W σ) ((unhide H2).on (hJ σ)).lists.its
    rw [hff] at h
    exact calls_class hJ hx h
  have hJ' := hide hJ
  clear hJ hx b6 e2 hff i0 i1 i2 i3
  repeat (go_big_quiet_step ((go_at_call 181; exact ca _)))
  refine wpQuiet_nil ?_
  rintro _ ⟨σ, rfl⟩
  obtain ⟨w3, hw3⟩ : ∃ w3, W σ = w3 := ⟨_, rfl⟩
  have hg3 := hide (show x.grownBy w3 none by rw [← hw3]; exact grown_trans (unhide hg2) (unhide hJ' σ))
  rw [hw3]
  clear c6 c2 ca hJ' hw3 H2 hg2
  clear σ W hS St
  have hfin := hide (show Gd.Hold w3 B gC gE gI cC cE cI s g c E I ∧ Frame base x w3 from ⟨(unhide H').on (unhide hg3), below_more (Frame.refl _ _) (unhide hg3)⟩)
  go_wp2
  go_end0
  exact ⟨rfl, (unhide hfin).1, (unhide hfin).2⟩

end Go.Proofs.YtbanjoflgoiegaaGreat
