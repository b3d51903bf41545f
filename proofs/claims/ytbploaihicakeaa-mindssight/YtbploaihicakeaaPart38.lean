/-
  What the project's robot does.
-/
import Derived.Test.YtbploaihicakeaaPart34
import Derived.Test.YtbploaihicakeaaPart37
import Derived.Test.YtbploaihicakeaaPart29
import Derived.BigQuiet
import Derived.Deep.Cut
import Derived.Deep.CutRange
import Derived.Deep.CutBlock
import Derived.Deep.RegionHeld3
namespace Go.Proofs.Ytbploaihicakeaa
open Go.RowKit

set_option maxRecDepth 8000 in
set_option maxHeartbeats 12800000 in
theorem mRobot_next (s g c : Nat → Int) (E I : Nat → Nat → Int) (gC gE gI cC cE cI k : Nat) (w : World) (hL : Gd.Lists w gC gE gI c E I) (hc : ∀ i, 0 ≤ c i ∧ c i ≤ 255) (hcE : 32 ≤ cE) (hcC : 384 ≤ cC) (hE : Md.Good c E I) (hk : k < 32) (hk0 : E k 0 ≠ 0) :
    Calls Try.prog 108 #[.agg #[], .agg (Gd.world s gC gE gI cC cE cI g), .int .i64 (k : Int)] w (Md.Says w (Md.robotAt c E I (E k 2) k)) := by
  obtain ⟨wz, hwz⟩ : ∃ wz, wz = w.alloc (.cells #[] 65) := ⟨_, rfl⟩
  obtain ⟨w0, hw0⟩ : ∃ w0, w0 = wz.alloc (.cells (Gd.world s gC gE gI cC cE cI g) 29) := ⟨_, rfl⟩
  have hgz : w.grownBy wz none := by rw [hwz]; exact World.grownBy_alloc _ _ _
  have hg0 : w.grownBy w0 none := by rw [hw0]; exact grown_trans hgz (World.grownBy_alloc _ _ _)
  have hO : Hid (Gd.Shown w w0 wz.heap.size gC gE gI cC cE cI s g c E I) := by
    refine ⟨?_, hL.on hg0, hg0⟩
    rw [hw0]
    exact (Arr.world (heap_alloc_new wz _)).lie
  have hsz : wz.heap.size = w.heap.size + 1 := by rw [hwz]; simp
  have hc' := hide hc
  have hcE' := hide hcE
  have hcC' := hide hcC
  have hE' := hide hE
  clear hL hc hcE hcC hE hg0 hgz
  unfold Gd.world at hw0 ⊢
  rw [hwz] at hw0
  rw [hsz] at hO
  clear hwz hsz
  go_enter Try.func108, Try.ntmps108
  go_upto_region 1 with fail
  rw [← hw0]
  clear hw0
  obtain ⟨B, hB⟩ : ∃ B, w.heap.size + 1 = B := ⟨_, rfl⟩
  rw [hB] at hO ⊢
  clear hB
  obtain ⟨x0, x9, y0, y9, m0, m9⟩ := (unhide hE').fine k hk hk0
  have hk' : (k : Int) < 32 := by omega
  have HK := hide hk
  have q5 := (unhide hO).box.eleven.2.2.2.2.2.1
  obtain ⟨u0, u1, u2, u3, u4, u5, u6, u7, u8, u9, u10⟩ := (unhide hO).lists.own.ents.row hk
  have hQ := hide (Lie.copied w0 (E k) 36)
  have hO2 := hide ((unhide hO).on (World.grownBy_alloc w0 (.cells (En.cells (E k)) 36) none))
  clear hk hk0
  unfold En.cells at hQ hO2
  go_upto_region 2 with fail
  obtain ⟨Q, hQe⟩ : ∃ Q, w0.heap.size = Q := ⟨_, rfl⟩
  rw [hQe] at hQ ⊢
  generalize w0.alloc (.cells #[.int .i64 (E k 0), .int .i64 (E k 1), .int .i64 (E k 2), .int .i64 (E k 3), .int .i64 (E k 4), .int .i64 (E k 5), .int .i64 (E k 6), .int .i64 (E k 7), .int .i64 (E k 8), .int .i64 (E k 9), .int .i64 (E k 10)] 36) = w2 at hQ hO2 ⊢
  clear hQe q5 u0 u1 u2 u3 u4 u5 u6 u7 u8 u9 u10 hO
  have q6 := (unhide hO2).box.eleven.2.2.2.2.2.2.1
  have z2 : w2.cell? ⟨Q, 2, none⟩ = some (.int .i64 (E k 2)) := (unhide hQ).cell (c := 2) (by omega)
  have cb := hide (mBag_any I gI cI (E k 2) w2 (unhide hO2).lists.its)
  go_wp2_with fail
  refine (unhide cb).mono ?_
  rintro e w3 ⟨G, f, rfl, hA, hbag, hg⟩
  have hA3 := hide hA
  have hO3 := hide ((unhide hO2).on hg)
  have hQ3 := hide ((unhide hQ).on hg)
  have hhas := hide (Md.has_iff (unhide hE').ok hbag)
  have hslt := hide (Md.slot_iff (unhide hE').ok hbag)
  clear q6 z2 cb hA hbag hg hO2 hQ
  have q5 := (unhide hO3).box.eleven.2.2.2.2.2.1
  obtain ⟨z0, z1, z2, z3, z4, z5, z6, z7, z8, z9, z10⟩ := (unhide hQ3).elevenInts
  have cf := hide (mFoe_any E (E k) gE cE w3 (unhide hO3).lists.own (unhide hcE') x0 x9 y0 y9)
  unfold En.cells at cf
  obtain ⟨FO, hFO⟩ : ∃ F, Nv.wayFrom (Md.foe E (E k 3) (E k 4)) 4 1 = F := ⟨_, rfl⟩
  rw [hFO] at cf
  have hFO' := hide hFO
  clear hFO
  go_wp2_with fail
  refine (unhide cf).mono ?_
  rintro e w4 ⟨rfl, hg⟩
  have hA4 := hide ((unhide hA3).grown hg (by simp))
  have hO4 := hide ((unhide hO3).on hg)
  have hQ4 := hide ((unhide hQ3).on hg)
  clear q5 z0 z1 z2 z3 z4 z5 z6 z7 z8 z9 z10 cf hg hA3 hO3 hQ3
  have hat : Hid (∀ v, Md.robotAt c E I (E k 2) k v ↔ if E k 5 ≤ E k 6 / 3 ∧ 0 ≤ Gd.has I 40 (E k 2) 1 1 then v = 6 else if FO ≠ 0 then v = FO else if 0 ≤ Gd.find I 40 1 (E k 3) (E k 4) ∧ (I (Gd.find I 40 1 (E k 3) (E k 4)).toNat 0 = 4 ∨ 0 ≤ Gd.slot I 40 (E k 2)) then v = 5 else if Gr.at 384 c (E k 3) (E k 4) = 4 then v = 9 else Nv.IsToward c (fun _ => Gr.find 384 c 4) 1 E 32 (E k 3) (E k 4) v) := fun v => by
    rw [← unhide hFO']
    exact Iff.rfl
  have hlie := hide (Md.lies_iff (x := E k 3) (y := E k 4) (S := Gd.slot I 40 (E k 2)) (unhide hE').ok)
  have z5 : w4.cell? ⟨Q, 5, none⟩ = some (.int .i64 (E k 5)) := (unhide hQ4).cell (c := 5) (by omega)
  have z6 : w4.cell? ⟨Q, 6, none⟩ = some (.int .i64 (E k 6)) := (unhide hQ4).cell (c := 6) (by omega)
  have c1 := hide (mContains_any G f 1 w4 (unhide hA4))
  rw [unhide hhas] at c1
  obtain ⟨P, hP⟩ : ∃ P, Gd.has I 40 (E k 2) 1 1 = P := ⟨_, rfl⟩
  rw [hP] at c1 hat
  clear hP hhas hFO'
  obtain ⟨p, hp⟩ : ∃ p : Bool, decide (E k 5 ≤ E k 6 / 3 ∧ 0 ≤ P) = p := ⟨_, rfl⟩
  go_upto_region 4 with fail
  go_cut [24] from 25 (fun va wx => va = .bool p ∧ wx = w4)
  case first =>
    have hd : (E k 6).tdiv 3 = E k 6 / 3 := Int.tdiv_eq_ediv_of_nonneg m0
    by_cases h1 : E k 5 ≤ E k 6 / 3
    · have hpd : Hid (decide (0 ≤ P) = p) := (show decide (0 ≤ P) = p by rw [← hp]; simp [h1])
      clear hp
      go_wp2_with fail
      refine (unhide c1).mono ?_
      rintro e wy ⟨rfl, hy⟩
      subst wy
      go_wp2_with fail
      go_meet
      exact ⟨by rw [unhide hpd], rfl⟩
    · obtain rfl : p = false := by rw [← hp]; simp [h1]
      clear hp
      go_wp2_with fail
      go_meet
      exact ⟨rfl, rfl⟩
  case rest =>
    obtain ⟨rfl, hwe⟩ := hcut
    subst hwe
    clear z5 z6 c1 m0 m9
    cases p
    rotate_left
    · have hfin : Hid (Md.Says w (Md.robotAt c E I (E k 2) k) (.returned (.int .i64 6)) wc) := ⟨6, (unhide hat 6).2 (by rw [if_pos (by simpa using hp)]), rfl, (unhide hO4).grown⟩
      clear hp
      go_wp2
      go_ret
      exact unhide hfin
    have hat2 : Hid (∀ v, (if FO ≠ 0 then v = FO else if 0 ≤ Gd.find I 40 1 (E k 3) (E k 4) ∧ (I (Gd.find I 40 1 (E k 3) (E k 4)).toNat 0 = 4 ∨ 0 ≤ Gd.slot I 40 (E k 2)) then v = 5 else if Gr.at 384 c (E k 3) (E k 4) = 4 then v = 9 else Nv.IsToward c (fun _ => Gr.find 384 c 4) 1 E 32 (E k 3) (E k 4) v) → Md.robotAt c E I (E k 2) k v) := fun v hv => (unhide hat v).2 (by rw [if_neg (by simpa using hp)]; exact hv)
    clear hp hat
    by_cases hF0 : FO = 0
    rotate_left
    · have hF0' : (FO != 0) = true := by simpa using hF0
      have hfin : Hid (Md.Says w (Md.robotAt c E I (E k 2) k) (.returned (.int .i64 FO)) wc) := ⟨FO, unhide hat2 FO (by rw [if_pos hF0]), rfl, (unhide hO4).grown⟩
      clear hF0
      go_wp2
      go_ret
      exact unhide hfin
    have hat3 : Hid (∀ v, (if 0 ≤ Gd.find I 40 1 (E k 3) (E k 4) ∧ (I (Gd.find I 40 1 (E k 3) (E k 4)).toNat 0 = 4 ∨ 0 ≤ Gd.slot I 40 (E k 2)) then v = 5 else if Gr.at 384 c (E k 3) (E k 4) = 4 then v = 9 else Nv.IsToward c (fun _ => Gr.find 384 c 4) 1 E 32 (E k 3) (E k 4) v) → Md.robotAt c E I (E k 2) k v) := fun v hv => unhide hat2 v (by rw [if_neg (by simpa using hF0)]; exact hv)
    subst hF0
    clear hat2
    have c0 : Hid (∀ z, wc.grownBy z none → Calls Try.prog 111 #[.slice (some ⟨G, 0, none⟩) 4 4, .int .i64 0] z fun e w' => e = .returned (.bool (decide (0 ≤ Gd.slot I 40 (E k 2)))) ∧ w' = z) := fun z hz => by
      rw [← unhide hslt]
      exact mContains_any G f 0 z ((unhide hA4).grown hz (by simp))
    have cl : Hid (∀ z, wc.grownBy z none → Calls Try.prog 112 #[.slice (some ⟨gI, 0, none⟩) 40 cI, .agg (En.cells (E k)), .bool (decide (0 ≤ Gd.slot I 40 (E k 2)))] z (Says z (.bool (decide (0 ≤ Gd.find I 40 1 (E k 3) (E k 4) ∧ (I (Gd.find I 40 1 (E k 3) (E k 4)).toNat 0 = 4 ∨ 0 ≤ Gd.slot I 40 (E k 2))))))) := fun z hz => by
      rw [← unhide hlie]
      exact mFinds_any I (E k) gI cI _ z ((unhide hO4).lists.on hz).its
    unfold En.cells at cl
    obtain ⟨sl, hsl⟩ : ∃ sl : Bool, decide (0 ≤ Gd.slot I 40 (E k 2)) = sl := ⟨_, rfl⟩
    obtain ⟨p, hp⟩ : ∃ p : Bool, decide (0 ≤ Gd.find I 40 1 (E k 3) (E k 4) ∧ (I (Gd.find I 40 1 (E k 3) (E k 4)).toNat 0 = 4 ∨ 0 ≤ Gd.slot I 40 (E k 2))) = p := ⟨_, rfl⟩
    rw [hsl] at c0
    rw [hp, hsl] at cl
    have hp' := hide hp
    clear hsl hp hslt hlie hA4
    have hdr := hide (grown_drew1 (World.grownBy.refl wc none))
    have hkeep : Hid (∀ z, wc.grownBy z none → (z.cell? ⟨B, 6, none⟩ = some (.slice (some ⟨gI, 0, none⟩) 40 cI) ∧ z.cell? ⟨Q, 0, none⟩ = some (.int .i64 (E k 0)) ∧ z.cell? ⟨Q, 1, none⟩ = some (.int .i64 (E k 1)) ∧ z.cell? ⟨Q, 2, none⟩ = some (.int .i64 (E k 2)) ∧ z.cell? ⟨Q, 3, none⟩ = some (.int .i64 (E k 3)) ∧ z.cell? ⟨Q, 4, none⟩ = some (.int .i64 (E k 4)) ∧ z.cell? ⟨Q, 5, none⟩ = some (.int .i64 (E k 5)) ∧ z.cell? ⟨Q, 6, none⟩ = some (.int .i64 (E k 6)) ∧ z.cell? ⟨Q, 7, none⟩ = some (.int .i64 (E k 7)) ∧ z.cell? ⟨Q, 8, none⟩ = some (.int .i64 (E k 8)) ∧ z.cell? ⟨Q, 9, none⟩ = some (.int .i64 (E k 9)) ∧ z.cell? ⟨Q, 10, none⟩ = some (.int .i64 (E k 10)))) := fun z hz => ⟨((unhide hO4).on hz).box.eleven.2.2.2.2.2.2.1, ((unhide hQ4).on hz).elevenInts⟩
    have hS0 := unhide hkeep wc (World.grownBy.refl _ none)
    go_upto_region 8 with fail
    go_region_held3 (fun z => z.cell? ⟨B, 6, none⟩ = some (.slice (some ⟨gI, 0, none⟩) 40 cI) ∧ z.cell? ⟨Q, 0, none⟩ = some (.int .i64 (E k 0)) ∧ z.cell? ⟨Q, 1, none⟩ = some (.int .i64 (E k 1)) ∧ z.cell? ⟨Q, 2, none⟩ = some (.int .i64 (E k 2)) ∧ z.cell? ⟨Q, 3, none⟩ = some (.int .i64 (E k 3)) ∧ z.cell? ⟨Q, 4, none⟩ = some (.int .i64 (E k 4)) ∧ z.cell? ⟨Q, 5, none⟩ = some (.int .i64 (E k 5)) ∧ z.cell? ⟨Q, 6, none⟩ = some (.int .i64 (E k 6)) ∧ z.cell? ⟨Q, 7, none⟩ = some (.int .i64 (E k 7)) ∧ z.cell? ⟨Q, 8, none⟩ = some (.int .i64 (E k 8)) ∧ z.cell? ⟨Q, 9, none⟩ = some (.int .i64 (E k 9)) ∧ z.cell? ⟨Q, 10, none⟩ = some (.int .i64 (E k 10))) (go_keep) (first
      | (go_at_call 111; refine (unhide c0 _ (unhide hdr)).mono ?_; rintro e wy ⟨rfl, hy⟩; subst wy)
      | (go_at_call 112; refine (unhide cl _ (unhide hdr)).mono ?_; rintro e w5 ⟨rfl, hg⟩; have hg5 := hide (grown_trans (unhide hdr) hg); have hS1 := unhide hkeep _ (unhide hg5); clear hg))
    have hO5 := hide ((unhide hO4).on (unhide hg5))
    have hQ5 := hide ((unhide hQ4).on (unhide hg5))
    clear hS0 hS1 hkeep hdr c0 cl hO4 hQ4 hg5
    cases p
    rotate_left
    · have hfin : Hid (Md.Says w (Md.robotAt c E I (E k 2) k) (.returned (.int .i64 5)) w5) := ⟨5, unhide hat3 5 (by rw [if_pos (by simpa using unhide hp')]), rfl, (unhide hO5).grown⟩
      clear hp'
      go_wp2
      go_ret
      exact unhide hfin
    have hat4 : Hid (∀ v, (if Gr.at 384 c (E k 3) (E k 4) = 4 then v = 9 else Nv.IsToward c (fun _ => Gr.find 384 c 4) 1 E 32 (E k 3) (E k 4) v) → Md.robotAt c E I (E k 2) k v) := fun v hv => unhide hat3 v (by rw [if_neg (by simpa using unhide hp')]; exact hv)
    clear hat3 hp'
    have hQ6 : Hid (∀ z, w5.grownBy z none → z.cell? ⟨Q, 3, none⟩ = some (.int .i64 (E k 3)) ∧ z.cell? ⟨Q, 4, none⟩ = some (.int .i64 (E k 4))) := fun z hz => by
      have h3 := ((unhide hQ5).on hz).cell (c := 3) (by omega)
      have h4 := ((unhide hQ5).on hz).cell (c := 4) (by omega)
      exact ⟨h3, h4⟩
    clear hQ5
    have cg := hide (at_any w5.heap.size (some ⟨gC, 0, none⟩) 384 cC c (E k 3) (E k 4) w5 (unhide hO5).lists.vec (unhide hc'))
    obtain ⟨a, ha⟩ : ∃ a, Gr.at 384 c (E k 3) (E k 4) = a := ⟨_, rfl⟩
    rw [ha] at cg hat4
    clear ha
    have q4 := (unhide hO5).box.eleven.2.2.2.2.1
    obtain ⟨z3, z4⟩ := unhide hQ6 _ (World.grownBy.refl _ none)
    go_wp2_with fail
    refine (unhide cg).mono ?_
    rintro e wy ⟨rfl, hy⟩
    subst wy
    clear cg
    by_cases h4 : a = 4
    · have hfin : Hid (Md.Says w (Md.robotAt c E I (E k 2) k) (.returned (.int .i64 9)) w5) := ⟨9, unhide hat4 9 (by rw [if_pos h4]), rfl, (unhide hO5).grown⟩
      subst h4
      go_wp2
      go_ret
      exact unhide hfin
    have h4' : (a == 4) = false := by simpa using h4
    have hat5 : Hid (∀ v, Nv.IsToward c (fun _ => Gr.find 384 c 4) 1 E 32 (E k 3) (E k 4) v → Md.robotAt c E I (E k 2) k v) := fun v hv => unhide hat4 v (by rw [if_neg h4]; exact hv)
    clear h4 hat4 q4 z3 z4
    have cF := hide (fun z (hz : w5.grownBy z none) => find_any z.heap.size (some ⟨gC, 0, none⟩) 384 cC c 4 z ((unhide hO5).lists.on hz).vec (unhide hc') (unhide hcC'))
    have hfb := Md.find_bd c 4 384 0
    obtain ⟨F, hF⟩ : ∃ F, Gr.find 384 c 4 = F := ⟨_, rfl⟩
    have hfb' : -1 ≤ F ∧ F ≤ 384 := by rw [← hF]; exact hfb
    rw [hF] at cF hat5
    have hgz := hide (grown_drew1 (World.grownBy_alloc w5 (.cells #[.int .i64 F] 3) none))
    have ct : Hid (∀ b, b = w5.heap.size → Calls Try.prog 78 #[.slice (some ⟨gC, 0, none⟩) 384 cC, .slice (some ⟨gE, 0, none⟩) 32 cE, .int .i64 (E k 3), .int .i64 (E k 4), .slice (some ⟨b, 0, none⟩) 1 1] (w5.alloc (.cells #[.int .i64 F] 3)).drew (Nv.SaysToward (w5.alloc (.cells #[.int .i64 F] 3)).drew c (fun _ => F) 1 E 32 (E k 3) (E k 4))) := fun b hb => by
      subst hb
      have hL := (unhide hO5).lists.on (unhide hgz)
      exact navToward_any (some ⟨gC, 0, none⟩) (some ⟨gE, 0, none⟩) (some ⟨w5.heap.size, 0, none⟩) cC 32 cE 1 1 c (fun _ => F) E (E k 3) (E k 4) _ hL.vec (unhide hc') ⟨by omega, unhide hcE', .inr ⟨gE, rfl, hL.own.ents⟩⟩ (unhide hE').words (Nv.one_row w5 F 3) (fun _ => by omega) (by omega) (by omega) (by omega) (by omega)
    have hdr := hide (grown_drew1 (World.grownBy.refl w5 none))
    have hkeep : Hid (∀ z, w5.grownBy z none → (z.cell? ⟨B, 4, none⟩ = some (.slice (some ⟨gC, 0, none⟩) 384 cC) ∧ z.cell? ⟨B, 5, none⟩ = some (.slice (some ⟨gE, 0, none⟩) 32 cE) ∧ z.cell? ⟨Q, 3, none⟩ = some (.int .i64 (E k 3)) ∧ z.cell? ⟨Q, 4, none⟩ = some (.int .i64 (E k 4)))) := fun z hz => ⟨((unhide hO5).on hz).box.eleven.2.2.2.2.1, ((unhide hO5).on hz).box.eleven.2.2.2.2.2.1, (unhide hQ6 z hz).1, (unhide hQ6 z hz).2⟩
    have hS0 := unhide hkeep w5 (World.grownBy.refl _ none)
    clear hfb hF hfb'
    go_upto_region 12 with fail
    go_region_held3 (fun z => z.cell? ⟨B, 4, none⟩ = some (.slice (some ⟨gC, 0, none⟩) 384 cC) ∧ z.cell? ⟨B, 5, none⟩ = some (.slice (some ⟨gE, 0, none⟩) 32 cE) ∧ z.cell? ⟨Q, 3, none⟩ = some (.int .i64 (E k 3)) ∧ z.cell? ⟨Q, 4, none⟩ = some (.int .i64 (E k 4))) (go_keep) (first
      | (go_at_call 113; refine (unhide cF _ (unhide hdr)).mono ?_; rintro e wy ⟨rfl, hy⟩; subst wy)
      | (go_at_call 78; refine (unhide ct _ rfl).mono ?_; rintro e w6 ⟨v, hv, rfl, hg⟩; have hg6 := hide (grown_trans (unhide hgz) hg); have hv' := hide hv; have hS1 := unhide hkeep _ (unhide hg6); clear hg hv))
    have hfin : Hid (Md.Says w (Md.robotAt c E I (E k 2) k) (.returned (.int .i64 v)) w6) := ⟨v, unhide hat5 v (unhide hv'), rfl, grown_trans (unhide hO5).grown (unhide hg6)⟩
    clear hS0 hS1
    go_wp2
    go_ret
    exact unhide hfin

end Go.Proofs.Ytbploaihicakeaa
