/-
  The law's known blow: a hero hits a rat, and it is gone.
-/
import Derived.Test.YtgkomdpceilggaaPart31
import Derived.Test.YtgkomdpceilggaaPart30
import Derived.Test.YtgkomdpceilggaaPart20
namespace Go.Proofs.Ytgkomdpceilggaa
open Go.RowKit

theorem Ft.known_hit {c s : Nat → Int} {E I : Nat → Nat → Int} (hF : Ft.Fit c E I) (hB : Ft.Born E) {k r : Nat} (hk : k < 32) (hr : r < 32) (k1 : E k 0 = 1) (r2 : E r 0 = 2) : Ft.hitE s E I (k : Int) (r : Int) r 0 = 0 ∧ Ft.hitE s E I (k : Int) (r : Int) k 0 = 1 := by
  have hne : k ≠ r := by rintro rfl; omega
  have bk := hB k hk (by omega)
  have br := hB r hr (by omega)
  rw [k1] at bk
  rw [r2] at br
  have e7 : En.stats 1 7 = 5 := rfl
  have e8 : En.stats 2 8 = 0 := rfl
  have e6 : En.stats 2 6 = 4 := rfl
  have ht := (hF.rows r hr).taken (by omega)
  have ha : 5 ≤ Ft.arm E I k := by
    unfold Ft.arm
    rw [if_pos k1]
    have : 0 ≤ Gd.three (Gd.wornK I (E k 2) 2 40) := by unfold Gd.three; split <;> omega
    omega
  have hg : Ft.guard E I r = 0 := by
    unfold Ft.guard
    rw [if_neg (by omega)]
    omega
  have hd := (Dc.die_bd 3 (s 0) [s 1, (k : Int), (r : Int), 77] (by omega)).1
  have hf : 5 ≤ Ft.force s E I k r := by
    unfold Ft.force
    omega
  have hth : Ft.there E (k : Int) = true ∧ Ft.there E (r : Int) = true := ⟨(Ft.there_at hk).trans (by simp [k1]), (Ft.there_at hr).trans (by simp [r2])⟩
  have hz : Ft.hurtE E r (Ft.force s E I k r) r 0 = 0 := by
    by_cases h : Ft.hurtE E r (Ft.force s E I k r) r 0 = 0
    · exact h
    · have := (Ft.hurt_left (E := E) (k := r) (n := Ft.force s E I k r) (by omega)).1 h
      omega
  unfold Ft.hitE
  rw [if_pos hth, Int.toNat_natCast, Int.toNat_natCast]
  unfold Ft.blowE
  rw [if_neg (by simpa using hz)]
  exact ⟨hz, by rw [Ft.hurt_other E _ hne]; exact k1⟩

set_option maxRecDepth 8000 in
set_option maxHeartbeats 6400000 in
theorem known8_any (w : World) : Calls Try.prog 25 #[] w (Says w (.bool true)) := by
  have hg1 := hide (World.grownBy_alloc w (.cells #[.int .i64 1] 3) none)
  have hK : Hid (NumArg (w.alloc (.cells #[.int .i64 1] 3)) (some ⟨w.heap.size, 0, none⟩) 1 (fun _ => 1)) := by
    refine ⟨by unfold maxLen; omega, .inr ⟨w.heap.size, 0, rfl, by simp, fun i hi => ?_⟩⟩
    obtain rfl : i = 0 := by omega
    exact (Arr.lit (heap_alloc_new w (.cells #[.int .i64 1] 3))).cell (i := 0) (by show 0 < 1; omega)
  have hM : Hid (ItArg (w.alloc (.cells #[.int .i64 1] 3)) none 0 0 (fun _ _ => 0)) := ⟨Nat.zero_le _, Nat.le_refl _, .inl rfl⟩
  go_enter Try.func25, Try.ntmps25
  go_wp2_with fail
  refine (crowd_any 1 0 1 _ 1 1 (fun _ => 1) none 0 0 (fun _ _ => 0) _ (unhide hK) (unhide hM)).mono ?_
  rintro e wa ⟨c, s, g, E, I, hFit, hBorn, hh0, hHas, gC, gE, gI, cC, cE, cI, rfl, hcap, l1, l2, l3, n1, n2, n3, hL, hg⟩
  have hW := hide (Gd.law_new (s := s) (g := g) (cC := cC) (cI := cI) (unhide hg1) hcap l1 l2 l3 n1 n2 n3 hL hg)
  have hF := hide hFit
  have hB := hide hBorn
  have hH := hide (hHas (by omega) rfl)
  obtain ⟨k, hk, hke, -, k1⟩ := Gd.hero_pos hh0
  have hk' : (k : Int) < 32 := by omega
  have ch : Hid (∀ x : World, Own x gE 32 E → Calls Try.prog 24 #[.slice (some ⟨gE, 0, none⟩) 32 cE, .int .i64 0] x (Says x (.int .i64 (k : Int)))) := fun x hx => by
    have h := refHero7_any gE cE E 0 x hx
    rw [hke] at h
    exact h
  have HK := hide (And.intro hk k1)
  clear hcap l1 l2 l3 n1 n2 n3 hL hg hFit hBorn hHas hh0 hke hk k1 hK hM hg1
  unfold Gd.world at hW ⊢
  go_upto_region 2 with fail
  obtain ⟨T, hT⟩ : ∃ T, wa.heap.size = T := ⟨_, rfl⟩
  rw [hT] at hW ⊢
  generalize wa.alloc (.cells #[.int .i64 (s 0), .int .i64 (s 1), .int .i64 (s 2), .int .i64 (s 3), .slice (some ⟨gC, 0, none⟩) 384 cC, .slice (some ⟨gE, 0, none⟩) 32 cE, .slice (some ⟨gI, 0, none⟩) 40 cI, .int .i64 (g 0), .int .i64 (g 1), .int .i64 (g 2), .int .i64 (g 3)] 29) = wb at hW ⊢
  clear hT
  have b5 := (unhide hW).eleven.2.2.2.2.2.1
  go_wp2_with fail
  refine (unhide ch _ (unhide hW).hold.lists.own).mono ?_
  rintro e wc ⟨rfl, hg⟩
  have hW1 := hide ((unhide hW).on hg)
  clear hg hW b5 ch
  have b5 := (unhide hW1).eleven.2.2.2.2.2.1
  go_wp2_with fail
  go_loop [3, 4] (fun vr vi => ∃ i r : Nat, i ≤ 32 ∧ r < 32 ∧ vi = .int .i64 (i : Int) ∧ vr = .int .i64 (r : Int) ∧ Hid ((∃ j, j < i ∧ E j 0 = 2) → E r 0 = 2)) (fun _ vi => 40 - (intOf vi).toNat)
  case atStart => exact ⟨0, 0, by omega, by omega, rfl, rfl, fun ⟨j, hj, _⟩ => by omega⟩
  case round =>
    obtain ⟨i, r, hi, hr, rfl, rfl, hP⟩ := hrel
    by_cases hlt : i < 32
    · have hlt' : (i : Int) < 32 := by omega
      have HL := hide hlt
      have HR := hide hr
      have u0 := ((unhide hW1).hold.lists.own.ents.row hlt).1
      clear hlt hi hr
      by_cases h2 : E i 0 = 2
      · rw [h2] at u0
        have H2 := hide h2
        clear h2
        go_wp2
        go_round
        case rel => exact ⟨i + 1, i, by have := unhide HL; omega, unhide HL, by go_num, rfl, fun _ => unhide H2⟩
        case measure => simp [intOf]; have := unhide HL; omega
      · have h2' : (E i 0 == 2) = false := by simpa using h2
        have H2 := hide h2
        clear h2
        go_wp2
        go_round
        case rel => exact ⟨i + 1, r, by have := unhide HL; omega, unhide HR, by go_num, rfl, fun ⟨j, hj, he⟩ => unhide hP ⟨j, by
          by_cases e : j = i
          · exact absurd (e ▸ he) (unhide H2)
          · omega, he⟩⟩
        case measure => simp [intOf]; have := unhide HL; omega
    · obtain rfl : i = 32 := by omega
      have hge : ¬ ((32 : Nat) : Int) < 32 := by omega
      have r2 : E r 0 = 2 := unhide hP (by
        obtain ⟨q, hq, he⟩ := unhide hH
        exact ⟨q, hq, he⟩)
      have hx := Ft.known_hit (s := s) (unhide hF) (unhide hB) (unhide HK).1 hr (unhide HK).2 r2
      have chit := hide (fightHit_any s g c E I gC gE gI cC cE cI (k : Int) (r : Int) wc (unhide hW1).hold.lists (unhide hF))
      obtain ⟨E2, hE2⟩ : ∃ E2, Ft.hitE s E I (k : Int) (r : Int) = E2 := ⟨_, rfl⟩
      obtain ⟨I2, hI2⟩ : ∃ I2, Ft.hitI s E I (k : Int) (r : Int) = I2 := ⟨_, rfl⟩
      rw [hE2, hI2] at chit
      rw [hE2] at hx
      have hr' : (r : Int) < 32 := by omega
      have HR := hide hr
      have u2 : Hid (∀ x, wc.grownBy x none → x.cell? ⟨gE, r * 11, none⟩ = some (.int .i64 2)) := fun x hx => by
        have := (((unhide hW1).on hx).hold.lists.own.ents.row (unhide HR)).1
        rwa [r2] at this
      obtain ⟨b0, b1, b2, b3, b4, -, b6, b7, b8, b9, b10⟩ := (unhide hW1).eleven
      have HX := hide hx
      clear hlt hi hE2 hI2 hx r2 hP hr
      unfold Gd.world at chit
      go_wp2_with fail
      refine (unhide chit).mono ?_
      rintro e wv ⟨jC, jE, jI, dC, dE, dI, rfl, hcap, l1, l2, l3, n1, n2, n3, hL, hg⟩
      have hV := hide (Gd.law_new (s := s) (g := g) (cC := dC) (cI := dI) (unhide hW1).grown hcap l1 l2 l3 n1 n2 n3 hL hg)
      have hgA := hide (grown_trans hg (World.grownBy_alloc wv (.cells #[.int .i64 (s 0), .int .i64 (s 1), .int .i64 (s 2), .int .i64 (s 3), .slice (some ⟨jC, 0, none⟩) 384 dC, .slice (some ⟨jE, 0, none⟩) 32 dE, .slice (some ⟨jI, 0, none⟩) 40 dI, .int .i64 (g 0), .int .i64 (g 1), .int .i64 (g 2), .int .i64 (g 3)] 29) none))
      have hWd := hide ((unhide hW1).on (unhide hgA))
      clear hcap l1 l2 l3 n1 n2 n3 hL hg chit b0 b1 b2 b3 b4 b5 b6 b7 b8 b9 b10
      unfold Gd.world at hV ⊢
      go_upto_region 9 with fail
      obtain ⟨V, hVe⟩ : ∃ V, wv.heap.size = V := ⟨_, rfl⟩
      rw [hVe] at hV ⊢
      generalize wv.alloc (.cells #[.int .i64 (s 0), .int .i64 (s 1), .int .i64 (s 2), .int .i64 (s 3), .slice (some ⟨jC, 0, none⟩) 384 dC, .slice (some ⟨jE, 0, none⟩) 32 dE, .slice (some ⟨jI, 0, none⟩) 40 dI, .int .i64 (g 0), .int .i64 (g 1), .int .i64 (g 2), .int .i64 (g 3)] 29) = wd at hV hWd hgA ⊢
      clear hVe
      have a5 := (unhide hWd).eleven.2.2.2.2.2.1
      have d5 := (unhide hV).eleven.2.2.2.2.2.1
      have y0 := unhide u2 wd (unhide hgA)
      have y1 : wd.cell? ⟨jE, r * 11, none⟩ = some (.int .i64 0) := by
        have := ((unhide hV).hold.lists.own.ents.row (unhide HR)).1
        rwa [(unhide HX).1] at this
      have y2 : wd.cell? ⟨jE, k * 11, none⟩ = some (.int .i64 1) := by
        have := ((unhide hV).hold.lists.own.ents.row (unhide HK).1).1
        rwa [(unhide HX).2] at this
      have hfin := hide (unhide hV).grown
      go_wp2
      go_ret
      exact ⟨rfl, unhide hfin⟩

end Go.Proofs.Ytgkomdpceilggaa
