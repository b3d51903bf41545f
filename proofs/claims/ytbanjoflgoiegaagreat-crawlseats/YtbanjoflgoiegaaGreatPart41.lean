/-
  MindsHunt MindsBag
-/
import Derived.Test.YtbanjoflgoiegaaGreatPart40
import Derived.Test.YtbanjoflgoiegaaGreatPart15
import Derived.Test.YtbanjoflgoiegaaGreatPart23
namespace Go.Proofs.YtbanjoflgoiegaaGreat
open Go.RowKit

theorem Nv.from_bd (dx dy : Int) : ∀ (m k : Nat), 0 ≤ Nv.besideFrom dx dy m k
  | 0, _ => Int.le_refl _
  | m + 1, k => by
    unfold Nv.besideFrom
    split
    · omega
    · exact Nv.from_bd dx dy m (k + 1)

set_option maxRecDepth 8000 in
set_option maxHeartbeats 12800000 in
theorem mMonster_next (s g c : Nat → Int) (E I : Nat → Nat → Int) (gC gE gI cC cE cI k : Nat) (w : World) (hL : Gd.Lists w gC gE gI c E I) (hc : ∀ i, 0 ≤ c i ∧ c i ≤ 255) (hcE : 32 ≤ cE) (hE : Md.Good c E I) (hk : k < 32) (hk0 : E k 0 ≠ 0) :
    Calls Tryz.prog 211 #[.agg #[], .agg (Gd.world s gC gE gI cC cE cI g), .int .i64 (k : Int)] w (Md.Says w (Md.IsMonster s c E (k : Int))) := by
  obtain ⟨wz, hwz⟩ : ∃ wz, wz = w.alloc (.cells #[] 134) := ⟨_, rfl⟩
  obtain ⟨w0, hw0⟩ : ∃ w0, w0 = wz.alloc (.cells (Gd.world s gC gE gI cC cE cI g) 30) := ⟨_, rfl⟩
  have hgz : w.grownBy wz none := by rw [hwz]; exact World.grownBy_alloc _ _ _
  have hg0 : w.grownBy w0 none := by rw [hw0]; exact grown_trans hgz (World.grownBy_alloc _ _ _)
  have hO : Hid (Gd.Shown w w0 wz.heap.size gC gE gI cC cE cI s g c E I) := by
    refine ⟨?_, hL.on hg0, hg0⟩
    rw [hw0]
    exact (Arr.world (heap_alloc_new wz _)).lie
  have hsz : wz.heap.size = w.heap.size + 1 := by rw [hwz]; simp
  have hdef : Hid (∀ v, Md.IsMonster s c E (k : Int) v ↔ if E k 0 = 1 then v = 0 else Md.monsterAt s c E k v) := fun v => by
    unfold Md.IsMonster
    rw [Int.toNat_natCast]
    by_cases h1 : E k 0 = 1
    · rw [if_pos h1, if_pos (.inr (.inr h1))]
    · rw [if_neg h1, if_neg (by omega)]
  have hc' := hide hc
  have hcE' := hide hcE
  have hE' := hide hE
  obtain ⟨x0, x9, y0, y9, -, -⟩ := hE.fine k hk hk0
  have hxy := hide (show (0 ≤ E k 3 ∧ E k 3 < 24) ∧ 0 ≤ E k 4 ∧ E k 4 < 16 from ⟨⟨x0, x9⟩, y0, y9⟩)
  have HK := hide (And.intro hk hk0)
  have hk' : (k : Int) < 32 := by omega
  clear hL hc hcE hE hg0 hgz x0 x9 y0 y9
  unfold Gd.world at hw0 ⊢
  rw [hwz] at hw0
  rw [hsz] at hO
  clear hwz hsz
  go_enter Tryz.func211, Tryz.ntmps211
  go_upto_region 1 with fail
  rw [← hw0]
  clear hw0
  obtain ⟨B, hB⟩ : ∃ B, w.heap.size + 1 = B := ⟨_, rfl⟩
  rw [hB] at hO ⊢
  clear hB
  have q5 := (unhide hO).box.eleven.2.2.2.2.2.1
  obtain ⟨u0, u1, u2, u3, u4, u5, u6, u7, u8, u9, u10⟩ := (unhide hO).lists.own.ents.row hk
  have hQ := hide (Lie.copied w0 (E k) 54)
  have hO2 := hide ((unhide hO).on (World.grownBy_alloc w0 (.cells (En.cells (E k)) 54) none))
  clear hk hk0
  unfold En.cells at hQ hO2
  go_upto_region 2 with fail
  obtain ⟨Q, hQe⟩ : ∃ Q, w0.heap.size = Q := ⟨_, rfl⟩
  rw [hQe] at hQ ⊢
  generalize w0.alloc (.cells #[.int .i64 (E k 0), .int .i64 (E k 1), .int .i64 (E k 2), .int .i64 (E k 3), .int .i64 (E k 4), .int .i64 (E k 5), .int .i64 (E k 6), .int .i64 (E k 7), .int .i64 (E k 8), .int .i64 (E k 9), .int .i64 (E k 10)] 54) = w2 at hQ hO2 ⊢
  clear hQe q5 u0 u1 u2 u3 u4 u5 u6 u7 u8 u9 u10 hO
  obtain ⟨z0, z1, z2, z3, z4, z5, z6, z7, z8, z9, z10⟩ := (unhide hQ).elevenInts
  by_cases h1 : E k 0 = 1
  · have hfin : Hid (Md.Says w (Md.IsMonster s c E (k : Int)) (.returned (.int .i64 0)) w2) := ⟨0, (unhide hdef 0).2 (by rw [if_pos h1]), rfl, (unhide hO2).grown⟩
    have h1' : (E k 0 == 1) = true := by simpa using h1
    clear hdef h1
    go_wp2
    go_ret
    exact unhide hfin
  have h1' : (E k 0 == 1) = false := by simpa using h1
  have hto : Hid (∀ v, (∃ b a, Md.Seen c E (E k 3) (E k 4) 4 b a ∧ ((a < 0 ∧ v = Md.stray s c E k) ∨ ∃ h : Nat, a = (h : Int) ∧ if 0 < Nv.beside (E h 3 - E k 3) (E h 4 - E k 4) then v = Nv.beside (E h 3 - E k 3) (E h 4 - E k 4) else Nv.IsToward c (fun _ => E h 4 * 24 + E h 3) 1 E 32 (E k 3) (E k 4) v)) → Md.IsMonster s c E (k : Int) v) := fun v hv => (unhide hdef v).2 (by rw [if_neg h1]; exact hv)
  clear h1 hdef
  obtain ⟨b0, b1, b2, b3, b4, b5, b6, b7, b8, b9, b10⟩ := (unhide hO2).box.eleven
  have cn := hide (mNearest_any s g c E I (E k) gC gE gI cC cE cI w2 (unhide hO2).lists (unhide hc') (unhide hcE') (unhide hE').fine (unhide hxy).1.1 (unhide hxy).1.2 (unhide hxy).2.1 (unhide hxy).2.2)
  unfold Gd.world En.cells at cn
  go_wp2_with fail
  refine (unhide cn).mono ?_
  rintro e w3 ⟨b, a, hS, hA, rfl, hg⟩
  have hSeen := hide hS
  have hAt := hide hA
  have hO3 := hide ((unhide hO2).on hg)
  have hQ3 := hide ((unhide hQ).on hg)
  clear b0 b1 b2 b3 b4 b5 b6 b7 b8 b9 b10 z0 z1 z2 z3 z4 z5 z6 z7 z8 z9 z10 cn hS hA hg hO2 hQ
  rcases unhide hAt with rfl | ⟨h, hh, rfl, hh1⟩
  · obtain ⟨b0, b1, b2, b3, b4, b5, b6, b7, b8, b9, b10⟩ := (unhide hO3).box.eleven
    have cw := hide (mWander_any s g c E I gC gE gI cC cE cI k w3 (unhide hO3).lists (unhide hc') (unhide hcE') (unhide hE').fine (unhide HK).1 (unhide HK).2)
    unfold Gd.world at cw
    have hfin : Hid (Md.IsMonster s c E (k : Int) (Md.stray s c E k)) := unhide hto _ ⟨b, -1, unhide hSeen, .inl ⟨by omega, rfl⟩⟩
    obtain ⟨S, hS⟩ : ∃ S, Md.stray s c E k = S := ⟨_, rfl⟩
    rw [hS] at cw hfin
    clear hS hto hSeen hAt
    go_wp2_with fail
    refine (unhide cw).mono ?_
    rintro e w4 ⟨rfl, hg⟩
    have hg4 := hide (grown_trans (unhide hO3).grown hg)
    clear hg cw b0 b1 b2 b3 b4 b5 b6 b7 b8 b9 b10
    go_wp2
    go_ret
    exact ⟨S, unhide hfin, rfl, unhide hg4⟩
  have hh' : (h : Int) < 32 := by omega
  have hhn : ¬ (h : Int) < 0 := by omega
  obtain ⟨p0, p9, r0, r9, -, -⟩ := (unhide hE').fine h hh (by omega)
  have HP := hide (show (0 ≤ E h 3 ∧ E h 3 < 24) ∧ 0 ≤ E h 4 ∧ E h 4 < 16 from ⟨⟨p0, p9⟩, r0, r9⟩)
  have q5 := (unhide hO3).box.eleven.2.2.2.2.2.1
  obtain ⟨u0, u1, u2, u3, u4, u5, u6, u7, u8, u9, u10⟩ := (unhide hO3).lists.own.ents.row hh
  have hR := hide (Lie.copied w3 (E h) 54)
  have hgA := hide (World.grownBy_alloc w3 (.cells (En.cells (E h)) 54) none)
  have hO4 := hide ((unhide hO3).on (unhide hgA))
  have hQ4 := hide ((unhide hQ3).on (unhide hgA))
  clear hh hh1 hAt p0 p9 r0 r9 hgA
  unfold En.cells at hR hO4 hQ4
  go_upto_region 8 with fail
  obtain ⟨R, hRe⟩ : ∃ R, w3.heap.size = R := ⟨_, rfl⟩
  rw [hRe] at hR ⊢
  generalize w3.alloc (.cells #[.int .i64 (E h 0), .int .i64 (E h 1), .int .i64 (E h 2), .int .i64 (E h 3), .int .i64 (E h 4), .int .i64 (E h 5), .int .i64 (E h 6), .int .i64 (E h 7), .int .i64 (E h 8), .int .i64 (E h 9), .int .i64 (E h 10)] 54) = w4 at hR hO4 hQ4 ⊢
  clear hRe q5 u0 u1 u2 u3 u4 u5 u6 u7 u8 u9 u10 hO3 hQ3
  have z3 : w4.cell? ⟨Q, 3, none⟩ = some (.int .i64 (E k 3)) := (unhide hQ4).cell (c := 3) (by omega)
  have z4 : w4.cell? ⟨Q, 4, none⟩ = some (.int .i64 (E k 4)) := (unhide hQ4).cell (c := 4) (by omega)
  have v3 : w4.cell? ⟨R, 3, none⟩ = some (.int .i64 (E h 3)) := (unhide hR).cell (c := 3) (by omega)
  have v4 : w4.cell? ⟨R, 4, none⟩ = some (.int .i64 (E h 4)) := (unhide hR).cell (c := 4) (by omega)
  have cb : Hid (Calls Tryz.prog 214 #[.int .i64 (E k 3), .int .i64 (E k 4), .int .i64 (E h 3), .int .i64 (E h 4)] w4 fun e w' => e = .returned (.int .i64 (Nv.beside (E h 3 - E k 3) (E h 4 - E k 4))) ∧ w' = w4) := by
    have hb := beside_any (E k 3) (E k 4) (E h 3) (E h 4) w4
    have k1 := unhide hxy
    have k2 := unhide HP
    rw [wrap64_id _ (by omega), wrap64_id _ (by omega)] at hb
    exact hb
  have hb0 : 0 ≤ Nv.beside (E h 3 - E k 3) (E h 4 - E k 4) := Nv.from_bd _ _ 4 1
  have hto2 : Hid (∀ v, (if 0 < Nv.beside (E h 3 - E k 3) (E h 4 - E k 4) then v = Nv.beside (E h 3 - E k 3) (E h 4 - E k 4) else Nv.IsToward c (fun _ => E h 4 * 24 + E h 3) 1 E 32 (E k 3) (E k 4) v) → Md.IsMonster s c E (k : Int) v) := fun v hv => unhide hto v ⟨b, (h : Int), unhide hSeen, .inr ⟨h, rfl, hv⟩⟩
  obtain ⟨D, hD⟩ : ∃ D, Nv.beside (E h 3 - E k 3) (E h 4 - E k 4) = D := ⟨_, rfl⟩
  rw [hD] at cb hb0 hto2
  clear hD hto hSeen
  go_wp2_with fail
  refine (unhide cb).mono ?_
  rintro e wy ⟨rfl, hw⟩
  subst wy
  clear cb
  by_cases hD0 : D = 0
  rotate_left
  · have hD' : (D != 0) = true := by simpa using hD0
    have hfin : Hid (Md.Says w (Md.IsMonster s c E (k : Int)) (.returned (.int .i64 D)) w4) := ⟨D, unhide hto2 D (by rw [if_pos (by omega)]), rfl, (unhide hO4).grown⟩
    clear hD0 hb0 hto2
    go_wp2
    go_ret
    exact unhide hfin
  have hto3 : Hid (∀ v, Nv.IsToward c (fun _ => E h 4 * 24 + E h 3) 1 E 32 (E k 3) (E k 4) v → Md.IsMonster s c E (k : Int) v) := fun v hv => unhide hto2 v (by rw [if_neg (by omega)]; exact hv)
  subst hD0
  have hm1 : IntKind.i64.wrap (E h 4 * 24) = E h 4 * 24 := by have := unhide HP; rw [IntKind.wrap_i64]; omega
  have hm2 : IntKind.i64.wrap (E h 4 * 24 + E h 3) = E h 4 * 24 + E h 3 := by have := unhide HP; rw [IntKind.wrap_i64]; omega
  have hgz := hide (World.grownBy_alloc w4 (.cells #[.int .i64 (E h 4 * 24 + E h 3)] 3) none)
  have ct : Hid (∀ b, b = w4.heap.size → Calls Tryz.prog 215 #[.slice (some ⟨gC, 0, none⟩) 384 cC, .slice (some ⟨gE, 0, none⟩) 32 cE, .int .i64 (E k 3), .int .i64 (E k 4), .slice (some ⟨b, 0, none⟩) 1 1] (w4.alloc (.cells #[.int .i64 (E h 4 * 24 + E h 3)] 3)) (Nv.SaysToward (w4.alloc (.cells #[.int .i64 (E h 4 * 24 + E h 3)] 3)) c (fun _ => E h 4 * 24 + E h 3) 1 E 32 (E k 3) (E k 4))) := fun b hb => by
    subst hb
    have hL := (unhide hO4).lists.on (unhide hgz)
    have k1 := unhide hxy
    have k2 := unhide HP
    exact navToward_any (some ⟨gC, 0, none⟩) (some ⟨gE, 0, none⟩) (some ⟨w4.heap.size, 0, none⟩) cC 32 cE 1 1 c (fun _ => E h 4 * 24 + E h 3) E (E k 3) (E k 4) _ hL.vec (unhide hc') ⟨by omega, unhide hcE', .inr ⟨gE, rfl, hL.own.ents⟩⟩ (unhide hE').words (Nv.one_row w4 (E h 4 * 24 + E h 3) 3) (fun _ => by omega) (by omega) (by omega) (by omega) (by omega)
  have q4 := (unhide hO4).box.eleven.2.2.2.2.1
  have q5 := (unhide hO4).box.eleven.2.2.2.2.2.1
  clear hto2 hb0
  go_wp2_with fail
  refine (unhide ct _ rfl).mono ?_
  rintro e w5 ⟨v, hv, rfl, hg⟩
  have hg5 := hide (grown_trans (grown_trans (unhide hO4).grown (unhide hgz)) hg)
  have hfin : Hid (Md.Says w (Md.IsMonster s c E (k : Int)) (.returned (.int .i64 v)) w5) := ⟨v, unhide hto3 v hv, rfl, unhide hg5⟩
  clear hg hv q4 q5 z3 z4 v3 v4 ct
  go_wp2
  go_ret
  exact unhide hfin

end Go.Proofs.YtbanjoflgoiegaaGreat

namespace Go.Proofs.YtbanjoflgoiegaaGreat
open Go.RowKit

def Md.BagIs (I : Nat → Nat → Int) (seat : Int) (n : Nat) (f : Nat → Int) : Prop := ∀ b : Nat, b < 4 → (∃ i, i < n ∧ I i 1 = 2 ∧ I i 2 = seat ∧ I i 3 = (b : Int) ∧ f b = I i 0) ∨ ((∀ i, i < n → ¬ (I i 1 = 2 ∧ I i 2 = seat ∧ I i 3 = (b : Int))) ∧ f b = 0)

theorem Md.BagIs.skip {I : Nat → Nat → Int} {seat : Int} {n : Nat} {f : Nat → Int} (h : Md.BagIs I seat n f) (hno : ∀ b : Nat, b < 4 → ¬ (I n 1 = 2 ∧ I n 2 = seat ∧ I n 3 = (b : Int))) : Md.BagIs I seat (n + 1) f := fun b hb => by
  rcases h b hb with ⟨i, hi, r⟩ | ⟨h1, h2⟩
  · exact .inl ⟨i, by omega, r⟩
  · refine .inr ⟨fun i hi => ?_, h2⟩
    by_cases e : i = n
    · rw [e]; exact hno b hb
    · exact h1 i (by omega)

theorem Md.BagIs.take {I : Nat → Nat → Int} {seat : Int} {n b : Nat} {f : Nat → Int} (h : Md.BagIs I seat n f) (h1 : I n 1 = 2) (h2 : I n 2 = seat) (h3 : I n 3 = (b : Int)) : Md.BagIs I seat (n + 1) (Gr.upd f b (I n 0)) := fun b' hb => by
  by_cases e : b' = b
  · subst e
    refine .inl ⟨n, by omega, h1, h2, h3, ?_⟩
    simp [Gr.upd]
  · have hu : Gr.upd f b (I n 0) b' = f b' := by simp [Gr.upd, e]
    rw [hu]
    rcases h b' hb with ⟨i, hi, r⟩ | ⟨g1, g2⟩
    · exact .inl ⟨i, by omega, r⟩
    · refine .inr ⟨fun i hi => ?_, g2⟩
      by_cases e2 : i = n
      · rw [e2]; rintro ⟨_, _, h⟩; omega
      · exact g1 i (by omega)

theorem Gd.Ok.same {c : Nat → Int} {I : Nat → Nat → Int} (h : Gd.Ok c 40 I) {i k : Nat} (hi : i < 40) (hk : k < 40) (h0 : I i 1 ≠ 0) (h1 : I k 1 = I i 1) (h2 : I k 2 = I i 2) (h3 : I k 3 = I i 3) : i = k := by
  by_cases e : i = k
  · exact e
  · exact absurd ⟨h1, h2, h3⟩ (h.one i k hi hk e h0)

def Md.among (f : Nat → Int) (v : Int) : Bool := decide (0 ≤ En.first (fun b => decide (v = f b)) 4)

theorem Md.among_iff (f : Nat → Int) (v : Int) : Md.among f v = true ↔ ∃ b, b < 4 ∧ f b = v := by
  unfold Md.among
  rcases En.first_cases (fun b => decide (v = f b)) 4 with ⟨he, hno⟩ | ⟨k, hk, he, hq, _⟩
  · rw [he]
    refine ⟨fun h => by simp at h, fun ⟨b, hb, e⟩ => ?_⟩
    have := hno b hb
    simp [e] at this
  · rw [he]
    refine ⟨fun _ => ⟨k, hk, ?_⟩, fun _ => by simp⟩
    have := of_decide_eq_true hq
    exact this.symm

theorem Md.has_iff {c : Nat → Int} {I : Nat → Nat → Int} {seat : Int} {f : Nat → Int} (hok : Gd.Ok c 40 I) (h : Md.BagIs I seat 40 f) : Md.among f 1 = decide (0 ≤ Gd.has I 40 seat 1 1) := by
  rw [Bool.eq_iff_iff, Md.among_iff, decide_eq_true_iff]
  constructor
  · rintro ⟨b, hb, e⟩
    rcases h b hb with ⟨i, hi, i1, i2, i3, hf⟩ | ⟨_, h0⟩
    · have hfi : ∃ k : Nat, k < 40 ∧ Gd.find I 40 2 seat (b : Int) = (k : Int) ∧ I k 1 = 2 ∧ I k 2 = seat ∧ I k 3 = (b : Int) := by
        rcases Gd.find_cases I 40 2 seat (b : Int) with ⟨_, hno⟩ | ⟨k, hk, he, k1, k2, k3, _⟩
        · exact absurd ⟨i1, i2, i3⟩ (hno i hi)
        · exact ⟨k, hk, he, k1, k2, k3⟩
      obtain ⟨k, hk, he, k1, k2, k3⟩ := hfi
      obtain rfl : i = k := hok.same hi hk (by omega) (by omega) (by omega) (by omega)
      have hQ : Gd.hasQ I 40 seat 1 1 b = true := by
        simp only [Gd.hasQ, Bool.and_eq_true, decide_eq_true_eq]
        rw [he, Int.toNat_natCast]
        omega
      unfold Gd.has
      rcases En.first_cases (Gd.hasQ I 40 seat 1 1) 4 with ⟨hf1, hno⟩ | ⟨m, hm, hf1, hq, _⟩
      · rw [hno b hb] at hQ; cases hQ
      · rw [if_pos (by omega), hf1]
        simp only [Gd.hasQ, Bool.and_eq_true, decide_eq_true_eq] at hq
        exact hq.1
    · omega
  · intro hh
    obtain ⟨k, hk, _, k1, k2, k3, k4, k5, k6⟩ := Gd.has_pos hh
    refine ⟨(I k 3).toNat, by omega, ?_⟩
    rcases h (I k 3).toNat (by omega) with ⟨i, hi, i1, i2, i3, hf⟩ | ⟨hno, _⟩
    · obtain rfl : i = k := hok.same hi hk (by omega) (by omega) (by omega) (by omega)
      omega
    · exact absurd ⟨k1, k2, by omega⟩ (hno k hk)

theorem Md.slot_iff {c : Nat → Int} {I : Nat → Nat → Int} {seat : Int} {f : Nat → Int} (hok : Gd.Ok c 40 I) (h : Md.BagIs I seat 40 f) : Md.among f 0 = decide (0 ≤ Gd.slot I 40 seat) := by
  rw [Bool.eq_iff_iff, Md.among_iff, decide_eq_true_iff]
  constructor
  · rintro ⟨b, hb, e⟩
    rcases h b hb with ⟨i, hi, i1, i2, i3, hf⟩ | ⟨hno, _⟩
    · rcases hok.each i hi with hz | hp
      · have := hz.2.1; omega
      · have := hp.1; omega
    · unfold Gd.slot
      rcases En.first_cases (fun b => decide (Gd.find I 40 2 seat (b : Int) < 0)) 4 with ⟨_, hn⟩ | ⟨m, hm, hf1, _⟩
      · have := hn b hb
        simp only [decide_eq_false_iff_not] at this
        obtain ⟨k, hk, _, k1, k2, k3⟩ := Gd.find_pos (I := I) (n := 40) (w := 2) (a := seat) (b := (b : Int)) (by omega)
        exact absurd ⟨k1, k2, k3⟩ (hno k hk)
      · omega
  · intro hs
    obtain ⟨h4, hno⟩ := Gd.slot_pos hs
    refine ⟨(Gd.slot I 40 seat).toNat, by omega, ?_⟩
    rcases h (Gd.slot I 40 seat).toNat (by omega) with ⟨i, hi, i1, i2, i3, _⟩ | ⟨_, h0⟩
    · exact absurd ⟨i1, i2, by omega⟩ (hno i hi)
    · exact h0

def Md.liesQ (I : Nat → Nat → Int) (x y : Int) (room : Bool) : Nat → Bool := fun i => (decide (I i 1 = 1) && (decide (I i 2 = x) && decide (I i 3 = y))) && (room || decide (I i 0 = 4))

def Md.lies (I : Nat → Nat → Int) (x y : Int) (room : Bool) : Bool := decide (0 ≤ En.first (Md.liesQ I x y room) 40)

theorem Md.lies_iff {c : Nat → Int} {I : Nat → Nat → Int} {x y S : Int} (hok : Gd.Ok c 40 I) : Md.lies I x y (decide (0 ≤ S)) = decide (0 ≤ Gd.find I 40 1 x y ∧ (I (Gd.find I 40 1 x y).toNat 0 = 4 ∨ 0 ≤ S)) := by
  unfold Md.lies
  rw [Bool.eq_iff_iff, decide_eq_true_iff, decide_eq_true_iff]
  constructor
  · intro h
    rcases En.first_cases (Md.liesQ I x y (decide (0 ≤ S))) 40 with ⟨he, _⟩ | ⟨k, hk, he, hq, _⟩
    · omega
    · simp only [Md.liesQ, Bool.and_eq_true, Bool.or_eq_true, decide_eq_true_eq] at hq
      obtain ⟨⟨k1, k2, k3⟩, k4⟩ := hq
      rcases Gd.find_cases I 40 1 x y with ⟨_, hno⟩ | ⟨j, hj, hf, j1, j2, j3, _⟩
      · exact absurd ⟨k1, k2, k3⟩ (hno k hk)
      · obtain rfl : k = j := hok.same hk hj (by omega) (by omega) (by omega) (by omega)
        rw [hf, Int.toNat_natCast]
        exact ⟨by omega, by rcases k4 with h | h <;> omega⟩
  · rintro ⟨h1, h2⟩
    obtain ⟨k, hk, he, k1, k2, k3⟩ := Gd.find_pos h1
    rw [he, Int.toNat_natCast] at h2
    rcases En.first_cases (Md.liesQ I x y (decide (0 ≤ S))) 40 with ⟨_, hno⟩ | ⟨m, hm, hf, _⟩
    · have := hno k hk
      have hq : Md.liesQ I x y (decide (0 ≤ S)) k = true := by
        simp only [Md.liesQ, Bool.and_eq_true, Bool.or_eq_true, decide_eq_true_eq]
        exact ⟨⟨k1, k2, k3⟩, by rcases h2 with h | h <;> omega⟩
      rw [hq] at this; cases this
    · omega

def Md.BagSays (w : World) (I : Nat → Nat → Int) (seat : Int) (e : Ending) (w' : World) : Prop := ∃ G f, e = .returned (.slice (some ⟨G, 0, none⟩) 4 4) ∧ Arr w' G 3 4 (Ints f) ∧ Md.BagIs I seat 40 f ∧ w.grownBy w' none

set_option maxRecDepth 8000 in
set_option maxHeartbeats 3200000 in
theorem mBag_any (I : Nat → Nat → Int) (gI cI : Nat) (seat : Int) (w : World) (hI : Its w gI 0 40 I) :
    Calls Tryz.prog 227 #[.slice (some ⟨gI, 0, none⟩) 40 cI, .int .i64 seat] w (Md.BagSays w I seat) := by
  have hI' := hide hI
  obtain ⟨i0, hi, hz0, hz1, hz2⟩ := info_parts info_int
  clear hI
  go_enter Tryz.func227, Tryz.ntmps227
  obtain ⟨G, hG⟩ : ∃ G, G = w.heap.size := ⟨_, rfl⟩
  have hG' := hide hG
  clear hG
  go_wp2_with (at_make; refine wpList_make_full _ rfl _ _ 38 rfl G 3 i0 (.int .i64 0) 1 Tryz.underlying38 hi hz0 hz1 .i64 .i64 _ _ 4 rfl rfl rfl rfl ?q3 ?q4 (Nat.le_of_eq (unhide hG')) ?_)
  case q3 => rw [hz2]; omega
  case q4 => unfold maxLen; omega
  intro w2 hown hgrow
  rw [← unhide hG'] at hown ⊢
  have hA := hide (Arr.zero hown)
  have hB0 : Hid (w.grownBy w2 none) := below_grown (by rw [← unhide hG']; exact (Below.refl _ _).grown hgrow (Nat.le_of_eq (unhide hG')) (by intro k hk; cases hk))
  clear hown hgrow hi hz0 hz1 hz2
  go_wp2_with fail
  go_loopw [7, 11] (fun _ i wr => ∃ (k : Nat) (f : Nat → Int), k ≤ 40 ∧ i = .int .i64 (k : Int) ∧ Hid (Arr wr G 3 4 (Ints f)) ∧ Hid (Md.BagIs I seat k f) ∧ Hid (w.grownBy wr none)) (fun _ i _ => 50 - (intOf i).toNat)
  case atStart => exact ⟨0, fun _ => 0, Nat.zero_le _, rfl, (unhide hA).congr fun _ _ => rfl, fun b _ => .inr ⟨fun i hi => by omega, rfl⟩, hB0⟩
  case round =>
    obtain ⟨k, f, hk, rfl, hA1, hB1, hg1⟩ := hrel
    clear hA hB0
    by_cases hlt : k < 40
    · have hlt' : (k : Int) < 40 := by omega
      have HL := hide hlt
      obtain ⟨u0, u1, u2, u3⟩ := ((unhide hI').on (unhide hg1)).row hlt
      obtain ⟨p0, h0⟩ : ∃ p, I k 0 = p := ⟨_, rfl⟩
      obtain ⟨p1, h1⟩ : ∃ p, I k 1 = p := ⟨_, rfl⟩
      obtain ⟨p2, h2⟩ : ∃ p, I k 2 = p := ⟨_, rfl⟩
      obtain ⟨p3, h3⟩ : ∃ p, I k 3 = p := ⟨_, rfl⟩
      rw [h0] at u0
      rw [h1] at u1
      rw [h2] at u2
      rw [h3] at u3
      have hP := hide (show I k 0 = p0 ∧ I k 1 = p1 ∧ I k 2 = p2 ∧ I k 3 = p3 from ⟨h0, h1, h2, h3⟩)
      clear h0 h1 h2 h3 hlt hk
      have hga := hide (World.grownBy_alloc wr (.cells #[.int .i64 p0, .int .i64 p1, .int .i64 p2, .int .i64 p3] 62) none)
      by_cases m : p1 = 2 ∧ p2 = seat ∧ 0 ≤ p3 ∧ p3 < 4
      · obtain ⟨rfl, rfl, m3, m4⟩ := m
        obtain ⟨b, rfl⟩ : ∃ b : Nat, p3 = (b : Int) := ⟨p3.toNat, by omega⟩
        have HB := hide (show b < 4 by omega)
        have hA2 := hide ((unhide hA1).grown (unhide hga) (by simp))
        have hcc := (unhide hA2).cell (unhide HB)
        have hff := (unhide hA2).free b
        have hB2 : Hid (Md.BagIs I p2 (k + 1) (Gr.upd f b p0)) := by
          have hP' := unhide hP
          have := (unhide hB1).take hP'.2.1 hP'.2.2.1 hP'.2.2.2
          rw [hP'.1] at this
          exact this
        have hfin : Hid (∀ v : Int, w.grownBy ((wr.alloc (.cells #[.int .i64 p0, .int .i64 2, .int .i64 p2, .int .i64 (b : Int)] 62)).setCell ⟨G, b, none⟩ (.int .i64 v)) none) := fun v => grown_store (grown_trans (unhide hg1) (unhide hga)) ⟨G, b, none⟩ (Nat.le_of_eq (unhide hG').symm) _
        clear hP hga hA1 hB1 hg1
        go_wp2
        go_roundw
        case rel => exact ⟨k + 1, Gr.upd f b p0, by have := unhide HL; omega, by go_num, (unhide hA2).upd p0, hB2, unhide hfin p0⟩
        case measure => have := unhide HL; simp [intOf]; omega
      · have hB2 : Hid (Md.BagIs I seat (k + 1) f) := (unhide hB1).skip fun b hb ⟨j1, j2, j3⟩ => m (by have := unhide hP; omega)
        have hA2 := hide ((unhide hA1).grown (unhide hga) (by simp))
        have hg2 := hide (grown_trans (unhide hg1) (unhide hga))
        clear hP hga hA1 hB1 hg1
        by_cases m1 : p1 = 2
        · subst m1
          by_cases m2 : p2 = seat
          · subst m2
            by_cases m3 : p3 < 0
            · have m3' : ¬ p3 ≥ 0 := by omega
              clear m
              go_wp2
              go_roundw
              case rel => exact ⟨k + 1, f, by have := unhide HL; omega, by go_num, hA2, hB2, hg2⟩
              case measure => have := unhide HL; simp [intOf]; omega
            · have m3' : p3 ≥ 0 := by omega
              have m4' : ¬ p3 < 4 := by omega
              clear m
              go_wp2
              go_roundw
              case rel => exact ⟨k + 1, f, by have := unhide HL; omega, by go_num, hA2, hB2, hg2⟩
              case measure => have := unhide HL; simp [intOf]; omega
          · have m2' : (p2 == seat) = false := by simpa using m2
            clear m m2
            go_wp2
            go_roundw
            case rel => exact ⟨k + 1, f, by have := unhide HL; omega, by go_num, hA2, hB2, hg2⟩
            case measure => have := unhide HL; simp [intOf]; omega
        · have m1' : (p1 == 2) = false := by simpa using m1
          clear m m1
          go_wp2
          go_roundw
          case rel => exact ⟨k + 1, f, by have := unhide HL; omega, by go_num, hA2, hB2, hg2⟩
          case measure => have := unhide HL; simp [intOf]; omega
    · obtain rfl : k = 40 := by omega
      have hge : ¬ ((40 : Nat) : Int) < 40 := by omega
      have hfin : Hid (Md.BagSays w I seat (.returned (.slice (some ⟨G, 0, none⟩) 4 4)) wr) := ⟨G, f, rfl, unhide hA1, unhide hB1, unhide hg1⟩
      clear hlt hk
      go_wp2
      go_ret
      exact unhide hfin

set_option maxHeartbeats 800000 in
theorem mIndex_any (G : Nat) (f : Nat → Int) (v : Int) (w : World) (hA : Arr w G 3 4 (Ints f)) :
    Calls Tryz.prog 133 #[.slice (some ⟨G, 0, none⟩) 4 4, .int .i64 v] w fun e w' => e = .returned (.int .i64 (En.first (fun b => decide (v = f b)) 4)) ∧ w' = w := by
  have hA' := hide hA
  have hhit : Hid (∀ k : Nat, k < 4 → (∀ j, j < k → v ≠ f j) → v = f k → En.first (fun b => decide (v = f b)) 4 = (k : Int)) := fun k hk hno e => En.first_hit (fun j hj => decide_eq_false (hno j hj)) (decide_eq_true e) hk
  have hnone : Hid ((∀ j, j < 4 → v ≠ f j) → En.first (fun b => decide (v = f b)) 4 = -1) := fun hno => En.first_none (fun j hj => decide_eq_false (hno j hj))
  generalize En.first (fun b => decide (v = f b)) 4 = r at hhit hnone ⊢
  clear hA
  go_enter Tryz.func133, Tryz.ntmps133
  go_wp2_with fail
  go_loop [5, 8] (fun _ i => ∃ k : Nat, k ≤ 4 ∧ i = .int .i64 (k : Int) ∧ Hid (∀ j, j < k → v ≠ f j)) (fun _ i => 10 - (intOf i).toNat)
  case atStart => exact ⟨0, by omega, rfl, fun j hj => by omega⟩
  case round =>
    obtain ⟨k, hk, rfl, hno⟩ := hrel
    by_cases hlt : k < 4
    · have q : w.cell? ⟨G, k, none⟩ = some (.int .i64 (f k)) := (unhide hA').cell hlt
      have hlt' : (k : Int) < 4 := by omega
      have HL := hide hlt
      obtain ⟨u, hu⟩ : ∃ u, f k = u := ⟨_, rfl⟩
      rw [hu] at q
      have hu' := hide hu
      clear hu hlt hk
      by_cases e : v = u
      · have he : Hid (r = (k : Int)) := unhide hhit k (unhide HL) (unhide hno) (by rw [unhide hu']; exact e)
        subst e
        go_wp2
        go_ret
        exact ⟨ret_int (unhide he).symm, rfl⟩
      · have e' : (v == u) = false := by simpa using e
        have hno2 : Hid (∀ j, j < k + 1 → v ≠ f j) := fun j hj => by
          by_cases ej : j = k
          · rw [ej, unhide hu']; exact e
          · exact unhide hno j (by omega)
        clear e
        go_wp2
        go_round
        case rel => exact ⟨k + 1, by have := unhide HL; omega, by go_num, hno2⟩
        case measure => have := unhide HL; simp [intOf]; omega
    · obtain rfl : k = 4 := by omega
      have hge : ¬ ((4 : Nat) : Int) < 4 := by omega
      have he : Hid (r = -1) := unhide hnone (unhide hno)
      clear hlt hk
      go_wp2
      go_ret
      exact ⟨ret_int (unhide he).symm, rfl⟩

theorem mContains_any (G : Nat) (f : Nat → Int) (v : Int) (w : World) (hA : Arr w G 3 4 (Ints f)) :
    Calls Tryz.prog 229 #[.slice (some ⟨G, 0, none⟩) 4 4, .int .i64 v] w fun e w' => e = .returned (.bool (Md.among f v)) ∧ w' = w := by
  have ci := hide (mIndex_any G f v w hA)
  have hd : Hid (Md.among f v = decide (0 ≤ En.first (fun b => decide (v = f b)) 4)) := rfl
  rw [unhide hd]
  generalize En.first (fun b => decide (v = f b)) 4 = r at ci ⊢
  clear hA hd
  go_enter Tryz.func229, Tryz.ntmps229
  go_wp2_with fail
  refine (unhide ci).mono ?_
  rintro e wy ⟨rfl, hw⟩
  subst wy
  go_wp2
  go_ret
  exact ⟨by simp, rfl⟩

end Go.Proofs.YtbanjoflgoiegaaGreat
