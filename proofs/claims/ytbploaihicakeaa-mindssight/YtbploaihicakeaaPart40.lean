/-
  What the project's monsters and robots do.
  The law package's known: a robot and a rat, side by side, hit each other.
-/
import Derived.Test.YtbploaihicakeaaPart39
import Derived.Test.YtbploaihicakeaaPart38
import Derived.Handy
import Derived.BigQuiet
import Derived.Deep.RegionHeld3
import Derived.Test.YtbploaihicakeaaPart36
import Derived.Test.YtbploaihicakeaaPart35
import Derived.Deep.Cut
import Derived.Deep.CutRange
import Derived.Deep.CutBlock
namespace Go.Proofs.Ytbploaihicakeaa
open Go.RowKit

theorem En.id_pos {n : Nat} {E : Nat → Nat → Int} {k : Nat} (hk : k < n) (hf : E k 0 ≠ 0) (hG : En.Gens n E) : 0 ≤ En.id n E (k : Int) := by
  rw [En.id_at hk hf]
  have := hG k hk
  omega

set_option maxRecDepth 8000 in
set_option maxHeartbeats 12800000 in
theorem mAsk_monster (s g c : Nat → Int) (E I : Nat → Nat → Int) (gC gE gI cC cE cI : Nat) (row : Int) (w : World) (hL : Gd.Lists w gC gE gI c E I) (hc : ∀ i, 0 ≤ c i ∧ c i ≤ 255) (hcE : 32 ≤ cE) (hE : Md.Good c E I) :
    Calls Try.prog 32 #[.iface 61 (.agg #[]), .agg (Gd.world s gC gE gI cC cE cI g), .int .i64 row] w (Md.Says w (Md.IsMonster s c E row)) := by
  obtain ⟨w0, hw0⟩ : ∃ w0, w0 = w.alloc (.cells (Gd.world s gC gE gI cC cE cI g) 29) := ⟨_, rfl⟩
  have hg0 : w.grownBy w0 none := by rw [hw0]; exact World.grownBy_alloc _ _ _
  have hO : Hid (Gd.Shown w w0 w.heap.size gC gE gI cC cE cI s g c E I) := by
    refine ⟨?_, hL.on hg0, hg0⟩
    rw [hw0]
    exact (Arr.world (heap_alloc_new w _)).lie
  have ci := hide (id_any gE 32 cE E row w0 (unhide hO).lists.own.ents hcE hE.gens)
  have hnone : Hid (((row < 0 ∨ 32 ≤ row) ∨ E row.toNat 0 = 0) → Md.IsMonster s c E row 0) := fun h => by
    unfold Md.IsMonster
    rw [if_pos (by omega)]
  have hid : Hid (((row < 0 ∨ 32 ≤ row) ∨ E row.toNat 0 = 0) ∧ En.id 32 E row < 0 ∨ ∃ k : Nat, k < 32 ∧ row = (k : Int) ∧ E k 0 ≠ 0 ∧ 0 ≤ En.id 32 E row) := by
    by_cases h1 : row < 0 ∨ 32 ≤ row
    · exact .inl ⟨.inl h1, by rw [En.id_out (by omega)]; omega⟩
    · obtain ⟨k, rfl⟩ : ∃ k : Nat, row = (k : Int) := ⟨row.toNat, by omega⟩
      by_cases h2 : E k 0 = 0
      · exact .inl ⟨.inr (by rw [Int.toNat_natCast]; exact h2), by rw [En.id_free h2]; omega⟩
      · exact .inr ⟨k, by omega, rfl, h2, En.id_pos (by omega) h2 hE.gens⟩
  have cn := hide (fun (k : Nat) (z : World) (hz : Gd.Lists z gC gE gI c E I) (h1 : k < 32) (h2 : E k 0 ≠ 0) => mMonster_next s g c E I gC gE gI cC cE cI k z hz hc hcE hE h1 h2)
  obtain ⟨i, hi⟩ : ∃ i, En.id 32 E row = i := ⟨_, rfl⟩
  rw [hi] at ci hid
  clear hL hc hcE hE hg0 hi
  unfold Gd.world at hw0 cn ⊢
  go_enter Try.func32, Try.ntmps32
  go_upto_region 1 with fail
  rw [← hw0]
  clear hw0
  obtain ⟨B, hB⟩ : ∃ B, w.heap.size = B := ⟨_, rfl⟩
  rw [hB] at hO ⊢
  clear hB
  have q5 := (unhide hO).box.eleven.2.2.2.2.2.1
  go_wp2_with fail
  refine (unhide ci).mono ?_
  rintro e w1 ⟨rfl, hg⟩
  have hO1 := hide ((unhide hO).on hg)
  clear q5 ci hg hO
  rcases unhide hid with ⟨h1, h2⟩ | ⟨k, hk, rfl, hk0, h2⟩
  · have hfin : Hid (Md.Says w (Md.IsMonster s c E row) (.returned (.int .i64 0)) w1) := ⟨0, unhide hnone h1, rfl, (unhide hO1).grown⟩
    clear h1 hid hnone
    go_wp2
    go_ret
    exact unhide hfin
  · have h2' : ¬ i < 0 := by omega
    have ck := hide (unhide cn k w1 (unhide hO1).lists hk hk0)
    obtain ⟨b0, b1, b2, b3, b4, b5, b6, b7, b8, b9, b10⟩ := (unhide hO1).box.eleven
    clear hid hnone cn hk hk0 h2
    go_wp2_with fail
    refine (unhide ck).mono ?_
    rintro e w2 ⟨v, hv, rfl, hg⟩
    have hfin : Hid (Md.Says w (Md.IsMonster s c E (k : Int)) (.returned (.int .i64 v)) w2) := ⟨v, hv, rfl, grown_trans (unhide hO1).grown hg⟩
    clear hv hg b0 b1 b2 b3 b4 b5 b6 b7 b8 b9 b10 ck
    go_wp2
    go_ret
    exact unhide hfin

set_option maxRecDepth 8000 in
set_option maxHeartbeats 12800000 in
theorem mAsk_robot (s g c : Nat → Int) (E I : Nat → Nat → Int) (gC gE gI cC cE cI : Nat) (row : Int) (w : World) (hL : Gd.Lists w gC gE gI c E I) (hc : ∀ i, 0 ≤ c i ∧ c i ≤ 255) (hcE : 32 ≤ cE) (hcC : 384 ≤ cC) (hE : Md.Good c E I) (hr : row = -1 ∨ ∃ k : Nat, k < 32 ∧ row = (k : Int) ∧ E k 0 ≠ 0) :
    Calls Try.prog 32 #[.iface 65 (.agg #[]), .agg (Gd.world s gC gE gI cC cE cI g), .int .i64 row] w (Md.Says w fun v => if row < 0 then v = 0 else Md.robotAt c E I (E row.toNat 2) row.toNat v) := by
  obtain ⟨w0, hw0⟩ : ∃ w0, w0 = w.alloc (.cells (Gd.world s gC gE gI cC cE cI g) 29) := ⟨_, rfl⟩
  have hg0 : w.grownBy w0 none := by rw [hw0]; exact World.grownBy_alloc _ _ _
  have hO : Hid (Gd.Shown w w0 w.heap.size gC gE gI cC cE cI s g c E I) := by
    refine ⟨?_, hL.on hg0, hg0⟩
    rw [hw0]
    exact (Arr.world (heap_alloc_new w _)).lie
  have ci := hide (id_any gE 32 cE E row w0 (unhide hO).lists.own.ents hcE hE.gens)
  have hid : Hid ((row < 0 ∧ En.id 32 E row < 0) ∨ ∃ k : Nat, k < 32 ∧ row = (k : Int) ∧ E k 0 ≠ 0 ∧ 0 ≤ En.id 32 E row) := by
    rcases hr with rfl | ⟨k, hk, rfl, h2⟩
    · exact .inl ⟨by omega, by rw [En.id_out (by omega)]; omega⟩
    · exact .inr ⟨k, by omega, rfl, h2, En.id_pos (by omega) h2 hE.gens⟩
  have cn := hide (fun (k : Nat) (z : World) (hz : Gd.Lists z gC gE gI c E I) (h1 : k < 32) (h2 : E k 0 ≠ 0) => mRobot_next s g c E I gC gE gI cC cE cI k z hz hc hcE hcC hE h1 h2)
  have hP : Hid (∀ v, (if row < 0 then v = 0 else Md.robotAt c E I (E row.toNat 2) row.toNat v) ↔ (fun v => if row < 0 then v = 0 else Md.robotAt c E I (E row.toNat 2) row.toNat v) v) := fun v => Iff.rfl
  obtain ⟨P, hPe⟩ : ∃ P : Int → Prop, (fun v => if row < 0 then v = 0 else Md.robotAt c E I (E row.toNat 2) row.toNat v) = P := ⟨_, rfl⟩
  rw [hPe] at hP ⊢
  obtain ⟨i, hi⟩ : ∃ i, En.id 32 E row = i := ⟨_, rfl⟩
  rw [hi] at ci hid
  clear hL hc hcE hcC hE hg0 hi hr hPe
  unfold Gd.world at hw0 cn ⊢
  go_enter Try.func32, Try.ntmps32
  go_upto_region 1 with fail
  rw [← hw0]
  clear hw0
  obtain ⟨B, hB⟩ : ∃ B, w.heap.size = B := ⟨_, rfl⟩
  rw [hB] at hO ⊢
  clear hB
  have q5 := (unhide hO).box.eleven.2.2.2.2.2.1
  go_wp2_with fail
  refine (unhide ci).mono ?_
  rintro e w1 ⟨rfl, hg⟩
  have hO1 := hide ((unhide hO).on hg)
  clear q5 ci hg hO
  rcases unhide hid with ⟨h1, h2⟩ | ⟨k, hk, rfl, hk0, h2⟩
  · have hfin : Hid (Md.Says w P (.returned (.int .i64 0)) w1) := ⟨0, (unhide hP 0).1 (by rw [if_pos h1]), rfl, (unhide hO1).grown⟩
    clear h1 hid hP
    go_wp2
    go_ret
    exact unhide hfin
  · have h2' : ¬ i < 0 := by omega
    have ck := hide (unhide cn k w1 (unhide hO1).lists hk hk0)
    have hto : Hid (∀ v, Md.robotAt c E I (E k 2) k v → P v) := fun v hv => (unhide hP v).1 (by rw [if_neg (by omega), Int.toNat_natCast]; exact hv)
    obtain ⟨b0, b1, b2, b3, b4, b5, b6, b7, b8, b9, b10⟩ := (unhide hO1).box.eleven
    clear hid hP cn hk hk0 h2
    go_wp2_with fail
    refine (unhide ck).mono ?_
    rintro e w2 ⟨v, hv, rfl, hg⟩
    have hfin : Hid (Md.Says w P (.returned (.int .i64 v)) w2) := ⟨v, unhide hto v hv, rfl, grown_trans (unhide hO1).grown hg⟩
    clear hv hg b0 b1 b2 b3 b4 b5 b6 b7 b8 b9 b10 ck hto
    go_wp2
    go_ret
    exact unhide hfin

set_option maxRecDepth 8000 in
set_option maxHeartbeats 3200000 in
theorem mindsMonster_any (s g c : Nat → Int) (E I : Nat → Nat → Int) (gC gE gI cC cE cI : Nat) (row : Int) (w : World) (hL : Gd.Lists w gC gE gI c E I) (hc : ∀ i, 0 ≤ c i ∧ c i ≤ 255) (hcE : 32 ≤ cE) (hE : Md.Good c E I) :
    Calls Try.prog 11 #[.agg (Gd.world s gC gE gI cC cE cI g), .int .i64 row] w (Md.Says w (Md.IsMonster s c E row)) := by
  obtain ⟨w0, hw0⟩ : ∃ w0, w0 = w.alloc (.cells (Gd.world s gC gE gI cC cE cI g) 29) := ⟨_, rfl⟩
  have hg0 : w.grownBy w0 none := by rw [hw0]; exact World.grownBy_alloc _ _ _
  have hO : Hid (Gd.Shown w w0 w.heap.size gC gE gI cC cE cI s g c E I) := by
    refine ⟨?_, hL.on hg0, hg0⟩
    rw [hw0]
    exact (Arr.world (heap_alloc_new w _)).lie
  have ca := hide (mAsk_monster s g c E I gC gE gI cC cE cI row w0 (unhide hO).lists hc hcE hE)
  clear hL hc hcE hE hg0
  unfold Gd.world at hw0 ca ⊢
  go_enter Try.func11, Try.ntmps11
  go_upto_region 1 with fail
  rw [← hw0]
  clear hw0
  obtain ⟨B, hB⟩ : ∃ B, w.heap.size = B := ⟨_, rfl⟩
  rw [hB] at hO ⊢
  clear hB
  obtain ⟨b0, b1, b2, b3, b4, b5, b6, b7, b8, b9, b10⟩ := (unhide hO).box.eleven
  go_wp2_with fail
  refine (unhide ca).mono ?_
  rintro e w1 ⟨v, hv, rfl, hg⟩
  have hfin : Hid (Md.Says w (Md.IsMonster s c E row) (.returned (.int .i64 v)) w1) := ⟨v, hv, rfl, grown_trans (unhide hO).grown hg⟩
  clear hv hg b0 b1 b2 b3 b4 b5 b6 b7 b8 b9 b10 ca
  go_wp2
  go_ret
  exact unhide hfin

set_option maxRecDepth 8000 in
set_option maxHeartbeats 12800000 in
theorem mindsRobot_any (s g c : Nat → Int) (E I : Nat → Nat → Int) (gC gE gI cC cE cI : Nat) (seat : Int) (w : World) (hL : Gd.Lists w gC gE gI c E I) (hc : ∀ i, 0 ≤ c i ∧ c i ≤ 255) (hcE : 32 ≤ cE) (hcC : 384 ≤ cC) (hE : Md.Good c E I) :
    Calls Try.prog 13 #[.agg (Gd.world s gC gE gI cC cE cI g), .int .i64 seat] w (Md.Says w (Md.IsRobot c E I seat)) := by
  obtain ⟨w0, hw0⟩ : ∃ w0, w0 = w.alloc (.cells (Gd.world s gC gE gI cC cE cI g) 29) := ⟨_, rfl⟩
  have hg0 : w.grownBy w0 none := by rw [hw0]; exact World.grownBy_alloc _ _ _
  have hO : Hid (Gd.Shown w w0 w.heap.size gC gE gI cC cE cI s g c E I) := by
    refine ⟨?_, hL.on hg0, hg0⟩
    rw [hw0]
    exact (Arr.world (heap_alloc_new w _)).lie
  have ch : Hid (∀ z, Gd.Lists z gC gE gI c E I → Calls Try.prog 36 #[.slice (some ⟨gE, 0, none⟩) 32 cE, .int .i64 seat] z (Says z (.int .i64 (Gd.hero E seat)))) := fun z hz => hero_any gE 32 cE E seat z hz.own.ents hcE
  have hrow : Gd.hero E seat = -1 ∨ ∃ k : Nat, k < 32 ∧ Gd.hero E seat = (k : Int) ∧ E k 0 ≠ 0 := by
    unfold Gd.hero
    rcases En.first_cases (En.heroQ E seat) 32 with ⟨he, _⟩ | ⟨k, hk, he, hq, _⟩
    · exact .inl he
    · simp only [En.heroQ, Bool.and_eq_true, decide_eq_true_eq] at hq
      exact .inr ⟨k, hk, he, by omega⟩
  have ca := hide (fun (z : World) (hz : Gd.Lists z gC gE gI c E I) => mAsk_robot s g c E I gC gE gI cC cE cI (Gd.hero E seat) z hz hc hcE hcC hE hrow)
  have hto : Hid (∀ v, (if Gd.hero E seat < 0 then v = 0 else Md.robotAt c E I (E (Gd.hero E seat).toNat 2) (Gd.hero E seat).toNat v) → Md.IsRobot c E I seat v) := fun v hv => by
    unfold Md.IsRobot
    by_cases hn : Gd.hero E seat < 0
    · rw [if_pos hn] at hv ⊢; exact hv
    · rw [if_neg hn] at hv ⊢
      obtain ⟨k, hk, he, -, h2⟩ := Md.hero_row hn
      rw [he, Int.toNat_natCast] at hv ⊢
      rw [h2] at hv
      exact hv
  obtain ⟨P, hP⟩ : ∃ P : Int → Prop, (fun v => if Gd.hero E seat < 0 then v = 0 else Md.robotAt c E I (E (Gd.hero E seat).toNat 2) (Gd.hero E seat).toNat v) = P := ⟨_, rfl⟩
  have hto2 : Hid (∀ v, P v → Md.IsRobot c E I seat v) := fun v hv => unhide hto v (by rw [← hP] at hv; exact hv)
  rw [hP] at ca
  obtain ⟨h, hh⟩ : ∃ h, Gd.hero E seat = h := ⟨_, rfl⟩
  rw [hh] at ch ca
  clear hL hc hcE hcC hE hg0 hrow hto hP hh
  unfold Gd.world at hw0 ca ⊢
  go_enter Try.func13, Try.ntmps13
  go_upto_region 1 with fail
  rw [← hw0]
  clear hw0
  obtain ⟨B, hB⟩ : ∃ B, w.heap.size = B := ⟨_, rfl⟩
  rw [hB] at hO ⊢
  clear hB
  have hdr := hide (grown_drew1 (World.grownBy.refl w0 none))
  have hL0 : Hid (∀ z, w0.grownBy z none → Gd.Lists z gC gE gI c E I) := fun z hz => (unhide hO).lists.on hz
  have hkeep : Hid (∀ z, w0.grownBy z none → (z.cell? ⟨B, 0, none⟩ = some (.int .i64 (s 0)) ∧ z.cell? ⟨B, 1, none⟩ = some (.int .i64 (s 1)) ∧ z.cell? ⟨B, 2, none⟩ = some (.int .i64 (s 2)) ∧ z.cell? ⟨B, 3, none⟩ = some (.int .i64 (s 3)) ∧ z.cell? ⟨B, 4, none⟩ = some (.slice (some ⟨gC, 0, none⟩) 384 cC) ∧ z.cell? ⟨B, 5, none⟩ = some (.slice (some ⟨gE, 0, none⟩) 32 cE) ∧ z.cell? ⟨B, 6, none⟩ = some (.slice (some ⟨gI, 0, none⟩) 40 cI) ∧ z.cell? ⟨B, 7, none⟩ = some (.int .i64 (g 0)) ∧ z.cell? ⟨B, 8, none⟩ = some (.int .i64 (g 1)) ∧ z.cell? ⟨B, 9, none⟩ = some (.int .i64 (g 2)) ∧ z.cell? ⟨B, 10, none⟩ = some (.int .i64 (g 3)))) := fun z hz => ((unhide hO).on hz).box.eleven
  have hS0 := unhide hkeep w0 (World.grownBy.refl _ none)
  go_region_held3 (fun z => z.cell? ⟨B, 0, none⟩ = some (.int .i64 (s 0)) ∧ z.cell? ⟨B, 1, none⟩ = some (.int .i64 (s 1)) ∧ z.cell? ⟨B, 2, none⟩ = some (.int .i64 (s 2)) ∧ z.cell? ⟨B, 3, none⟩ = some (.int .i64 (s 3)) ∧ z.cell? ⟨B, 4, none⟩ = some (.slice (some ⟨gC, 0, none⟩) 384 cC) ∧ z.cell? ⟨B, 5, none⟩ = some (.slice (some ⟨gE, 0, none⟩) 32 cE) ∧ z.cell? ⟨B, 6, none⟩ = some (.slice (some ⟨gI, 0, none⟩) 40 cI) ∧ z.cell? ⟨B, 7, none⟩ = some (.int .i64 (g 0)) ∧ z.cell? ⟨B, 8, none⟩ = some (.int .i64 (g 1)) ∧ z.cell? ⟨B, 9, none⟩ = some (.int .i64 (g 2)) ∧ z.cell? ⟨B, 10, none⟩ = some (.int .i64 (g 3))) (go_keep) (first
    | (go_at_call 36; refine (unhide ch _ (unhide hL0 _ (unhide hdr))).mono ?_; rintro e w1 ⟨rfl, hg⟩; have hg1 := hide (grown_trans (unhide hdr) hg); have hS1 := unhide hkeep _ (unhide hg1); clear hg)
    | (go_at_call 32; refine (unhide ca _ (unhide hL0 _ (unhide hg1))).mono ?_; rintro e w2 ⟨v, hv, rfl, hg⟩; have hg2 := hide (grown_trans (unhide hg1) hg); have hv' := hide hv; have hS2 := unhide hkeep _ (unhide hg2); clear hg hv))
  have hfin : Hid (Md.Says w (Md.IsRobot c E I seat) (.returned (.int .i64 v)) w2) := ⟨v, unhide hto2 v (unhide hv'), rfl, grown_trans (unhide hO).grown (unhide hg2)⟩
  clear hS0 hS1 hS2
  go_wp2
  go_ret
  exact unhide hfin

end Go.Proofs.Ytbploaihicakeaa

namespace Go.Proofs.Ytbploaihicakeaa
open Go.RowKit

theorem Md.bare_hero (kc : Nat) : Gd.hero (En.put (fun _ _ => 0) 1 (Gd.folk 0 kc 1)) 0 = 1 := by
  unfold Gd.hero
  refine En.first_hit (k := 1) (fun j hj => ?_) ?_ (by omega)
  · obtain rfl : j = 0 := by omega
    rfl
  · simp [En.heroQ, En.put_same, Gd.folk]

theorem Md.pair_fine {kc d : Nat} {e : Nat → Int} (hk : kc < 384) (hin : Gr.inB (e 3) (e 4) = true) (h6 : 0 ≤ e 6 ∧ e 6 ≤ 20) (_h : Md.Rat kc d e) : Md.Fine (Md.pair kc e) := fun k _ k0 => by
  obtain ⟨a1, a2, a3, a4⟩ := (Gr.inB_iff _ _).1 hin
  rcases (show k = 0 ∨ k = 1 ∨ 2 ≤ k by omega) with rfl | rfl | h2
  · rw [Md.pair_zero]
    exact ⟨a1, a2, a3, a4, h6.1, h6.2⟩
  · rw [Md.pair_one]
    show 0 ≤ (kc : Int) % 24 ∧ (kc : Int) % 24 < 24 ∧ 0 ≤ (kc : Int) / 24 ∧ (kc : Int) / 24 < 16 ∧ (0 : Int) ≤ 20 ∧ (20 : Int) ≤ 20
    omega
  · rw [Md.pair_more kc e h2] at k0
    exact absurd rfl k0

theorem Md.pair_good {c : Nat → Int} {kc d : Nat} {e : Nat → Int} (hE : Md.Fine (Md.pair kc e)) (hg : 0 ≤ e 1 ∧ e 1 ≤ 255) (h : Md.Rat kc d e) : Md.Good c (Md.pair kc e) (fun _ _ => 0) := by
  refine Md.good_of hE (fun k _ => ?_) ⟨fun i _ => .inl ⟨rfl, rfl, rfl, rfl⟩, fun i k _ _ _ h0 => absurd rfl h0⟩
  rcases (show k = 0 ∨ k = 1 ∨ 2 ≤ k by omega) with rfl | rfl | h2
  · rw [Md.pair_zero]
    exact ⟨hg, fun h0 => by have := h.1; omega⟩
  · rw [Md.pair_one]
    exact ⟨⟨by show (0 : Int) ≤ 0; omega, by show (0 : Int) ≤ 255; omega⟩, fun h0 => absurd h0 (by show ¬ (1 : Int) = 0; omega)⟩
  · rw [Md.pair_more kc e h2]
    exact ⟨⟨by show (0 : Int) ≤ 0; omega, by show (0 : Int) ≤ 255; omega⟩, fun _ => ⟨rfl, rfl⟩⟩

/-- The rat that is made up. -/
def Md.rat (x y : Int) : Nat → Int := En.upd (En.upd (En.stats 2) 3 x) 4 y

theorem Md.rat_is (kc d : Nat) (gn : Int) : Md.Rat kc d (En.gen (Md.rat ((kc : Int) % 24 + (Fx.way (d : Int)).1) ((kc : Int) / 24 + (Fx.way (d : Int)).2)) gn) := ⟨rfl, rfl, rfl⟩

set_option maxRecDepth 8000 in
set_option maxHeartbeats 12800000 in
theorem known9_any (w : World) : Calls Try.prog 8 #[] w (Says w (.bool true)) := by
  go_enter Try.func8, Try.ntmps8
  go_wp2_with fail
  refine (crowd_bare 1 0 1 _).mono ?_
  rintro e wa ⟨c, kc, s, g, hF, hkc, hkw, hWd, gC, gE, gI, cC, cE, cI, rfl, hcap, l1, l2, l3, n1, n2, n3, hL, hg⟩
  have hF' := hide hF
  have hkc' := hide hkc
  have hkw' := hide hkw
  have hcap' := hide hcap
  have hcw : Hid (384 ≤ cC) := hWd.cap
  clear hWd
  obtain ⟨E, hE⟩ : ∃ E, En.put (fun _ _ => 0) 1 (Gd.folk 0 kc 1) = E := ⟨_, rfl⟩
  obtain ⟨I, hI⟩ : ∃ I : Nat → Nat → Int, (fun _ _ => 0) = I := ⟨_, rfl⟩
  have hh : Gd.hero E 0 = 1 := by rw [← hE]; exact Md.bare_hero kc
  have e3 : E 1 3 = (kc : Int) % 24 := by rw [← hE]; rfl
  have e4 : E 1 4 = (kc : Int) / 24 := by rw [← hE]; rfl
  have hL2 : Gd.Lists wa gC gE gI c E I := by rw [← hE, ← hI]; exact hL
  have hE' := hide hE
  have hI' := hide hI
  have hW := hide (Gd.law_new (s := s) (g := g) (cC := cC) (cI := cI) (World.grownBy.refl w none) hcap l1 l2 l3 n1 n2 n3 hL2 hg)
  clear hcap l1 l2 l3 n1 n2 n3 hL hL2 hg hF hkc hkw hE hI
  unfold Gd.world at hW ⊢
  go_upto_region 2 with fail
  obtain ⟨T, hT⟩ : ∃ T, wa.heap.size = T := ⟨_, rfl⟩
  rw [hT] at hW ⊢
  generalize wa.alloc (.cells #[.int .i64 (s 0), .int .i64 (s 1), .int .i64 (s 2), .int .i64 (s 3), .slice (some ⟨gC, 0, none⟩) 384 cC, .slice (some ⟨gE, 0, none⟩) 32 cE, .slice (some ⟨gI, 0, none⟩) 40 cI, .int .i64 (g 0), .int .i64 (g 1), .int .i64 (g 2), .int .i64 (g 3)] 29) = wb at hW ⊢
  clear hT
  have b5 := (unhide hW).eleven.2.2.2.2.2.1
  have ch := refHero7_any gE cE E 0 wb (unhide hW).hold.lists.own
  rw [hh] at ch
  have ch' := hide ch
  clear ch hh
  go_wp2_with fail
  refine (unhide ch').mono ?_
  rintro e w1 ⟨rfl, hg⟩
  have hW1 := hide ((unhide hW).on hg)
  clear hg ch' b5 hW
  have b5 := (unhide hW1).eleven.2.2.2.2.2.1
  have ux := ((unhide hW1).hold.lists.own.ents.row (show 1 < 32 by omega)).2.2.2.1
  have uy := ((unhide hW1).hold.lists.own.ents.row (show 1 < 32 by omega)).2.2.2.2.1
  rw [e3] at ux
  rw [e4] at uy
  obtain ⟨x, hx⟩ : ∃ x, (kc : Int) % 24 = x := ⟨_, rfl⟩
  obtain ⟨y, hy⟩ : ∃ y, (kc : Int) / 24 = y := ⟨_, rfl⟩
  have hxy := hide (show (kc : Int) % 24 = x ∧ (kc : Int) / 24 = y from ⟨hx, hy⟩)
  have hb : (0 ≤ x ∧ x < 24) ∧ 0 ≤ y ∧ y < 16 := by have := unhide hkc'; omega
  obtain ⟨⟨x0, x9⟩, y0, y9⟩ := hb
  rw [hx] at ux
  rw [hy] at uy
  clear hx hy e3 e4
  go_upto_region 3 with fail
  go_cut [3, 4] from 5 (fun va vb wx => va = .int .i64 x ∧ vb = .int .i64 y ∧ Hid (Gd.Law w wx T gC gE gI cC cE cI s g c E I))
  case first =>
    go_quiet (fail)
    go_wp2_with fail
    go_meet
    exact ⟨rfl, rfl, (unhide hW1).on (grown_drew (World.grownBy.refl _ none) _)⟩
  case rest =>
    clear b5 ux uy hW1
    obtain ⟨rfl, rfl, hW⟩ := hcut
    go_wp2_with fail
    go_loopw [5, 6, 7] (fun v5 v6 v7 wr => ∃ d : Nat, 1 ≤ d ∧ d ≤ 5 ∧ v5 = .int .i64 (d : Int) ∧ wr = wc ∧ Hid (∀ j : Nat, 1 ≤ j → j < d → Gr.walkB (Gr.at 384 c (x + (Fx.way (j : Int)).1) (y + (Fx.way (j : Int)).2)) = false)) (fun v5 _ _ _ => 10 - (intOf v5).toNat)
    case atStart => exact ⟨1, by omega, by omega, rfl, rfl, fun j h1 h2 => by omega⟩
    case round =>
      obtain ⟨d, hd1, hd5, rfl, hwe, hno⟩ := hrel
      subst hwe
      by_cases hlt : d ≤ 4
      rotate_left
      · obtain ⟨j, j1, j4, hj⟩ := Md.neighbour (unhide hF') (unhide hkc') (unhide hkw')
        rw [(unhide hxy).1, (unhide hxy).2, unhide hno j j1 (by omega)] at hj
        exact absurd hj (by simp)
      have hlt' : (d : Int) ≤ 4 := by omega
      have HD := hide (show 1 ≤ d ∧ d ≤ 4 from ⟨hd1, hlt⟩)
      obtain ⟨s1, s2, s3, s4⟩ := Md.way_small d
      have cw := hide (fun wq => refWay_any (d : Int) wq)
      have ca := hide (refAt_any wr.heap.size (some ⟨gC, 0, none⟩) 384 cC c (x + (Fx.way (d : Int)).1) (y + (Fx.way (d : Int)).2) wr (unhide hW).hold.lists.vec (fun i => ⟨((unhide hF').five i).1, by have := ((unhide hF').five i).2; omega⟩))
      have hrat := hide (Md.rat_is kc d 1)
      rw [(unhide hxy).1, (unhide hxy).2] at hrat
      obtain ⟨dx, hdx⟩ : ∃ z, (Fx.way (d : Int)).1 = z := ⟨_, rfl⟩
      obtain ⟨dy, hdy⟩ : ∃ z, (Fx.way (d : Int)).2 = z := ⟨_, rfl⟩
      have hnx : Hid (∀ b : Bool, Gr.walkB (Gr.at 384 c (x + dx) (y + dy)) = b → b = false → ∀ j : Nat, 1 ≤ j → j < d + 1 → Gr.walkB (Gr.at 384 c (x + (Fx.way (j : Int)).1) (y + (Fx.way (j : Int)).2)) = false) := fun b h1 h2 j j1 jd => by
        by_cases e : j = d
        · rw [e, hdx, hdy, h1, h2]
        · exact unhide hno j j1 (by omega)
      rw [hdx] at s1 s2 cw ca hrat
      rw [hdy] at s3 s4 cw ca hrat
      have hin : Hid (Gr.walkB (Gr.at 384 c (x + dx) (y + dy)) = true → Gr.inB (x + dx) (y + dy) = true) := fun h => by
        cases hi : Gr.inB (x + dx) (y + dy)
        · rw [Gr.at_out hi] at h
          exact absurd h (by decide)
        · rfl
      obtain ⟨a, ha⟩ : ∃ z, Gr.at 384 c (x + dx) (y + dy) = z := ⟨_, rfl⟩
      have ck := hide (refWalk_any a wr)
      obtain ⟨q, hq⟩ : ∃ z, Gr.walkB a = z := ⟨_, rfl⟩
      rw [ha] at ca hnx hin
      rw [hq] at ck hin
      have hnx2 := hide (unhide hnx q hq)
      have w1 : IntKind.i64.wrap (x + dx) = x + dx := by rw [IntKind.wrap_i64]; omega
      have w2 : IntKind.i64.wrap (y + dy) = y + dy := by rw [IntKind.wrap_i64]; omega
      have b4 := (unhide hW).eleven.2.2.2.2.1
      clear hdx hdy ha hq hnx hd1 hd5 hlt hno
      go_wp2_with fail
      refine (unhide cw _).mono ?_
      rintro e wq ⟨rfl, hy⟩
      subst wq
      go_wp2_with fail
      refine (unhide ca).mono ?_
      rintro e wq ⟨rfl, hy⟩
      subst wq
      go_wp2_with fail
      refine (unhide ck).mono ?_
      rintro e wq ⟨rfl, hy⟩
      subst wq
      clear cw ca ck b4
      cases q
      · have hnn : Hid (∀ j : Nat, 1 ≤ j → j < d + 1 → Gr.walkB (Gr.at 384 c (x + (Fx.way (j : Int)).1) (y + (Fx.way (j : Int)).2)) = false) := unhide hnx2 rfl
        go_wp2
        go_roundw
        case rel => exact ⟨d + 1, by omega, by have := unhide HD; omega, by go_num, by first | rfl | trivial, hnn⟩
        case measure => simp [intOf]; have := unhide HD; omega
      have hib := hide (unhide hin (by first | rfl | trivial))
      have hst6 : Hid (En.stats 2 0 = 2 ∧ En.stats 2 6 = 4) := ⟨rfl, rfl⟩
      have hratd : Hid (Md.rat (x + dx) (y + dy) = En.upd (En.upd (En.stats 2) 3 (x + dx)) 4 (y + dy)) := rfl
      have cst := hide (entRefStats_any 2 wr)
      obtain ⟨st, hst⟩ : ∃ st, En.stats 2 = st := ⟨_, rfl⟩
      rw [hst] at cst hst6 hratd
      clear hst hin hnx2
      unfold En.cells at cst
      go_wp2_with fail
      refine (unhide cst).mono ?_
      rintro e w3 ⟨rfl, hg1⟩
      have hQ := hide (Lie.born w3 st 36)
      have hg2 := hide (grown_trans hg1 (World.grownBy_alloc w3 (.cells (En.cells st) 36) none))
      have hoff : Hid (Ft.Off w w3.heap.size T T gC gE gI) := by
        have q1 := ((unhide hW).on hg1).hold.box.lt
        have q3 := ((unhide hW).on hg1).hold.lists.cells.lt
        have q4 := ((unhide hW).on hg1).hold.lists.ents.lt
        have q5 := ((unhide hW).on hg1).hold.lists.items.lt
        have q6 := (unhide hW).grown.size
        have q7 := hg1.size
        exact ⟨by omega, by omega, by omega, by omega, by omega, by omega⟩
      have hW1 := hide ((unhide hW).on (unhide hg2))
      clear hg1 cst hg2 hW
      unfold En.cells at hQ hW1
      go_upto_region 10 with fail
      obtain ⟨Q, hQe⟩ : ∃ Q, w3.heap.size = Q := ⟨_, rfl⟩
      rw [hQe] at hQ hoff ⊢
      generalize w3.alloc (.cells #[.int .i64 (st 0), .int .i64 (st 1), .int .i64 (st 2), .int .i64 (st 3), .int .i64 (st 4), .int .i64 (st 5), .int .i64 (st 6), .int .i64 (st 7), .int .i64 (st 8), .int .i64 (st 9), .int .i64 (st 10)] 36) = wd at hQ hW1 ⊢
      clear hQe
      have z3 := (unhide hQ).ent.2.2.2.1
      have z4 := (unhide hQ).ent.2.2.2.2.1
      have zf := (unhide hQ).free
      have hW2 := hide (((unhide hW1).off (unhide hoff) 3 (.int .i64 (x + dx))).off (unhide hoff) 4 (.int .i64 (y + dy)))
      have hQ2 := hide (((unhide hQ).upd 3 (x + dx)).upd 4 (y + dy))
      rw [← unhide hratd] at hQ2
      go_upto_region 11 with fail
      generalize (wd.setCell ⟨Q, 3, none⟩ (.int .i64 (x + dx))).setCell ⟨Q, 4, none⟩ (.int .i64 (y + dy)) = we at hW2 hQ2 ⊢
      clear z3 z4 zf hQ hW1 hoff
      have b5 := (unhide hW2).eleven.2.2.2.2.2.1
      obtain ⟨c0, c1, c2, c3, c4, c5, c6, c7, c8, c9, c10⟩ := (unhide hQ2).ent
      have r0 : Hid (E 0 0 = 0 ∧ (E 0 1 + 1) % 256 = 1) := by rw [← unhide hE']; exact ⟨rfl, rfl⟩
      have hG : Hid (En.Gens 32 E) := fun i _ => by
        rw [← unhide hE']
        by_cases e : i = 1
        · rw [e, En.put_same]
          exact ⟨by show (0 : Int) ≤ 0; omega, by show (0 : Int) ≤ 255; omega⟩
        · rw [En.put_other e]
          exact ⟨by show (0 : Int) ≤ 0; omega, by show (0 : Int) ≤ 255; omega⟩
      have hk2 : Hid (Md.rat (x + dx) (y + dy) 0 = 2 ∧ Md.rat (x + dx) (y + dy) 6 = 4 ∧ Md.rat (x + dx) (y + dy) 3 = x + dx ∧ Md.rat (x + dx) (y + dy) 4 = y + dy) := ⟨rfl, rfl, rfl, rfl⟩
      obtain ⟨rt, hrt⟩ : ∃ z, Md.rat (x + dx) (y + dy) = z := ⟨_, rfl⟩
      rw [hrt] at hk2 hQ2 hrat c0 c1 c2 c3 c4 c5 c6 c7 c8 c9 c10
      have csp := refSpawn_some gE 32 cE 0 E rt we (unhide hW2).hold.lists.own.ents (by rw [(unhide hk2).1]; omega) (by omega) (unhide r0).1 (fun j h => by omega) (unhide hG)
      rw [(unhide r0).2] at csp
      have csp' := hide csp
      have hE5 : Hid (En.put E 0 (En.gen rt 1) = Md.pair kc (En.gen rt 1)) := by rw [← unhide hE']; rfl
      clear csp hrt hratd hG r0 hst6
      unfold En.cells at csp'
      go_wp2_with fail
      refine (unhide csp').mono ?_
      rintro e' wg ⟨jE, cap, rfl, hlo, hnc, hcm, hown, hgr⟩
      have hW5 := hide ((unhide hW2).folk hnc hlo hown hgr)
      rw [unhide hE5] at hW5
      have hc5 := hide hnc
      have y5 := ((unhide hW2).on hgr).eleven.2.2.2.2.2.1
      have fT := ((unhide hW2).on hgr).hold.box.free
      clear hlo hnc hcm hown hgr csp' b5 c0 c1 c2 c3 c4 c5 c6 c7 c8 c9 c10 hW2 hQ2 hE5
      go_upto_region 13 with fail
      generalize wg.setCell ⟨T, 5, none⟩ (.slice (some ⟨jE, 0, none⟩) 32 cap) = wh at hW5 ⊢
      clear y5 fT
      have hinr : Gr.inB (En.gen rt 1 3) (En.gen rt 1 4) = true := by
        show Gr.inB (rt 3) (rt 4) = true
        rw [(unhide hk2).2.2.1, (unhide hk2).2.2.2]
        exact unhide hib
      have hfine := hide (Md.pair_fine (unhide hkc') hinr (by show 0 ≤ rt 6 ∧ rt 6 ≤ 20; rw [(unhide hk2).2.1]; omega) (unhide hrat))
      have hgood : Hid (Md.Good c (Md.pair kc (En.gen rt 1)) I) := by
        rw [← unhide hI']
        exact Md.pair_good (unhide hfine) (by show 0 ≤ (1 : Int) ∧ (1 : Int) ≤ 255; omega) (unhide hrat)
      have hmR : Hid (∀ v, Md.IsRobot c (Md.pair kc (En.gen rt 1)) I 0 v → v = (d : Int)) := fun v hv => Md.robot_meets (c := c) (unhide hrat) (unhide HD).1 (unhide HD).2 (by rw [unhide hI']; exact hv)
      have hmM : Hid (∀ v, Md.IsMonster s c (Md.pair kc (En.gen rt 1)) 0 v → v = Md.back d) := fun v hv => Md.monster_meets (unhide hrat) (unhide HD).1 (unhide HD).2 (unhide hkc') hinr hv
      obtain ⟨F, hFe⟩ : ∃ F, Md.pair kc (En.gen rt 1) = F := ⟨_, rfl⟩
      rw [hFe] at hW5 hgood hmR hmM
      have hc8 : Hid (∀ i, 0 ≤ c i ∧ c i ≤ 255) := fun i => ⟨((unhide hF').five i).1, by have := ((unhide hF').five i).2; omega⟩
      have cR := hide (mindsRobot_any s g c F I gC jE gI cC cap cI 0 wh (unhide hW5).hold.lists (unhide hc8) (unhide hc5) (unhide hcw) (unhide hgood))
      have cM : Hid (∀ z, Gd.Lists z gC jE gI c F I → Calls Try.prog 11 #[.agg (Gd.world s gC jE gI cC cap cI g), .int .i64 0] z (Md.Says z (Md.IsMonster s c F 0))) := fun z hz => mindsMonster_any s g c F I gC jE gI cC cap cI 0 z hz (unhide hc8) (unhide hc5) (unhide hgood)
      unfold Gd.world at cR cM
      obtain ⟨b0, b1, b2, b3, b4, b5, b6, b7, b8, b9, b10⟩ := (unhide hW5).eleven
      clear hFe hfine hgood hrat hk2 hib hinr hc5 hc8 hE' hI'
      by_cases hb : 4 < (d : Int) + 2
      · have hbk : Hid (Md.back d = (d : Int) + 2 - 4) := if_pos hb
        go_wp2_with fail
        refine (unhide cR).mono ?_
        rintro e w6 ⟨v, hv, rfl, hg6⟩
        obtain rfl := unhide hmR v hv
        have hW6 := hide ((unhide hW5).on hg6)
        clear hv hg6 cR b0 b1 b2 b3 b4 b5 b6 b7 b8 b9 b10 hW5
        obtain ⟨b0, b1, b2, b3, b4, b5, b6, b7, b8, b9, b10⟩ := (unhide hW6).eleven
        have cM' := hide (unhide cM w6 (unhide hW6).hold.lists)
        go_wp2_with fail
        refine (unhide cM').mono ?_
        rintro e w7 ⟨v, hv, rfl, hg7⟩
        have hv2 : v = (d : Int) + 2 - 4 := (unhide hmM v hv).trans (unhide hbk)
        subst hv2
        have hfin := hide (grown_trans (unhide hW6).grown hg7)
        clear hv hg7 cM cM' b0 b1 b2 b3 b4 b5 b6 b7 b8 b9 b10 hW6
        go_wp2
        go_ret
        exact ⟨rfl, unhide hfin⟩
      · have hbk : Hid (Md.back d = (d : Int) + 2) := if_neg hb
        go_wp2_with fail
        refine (unhide cR).mono ?_
        rintro e w6 ⟨v, hv, rfl, hg6⟩
        obtain rfl := unhide hmR v hv
        have hW6 := hide ((unhide hW5).on hg6)
        clear hv hg6 cR b0 b1 b2 b3 b4 b5 b6 b7 b8 b9 b10 hW5
        obtain ⟨b0, b1, b2, b3, b4, b5, b6, b7, b8, b9, b10⟩ := (unhide hW6).eleven
        have cM' := hide (unhide cM w6 (unhide hW6).hold.lists)
        go_wp2_with fail
        refine (unhide cM').mono ?_
        rintro e w7 ⟨v, hv, rfl, hg7⟩
        have hv2 : v = (d : Int) + 2 := (unhide hmM v hv).trans (unhide hbk)
        subst hv2
        have hfin := hide (grown_trans (unhide hW6).grown hg7)
        clear hv hg7 cM cM' b0 b1 b2 b3 b4 b5 b6 b7 b8 b9 b10 hW6
        go_wp2
        go_ret
        exact ⟨rfl, unhide hfin⟩

end Go.Proofs.Ytbploaihicakeaa
