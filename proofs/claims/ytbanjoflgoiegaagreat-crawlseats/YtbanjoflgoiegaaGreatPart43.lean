/-
  MindsOwn CrawlSeat CrawlHunt
-/
import Derived.Test.YtbanjoflgoiegaaGreatPart41
import Derived.Test.YtbanjoflgoiegaaGreatPart42
import Derived.Handy
import Derived.BigQuiet
import Derived.Deep.RegionHeld3
import Derived.Test.YtbanjoflgoiegaaGreatPart37
namespace Go.Proofs.YtbanjoflgoiegaaGreat
open Go.RowKit

theorem En.id_pos {n : Nat} {E : Nat → Nat → Int} {k : Nat} (hk : k < n) (hf : E k 0 ≠ 0) (hG : En.Gens n E) : 0 ≤ En.id n E (k : Int) := by
  rw [En.id_at hk hf]
  have := hG k hk
  omega

set_option maxRecDepth 8000 in
set_option maxHeartbeats 12800000 in
theorem mAsk_monster (s g c : Nat → Int) (E I : Nat → Nat → Int) (gC gE gI cC cE cI : Nat) (row : Int) (w : World) (hL : Gd.Lists w gC gE gI c E I) (hc : ∀ i, 0 ≤ c i ∧ c i ≤ 255) (hcE : 32 ≤ cE) (hE : Md.Good c E I) :
    Calls Tryz.prog 117 #[.iface 134 (.agg #[]), .agg (Gd.world s gC gE gI cC cE cI g), .int .i64 row] w (Md.Says w (Md.IsMonster s c E row)) := by
  obtain ⟨w0, hw0⟩ : ∃ w0, w0 = w.alloc (.cells (Gd.world s gC gE gI cC cE cI g) 30) := ⟨_, rfl⟩
  have hg0 : w.grownBy w0 none := by rw [hw0]; exact World.grownBy_alloc _ _ _
  have hO : Hid (Gd.Shown w w0 w.heap.size gC gE gI cC cE cI s g c E I) := by
    refine ⟨?_, hL.on hg0, hg0⟩
    rw [hw0]
    exact (Arr.world (heap_alloc_new w _)).lie
  have ci := hide (id_any gE 32 cE E row w0 (unhide hO).lists.own.ents hcE hE.gens)
  have hnone : Hid (((row < 0 ∨ 32 ≤ row) ∨ E row.toNat 0 = 0) → Md.IsMonster s c E row 0) := fun h => by
    unfold Md.IsMonster
    rw [if_pos (by omega)]
  have hid : Hid (((row < 0 ∨ 32 ≤ row) ∨ E row.toNat 0 = 0) ∧ En.id 32 E row < 0 ∨ ∃ k : Nat, k < 32 ∧ row = (k : Int) ∧ E k 0 ≠ 0 ∧ 0 ≤ En.id 32 E row) := by
    by_cases h1 : row < 0 ∨ 32 ≤ row
    · exact .inl ⟨.inl h1, by rw [En.id_out (by omega)]; omega⟩
    · obtain ⟨k, rfl⟩ : ∃ k : Nat, row = (k : Int) := ⟨row.toNat, by omega⟩
      by_cases h2 : E k 0 = 0
      · exact .inl ⟨.inr (by rw [Int.toNat_natCast]; exact h2), by rw [En.id_free h2]; omega⟩
      · exact .inr ⟨k, by omega, rfl, h2, En.id_pos (by omega) h2 hE.gens⟩
  have cn := hide (fun (k : Nat) (z : World) (hz : Gd.Lists z gC gE gI c E I) (h1 : k < 32) (h2 : E k 0 ≠ 0) => mMonster_next s g c E I gC gE gI cC cE cI k z hz hc hcE hE h1 h2)
  obtain ⟨i, hi⟩ : ∃ i, En.id 32 E row = i := ⟨_, rfl⟩
  rw [hi] at ci hid
  clear hL hc hcE hE hg0 hi
  unfold Gd.world at hw0 cn ⊢
  go_enter Tryz.func117, Tryz.ntmps117
  go_upto_region 1 with fail
  rw [← hw0]
  clear hw0
  obtain ⟨B, hB⟩ : ∃ B, w.heap.size = B := ⟨_, rfl⟩
  rw [hB] at hO ⊢
  clear hB
  have q5 := (unhide hO).box.eleven.2.2.2.2.2.1
  go_wp2_with fail
  refine (unhide ci).mono ?_
  rintro e w1 ⟨rfl, hg⟩
  have hO1 := hide ((unhide hO).on hg)
  clear q5 ci hg hO
  rcases unhide hid with ⟨h1, h2⟩ | ⟨k, hk, rfl, hk0, h2⟩
  · have hfin : Hid (Md.Says w (Md.IsMonster s c E row) (.returned (.int .i64 0)) w1) := ⟨0, unhide hnone h1, rfl, (unhide hO1).grown⟩
    clear h1 hid hnone
    go_wp2
    go_ret
    exact unhide hfin
  · have h2' : ¬ i < 0 := by omega
    have ck := hide (unhide cn k w1 (unhide hO1).lists hk hk0)
    obtain ⟨b0, b1, b2, b3, b4, b5, b6, b7, b8, b9, b10⟩ := (unhide hO1).box.eleven
    clear hid hnone cn hk hk0 h2
    go_wp2_with fail
    refine (unhide ck).mono ?_
    rintro e w2 ⟨v, hv, rfl, hg⟩
    have hfin : Hid (Md.Says w (Md.IsMonster s c E (k : Int)) (.returned (.int .i64 v)) w2) := ⟨v, hv, rfl, grown_trans (unhide hO1).grown hg⟩
    clear hv hg b0 b1 b2 b3 b4 b5 b6 b7 b8 b9 b10 ck
    go_wp2
    go_ret
    exact unhide hfin

set_option maxRecDepth 8000 in
set_option maxHeartbeats 12800000 in
theorem mAsk_robot (s g c : Nat → Int) (E I : Nat → Nat → Int) (gC gE gI cC cE cI : Nat) (row : Int) (w : World) (hL : Gd.Lists w gC gE gI c E I) (hc : ∀ i, 0 ≤ c i ∧ c i ≤ 255) (hcE : 32 ≤ cE) (hcC : 384 ≤ cC) (hE : Md.Good c E I) (hr : row = -1 ∨ ∃ k : Nat, k < 32 ∧ row = (k : Int) ∧ E k 0 ≠ 0) :
    Calls Tryz.prog 117 #[.iface 158 (.agg #[]), .agg (Gd.world s gC gE gI cC cE cI g), .int .i64 row] w (Md.Says w fun v => if row < 0 then v = 0 else Md.robotAt c E I (E row.toNat 2) row.toNat v) := by
  obtain ⟨w0, hw0⟩ : ∃ w0, w0 = w.alloc (.cells (Gd.world s gC gE gI cC cE cI g) 30) := ⟨_, rfl⟩
  have hg0 : w.grownBy w0 none := by rw [hw0]; exact World.grownBy_alloc _ _ _
  have hO : Hid (Gd.Shown w w0 w.heap.size gC gE gI cC cE cI s g c E I) := by
    refine ⟨?_, hL.on hg0, hg0⟩
    rw [hw0]
    exact (Arr.world (heap_alloc_new w _)).lie
  have ci := hide (id_any gE 32 cE E row w0 (unhide hO).lists.own.ents hcE hE.gens)
  have hid : Hid ((row < 0 ∧ En.id 32 E row < 0) ∨ ∃ k : Nat, k < 32 ∧ row = (k : Int) ∧ E k 0 ≠ 0 ∧ 0 ≤ En.id 32 E row) := by
    rcases hr with rfl | ⟨k, hk, rfl, h2⟩
    · exact .inl ⟨by omega, by rw [En.id_out (by omega)]; omega⟩
    · exact .inr ⟨k, by omega, rfl, h2, En.id_pos (by omega) h2 hE.gens⟩
  have cn := hide (fun (k : Nat) (z : World) (hz : Gd.Lists z gC gE gI c E I) (h1 : k < 32) (h2 : E k 0 ≠ 0) => mRobot_next s g c E I gC gE gI cC cE cI k z hz hc hcE hcC hE h1 h2)
  have hP : Hid (∀ v, (if row < 0 then v = 0 else Md.robotAt c E I (E row.toNat 2) row.toNat v) ↔ (fun v => if row < 0 then v = 0 else Md.robotAt c E I (E row.toNat 2) row.toNat v) v) := fun v => Iff.rfl
  obtain ⟨P, hPe⟩ : ∃ P : Int → Prop, (fun v => if row < 0 then v = 0 else Md.robotAt c E I (E row.toNat 2) row.toNat v) = P := ⟨_, rfl⟩
  rw [hPe] at hP ⊢
  obtain ⟨i, hi⟩ : ∃ i, En.id 32 E row = i := ⟨_, rfl⟩
  rw [hi] at ci hid
  clear hL hc hcE hcC hE hg0 hi hr hPe
  unfold Gd.world at hw0 cn ⊢
  go_enter Tryz.func117, Tryz.ntmps117
  go_upto_region 1 with fail
  rw [← hw0]
  clear hw0
  obtain ⟨B, hB⟩ : ∃ B, w.heap.size = B := ⟨_, rfl⟩
  rw [hB] at hO ⊢
  clear hB
  have q5 := (unhide hO).box.eleven.2.2.2.2.2.1
  go_wp2_with fail
  refine (unhide ci).mono ?_
  rintro e w1 ⟨rfl, hg⟩
  have hO1 := hide ((unhide hO).on hg)
  clear q5 ci hg hO
  rcases unhide hid with ⟨h1, h2⟩ | ⟨k, hk, rfl, hk0, h2⟩
  · have hfin : Hid (Md.Says w P (.returned (.int .i64 0)) w1) := ⟨0, (unhide hP 0).1 (by rw [if_pos h1]), rfl, (unhide hO1).grown⟩
    clear h1 hid hP
    go_wp2
    go_ret
    exact unhide hfin
  · have h2' : ¬ i < 0 := by omega
    have ck := hide (unhide cn k w1 (unhide hO1).lists hk hk0)
    have hto : Hid (∀ v, Md.robotAt c E I (E k 2) k v → P v) := fun v hv => (unhide hP v).1 (by rw [if_neg (by omega), Int.toNat_natCast]; exact hv)
    obtain ⟨b0, b1, b2, b3, b4, b5, b6, b7, b8, b9, b10⟩ := (unhide hO1).box.eleven
    clear hid hP cn hk hk0 h2
    go_wp2_with fail
    refine (unhide ck).mono ?_
    rintro e w2 ⟨v, hv, rfl, hg⟩
    have hfin : Hid (Md.Says w P (.returned (.int .i64 v)) w2) := ⟨v, unhide hto v hv, rfl, grown_trans (unhide hO1).grown hg⟩
    clear hv hg b0 b1 b2 b3 b4 b5 b6 b7 b8 b9 b10 ck hto
    go_wp2
    go_ret
    exact unhide hfin

set_option maxRecDepth 8000 in
set_option maxHeartbeats 3200000 in
theorem mindsMonster_any (s g c : Nat → Int) (E I : Nat → Nat → Int) (gC gE gI cC cE cI : Nat) (row : Int) (w : World) (hL : Gd.Lists w gC gE gI c E I) (hc : ∀ i, 0 ≤ c i ∧ c i ≤ 255) (hcE : 32 ≤ cE) (hE : Md.Good c E I) :
    Calls Tryz.prog 76 #[.agg (Gd.world s gC gE gI cC cE cI g), .int .i64 row] w (Md.Says w (Md.IsMonster s c E row)) := by
  obtain ⟨w0, hw0⟩ : ∃ w0, w0 = w.alloc (.cells (Gd.world s gC gE gI cC cE cI g) 30) := ⟨_, rfl⟩
  have hg0 : w.grownBy w0 none := by rw [hw0]; exact World.grownBy_alloc _ _ _
  have hO : Hid (Gd.Shown w w0 w.heap.size gC gE gI cC cE cI s g c E I) := by
    refine ⟨?_, hL.on hg0, hg0⟩
    rw [hw0]
    exact (Arr.world (heap_alloc_new w _)).lie
  have ca := hide (mAsk_monster s g c E I gC gE gI cC cE cI row w0 (unhide hO).lists hc hcE hE)
  clear hL hc hcE hE hg0
  unfold Gd.world at hw0 ca ⊢
  go_enter Tryz.func76, Tryz.ntmps76
  go_upto_region 1 with fail
  rw [← hw0]
  clear hw0
  obtain ⟨B, hB⟩ : ∃ B, w.heap.size = B := ⟨_, rfl⟩
  rw [hB] at hO ⊢
  clear hB
  obtain ⟨b0, b1, b2, b3, b4, b5, b6, b7, b8, b9, b10⟩ := (unhide hO).box.eleven
  go_wp2_with fail
  refine (unhide ca).mono ?_
  rintro e w1 ⟨v, hv, rfl, hg⟩
  have hfin : Hid (Md.Says w (Md.IsMonster s c E row) (.returned (.int .i64 v)) w1) := ⟨v, hv, rfl, grown_trans (unhide hO).grown hg⟩
  clear hv hg b0 b1 b2 b3 b4 b5 b6 b7 b8 b9 b10 ca
  go_wp2
  go_ret
  exact unhide hfin

set_option maxRecDepth 8000 in
set_option maxHeartbeats 12800000 in
theorem mindsRobot_any (s g c : Nat → Int) (E I : Nat → Nat → Int) (gC gE gI cC cE cI : Nat) (seat : Int) (w : World) (hL : Gd.Lists w gC gE gI c E I) (hc : ∀ i, 0 ≤ c i ∧ c i ≤ 255) (hcE : 32 ≤ cE) (hcC : 384 ≤ cC) (hE : Md.Good c E I) :
    Calls Tryz.prog 111 #[.agg (Gd.world s gC gE gI cC cE cI g), .int .i64 seat] w (Md.Says w (Md.IsRobot c E I seat)) := by
  obtain ⟨w0, hw0⟩ : ∃ w0, w0 = w.alloc (.cells (Gd.world s gC gE gI cC cE cI g) 30) := ⟨_, rfl⟩
  have hg0 : w.grownBy w0 none := by rw [hw0]; exact World.grownBy_alloc _ _ _
  have hO : Hid (Gd.Shown w w0 w.heap.size gC gE gI cC cE cI s g c E I) := by
    refine ⟨?_, hL.on hg0, hg0⟩
    rw [hw0]
    exact (Arr.world (heap_alloc_new w _)).lie
  have ch : Hid (∀ z, Gd.Lists z gC gE gI c E I → Calls Tryz.prog 68 #[.slice (some ⟨gE, 0, none⟩) 32 cE, .int .i64 seat] z (Says z (.int .i64 (Gd.hero E seat)))) := fun z hz => hero_any gE 32 cE E seat z hz.own.ents hcE
  have hrow : Gd.hero E seat = -1 ∨ ∃ k : Nat, k < 32 ∧ Gd.hero E seat = (k : Int) ∧ E k 0 ≠ 0 := by
    unfold Gd.hero
    rcases En.first_cases (En.heroQ E seat) 32 with ⟨he, _⟩ | ⟨k, hk, he, hq, _⟩
    · exact .inl he
    · simp only [En.heroQ, Bool.and_eq_true, decide_eq_true_eq] at hq
      exact .inr ⟨k, hk, he, by omega⟩
  have ca := hide (fun (z : World) (hz : Gd.Lists z gC gE gI c E I) => mAsk_robot s g c E I gC gE gI cC cE cI (Gd.hero E seat) z hz hc hcE hcC hE hrow)
  have hto : Hid (∀ v, (if Gd.hero E seat < 0 then v = 0 else Md.robotAt c E I (E (Gd.hero E seat).toNat 2) (Gd.hero E seat).toNat v) → Md.IsRobot c E I seat v) := fun v hv => by
    unfold Md.IsRobot
    by_cases hn : Gd.hero E seat < 0
    · rw [if_pos hn] at hv ⊢; exact hv
    · rw [if_neg hn] at hv ⊢
      obtain ⟨k, hk, he, -, h2⟩ := Md.hero_row hn
      rw [he, Int.toNat_natCast] at hv ⊢
      rw [h2] at hv
      exact hv
  obtain ⟨P, hP⟩ : ∃ P : Int → Prop, (fun v => if Gd.hero E seat < 0 then v = 0 else Md.robotAt c E I (E (Gd.hero E seat).toNat 2) (Gd.hero E seat).toNat v) = P := ⟨_, rfl⟩
  have hto2 : Hid (∀ v, P v → Md.IsRobot c E I seat v) := fun v hv => unhide hto v (by rw [← hP] at hv; exact hv)
  rw [hP] at ca
  obtain ⟨h, hh⟩ : ∃ h, Gd.hero E seat = h := ⟨_, rfl⟩
  rw [hh] at ch ca
  clear hL hc hcE hcC hE hg0 hrow hto hP hh
  unfold Gd.world at hw0 ca ⊢
  go_enter Tryz.func111, Tryz.ntmps111
  go_upto_region 1 with fail
  rw [← hw0]
  clear hw0
  obtain ⟨B, hB⟩ : ∃ B, w.heap.size = B := ⟨_, rfl⟩
  rw [hB] at hO ⊢
  clear hB
  have hdr := hide (grown_drew1 (World.grownBy.refl w0 none))
  have hL0 : Hid (∀ z, w0.grownBy z none → Gd.Lists z gC gE gI c E I) := fun z hz => (unhide hO).lists.on hz
  have hkeep : Hid (∀ z, w0.grownBy z none → (z.cell? ⟨B, 0, none⟩ = some (.int .i64 (s 0)) ∧ z.cell? ⟨B, 1, none⟩ = some (.int .i64 (s 1)) ∧ z.cell? ⟨B, 2, none⟩ = some (.int .i64 (s 2)) ∧ z.cell? ⟨B, 3, none⟩ = some (.int .i64 (s 3)) ∧ z.cell? ⟨B, 4, none⟩ = some (.slice (some ⟨gC, 0, none⟩) 384 cC) ∧ z.cell? ⟨B, 5, none⟩ = some (.slice (some ⟨gE, 0, none⟩) 32 cE) ∧ z.cell? ⟨B, 6, none⟩ = some (.slice (some ⟨gI, 0, none⟩) 40 cI) ∧ z.cell? ⟨B, 7, none⟩ = some (.int .i64 (g 0)) ∧ z.cell? ⟨B, 8, none⟩ = some (.int .i64 (g 1)) ∧ z.cell? ⟨B, 9, none⟩ = some (.int .i64 (g 2)) ∧ z.cell? ⟨B, 10, none⟩ = some (.int .i64 (g 3)))) := fun z hz => ((unhide hO).on hz).box.eleven
  have hS0 := unhide hkeep w0 (World.grownBy.refl _ none)
  go_region_held3 (fun z => z.cell? ⟨B, 0, none⟩ = some (.int .i64 (s 0)) ∧ z.cell? ⟨B, 1, none⟩ = some (.int .i64 (s 1)) ∧ z.cell? ⟨B, 2, none⟩ = some (.int .i64 (s 2)) ∧ z.cell? ⟨B, 3, none⟩ = some (.int .i64 (s 3)) ∧ z.cell? ⟨B, 4, none⟩ = some (.slice (some ⟨gC, 0, none⟩) 384 cC) ∧ z.cell? ⟨B, 5, none⟩ = some (.slice (some ⟨gE, 0, none⟩) 32 cE) ∧ z.cell? ⟨B, 6, none⟩ = some (.slice (some ⟨gI, 0, none⟩) 40 cI) ∧ z.cell? ⟨B, 7, none⟩ = some (.int .i64 (g 0)) ∧ z.cell? ⟨B, 8, none⟩ = some (.int .i64 (g 1)) ∧ z.cell? ⟨B, 9, none⟩ = some (.int .i64 (g 2)) ∧ z.cell? ⟨B, 10, none⟩ = some (.int .i64 (g 3))) (go_keep) (first
    | (go_at_call 68; refine (unhide ch _ (unhide hL0 _ (unhide hdr))).mono ?_; rintro e w1 ⟨rfl, hg⟩; have hg1 := hide (grown_trans (unhide hdr) hg); have hS1 := unhide hkeep _ (unhide hg1); clear hg)
    | (go_at_call 117; refine (unhide ca _ (unhide hL0 _ (unhide hg1))).mono ?_; rintro e w2 ⟨v, hv, rfl, hg⟩; have hg2 := hide (grown_trans (unhide hg1) hg); have hv' := hide hv; have hS2 := unhide hkeep _ (unhide hg2); clear hg hv))
  have hfin : Hid (Md.Says w (Md.IsRobot c E I seat) (.returned (.int .i64 v)) w2) := ⟨v, unhide hto2 v (unhide hv'), rfl, grown_trans (unhide hO).grown (unhide hg2)⟩
  clear hS0 hS1 hS2
  go_wp2
  go_ret
  exact unhide hfin

end Go.Proofs.YtbanjoflgoiegaaGreat

namespace Go.Proofs.YtbanjoflgoiegaaGreat
open Go.RowKit

def Cr.MoveTo (v : World) (P : Nat) (how inp : Nat → Int) (sp : Nat → Bool) (met : Bool) (s c : Nat → Int) (p : Cr.M → Prop) (e : Ending) (x : World) : Prop :=
  ∃ n : Cr.M, p n ∧ Cr.Goes v P how inp sp met n.left s n.g c n.E n.I e x

set_option maxRecDepth 8000 in
set_option maxHeartbeats 6400000 in
theorem cMove_any (v x : World) (P gC gE gI cC cE cI : Nat) (how inp : Nat → Int) (sp : Nat → Bool) (met left : Bool) (s g c : Nat → Int) (E I : Nat → Nat → Int) (t k : Nat) (h : Cr.Frm v x P gC gE gI cC cE cI how inp sp met left s g c E I) (hS : Cr.Sane c E I) (hG : Cr.Gold g) (ht : t < 4) (hk : k < 32) (hh : Gd.hero E (t : Int) = (k : Int)) (k1 : E k 0 = 1) (hst : ¬ 0 < E k 10) :
    Calls Tryz.prog 73 #[.pointer (some ⟨P, 0, none⟩), .int .i64 (t : Int), .int .i64 (k : Int)] x (Cr.MoveTo v P how inp sp met s c (Cr.Moved s c (t : Int) (how t) (inp t) ⟨g, E, I, left⟩)) := by
  have ht' : (t : Int) < 4 := by omega
  have hF := hide h
  have hSa := hide hS
  have hGo := hide hG
  have HK := hide (And.intro hk k1)
  obtain ⟨a0, a1, -⟩ := h.act ht
  have hyes : Hid (∀ u, (how t = 1 ∨ how t = 2) → (if how t = 2 then Md.IsRobot c E I (t : Int) u else u = inp t) → Cr.Moved s c (t : Int) (how t) (inp t) ⟨g, E, I, left⟩ (Cr.does s c ⟨g, E, I, left⟩ (t : Int) k u)) := fun u h1 h2 => (show _ by
    unfold Cr.Moved
    show if Gd.hero E (t : Int) < 0 ∨ 0 < E (Gd.hero E (t : Int)).toNat 10 ∨ (how t ≠ 1 ∧ how t ≠ 2) then _ else _
    rw [hh, Int.toNat_natCast, if_neg (by omega)]
    exact ⟨u, h2, rfl⟩)
  have hnot : Hid (how t ≠ 1 → how t ≠ 2 → Cr.Moved s c (t : Int) (how t) (inp t) ⟨g, E, I, left⟩ ⟨g, E, I, left⟩) := fun h1 h2 => (show _ by
    unfold Cr.Moved
    show if Gd.hero E (t : Int) < 0 ∨ 0 < E (Gd.hero E (t : Int)).toNat 10 ∨ (how t ≠ 1 ∧ how t ≠ 2) then _ else _
    rw [if_pos (.inr (.inr ⟨h1, h2⟩))])
  have cd := hide (fun u z (hz : Cr.Frm v z P gC gE gI cC cE cI how inp sp met left s g c E I) => cDo_any v z P gC gE gI cC cE cI how inp sp met left s g c E I t k u hz hS hG hk k1)
  have cr := hide (mindsRobot_any s g c E I gC gE gI cC cE cI (t : Int) x h.lists hS.fit.cells h.cap.1 h.cap.2 hS.good)
  obtain ⟨H, hH⟩ : ∃ H, how t = H := ⟨_, rfl⟩
  obtain ⟨N, hN⟩ : ∃ N, inp t = N := ⟨_, rfl⟩
  rw [hH] at a0 hyes hnot
  rw [hN] at a1 hyes hnot
  rw [hH, hN]
  obtain ⟨b0, b1, b2, b3, b4, b5, b6, b7, b8, b9, b10⟩ := h.eleven
  clear h hS hG hk hh k1 hst hH hN ht
  by_cases h2 : H = 2
  · subst h2
    unfold Gd.world at cr
    have hy2 : Hid (∀ u, Md.IsRobot c E I (t : Int) u → Cr.Moved s c (t : Int) 2 N ⟨g, E, I, left⟩ (Cr.does s c ⟨g, E, I, left⟩ (t : Int) k u)) := fun u h => unhide hyes u (.inr rfl) (by rw [if_pos rfl]; exact h)
    clear hnot hyes
    go_enter Tryz.func73, Tryz.ntmps73
    go_wp2_with fail
    refine (unhide cr).mono ?_
    rintro e w1 ⟨u, hu, rfl, hg⟩
    have hm := hide (unhide hy2 u hu)
    have cd' := hide (unhide cd u w1 ((unhide hF).on hg))
    clear hu hg cr cd hy2 b0 b1 b2 b3 b4 b5 b6 b7 b8 b9 b10 a0 a1 hF
    go_wp2_with fail
    refine (unhide cd').mono ?_
    rintro e w2 ⟨rfl, hfin⟩
    have hfin' := hide hfin
    clear hfin cd'
    go_wp2
    go_end0
    exact ⟨_, unhide hm, rfl, unhide hfin'⟩
  · have e2 : (H == 2) = false := by simpa using h2
    by_cases h1 : H = 1
    · subst h1
      have hm := hide (unhide hyes N (.inl rfl) (by rw [if_neg (by omega)]))
      have cd' := hide (unhide cd N x (unhide hF))
      clear cr cd hyes hnot b0 b1 b2 b3 b4 b5 b6 b7 b8 b9 b10 hF h2
      go_enter Tryz.func73, Tryz.ntmps73
      go_wp2_with fail
      refine (unhide cd').mono ?_
      rintro e w2 ⟨rfl, hfin⟩
      have hfin' := hide hfin
      clear hfin cd'
      go_wp2
      go_end0
      exact ⟨_, unhide hm, rfl, unhide hfin'⟩
    · have e1 : (H == 1) = false := by simpa using h1
      have hm := hide (unhide hnot h1 h2)
      clear cr cd hyes hnot b0 b1 b2 b3 b4 b5 b6 b7 b8 b9 b10 h1 h2
      go_enter Tryz.func73, Tryz.ntmps73
      go_wp2
      go_end0
      exact ⟨_, unhide hm, rfl, gC, gE, gI, cC, cE, cI, unhide hF⟩

set_option maxRecDepth 8000 in
set_option maxHeartbeats 6400000 in
theorem cAct_any (v x : World) (P gC gE gI cC cE cI : Nat) (how inp : Nat → Int) (sp : Nat → Bool) (met left : Bool) (s g c : Nat → Int) (E I : Nat → Nat → Int) (h : Cr.Frm v x P gC gE gI cC cE cI how inp sp met left s g c E I) (hS : Cr.Sane c E I) (hG : Cr.Gold g) :
    Calls Tryz.prog 30 #[.pointer (some ⟨P, 0, none⟩)] x (Cr.MoveTo v P how inp sp met s c (Cr.MovedTo s c how inp 4 ⟨g, E, I, left⟩)) := by
  have hF := hide h
  have hfit : Hid (∀ t n, Cr.MovedTo s c how inp t ⟨g, E, I, left⟩ n → Cr.MFit c n) := fun t n hn => Cr.MFit.movedTo (m := ⟨g, E, I, left⟩) ⟨hS, hG⟩ hn
  clear h hS hG
  go_enter Tryz.func30, Tryz.ntmps30
  go_wp2_with fail
  go_loopw [4] (fun v4 wr => ∃ (t g1 g2 g3 c1 c2 c3 : Nat) (m : Cr.M), t ≤ 4 ∧ v4 = .int .i64 (t : Int) ∧ Hid (Cr.MovedTo s c how inp t ⟨g, E, I, left⟩ m) ∧ Hid (Cr.Frm v wr P g1 g2 g3 c1 c2 c3 how inp sp met m.left s m.g c m.E m.I)) (fun v4 _ => 10 - (intOf v4).toNat)
  case atStart => exact ⟨0, gC, gE, gI, cC, cE, cI, ⟨g, E, I, left⟩, by omega, rfl, rfl, hF⟩
  case round =>
    clear hF
    obtain ⟨t, g1, g2, g3, c1, c2, c3, m, ht, rfl, hm, hF⟩ := hrel
    by_cases hlt : t < 4
    · have hlt' : (t : Int) < 4 := by omega
      have HL := hide hlt
      have hsn := hide (unhide hfit t m (unhide hm))
      obtain ⟨G, E, I, L⟩ := m
      have b5 := (unhide hF).eleven.2.2.2.2.2.1
      have ch := hero_any g2 32 c2 E (t : Int) wr (unhide hF).lists.own.ents (unhide hF).cap.1
      have hp := @Gd.hero_pos E (t : Int)
      change Calls _ _ _ _ (Says wr (.int .i64 (Gd.hero E (t : Int)))) at ch
      have hskip : Hid (∀ n, (Gd.hero E (t : Int) < 0 ∨ 0 < E (Gd.hero E (t : Int)).toNat 10) → n = ⟨G, E, I, L⟩ → Cr.MovedTo s c how inp (t + 1) _ n) := fun n h1 h2 => ⟨_, unhide hm, (show Cr.Moved s c (t : Int) (how t) (inp t) ⟨G, E, I, L⟩ n by unfold Cr.Moved; rw [if_pos (by rcases h1 with h | h; exact .inl h; exact .inr (.inl h))]; exact h2)⟩
      obtain ⟨z, hz⟩ : ∃ z, Gd.hero E (t : Int) = z := ⟨_, rfl⟩
      rw [hz] at ch hp hskip
      have ch' := hide ch
      have hp' := hide hp
      have hz' := hide hz
      clear hlt ht ch hp hz
      go_upto_region 4 with (go_at_call 68; refine (unhide ch').mono ?_; rintro e w1 ⟨rfl, hg1⟩)
      have hF1 := hide ((unhide hF).on hg1)
      clear hg1 ch' b5 hF
      by_cases h0 : 0 ≤ z
      · obtain ⟨k, hk, rfl, k2, k1⟩ := unhide hp' h0
        have hk' : (k : Int) < 32 := by omega
        have hge : (k : Int) ≥ 0 := by omega
        have HK := hide hk
        have HK1 := hide k1
        have b5 := (unhide hF1).eleven.2.2.2.2.2.1
        obtain ⟨r0, r1, r2, r3, r4, r5, r6, r7, r8, r9, r10⟩ := (unhide hF1).lists.own.ents.row hk
        have cs := hide (cIsStunned_any (E k) w1)
        obtain ⟨b, hb⟩ : ∃ b, decide (0 < E k 10) = b := ⟨_, rfl⟩
        rw [hb] at cs
        have hb' := hide hb
        unfold En.cells at cs
        clear hp' h0 hk k1 k2 hb
        go_wp2_with fail
        refine (unhide cs).mono ?_
        rintro e w2 ⟨rfl, hg2⟩
        have hF2 := hide ((unhide hF1).on hg2)
        clear hg2 cs b5 r0 r1 r2 r3 r4 r5 r6 r7 r8 r9 r10 hF1
        cases b
        · have cm := hide (cMove_any v w2 P g1 g2 g3 c1 c2 c3 how inp sp met L s G c E I t k (unhide hF2) (unhide hsn).1 (unhide hsn).2 (unhide HL) (unhide HK) (unhide hz') (unhide HK1) (of_decide_eq_false (unhide hb')))
          clear hskip
          go_wp2_with fail
          refine (unhide cm).mono ?_
          rintro e w3 ⟨n, hn, rfl, j1, j2, j3, d1, d2, d3, hF3⟩
          have hn' : Hid (Cr.MovedTo s c how inp (t + 1) _ n) := ⟨_, unhide hm, hn⟩
          have hF3' := hide hF3
          clear hn hF3 cm hF2
          go_wp2
          go_roundw
          case rel => exact ⟨t + 1, j1, j2, j3, d1, d2, d3, n, by have := unhide HL; omega, by go_num, hn', hF3'⟩
          case measure => simp [intOf]; have := unhide HL; omega
        · have hn' := hide (unhide hskip ⟨G, E, I, L⟩ (.inr (by rw [Int.toNat_natCast]; exact of_decide_eq_true (unhide hb'))) rfl)
          clear hskip
          go_wp2
          go_roundw
          case rel => exact ⟨t + 1, g1, g2, g3, c1, c2, c3, ⟨G, E, I, L⟩, by have := unhide HL; omega, by go_num, hn', hF2⟩
          case measure => simp [intOf]; have := unhide HL; omega
      · have hnge : ¬ z ≥ 0 := by omega
        have hn' := hide (unhide hskip ⟨G, E, I, L⟩ (.inl (by omega)) rfl)
        clear hskip hp' h0
        go_wp2
        go_roundw
        case rel => exact ⟨t + 1, g1, g2, g3, c1, c2, c3, ⟨G, E, I, L⟩, by have := unhide HL; omega, by go_num, hn', hF1⟩
        case measure => simp [intOf]; have := unhide HL; omega
    · obtain rfl : t = 4 := by omega
      have hge : ¬ ((4 : Nat) : Int) < 4 := by omega
      clear hlt ht
      go_wp2
      go_end0
      exact ⟨m, unhide hm, rfl, g1, g2, g3, c1, c2, c3, unhide hF⟩

end Go.Proofs.YtbanjoflgoiegaaGreat

namespace Go.Proofs.YtbanjoflgoiegaaGreat
open Go.RowKit

def Cr.HuntTo (v : World) (P : Nat) (how inp : Nat → Int) (sp : Nat → Bool) (met left : Bool) (s g c : Nat → Int) (E I : Nat → Nat → Int) (e : Ending) (x : World) : Prop :=
  ∃ F J, Cr.ProwlTo s c 32 E I F J ∧ Cr.Goes v P how inp sp met left s g c F J e x

set_option maxRecDepth 8000 in
set_option maxHeartbeats 6400000 in
theorem cHunt_any (v x : World) (P gC gE gI cC cE cI : Nat) (how inp : Nat → Int) (sp : Nat → Bool) (met left : Bool) (s g c : Nat → Int) (E I : Nat → Nat → Int) (h : Cr.Frm v x P gC gE gI cC cE cI how inp sp met left s g c E I) (hS : Cr.Sane c E I) :
    Calls Tryz.prog 31 #[.pointer (some ⟨P, 0, none⟩)] x (Cr.HuntTo v P how inp sp met left s g c E I) := by
  have hF := hide h
  have hsn : Hid (∀ i F J, i ≤ 32 → Cr.ProwlTo s c i E I F J → Cr.Sane c F J) := fun i F J hi hp => hS.prowlTo hi hp
  have b5 := h.eleven.2.2.2.2.2.1
  clear h hS
  go_enter Tryz.func31, Tryz.ntmps31
  go_wp2_with fail
  go_loopw [10] (fun v10 wr => ∃ (i g1 g2 g3 c1 c2 c3 : Nat) (F J : Nat → Nat → Int), i ≤ 32 ∧ v10 = .int .i64 (i : Int) ∧ Hid (Cr.ProwlTo s c i E I F J) ∧ Hid (Cr.Frm v wr P g1 g2 g3 c1 c2 c3 how inp sp met left s g c F J)) (fun v10 _ => 40 - (intOf v10).toNat)
  case atStart => exact ⟨0, gC, gE, gI, cC, cE, cI, E, I, by omega, rfl, ⟨rfl, rfl⟩, hF⟩
  case round =>
    clear hF b5
    obtain ⟨i, g1, g2, g3, c1, c2, c3, F, J, hi, rfl, hp, hF⟩ := hrel
    by_cases hlt : i < 32
    · have hlt' : (i : Int) < 32 := by omega
      have HL := hide hlt
      have hs := hide (unhide hsn i F J hi (unhide hp))
      obtain ⟨w0, hw0⟩ : ∃ w0, w0 = wr.alloc (.cells (En.cells (F i)) 54) := ⟨_, rfl⟩
      have hg0 : wr.grownBy w0 none := by rw [hw0]; exact World.grownBy_alloc _ _ _
      have hQ : Hid (Lie w0 wr.heap.size 54 11 (Ints (F i))) := by rw [hw0]; exact Lie.copied _ _ _
      have hF0 := hide ((unhide hF).on hg0)
      have b5 := (unhide hF).eleven.2.2.2.2.2.1
      obtain ⟨r0, r1, r2, r3, r4, r5, r6, r7, r8, r9, r10⟩ := (unhide hF).lists.own.ents.row hlt
      have cm := hide (cIsMonster_any (F i) w0)
      have hskip : Hid ((F i 0 = 0 ∨ F i 0 = 1 ∨ 0 < F i 10) → Cr.ProwlTo s c (i + 1) E I F J) := fun h1 => ⟨F, J, unhide hp, (show Cr.Prowls s c i F J F J by unfold Cr.Prowls; rw [if_pos h1]; exact ⟨rfl, rfl⟩)⟩
      have hgo : Hid (∀ u, ¬ (F i 0 = 0 ∨ F i 0 = 1 ∨ 0 < F i 10) → Md.IsMonster s c F (i : Int) u → Cr.ProwlTo s c (i + 1) E I (Cr.act s c F J i u true).1 (Cr.act s c F J i u true).2) := fun u h1 h2 => ⟨F, J, unhide hp, (show Cr.Prowls s c i F J _ _ by unfold Cr.Prowls; rw [if_neg h1]; exact ⟨u, h2, rfl, rfl⟩)⟩
      obtain ⟨bm, hbm⟩ : ∃ b, decide (F i 0 ≠ 0 ∧ F i 0 ≠ 1) = b := ⟨_, rfl⟩
      rw [hbm] at cm
      have hbm' := hide hbm
      unfold En.cells at hw0 cm
      clear hlt hi hg0 hF hbm
      go_upto_region 4 with fail
      rw [← hw0]
      clear hw0 b5 r0 r1 r2 r3 r4 r5 r6 r7 r8 r9 r10
      obtain ⟨Q, hQe⟩ : ∃ Q, wr.heap.size = Q := ⟨_, rfl⟩
      rw [hQe] at hQ ⊢
      clear hQe
      obtain ⟨q0, q1, q2, q3, q4, q5, q6, q7, q8, q9, q10⟩ := (unhide hQ).ent
      go_wp2_with fail
      refine (unhide cm).mono ?_
      rintro e w1 ⟨rfl, hg1⟩
      have hF1 := hide ((unhide hF0).on hg1)
      have hQ1 := hide ((unhide hQ).on hg1)
      clear hg1 cm q0 q1 q2 q3 q4 q5 q6 q7 q8 q9 q10 hF0 hQ
      cases bm
      · have hn' := hide (unhide hskip (by
          have h := of_decide_eq_false (unhide hbm')
          by_cases a : F i 0 = 0
          · exact .inl a
          · by_cases b : F i 0 = 1
            · exact .inr (.inl b)
            · exact absurd ⟨a, b⟩ h))
        clear hskip hgo
        go_wp2
        go_roundw
        case rel => exact ⟨i + 1, g1, g2, g3, c1, c2, c3, F, J, by have := unhide HL; omega, by go_num, hn', hF1⟩
        case measure => simp [intOf]; have := unhide HL; omega
      · have hm := hide (of_decide_eq_true (unhide hbm'))
        have cs := hide (cIsStunned_any (F i) w1)
        obtain ⟨b, hb⟩ : ∃ b, decide (0 < F i 10) = b := ⟨_, rfl⟩
        rw [hb] at cs
        have hb' := hide hb
        unfold En.cells at cs
        clear hb
        obtain ⟨q0, q1, q2, q3, q4, q5, q6, q7, q8, q9, q10⟩ := (unhide hQ1).ent
        go_wp2_with fail
        refine (unhide cs).mono ?_
        rintro e w2 ⟨rfl, hg2⟩
        have hF2 := hide ((unhide hF1).on hg2)
        clear hg2 cs q0 q1 q2 q3 q4 q5 q6 q7 q8 q9 q10 hF1 hQ1
        cases b
        · have hng : Hid (¬ (F i 0 = 0 ∨ F i 0 = 1 ∨ 0 < F i 10)) := (show ¬ (F i 0 = 0 ∨ F i 0 = 1 ∨ 0 < F i 10) by
            have h1 := unhide hm
            have h2 := of_decide_eq_false (unhide hb')
            omega)
          obtain ⟨b0, b1, b2, b3, b4, b5, b6, b7, b8, b9, b10⟩ := (unhide hF2).eleven
          have cmo := hide (mindsMonster_any s g c F J g1 g2 g3 c1 c2 c3 (i : Int) w2 (unhide hF2).lists (unhide hs).fit.cells (unhide hF2).cap.1 (unhide hs).good)
          unfold Gd.world at cmo
          clear hskip
          go_wp2_with fail
          refine (unhide cmo).mono ?_
          rintro e w3 ⟨u, hu, rfl, hg3⟩
          have hn' := hide (unhide hgo u (unhide hng) hu)
          have cw := cWalk_any v w3 P g1 g2 g3 c1 c2 c3 how inp sp met left s g c F J i u ((unhide hF2).on hg3) (unhide hs) (unhide HL) (unhide hm).1
          rw [show decide (F i 0 ≠ 1) = true from decide_eq_true (unhide hm).2] at cw
          have cw' := hide cw
          clear hu hg3 cmo b0 b1 b2 b3 b4 b5 b6 b7 b8 b9 b10 hF2 hgo cw
          go_wp2_with fail
          refine (unhide cw').mono ?_
          rintro e w4 ⟨rfl, j1, j2, j3, d1, d2, d3, hF3⟩
          have hF3' := hide hF3
          clear hF3 cw'
          go_wp2
          go_roundw
          case rel => exact ⟨i + 1, j1, j2, j3, d1, d2, d3, _, _, by have := unhide HL; omega, by go_num, hn', hF3'⟩
          case measure => simp [intOf]; have := unhide HL; omega
        · have hn' := hide (unhide hskip (.inr (.inr (of_decide_eq_true (unhide hb')))))
          clear hskip hgo
          go_wp2
          go_roundw
          case rel => exact ⟨i + 1, g1, g2, g3, c1, c2, c3, F, J, by have := unhide HL; omega, by go_num, hn', hF2⟩
          case measure => simp [intOf]; have := unhide HL; omega
    · obtain rfl : i = 32 := by omega
      have hge : ¬ ((32 : Nat) : Int) < 32 := by omega
      clear hlt hi
      go_wp2
      go_end0
      exact ⟨F, J, unhide hp, rfl, g1, g2, g3, c1, c2, c3, unhide hF⟩

end Go.Proofs.YtbanjoflgoiegaaGreat
