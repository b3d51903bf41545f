/-
  MindsNear MindsWander
-/
import Derived.Test.YtbanjoflgoiegaaGreatPart28
import Derived.Test.YtbanjoflgoiegaaGreatPart23
import Derived.Test.YtbanjoflgoiegaaGreatPart39
import Derived.BigQuiet
import Derived.Deep.Cut
import Derived.Deep.CutRange
import Derived.Deep.CutBlock
import Derived.Deep.RegionHeld3
import Derived.Test.YtbanjoflgoiegaaGreatPart05
namespace Go.Proofs.YtbanjoflgoiegaaGreat
open Go.RowKit

theorem Fx.root_nat : ∀ n : Nat, ∃ r : Nat, r * r ≤ n ∧ n < (r + 1) * (r + 1)
  | 0 => ⟨0, by omega, by omega⟩
  | n + 1 => by
    obtain ⟨r, h1, h2⟩ := Fx.root_nat n
    by_cases h : n + 1 < (r + 1) * (r + 1)
    · exact ⟨r, by omega, h⟩
    · refine ⟨r + 1, by omega, ?_⟩
      have h3 : (r + 1 + 1) * (r + 1 + 1) = (r + 1) * (r + 1) + (2 * r + 3) := by
        simp only [Nat.add_mul, Nat.mul_add, Nat.one_mul, Nat.mul_one]
        omega
      omega

theorem Fx.root_is (n : Int) (h : 0 ≤ n) : ∃ r, Fx.isRoot n r := by
  obtain ⟨r, h1, h2⟩ := Fx.root_nat n.toNat
  refine ⟨(r : Int), by omega, ?_, ?_⟩
  · have : ((r * r : Nat) : Int) ≤ n := by omega
    rwa [Int.natCast_mul] at this
  · have : n < (((r + 1) * (r + 1) : Nat) : Int) := by omega
    rw [Int.natCast_mul] at this
    exact this

theorem Md.square_pos (a b : Int) : 0 ≤ (a * a + b * b) * 65536 := by
  have sq : ∀ z : Int, 0 ≤ z * z := fun z => by
    rcases Int.le_total 0 z with h | h
    · exact Int.mul_nonneg h h
    · rw [← Int.neg_mul_neg]
      exact Int.mul_nonneg (by omega) (by omega)
  have h1 := sq a
  have h2 := sq b
  omega

def Md.NearSays (w : World) (c : Nat → Int) (E : Nat → Nat → Int) (x y : Int) (e : Ending) (w' : World) : Prop := ∃ b a, Md.Seen c E x y 4 b a ∧ (a = -1 ∨ ∃ h : Nat, h < 32 ∧ a = (h : Int) ∧ E h 0 = 1) ∧ e = .returned (.int .i64 a) ∧ w.grownBy w' none

def Md.Least (a b L : Int) : Prop := (a = -1 ∧ L = 1537) ∨ (0 ≤ a ∧ L = b ∧ b ≤ 1536)

set_option maxRecDepth 8000 in
set_option maxHeartbeats 12800000 in
theorem mNearest_any (s g c : Nat → Int) (E I : Nat → Nat → Int) (e : Nat → Int) (gC gE gI cC cE cI : Nat) (w : World) (hL : Gd.Lists w gC gE gI c E I) (hc : ∀ i, 0 ≤ c i ∧ c i ≤ 255) (hcE : 32 ≤ cE) (hE : Md.Fine E) (x0 : 0 ≤ e 3) (x9 : e 3 < 24) (y0 : 0 ≤ e 4) (y9 : e 4 < 16) :
    Calls Tryz.prog 212 #[.agg (Gd.world s gC gE gI cC cE cI g), .agg (En.cells e)] w (Md.NearSays w c E (e 3) (e 4)) := by
  obtain ⟨wz, hwz⟩ : ∃ wz, wz = w.alloc (.cells (Gd.world s gC gE gI cC cE cI g) 30) := ⟨_, rfl⟩
  obtain ⟨w0, hw0⟩ : ∃ w0, w0 = wz.alloc (.cells (En.cells e) 54) := ⟨_, rfl⟩
  have hgz : w.grownBy wz none := by rw [hwz]; exact World.grownBy_alloc _ _ _
  have hg0 : wz.grownBy w0 none := by rw [hw0]; exact World.grownBy_alloc _ _ _
  have hO : Hid (Gd.Shown w w0 w.heap.size gC gE gI cC cE cI s g c E I) := by
    refine ⟨?_, hL.on (grown_trans hgz hg0), grown_trans hgz hg0⟩
    refine Lie.on ?_ hg0
    rw [hwz]
    exact (Arr.world (heap_alloc_new w _)).lie
  have hQ : Hid (Lie w0 wz.heap.size 54 11 (Ints e)) := by rw [hw0]; exact Lie.copied _ _ _
  have hsz : wz.heap.size = w.heap.size + 1 := by rw [hwz]; simp
  have hc' := hide hc
  have hcE' := hide hcE
  have hE' := hide hE
  have hxy := hide (show (0 ≤ e 3 ∧ e 3 < 24) ∧ 0 ≤ e 4 ∧ e 4 < 16 from ⟨⟨x0, x9⟩, y0, y9⟩)
  rw [hsz] at hQ
  clear hL hc hcE hE hg0 hgz x0 x9 y0 y9 hsz
  unfold Gd.world at hwz ⊢
  unfold En.cells at hw0 ⊢
  rw [hwz] at hw0
  clear hwz
  go_enter Tryz.func212, Tryz.ntmps212
  go_upto_region 1 with fail
  rw [← hw0]
  clear hw0
  obtain ⟨B, hB⟩ : ∃ B, w.heap.size = B := ⟨_, rfl⟩
  rw [hB] at hO hQ ⊢
  clear hB
  obtain ⟨Q, hQe⟩ : ∃ Q, B + 1 = Q := ⟨_, rfl⟩
  rw [hQe] at hQ ⊢
  clear hQe
  go_wp2_with fail
  go_loopw [5, 6, 7, 8, 9, 10] (fun v5 v6 _ _ _ v10 wr => ∃ (t : Nat) (b a L : Int), t ≤ 4 ∧ v5 = .int .i64 a ∧ v6 = .int .i64 L ∧ v10 = .int .i64 (t : Int) ∧ Hid (Md.Seen c E (e 3) (e 4) t b a) ∧ Hid (Md.Least a b L) ∧ Hid (a = -1 ∨ ∃ h : Nat, h < 32 ∧ a = (h : Int) ∧ E h 0 = 1) ∧ Hid (Gd.Shown w wr B gC gE gI cC cE cI s g c E I) ∧ Hid (Lie wr Q 54 11 (Ints e))) (fun _ _ _ _ _ v10 _ => 10 - (intOf v10).toNat)
  case atStart => exact ⟨0, 0, -1, 1537, by omega, rfl, rfl, rfl, ⟨rfl, rfl⟩, .inl ⟨rfl, rfl⟩, .inl rfl, hO, hQ⟩
  case round =>
    clear hO hQ
    obtain ⟨t, b, a, L, ht, rfl, rfl, rfl, hSeen, hLst, hAt, hO, hQ⟩ := hrel
    by_cases hlt : t < 4
    · have hlt' : (t : Int) < 4 := by omega
      have HT := hide hlt
      have q5 := (unhide hO).box.eleven.2.2.2.2.2.1
      have ch : Hid (Calls Tryz.prog 68 #[.slice (some ⟨gE, 0, none⟩) 32 cE, .int .i64 (t : Int)] wr (Says wr (.int .i64 (Gd.hero E (t : Int))))) := hero_any gE 32 cE E (t : Int) wr (unhide hO).lists.own.ents (unhide hcE')
      have hrow := hide (@Md.hero_row E (t : Int))
      obtain ⟨h0, hh⟩ : ∃ h, Gd.hero E (t : Int) = h := ⟨_, rfl⟩
      have hh' := hide hh
      rw [hh] at ch
      clear hh hlt ht
      go_wp2_with fail
      refine (unhide ch).mono ?_
      rintro x w3 ⟨rfl, hg⟩
      have hO3 := hide ((unhide hO).on hg)
      have hQ3 := hide ((unhide hQ).on hg)
      clear hg ch q5 hO hQ
      by_cases hneg : h0 < 0
      · have hs2 : Hid (Md.Seen c E (e 3) (e 4) (t + 1) b a) := ⟨b, a, unhide hSeen, .inl ⟨by rw [unhide hh']; exact hneg, rfl, rfl⟩⟩
        clear hrow hh'
        go_wp2_with fail
        go_quiet (fail)
        go_wp2
        go_roundw
        case rel => exact ⟨t + 1, b, a, L, by have := unhide HT; omega, rfl, rfl, by go_num, hs2, hLst, hAt, (unhide hO3).on (grown_drew (World.grownBy.refl _ none) _), (unhide hQ3).on (grown_drew (World.grownBy.refl _ none) _)⟩
        case measure => simp [intOf]; have := unhide HT; omega
      obtain ⟨h, hh32, hhe, hk1, -⟩ := unhide hrow (by rw [unhide hh']; omega)
      obtain rfl : h0 = (h : Int) := by rw [← unhide hh']; exact hhe
      obtain ⟨p0, p9, r0, r9, -, -⟩ := unhide hE' h hh32 (by omega)
      have HH := hide (show h < 32 ∧ E h 0 = 1 from ⟨hh32, hk1⟩)
      have hh3 : (h : Int) < 32 := by omega
      have hneg' : ¬ (h : Int) < 0 := by omega
      have HP := hide (show (0 ≤ E h 3 ∧ E h 3 < 24) ∧ 0 ≤ E h 4 ∧ E h 4 < 16 from ⟨⟨p0, p9⟩, r0, r9⟩)
      clear hrow hhe hk1 hneg hh32 p0 p9 r0 r9
      have cs := hide (fun z (hz : w3.grownBy z none) => sees_any (some ⟨gC, 0, none⟩) 384 cC c (e 3) (e 4) (E h 3) (E h 4) z ((unhide hO3).lists.on hz).vec (unhide hc'))
      have hdr := hide (grown_drew1 (World.grownBy.refl w3 none))
      have hkeep : Hid (∀ z, w3.grownBy z none → (z.cell? ⟨B, 4, none⟩ = some (.slice (some ⟨gC, 0, none⟩) 384 cC) ∧ z.cell? ⟨B, 5, none⟩ = some (.slice (some ⟨gE, 0, none⟩) 32 cE) ∧ z.cell? ⟨Q, 3, none⟩ = some (.int .i64 (e 3)) ∧ z.cell? ⟨Q, 4, none⟩ = some (.int .i64 (e 4)) ∧ z.cell? ⟨gE, h * 11 + 3, none⟩ = some (.int .i64 (E h 3)) ∧ z.cell? ⟨gE, h * 11 + 4, none⟩ = some (.int .i64 (E h 4)))) := fun z hz => by
        have hO5 := (unhide hO3).on hz
        have hQ5 := ((unhide hQ3).on hz).elevenInts
        have hr := hO5.lists.own.ents.row (unhide HH).1
        exact ⟨hO5.box.eleven.2.2.2.2.1, hO5.box.eleven.2.2.2.2.2.1, hQ5.2.2.2.1, hQ5.2.2.2.2.1, hr.2.2.2.1, hr.2.2.2.2.1⟩
      have hS0 := unhide hkeep w3 (World.grownBy.refl _ none)
      go_upto_region 6 with fail
      go_region_held3 (fun z => z.cell? ⟨B, 4, none⟩ = some (.slice (some ⟨gC, 0, none⟩) 384 cC) ∧ z.cell? ⟨B, 5, none⟩ = some (.slice (some ⟨gE, 0, none⟩) 32 cE) ∧ z.cell? ⟨Q, 3, none⟩ = some (.int .i64 (e 3)) ∧ z.cell? ⟨Q, 4, none⟩ = some (.int .i64 (e 4)) ∧ z.cell? ⟨gE, h * 11 + 3, none⟩ = some (.int .i64 (E h 3)) ∧ z.cell? ⟨gE, h * 11 + 4, none⟩ = some (.int .i64 (E h 4))) (go_keep) (first
        | (go_at_call 216; refine (unhide cs _ (unhide hdr)).mono ?_; rintro x w5 ⟨sb, rfl, hsb, hg⟩; have hg5 := hide (grown_trans (unhide hdr) (below_grown hg)); have hsb' := hide hsb; have hS1 := unhide hkeep _ (unhide hg5); clear hg hsb))
      have hO5 := hide ((unhide hO3).on (unhide hg5))
      have hQ5 := hide ((unhide hQ3).on (unhide hg5))
      clear hS0 hS1 hkeep hdr cs hO3 hQ3 hg5
      rw [decide_eq_false (show ¬ (h : Int) < 0 by omega), Bool.false_or]
      cases sb
      · have hs2 : Hid (Md.Seen c E (e 3) (e 4) (t + 1) b a) := by
          obtain ⟨r, hr⟩ := Fx.root_is _ (Md.square_pos (E h 3 - e 3) (E h 4 - e 4))
          exact ⟨b, a, unhide hSeen, .inr ⟨h, r, unhide hh', hr, .inr ⟨fun hT => absurd ((unhide hsb').2 hT.2.1) (by simp), rfl, rfl⟩⟩⟩
        clear hh' hsb'
        go_wp2
        go_roundw
        case rel => exact ⟨t + 1, b, a, L, by have := unhide HT; omega, rfl, rfl, by go_num, hs2, hLst, hAt, hO5, hQ5⟩
        case measure => simp [intOf]; have := unhide HT; omega
      · obtain ⟨r1, r2, hsub, R1, R2⟩ := mLess e (E h) (unhide hxy).1.1 (unhide hxy).1.2 (unhide hxy).2.1 (unhide hxy).2.2 (unhide HP).1.1 (unhide HP).1.2 (unhide HP).2.1 (unhide HP).2.2
        have cq : Hid (∀ wq, Calls Tryz.prog 218 #[.complex .f64 r1 r2] wq fun x w' => x = .returned (.tuple #[.int .i64 (E h 3 - e 3), .int .i64 (E h 4 - e 4)]) ∧ w' = wq) := fun wq => by
          have h1 := unhide hxy
          have h2 := unhide HP
          exact mParts_any r1 r2 _ _ wq R1 R2 (by omega) (by omega) (by omega) (by omega)
        have cd : Hid (∀ wq, Calls Tryz.prog 217 #[.int .i64 (E h 3 - e 3), .int .i64 (E h 4 - e 4)] wq fun x w' => ∃ r, x = .returned (.int .i64 r) ∧ Fx.isRoot (((E h 3 - e 3) * (E h 3 - e 3) + (E h 4 - e 4) * (E h 4 - e 4)) * 65536) r ∧ w' = wq) := fun wq => by
          have h1 := unhide hxy
          have h2 := unhide HP
          exact dist_any _ _ wq (by omega) (by omega) (by omega) (by omega)
        have cp := hide mPlace_at
        have hdr := hide (grown_drew1 (World.grownBy.refl w5 none))
        have hkeep : Hid (∀ z, w5.grownBy z none → (z.cell? ⟨B, 5, none⟩ = some (.slice (some ⟨gE, 0, none⟩) 32 cE) ∧ z.cell? ⟨gE, h * 11, none⟩ = some (.int .i64 (E h 0)) ∧ z.cell? ⟨gE, h * 11 + 1, none⟩ = some (.int .i64 (E h 1)) ∧ z.cell? ⟨gE, h * 11 + 2, none⟩ = some (.int .i64 (E h 2)) ∧ z.cell? ⟨gE, h * 11 + 3, none⟩ = some (.int .i64 (E h 3)) ∧ z.cell? ⟨gE, h * 11 + 4, none⟩ = some (.int .i64 (E h 4)) ∧ z.cell? ⟨gE, h * 11 + 5, none⟩ = some (.int .i64 (E h 5)) ∧ z.cell? ⟨gE, h * 11 + 6, none⟩ = some (.int .i64 (E h 6)) ∧ z.cell? ⟨gE, h * 11 + 7, none⟩ = some (.int .i64 (E h 7)) ∧ z.cell? ⟨gE, h * 11 + 8, none⟩ = some (.int .i64 (E h 8)) ∧ z.cell? ⟨gE, h * 11 + 9, none⟩ = some (.int .i64 (E h 9)) ∧ z.cell? ⟨gE, h * 11 + 10, none⟩ = some (.int .i64 (E h 10)) ∧ z.cell? ⟨Q, 0, none⟩ = some (.int .i64 (e 0)) ∧ z.cell? ⟨Q, 1, none⟩ = some (.int .i64 (e 1)) ∧ z.cell? ⟨Q, 2, none⟩ = some (.int .i64 (e 2)) ∧ z.cell? ⟨Q, 3, none⟩ = some (.int .i64 (e 3)) ∧ z.cell? ⟨Q, 4, none⟩ = some (.int .i64 (e 4)) ∧ z.cell? ⟨Q, 5, none⟩ = some (.int .i64 (e 5)) ∧ z.cell? ⟨Q, 6, none⟩ = some (.int .i64 (e 6)) ∧ z.cell? ⟨Q, 7, none⟩ = some (.int .i64 (e 7)) ∧ z.cell? ⟨Q, 8, none⟩ = some (.int .i64 (e 8)) ∧ z.cell? ⟨Q, 9, none⟩ = some (.int .i64 (e 9)) ∧ z.cell? ⟨Q, 10, none⟩ = some (.int .i64 (e 10)))) := fun z hz => by
          have hO6 := (unhide hO5).on hz
          have hQ6 := ((unhide hQ5).on hz).elevenInts
          have hr := hO6.lists.own.ents.row (unhide HH).1
          obtain ⟨u0, u1, u2, u3, u4, u5, u6, u7, u8, u9, u10⟩ := hr
          exact ⟨hO6.box.eleven.2.2.2.2.2.1, u0, u1, u2, u3, u4, u5, u6, u7, u8, u9, u10, hQ6⟩
        have hS0 := unhide hkeep w5 (World.grownBy.refl _ none)
        clear R1 R2
        go_upto_region 7 with fail
        go_region_held3 (fun z => z.cell? ⟨B, 5, none⟩ = some (.slice (some ⟨gE, 0, none⟩) 32 cE) ∧ z.cell? ⟨gE, h * 11, none⟩ = some (.int .i64 (E h 0)) ∧ z.cell? ⟨gE, h * 11 + 1, none⟩ = some (.int .i64 (E h 1)) ∧ z.cell? ⟨gE, h * 11 + 2, none⟩ = some (.int .i64 (E h 2)) ∧ z.cell? ⟨gE, h * 11 + 3, none⟩ = some (.int .i64 (E h 3)) ∧ z.cell? ⟨gE, h * 11 + 4, none⟩ = some (.int .i64 (E h 4)) ∧ z.cell? ⟨gE, h * 11 + 5, none⟩ = some (.int .i64 (E h 5)) ∧ z.cell? ⟨gE, h * 11 + 6, none⟩ = some (.int .i64 (E h 6)) ∧ z.cell? ⟨gE, h * 11 + 7, none⟩ = some (.int .i64 (E h 7)) ∧ z.cell? ⟨gE, h * 11 + 8, none⟩ = some (.int .i64 (E h 8)) ∧ z.cell? ⟨gE, h * 11 + 9, none⟩ = some (.int .i64 (E h 9)) ∧ z.cell? ⟨gE, h * 11 + 10, none⟩ = some (.int .i64 (E h 10)) ∧ z.cell? ⟨Q, 0, none⟩ = some (.int .i64 (e 0)) ∧ z.cell? ⟨Q, 1, none⟩ = some (.int .i64 (e 1)) ∧ z.cell? ⟨Q, 2, none⟩ = some (.int .i64 (e 2)) ∧ z.cell? ⟨Q, 3, none⟩ = some (.int .i64 (e 3)) ∧ z.cell? ⟨Q, 4, none⟩ = some (.int .i64 (e 4)) ∧ z.cell? ⟨Q, 5, none⟩ = some (.int .i64 (e 5)) ∧ z.cell? ⟨Q, 6, none⟩ = some (.int .i64 (e 6)) ∧ z.cell? ⟨Q, 7, none⟩ = some (.int .i64 (e 7)) ∧ z.cell? ⟨Q, 8, none⟩ = some (.int .i64 (e 8)) ∧ z.cell? ⟨Q, 9, none⟩ = some (.int .i64 (e 9)) ∧ z.cell? ⟨Q, 10, none⟩ = some (.int .i64 (e 10))) (go_keep) (first
          | (go_at_call 219; refine (unhide cp _ _ _ _ _ _ _ _ _ _ _ _).mono ?_; rintro x w7 ⟨rfl, hg⟩; have hg7 := hide (grown_trans (unhide hdr) hg); have hS7 := unhide hkeep _ (unhide hg7); clear hg)
          | (go_at_call 219; refine (unhide cp _ _ _ _ _ _ _ _ _ _ _ _).mono ?_; rintro x w8 ⟨rfl, hg⟩; have hg8 := hide (grown_trans (unhide hg7) hg); have hS8 := unhide hkeep _ (unhide hg8); clear hg)
          | (go_at_call 218; refine (unhide cq _).mono ?_; rintro x wy ⟨rfl, hw⟩; subst wy)
          | (go_at_call 217; refine (unhide cd _).mono ?_; rintro x wy ⟨r, rfl, hr, hw⟩; subst wy; have hr' := hide hr; clear hr))
        have hO6 := hide ((unhide hO5).on (unhide hg8))
        have hQ6 := hide ((unhide hQ5).on (unhide hg8))
        clear hS0 hS7 hS8 hkeep hdr cq cd cp hsub hO5 hQ5 hg7 hg8
        by_cases hrl : r < L
        · have hs2 : Hid (Md.Seen c E (e 3) (e 4) (t + 1) r (h : Int)) := ⟨b, a, unhide hSeen, .inr ⟨h, r, unhide hh', unhide hr', .inl ⟨⟨by have h1 : (a = -1 ∧ L = 1537) ∨ (0 ≤ a ∧ L = b ∧ b ≤ 1536) := unhide hLst; omega, (by first | exact (unhide hsb').1 rfl | exact (unhide hsb').1 trivial | exact unhide hsb'), by have h1 : (a = -1 ∧ L = 1537) ∨ (0 ≤ a ∧ L = b ∧ b ≤ 1536) := unhide hLst; omega⟩, rfl, rfl⟩⟩⟩
          have hL2 : Hid (Md.Least (h : Int) r r) := .inr ⟨by omega, rfl, by have h1 : (a = -1 ∧ L = 1537) ∨ (0 ≤ a ∧ L = b ∧ b ≤ 1536) := unhide hLst; omega⟩
          have hA2 : Hid ((h : Int) = -1 ∨ ∃ h' : Nat, h' < 32 ∧ (h : Int) = (h' : Int) ∧ E h' 0 = 1) := .inr ⟨h, (unhide HH).1, rfl, (unhide HH).2⟩
          clear hh' hsb' hr'
          go_wp2
          go_roundw
          case rel => exact ⟨t + 1, r, (h : Int), r, by have := unhide HT; omega, rfl, rfl, by go_num, hs2, hL2, hA2, hO6, hQ6⟩
          case measure => simp [intOf]; have := unhide HT; omega
        · have hs2 : Hid (Md.Seen c E (e 3) (e 4) (t + 1) b a) := ⟨b, a, unhide hSeen, .inr ⟨h, r, unhide hh', unhide hr', .inr ⟨fun hT => by
            have h1 : (a = -1 ∧ L = 1537) ∨ (0 ≤ a ∧ L = b ∧ b ≤ 1536) := unhide hLst
            have h2 := hT.1
            have h3 := hT.2.2
            omega, rfl, rfl⟩⟩⟩
          clear hh' hsb' hr'
          go_wp2
          go_roundw
          case rel => exact ⟨t + 1, b, a, L, by have := unhide HT; omega, rfl, rfl, by go_num, hs2, hLst, hAt, hO6, hQ6⟩
          case measure => simp [intOf]; have := unhide HT; omega
    · obtain rfl : t = 4 := by omega
      have hge : ¬ ((4 : Nat) : Int) < 4 := by omega
      have hfin : Hid (Md.NearSays w c E (e 3) (e 4) (.returned (.int .i64 a)) wr) := ⟨b, a, unhide hSeen, unhide hAt, rfl, (unhide hO).grown⟩
      clear hlt ht
      go_wp2
      go_ret
      exact unhide hfin

end Go.Proofs.YtbanjoflgoiegaaGreat

namespace Go.Proofs.YtbanjoflgoiegaaGreat
open Go.RowKit

set_option maxRecDepth 8000 in
set_option maxHeartbeats 12800000 in
theorem mWander_any (s g c : Nat → Int) (E I : Nat → Nat → Int) (gC gE gI cC cE cI k : Nat) (w : World) (hL : Gd.Lists w gC gE gI c E I) (hc : ∀ i, 0 ≤ c i ∧ c i ≤ 255) (hcE : 32 ≤ cE) (hE : Md.Fine E) (hk : k < 32) (hk0 : E k 0 ≠ 0) :
    Calls Tryz.prog 213 #[.agg (Gd.world s gC gE gI cC cE cI g), .int .i64 (k : Int)] w (Says w (.int .i64 (Md.stray s c E k))) := by
  obtain ⟨w0, hw0⟩ : ∃ w0, w0 = w.alloc (.cells (Gd.world s gC gE gI cC cE cI g) 30) := ⟨_, rfl⟩
  have hg0 : w.grownBy w0 none := by rw [hw0]; exact World.grownBy_alloc _ _ _
  have hO : Hid (Gd.Shown w w0 w.heap.size gC gE gI cC cE cI s g c E I) := by
    refine ⟨?_, hL.on hg0, hg0⟩
    rw [hw0]
    exact (Arr.world (heap_alloc_new w _)).lie
  obtain ⟨x0, x9, y0, y9, -, -⟩ := hE k hk hk0
  have hc' := hide hc
  have hcE' := hide hcE
  have HK := hide hk
  have hk' : (k : Int) < 32 := by omega
  have hst : Hid (Md.stray s c E k = if (1 ≤ Dc.die 8 (s 0) [s 1, (k : Int), 90] ∧ Dc.die 8 (s 0) [s 1, (k : Int), 90] ≤ 4) ∧ Gr.walkB (Gr.at 384 c (E k 3 + (Fx.way (Dc.die 8 (s 0) [s 1, (k : Int), 90])).1) (E k 4 + (Fx.way (Dc.die 8 (s 0) [s 1, (k : Int), 90])).2)) = true ∧ En.first (En.atQ E (E k 3 + (Fx.way (Dc.die 8 (s 0) [s 1, (k : Int), 90])).1) (E k 4 + (Fx.way (Dc.die 8 (s 0) [s 1, (k : Int), 90])).2)) 32 < 0 then Dc.die 8 (s 0) [s 1, (k : Int), 90] else 0) := rfl
  have cd : Hid (Calls Tryz.prog 160 #[.int .i64 8, .int .i64 (s 0), .slice (some ⟨w0.heap.size, 0, none⟩) 3 3] (w0.alloc (.cells #[.int .i64 (s 1), .int .i64 (k : Int), .int .i64 90] 3)) fun e w' => e = .returned (.int .i64 (Dc.die 8 (s 0) [s 1, (k : Int), 90])) ∧ w' = w0.alloc (.cells #[.int .i64 (s 1), .int .i64 (k : Int), .int .i64 90] 3)) := die_row 8 (s 0) _ 3 3 _ _ (Row.three w0 (s 1) (k : Int) 90 3) (by omega)
  have hOd := hide ((unhide hO).on (World.grownBy_alloc w0 (.cells #[.int .i64 (s 1), .int .i64 (k : Int), .int .i64 90] 3) none))
  obtain ⟨d, hd⟩ : ∃ d, Dc.die 8 (s 0) [s 1, (k : Int), 90] = d := ⟨_, rfl⟩
  rw [hd] at hst cd
  obtain ⟨S, hS⟩ : ∃ S, Md.stray s c E k = S := ⟨_, rfl⟩
  rw [hS] at hst ⊢
  clear hL hc hcE hE hg0 hk hk0 hd hS
  unfold Gd.world at hw0 ⊢
  go_enter Tryz.func213, Tryz.ntmps213
  go_upto_region 1 with fail
  rw [← hw0]
  clear hw0
  obtain ⟨B, hB⟩ : ∃ B, w.heap.size = B := ⟨_, rfl⟩
  rw [hB] at hO hOd ⊢
  clear hB
  have q0 := (unhide hO).box.eleven.1
  have q1 := (unhide hO).box.eleven.2.1
  go_wp2_with fail
  refine (unhide cd).mono ?_
  rintro x wy ⟨rfl, hw⟩
  subst hw
  clear cd q0 q1 hO
  generalize w0.alloc (.cells #[.int .i64 (s 1), .int .i64 (k : Int), .int .i64 90] 3) = w1 at hOd ⊢
  by_cases h1 : d < 1
  · have hS0 : Hid (S = 0) := (show S = 0 by rw [unhide hst, if_neg (by omega)])
    clear hst
    go_wp2
    go_ret
    exact ⟨ret_int (unhide hS0).symm, (unhide hOd).grown⟩
  by_cases h4 : d > 4
  · have hS0 : Hid (S = 0) := (show S = 0 by rw [unhide hst, if_neg (by omega)])
    clear hst
    go_wp2
    go_ret
    exact ⟨ret_int (unhide hS0).symm, (unhide hOd).grown⟩
  have hd14 := hide (show 1 ≤ d ∧ d ≤ 4 by omega)
  have wb := Fx.way_bd d
  have ca := hide (fun wq => mAhead_any (E k) d wq x0 x9 y0 y9)
  unfold En.cells at ca
  obtain ⟨X, hX⟩ : ∃ X, E k 3 + (Fx.way d).1 = X := ⟨_, rfl⟩
  obtain ⟨Y, hY⟩ : ∃ Y, E k 4 + (Fx.way d).2 = Y := ⟨_, rfl⟩
  have hb : (-1 ≤ X ∧ X ≤ 24) ∧ -1 ≤ Y ∧ Y ≤ 16 := by omega
  rw [hX, hY] at ca hst
  have hb' := hide hb
  clear hX hY wb x0 x9 y0 y9 hb
  have q5 := (unhide hOd).box.eleven.2.2.2.2.2.1
  obtain ⟨u0, u1, u2, u3, u4, u5, u6, u7, u8, u9, u10⟩ := (unhide hOd).lists.own.ents.row (unhide HK)
  go_wp2_with fail
  refine (unhide ca _).mono ?_
  rintro x w2 ⟨⟨a, b, rfl, Ra, Rb⟩, hg⟩
  have hO2 := hide ((unhide hOd).on hg)
  have cp : Hid (∀ wq, Calls Tryz.prog 218 #[.complex .f64 a b] wq fun e w' => e = .returned (.tuple #[.int .i64 X, .int .i64 Y]) ∧ w' = wq) := fun wq => mParts_any a b X Y wq Ra Rb (by have := unhide hb'; omega) (by have := unhide hb'; omega) (by have := unhide hb'; omega) (by have := unhide hb'; omega)
  clear Ra Rb hg q5 u0 u1 u2 u3 u4 u5 u6 u7 u8 u9 u10 ca hOd
  go_wp2_with fail
  refine (unhide cp _).mono ?_
  rintro x wy ⟨rfl, hw⟩
  subst wy
  clear cp
  have q4 := (unhide hO2).box.eleven.2.2.2.2.1
  have q5 := (unhide hO2).box.eleven.2.2.2.2.2.1
  have cg := hide (at_any w2.heap.size (some ⟨gC, 0, none⟩) 384 cC c X Y w2 (unhide hO2).lists.vec (unhide hc'))
  have ce := hide (entAt_any gE 32 cE E X Y w2 (unhide hO2).lists.own.ents (unhide hcE'))
  obtain ⟨A, hA⟩ : ∃ A, Gr.at 384 c X Y = A := ⟨_, rfl⟩
  obtain ⟨z, hz⟩ : ∃ z, En.first (En.atQ E X Y) 32 = z := ⟨_, rfl⟩
  have ck := hide (fun wq => walk_any A wq)
  obtain ⟨wk, hwk⟩ : ∃ wk, Gr.walkB A = wk := ⟨_, rfl⟩
  rw [hA] at cg hst
  rw [hz] at ce hst
  rw [hwk] at ck hst
  clear hA hz hwk
  go_wp2_with fail
  refine (unhide cg).mono ?_
  rintro x wy ⟨rfl, hw⟩
  subst wy
  go_wp2_with fail
  refine (unhide ck _).mono ?_
  rintro x wy ⟨rfl, hw⟩
  subst wy
  clear cg ck
  cases wk
  · have hS0 : Hid (S = 0) := (show S = 0 by rw [unhide hst, if_neg (by simp)])
    clear hst
    go_wp2
    go_ret
    exact ⟨ret_int (unhide hS0).symm, (unhide hO2).grown⟩
  go_wp2_with fail
  refine (unhide ce).mono ?_
  rintro x w3 ⟨rfl, hg⟩
  have hg3 := hide (grown_trans (unhide hO2).grown hg)
  clear hg ce q4 q5
  by_cases hz0 : z < 0
  · have hS0 : Hid (S = d) := (show S = d by rw [unhide hst, if_pos ⟨unhide hd14, by first | rfl | trivial, hz0⟩])
    have hz1 : ¬ z ≥ 0 := by omega
    clear hst
    go_wp2
    go_ret
    exact ⟨ret_int (unhide hS0).symm, unhide hg3⟩
  · have hS0 : Hid (S = 0) := (show S = 0 by rw [unhide hst, if_neg (by omega)])
    have hz1 : z ≥ 0 := by omega
    clear hst
    go_wp2
    go_ret
    exact ⟨ret_int (unhide hS0).symm, unhide hg3⟩

end Go.Proofs.YtbanjoflgoiegaaGreat
